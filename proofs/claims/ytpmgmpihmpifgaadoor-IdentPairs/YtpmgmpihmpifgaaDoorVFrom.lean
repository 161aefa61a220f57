/-
  What From answers.
-/
import Derived.Test.YtpmgmpihmpifgaaDoorVKey
import Derived.Test.YtpmgmpihmpifgaaDoorVLow
import Derived.BigRegion
import Derived.ChangeKeysEq
namespace Go.Proofs.YtpmgmpihmpifgaaDoor.Cv
open Go.RowKit
set_option maxRecDepth 100000

theorem mask7 (a : Int) (h : 0 ≤ a ∧ a < 256) : bits .and .u8 a 127 = a % 128 := by
  obtain ⟨n, rfl⟩ := Int.eq_ofNat_of_zero_le h.1
  have : ∀ n : Fin 256, bits .and .u8 (n.val : Int) 127 = (n.val : Int) % 128 := by decide +kernel
  exact this ⟨n, by omega⟩

theorem index_kc (l : List Int) (i : Nat) (hi : i < 32) (hl : l.length = 32) (w : World) : (Instr.index 25 (.agg (kc l)) (.int .i64 i)).run Tryd.prog w = .ok (.int .u8 (l.getD i 0)) w := by
  have he : (kc l)[i]? = some (.int .u8 (l.getD i 0)) := by simp [kc, List.getD, List.getElem?_eq_getElem (show i < l.length by omega)]
  simp [Instr.index, run_underlying Tryd.underlying25, asIntOf, hi, go_sem]
  rw [he]
  simp
theorem Tryd.infoKey' : (Tryd.prog.info? 25).map (·.size) = some 32 := by kernel_rfl

/-- what limb a has of the first k bytes -/
def fs (l : List Int) (a : Nat) : Nat → Int
  | 0 => 0
  | k + 1 => fs l a k + if 8 * k / 51 = a then l.getD k 0 * 2 ^ (8 * k % 51) else 0

/-- the number of the first k bytes -/
def ds (l : List Int) : Nat → Int
  | 0 => 0
  | k + 1 => ds l k + l.getD k 0 * 256 ^ k

theorem val_fs (l : List Int) : ∀ k, k ≤ 32 → val (fs l 0 k) (fs l 1 k) (fs l 2 k) (fs l 3 k) (fs l 4 k) = ds l k := by
  intro k
  induction k with
  | zero => intro _; simp [fs, ds, val]
  | succ k ih =>
    intro hk
    have ih := ih (by omega)
    have e : ∀ a : Nat, 8 * k / 51 = a → l.getD k 0 * 256 ^ k = l.getD k 0 * 2 ^ (8 * k % 51) * 2 ^ (51 * a) := by
      intro a ha
      rw [Int.mul_assoc, ← Int.pow_add]
      have h1 : 8 * k % 51 + 51 * a = 8 * k := by omega
      rw [h1, Int.pow_mul]
      rfl
    have hc : 8 * k / 51 = 0 ∨ 8 * k / 51 = 1 ∨ 8 * k / 51 = 2 ∨ 8 * k / 51 = 3 ∨ 8 * k / 51 = 4 := by omega
    rcases hc with h | h | h | h | h
    all_goals
      have e := e _ h
      simp only [fs, ds, h, e]
      rw [← ih]
      generalize l.getD k 0 * 2 ^ (8 * k % 51) = t
      simp [val]
      omega

theorem fs_bd (l : List Int) (hb : ∀ x ∈ l, 0 ≤ x ∧ x < 256) (a : Nat) : ∀ k, 0 ≤ fs l a k ∧ fs l a k ≤ k * 288230376151711744 := by
  intro k
  induction k with
  | zero => simp [fs]
  | succ k ih =>
    have hg : 0 ≤ l.getD k 0 ∧ l.getD k 0 < 256 := by
      rw [List.getD_eq_getElem?_getD]
      rcases Nat.lt_or_ge k l.length with h | h
      · rw [List.getElem?_eq_getElem h]; exact hb _ (List.getElem_mem h)
      · rw [List.getElem?_eq_none h]; simp
    have hp : (2 : Int) ^ (8 * k % 51) ≤ 1125899906842624 := by
      have : (2 : Nat) ^ (8 * k % 51) ≤ 2 ^ 50 := Nat.pow_le_pow_right (by omega) (by omega)
      have h2 : ((2 ^ (8 * k % 51) : Nat) : Int) ≤ ((2 ^ 50 : Nat) : Int) := by exact_mod_cast this
      simpa using h2
    have hp0 : (0 : Int) ≤ 2 ^ (8 * k % 51) := Int.pow_nonneg (by omega)
    have ht : 0 ≤ l.getD k 0 * 2 ^ (8 * k % 51) := Int.mul_nonneg hg.1 hp0
    have ht2 : l.getD k 0 * 2 ^ (8 * k % 51) ≤ 255 * 1125899906842624 := Int.mul_le_mul (by omega) hp hp0 (by omega)
    simp only [fs]
    generalize l.getD k 0 * 2 ^ (8 * k % 51) = t at *
    split <;> (constructor <;> omega)

theorem getD_by (l : List Int) (hb : ∀ x ∈ l, 0 ≤ x ∧ x < 256) (k : Nat) : 0 ≤ l.getD k 0 ∧ l.getD k 0 < 256 := by
  rw [List.getD_eq_getElem?_getD]
  rcases Nat.lt_or_ge k l.length with h | h
  · rw [List.getElem?_eq_getElem h]; exact hb _ (List.getElem_mem h)
  · rw [List.getElem?_eq_none h]; simp

theorem fs_top (l : List Int) (hb : ∀ x ∈ l, 0 ≤ x ∧ x < 256) (a : Nat) (ha : a < 5) : 0 ≤ fs l a 32 ∧ fs l a 32 < 2305843009213693952 := by
  have g := fun k => getD_by l hb k
  have hc : a = 0 ∨ a = 1 ∨ a = 2 ∨ a = 3 ∨ a = 4 := by omega
  have B : ∀ i, 0 ≤ l.getD i 0 ∧ l.getD i 0 < 256 := g
  rcases hc with rfl | rfl | rfl | rfl | rfl
  all_goals
    simp only [fs]
    simp
    have := B 0; have := B 1; have := B 2; have := B 3; have := B 4; have := B 5; have := B 6; have := B 7; have := B 8; have := B 9; have := B 10; have := B 11; have := B 12; have := B 13; have := B 14; have := B 15
    have := B 16; have := B 17; have := B 18; have := B 19; have := B 20; have := B 21; have := B 22; have := B 23; have := B 24; have := B 25; have := B 26; have := B 27; have := B 28; have := B 29; have := B 30; have := B 31
    simp only [List.getD_eq_getElem?_getD] at *
    omega

/-- the loop of From: where it is -/
def FL (w wr : World) (l : List Int) (k : Nat) : Prop :=
  wr.heap[w.heap.size + 1 + 1]? = some (.cells #[.int .u64 (fs l 0 k), .int .u64 (fs l 1 k), .int .u64 (fs l 2 k), .int .u64 (fs l 3 k), .int .u64 (fs l 4 k)] 88 (0, 0)) ∧ Res w (w.heap.size + 1) 5 91 wr
theorem FL.drew {w wr : World} {l : List Int} {k : Nat} (h : FL w wr l k) : FL w wr.drew l k := ⟨h.1, ⟨h.2.1.drew, h.2.2.1, h.2.2.2⟩⟩
theorem FL.next {w wr : World} {l : List Int} {k : Nat} (h : FL w wr l k) (at_ : Nat) (x : Int) (ha : 8 * k / 51 = at_) (h5 : at_ < 5) (e : x = fs l at_ k + l.getD k 0 * 2 ^ (8 * k % 51)) :
    FL w (wr.setCell ⟨w.heap.size + 1 + 1, at_, none⟩ (.int .u64 x)) l (k + 1) := by
  obtain ⟨h1, h2, h3, cs, h4, h5'⟩ := h
  refine ⟨?_, ?_⟩
  · rw [heap_setCell_same wr _ at_ _ _ _ h1]
    have hc : at_ = 0 ∨ at_ = 1 ∨ at_ = 2 ∨ at_ = 3 ∨ at_ = 4 := by omega
    subst e
    rcases hc with rfl | rfl | rfl | rfl | rfl <;> simp [fs, ha]
  · refine ⟨h2.setCell (by show w.heap.size ≤ w.heap.size + 1 + 1; omega) _, h3, cs, h4, ?_⟩
    rw [Below.heap_setCell wr _ _ _ (by show w.heap.size + 1 ≠ w.heap.size + 1 + 1; omega)]; exact h5'

theorem three33 (w : World) (o0 o1 o2 : Obj) (u : World) (h : ((w.alloc o0).alloc o1).alloc o2 = u) :
    u.heap[w.heap.size + 1]? = some o1 ∧ u.heap[w.heap.size + 1 + 1]? = some o2 ∧ Gr w u := by
  rw [← h]
  refine ⟨?_, ?_, (((Gr.refl _).alloc _).alloc _).alloc _⟩ <;> (simp only [blk_alloc, size_alloc]; repeat (first | rw [if_pos trivial] | rw [if_pos (by omega)] | rw [if_neg (by omega)]))

set_option maxHeartbeats 6000000 in
theorem from_any (l : List Int) (hl : l.length = 32) (hb : ∀ x ∈ l, 0 ≤ x ∧ x < 256) (w : World) :
    Calls Tryd.prog 63 #[.agg (kc l)] w (Reck (ds (l.set 31 (l.getD 31 0 % 128)) 32) w) := by
  obtain ⟨z, hz⟩ : ∃ z, l.getD 31 0 = z := ⟨_, rfl⟩
  rw [hz]
  have hz2 : 0 ≤ z ∧ z < 256 := by
    rw [← hz]; apply hb; rw [List.getD_eq_getElem?_getD, List.getElem?_eq_getElem (by omega)]; simp
  have m31 := mask7 z hz2
  obtain ⟨l', hl'⟩ : ∃ l', l.set 31 (z % 128) = l' := ⟨_, rfl⟩
  rw [hl']
  have hbl : ∀ x ∈ l', 0 ≤ x ∧ x < 256 := by
    rw [← hl']; intro x hx
    rcases List.mem_or_eq_of_mem_set hx with h | h
    · exact hb x h
    · subst h; omega
  have hll : l'.length = 32 := by rw [← hl']; simpa using hl
  have hcar := carried_al _ _ _ _ _ (fs_top l' hbl 0 (by omega)) (fs_top l' hbl 1 (by omega)) (fs_top l' hbl 2 (by omega)) (fs_top l' hbl 3 (by omega)) (fs_top l' hbl 4 (by omega))
  rw [val_fs l' 32 (by omega)] at hcar
  replace hcar := hide hcar
  have hbd := hide (fun a => fs_bd l' hbl a)
  replace hbl := hide hbl
  replace hll := hide hll
  have hb' := hide hb
  clear hb
  have A31 : (kc l)[31]? = some (.int .u8 z) := by rw [← hz]; simp [kc, List.getD, List.getElem?_eq_getElem (show 31 < l.length by omega)]
  have hA : (kc l).size = 32 := by rw [kc_size, hl]
  have hA2 : (kc l).setIfInBounds 31 (.int .u8 (z % 128)) = kc l' := by rw [← hl']; simp [kc, List.map_set]
  replace hA2 := hide hA2
  generalize kc l = A at *
  have A31' : ∀ h : 31 < A.size, A[31]'h = .int .u8 z := fun h => by rw [Array.getElem?_eq_getElem h] at A31; exact Option.some.inj A31
  go_enter Tryd.func63, Tryd.ntmps63
  go_wp2_with (refine wpList_load_row rfl 25 (.tmp 1) rfl w.heap.size rfl 25 (A.setIfInBounds 31 (.int .u8 (z % 128))) (0, 0) _ (by (try simp only [blk_alloc, size_alloc]); repeat (first | rw [if_pos trivial] | rw [if_pos (by omega)] | rw [if_neg (by omega)])) Tryd.underlying25 rfl (by rw [Tryd.infoKey', Array.size_setIfInBounds, hA]) ?_)
  rw [unhide hA2]
  generalize hW : World.alloc _ _ = u
  obtain ⟨B1, B2, hg0⟩ := three33 w _ _ _ u hW
  have hS : Hid (FL w u l' 0) := hide ⟨B2, hg0, by omega, _, rfl, B1⟩
  clear hW B1 B2 hg0 hA2 A31 A31' hA hz2 hz m31 hb' hl hl'
  go_loopw [12] (fun i wr => ∃ k : Nat, k ≤ 32 ∧ i = .int .i64 k ∧ Hid (FL w wr l' k)) (fun i _ => 32 - (intOf i).toNat)
  case atStart => exact ⟨0, by omega, rfl, hS⟩
  case round =>
    clear hS
    obtain ⟨k, hk, rfl, hS⟩ := hrel
    have c0 := cell_of (i := 0) (unhide hS).1 rfl
    have c1 := cell_of (i := 1) (unhide hS).1 rfl
    have c2 := cell_of (i := 2) (unhide hS).1 rfl
    have c3 := cell_of (i := 3) (unhide hS).1 rfl
    have c4 := cell_of (i := 4) (unhide hS).1 rfl
    by_cases h32 : k = 32
    · subst h32
      clear hbd
      go_wp2_with (go_at_call 80; refine (unhide hcar _).mono ?_; rintro r w9 ⟨y0, y1, y2, y3, y4, o9, rfl, hR, rfl⟩; replace hR := hide hR; have hE := hide ((unhide hS).2.gr ((Gr.refl _).alloc o9)); obtain ⟨q0, q1, q2, q3, q4, hq0, hq1, hq2, hq3, hq4, z0, z1, z2, z3, z4⟩ := (unhide hE).five; unfold five)
      refine bodyPost_ret (v := five y0 y1 y2 y3 y4) ?_ rfl ?_
      · simp [results, Tryd.results63, go_sem, five, hq0, hq1, hq2, hq3, hq4]
      · exact ⟨_, _, _, _, _, rfl, unhide hR, ((unhide hE).set5 _ _ _ _ _).1⟩
    · have hlt : k < 32 := by omega
      clear h32 hk hcar
      have hcases : k = 0 ∨ k = 1 ∨ k = 2 ∨ k = 3 ∨ k = 4 ∨ k = 5 ∨ k = 6 ∨ k = 7 ∨ k = 8 ∨ k = 9 ∨ k = 10 ∨ k = 11 ∨ k = 12 ∨ k = 13 ∨ k = 14 ∨ k = 15 ∨ k = 16 ∨ k = 17 ∨ k = 18 ∨ k = 19 ∨ k = 20 ∨ k = 21 ∨ k = 22 ∨ k = 23 ∨ k = 24 ∨ k = 25 ∨ k = 26 ∨ k = 27 ∨ k = 28 ∨ k = 29 ∨ k = 30 ∨ k = 31 := by omega
      have ix := index_kc l' k hlt (unhide hll)
      have hby := getD_by l' (unhide hbl) k
      have f0 := froz_of (i := 0) (unhide hS).1
      have f1 := froz_of (i := 1) (unhide hS).1
      have f2 := froz_of (i := 2) (unhide hS).1
      have f3 := froz_of (i := 3) (unhide hS).1
      have f4 := froz_of (i := 4) (unhide hS).1
      have b0 := unhide hbd 0 k
      have b1 := unhide hbd 1 k
      have b2 := unhide hbd 2 k
      have b3 := unhide hbd 3 k
      have b4 := unhide hbd 4 k
      clear hbd
      generalize hc : l'.getD k 0 = c at *
      generalize g0 : fs l' 0 k = F0 at *
      generalize g1 : fs l' 1 k = F1 at *
      generalize g2 : fs l' 2 k = F2 at *
      generalize g3 : fs l' 3 k = F3 at *
      generalize g4 : fs l' 4 k = F4 at *
      have rc : IntKind.u64.wrap c = c := wrap_id _ (by omega) (by omega)
      rcases hcases with rfl | rfl | rfl | rfl | rfl | rfl | rfl | rfl | rfl | rfl | rfl | rfl | rfl | rfl | rfl | rfl | rfl | rfl | rfl | rfl | rfl | rfl | rfl | rfl | rfl | rfl | rfl | rfl | rfl | rfl | rfl | rfl
      · have iy : ∀ w, (Instr.index 25 (.agg (kc l')) (.int .i64 0)).run Tryd.prog w = .ok (.int .u8 c) w := ix
        have r2 : IntKind.u64.wrap (F0 + c) = F0 + c := wrap_id _ (by omega) (by omega)
        clear b0 b1 b2 b3 b4 hby ix
        go_wp2_with fail
        go_region
        go_wp2_with fail
        go_roundw
        case rel =>
          have e1 : F0 + c = fs l' 0 0 + l'.getD 0 0 * 2 ^ (8 * 0 % 51) := by rw [g0, hc]; simp
          have h1 : FL w (wr.setCell ⟨w.heap.size + 1 + 1, 0, none⟩ (.int .u64 (F0 + c))) l' (0 + 1) := FL.next (unhide hS) 0 (F0 + c) rfl (by decide) e1
          refine ⟨1, by decide, rfl, ?_⟩
          exact hide h1.drew
        case measure => decide
      · have iy : ∀ w, (Instr.index 25 (.agg (kc l')) (.int .i64 1)).run Tryd.prog w = .ok (.int .u8 c) w := ix
        have r1 : IntKind.u64.wrap (c * 256) = c * 256 := wrap_id _ (by omega) (by omega)
        have r2 : IntKind.u64.wrap (F0 + c * 256) = F0 + c * 256 := wrap_id _ (by omega) (by omega)
        clear b0 b1 b2 b3 b4 hby ix
        go_wp2_with fail
        go_region
        go_wp2_with fail
        go_roundw
        case rel =>
          have e1 : F0 + c * 256 = fs l' 0 1 + l'.getD 1 0 * 2 ^ (8 * 1 % 51) := by rw [g0, hc]; simp
          have h1 : FL w (wr.setCell ⟨w.heap.size + 1 + 1, 0, none⟩ (.int .u64 (F0 + c * 256))) l' (1 + 1) := FL.next (unhide hS) 0 (F0 + c * 256) rfl (by decide) e1
          refine ⟨2, by decide, rfl, ?_⟩
          exact hide h1.drew
        case measure => decide
      · have iy : ∀ w, (Instr.index 25 (.agg (kc l')) (.int .i64 2)).run Tryd.prog w = .ok (.int .u8 c) w := ix
        have r1 : IntKind.u64.wrap (c * 65536) = c * 65536 := wrap_id _ (by omega) (by omega)
        have r2 : IntKind.u64.wrap (F0 + c * 65536) = F0 + c * 65536 := wrap_id _ (by omega) (by omega)
        clear b0 b1 b2 b3 b4 hby ix
        go_wp2_with fail
        go_region
        go_wp2_with fail
        go_roundw
        case rel =>
          have e1 : F0 + c * 65536 = fs l' 0 2 + l'.getD 2 0 * 2 ^ (8 * 2 % 51) := by rw [g0, hc]; simp
          have h1 : FL w (wr.setCell ⟨w.heap.size + 1 + 1, 0, none⟩ (.int .u64 (F0 + c * 65536))) l' (2 + 1) := FL.next (unhide hS) 0 (F0 + c * 65536) rfl (by decide) e1
          refine ⟨3, by decide, rfl, ?_⟩
          exact hide h1.drew
        case measure => decide
      · have iy : ∀ w, (Instr.index 25 (.agg (kc l')) (.int .i64 3)).run Tryd.prog w = .ok (.int .u8 c) w := ix
        have r1 : IntKind.u64.wrap (c * 16777216) = c * 16777216 := wrap_id _ (by omega) (by omega)
        have r2 : IntKind.u64.wrap (F0 + c * 16777216) = F0 + c * 16777216 := wrap_id _ (by omega) (by omega)
        clear b0 b1 b2 b3 b4 hby ix
        go_wp2_with fail
        go_region
        go_wp2_with fail
        go_roundw
        case rel =>
          have e1 : F0 + c * 16777216 = fs l' 0 3 + l'.getD 3 0 * 2 ^ (8 * 3 % 51) := by rw [g0, hc]; simp
          have h1 : FL w (wr.setCell ⟨w.heap.size + 1 + 1, 0, none⟩ (.int .u64 (F0 + c * 16777216))) l' (3 + 1) := FL.next (unhide hS) 0 (F0 + c * 16777216) rfl (by decide) e1
          refine ⟨4, by decide, rfl, ?_⟩
          exact hide h1.drew
        case measure => decide
      · have iy : ∀ w, (Instr.index 25 (.agg (kc l')) (.int .i64 4)).run Tryd.prog w = .ok (.int .u8 c) w := ix
        have r1 : IntKind.u64.wrap (c * 4294967296) = c * 4294967296 := wrap_id _ (by omega) (by omega)
        have r2 : IntKind.u64.wrap (F0 + c * 4294967296) = F0 + c * 4294967296 := wrap_id _ (by omega) (by omega)
        clear b0 b1 b2 b3 b4 hby ix
        go_wp2_with fail
        go_region
        go_wp2_with fail
        go_roundw
        case rel =>
          have e1 : F0 + c * 4294967296 = fs l' 0 4 + l'.getD 4 0 * 2 ^ (8 * 4 % 51) := by rw [g0, hc]; simp
          have h1 : FL w (wr.setCell ⟨w.heap.size + 1 + 1, 0, none⟩ (.int .u64 (F0 + c * 4294967296))) l' (4 + 1) := FL.next (unhide hS) 0 (F0 + c * 4294967296) rfl (by decide) e1
          refine ⟨5, by decide, rfl, ?_⟩
          exact hide h1.drew
        case measure => decide
      · have iy : ∀ w, (Instr.index 25 (.agg (kc l')) (.int .i64 5)).run Tryd.prog w = .ok (.int .u8 c) w := ix
        have r1 : IntKind.u64.wrap (c * 1099511627776) = c * 1099511627776 := wrap_id _ (by omega) (by omega)
        have r2 : IntKind.u64.wrap (F0 + c * 1099511627776) = F0 + c * 1099511627776 := wrap_id _ (by omega) (by omega)
        clear b0 b1 b2 b3 b4 hby ix
        go_wp2_with fail
        go_region
        go_wp2_with fail
        go_roundw
        case rel =>
          have e1 : F0 + c * 1099511627776 = fs l' 0 5 + l'.getD 5 0 * 2 ^ (8 * 5 % 51) := by rw [g0, hc]; simp
          have h1 : FL w (wr.setCell ⟨w.heap.size + 1 + 1, 0, none⟩ (.int .u64 (F0 + c * 1099511627776))) l' (5 + 1) := FL.next (unhide hS) 0 (F0 + c * 1099511627776) rfl (by decide) e1
          refine ⟨6, by decide, rfl, ?_⟩
          exact hide h1.drew
        case measure => decide
      · have iy : ∀ w, (Instr.index 25 (.agg (kc l')) (.int .i64 6)).run Tryd.prog w = .ok (.int .u8 c) w := ix
        have r1 : IntKind.u64.wrap (c * 281474976710656) = c * 281474976710656 := wrap_id _ (by omega) (by omega)
        have r2 : IntKind.u64.wrap (F0 + c * 281474976710656) = F0 + c * 281474976710656 := wrap_id _ (by omega) (by omega)
        clear b0 b1 b2 b3 b4 hby ix
        go_wp2_with fail
        go_region
        go_wp2_with fail
        go_roundw
        case rel =>
          have e1 : F0 + c * 281474976710656 = fs l' 0 6 + l'.getD 6 0 * 2 ^ (8 * 6 % 51) := by rw [g0, hc]; simp
          have h1 : FL w (wr.setCell ⟨w.heap.size + 1 + 1, 0, none⟩ (.int .u64 (F0 + c * 281474976710656))) l' (6 + 1) := FL.next (unhide hS) 0 (F0 + c * 281474976710656) rfl (by decide) e1
          refine ⟨7, by decide, rfl, ?_⟩
          exact hide h1.drew
        case measure => decide
      · have iy : ∀ w, (Instr.index 25 (.agg (kc l')) (.int .i64 7)).run Tryd.prog w = .ok (.int .u8 c) w := ix
        have r1 : IntKind.u64.wrap (c * 32) = c * 32 := wrap_id _ (by omega) (by omega)
        have r2 : IntKind.u64.wrap (F1 + c * 32) = F1 + c * 32 := wrap_id _ (by omega) (by omega)
        clear b0 b1 b2 b3 b4 hby ix
        go_wp2_with fail
        go_region
        go_wp2_with fail
        go_roundw
        case rel =>
          have e1 : F1 + c * 32 = fs l' 1 7 + l'.getD 7 0 * 2 ^ (8 * 7 % 51) := by rw [g1, hc]; simp
          have h1 : FL w (wr.setCell ⟨w.heap.size + 1 + 1, 1, none⟩ (.int .u64 (F1 + c * 32))) l' (7 + 1) := FL.next (unhide hS) 1 (F1 + c * 32) rfl (by decide) e1
          refine ⟨8, by decide, rfl, ?_⟩
          exact hide h1.drew
        case measure => decide
      · have iy : ∀ w, (Instr.index 25 (.agg (kc l')) (.int .i64 8)).run Tryd.prog w = .ok (.int .u8 c) w := ix
        have r1 : IntKind.u64.wrap (c * 8192) = c * 8192 := wrap_id _ (by omega) (by omega)
        have r2 : IntKind.u64.wrap (F1 + c * 8192) = F1 + c * 8192 := wrap_id _ (by omega) (by omega)
        clear b0 b1 b2 b3 b4 hby ix
        go_wp2_with fail
        go_region
        go_wp2_with fail
        go_roundw
        case rel =>
          have e1 : F1 + c * 8192 = fs l' 1 8 + l'.getD 8 0 * 2 ^ (8 * 8 % 51) := by rw [g1, hc]; simp
          have h1 : FL w (wr.setCell ⟨w.heap.size + 1 + 1, 1, none⟩ (.int .u64 (F1 + c * 8192))) l' (8 + 1) := FL.next (unhide hS) 1 (F1 + c * 8192) rfl (by decide) e1
          refine ⟨9, by decide, rfl, ?_⟩
          exact hide h1.drew
        case measure => decide
      · have iy : ∀ w, (Instr.index 25 (.agg (kc l')) (.int .i64 9)).run Tryd.prog w = .ok (.int .u8 c) w := ix
        have r1 : IntKind.u64.wrap (c * 2097152) = c * 2097152 := wrap_id _ (by omega) (by omega)
        have r2 : IntKind.u64.wrap (F1 + c * 2097152) = F1 + c * 2097152 := wrap_id _ (by omega) (by omega)
        clear b0 b1 b2 b3 b4 hby ix
        go_wp2_with fail
        go_region
        go_wp2_with fail
        go_roundw
        case rel =>
          have e1 : F1 + c * 2097152 = fs l' 1 9 + l'.getD 9 0 * 2 ^ (8 * 9 % 51) := by rw [g1, hc]; simp
          have h1 : FL w (wr.setCell ⟨w.heap.size + 1 + 1, 1, none⟩ (.int .u64 (F1 + c * 2097152))) l' (9 + 1) := FL.next (unhide hS) 1 (F1 + c * 2097152) rfl (by decide) e1
          refine ⟨10, by decide, rfl, ?_⟩
          exact hide h1.drew
        case measure => decide
      · have iy : ∀ w, (Instr.index 25 (.agg (kc l')) (.int .i64 10)).run Tryd.prog w = .ok (.int .u8 c) w := ix
        have r1 : IntKind.u64.wrap (c * 536870912) = c * 536870912 := wrap_id _ (by omega) (by omega)
        have r2 : IntKind.u64.wrap (F1 + c * 536870912) = F1 + c * 536870912 := wrap_id _ (by omega) (by omega)
        clear b0 b1 b2 b3 b4 hby ix
        go_wp2_with fail
        go_region
        go_wp2_with fail
        go_roundw
        case rel =>
          have e1 : F1 + c * 536870912 = fs l' 1 10 + l'.getD 10 0 * 2 ^ (8 * 10 % 51) := by rw [g1, hc]; simp
          have h1 : FL w (wr.setCell ⟨w.heap.size + 1 + 1, 1, none⟩ (.int .u64 (F1 + c * 536870912))) l' (10 + 1) := FL.next (unhide hS) 1 (F1 + c * 536870912) rfl (by decide) e1
          refine ⟨11, by decide, rfl, ?_⟩
          exact hide h1.drew
        case measure => decide
      · have iy : ∀ w, (Instr.index 25 (.agg (kc l')) (.int .i64 11)).run Tryd.prog w = .ok (.int .u8 c) w := ix
        have r1 : IntKind.u64.wrap (c * 137438953472) = c * 137438953472 := wrap_id _ (by omega) (by omega)
        have r2 : IntKind.u64.wrap (F1 + c * 137438953472) = F1 + c * 137438953472 := wrap_id _ (by omega) (by omega)
        clear b0 b1 b2 b3 b4 hby ix
        go_wp2_with fail
        go_region
        go_wp2_with fail
        go_roundw
        case rel =>
          have e1 : F1 + c * 137438953472 = fs l' 1 11 + l'.getD 11 0 * 2 ^ (8 * 11 % 51) := by rw [g1, hc]; simp
          have h1 : FL w (wr.setCell ⟨w.heap.size + 1 + 1, 1, none⟩ (.int .u64 (F1 + c * 137438953472))) l' (11 + 1) := FL.next (unhide hS) 1 (F1 + c * 137438953472) rfl (by decide) e1
          refine ⟨12, by decide, rfl, ?_⟩
          exact hide h1.drew
        case measure => decide
      · have iy : ∀ w, (Instr.index 25 (.agg (kc l')) (.int .i64 12)).run Tryd.prog w = .ok (.int .u8 c) w := ix
        have r1 : IntKind.u64.wrap (c * 35184372088832) = c * 35184372088832 := wrap_id _ (by omega) (by omega)
        have r2 : IntKind.u64.wrap (F1 + c * 35184372088832) = F1 + c * 35184372088832 := wrap_id _ (by omega) (by omega)
        clear b0 b1 b2 b3 b4 hby ix
        go_wp2_with fail
        go_region
        go_wp2_with fail
        go_roundw
        case rel =>
          have e1 : F1 + c * 35184372088832 = fs l' 1 12 + l'.getD 12 0 * 2 ^ (8 * 12 % 51) := by rw [g1, hc]; simp
          have h1 : FL w (wr.setCell ⟨w.heap.size + 1 + 1, 1, none⟩ (.int .u64 (F1 + c * 35184372088832))) l' (12 + 1) := FL.next (unhide hS) 1 (F1 + c * 35184372088832) rfl (by decide) e1
          refine ⟨13, by decide, rfl, ?_⟩
          exact hide h1.drew
        case measure => decide
      · have iy : ∀ w, (Instr.index 25 (.agg (kc l')) (.int .i64 13)).run Tryd.prog w = .ok (.int .u8 c) w := ix
        have r1 : IntKind.u64.wrap (c * 4) = c * 4 := wrap_id _ (by omega) (by omega)
        have r2 : IntKind.u64.wrap (F2 + c * 4) = F2 + c * 4 := wrap_id _ (by omega) (by omega)
        clear b0 b1 b2 b3 b4 hby ix
        go_wp2_with fail
        go_region
        go_wp2_with fail
        go_roundw
        case rel =>
          have e1 : F2 + c * 4 = fs l' 2 13 + l'.getD 13 0 * 2 ^ (8 * 13 % 51) := by rw [g2, hc]; simp
          have h1 : FL w (wr.setCell ⟨w.heap.size + 1 + 1, 2, none⟩ (.int .u64 (F2 + c * 4))) l' (13 + 1) := FL.next (unhide hS) 2 (F2 + c * 4) rfl (by decide) e1
          refine ⟨14, by decide, rfl, ?_⟩
          exact hide h1.drew
        case measure => decide
      · have iy : ∀ w, (Instr.index 25 (.agg (kc l')) (.int .i64 14)).run Tryd.prog w = .ok (.int .u8 c) w := ix
        have r1 : IntKind.u64.wrap (c * 1024) = c * 1024 := wrap_id _ (by omega) (by omega)
        have r2 : IntKind.u64.wrap (F2 + c * 1024) = F2 + c * 1024 := wrap_id _ (by omega) (by omega)
        clear b0 b1 b2 b3 b4 hby ix
        go_wp2_with fail
        go_region
        go_wp2_with fail
        go_roundw
        case rel =>
          have e1 : F2 + c * 1024 = fs l' 2 14 + l'.getD 14 0 * 2 ^ (8 * 14 % 51) := by rw [g2, hc]; simp
          have h1 : FL w (wr.setCell ⟨w.heap.size + 1 + 1, 2, none⟩ (.int .u64 (F2 + c * 1024))) l' (14 + 1) := FL.next (unhide hS) 2 (F2 + c * 1024) rfl (by decide) e1
          refine ⟨15, by decide, rfl, ?_⟩
          exact hide h1.drew
        case measure => decide
      · have iy : ∀ w, (Instr.index 25 (.agg (kc l')) (.int .i64 15)).run Tryd.prog w = .ok (.int .u8 c) w := ix
        have r1 : IntKind.u64.wrap (c * 262144) = c * 262144 := wrap_id _ (by omega) (by omega)
        have r2 : IntKind.u64.wrap (F2 + c * 262144) = F2 + c * 262144 := wrap_id _ (by omega) (by omega)
        clear b0 b1 b2 b3 b4 hby ix
        go_wp2_with fail
        go_region
        go_wp2_with fail
        go_roundw
        case rel =>
          have e1 : F2 + c * 262144 = fs l' 2 15 + l'.getD 15 0 * 2 ^ (8 * 15 % 51) := by rw [g2, hc]; simp
          have h1 : FL w (wr.setCell ⟨w.heap.size + 1 + 1, 2, none⟩ (.int .u64 (F2 + c * 262144))) l' (15 + 1) := FL.next (unhide hS) 2 (F2 + c * 262144) rfl (by decide) e1
          refine ⟨16, by decide, rfl, ?_⟩
          exact hide h1.drew
        case measure => decide
      · have iy : ∀ w, (Instr.index 25 (.agg (kc l')) (.int .i64 16)).run Tryd.prog w = .ok (.int .u8 c) w := ix
        have r1 : IntKind.u64.wrap (c * 67108864) = c * 67108864 := wrap_id _ (by omega) (by omega)
        have r2 : IntKind.u64.wrap (F2 + c * 67108864) = F2 + c * 67108864 := wrap_id _ (by omega) (by omega)
        clear b0 b1 b2 b3 b4 hby ix
        go_wp2_with fail
        go_region
        go_wp2_with fail
        go_roundw
        case rel =>
          have e1 : F2 + c * 67108864 = fs l' 2 16 + l'.getD 16 0 * 2 ^ (8 * 16 % 51) := by rw [g2, hc]; simp
          have h1 : FL w (wr.setCell ⟨w.heap.size + 1 + 1, 2, none⟩ (.int .u64 (F2 + c * 67108864))) l' (16 + 1) := FL.next (unhide hS) 2 (F2 + c * 67108864) rfl (by decide) e1
          refine ⟨17, by decide, rfl, ?_⟩
          exact hide h1.drew
        case measure => decide
      · have iy : ∀ w, (Instr.index 25 (.agg (kc l')) (.int .i64 17)).run Tryd.prog w = .ok (.int .u8 c) w := ix
        have r1 : IntKind.u64.wrap (c * 17179869184) = c * 17179869184 := wrap_id _ (by omega) (by omega)
        have r2 : IntKind.u64.wrap (F2 + c * 17179869184) = F2 + c * 17179869184 := wrap_id _ (by omega) (by omega)
        clear b0 b1 b2 b3 b4 hby ix
        go_wp2_with fail
        go_region
        go_wp2_with fail
        go_roundw
        case rel =>
          have e1 : F2 + c * 17179869184 = fs l' 2 17 + l'.getD 17 0 * 2 ^ (8 * 17 % 51) := by rw [g2, hc]; simp
          have h1 : FL w (wr.setCell ⟨w.heap.size + 1 + 1, 2, none⟩ (.int .u64 (F2 + c * 17179869184))) l' (17 + 1) := FL.next (unhide hS) 2 (F2 + c * 17179869184) rfl (by decide) e1
          refine ⟨18, by decide, rfl, ?_⟩
          exact hide h1.drew
        case measure => decide
      · have iy : ∀ w, (Instr.index 25 (.agg (kc l')) (.int .i64 18)).run Tryd.prog w = .ok (.int .u8 c) w := ix
        have r1 : IntKind.u64.wrap (c * 4398046511104) = c * 4398046511104 := wrap_id _ (by omega) (by omega)
        have r2 : IntKind.u64.wrap (F2 + c * 4398046511104) = F2 + c * 4398046511104 := wrap_id _ (by omega) (by omega)
        clear b0 b1 b2 b3 b4 hby ix
        go_wp2_with fail
        go_region
        go_wp2_with fail
        go_roundw
        case rel =>
          have e1 : F2 + c * 4398046511104 = fs l' 2 18 + l'.getD 18 0 * 2 ^ (8 * 18 % 51) := by rw [g2, hc]; simp
          have h1 : FL w (wr.setCell ⟨w.heap.size + 1 + 1, 2, none⟩ (.int .u64 (F2 + c * 4398046511104))) l' (18 + 1) := FL.next (unhide hS) 2 (F2 + c * 4398046511104) rfl (by decide) e1
          refine ⟨19, by decide, rfl, ?_⟩
          exact hide h1.drew
        case measure => decide
      · have iy : ∀ w, (Instr.index 25 (.agg (kc l')) (.int .i64 19)).run Tryd.prog w = .ok (.int .u8 c) w := ix
        have r1 : IntKind.u64.wrap (c * 1125899906842624) = c * 1125899906842624 := wrap_id _ (by omega) (by omega)
        have r2 : IntKind.u64.wrap (F2 + c * 1125899906842624) = F2 + c * 1125899906842624 := wrap_id _ (by omega) (by omega)
        clear b0 b1 b2 b3 b4 hby ix
        go_wp2_with fail
        go_region
        go_wp2_with fail
        go_roundw
        case rel =>
          have e1 : F2 + c * 1125899906842624 = fs l' 2 19 + l'.getD 19 0 * 2 ^ (8 * 19 % 51) := by rw [g2, hc]; simp
          have h1 : FL w (wr.setCell ⟨w.heap.size + 1 + 1, 2, none⟩ (.int .u64 (F2 + c * 1125899906842624))) l' (19 + 1) := FL.next (unhide hS) 2 (F2 + c * 1125899906842624) rfl (by decide) e1
          refine ⟨20, by decide, rfl, ?_⟩
          exact hide h1.drew
        case measure => decide
      · have iy : ∀ w, (Instr.index 25 (.agg (kc l')) (.int .i64 20)).run Tryd.prog w = .ok (.int .u8 c) w := ix
        have r1 : IntKind.u64.wrap (c * 128) = c * 128 := wrap_id _ (by omega) (by omega)
        have r2 : IntKind.u64.wrap (F3 + c * 128) = F3 + c * 128 := wrap_id _ (by omega) (by omega)
        clear b0 b1 b2 b3 b4 hby ix
        go_wp2_with fail
        go_region
        go_wp2_with fail
        go_roundw
        case rel =>
          have e1 : F3 + c * 128 = fs l' 3 20 + l'.getD 20 0 * 2 ^ (8 * 20 % 51) := by rw [g3, hc]; simp
          have h1 : FL w (wr.setCell ⟨w.heap.size + 1 + 1, 3, none⟩ (.int .u64 (F3 + c * 128))) l' (20 + 1) := FL.next (unhide hS) 3 (F3 + c * 128) rfl (by decide) e1
          refine ⟨21, by decide, rfl, ?_⟩
          exact hide h1.drew
        case measure => decide
      · have iy : ∀ w, (Instr.index 25 (.agg (kc l')) (.int .i64 21)).run Tryd.prog w = .ok (.int .u8 c) w := ix
        have r1 : IntKind.u64.wrap (c * 32768) = c * 32768 := wrap_id _ (by omega) (by omega)
        have r2 : IntKind.u64.wrap (F3 + c * 32768) = F3 + c * 32768 := wrap_id _ (by omega) (by omega)
        clear b0 b1 b2 b3 b4 hby ix
        go_wp2_with fail
        go_region
        go_wp2_with fail
        go_roundw
        case rel =>
          have e1 : F3 + c * 32768 = fs l' 3 21 + l'.getD 21 0 * 2 ^ (8 * 21 % 51) := by rw [g3, hc]; simp
          have h1 : FL w (wr.setCell ⟨w.heap.size + 1 + 1, 3, none⟩ (.int .u64 (F3 + c * 32768))) l' (21 + 1) := FL.next (unhide hS) 3 (F3 + c * 32768) rfl (by decide) e1
          refine ⟨22, by decide, rfl, ?_⟩
          exact hide h1.drew
        case measure => decide
      · have iy : ∀ w, (Instr.index 25 (.agg (kc l')) (.int .i64 22)).run Tryd.prog w = .ok (.int .u8 c) w := ix
        have r1 : IntKind.u64.wrap (c * 8388608) = c * 8388608 := wrap_id _ (by omega) (by omega)
        have r2 : IntKind.u64.wrap (F3 + c * 8388608) = F3 + c * 8388608 := wrap_id _ (by omega) (by omega)
        clear b0 b1 b2 b3 b4 hby ix
        go_wp2_with fail
        go_region
        go_wp2_with fail
        go_roundw
        case rel =>
          have e1 : F3 + c * 8388608 = fs l' 3 22 + l'.getD 22 0 * 2 ^ (8 * 22 % 51) := by rw [g3, hc]; simp
          have h1 : FL w (wr.setCell ⟨w.heap.size + 1 + 1, 3, none⟩ (.int .u64 (F3 + c * 8388608))) l' (22 + 1) := FL.next (unhide hS) 3 (F3 + c * 8388608) rfl (by decide) e1
          refine ⟨23, by decide, rfl, ?_⟩
          exact hide h1.drew
        case measure => decide
      · have iy : ∀ w, (Instr.index 25 (.agg (kc l')) (.int .i64 23)).run Tryd.prog w = .ok (.int .u8 c) w := ix
        have r1 : IntKind.u64.wrap (c * 2147483648) = c * 2147483648 := wrap_id _ (by omega) (by omega)
        have r2 : IntKind.u64.wrap (F3 + c * 2147483648) = F3 + c * 2147483648 := wrap_id _ (by omega) (by omega)
        clear b0 b1 b2 b3 b4 hby ix
        go_wp2_with fail
        go_region
        go_wp2_with fail
        go_roundw
        case rel =>
          have e1 : F3 + c * 2147483648 = fs l' 3 23 + l'.getD 23 0 * 2 ^ (8 * 23 % 51) := by rw [g3, hc]; simp
          have h1 : FL w (wr.setCell ⟨w.heap.size + 1 + 1, 3, none⟩ (.int .u64 (F3 + c * 2147483648))) l' (23 + 1) := FL.next (unhide hS) 3 (F3 + c * 2147483648) rfl (by decide) e1
          refine ⟨24, by decide, rfl, ?_⟩
          exact hide h1.drew
        case measure => decide
      · have iy : ∀ w, (Instr.index 25 (.agg (kc l')) (.int .i64 24)).run Tryd.prog w = .ok (.int .u8 c) w := ix
        have r1 : IntKind.u64.wrap (c * 549755813888) = c * 549755813888 := wrap_id _ (by omega) (by omega)
        have r2 : IntKind.u64.wrap (F3 + c * 549755813888) = F3 + c * 549755813888 := wrap_id _ (by omega) (by omega)
        clear b0 b1 b2 b3 b4 hby ix
        go_wp2_with fail
        go_region
        go_wp2_with fail
        go_roundw
        case rel =>
          have e1 : F3 + c * 549755813888 = fs l' 3 24 + l'.getD 24 0 * 2 ^ (8 * 24 % 51) := by rw [g3, hc]; simp
          have h1 : FL w (wr.setCell ⟨w.heap.size + 1 + 1, 3, none⟩ (.int .u64 (F3 + c * 549755813888))) l' (24 + 1) := FL.next (unhide hS) 3 (F3 + c * 549755813888) rfl (by decide) e1
          refine ⟨25, by decide, rfl, ?_⟩
          exact hide h1.drew
        case measure => decide
      · have iy : ∀ w, (Instr.index 25 (.agg (kc l')) (.int .i64 25)).run Tryd.prog w = .ok (.int .u8 c) w := ix
        have r1 : IntKind.u64.wrap (c * 140737488355328) = c * 140737488355328 := wrap_id _ (by omega) (by omega)
        have r2 : IntKind.u64.wrap (F3 + c * 140737488355328) = F3 + c * 140737488355328 := wrap_id _ (by omega) (by omega)
        clear b0 b1 b2 b3 b4 hby ix
        go_wp2_with fail
        go_region
        go_wp2_with fail
        go_roundw
        case rel =>
          have e1 : F3 + c * 140737488355328 = fs l' 3 25 + l'.getD 25 0 * 2 ^ (8 * 25 % 51) := by rw [g3, hc]; simp
          have h1 : FL w (wr.setCell ⟨w.heap.size + 1 + 1, 3, none⟩ (.int .u64 (F3 + c * 140737488355328))) l' (25 + 1) := FL.next (unhide hS) 3 (F3 + c * 140737488355328) rfl (by decide) e1
          refine ⟨26, by decide, rfl, ?_⟩
          exact hide h1.drew
        case measure => decide
      · have iy : ∀ w, (Instr.index 25 (.agg (kc l')) (.int .i64 26)).run Tryd.prog w = .ok (.int .u8 c) w := ix
        have r1 : IntKind.u64.wrap (c * 16) = c * 16 := wrap_id _ (by omega) (by omega)
        have r2 : IntKind.u64.wrap (F4 + c * 16) = F4 + c * 16 := wrap_id _ (by omega) (by omega)
        clear b0 b1 b2 b3 b4 hby ix
        go_wp2_with fail
        go_region
        go_wp2_with fail
        go_roundw
        case rel =>
          have e1 : F4 + c * 16 = fs l' 4 26 + l'.getD 26 0 * 2 ^ (8 * 26 % 51) := by rw [g4, hc]; simp
          have h1 : FL w (wr.setCell ⟨w.heap.size + 1 + 1, 4, none⟩ (.int .u64 (F4 + c * 16))) l' (26 + 1) := FL.next (unhide hS) 4 (F4 + c * 16) rfl (by decide) e1
          refine ⟨27, by decide, rfl, ?_⟩
          exact hide h1.drew
        case measure => decide
      · have iy : ∀ w, (Instr.index 25 (.agg (kc l')) (.int .i64 27)).run Tryd.prog w = .ok (.int .u8 c) w := ix
        have r1 : IntKind.u64.wrap (c * 4096) = c * 4096 := wrap_id _ (by omega) (by omega)
        have r2 : IntKind.u64.wrap (F4 + c * 4096) = F4 + c * 4096 := wrap_id _ (by omega) (by omega)
        clear b0 b1 b2 b3 b4 hby ix
        go_wp2_with fail
        go_region
        go_wp2_with fail
        go_roundw
        case rel =>
          have e1 : F4 + c * 4096 = fs l' 4 27 + l'.getD 27 0 * 2 ^ (8 * 27 % 51) := by rw [g4, hc]; simp
          have h1 : FL w (wr.setCell ⟨w.heap.size + 1 + 1, 4, none⟩ (.int .u64 (F4 + c * 4096))) l' (27 + 1) := FL.next (unhide hS) 4 (F4 + c * 4096) rfl (by decide) e1
          refine ⟨28, by decide, rfl, ?_⟩
          exact hide h1.drew
        case measure => decide
      · have iy : ∀ w, (Instr.index 25 (.agg (kc l')) (.int .i64 28)).run Tryd.prog w = .ok (.int .u8 c) w := ix
        have r1 : IntKind.u64.wrap (c * 1048576) = c * 1048576 := wrap_id _ (by omega) (by omega)
        have r2 : IntKind.u64.wrap (F4 + c * 1048576) = F4 + c * 1048576 := wrap_id _ (by omega) (by omega)
        clear b0 b1 b2 b3 b4 hby ix
        go_wp2_with fail
        go_region
        go_wp2_with fail
        go_roundw
        case rel =>
          have e1 : F4 + c * 1048576 = fs l' 4 28 + l'.getD 28 0 * 2 ^ (8 * 28 % 51) := by rw [g4, hc]; simp
          have h1 : FL w (wr.setCell ⟨w.heap.size + 1 + 1, 4, none⟩ (.int .u64 (F4 + c * 1048576))) l' (28 + 1) := FL.next (unhide hS) 4 (F4 + c * 1048576) rfl (by decide) e1
          refine ⟨29, by decide, rfl, ?_⟩
          exact hide h1.drew
        case measure => decide
      · have iy : ∀ w, (Instr.index 25 (.agg (kc l')) (.int .i64 29)).run Tryd.prog w = .ok (.int .u8 c) w := ix
        have r1 : IntKind.u64.wrap (c * 268435456) = c * 268435456 := wrap_id _ (by omega) (by omega)
        have r2 : IntKind.u64.wrap (F4 + c * 268435456) = F4 + c * 268435456 := wrap_id _ (by omega) (by omega)
        clear b0 b1 b2 b3 b4 hby ix
        go_wp2_with fail
        go_region
        go_wp2_with fail
        go_roundw
        case rel =>
          have e1 : F4 + c * 268435456 = fs l' 4 29 + l'.getD 29 0 * 2 ^ (8 * 29 % 51) := by rw [g4, hc]; simp
          have h1 : FL w (wr.setCell ⟨w.heap.size + 1 + 1, 4, none⟩ (.int .u64 (F4 + c * 268435456))) l' (29 + 1) := FL.next (unhide hS) 4 (F4 + c * 268435456) rfl (by decide) e1
          refine ⟨30, by decide, rfl, ?_⟩
          exact hide h1.drew
        case measure => decide
      · have iy : ∀ w, (Instr.index 25 (.agg (kc l')) (.int .i64 30)).run Tryd.prog w = .ok (.int .u8 c) w := ix
        have r1 : IntKind.u64.wrap (c * 68719476736) = c * 68719476736 := wrap_id _ (by omega) (by omega)
        have r2 : IntKind.u64.wrap (F4 + c * 68719476736) = F4 + c * 68719476736 := wrap_id _ (by omega) (by omega)
        clear b0 b1 b2 b3 b4 hby ix
        go_wp2_with fail
        go_region
        go_wp2_with fail
        go_roundw
        case rel =>
          have e1 : F4 + c * 68719476736 = fs l' 4 30 + l'.getD 30 0 * 2 ^ (8 * 30 % 51) := by rw [g4, hc]; simp
          have h1 : FL w (wr.setCell ⟨w.heap.size + 1 + 1, 4, none⟩ (.int .u64 (F4 + c * 68719476736))) l' (30 + 1) := FL.next (unhide hS) 4 (F4 + c * 68719476736) rfl (by decide) e1
          refine ⟨31, by decide, rfl, ?_⟩
          exact hide h1.drew
        case measure => decide
      · have iy : ∀ w, (Instr.index 25 (.agg (kc l')) (.int .i64 31)).run Tryd.prog w = .ok (.int .u8 c) w := ix
        have r1 : IntKind.u64.wrap (c * 17592186044416) = c * 17592186044416 := wrap_id _ (by omega) (by omega)
        have r2 : IntKind.u64.wrap (F4 + c * 17592186044416) = F4 + c * 17592186044416 := wrap_id _ (by omega) (by omega)
        clear b0 b1 b2 b3 b4 hby ix
        go_wp2_with fail
        go_region
        go_wp2_with fail
        go_roundw
        case rel =>
          have e1 : F4 + c * 17592186044416 = fs l' 4 31 + l'.getD 31 0 * 2 ^ (8 * 31 % 51) := by rw [g4, hc]; simp
          have h1 : FL w (wr.setCell ⟨w.heap.size + 1 + 1, 4, none⟩ (.int .u64 (F4 + c * 17592186044416))) l' (31 + 1) := FL.next (unhide hS) 4 (F4 + c * 17592186044416) rfl (by decide) e1
          refine ⟨32, by decide, rfl, ?_⟩
          exact hide h1.drew
        case measure => decide
end Go.Proofs.YtpmgmpihmpifgaaDoor.Cv
