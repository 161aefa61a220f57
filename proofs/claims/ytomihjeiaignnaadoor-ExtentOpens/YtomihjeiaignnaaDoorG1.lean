/-
  Of layer 11: what the proofs lean on.
-/
import Derived.WalkMore
import Derived.Deep.Cut
import Derived.StillTailTactics
import Derived.Deep.QuietTactic
import Derived.BigQuiet
import Derived.OwnWalk
import Derived.Laws.IdiomCopy
import Derived.Deep.DeepAppendWide
import Derived.Laws.BytesArg
import Derived.Test.YtomihjeiaignnaaDoorK7
namespace Go.Proofs.YtomihjeiaignnaaDoor
open Go.RowKit
set_option maxRecDepth 100000
set_option linter.unusedSimpArgs false
set_option linter.unusedVariables false
def chkM2 (md : Region.Mode) (ops : Array Oper) (F : Bool → Bool → Array Bool) (i1 i2 c : Nat) (all : Bool) : Bool :=
  [false, true].all fun b1 => [false, true].all fun b2 =>
    !(Region.ready md ops (F b1 b2)).isEmpty && (Region.ready md ops (F b1 b2)).all fun i => (i == i1 && !b1) || (i == i2 && !b2) || (i == c && (!all || (b1 && b2)))
theorem chkM2_spec {md : Region.Mode} {ops : Array Oper} {F : Bool → Bool → Array Bool} {i1 i2 c : Nat} {all : Bool} (h : chkM2 md ops F i1 i2 c all = true) :
    ∀ b1 b2, Region.ready md ops (F b1 b2) ≠ [] ∧ ∀ i ∈ Region.ready md ops (F b1 b2), (i = i1 ∧ b1 = false) ∨ (i = i2 ∧ b2 = false) ∨ (i = c ∧ (all = true → b1 = true ∧ b2 = true)) := by
  have mb : ∀ b : Bool, b ∈ [false, true] := by intro b; cases b <;> simp
  intro b1 b2
  have h1 := (List.all_eq_true.1 (List.all_eq_true.1 h b1 (mb b1)) b2 (mb b2))
  rw [Bool.and_eq_true] at h1
  refine ⟨fun e => ?_, fun i hi => ?_⟩
  · rw [e] at h1
    exact absurd h1.1 (by decide)
  · have h2 := List.all_eq_true.1 h1.2 i hi
    rw [Bool.or_eq_true] at h2
    rcases h2 with h2 | h2
    · simp only [Bool.or_eq_true, Bool.and_eq_true, beq_iff_eq, Bool.not_eq_true'] at h2
      exact h2.elim .inl (fun h => .inr (.inl h))
    · rw [Bool.and_eq_true, beq_iff_eq] at h2
      obtain ⟨rfl, h3⟩ := h2
      refine .inr (.inr ⟨rfl, fun ha => ?_⟩)
      rw [ha] at h3
      simpa using h3
def fw2 (a : Act) (p1 p2 : Nat) (q1 q2 : Value) : Act := ⟨((a.tmps.setIfInBounds p1 q1).setIfInBounds p2 q2), a.defers⟩
theorem getD_set (l : List Int) (i j : Nat) (x : Int) (hi : i < l.length) : (l.set i x).getD j 0 = if j = i then x else l.getD j 0 := by
  by_cases h : j = i
  · subst h
    simp [hi]
  · rw [if_neg h]
    simp [List.getElem?_set_ne (fun e => h e.symm)]
section
variable {P : Program} {md : Region.Mode} {ops : Array Oper} {Q : Exit → Act → World → Prop} {S : World → Prop}
end
theorem padL_whole (n : Nat) : (n + (padL n).length) % 64 = 0 := by rw [padL_len]; unfold nz; omega
def W12 (B : List Int) (n : Nat) : List Int := if n ≤ 16 then W1 B n else W2 B (n - 16)
theorem W12_len (B : List Int) (n : Nat) : (W12 B n).length = 64 := by
  unfold W12
  split
  · exact W1_len B n
  · exact W2_len B _
theorem W12_lo (B : List Int) (n : Nat) (h : n < 16) : W12 B (n + 1) = (W12 B n).set n (be (B.getD (4 * n) 0) (B.getD (4 * n + 1) 0) (B.getD (4 * n + 2) 0) (B.getD (4 * n + 3) 0)) := by
  unfold W12
  rw [if_pos (by omega), if_pos (by omega), W1]
theorem W12_hi (B : List Int) (n : Nat) (h : 16 ≤ n) : W12 B (n + 1) = (W12 B n).set n (nx (W12 B n) n) := by
  obtain ⟨k, rfl⟩ : ∃ k, n = k + 16 := ⟨n - 16, by omega⟩
  have e0 : W12 B (k + 16) = W2 B k := by
    unfold W12
    split
    · have : k = 0 := by omega
      subst this
      rfl
    · rw [Nat.add_sub_cancel]
  have e1 : W12 B (k + 16 + 1) = W2 B (k + 1) := by
    unfold W12
    rw [if_neg (by omega)]
    congr 1
  rw [e0, e1, W2]
theorem W12_all (B : List Int) : W12 B 64 = wds B := rfl
def stl (q : St) : List Int := [q.a, q.b, q.c, q.d, q.e, q.f, q.g, q.h]
theorem stl_of (s : List Int) (hs : s.length = 8) : stl (.of s) = s := by
  rcases s with _ | ⟨a, _ | ⟨b, _ | ⟨c, _ | ⟨d, _ | ⟨e, _ | ⟨f, _ | ⟨g, _ | ⟨h, _ | ⟨i, s⟩⟩⟩⟩⟩⟩⟩⟩⟩ <;> simp at hs
  rfl
def SA (s t : List Int) : Nat → List Int
  | 0 => s
  | n + 1 => (SA s t n).set n (ad ((SA s t n).getD n 0) (t.getD n 0))
theorem SA_len (s t : List Int) : ∀ n, (SA s t n).length = s.length
  | 0 => rfl
  | n + 1 => by rw [SA, List.length_set, SA_len s t n]
theorem SA_all (s W K : List Int) (hs : s.length = 8) : SA s (stl (rnds (.of s) W K 64)) 8 = stp s W K := by
  rcases s with _ | ⟨a, _ | ⟨b, _ | ⟨c, _ | ⟨d, _ | ⟨e, _ | ⟨f, _ | ⟨g, _ | ⟨h, _ | ⟨i, s⟩⟩⟩⟩⟩⟩⟩⟩⟩ <;> simp at hs
  generalize hq : rnds (.of [a, b, c, d, e, f, g, h]) W K 64 = q
  unfold stp
  rw [hq]
  rfl
def yn (x : Int) (n : Nat) : Int := x / 2 ^ (24 - 8 * n) % 256
def KZ (s : List Int) (i : Nat) : Nat → List Int
  | 0 => KY s i
  | n + 1 => (KZ s i n).set (4 * i + n) (yn (s.getD i 0) n)
theorem KZ_len (s : List Int) (i : Nat) : ∀ n, (KZ s i n).length = 32
  | 0 => KY_len s i
  | n + 1 => by rw [KZ, List.length_set, KZ_len s i n]
theorem KZ_all (s : List Int) (i : Nat) : KZ s i 4 = KY s (i + 1) := by
  simp [KZ, KY, yn, y0, y1, y2, y3]
theorem nx_ref (l : List Int) (i : Nat) : nx l i = (l.getD (i - 16) 0 + sg0 (l.getD (i - 15) 0) + l.getD (i - 7) 0 + sg1 (l.getD (i - 2) 0)) % 4294967296 := by
  unfold nx
  simp only [ad_eq]
  omega
theorem right_ok (x : Int) (n : Nat) (hn : 1 ≤ n ∧ n ≤ 31) (w : World) :
    Calls Tryd.prog 76 #[.int .u32 x, .int .i64 n] w (fun r w' => r = .returned (.int .u32 (tn x n)) ∧ w' = w.drew) := by
  obtain ⟨m, hm⟩ : ∃ m, m = 32 - n := ⟨_, rfl⟩
  have e1 : 32 - (n : Int) = (m : Int) := by omega
  have e2 : IntKind.i64.wrap (m : Int) = (m : Int) := by rw [IntKind.wrap_i64]; omega
  have m0 : 0 ≤ (m : Int) := by omega
  have n0 : 0 ≤ (n : Int) := by omega
  replace hm := hide hm
  go_enter Tryd.func76, Tryd.ntmps76
  go_wp2_with fail
  go_still_tail 8, (by kernel_rfl)
  go_wp2_with fail
  refine bodyPost_ret (v := .int .u32 (tn x n)) ?_ rfl ⟨rfl, rfl⟩
  unfold tn
  rw [← unhide hm]
  simp [results, Tryd.results76, go_sem]
theorem right_int (x m : Int) (hm : 1 ≤ m ∧ m ≤ 31) (w : World) :
    Calls Tryd.prog 76 #[.int .u32 x, .int .i64 m] w (fun r w' => r = .returned (.int .u32 (tn x m.toNat)) ∧ w' = w.drew) := by
  obtain ⟨n, rfl⟩ := Int.eq_ofNat_of_zero_le (a := m) (by omega)
  exact right_ok x n (by omega) w
theorem rbegin_ok (w : World) : Calls Tryd.prog 75 #[] w (fun r w' => r = .returned (.agg (uc F0)) ∧ Gr w w') := by
  go_enter Tryd.func75, Tryd.ntmps75
  go_upto_region 1 with fail
  have hB := (Bl.nil w).new #[.int .u32 0, .int .u32 0, .int .u32 0, .int .u32 0, .int .u32 0, .int .u32 0, .int .u32 0, .int .u32 0] 123
  simp only [List.nil_append] at hB
  generalize World.alloc _ _ = u at *
  replace hB : Bl w [⟨w.heap.size, uc Z8, 123⟩] u := hB
  refine wp_region_lit ?_
  refine list_val (.agg (uc F0)) (by kernel_rfl) (by kernel_rfl) ?_
  simp only [Act.put, List.setIfInBounds_toArray, List.set_cons_zero, List.set_cons_succ, List.getElem_toArray, List.getElem_cons_zero, List.getElem_cons_succ]
  refine list_store 123 (.tmp 0) (.tmp 1) w.heap.size (uc F0) 123 (uc Z8) (by kernel_rfl) rfl (by kernel_rfl) (by kernel_rfl) (hB.get 0 (x := ⟨w.heap.size, uc Z8, 123⟩) rfl) (by rw [Tryd.infoS]; rfl) rfl (uc_one _) ?_
  replace hB := hB.set 0 (x := ⟨w.heap.size, uc Z8, 123⟩) rfl (uc F0)
  simp only [List.set_cons_zero, List.set_cons_succ] at hB
  generalize World.setRow _ _ _ = v1_ at *
  simp only [Act.put, List.setIfInBounds_toArray, List.set_cons_zero, List.set_cons_succ, List.getElem_toArray, List.getElem_cons_zero, List.getElem_cons_succ]
  refine wpList_nil ?_
  go_wp2_with fail
  exact bodyPost_ret (v := .agg (uc F0)) (results_cell_row Tryd.results75 _ _ w.heap.size 123 (uc F0) (0, 0) _ rfl (hB.get 0 (x := ⟨w.heap.size, uc F0, 123⟩) rfl) Tryd.underlying123 rfl (by rw [Tryd.infoS]; rfl)) rfl ⟨rfl, hB.gr⟩
theorem rconstants_ok (w : World) : Calls Tryd.prog 73 #[] w (fun r w' => r = .returned (.agg (uc KL)) ∧ Gr w w') := by
  go_enter Tryd.func73, Tryd.ntmps73
  go_upto_region 1 with fail
  have hB := (Bl.nil w).new #[.int .u32 0, .int .u32 0, .int .u32 0, .int .u32 0, .int .u32 0, .int .u32 0, .int .u32 0, .int .u32 0, .int .u32 0, .int .u32 0, .int .u32 0, .int .u32 0, .int .u32 0, .int .u32 0, .int .u32 0, .int .u32 0, .int .u32 0, .int .u32 0, .int .u32 0, .int .u32 0, .int .u32 0, .int .u32 0, .int .u32 0, .int .u32 0, .int .u32 0, .int .u32 0, .int .u32 0, .int .u32 0, .int .u32 0, .int .u32 0, .int .u32 0, .int .u32 0, .int .u32 0, .int .u32 0, .int .u32 0, .int .u32 0, .int .u32 0, .int .u32 0, .int .u32 0, .int .u32 0, .int .u32 0, .int .u32 0, .int .u32 0, .int .u32 0, .int .u32 0, .int .u32 0, .int .u32 0, .int .u32 0, .int .u32 0, .int .u32 0, .int .u32 0, .int .u32 0, .int .u32 0, .int .u32 0, .int .u32 0, .int .u32 0, .int .u32 0, .int .u32 0, .int .u32 0, .int .u32 0, .int .u32 0, .int .u32 0, .int .u32 0, .int .u32 0] 120
  simp only [List.nil_append] at hB
  generalize World.alloc _ _ = u at *
  replace hB : Bl w [⟨w.heap.size, uc Z64, 120⟩] u := hB
  refine wp_region_lit ?_
  refine list_val (.agg (uc KL)) (by kernel_rfl) (by kernel_rfl) ?_
  simp only [Act.put, List.setIfInBounds_toArray, List.set_cons_zero, List.set_cons_succ, List.getElem_toArray, List.getElem_cons_zero, List.getElem_cons_succ]
  refine list_store 120 (.tmp 0) (.tmp 1) w.heap.size (uc KL) 120 (uc Z64) (by kernel_rfl) rfl (by kernel_rfl) (by kernel_rfl) (hB.get 0 (x := ⟨w.heap.size, uc Z64, 120⟩) rfl) (by rw [Tryd.infoW]; rfl) rfl (uc_one _) ?_
  replace hB := hB.set 0 (x := ⟨w.heap.size, uc Z64, 120⟩) rfl (uc KL)
  simp only [List.set_cons_zero, List.set_cons_succ] at hB
  generalize World.setRow _ _ _ = v1_ at *
  simp only [Act.put, List.setIfInBounds_toArray, List.set_cons_zero, List.set_cons_succ, List.getElem_toArray, List.getElem_cons_zero, List.getElem_cons_succ]
  refine wpList_nil ?_
  go_wp2_with fail
  exact bodyPost_ret (v := .agg (uc KL)) (results_cell_row Tryd.results73 _ _ w.heap.size 120 (uc KL) (0, 0) _ rfl (hB.get 0 (x := ⟨w.heap.size, uc KL, 120⟩) rfl) Tryd.underlying120 rfl (by rw [Tryd.infoW]; rfl)) rfl ⟨rfl, hB.gr⟩
def slenV : Value → Nat
  | .slice _ n _ => n
  | _ => 0
def RPadded (n : Nat) (w : World) (r : Ending) (w' : World) : Prop := ∃ v, r = .returned v ∧ Ob w.heap.size w' v (padL n) ∧ Gr w w'
set_option maxHeartbeats 2000000 in
theorem rpad_ok (n : Nat) (hn : n < 1152921504606846976) (w : World) : Calls Tryd.prog 74 #[.int .i64 n] w (RPadded n w) := by
  obtain ⟨T, hT⟩ : ∃ T, T = RPadded n w := ⟨_, rfl⟩
  rw [← hT]
  replace hT := hide hT
  obtain ⟨z, hz⟩ : ∃ z, z = nz n := ⟨_, rfl⟩
  have hz2 : z = (119 - n % 64) % 64 := hz
  have e0 : ¬ (n : Int) < 0 := by omega
  replace hz := hide hz
  go_enter Tryd.func74, Tryd.ntmps74
  go_wp2_with fail
  have hO := blk_bytes (w := w) (b := w.heap.size) [128] (Nat.le_refl _) (by unfold maxLen; simp)
  replace hO : Hid (Ob w.heap.size (w.alloc (.cells #[.int .u8 128] 5 (0, 0))) (.slice (some ⟨w.heap.size, 0, none⟩) 1 1) (128 :: List.replicate 0 0)) := hO
  have hG : Hid (Gr w (w.alloc (.cells #[.int .u8 128] 5 (0, 0)))) := (Gr.refl w).alloc _
  generalize World.alloc _ _ = u at *
  go_loopw [3] (fun p wr => ∃ (k : Nat) (a : Option Addr) (c : Nat), k ≤ z ∧ p = .slice a (k + 1) c ∧ Hid (Ob w.heap.size wr (.slice a (k + 1) c) (128 :: List.replicate k 0)) ∧ Hid (Gr w wr)) (fun p _ => 65 - slenV p)
  case atStart => exact ⟨0, _, 1, by omega, rfl, hO, hG⟩
  case round =>
  clear hO hG
  obtain ⟨k, a, c, hk, rfl, hO, hG⟩ := hrel
  have e1 : IntKind.i64.wrap ((n : Int) + ((k : Int) + 1)) = (n : Int) + ((k : Int) + 1) := by rw [IntKind.wrap_i64]; omega
  have e2 : IntKind.i64.wrap ((n : Int) + ((k : Int) + 1) + 8) = (n : Int) + ((k : Int) + 1) + 8 := by rw [IntKind.wrap_i64]; omega
  have e3 : Int.tmod ((n : Int) + ((k : Int) + 1) + 8) 64 = ((n : Int) + ((k : Int) + 1) + 8) % 64 := by rw [Int.tmod_eq_emod_of_nonneg (by omega)]
  by_cases hil : k < z
  · have e4 : ¬ ((n : Int) + ((k : Int) + 1) + 8) % 64 = 0 := by omega
    replace hz2 := hide hz2
    have hsz : Hid (w.heap.size ≤ wr.heap.size) := (unhide hG).size
    go_upto_region 5 with fail
    refine wp_region_lit ?_
    iterate 2 (refine wpList_step fun K hK => ?_; replace hK := hide hK; go_simp; refine unhide hK _ _ ?_; clear hK K)
    have hO2 := (unhide hO).gr ((Gr.refl wr).alloc (.cells #[.int .u8 0] 5))
    refine app_bs (by kernel_rfl) (.tmp 16) (.tmp 17) rfl w.heap.size (.slice a (k + 1) c) (128 :: List.replicate k 0) (by kernel_rfl) hO2 (some ⟨wr.heap.size, 0, none⟩) 1 1 [0] (by kernel_rfl) rfl (.inr ⟨_, 0, rfl, fun j hj => by rw [Nat.zero_add]; exact kc_cell (l := [0]) (blk_new _ _) j hj⟩) (by simp; have := unhide hz2; omega) (by have := unhide hsz; simp only [size_alloc]; omega) ?_
    intro v' w2 hO3 hG3
    have hG4 := hO2.grown (Nat.le_refl _) ((unhide hG).alloc _) hG3
    have hl : ((128 :: List.replicate k 0) ++ [0] : List Int) = 128 :: List.replicate (k + 1) 0 := by rw [List.cons_append, ← List.replicate_succ']
    rw [hl] at hO3
    obtain ⟨a', c', hv', _, _, _⟩ := hO3.slice
    have hv2 : v' = .slice a' (k + 1 + 1) c' := by rw [hv']; simp
    rw [hv2] at hO3
    rw [hv2]
    clear hO hG hO2 hG3 hv' hv2 hl
    replace hO3 := hide hO3
    replace hG4 := hide hG4
    simp only [Act.put, List.setIfInBounds_toArray, List.set_cons_zero, List.set_cons_succ, List.getElem_toArray, List.getElem_cons_zero, List.getElem_cons_succ]
    iterate 1 (refine wpList_step fun K hK => ?_; replace hK := hide hK; go_simp; refine unhide hK _ _ ?_; clear hK K)
    refine wpList_nil ?_
    go_wp2_with fail
    exact ⟨⟨k + 1, a', c', by omega, rfl, hO3, hG4⟩, by show 65 - (k + 1 + 1) < 65 - (k + 1); have := unhide hz2; omega⟩
  · have hkz : k = z := by omega
    subst hkz
    have e4 : ((n : Int) + ((k : Int) + 1) + 8) % 64 = 0 := by omega
    have hO2 : Hid (Ob w.heap.size wr (.slice a (k + 1 + 0) c) (padH n ++ be8 (n * 8) 0)) := by
      have := unhide hO
      unfold padH be8
      rw [List.append_nil, ← unhide hz]
      exact this
    clear hO hil
    replace hz2 := hide hz2
    go_wp2_with fail
    go_loopw [5, 3] (fun s p wr => ∃ (r : Nat) (a : Option Addr) (c : Nat), r ≤ 8 ∧ s = .int .i64 (7 - (r : Int)) ∧ p = .slice a (k + 1 + r) c ∧ Hid (Ob w.heap.size wr (.slice a (k + 1 + r) c) (padH n ++ be8 (n * 8) r)) ∧ Hid (Gr w wr)) (fun s _ _ => (intOf s + 1).toNat)
    case atStart => exact ⟨0, a, c, by omega, rfl, rfl, hO2, hG⟩
    case round =>
    clear hO2 hG
    obtain ⟨r, a, c, hr, rfl, rfl, hO, hG⟩ := hrel
    by_cases hil : r < 8
    · obtain ⟨s, hs⟩ : ∃ s, s = 7 - r := ⟨_, rfl⟩
      have g0 : 7 - (r : Int) = (s : Int) := by omega
      rw [g0]
      have g1 : 0 ≤ (s : Int) := by omega
      obtain ⟨sh, hsh⟩ : ∃ sh, sh = 8 * s := ⟨_, rfl⟩
      have g2 : 8 * (s : Int) = (sh : Int) := by omega
      have g3 : 0 ≤ (sh : Int) := by omega
      have g6 : IntKind.i64.wrap (sh : Int) = (sh : Int) := by rw [IntKind.wrap_i64]; omega
      have g7 : (sh : Int) < 64 := by omega
      obtain ⟨y, hy⟩ : ∃ y : Int, y = ((n * 8 / 2 ^ (56 - 8 * r) % 256 : Nat) : Int) := ⟨_, rfl⟩
      have g4 : IntKind.u8.wrap ((n : Int) * 8 / 2 ^ sh) = y := by
        rw [IntKind.wrap_u8', hy, hsh, hs]
        have : (2 : Int) ^ (8 * (7 - r)) = ((2 ^ (56 - 8 * r) : Nat) : Int) := by
          rw [show 8 * (7 - r) = 56 - 8 * r by omega]; simp
        rw [this, show (n : Int) * 8 = ((n * 8 : Nat) : Int) by omega]
        rfl
      have g5 : IntKind.i64.wrap ((s : Int) - 1) = (s : Int) - 1 := by rw [IntKind.wrap_i64]; omega
      have g8 : IntKind.u64.wrap ((n : Int) * 8) = (n : Int) * 8 := by rw [IntKind.wrap_u64]; omega
      have hnx : Hid ((padH n ++ be8 (n * 8) r) ++ [y] = padH n ++ be8 (n * 8) (r + 1)) := by
        have h1 : be8 (n * 8) (r + 1) = be8 (n * 8) r ++ [y] := by rw [be8, hy]
        rw [h1]
        exact List.append_assoc _ _ _
      have hsz : Hid (w.heap.size ≤ wr.heap.size) := (unhide hG).size
      have hlen : (padH n ++ be8 (n * 8) r).length ≤ 100 := by
        have := padH_len n
        have h2 := be8_len (n * 8) r
        have h3 := unhide hz
        have h4 := unhide hz2
        rw [List.length_append]
        omega
      replace hsh := hide hsh
      replace hs := hide hs
      replace hy := hide hy
      go_upto_region 10 with fail
      refine wp_region_lit ?_
      iterate 7 (refine wpList_step fun K hK => ?_; replace hK := hide hK; go_simp; refine unhide hK _ _ ?_; clear hK K)
      have hO2 := (unhide hO).gr ((Gr.refl wr).alloc (.cells #[.int .u8 y] 5))
      refine app_bs (by kernel_rfl) (.tmp 26) (.tmp 32) rfl w.heap.size (.slice a (k + 1 + r) c) _ (by kernel_rfl) hO2 (some ⟨wr.heap.size, 0, none⟩) 1 1 [y] (by kernel_rfl) rfl (.inr ⟨_, 0, rfl, fun j hj => by rw [Nat.zero_add]; exact kc_cell (l := [y]) (blk_new _ _) j hj⟩) (by omega) (by have := unhide hsz; simp only [size_alloc]; omega) ?_
      intro v' w2 hO3 hG3
      have hG4 := hO2.grown (Nat.le_refl _) ((unhide hG).alloc _) hG3
      rw [unhide hnx] at hO3
      obtain ⟨a', c', hv', _, _, _⟩ := hO3.slice
      have hv2 : v' = .slice a' (k + 1 + (r + 1)) c' := by
        rw [hv', List.length_append, padH_len, be8_len, ← unhide hz]
      rw [hv2] at hO3
      rw [hv2]
      clear hO hG hO2 hG3 hv' hv2 hnx
      replace hO3 := hide hO3
      replace hG4 := hide hG4
      simp only [Act.put, List.setIfInBounds_toArray, List.set_cons_zero, List.set_cons_succ, List.getElem_toArray, List.getElem_cons_zero, List.getElem_cons_succ]
      iterate 1 (refine wpList_step fun K hK => ?_; replace hK := hide hK; go_simp; refine unhide hK _ _ ?_; clear hK K)
      refine wpList_nil ?_
      go_wp2_with fail
      have hs1 := unhide hs
      refine ⟨⟨r + 1, a', c', by omega, by congr 1; omega, rfl, hO3, hG4⟩, ?_⟩
      show ((s : Int) - 1 + 1).toNat < ((s : Int) + 1).toNat
      omega
    · have e : r = 8 := by omega
      subst e
      have hP : Hid (RPadded n w (.returned (.slice a (k + 1 + 8) c)) wr) := ⟨_, rfl, unhide hO, unhide hG⟩
      clear hil hO hG
      go_wp2_with fail
      rw [unhide hT]
      exact unhide hP
structure Rm (b : Nat) (w : World) (v : Value) (n : Nat) (L : List Int) : Prop where
  ex : ∃ g cap cur, v = .slice (some ⟨g, 0, none⟩) n cap ∧ b ≤ g ∧ w.heap[g]? = some (.cells cur 5 (0, 0)) ∧ n + 1 ≤ cap ∧ cap ≤ maxLen ∧ cur.size = cap ∧ cur.toList.take (n + 1) = (L ++ [7]).map (Value.int .u8) ∧ L.length = n
end Go.Proofs.YtomihjeiaignnaaDoor
