/-
  With what bytes are filled up.
-/
import Derived.Test.YthnmebhljkccnaaDoorShaTake
import Derived.OwnWalk
namespace Go.Proofs.YthnmebhljkccnaaDoor
open Go.RowKit
set_option maxRecDepth 100000
set_option linter.unusedSimpArgs false

/-- the first r of eight bytes, the highest first -/
def be8 (X : Nat) : Nat → List Int
  | 0 => []
  | r + 1 => be8 X r ++ [((X / 2 ^ (56 - 8 * r) % 256 : Nat) : Int)]
theorem be8_len (X : Nat) : ∀ r, (be8 X r).length = r
  | 0 => rfl
  | r + 1 => by rw [be8, List.length_append, be8_len X r]; rfl
def nz (n : Nat) : Nat := (119 - n % 64) % 64
def padH (n : Nat) : List Int := 128 :: List.replicate (nz n) 0
def padL (n : Nat) : List Int := padH n ++ be8 (n * 8) 8
theorem padH_len (n : Nat) : (padH n).length = nz n + 1 := by unfold padH; simp
theorem padL_len (n : Nat) : (padL n).length = nz n + 9 := by unfold padL; rw [List.length_append, padH_len, be8_len]
theorem padL_whole (n : Nat) : (n + (padL n).length) % 64 = 0 := by rw [padL_len]; unfold nz; omega
theorem be8_isB (X : Nat) : ∀ r, IsB (be8 X r)
  | 0 => by intro x hx; cases hx
  | r + 1 => by
    intro x hx
    rw [be8] at hx
    rcases List.mem_append.1 hx with h | h
    · exact be8_isB X r x h
    · have : x = ((X / 2 ^ (56 - 8 * r) % 256 : Nat) : Int) := by simpa using h
      omega
theorem padL_isB (n : Nat) : IsB (padL n) := by
  intro x hx
  rcases List.mem_append.1 hx with h | h
  · rcases List.mem_cons.1 h with h | h
    · omega
    · have := List.eq_of_mem_replicate h
      omega
  · exact be8_isB _ _ x h
theorem Tryd.info5 : (Tryd.prog.info? 5).map (fun i => (i.zero, i.size, i.bytes)) = some (some (.int .u8 0), 1, 1) := by kernel_rfl

/-- a slice is made, with room behind it -/
theorem wpList_make_room (w : World) {ops : Array Oper} {rest : List Oper} {o : Oper} {a : Act} {Q : Exit → Act → World → Prop}
    (hg : o.guard = none) (l c : Operand) (hop : o.op = Op.makeSlice 22 l c) (L C : Int) (n m : Nat) (hl : a.eval l = .int .i64 L) (hc : a.eval c = .int .i64 C) (hL : L = (n : Int)) (hC : C = (m : Int)) (hnm : n ≤ m) (hn : m ≤ 281474976710656)
    (hK : wpList Tryd.prog ops Q rest (a.put o.dst (.slice (some ⟨w.heap.size, 0, none⟩) n m)) (w.alloc (.cells (kc (List.replicate m 0)) 5 (0, 0)))) :
    wpList Tryd.prog ops Q (o :: rest) a w := by
  obtain ⟨i, h2, h3, h4, h5⟩ := info_parts Tryd.info5
  subst hL hC
  refine wpList_plain hg fun K hK' => ?_
  have hrun := run_make (P := Tryd.prog) w 22 5 i (.int .u8 0) Tryd.underlying22 h2 h3 .i64 .i64 (n : Int) (m : Int) (by omega) (by omega) (by rw [h5]; omega) (by omega)
  rw [h4] at hrun
  have e : madeCells (Value.int .u8 0).cells m = kc (List.replicate m 0) := by
    apply Array.ext
    · simp [size_madeCells, kc]
    · intro i h1 h2
      have : i % 1 = 0 := Nat.mod_one i
      simp [madeCells, Value.cells, this, kc]
  simp only [Int.toNat_natCast, Nat.mul_one, e] at hrun
  unfold Oper.wp
  simp [execOp, hop, hl, hc, hrun, Result.andThen]
  exact hK' _ _ hK

theorem own_gr {B m : Nat} {v : Value} {xs : List Value} {w u : World} (h : w.ownsRow B 5 1 v m xs) (k : Gr w u) : u.ownsRow B 5 1 v m xs := by
  obtain ⟨h1, h2 | ⟨g, cap, cur, h2, h3, h4, h5⟩⟩ := h
  · exact ⟨h1, .inl h2⟩
  · exact ⟨h1, .inr ⟨g, cap, cur, h2, h3, k.blk h4, h5⟩⟩
theorem grown_gr {w u v : World} {g : Nat} (h : Gr w u) (k : u.grownBy v (some g)) (hg : w.heap.size ≤ g) : Gr w v :=
  ⟨k.os.trans h.os, k.tape.trans h.tape, k.output.trans h.output, Nat.le_trans h.size k.size, fun i hi => (k.block i (Nat.lt_of_lt_of_le hi h.size) (by simp; omega)).trans (h.block i hi)⟩
/-- what Pad answers -/
def Padded (n : Nat) (w : World) (r : Ending) (w' : World) : Prop := ∃ g, r = .returned (.slice (some ⟨g, 0, none⟩) (nz n + 9) (nz n + 9)) ∧ w.heap.size ≤ g ∧ w'.heap[g]? = some (.cells (kc (padL n)) 5 (0, 0)) ∧ Gr w w'

set_option maxHeartbeats 2000000 in
theorem pad_ok (n : Nat) (hn : n < 1152921504606846976) (w : World) : Calls Tryd.prog 44 #[.int .i64 n] w (Padded n w) := by
  obtain ⟨T, hT⟩ : ∃ T, T = Padded n w := ⟨_, rfl⟩
  rw [← hT]
  replace hT := hide hT
  obtain ⟨z, hz⟩ : ∃ z, z = nz n := ⟨_, rfl⟩
  obtain ⟨q, hq⟩ : ∃ q, q = n % 64 := ⟨_, rfl⟩
  have hz2 : z = (119 - q) % 64 := by rw [hz, hq]; rfl
  have e0 : ¬ (n : Int) < 0 := by omega
  have e1 : Int.tmod (n : Int) 64 = (q : Int) := by rw [Int.tmod_eq_emod_of_nonneg (by omega)]; omega
  have e2 : IntKind.i64.wrap (119 - (q : Int)) = 119 - (q : Int) := by rw [IntKind.wrap_i64]; omega
  have e3 : Int.tmod (119 - (q : Int)) 64 = (z : Int) := by rw [Int.tmod_eq_emod_of_nonneg (by omega)]; omega
  have e4 : IntKind.i64.wrap (q : Int) = (q : Int) := by rw [IntKind.wrap_i64]; omega
  have e5 : IntKind.i64.wrap (z : Int) = (z : Int) := by rw [IntKind.wrap_i64]; omega
  have hz3 : z < 64 := by omega
  have e6 : IntKind.i64.wrap (1 + (z : Int)) = 1 + (z : Int) := by rw [IntKind.wrap_i64]; omega
  have e7 : IntKind.i64.wrap (1 + (z : Int) + 8) = 1 + (z : Int) + 8 := by rw [IntKind.wrap_i64]; omega
  replace hz := hide hz
  replace hq := hide hq
  replace hz2 := hide hz2
  go_enter Tryd.func44, Tryd.ntmps44
  go_wp2_with (at_make; refine wpList_make_room _ rfl (.tmp 14) (.tmp 17) rfl _ _ (z + 1) (z + 9) rfl rfl (by omega) (by omega) (by omega) (by omega) ?_)
  obtain ⟨i, h2, h3, h4, h5⟩ := info_parts Tryd.info5
  have hR : Hid ((w.alloc (.cells ((kc (List.replicate (z + 9) 0)).setIfInBounds 0 (.int .u8 128)) 5)).ownsRow w.heap.size 5 1 (.slice (some ⟨w.heap.size, 0, none⟩) (z + 1) (z + 9)) (z + 1) ((padH n ++ be8 (n * 8) 0).map (Value.int .u8))) := by
    rw [kc_set]
    refine ⟨?_, .inr ⟨w.heap.size, z + 9, _, rfl, Nat.le_refl _, blk_new _ _, by omega, by unfold maxLen; omega, ?_, ?_⟩⟩
    · rw [List.length_map, List.length_append, padH_len, be8_len, ← unhide hz]
      omega
    · rw [kc_size, List.length_set, List.length_replicate, Nat.mul_one]
    · unfold kc padH be8
      rw [← unhide hz, List.append_nil]
      show (List.map _ _).take _ = _
      rw [← List.map_take, show z + 9 = (z + 8) + 1 by omega, List.replicate_succ, List.set_cons_zero, Nat.mul_one, List.take_succ_cons, List.take_replicate, Nat.min_eq_left (by omega)]
  have hG : Hid (Gr w (w.alloc (.cells ((kc (List.replicate (z + 9) 0)).setIfInBounds 0 (.int .u8 128)) 5))) := (Gr.refl w).alloc _
  generalize World.alloc _ _ = u at *
  go_loopw [6, 4] (fun s p wr => ∃ r : Nat, r ≤ 8 ∧ s = .int .i64 (56 - 8 * (r : Int)) ∧ p = .slice (some ⟨w.heap.size, 0, none⟩) (z + 1 + r) (z + 9) ∧ Hid (wr.ownsRow w.heap.size 5 1 (.slice (some ⟨w.heap.size, 0, none⟩) (z + 1 + r) (z + 9)) (z + 1 + r) ((padH n ++ be8 (n * 8) r).map (Value.int .u8))) ∧ Hid (Gr w wr)) (fun s _ _ => (intOf s + 8).toNat)
  case atStart => exact ⟨0, by omega, rfl, rfl, hR, hG⟩
  case round =>
  clear hR hG
  obtain ⟨r, hr, rfl, rfl, hR, hG⟩ := hrel
  by_cases hil : r < 8
  · obtain ⟨sh, hsh⟩ : ∃ sh, sh = 56 - 8 * r := ⟨_, rfl⟩
    have g0 : 56 - 8 * (r : Int) = (sh : Int) := by omega
    rw [g0]
    have g1 : 0 ≤ (sh : Int) := by omega
    have g2 : (sh : Int) ≤ 64 := by omega
    have g3 : (sh : Int) < 64 := by omega
    obtain ⟨y, hy⟩ : ∃ y : Int, y = ((n * 8 / 2 ^ (56 - 8 * r) % 256 : Nat) : Int) := ⟨_, rfl⟩
    have g4 : IntKind.u8.wrap ((n : Int) * 8 / 2 ^ sh) = y := by
      rw [IntKind.wrap_u8', hy, hsh]
      have : (2 : Int) ^ (56 - 8 * r) = ((2 ^ (56 - 8 * r) : Nat) : Int) := by simp
      rw [this, show (n : Int) * 8 = ((n * 8 : Nat) : Int) by omega]
      rfl
    have g5 : IntKind.i64.wrap ((sh : Int) - 8) = (sh : Int) - 8 := by rw [IntKind.wrap_i64]; omega
    have hnx : Hid ((padH n ++ be8 (n * 8) r).map (Value.int .u8) ++ [.int .u8 y] = (padH n ++ be8 (n * 8) (r + 1)).map (Value.int .u8)) := by
      rw [be8, ← List.append_assoc, List.map_append (l₁ := padH n ++ be8 (n * 8) r), hy]
      rfl
    have hsz : Hid (w.heap.size ≤ wr.heap.size) := (unhide hG).size
    replace hsh := hide hsh
    replace hy := hide hy
    go_wp2_with (at_builtin; refine wpList_append_fits _ rfl (.tmp 28) (.tmp 33) 22 rfl w.heap.size 5 i 1 Tryd.underlying22 h2 h4 w.heap.size (z + 1 + r) (z + 9) _ rfl (own_gr (unhide hR) ((Gr.refl wr).alloc _)) ⟨wr.heap.size, 0, none⟩ 1 1 [.int .u8 y] rfl rfl (by intro j u hj; have hj0 : j = 0 := (by have := (List.getElem?_eq_some_iff.1 hj).1; simp at this; exact this); subst hj0; simp only [List.getElem?_cons_zero, Option.some.injEq] at hj; subst hj; exact cell_of (blk_new _ _) rfl) (by intro u hu; simp at hu; subst hu; rfl) (by omega) ?_; intro w2 hR2 hG2)
    have hs1 := unhide hsh
    refine ⟨⟨r + 1, by omega, by congr 1; omega, rfl, ?_, ?_⟩, ?_⟩
    · rw [unhide hnx] at hR2
      exact hR2
    · exact grown_gr ((unhide hG).alloc _) hG2 (Nat.le_refl _)
    · show ((sh : Int) - 8 + 8).toNat < ((sh : Int) + 8).toNat
      omega
  · have e : r = 8 := by omega
    subst e
    have hP : Hid (Padded n w (.returned (.slice (some ⟨w.heap.size, 0, none⟩) (z + 1 + 8) (z + 9))) wr) := by
      obtain ⟨h6, ⟨h7, h8⟩ | ⟨g, cap, cur, h7, h8, h9, h10, h11, h12, h13⟩⟩ := unhide hR
      · cases h7
      · simp only [Value.slice.injEq, Option.some.injEq, Addr.mk.injEq] at h7
        obtain ⟨⟨hg0, _⟩, _, hcap⟩ := h7
        refine ⟨w.heap.size, by rw [← unhide hz], Nat.le_refl _, ?_, unhide hG⟩
        rw [hg0, h9]
        have hcur : cur = kc (padL n) := by
          have h14 : cur.toList.take ((z + 1 + 8) * 1) = cur.toList := List.take_of_length_le (by rw [Array.length_toList, h12]; omega)
          rw [h14] at h13
          unfold kc padL
          rw [← h13]
        rw [hcur]
    clear hil hR hG
    go_wp2_with fail
    rw [unhide hT]
    exact unhide hP
end Go.Proofs.YthnmebhljkccnaaDoor
