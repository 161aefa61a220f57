/-
  The reference: Add, Sub.
-/
import Derived.Test.YtjncnmhigikdoaaFold
import Derived.Deep.RegionHeld3
namespace Go.Proofs.Ytjncnmhigikdoaa
open Go.RowKit
set_option maxRecDepth 100000
set_option linter.unusedSimpArgs false
attribute [local go_sem ↓] Go.wp_at_zero Go.wp_at_succ

theorem made_zeros (n : Nat) : madeCells (Value.int .i64 0).cells n = ((List.replicate n (0 : Int)).map (Value.int .i64)).toArray := by
  apply Array.ext
  · simp [size_madeCells]
  · intro i h1 h2
    have : i % 1 = 0 := Nat.mod_one i
    simp [madeCells, Value.cells, this]
theorem wpList_make_ints (w : World) {ops : Array Oper} {rest : List Oper} {o : Oper} {a : Act} {Q : Exit → Act → World → Prop}
    (hg : o.guard = none) (l : Operand) (hop : o.op = Op.makeSlice 52 l l) (n : Nat) (hl : a.eval l = .int .i64 (n : Int)) (hn : n ≤ 1000)
    (hK : ∀ w', Hid (OR w' w.heap.size n n (List.replicate n 0)) → Gr w w' → wpList Try.prog ops Q rest (a.put o.dst (.slice (some ⟨w.heap.size, 0, none⟩) n n)) w') :
    wpList Try.prog ops Q (o :: rest) a w := by
  obtain ⟨i, h2, h3, h4, h5⟩ := info_parts Try.info3'
  refine wpList_plain hg fun K hK' => ?_
  have hrun := run_make (P := Try.prog) w 52 3 i (.int .i64 0) Try.underlying52 h2 h3 .i64 .i64 (n : Int) (n : Int) (by omega) (by omega) (by rw [h5]; omega) (by omega)
  rw [h4] at hrun
  simp only [Int.toNat_natCast, Nat.mul_one, made_zeros] at hrun
  unfold Oper.wp
  simp [execOp, hop, hl, hrun, Result.andThen]
  refine hK' _ _ (hK _ ?_ ((Gr.refl w).alloc _))
  refine ⟨by simp, Nat.le_refl _, by unfold maxLen; omega, _, ?_, blk_new w _, ?_⟩
  · simp
  · simp

/-- the sums so far -/
def sm (A B : Int) (k : Nat) : List Int := (List.range 32).map (fun j => if j < k then A / 256 ^ j % 256 + B / 256 ^ j % 256 else 0)
theorem sm_len (A B : Int) (k : Nat) : (sm A B k).length = 32 := by simp [sm]
theorem sm_zero (A B : Int) : sm A B 0 = List.replicate 32 0 := by
  unfold sm
  simp
  rfl
theorem sm_set (A B : Int) (k : Nat) : (sm A B k).set k (A / 256 ^ k % 256 + B / 256 ^ k % 256) = sm A B (k + 1) := by
  apply List.ext_getElem
  · simp [sm]
  · intro i h1 h2
    simp only [sm, List.getElem_set, List.getElem_map, List.getElem_range]
    by_cases e : k = i
    · subst e; simp
    · rw [if_neg e]
      by_cases e2 : i < k
      · rw [if_pos e2, if_pos (by omega)]
      · rw [if_neg e2, if_neg (by omega)]
theorem vl_digs (n : Int) (h : 0 ≤ n ∧ n < 115792089237316195423570985008687907853269984665640564039457584007913129639936) : vl (digs n 32) = n := by
  have hD : Dig (digs n 32) := fun x hx => digs_by n 32 x hx
  have hb := vl_bd _ hD
  rw [digs_len] at hb
  have e256 : (256 : Int) ^ 32 = 115792089237316195423570985008687907853269984665640564039457584007913129639936 := by decide
  rw [e256] at hb
  have hdig := fun i => vl_digit (digs n 32) i hD
  generalize vl (digs n 32) = v at *
  apply digs_inj _ _ hb h
  apply List.ext_getElem
  · simp [digs]
  · intro i h1 h2
    have hi : i < 32 := by simpa [digs] using h2
    have := hdig i
    rw [digs_getD n i hi] at this
    simp only [digs, List.getElem_map, List.getElem_range, if_pos hi]
    exact this.symm
theorem vl_add (f g : Nat → Int) : ∀ n, vl ((List.range n).map (fun j => f j + g j)) = vl ((List.range n).map f) + vl ((List.range n).map g) := by
  intro n
  induction n with
  | zero => simp [vl]
  | succ n ih =>
    rw [List.range_succ, List.map_append, List.map_append, List.map_append, vl_append, vl_append, vl_append, ih]
    simp only [List.length_map, List.length_range, List.map_cons, List.map_nil, vl]
    grind
theorem vl_sm (A B : Int) (hA : 0 ≤ A ∧ A < 115792089237316195423570985008687907853269984665640564039457584007913129639936) (hB : 0 ≤ B ∧ B < 115792089237316195423570985008687907853269984665640564039457584007913129639936) : vl (sm A B 32) = A + B := by
  have e1 : sm A B 32 = (List.range 32).map (fun j => A / 256 ^ j % 256 + B / 256 ^ j % 256) := by
    unfold sm
    apply List.map_congr_left
    intro j hj
    rw [if_pos (by simpa using hj)]
  have e2 : ∀ n : Int, digs n 32 = (List.range 32).map (fun j => n / 256 ^ j % 256) := by
    intro n
    unfold digs
    apply List.map_congr_left
    intro j hj
    rw [if_pos (by simpa using hj)]
  rw [e1, vl_add (fun j => A / 256 ^ j % 256) (fun j => B / 256 ^ j % 256) 32, ← e2 A, ← e2 B, vl_digs A hA, vl_digs B hB]
theorem sm_bd (A B : Int) (k j : Nat) : 0 ≤ (sm A B k).getD j 0 ∧ (sm A B k).getD j 0 < 1099511627776 := by
  unfold sm
  rw [List.getD_eq_getElem?_getD]
  by_cases h : j < 32
  · rw [List.getElem?_map, List.getElem?_range h]
    simp
    split <;> omega
  · rw [List.getElem?_eq_none (by simpa using h)]
    simp

/-- a world with but its first n blocks -/
theorem cut_world (w : World) (n : Nat) (h : n ≤ w.heap.size) : ∃ w0 : World, Gr w0 w ∧ w0.heap.size = n ∧ ∀ i, i < n → w0.heap[i]? = w.heap[i]? := by
  refine ⟨{ w with heap := w.heap.extract 0 n }, ⟨rfl, rfl, rfl, ?_, ?_⟩, ?_, ?_⟩
  · simp; omega
  · intro i hi
    have hi2 : i < n := by simp at hi; omega
    simp [Array.getElem?_extract, hi2]
    omega
  · simp; omega
  · intro i hi
    simp [Array.getElem?_extract, hi]
    omega

/-- the loop of Add -/
def AS (w v : World) (A B : Int) (k : Nat) : Prop := Gr w v ∧ KB v w.heap.size (digs A 32) ∧ KB v (w.heap.size + 1) (digs B 32) ∧ KB v (w.heap.size + 1 + 1) (digs 0 0) ∧ OR v (w.heap.size + 1 + 1 + 1) 32 32 (sm A B k)

set_option maxHeartbeats 2000000 in
theorem radd_ok (A B : Int) (w : World) (hA : 0 ≤ A ∧ A < 115792089237316195423570985008687907853269984665640564039457584007913129639936) (hB : 0 ≤ B ∧ B < 115792089237316195423570985008687907853269984665640564039457584007913129639936) :
    Calls Try.prog 18 #[.agg (kc (digs A 32)), .agg (kc (digs B 32))] w (fun r w' => r = .returned (.agg (kc (digs ((A + B) % pp) 32))) ∧ Gr w w') := by
  have hv := vl_sm A B hA hB
  have hbd : A + B < bd 3 := by have e : bd 3 = 4515891480255331621519268415338828406277529401959981997538845776308612055957504 := rfl; rw [e]; omega
  replace hv := hide hv
  replace hbd := hide hbd
  clear hA hB
  go_enter Try.func18, Try.ntmps18
  go_upto_region 1 with fail
  generalize hW : World.alloc _ _ = u
  have h1 : Gr w u ∧ KB u w.heap.size (digs A 32) ∧ KB u (w.heap.size + 1) (digs B 32) ∧ KB u (w.heap.size + 1 + 1) (digs 0 0) ∧ u.heap.size = w.heap.size + 1 + 1 + 1 := by
    rw [← hW]
    refine ⟨(((Gr.refl w).alloc _).alloc _).alloc _, (three3 w _ _ _).1, (three3 w _ _ _).2.1, ?_, by simp only [size_alloc]⟩
    unfold KB; rw [kc_zero]; exact (three3 w _ _ _).2.2
  clear hW
  obtain ⟨g1, g2, g3, g4, hsz⟩ := h1
  go_wp2_with (at_make; refine wpList_make_ints _ rfl _ rfl 32 rfl (by omega) ?_; intro w2 hO hg)
  have hS : Hid (AS w w2 A B 0) := hide ⟨g1.trans hg, g2.gr hg, g3.gr hg, g4.gr hg, by rw [sm_zero, ← hsz]; exact unhide hO⟩
  try rw [hsz]
  clear hO hg g1 g2 g3 g4 hsz
  go_loopw [10] (fun i wr => ∃ k : Nat, k ≤ 32 ∧ i = .int .i64 k ∧ Hid (AS w wr A B k)) (fun i _ => 32 - (intOf i).toNat)
  case atStart => exact ⟨0, by omega, rfl, hS⟩
  case round =>
  clear hS
  obtain ⟨k, hk, rfl, hS⟩ := hrel
  by_cases hkl : k < 32
  · obtain ⟨g1, g2, g3, g4, hO⟩ := unhide hS
    have cA := key_cell g2 k hkl
    have cB := key_cell g3 k hkl
    have cl := hO.cell k hkl
    have fl := hO.froz k
    have hst := hide (sm_set A B k)
    have bx : 0 ≤ A / 256 ^ k % 256 ∧ A / 256 ^ k % 256 < 256 := by omega
    have byy : 0 ≤ B / 256 ^ k % 256 ∧ B / 256 ^ k % 256 < 256 := by omega
    generalize A / 256 ^ k % 256 = x at *
    generalize B / 256 ^ k % 256 = y at *
    generalize (sm A B k).getD k 0 = old at cl
    have hS2 : Hid (AS w (wr.drew.setCell ⟨w.heap.size + 1 + 1 + 1, k, none⟩ (.int .i64 (x + y))) A B (k + 1)) := by
      refine hide ⟨g1.drew.setCell (by show w.heap.size ≤ w.heap.size + 1 + 1 + 1; omega) _, KB.other (w := wr.drew) g2 (by omega), KB.other (w := wr.drew) g3 (by omega), KB.other (w := wr.drew) g4 (by omega), ?_⟩
      rw [← unhide hst]
      exact OR.set (w := wr.drew) hO k (x + y)
    clear g1 g2 g3 g4 hO hst hS
    have hkeep : Hid (∀ z : Value, (wr.setCell ⟨w.heap.size + 1 + 1 + 1, k, none⟩ z).drew.cell? ⟨w.heap.size, k, none⟩ = some (.int .u8 x) ∧ (wr.setCell ⟨w.heap.size + 1 + 1 + 1, k, none⟩ z).drew.cell? ⟨w.heap.size + 1, k, none⟩ = some (.int .u8 y)) := by
      refine hide (fun z => ⟨?_, ?_⟩)
      · exact (World.cell?_setCell_far wr ⟨w.heap.size + 1 + 1 + 1, k, none⟩ ⟨w.heap.size, k, none⟩ z (by show w.heap.size + 1 + 1 + 1 ≠ w.heap.size; omega)).trans cA
      · exact (World.cell?_setCell_far wr ⟨w.heap.size + 1 + 1 + 1, k, none⟩ ⟨w.heap.size + 1, k, none⟩ z (by show w.heap.size + 1 + 1 + 1 ≠ w.heap.size + 1; omega)).trans cB
    have wx : IntKind.i64.wrap x = x := by rw [IntKind.wrap_i64]; omega
    have wy : IntKind.i64.wrap y = y := by rw [IntKind.wrap_i64]; omega
    have wxy : IntKind.i64.wrap (x + y) = x + y := by rw [IntKind.wrap_i64]; omega
    go_upto_region 5 with fail
    go_region_held3 (fun v => v.cell? ⟨w.heap.size, k, none⟩ = some (.int .u8 x) ∧ v.cell? ⟨w.heap.size + 1, k, none⟩ = some (.int .u8 y)) (first | exact unhide hkeep _ | go_keep) (fail)
    go_wp2_with fail
    go_roundw
    case rel => exact ⟨k + 1, by omega, by go_num, hS2⟩
    case measure => simp [intOf]; omega
  · have ek : k = 32 := by omega
    subst ek
    obtain ⟨g1, g2, g3, g4, hO⟩ := unhide hS
    have hgl : w.heap.size + 1 + 1 < wr.heap.size := lt_of_block g4
    obtain ⟨V, hV⟩ : ∃ V, V = (A + B) % pp := ⟨_, rfl⟩
    have hF : Hid (Calls Try.prog 34 #[.slice (some ⟨w.heap.size + 1 + 1 + 1, 0, none⟩) 32 32] wr (fun r w' => r = .returned (.agg (kc (digs V 32))) ∧ KB w' (w.heap.size + 1 + 1) (digs 0 0) ∧ Gr w w')) := by
      obtain ⟨w0, hw0, hsz0, hb0⟩ := cut_world wr (w.heap.size + 1 + 1 + 1) (by omega)
      refine hide ((fold_ok w0 wr (w.heap.size + 1 + 1 + 1) 32 32 (sm A B 32) V 3 hw0 (by omega) hO (.inl rfl) (fun j _ => sm_bd A B 32 j) (by rw [unhide hv, hV]) (by omega) (by rw [unhide hv]; exact unhide hbd)).mono ?_)
      rintro r w5 ⟨rfl, hg5⟩
      have gx : ∀ i, i < w.heap.size + 1 + 1 + 1 → w5.heap[i]? = wr.heap[i]? := fun i hi => (hg5.block i (by omega)).trans (hb0 i hi)
      refine ⟨rfl, (gx _ (by omega)).trans g4, hg5.os.trans (hw0.os.symm.trans g1.os), hg5.tape.trans (hw0.tape.symm.trans g1.tape), hg5.output.trans (hw0.output.symm.trans g1.output), by have := hg5.size; omega, fun i hi => (gx i (by omega)).trans (g1.block i hi)⟩
    have e0 := hide hV
    clear g1 g2 g3 g4 hO hS hV hv hbd
    go_wp2_with (first | (go_at_call 34; refine (unhide hF).mono ?_; rintro rr w5 ⟨rfl, hR, hG⟩; replace hR := hide hR; replace hG := hide hG) | (refine wpList_store_row rfl 23 (.tmp 4) (.tmp 27) rfl (w.heap.size + 1 + 1) (kc (digs V 32)) rfl rfl 23 (kc (digs 0 0)) (by exact unhide hR) (by rw [Try.infoKey, kc_size, digs_len]) (by rw [kc_size, kc_size, digs_len, digs_len]) (kc_one _) ?_))
    refine bodyPost_ret (v := .agg (kc (digs V 32))) (results_cell_row Try.results18 _ _ (w.heap.size + 1 + 1) 23 (kc (digs V 32)) (0, 0) _ rfl (setRow_heap w5 (w.heap.size + 1 + 1) _ _ 23 _ (unhide hR)) Try.underlying23 rfl (by rw [Try.infoKey, kc_size, digs_len])) rfl ⟨by rw [unhide e0], ?_⟩
    exact below_setRow (unhide hG) (by omega) _
end Go.Proofs.Ytjncnmhigikdoaa
