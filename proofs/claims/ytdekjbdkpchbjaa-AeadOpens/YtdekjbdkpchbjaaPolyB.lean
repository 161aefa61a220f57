/-
  The reference: a place of a row, bytes as a row, sums of rows.
-/
import Derived.Test.YtdekjbdkpchbjaaPolyA
namespace Go.Proofs.Ytdekjbdkpchbjaa
open Go.RowKit
set_option maxRecDepth 100000
set_option linter.unusedSimpArgs false
set_option linter.unusedVariables false
theorem rat_ok (A : List Nat) (a : Option Addr) (n c i : Nat) (w : World) (h : Li w a n c A) : Calls Try.prog 54 #[.slice a n c, .int .i64 i] w (fun r w' => r = .returned (.int .i64 ((A.getD i 0 : Nat) : Int)) ∧ w' = w) := by
  by_cases hi : i < n
  · obtain ⟨p, o, rfl, c0⟩ := h.at_ i hi
    generalize A.getD i 0 = x at *
    have iI : (i : Int) < (n : Int) := by omega
    go_enter Try.func54, Try.ntmps54
    go_wp2_with fail
    exact bodyPost_ret (v := .int .i64 (x : Int)) (by simp [results, Try.results54, go_sem]) rfl ⟨rfl, rfl⟩
  · have iI : ¬ (i : Int) < (n : Int) := by omega
    have e : A.getD i 0 = 0 := by rw [List.getD_eq_getElem?_getD, List.getElem?_eq_none (by rw [h.len]; omega)]; rfl
    rw [e]
    go_enter Try.func54, Try.ntmps54
    go_wp2_with fail
    exact bodyPost_ret (v := .int .i64 0) (by simp [results, Try.results54, go_sem]) rfl ⟨rfl, rfl⟩
/-- a new row of numbers of which p holds -/
def Ri (P : List Nat → Prop) (w : World) (r : Ending) (w' : World) : Prop := ∃ v L, r = .returned v ∧ Oi w.heap.size w' v L ∧ P L ∧ Gr w w'
def nb (B : List Int) : List Nat := B.map Int.toNat
theorem nb_get (B : List Int) (hb : IsB B) (i : Nat) : (((nb B).getD i 0 : Nat) : Int) = B.getD i 0 := by
  have h := hb.at_ i
  rcases Nat.lt_or_ge i B.length with hi | hi
  · unfold nb
    simp [hi] at h ⊢
    omega
  · unfold nb
    simp [List.getElem?_eq_none hi]
theorem nb_allB (B : List Int) (hb : IsB B) : AllB (nb B) := fun x hx => by
  unfold nb at hx
  obtain ⟨y, hy, rfl⟩ := List.mem_map.1 hx
  have := hb y hy
  omega
theorem nb_len (B : List Int) : (nb B).length = B.length := by simp [nb]
set_option maxHeartbeats 4000000 in
theorem rrow_ok (B : List Int) (a : Option Addr) (n cap : Nat) (hbig : n ≤ 100000) (w : World) (lb : Lb w a n cap B) : Calls Try.prog 50 #[.slice a n cap] w (Ri (fun L => L = nb B) w) := by
  obtain ⟨T, hT⟩ : ∃ T, T = Ri (fun L => L = nb B) w := ⟨_, rfl⟩
  rw [← hT]
  unfold Ri at hT
  replace hT := hide hT
  have hn := hide lb.len
  have hb := hide lb.isB
  replace lb := hide lb
  have hG : Hid (Gr w w) := Gr.refl w
  go_enter Try.func50, Try.ntmps50
  go_wp2_with fail
  go_loopw [4, 3] (fun i o wr => ∃ i' : Nat, ∃ v : Value, ∃ L : List Nat, i' ≤ n ∧ i = .int .i64 i' ∧ v = o ∧ Hid (L = (nb B).take i') ∧ Hid (Oi w.heap.size wr v L) ∧ Hid (Gr w wr)) (fun i _ _ => n - (intOf i).toNat)
  case atStart => exact ⟨0, _, [], by omega, rfl, rfl, (show ([] : List Nat) = (nb B).take 0 from by simp), Oi.nil _ _, hG⟩
  case round =>
  clear hG
  obtain ⟨i, v, L, hi, rfl, rfl, hL, ob, hG⟩ := hrel
  have hLl : L.length = i := by rw [unhide hL, List.length_take, nb_len, unhide hn]; omega
  by_cases hl : i < n
  · have iI : (i : Int) < (n : Int) := by omega
    obtain ⟨bp, bo, rfl, hat⟩ : ∃ bp bo, a = some ⟨bp, bo, none⟩ ∧ Hid (At w bp bo B) := by
      rcases (unhide lb).sl with h | h
      · have := unhide hn
        rw [h] at this
        simp at this
        omega
      · exact h
    obtain ⟨x, hx⟩ : ∃ x : Nat, (x : Int) = B.getD i 0 := ⟨(nb B).getD i 0, nb_get B (unhide hb) i⟩
    have hL2 : L ++ [x] = (nb B).take (i + 1) := by
      have e : (nb B).getD i 0 = x := by have := nb_get B (unhide hb) i; omega
      have hi2 : i < (nb B).length := by rw [nb_len, unhide hn]; exact hl
      rw [unhide hL, List.take_add_one, ← e, List.getElem?_eq_getElem hi2]
      simp [hi2]
    replace hL2 := hide hL2
    have hxr : (x : Int) < 256 := by rw [hx]; exact ((unhide hb).at_ i).2
    replace hx := hide hx
    have e1 : IntKind.i64.wrap (x : Int) = (x : Int) := by rw [IntKind.wrap_i64]; omega
    go_upto_region 5 with fail
    replace hG := unhide hG
    replace ob := unhide ob
    refine wp_region_lit ?_
    refine list_val v (by kernel_rfl) (by kernel_rfl) ?_
    simp only [Act.put, List.setIfInBounds_toArray, List.set_cons_zero, List.set_cons_succ, List.getElem_toArray, List.getElem_cons_zero, List.getElem_cons_succ]
    refine list_val (.slice (some ⟨bp, bo, none⟩) n cap) (by kernel_rfl) (by kernel_rfl) ?_
    simp only [Act.put, List.setIfInBounds_toArray, List.set_cons_zero, List.set_cons_succ, List.getElem_toArray, List.getElem_cons_zero, List.getElem_cons_succ]
    refine list_val (.int .i64 i) (by kernel_rfl) (by kernel_rfl) ?_
    simp only [Act.put, List.setIfInBounds_toArray, List.set_cons_zero, List.set_cons_succ, List.getElem_toArray, List.getElem_cons_zero, List.getElem_cons_succ]
    refine list_val (.pointer (some ⟨bp, bo + i, none⟩)) (by kernel_rfl) (by go_simp) ?_
    simp only [Act.put, List.setIfInBounds_toArray, List.set_cons_zero, List.set_cons_succ, List.getElem_toArray, List.getElem_cons_zero, List.getElem_cons_succ]
    have c0 := ((unhide hat).gr hG) i (by rw [unhide hn]; exact hl)
    rw [← unhide hx] at c0
    refine list_val (.int .u8 (x : Int)) (by kernel_rfl) (by go_simp) ?_
    simp only [Act.put, List.setIfInBounds_toArray, List.set_cons_zero, List.set_cons_succ, List.getElem_toArray, List.getElem_cons_zero, List.getElem_cons_succ]
    clear c0
    refine list_val (.int .i64 (x : Int)) (by kernel_rfl) (by go_simp) ?_
    simp only [Act.put, List.setIfInBounds_toArray, List.set_cons_zero, List.set_cons_succ, List.getElem_toArray, List.getElem_cons_zero, List.getElem_cons_succ]
    refine list_valw (.slice (some ⟨wr.heap.size, 0, none⟩) 1 1) (wr.alloc (.cells #[.int .i64 (x : Int)] 3 (0, 0))) (by kernel_rfl) (by kernel_rfl) ?_
    simp only [Act.put, List.setIfInBounds_toArray, List.set_cons_zero, List.set_cons_succ, List.getElem_toArray, List.getElem_cons_zero, List.getElem_cons_succ]
    have hnew := blk_new wr (.cells #[.int .i64 (x : Int)] 3 (0, 0))
    have hgx := (Gr.refl wr).alloc (.cells #[.int .i64 (x : Int)] 3 (0, 0))
    replace hG := hG.trans hgx
    replace ob := ob.gr hgx
    clear hgx
    generalize World.alloc _ _ = w1 at *
    generalize wr.heap.size = g1 at *
    refine app_int rfl (.tmp 11) (.tmp 17) rfl w.heap.size v L rfl ob g1 x _ rfl hnew (by omega) hG.size ?_
    intro v2 w2 ob2 hgr
    simp only [Act.put, List.setIfInBounds_toArray, List.set_cons_zero, List.set_cons_succ, List.getElem_toArray, List.getElem_cons_zero, List.getElem_cons_succ]
    replace hG := Oi.grown ob (Nat.le_refl _) hG hgr
    clear hgr hnew ob
    (refine wpList_step fun K hK => ?_; replace hK := hide hK; go_simp; refine unhide hK _ _ ?_; clear hK K)
    refine wpList_nil ?_
    replace hG := hide hG
    replace ob2 := hide ob2
    clear hx
    go_wp2_with fail
    go_roundw
    case rel => exact ⟨i + 1, v2, _, by omega, by go_num, rfl, hL2, ob2, hG⟩
    case measure => simp [intOf]; omega
  · have iI : ¬ (i : Int) < (n : Int) := by omega
    have hP : Hid (∃ v' L, Ending.returned v = .returned v' ∧ Oi w.heap.size wr v' L ∧ L = nb B ∧ Gr w wr) := ⟨v, L, rfl, unhide ob, by rw [unhide hL]; exact List.take_of_length_le (by rw [nb_len, unhide hn]; omega), unhide hG⟩
    clear ob hG hL
    go_wp2_with fail
    rw [unhide hT]
    exact unhide hP
end Go.Proofs.Ytdekjbdkpchbjaa
