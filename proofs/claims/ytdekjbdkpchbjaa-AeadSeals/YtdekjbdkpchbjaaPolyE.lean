/-
  The reference: what is left of a row behind 130 bits, and the lowest of them.
-/
import Derived.Test.YtdekjbdkpchbjaaPolyD
namespace Go.Proofs.Ytdekjbdkpchbjaa
open Go.RowKit
set_option maxRecDepth 100000
set_option linter.unusedSimpArgs false
set_option linter.unusedVariables false
/-- two new rows -/
def Hi (A : List Nat) (w : World) (r : Ending) (w' : World) : Prop := ∃ vu vl U L, r = .returned (.tuple #[vu, vl]) ∧ Oi w.heap.size w' vu U ∧ Oi w.heap.size w' vl L ∧ AllB U ∧ AllB L ∧ V U = V A / Q130 ∧ V L = V A % Q130 ∧ U.length = A.length - 16 ∧ L.length = 17 ∧ Gr w w'
set_option maxHeartbeats 4000000 in
theorem rhigh_ok (A : List Nat) (hA : AllB A) (a : Option Addr) (n ca : Nat) (hbn : n ≤ 100000) (w : World) (la : Li w a n ca A) : Calls Try.prog 62 #[.slice a n ca] w (Hi A w) := by
  obtain ⟨T, hT⟩ : ∃ T, T = Hi A w := ⟨_, rfl⟩
  rw [← hT]
  unfold Hi at hT
  replace hT := hide hT
  have hn := hide la.len
  replace la := hide la
  replace hA := hide hA
  have hG : Hid (Gr w w) := Gr.refl w
  go_enter Try.func62, Try.ntmps62
  go_wp2_with fail
  go_loopw [6, 4] (fun i o wr => ∃ i' : Nat, ∃ v : Value, ∃ L : List Nat, i' ≤ 16 ∧ i = .int .i64 i' ∧ v = o ∧ Hid (L = (List.range i').map (fun j => A.getD j 0)) ∧ Hid (Oi w.heap.size wr v L) ∧ Hid (Gr w wr)) (fun i _ _ => 16 - (intOf i).toNat)
  case atStart => exact ⟨0, _, [], by omega, rfl, rfl, rfl, Oi.nil _ _, hG⟩
  case round =>
  clear hG
  obtain ⟨i, v, L, hi, rfl, rfl, hL, ob, hG⟩ := hrel
  have hLl : L.length = i := by rw [unhide hL]; simp
  by_cases hl : i < 16
  · have iI : (i : Int) < 16 := by omega
    obtain ⟨x, hx⟩ : ∃ x, x = A.getD i 0 := ⟨_, rfl⟩
    have hL2 : Hid (L ++ [x] = (List.range (i + 1)).map (fun j => A.getD j 0)) := by
      rw [unhide hL, List.range_succ, List.map_append, hx]
      exact rfl
    replace hx := hide hx
    go_upto_region 5 with fail
    replace hG := unhide hG
    replace ob := unhide ob
    refine wp_region_lit ?_
    refine list_val v (by kernel_rfl) (by kernel_rfl) ?_
    simp only [Act.put, List.setIfInBounds_toArray, List.set_cons_zero, List.set_cons_succ, List.getElem_toArray, List.getElem_cons_zero, List.getElem_cons_succ]
    refine list_val (.slice a n ca) (by kernel_rfl) (by kernel_rfl) ?_
    simp only [Act.put, List.setIfInBounds_toArray, List.set_cons_zero, List.set_cons_succ, List.getElem_toArray, List.getElem_cons_zero, List.getElem_cons_succ]
    refine list_val (.int .i64 i) (by kernel_rfl) (by kernel_rfl) ?_
    simp only [Act.put, List.setIfInBounds_toArray, List.set_cons_zero, List.set_cons_succ, List.getElem_toArray, List.getElem_cons_zero, List.getElem_cons_succ]
    refine list_call 54 #[.slice a n ca, .int .i64 i] (by kernel_rfl) (by kernel_rfl) ((rat_ok A a n ca i _ ((unhide la).gr hG)).mono ?_)
    rintro r wq ⟨rfl, rfl⟩
    refine ⟨_, rfl, ?_⟩
    rw [← unhide hx]
    simp only [Act.put, List.setIfInBounds_toArray, List.set_cons_zero, List.set_cons_succ, List.getElem_toArray, List.getElem_cons_zero, List.getElem_cons_succ]
    refine list_valw (.slice (some ⟨wq.heap.size, 0, none⟩) 1 1) (wq.alloc (.cells #[.int .i64 (x : Int)] 3 (0, 0))) (by kernel_rfl) (by kernel_rfl) ?_
    simp only [Act.put, List.setIfInBounds_toArray, List.set_cons_zero, List.set_cons_succ, List.getElem_toArray, List.getElem_cons_zero, List.getElem_cons_succ]
    have hnew := blk_new wq (.cells #[.int .i64 (x : Int)] 3 (0, 0))
    have hgx := (Gr.refl wq).alloc (.cells #[.int .i64 (x : Int)] 3 (0, 0))
    replace hG := hG.trans hgx
    replace ob := ob.gr hgx
    clear hgx
    generalize World.alloc _ _ = w1 at *
    generalize wq.heap.size = g1 at *
    refine app_int rfl (.tmp 12) (.tmp 16) rfl w.heap.size v L rfl ob g1 x _ rfl hnew (by omega) hG.size ?_
    intro v2 w2 ob2 hgr
    simp only [Act.put, List.setIfInBounds_toArray, List.set_cons_zero, List.set_cons_succ, List.getElem_toArray, List.getElem_cons_zero, List.getElem_cons_succ]
    replace hG := Oi.grown ob (Nat.le_refl _) hG hgr
    clear hgr hnew ob
    (refine wpList_step fun K hK => ?_; replace hK := hide hK; go_simp; refine unhide hK _ _ ?_; clear hK K)
    refine wpList_nil ?_
    replace hG := hide hG
    replace ob2 := hide ob2
    go_wp2_with fail
    go_roundw
    case rel => exact ⟨i + 1, v2, _, by omega, by go_num, rfl, hL2, ob2, hG⟩
    case measure => simp [intOf]; omega
  · have e : i = 16 := by omega
    subst e
    obtain ⟨x, hx⟩ : ∃ x, x = A.getD 16 0 := ⟨_, rfl⟩
    obtain ⟨d, hd⟩ : ∃ d, d = x % 4 := ⟨_, rfl⟩
    have hL2 : Hid (L ++ [d] = loL A) := by
      rw [unhide hL, hd, hx]
      exact rfl
    have e3 : (x : Int).tmod 4 = (d : Int) := by rw [Int.tmod_eq_emod_of_nonneg (by omega)]; omega
    replace hx := hide hx
    replace hd := hide hd
    go_upto_region 6 with fail
    replace hG := unhide hG
    replace ob := unhide ob
    refine wp_region_lit ?_
    refine list_val v (by kernel_rfl) (by kernel_rfl) ?_
    simp only [Act.put, List.setIfInBounds_toArray, List.set_cons_zero, List.set_cons_succ, List.getElem_toArray, List.getElem_cons_zero, List.getElem_cons_succ]
    refine list_val (.slice a n ca) (by kernel_rfl) (by kernel_rfl) ?_
    simp only [Act.put, List.setIfInBounds_toArray, List.set_cons_zero, List.set_cons_succ, List.getElem_toArray, List.getElem_cons_zero, List.getElem_cons_succ]
    refine list_call 54 #[.slice a n ca, .int .i64 16] (by kernel_rfl) (by kernel_rfl) ((rat_ok A a n ca 16 _ ((unhide la).gr hG)).mono ?_)
    rintro r wq ⟨rfl, rfl⟩
    refine ⟨_, rfl, ?_⟩
    rw [← unhide hx]
    simp only [Act.put, List.setIfInBounds_toArray, List.set_cons_zero, List.set_cons_succ, List.getElem_toArray, List.getElem_cons_zero, List.getElem_cons_succ]
    refine list_val (.int .i64 d) (by kernel_rfl) (by go_simp) ?_
    simp only [Act.put, List.setIfInBounds_toArray, List.set_cons_zero, List.set_cons_succ, List.getElem_toArray, List.getElem_cons_zero, List.getElem_cons_succ]
    refine list_valw (.slice (some ⟨wq.heap.size, 0, none⟩) 1 1) (wq.alloc (.cells #[.int .i64 (d : Int)] 3 (0, 0))) (by kernel_rfl) (by kernel_rfl) ?_
    simp only [Act.put, List.setIfInBounds_toArray, List.set_cons_zero, List.set_cons_succ, List.getElem_toArray, List.getElem_cons_zero, List.getElem_cons_succ]
    have hnew := blk_new wq (.cells #[.int .i64 (d : Int)] 3 (0, 0))
    have hgx := (Gr.refl wq).alloc (.cells #[.int .i64 (d : Int)] 3 (0, 0))
    replace hG := hG.trans hgx
    replace ob := ob.gr hgx
    clear hgx
    generalize World.alloc _ _ = w1 at *
    generalize wq.heap.size = g1 at *
    refine app_int rfl (.tmp 18) (.tmp 22) rfl w.heap.size v L rfl ob g1 d _ rfl hnew (by omega) hG.size ?_
    intro vw w2 ob2 hgr
    simp only [Act.put, List.setIfInBounds_toArray, List.set_cons_zero, List.set_cons_succ, List.getElem_toArray, List.getElem_cons_zero, List.getElem_cons_succ]
    replace hG := Oi.grown ob (Nat.le_refl _) hG hgr
    clear hgr hnew ob
    (refine wpList_step fun K hK => ?_; replace hK := hide hK; go_simp; refine unhide hK _ _ ?_; clear hK K)
    refine wpList_nil ?_
    obtain ⟨wb, hwb⟩ : ∃ x, x = w2 := ⟨_, rfl⟩
    subst hwb
    have hGb : Hid (Gr w wb) := hG
    have obl : Hid (Oi w.heap.size wb vw (loL A)) := by rw [← unhide hL2]; exact ob2
    have hG0 : Hid (Gr wb wb) := Gr.refl wb
    clear hG ob2 hL2 hL hLl e3 hx hd L hl
    go_wp2_with fail
    go_loopw [7, 5] (fun i o wr => ∃ i' : Nat, ∃ v : Value, ∃ U : List Nat, 16 ≤ i' ∧ (i' ≤ n ∨ i' = 16) ∧ i = .int .i64 i' ∧ v = o ∧ Hid (U = (upL (A.drop 16)).take (i' - 16)) ∧ Hid (Oi wb.heap.size wr v U) ∧ Hid (Gr wb wr)) (fun i _ _ => n - (intOf i).toNat)
    case atStart => exact ⟨16, _, [], by omega, .inr rfl, rfl, rfl, (show ([] : List Nat) = (upL (A.drop 16)).take (16 - 16) from by simp), Oi.nil _ _, hG0⟩
    case round =>
    clear hG0
    obtain ⟨i, vu, U, hi16, hin, rfl, rfl, hU, ob, hG⟩ := hrel
    have hUl : U.length ≤ n := by rw [unhide hU, List.length_take, upL_len, List.length_drop, unhide hn]; omega
    by_cases hl : i < n
    · have iI : (i : Int) < (n : Int) := by omega
      obtain ⟨i1, hi1⟩ : ∃ x, x = i + 1 := ⟨_, rfl⟩
      obtain ⟨x, hx⟩ : ∃ x, x = A.getD i 0 := ⟨_, rfl⟩
      obtain ⟨y, hy⟩ : ∃ x, x = A.getD i1 0 := ⟨_, rfl⟩
      have hx2 : x < 256 := by rw [hx]; exact (unhide hA).at_ i
      have hy2 : y < 256 := by rw [hy]; exact (unhide hA).at_ i1
      obtain ⟨x4, hx4⟩ : ∃ z, z = x / 4 := ⟨_, rfl⟩
      obtain ⟨y4, hy4⟩ : ∃ z, z = y % 4 := ⟨_, rfl⟩
      obtain ⟨y64, hy64⟩ : ∃ z, z = y4 * 64 := ⟨_, rfl⟩
      obtain ⟨d, hd⟩ : ∃ d, d = x4 + y64 := ⟨_, rfl⟩
      have hU2 : U ++ [d] = (upL (A.drop 16)).take (i1 - 16) := by
        have hlen : i - 16 < (upL (A.drop 16)).length := by rw [upL_len, List.length_drop, unhide hn]; omega
        have hg := upL_get (A.drop 16) (i - 16) (by rw [← upL_len]; exact hlen)
        have e1 : (A.drop 16).getD (i - 16) 0 = x := by rw [hx, List.getD_eq_getElem?_getD, List.getElem?_drop, show 16 + (i - 16) = i from by omega, ← List.getD_eq_getElem?_getD]
        have e2 : (A.drop 16).getD (i - 16 + 1) 0 = y := by rw [hy, List.getD_eq_getElem?_getD, List.getElem?_drop, show 16 + (i - 16 + 1) = i1 from by omega, ← List.getD_eq_getElem?_getD]
        rw [e1, e2] at hg
        have hd2 : (upL (A.drop 16))[i - 16] = d := by
          rw [hd, hx4, hy64, hy4, ← hg]
          simp [hlen]
        rw [unhide hU, show i1 - 16 = i - 16 + 1 from by omega, List.take_add_one, List.getElem?_eq_getElem hlen, hd2]
        rfl
      replace hU2 := hide hU2
      have f1 : (x : Int).tdiv 4 = (x4 : Int) := by rw [Int.tdiv_eq_ediv_of_nonneg (by omega)]; omega
      have f2 : (y : Int).tmod 4 = (y4 : Int) := by rw [Int.tmod_eq_emod_of_nonneg (by omega)]; omega
      have f3 : (y4 : Int) * 64 = (y64 : Int) := by omega
      have f4 : (x4 : Int) + (y64 : Int) = (d : Int) := by omega
      have f5 : (i : Int) + 1 = (i1 : Int) := by omega
      have g1' : IntKind.i64.wrap (x4 : Int) = (x4 : Int) := by rw [IntKind.wrap_i64]; omega
      have g2' : IntKind.i64.wrap (y64 : Int) = (y64 : Int) := by rw [IntKind.wrap_i64]; omega
      have g3' : IntKind.i64.wrap (d : Int) = (d : Int) := by rw [IntKind.wrap_i64]; omega
      have g4' : IntKind.i64.wrap (i1 : Int) = (i1 : Int) := by rw [IntKind.wrap_i64]; omega
      replace hx := hide hx
      replace hy := hide hy
      replace hx4 := hide hx4
      replace hy4 := hide hy4
      replace hy64 := hide hy64
      replace hd := hide hd
      replace hi1 := hide hi1
      go_upto_region 10 with fail
      replace hG := unhide hG
      replace ob := unhide ob
      refine wp_region_lit ?_
      refine list_val vu (by kernel_rfl) (by kernel_rfl) ?_
      simp only [Act.put, List.setIfInBounds_toArray, List.set_cons_zero, List.set_cons_succ, List.getElem_toArray, List.getElem_cons_zero, List.getElem_cons_succ]
      refine list_val (.slice a n ca) (by kernel_rfl) (by kernel_rfl) ?_
      simp only [Act.put, List.setIfInBounds_toArray, List.set_cons_zero, List.set_cons_succ, List.getElem_toArray, List.getElem_cons_zero, List.getElem_cons_succ]
      refine list_val (.int .i64 i) (by kernel_rfl) (by kernel_rfl) ?_
      simp only [Act.put, List.setIfInBounds_toArray, List.set_cons_zero, List.set_cons_succ, List.getElem_toArray, List.getElem_cons_zero, List.getElem_cons_succ]
      refine list_call 54 #[.slice a n ca, .int .i64 i] (by kernel_rfl) (by kernel_rfl) ((rat_ok A a n ca i _ (((unhide la).gr (unhide hGb)).gr hG)).mono ?_)
      rintro r wq ⟨rfl, rfl⟩
      refine ⟨_, rfl, ?_⟩
      rw [← unhide hx]
      simp only [Act.put, List.setIfInBounds_toArray, List.set_cons_zero, List.set_cons_succ, List.getElem_toArray, List.getElem_cons_zero, List.getElem_cons_succ]
      refine list_val (.int .i64 x4) (by kernel_rfl) (by go_simp) ?_
      simp only [Act.put, List.setIfInBounds_toArray, List.set_cons_zero, List.set_cons_succ, List.getElem_toArray, List.getElem_cons_zero, List.getElem_cons_succ]
      refine list_val (.slice a n ca) (by kernel_rfl) (by kernel_rfl) ?_
      simp only [Act.put, List.setIfInBounds_toArray, List.set_cons_zero, List.set_cons_succ, List.getElem_toArray, List.getElem_cons_zero, List.getElem_cons_succ]
      refine list_val (.int .i64 i) (by kernel_rfl) (by kernel_rfl) ?_
      simp only [Act.put, List.setIfInBounds_toArray, List.set_cons_zero, List.set_cons_succ, List.getElem_toArray, List.getElem_cons_zero, List.getElem_cons_succ]
      refine list_val (.int .i64 i1) (by kernel_rfl) (by go_simp) ?_
      simp only [Act.put, List.setIfInBounds_toArray, List.set_cons_zero, List.set_cons_succ, List.getElem_toArray, List.getElem_cons_zero, List.getElem_cons_succ]
      refine list_call 54 #[.slice a n ca, .int .i64 i1] (by kernel_rfl) (by kernel_rfl) ((rat_ok A a n ca i1 _ (((unhide la).gr (unhide hGb)).gr hG)).mono ?_)
      rintro r wq ⟨rfl, rfl⟩
      refine ⟨_, rfl, ?_⟩
      rw [← unhide hy]
      simp only [Act.put, List.setIfInBounds_toArray, List.set_cons_zero, List.set_cons_succ, List.getElem_toArray, List.getElem_cons_zero, List.getElem_cons_succ]
      refine list_val (.int .i64 y4) (by kernel_rfl) (by go_simp) ?_
      simp only [Act.put, List.setIfInBounds_toArray, List.set_cons_zero, List.set_cons_succ, List.getElem_toArray, List.getElem_cons_zero, List.getElem_cons_succ]
      refine list_val (.int .i64 y64) (by kernel_rfl) (by go_simp) ?_
      simp only [Act.put, List.setIfInBounds_toArray, List.set_cons_zero, List.set_cons_succ, List.getElem_toArray, List.getElem_cons_zero, List.getElem_cons_succ]
      refine list_val (.int .i64 d) (by kernel_rfl) (by go_simp) ?_
      simp only [Act.put, List.setIfInBounds_toArray, List.set_cons_zero, List.set_cons_succ, List.getElem_toArray, List.getElem_cons_zero, List.getElem_cons_succ]
      refine list_valw (.slice (some ⟨wq.heap.size, 0, none⟩) 1 1) (wq.alloc (.cells #[.int .i64 (d : Int)] 3 (0, 0))) (by kernel_rfl) (by kernel_rfl) ?_
      simp only [Act.put, List.setIfInBounds_toArray, List.set_cons_zero, List.set_cons_succ, List.getElem_toArray, List.getElem_cons_zero, List.getElem_cons_succ]
      have hnew := blk_new wq (.cells #[.int .i64 (d : Int)] 3 (0, 0))
      have hgx := (Gr.refl wq).alloc (.cells #[.int .i64 (d : Int)] 3 (0, 0))
      replace hG := hG.trans hgx
      replace ob := ob.gr hgx
      clear hgx
      generalize World.alloc _ _ = w1 at *
      generalize wq.heap.size = g1 at *
      refine app_int rfl (.tmp 30) (.tmp 42) rfl wb.heap.size vu U rfl ob g1 d _ rfl hnew (by omega) hG.size ?_
      intro v2 w2 ob2 hgr
      simp only [Act.put, List.setIfInBounds_toArray, List.set_cons_zero, List.set_cons_succ, List.getElem_toArray, List.getElem_cons_zero, List.getElem_cons_succ]
      replace hG := Oi.grown ob (Nat.le_refl _) hG hgr
      clear hgr hnew ob
      (refine wpList_step fun K hK => ?_; replace hK := hide hK; go_simp; refine unhide hK _ _ ?_; clear hK K)
      refine wpList_nil ?_
      replace hG := hide hG
      replace ob2 := hide ob2
      go_wp2_with fail
      go_roundw
      case rel => exact ⟨i1, v2, _, by have := unhide hi1; omega, .inl (by have := unhide hi1; omega), rfl, rfl, hU2, ob2, hG⟩
      case measure => have := unhide hi1; simp [intOf]; omega
    · have iI : ¬ (i : Int) < (n : Int) := by omega
      have hUe : U = upL (A.drop 16) := by rw [unhide hU]; exact List.take_of_length_le (by rw [upL_len, List.length_drop, unhide hn]; omega)
      have hvl := V_lo A (unhide hA)
      have hP : Hid (∃ vu' vl U L, Ending.returned (.tuple #[vu, vw]) = .returned (.tuple #[vu', vl]) ∧ Oi w.heap.size wr vu' U ∧ Oi w.heap.size wr vl L ∧ AllB U ∧ AllB L ∧ V U = V A / Q130 ∧ V L = V A % Q130 ∧ U.length = A.length - 16 ∧ L.length = 17 ∧ Gr w wr) :=
        ⟨vu, vw, U, loL A, rfl, (unhide ob).up (unhide hGb).size, (unhide obl).gr (unhide hG), by rw [hUe]; exact upL_allB _ (fun x hx => (unhide hA) x (List.mem_of_mem_drop hx)), loL_allB A (unhide hA), by rw [hUe]; exact hvl.2, hvl.1, by rw [hUe, upL_len, List.length_drop], by simp [loL], (unhide hGb).trans (unhide hG)⟩
      clear ob obl hG hGb hU hUe hvl
      go_wp2_with fail
      rw [unhide hT]
      exact unhide hP
end Go.Proofs.Ytdekjbdkpchbjaa
