/-
  wakes answers true; parts as bytes in a row.
-/
import Derived.Test.YthnmebhljkccnaaDoorKdfB
namespace Go.Proofs.YthnmebhljkccnaaDoor
open Go.RowKit
set_option maxRecDepth 100000
set_option linter.unusedSimpArgs false
set_option linter.unusedVariables false

/-- a list of bytes somewhere -/
structure Lb (w : World) (a : Option Addr) (n c : Nat) (P : List Int) : Prop where
  len : P.length = n
  isB : IsB P
  sl : Sl w a P
  cap : n ≤ c
  max : c < 9223372036854775808
theorem Lb.gr {w v : World} {a : Option Addr} {n c : Nat} {P : List Int} (h : Lb w a n c P) (k : Gr w v) : Lb v a n c P := ⟨h.len, h.isB, h.sl.gr k, h.cap, h.max⟩
theorem Lb.nil (w : World) : Lb w none 0 0 [] := ⟨rfl, (by intro x hx; cases hx), .inl rfl, by omega, by omega⟩
theorem Pr.one {w : World} {p : Nat} {a : Option Addr} {n c : Nat} {t : TypeId} {P : List Int} (h : w.heap[p]? = some (.cells #[.slice a n c] t (0, 0))) (hp : Lb w a n c P) : Pr w (some ⟨p, 0, none⟩) [P] := by
  refine .inr ⟨p, 0, rfl, fun j hj => ?_⟩
  have hj0 : j = 0 := by simp at hj; exact hj
  subst hj0
  exact ⟨a, n, c, cell_of h rfl, hp.len, hp.isB, hp.sl, hp.cap, hp.max⟩
theorem Pr.pair {w : World} {p : Nat} {a b : Option Addr} {n c m d : Nat} {t : TypeId} {P Q : List Int} (h : w.heap[p]? = some (.cells #[.slice a n c, .slice b m d] t (0, 0))) (hp : Lb w a n c P) (hq : Lb w b m d Q) : Pr w (some ⟨p, 0, none⟩) [P, Q] := by
  refine .inr ⟨p, 0, rfl, fun j hj => ?_⟩
  have hj0 : j = 0 ∨ j = 1 := by simp at hj; omega
  rcases hj0 with rfl | rfl
  · exact ⟨a, n, c, cell_of h rfl, hp.len, hp.isB, hp.sl, hp.cap, hp.max⟩
  · exact ⟨b, m, d, cell_of h rfl, hq.len, hq.isB, hq.sl, hq.cap, hq.max⟩
theorem Pr.three {w : World} {p : Nat} {a b e : Option Addr} {n c m d k f : Nat} {t : TypeId} {P Q R : List Int} (h : w.heap[p]? = some (.cells #[.slice a n c, .slice b m d, .slice e k f] t (0, 0))) (hp : Lb w a n c P) (hq : Lb w b m d Q) (hr : Lb w e k f R) : Pr w (some ⟨p, 0, none⟩) [P, Q, R] := by
  refine .inr ⟨p, 0, rfl, fun j hj => ?_⟩
  have hj0 : j = 0 ∨ j = 1 ∨ j = 2 := by simp at hj; omega
  rcases hj0 with rfl | rfl | rfl
  · exact ⟨a, n, c, cell_of h rfl, hp.len, hp.isB, hp.sl, hp.cap, hp.max⟩
  · exact ⟨b, m, d, cell_of h rfl, hq.len, hq.isB, hq.sl, hq.cap, hq.max⟩
  · exact ⟨e, k, f, cell_of h rfl, hr.len, hr.isB, hr.sl, hr.cap, hr.max⟩
theorem conv_bs (l : List Int) (w : World) : (convert 22 22 (.slice (some ⟨w.heap.size, 0, none⟩) l.length l.length)).run Tryd.prog (w.alloc (.cells (kc l) 5)) = .ok (.slice (some ⟨w.heap.size, 0, none⟩) l.length l.length) (w.alloc (.cells (kc l) 5 (l.length, l.length + 1))) := by
  have hs : (w.alloc (.cells (kc l) 5)).shape? w.heap.size = some (5, l.length) := by
    unfold World.shape?
    rw [blk_new]
    simp [kc_size]
  have hf : (w.alloc (.cells (kc l) 5)).freeze ⟨w.heap.size, l.length, none⟩ 1 = w.alloc (.cells (kc l) 5 (l.length, l.length + 1)) := by
    unfold World.freeze World.alloc
    simp only [Nat.one_ne_zero, if_false]
    congr 1
    apply Array.ext
    · simp
    · intro i h1 h2
      simp only [Array.getElem_modify, Array.getElem_push]
      split
      · rename_i e
        subst e
        simp
      · have h3 : i < w.heap.size := by simp at h1; omega
        simp [h3]
  simp [convert, run_underlying Tryd.underlying22, run_underlying Tryd.underlying5, markStringish, shape, hs, hf, Sem.run, go_sem]
theorem kc_at' {w : World} {g : Nat} {l : List Int} {t : TypeId} {z : Nat × Nat} (h : w.heap[g]? = some (.cells (kc l) t z)) : At w g 0 l := fun j hj => by
  rw [Nat.zero_add]
  exact cell_of h (kc_get l j hj)
def isBb (l : List Int) : Bool := l.all fun x => decide (0 ≤ x) && decide (x < 256)
theorem isB_of {l : List Int} (h : isBb l = true) : IsB l := by
  intro x hx
  have := List.all_eq_true.1 h x hx
  simpa using this
def tx0 : List Int := [74, 101, 102, 101]
def tx1 : List Int := [119, 104, 97, 116, 32, 100, 111, 32, 121, 97, 32, 119, 97, 110, 116, 32]
def tx2 : List Int := [102, 111, 114, 32, 110, 111, 116, 104, 105, 110, 103, 63]
theorem jefe0 : (hmacL tx0 ([tx1, tx2] : List (List Int)).flatten).getD 0 0 = 91 := by decide +kernel
theorem jefe31 : (hmacL tx0 ([tx1, tx2] : List (List Int)).flatten).getD 31 0 = 67 := by decide +kernel
/-- bytes of a text, made -/
theorem lit_lb {w : World} (l : List Int) (hb : isBb l = true) (hl : l.length < 100) : Lb (w.alloc (.cells (kc l) 5 (l.length, l.length + 1))) (some ⟨w.heap.size, 0, none⟩) l.length l.length l :=
  ⟨rfl, isB_of hb, .inr ⟨_, 0, rfl, kc_at' (blk_new _ _)⟩, Nat.le_refl _, by omega⟩
set_option maxHeartbeats 2000000 in
theorem wakes_ok (w : World) (hF : Fst w) : Calls Tryd.prog 9 #[] w (Woke w) := by
  obtain ⟨T, hT⟩ : ∃ T, T = Woke w := ⟨_, rfl⟩
  rw [← hT]
  replace hT := hide hT
  replace hF := hide hF
  go_enter Tryd.func9, Tryd.ntmps9
  go_upto_region 1 with fail
  refine wp_region_lit ?_
  refine list_valw (.slice (some ⟨w.heap.size, 0, none⟩) 4 4) (w.alloc (.cells (kc tx0) 5 (0, 0))) (by kernel_rfl) (by kernel_rfl) ?_
  simp only [Act.put, List.setIfInBounds_toArray, List.set_cons_zero, List.set_cons_succ, List.getElem_toArray, List.getElem_cons_zero, List.getElem_cons_succ]
  refine list_valw (.slice (some ⟨w.heap.size, 0, none⟩) 4 4) (w.alloc (.cells (kc tx0) 5 (4, 5))) (by kernel_rfl) (by have h := conv_bs tx0 w; rw [show tx0.length = 4 from rfl] at h; go_simp) ?_
  simp only [Act.put, List.setIfInBounds_toArray, List.set_cons_zero, List.set_cons_succ, List.getElem_toArray, List.getElem_cons_zero, List.getElem_cons_succ]
  have hg := (Gr.refl w).alloc (.cells (kc tx0) 5 (4, 5))
  have l0 : Lb (w.alloc (.cells (kc tx0) 5 (4, 5))) (some ⟨w.heap.size, 0, none⟩) 4 4 tx0 := lit_lb tx0 rfl (by decide)
  generalize w.heap.size = p0 at *
  generalize World.alloc _ _ = u1 at *
  have hG := hg
  clear hg
  refine list_valw (.slice (some ⟨u1.heap.size, 0, none⟩) 16 16) (u1.alloc (.cells (kc tx1) 5 (0, 0))) (by kernel_rfl) (by kernel_rfl) ?_
  simp only [Act.put, List.setIfInBounds_toArray, List.set_cons_zero, List.set_cons_succ, List.getElem_toArray, List.getElem_cons_zero, List.getElem_cons_succ]
  refine list_valw (.slice (some ⟨u1.heap.size, 0, none⟩) 16 16) (u1.alloc (.cells (kc tx1) 5 (16, 17))) (by kernel_rfl) (by have h := conv_bs tx1 u1; rw [show tx1.length = 16 from rfl] at h; go_simp) ?_
  simp only [Act.put, List.setIfInBounds_toArray, List.set_cons_zero, List.set_cons_succ, List.getElem_toArray, List.getElem_cons_zero, List.getElem_cons_succ]
  have hg := (Gr.refl u1).alloc (.cells (kc tx1) 5 (16, 17))
  have l1 : Lb (u1.alloc (.cells (kc tx1) 5 (16, 17))) (some ⟨u1.heap.size, 0, none⟩) 16 16 tx1 := lit_lb tx1 rfl (by decide)
  generalize u1.heap.size = p1 at *
  generalize World.alloc _ _ = u2 at *
  replace l0 := l0.gr hg
  replace hG := hG.trans hg
  clear hg
  refine list_valw (.slice (some ⟨u2.heap.size, 0, none⟩) 12 12) (u2.alloc (.cells (kc tx2) 5 (0, 0))) (by kernel_rfl) (by kernel_rfl) ?_
  simp only [Act.put, List.setIfInBounds_toArray, List.set_cons_zero, List.set_cons_succ, List.getElem_toArray, List.getElem_cons_zero, List.getElem_cons_succ]
  refine list_valw (.slice (some ⟨u2.heap.size, 0, none⟩) 12 12) (u2.alloc (.cells (kc tx2) 5 (12, 13))) (by kernel_rfl) (by have h := conv_bs tx2 u2; rw [show tx2.length = 12 from rfl] at h; go_simp) ?_
  simp only [Act.put, List.setIfInBounds_toArray, List.set_cons_zero, List.set_cons_succ, List.getElem_toArray, List.getElem_cons_zero, List.getElem_cons_succ]
  have hg := (Gr.refl u2).alloc (.cells (kc tx2) 5 (12, 13))
  have l2 : Lb (u2.alloc (.cells (kc tx2) 5 (12, 13))) (some ⟨u2.heap.size, 0, none⟩) 12 12 tx2 := lit_lb tx2 rfl (by decide)
  generalize u2.heap.size = p2 at *
  generalize World.alloc _ _ = u3 at *
  replace l0 := l0.gr hg
  replace l1 := l1.gr hg
  replace hG := hG.trans hg
  clear hg
  refine list_valw (.slice (some ⟨u3.heap.size, 0, none⟩) 2 2) (u3.alloc (.cells #[.slice (some ⟨p1, 0, none⟩) 16 16, .slice (some ⟨p2, 0, none⟩) 12 12] 22 (0, 0))) (by kernel_rfl) (by kernel_rfl) ?_
  simp only [Act.put, List.setIfInBounds_toArray, List.set_cons_zero, List.set_cons_succ, List.getElem_toArray, List.getElem_cons_zero, List.getElem_cons_succ]
  have hg := (Gr.refl u3).alloc (.cells #[.slice (some ⟨p1, 0, none⟩) 16 16, .slice (some ⟨p2, 0, none⟩) 12 12] 22 (0, 0))
  have hnew := blk_new u3 (.cells #[.slice (some ⟨p1, 0, none⟩) 16 16, .slice (some ⟨p2, 0, none⟩) 12 12] 22 (0, 0))
  generalize u3.heap.size = p3 at *
  generalize World.alloc _ _ = u4 at *
  replace l0 := l0.gr hg
  have hP := Pr.pair hnew (l1.gr hg) (l2.gr hg)
  replace hG := hG.trans hg
  clear hg hnew l1 l2
  refine list_call 13 #[.slice (some ⟨p0, 0, none⟩) 4 4, .slice (some ⟨p3, 0, none⟩) 2 2] (by kernel_rfl) (by kernel_rfl) ((hmac_ok tx0 l0.isB 4 rfl (by omega) _ 4 (by omega) (by omega) [tx1, tx2] _ 2 2 rfl (by omega) (by decide) _ ((unhide hF).gr hG) l0.sl hP).mono ?_)
  rintro r u5 ⟨rfl, hg⟩
  refine ⟨_, rfl, ?_⟩
  replace hG := hG.trans hg
  clear hg l0 hP
  simp only [Act.put, List.setIfInBounds_toArray, List.set_cons_zero, List.set_cons_succ, List.getElem_toArray, List.getElem_cons_zero, List.getElem_cons_succ]
  have k0 := jefe0
  have k31 := jefe31
  have hkk : (hmacL tx0 ([tx1, tx2] : List (List Int)).flatten).length = 32 := hmacL_len _ _
  generalize hmacL tx0 ([tx1, tx2] : List (List Int)).flatten = kk at *
  replace hG := hide hG
  iterate 1 (refine wpList_step fun K hK => ?_; replace hK := hide hK; go_simp; refine unhide hK _ _ ?_; clear hK K)
  have hL := (Bl.nil u5).new #[.int .u8 0, .int .u8 0, .int .u8 0, .int .u8 0, .int .u8 0, .int .u8 0, .int .u8 0, .int .u8 0, .int .u8 0, .int .u8 0, .int .u8 0, .int .u8 0, .int .u8 0, .int .u8 0, .int .u8 0, .int .u8 0, .int .u8 0, .int .u8 0, .int .u8 0, .int .u8 0, .int .u8 0, .int .u8 0, .int .u8 0, .int .u8 0, .int .u8 0, .int .u8 0, .int .u8 0, .int .u8 0, .int .u8 0, .int .u8 0, .int .u8 0, .int .u8 0] 28
  simp only [List.nil_append] at hL
  generalize World.alloc _ _ = u6 at *
  replace hL : Bl u5 [⟨u5.heap.size, kc Z32, 28⟩] u6 := hL
  refine list_store 28 (.tmp 1) (.tmp 9) u5.heap.size (kc kk) 28 (kc Z32) (by kernel_rfl) rfl (by kernel_rfl) (by kernel_rfl) (hL.get 0 (x := ⟨u5.heap.size, kc Z32, 28⟩) rfl) (by rw [Tryd.infoKey, kc_size, hkk]) ((show (kc Z32).size = 32 from rfl).trans ((kc_size _).trans hkk).symm) (kc_one _) ?_
  replace hL := hL.set 0 (x := ⟨u5.heap.size, kc Z32, 28⟩) rfl (kc kk)
  simp only [List.set_cons_zero, List.set_cons_succ] at hL
  generalize World.setRow _ _ _ = u7 at *
  simp only [Act.put, List.setIfInBounds_toArray, List.set_cons_zero, List.set_cons_succ, List.getElem_toArray, List.getElem_cons_zero, List.getElem_cons_succ]
  refine wpList_nil ?_
  have c0 := kc_cell (hL.get 0 (x := ⟨u5.heap.size, kc kk, 28⟩) rfl) 0 (by omega)
  have c31 := kc_cell (hL.get 0 (x := ⟨u5.heap.size, kc kk, 28⟩) rfl) 31 (by omega)
  rw [k0] at c0
  rw [k31] at c31
  dsimp only at c0 c31
  replace hG := hide ((unhide hG).trans hL.gr)
  generalize u5.heap.size = gk at *
  clear hL k0 k31
  go_wp2_with fail
  rw [unhide hT]
  exact ⟨rfl, unhide hG⟩
end Go.Proofs.YthnmebhljkccnaaDoor
