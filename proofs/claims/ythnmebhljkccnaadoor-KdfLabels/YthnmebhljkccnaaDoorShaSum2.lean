/-
  Sum of bytes at once.
-/
import Derived.Test.YthnmebhljkccnaaDoorShaSum
namespace Go.Proofs.YthnmebhljkccnaaDoor
open Go.RowKit
set_option maxRecDepth 100000
set_option linter.unusedSimpArgs false

/-- bytes behind a slice -/
def Sl (w : World) (a : Option Addr) (B : List Int) : Prop := B = [] ∨ ∃ p o, a = some ⟨p, o, none⟩ ∧ At w p o B
theorem Sl.gr {w v : World} {a : Option Addr} {B : List Int} (h : Sl w a B) (k : Gr w v) : Sl v a B := by
  rcases h with h | ⟨p, o, h1, h2⟩
  · exact .inl h
  · exact .inr ⟨p, o, h1, h2.gr k⟩
/-- a block that came later lies elsewhere -/
theorem Sl.far {w v : World} {a : Option Addr} {B : List Int} (h : Sl w a B) (k : Gr w v) {g : Nat} (hg : w.heap.size ≤ g) : SlX g v a B := by
  rcases h with h | ⟨p, o, h1, h2⟩
  · exact .inl h
  · rcases Nat.eq_zero_or_pos B.length with h0 | h0
    · exact .inl (List.eq_nil_of_length_eq_zero h0)
    · exact .inr ⟨p, o, h1, h2.gr k, by have := lt_of_cell (h2 0 h0); omega⟩
set_option maxHeartbeats 2000000 in
theorem sum_ok (B : List Int) (hb : IsB B) (n : Nat) (hn : B.length = n) (hbig : n < 1152921504606846000) (a : Option Addr) (cap : Nat) (hcap : n ≤ cap) (hcb : cap < 9223372036854775808) (w : World) (hF : Fst w) (hA : Sl w a B) :
    Calls Tryd.prog 41 #[.slice a n cap] w (Summed B w) := by
  obtain ⟨T, hT⟩ : ∃ T, T = Summed B w := ⟨_, rfl⟩
  rw [← hT]
  replace hT := hide hT
  replace hF := hide hF
  replace hA := hide hA
  replace hb := hide hb
  go_enter Tryd.func41, Tryd.ntmps41
  go_upto_region 1 with fail
  have hL := (Bl.nil w).new #[.int .u8 0, .int .u8 0, .int .u8 0, .int .u8 0, .int .u8 0, .int .u8 0, .int .u8 0, .int .u8 0, .int .u8 0, .int .u8 0, .int .u8 0, .int .u8 0, .int .u8 0, .int .u8 0, .int .u8 0, .int .u8 0, .int .u8 0, .int .u8 0, .int .u8 0, .int .u8 0, .int .u8 0, .int .u8 0, .int .u8 0, .int .u8 0, .int .u8 0, .int .u8 0, .int .u8 0, .int .u8 0, .int .u8 0, .int .u8 0, .int .u8 0, .int .u8 0] 28
  simp only [List.nil_append] at hL
  generalize World.alloc _ _ = u1 at *
  replace hL : Bl w [⟨w.heap.size, kc Z32, 28⟩] u1 := hL
  replace hF := (unhide hF).gr hL.gr
  refine wp_region_lit ?_
  refine list_call 29 #[] (by kernel_rfl) (by kernel_rfl) ((new_ok _ hF).mono ?_)
  rintro r u2 ⟨g, rfl, hg0, hH, hg⟩
  refine ⟨_, rfl, ?_⟩
  simp only [Act.put, List.setIfInBounds_toArray, List.set_cons_zero, List.set_cons_succ, List.getElem_toArray, List.getElem_cons_zero, List.getElem_cons_succ]
  have hne : w.heap.size ≠ g := by have := lt_of_block (hL.get 0 (x := ⟨w.heap.size, kc Z32, 28⟩) rfl); dsimp only at this; omega
  have hgw : w.heap.size ≤ g := Nat.le_trans hL.gr.size hg0
  replace hL := hL.more hg
  clear hg hF
  iterate 1 (refine wpList_step fun K hK => ?_; replace hK := hide hK; go_simp; refine unhide hK _ _ ?_; clear hK K)
  refine wpList_nil ?_
  have hX := (unhide hA).far hL.gr hgw
  replace hL := hide hL
  replace hX := hide hX
  replace hH := hide hH
  go_upto_region 2 with fail
  refine wp_region_lit ?_
  iterate 2 (refine wpList_step fun K hK => ?_; replace hK := hide hK; go_simp; refine unhide hK _ _ ?_; clear hK K)
  refine list_call 31 #[.pointer (some ⟨g, 0, none⟩), .slice a n cap] (by kernel_rfl) (by kernel_rfl) ((write_ok g [] B (unhide hb) (by rw [hn]; simp; omega) a n cap hn hcap hcb _ (unhide hH) (unhide hX)).mono ?_)
  rintro r u3 ⟨rfl, hE2, hbt⟩
  refine ⟨_, rfl, ?_⟩
  simp only [Act.put, List.setIfInBounds_toArray, List.set_cons_zero, List.set_cons_succ, List.getElem_toArray, List.getElem_cons_zero, List.getElem_cons_succ]
  refine wpList_nil ?_
  rw [List.nil_append] at hE2
  have hL3 : Bl w [⟨w.heap.size, kc Z32, 28⟩] u3 := ⟨hbt.gr (unhide hL).gr hgw, (fun x hx => by
    have hx2 : x = ⟨w.heap.size, kc Z32, 28⟩ := by simpa using hx
    subst hx2
    exact ⟨hbt.blk ((unhide hL).get 0 (x := ⟨w.heap.size, kc Z32, 28⟩) rfl) hne, Nat.le_refl _⟩), List.pairwise_singleton _ _⟩
  clear hL hX hH hbt
  have hL := hide hL3
  clear hL3
  replace hE2 := hide hE2
  go_upto_region 3 with fail
  refine wp_region_lit ?_
  iterate 1 (refine wpList_step fun K hK => ?_; replace hK := hide hK; go_simp; refine unhide hK _ _ ?_; clear hK K)
  refine list_call 32 #[.pointer (some ⟨g, 0, none⟩)] (by kernel_rfl) (by kernel_rfl) ((hsum_ok g B (by omega) _ (unhide hE2)).mono ?_)
  rintro r u6 ⟨rfl, hg⟩
  refine ⟨_, rfl, ?_⟩
  simp only [Act.put, List.setIfInBounds_toArray, List.set_cons_zero, List.set_cons_succ, List.getElem_toArray, List.getElem_cons_zero, List.getElem_cons_succ]
  replace hL := (unhide hL).more hg
  have hkl : (sumL B).length = 32 := sumL_len B
  clear hg hE2
  obtain ⟨m, hm⟩ : ∃ m, m = sumL B := ⟨_, rfl⟩
  rw [← hm] at hkl
  rw [← hm]
  refine list_store 28 (.tmp 2) (.tmp 9) w.heap.size (kc m) 28 (kc Z32) (by kernel_rfl) rfl (by kernel_rfl) (by kernel_rfl) (hL.get 0 (x := ⟨w.heap.size, kc Z32, 28⟩) rfl) (by rw [Tryd.infoKey, kc_size, hkl]) ((show (kc Z32).size = 32 from rfl).trans ((kc_size _).trans hkl).symm) (kc_one _) ?_
  replace hL := hL.set 0 (x := ⟨w.heap.size, kc Z32, 28⟩) rfl (kc m)
  simp only [List.set_cons_zero, List.set_cons_succ] at hL
  generalize World.setRow _ _ _ = u7 at *
  simp only [Act.put, List.setIfInBounds_toArray, List.set_cons_zero, List.set_cons_succ, List.getElem_toArray, List.getElem_cons_zero, List.getElem_cons_succ]
  refine wpList_nil ?_
  replace hm := hide hm
  go_wp2_with fail
  rw [unhide hT]
  exact bodyPost_ret (v := .agg (kc m)) (results_cell_row Tryd.results41 _ _ w.heap.size 28 (kc m) (0, 0) _ rfl (hL.get 0 (x := ⟨w.heap.size, kc m, 28⟩) rfl) Tryd.underlying28 rfl (by rw [Tryd.infoKey, kc_size, hkl])) rfl ⟨by rw [unhide hm], hL.gr⟩
end Go.Proofs.YthnmebhljkccnaaDoor
