/-
  The code of a key and parts.
-/
import Derived.Test.YtpmgmpihmpifgaaDoorKdfA
namespace Go.Proofs.YtpmgmpihmpifgaaDoor
open Go.RowKit
set_option maxRecDepth 100000
set_option linter.unusedSimpArgs false
set_option linter.unusedVariables false

/-- the code of a key and a text -/
def hmacL (key text : List Int) : List Int := sumL (padK key 92 ++ sumL (padK key 54 ++ text))
theorem hmacL_len (key text : List Int) : (hmacL key text).length = 32 := sumL_len _
theorem sumL_isB (B : List Int) : IsB (sumL B) := keyL_isB _
/-- the worlds within Hmac -/
structure HI (w : World) (g4 gk g1 g2 : Nat) (K L1 L2 : List Int) (v : World) : Prop where
  b4 : v.heap[g4]? = some (.cells (kc Z32) 25 (0, 0))
  bk : v.heap[gk]? = some (.cells (kc K) 97 (0, 0))
  h1 : H g1 L1 v
  h2 : H g2 L2 v
  gr : Gr w v
  n4 : w.heap.size ≤ g4
  nk : g4 < gk
  n1 : gk < g1
  n2 : g1 < g2
  n9 : g2 < v.heap.size
theorem HI.more {w : World} {g4 gk g1 g2 : Nat} {K L1 L2 : List Int} {u v : World} (h : HI w g4 gk g1 g2 K L1 L2 u) (k : Gr u v) : HI w g4 gk g1 g2 K L1 L2 v :=
  ⟨k.blk h.b4, k.blk h.bk, h.h1.gr k, h.h2.gr k, h.gr.trans k, h.n4, h.nk, h.n1, h.n2, Nat.lt_of_lt_of_le h.n9 k.size⟩
theorem HI.one {w : World} {g4 gk g1 g2 : Nat} {K L1 L2 M : List Int} {u v : World} (h : HI w g4 gk g1 g2 K L1 L2 u) (k : Bt g1 u v) (hm : H g1 M v) : HI w g4 gk g1 g2 K M L2 v := by
  have a1 := h.n4; have a2 := h.nk; have a3 := h.n1; have a4 := h.n2
  exact ⟨k.blk h.b4 (by omega), k.blk h.bk (by omega), hm, h.h2.bt k (by omega), k.gr h.gr (by omega), h.n4, h.nk, h.n1, h.n2, Nat.lt_of_lt_of_le h.n9 k.size⟩
theorem HI.two {w : World} {g4 gk g1 g2 : Nat} {K L1 L2 M : List Int} {u v : World} (h : HI w g4 gk g1 g2 K L1 L2 u) (k : Bt g2 u v) (hm : H g2 M v) : HI w g4 gk g1 g2 K L1 M v := by
  have a1 := h.n4; have a2 := h.nk; have a3 := h.n1; have a4 := h.n2
  exact ⟨k.blk h.b4 (by omega), k.blk h.bk (by omega), h.h1.bt k (by omega), hm, k.gr h.gr (by omega), h.n4, h.nk, h.n1, h.n2, Nat.lt_of_lt_of_le h.n9 k.size⟩
/-- one list in a row of one -/
theorem PrX.one {g : Nat} {w : World} {p : Nat} {a : Option Addr} {n c : Nat} {t : TypeId} {P : List Int} (h : w.heap[p]? = some (.cells #[.slice a n c] t (0, 0))) (hp : p ≠ g) (hn : P.length = n) (hb : IsB P) (hs : SlX g w a P) (hc : n ≤ c) (hm : c < 9223372036854775808) : PrX g w (some ⟨p, 0, none⟩) [P] := by
  refine .inr ⟨p, 0, rfl, fun j hj => ?_⟩
  have hj0 : j = 0 := by simp at hj; exact hj
  subst hj0
  exact ⟨a, n, c, cell_of h rfl, hp, hn, hb, hs, hc, hm⟩
theorem PrX.pair {g : Nat} {w : World} {p : Nat} {a b : Option Addr} {n c m d : Nat} {t : TypeId} {P Q : List Int} (h : w.heap[p]? = some (.cells #[.slice a n c, .slice b m d] t (0, 0))) (hp : p ≠ g) (hn : P.length = n) (hb : IsB P) (hs : SlX g w a P) (hc : n ≤ c) (hm : c < 9223372036854775808)
    (hn2 : Q.length = m) (hb2 : IsB Q) (hs2 : SlX g w b Q) (hc2 : m ≤ d) (hm2 : d < 9223372036854775808) : PrX g w (some ⟨p, 0, none⟩) [P, Q] := by
  refine .inr ⟨p, 0, rfl, fun j hj => ?_⟩
  have hj0 : j = 0 ∨ j = 1 := by simp at hj; omega
  rcases hj0 with rfl | rfl
  · exact ⟨a, n, c, cell_of h rfl, hp, hn, hb, hs, hc, hm⟩
  · exact ⟨b, m, d, cell_of h rfl, hp, hn2, hb2, hs2, hc2, hm2⟩
def Coded (key text : List Int) (w : World) (r : Ending) (w' : World) : Prop := r = .returned (.agg (kc (hmacL key text))) ∧ Gr w w'
set_option maxHeartbeats 2000000 in
theorem hmac_ok (B : List Int) (hb : IsB B) (n : Nat) (hn : B.length = n) (hnb : n < 1152921504606846000) (a : Option Addr) (cap : Nat) (hcap : n ≤ cap) (hcb : cap < 9223372036854775808) (ps : List (List Int)) (ap : Option Addr) (m cp : Nat) (hm : ps.length = m) (hmb : m < 4611686018427387904) (hbig : ps.flatten.length < 1152921504606840000)
    (w : World) (hF : Fst w) (hA : Sl w a B) (hP : Pr w ap ps) : Calls Tryd.prog 70 #[.slice a n cap, .slice ap m cp] w (Coded B ps.flatten w) := by
  obtain ⟨T, hT⟩ : ∃ T, T = Coded B ps.flatten w := ⟨_, rfl⟩
  rw [← hT]
  replace hT := hide hT
  replace hF := hide hF
  replace hA := hide hA
  replace hP := hide hP
  replace hb := hide hb
  replace hn := hide hn
  replace hm := hide hm
  replace hbig := hide hbig
  go_enter Tryd.func70, Tryd.ntmps70
  go_upto_region 1 with fail
  have hB := (Bl.nil w).new #[.int .u8 0, .int .u8 0, .int .u8 0, .int .u8 0, .int .u8 0, .int .u8 0, .int .u8 0, .int .u8 0, .int .u8 0, .int .u8 0, .int .u8 0, .int .u8 0, .int .u8 0, .int .u8 0, .int .u8 0, .int .u8 0, .int .u8 0, .int .u8 0, .int .u8 0, .int .u8 0, .int .u8 0, .int .u8 0, .int .u8 0, .int .u8 0, .int .u8 0, .int .u8 0, .int .u8 0, .int .u8 0, .int .u8 0, .int .u8 0, .int .u8 0, .int .u8 0] 25
  simp only [List.nil_append] at hB
  generalize World.alloc _ _ = u1 at *
  replace hB : Bl w [⟨w.heap.size, kc Z32, 25⟩] u1 := hB
  refine wp_region_lit ?_
  iterate 1 (refine wpList_step fun K hK => ?_; replace hK := hide hK; go_simp; refine unhide hK _ _ ?_; clear hK K)
  refine list_call 89 #[.slice a n cap] (by kernel_rfl) (by kernel_rfl) ((pads_ok B (unhide hb) n (unhide hn) hnb a cap hcap hcb _ ((unhide hF).gr hB.gr) ((unhide hA).gr hB.gr)).mono ?_)
  rintro r u2 ⟨gk, rfl, hgk, hk, hg⟩
  refine ⟨_, rfl, ?_⟩
  have n0 := lt_of_block (hB.get 0 (x := ⟨w.heap.size, kc Z32, 25⟩) rfl)
  have nk : w.heap.size < gk := by dsimp only at n0; omega
  have n1 := lt_of_block hk
  replace hB := hB.more hg
  clear hg hgk n0
  simp only [Act.put, List.setIfInBounds_toArray, List.set_cons_zero, List.set_cons_succ, List.getElem_toArray, List.getElem_cons_zero, List.getElem_cons_succ]
  replace hB := hide hB
  replace hk := hide hk
  obtain ⟨PF, hPF⟩ : ∃ PF, PF = padf gk := ⟨_, rfl⟩
  rw [← hPF]
  replace hPF := hide hPF
  iterate 1 (refine wpList_step fun K hK => ?_; replace hK := hide hK; go_simp; refine unhide hK _ _ ?_; clear hK K)
  refine wpList_nil ?_
  go_upto_region 2 with fail
  replace hB := unhide hB
  replace hk := unhide hk
  refine wp_region_lit ?_
  refine list_call 41 #[] (by kernel_rfl) (by kernel_rfl) ((new_ok _ ((unhide hF).gr hB.gr)).mono ?_)
  rintro r u3 ⟨g1, rfl, hg1, hH1, hg⟩
  refine ⟨_, rfl, ?_⟩
  have nk1 : gk < g1 := by omega
  have m1 : g1 < u3.heap.size := by obtain ⟨l, _, _, h3, _⟩ := hH1; exact lt_of_block h3
  replace hB := hB.more hg
  replace hk := hg.blk hk
  clear hg hg1 n1
  simp only [Act.put, List.setIfInBounds_toArray, List.set_cons_zero, List.set_cons_succ, List.getElem_toArray, List.getElem_cons_zero, List.getElem_cons_succ]
  refine list_call 41 #[] (by kernel_rfl) (by kernel_rfl) ((new_ok _ ((unhide hF).gr hB.gr)).mono ?_)
  rintro r u4 ⟨g2, rfl, hg2, hH2, hg⟩
  refine ⟨_, rfl, ?_⟩
  have n12 : g1 < g2 := by omega
  have m2 : g2 < u4.heap.size := by obtain ⟨l, _, _, h3, _⟩ := hH2; exact lt_of_block h3
  replace hB := hB.more hg
  replace hk := hg.blk hk
  replace hH1 := hH1.gr hg
  clear hg hg2 m1
  simp only [Act.put, List.setIfInBounds_toArray, List.set_cons_zero, List.set_cons_succ, List.getElem_toArray, List.getElem_cons_zero, List.getElem_cons_succ]
  have hI : HI w w.heap.size gk g1 g2 (z6 B) [] [] u4 := ⟨hB.get 0 (x := ⟨w.heap.size, kc Z32, 25⟩) rfl, hk, hH1, hH2, hB.gr, Nat.le_refl _, nk, nk1, n12, m2⟩
  clear hB hk hH1 hH2 m2
  replace hI := hide hI
  iterate 2 (refine wpList_step fun K hK => ?_; replace hK := hide hK; go_simp; refine unhide hK _ _ ?_; clear hK K)
  refine wpList_nil ?_
  go_upto_region 3 with fail
  refine wp_region_lit ?_
  iterate 1 (refine wpList_step fun K hK => ?_; replace hK := hide hK; go_simp; refine unhide hK _ _ ?_; clear hK K)
  refine list_val (wrf g1) (by kernel_rfl) (by kernel_rfl) ?_
  simp only [Act.put, List.setIfInBounds_toArray, List.set_cons_zero, List.set_cons_succ, List.getElem_toArray, List.getElem_cons_zero, List.getElem_cons_succ]
  iterate 1 (refine wpList_step fun K hK => ?_; replace hK := hide hK; go_simp; refine unhide hK _ _ ?_; clear hK K)
  rw [unhide hPF]
  replace hI := unhide hI
  refine list_call 105 #[.int .u8 54, .pointer (some ⟨gk, 0, none⟩)] (by kernel_rfl) (by kernel_rfl) ((pads1_ok (z6 B) (z6_len B) 54 gk _ hI.bk).mono ?_)
  rintro r u5 ⟨gp, rfl, hgp, hp, hg⟩
  refine ⟨_, rfl, ?_⟩
  have npg : gp ≠ g1 := by have := hI.n9; omega
  replace hI := hI.more hg
  clear hg hgp
  rw [pad_all] at hp
  rw [← unhide hPF]
  simp only [Act.put, List.setIfInBounds_toArray, List.set_cons_zero, List.set_cons_succ, List.getElem_toArray, List.getElem_cons_zero, List.getElem_cons_succ]
  replace hI := hide hI
  replace hp := hide hp
  obtain ⟨WF, hWF⟩ : ∃ WF, WF = wrf g1 := ⟨_, rfl⟩
  rw [← hWF]
  replace hWF := hide hWF
  iterate 1 (refine wpList_step fun K hK => ?_; replace hK := hide hK; go_simp; refine unhide hK _ _ ?_; clear hK K)
  have hg := (Gr.refl u5).alloc (.cells #[.slice (some ⟨gp, 0, none⟩) 64 64] 33)
  have hnew : (u5.alloc (.cells #[.slice (some ⟨gp, 0, none⟩) 64 64] 33)).heap[u5.heap.size]? = some (.cells #[.slice (some ⟨gp, 0, none⟩) 64 64] 33 (0, 0)) := blk_new _ _
  have hng : u5.heap.size ≠ g1 := by have := (unhide hI).n9; omega
  replace hI := (unhide hI).more hg
  replace hp := hg.blk (unhide hp)
  generalize World.alloc _ _ = u6 at *
  generalize u5.heap.size = gb at *
  clear hg
  rw [unhide hWF]
  refine list_call 90 #[wrf g1, .slice (some ⟨gb, 0, none⟩) 1 1] (by kernel_rfl) (by kernel_rfl) ((feed_ok g1 [] [padK B 54] (some ⟨gb, 0, none⟩) 1 1 rfl (by omega) (by simp [padK_len]) _ hI.h1 (PrX.one hnew hng (padK_len B 54) (padK_isB B 54) (.inr ⟨gp, 0, rfl, kc_at hp, npg⟩) (by omega) (by omega))).mono ?_)
  rintro r u7 ⟨vr, rfl, hH, hbt⟩
  refine ⟨_, rfl, ?_⟩
  replace hI := hI.one hbt hH
  rw [show ([] : List Int) ++ [padK B 54].flatten = padK B 54 by simp] at hI
  clear hbt hH hp hnew hng npg hWF
  simp only [Act.put, List.setIfInBounds_toArray, List.set_cons_zero, List.set_cons_succ, List.getElem_toArray, List.getElem_cons_zero, List.getElem_cons_succ]
  refine wpList_nil ?_
  replace hI := hide hI
  go_upto_region 4 with fail
  refine wp_region_lit ?_
  iterate 1 (refine wpList_step fun K hK => ?_; replace hK := hide hK; go_simp; refine unhide hK _ _ ?_; clear hK K)
  refine list_val (wrf g1) (by kernel_rfl) (by kernel_rfl) ?_
  simp only [Act.put, List.setIfInBounds_toArray, List.set_cons_zero, List.set_cons_succ, List.getElem_toArray, List.getElem_cons_zero, List.getElem_cons_succ]
  replace hI := unhide hI
  refine list_val (.slice ap m cp) (by kernel_rfl) (by kernel_rfl) ?_
  simp only [Act.put, List.setIfInBounds_toArray, List.set_cons_zero, List.set_cons_succ, List.getElem_toArray, List.getElem_cons_zero, List.getElem_cons_succ]
  refine list_call 90 #[wrf g1, .slice ap m cp] (by kernel_rfl) (by kernel_rfl) ((feed_ok g1 (padK B 54) ps ap m cp (unhide hm) hmb (by rw [padK_len]; have := unhide hbig; omega) _ hI.h1 ((unhide hP).far hI.gr (by have a2 := hI.nk; have a3 := hI.n1; omega))).mono ?_)
  rintro r u8 ⟨vr2, rfl, hH, hbt⟩
  refine ⟨_, rfl, ?_⟩
  replace hI := hI.one hbt hH
  clear hbt hH
  simp only [Act.put, List.setIfInBounds_toArray, List.set_cons_zero, List.set_cons_succ, List.getElem_toArray, List.getElem_cons_zero, List.getElem_cons_succ]
  refine wpList_nil ?_
  replace hI := hide hI
  go_upto_region 5 with fail
  refine wp_region_lit ?_
  iterate 1 (refine wpList_step fun K hK => ?_; replace hK := hide hK; go_simp; refine unhide hK _ _ ?_; clear hK K)
  replace hI := unhide hI
  refine list_call 43 #[.pointer (some ⟨g1, 0, none⟩)] (by kernel_rfl) (by kernel_rfl) ((hsum_ok g1 (padK B 54 ++ ps.flatten) (by rw [List.length_append, padK_len]; have := unhide hbig; omega) _ hI.h1).mono ?_)
  rintro r u9 ⟨rfl, hg⟩
  refine ⟨_, rfl, ?_⟩
  replace hI := hI.more hg
  clear hg
  simp only [Act.put, List.setIfInBounds_toArray, List.set_cons_zero, List.set_cons_succ, List.getElem_toArray, List.getElem_cons_zero, List.getElem_cons_succ]
  have hSum : Hid (sumL (padK B 92 ++ sumL (padK B 54 ++ ps.flatten)) = hmacL B ps.flatten) := rfl
  obtain ⟨M, hM⟩ : ∃ M, M = sumL (padK B 54 ++ ps.flatten) := ⟨_, rfl⟩
  have hMl : M.length = 32 := by rw [hM]; exact sumL_len _
  have hMb : IsB M := by rw [hM]; exact sumL_isB _
  rw [← hM] at hSum
  rw [← hM]
  clear hM
  replace hI := hide hI
  replace hMb := hide hMb
  iterate 1 (refine wpList_step fun K hK => ?_; replace hK := hide hK; go_simp; refine unhide hK _ _ ?_; clear hK K)
  have hL := (Bl.nil u9).new #[.int .u8 0, .int .u8 0, .int .u8 0, .int .u8 0, .int .u8 0, .int .u8 0, .int .u8 0, .int .u8 0, .int .u8 0, .int .u8 0, .int .u8 0, .int .u8 0, .int .u8 0, .int .u8 0, .int .u8 0, .int .u8 0, .int .u8 0, .int .u8 0, .int .u8 0, .int .u8 0, .int .u8 0, .int .u8 0, .int .u8 0, .int .u8 0, .int .u8 0, .int .u8 0, .int .u8 0, .int .u8 0, .int .u8 0, .int .u8 0, .int .u8 0, .int .u8 0] 25
  simp only [List.nil_append] at hL
  generalize World.alloc _ _ = u10 at *
  replace hL : Bl u9 [⟨u9.heap.size, kc Z32, 25⟩] u10 := hL
  refine list_store 25 (.tmp 8) (.tmp 24) u9.heap.size (kc M) 25 (kc Z32) (by kernel_rfl) rfl (by kernel_rfl) (by kernel_rfl) (hL.get 0 (x := ⟨u9.heap.size, kc Z32, 25⟩) rfl) (by rw [Tryd.infoKey, kc_size, hMl]) ((show (kc Z32).size = 32 from rfl).trans ((kc_size _).trans hMl).symm) (kc_one _) ?_
  replace hL := hL.set 0 (x := ⟨u9.heap.size, kc Z32, 25⟩) rfl (kc M)
  simp only [List.set_cons_zero, List.set_cons_succ] at hL
  generalize World.setRow _ _ _ = u11 at *
  simp only [Act.put, List.setIfInBounds_toArray, List.set_cons_zero, List.set_cons_succ, List.getElem_toArray, List.getElem_cons_zero, List.getElem_cons_succ]
  refine wpList_nil ?_
  have hks := hL.get 0 (x := ⟨u9.heap.size, kc M, 25⟩) rfl
  dsimp only at hks
  have nsg : u9.heap.size ≠ g2 := by have := (unhide hI).n9; omega
  replace hI := (unhide hI).more hL.gr
  generalize u9.heap.size = gs at *
  clear hL
  replace hI := hide hI
  replace hks := hide hks
  go_upto_region 6 with fail
  replace hI := unhide hI
  replace hks := unhide hks
  refine any_start (S := fun _ => True) (by kernel_rfl) ?_
  have hg := (Gr.refl u11).drew
  generalize World.drew _ = u11b at *
  replace hI := hI.more hg
  replace hks := hg.blk hks
  clear hg
  rw [unhide hPF]
  simp only [List.size_toArray, List.length_cons, List.length_nil, Array.replicate, List.replicate]
  refine any_take (i := 0) (v := (.pointer (some ⟨g2, 0, none⟩))) #[false, false, false, false, false, false, false] rfl (by kernel_rfl) (by kernel_rfl) (by kernel_rfl) (by kernel_rfl) (fun _ _ _ h => h) (.inl ⟨by kernel_rfl, fun x_ hu => by kernel_rfl⟩) trivial ?_
  simp only [Act.put, List.setIfInBounds_toArray, List.set_cons_zero, List.set_cons_succ, List.getElem_toArray, List.getElem_cons_zero, List.getElem_cons_succ]
  refine any_take (i := 1) (v := (wrf g2)) #[true, false, false, false, false, false, false] rfl (by kernel_rfl) (by kernel_rfl) (by kernel_rfl) (by kernel_rfl) (fun _ _ _ h => h) (.inl ⟨by kernel_rfl, fun x_ hu => by kernel_rfl⟩) trivial ?_
  simp only [Act.put, List.setIfInBounds_toArray, List.set_cons_zero, List.set_cons_succ, List.getElem_toArray, List.getElem_cons_zero, List.getElem_cons_succ]
  refine any_take (i := 2) (v := (padf gk)) #[true, true, false, false, false, false, false] rfl (by kernel_rfl) (by kernel_rfl) (by kernel_rfl) (by kernel_rfl) (fun _ _ _ h => h) (.inl ⟨by kernel_rfl, fun x_ hu => by kernel_rfl⟩) trivial ?_
  simp only [Act.put, List.setIfInBounds_toArray, List.set_cons_zero, List.set_cons_succ, List.getElem_toArray, List.getElem_cons_zero, List.getElem_cons_succ]
  refine any_take (i := 4) (v := (.slice (some ⟨gs, 0, none⟩) 32 32)) #[true, true, true, false, false, false, false] rfl (by kernel_rfl) (by kernel_rfl) (by kernel_rfl) (by kernel_rfl) (fun _ _ _ h => h) (.inl ⟨by kernel_rfl, fun x_ hu => by go_simp⟩) trivial ?_
  simp only [Act.put, List.setIfInBounds_toArray, List.set_cons_zero, List.set_cons_succ, List.getElem_toArray, List.getElem_cons_zero, List.getElem_cons_succ]
  refine any_one (i := 3) (by kernel_rfl) rfl (fun K hK => ?_)
  refine step_callw (by kernel_rfl) 105 #[.int .u8 92, .pointer (some ⟨gk, 0, none⟩)] (by kernel_rfl) ((pads1_ok (z6 B) (z6_len B) 92 gk _ hI.bk).mono ?_)
  rintro r u12 ⟨gq, rfl, hgq, hq, hg⟩
  refine ⟨_, rfl, ?_⟩
  have nqg : gq ≠ g2 := by have := hI.n9; omega
  replace hI := hI.more hg
  replace hks := hg.blk hks
  clear hg hgq
  rw [pad_all] at hq
  refine hK.out _ _ trivial (fun _ => ?_)
  clear hK K
  simp only [Act.put, List.setIfInBounds_toArray, List.set_cons_zero, List.set_cons_succ, List.getElem_toArray, List.getElem_cons_zero, List.getElem_cons_succ]
  refine any_one (i := 5) (by kernel_rfl) rfl (fun K hK => ?_)
  replace hI := hide hI
  replace hq := hide hq
  replace hks := hide hks
  obtain ⟨WG, hWG⟩ : ∃ WG, WG = wrf g2 := ⟨_, rfl⟩
  rw [← hWG]
  replace hWG := hide hWG
  replace hK := hide hK
  go_simp
  refine (unhide hK).out _ _ trivial (fun _ => ?_)
  clear hK K
  have hg := (Gr.refl u12).alloc (.cells #[.slice (some ⟨gq, 0, none⟩) 64 64, .slice (some ⟨gs, 0, none⟩) 32 32] 33)
  have hnew : (u12.alloc (.cells #[.slice (some ⟨gq, 0, none⟩) 64 64, .slice (some ⟨gs, 0, none⟩) 32 32] 33)).heap[u12.heap.size]? = some (.cells #[.slice (some ⟨gq, 0, none⟩) 64 64, .slice (some ⟨gs, 0, none⟩) 32 32] 33 (0, 0)) := blk_new _ _
  have hng : u12.heap.size ≠ g2 := by have := (unhide hI).n9; omega
  replace hI := (unhide hI).more hg
  replace hq := hg.blk (unhide hq)
  replace hks := hg.blk (unhide hks)
  generalize World.alloc _ _ = u13 at *
  generalize u12.heap.size = gc at *
  clear hg
  rw [unhide hWG]
  clear hWG
  refine any_one (i := 6) (by kernel_rfl) rfl (fun K hK => ?_)
  refine step_callw (by kernel_rfl) 90 #[wrf g2, .slice (some ⟨gc, 0, none⟩) 2 2] (by kernel_rfl) ((feed_ok g2 [] [padK B 92, M] (some ⟨gc, 0, none⟩) 2 2 rfl (by omega) (by simp [padK_len, hMl]) _ hI.h2 (PrX.pair hnew hng (padK_len B 92) (padK_isB B 92) (.inr ⟨gq, 0, rfl, kc_at hq, nqg⟩) (by omega) (by omega) hMl (unhide hMb) (.inr ⟨gs, 0, rfl, kc_at hks, nsg⟩) (by omega) (by omega))).mono ?_)
  rintro r u14 ⟨vr3, rfl, hH, hbt⟩
  refine ⟨_, rfl, ?_⟩
  replace hI := hI.two hbt hH
  clear hbt hH hnew hng hq hks
  refine hK.out _ _ trivial (fun _ => ?_)
  clear hK K
  simp only [Act.put, List.setIfInBounds_toArray, List.set_cons_zero, List.set_cons_succ, List.getElem_toArray, List.getElem_cons_zero, List.getElem_cons_succ]
  refine any_done (by kernel_rfl) ?_
  try simp only [Act.put, List.setIfInBounds_toArray, List.set_cons_zero, List.set_cons_succ, List.getElem_toArray, List.getElem_cons_zero, List.getElem_cons_succ]
  rw [show ([] : List Int) ++ [padK B 92, M].flatten = padK B 92 ++ M by simp] at hI
  replace hI := hide hI
  go_upto_region 7 with fail
  refine wp_region_lit ?_
  iterate 1 (refine wpList_step fun K hK => ?_; replace hK := hide hK; go_simp; refine unhide hK _ _ ?_; clear hK K)
  replace hI := unhide hI
  refine list_call 43 #[.pointer (some ⟨g2, 0, none⟩)] (by kernel_rfl) (by kernel_rfl) ((hsum_ok g2 (padK B 92 ++ M) (by rw [List.length_append, padK_len, hMl]; omega) _ hI.h2).mono ?_)
  rintro r u15 ⟨rfl, hg⟩
  refine ⟨_, rfl, ?_⟩
  replace hI := hI.more hg
  clear hg
  rw [unhide hSum]
  simp only [Act.put, List.setIfInBounds_toArray, List.set_cons_zero, List.set_cons_succ, List.getElem_toArray, List.getElem_cons_zero, List.getElem_cons_succ]
  have hRl : (hmacL B ps.flatten).length = 32 := hmacL_len _ _
  obtain ⟨R, hR⟩ : ∃ R, R = hmacL B ps.flatten := ⟨_, rfl⟩
  rw [← hR] at hRl
  rw [← hR]
  refine list_store 25 (.tmp 4) (.tmp 33) w.heap.size (kc R) 25 (kc Z32) (by kernel_rfl) rfl (by kernel_rfl) (by kernel_rfl) hI.b4 (by rw [Tryd.infoKey, kc_size, hRl]) ((show (kc Z32).size = 32 from rfl).trans ((kc_size _).trans hRl).symm) (kc_one _) ?_
  have hb4 := setRow_heap u15 w.heap.size _ (kc R) _ _ hI.b4
  have hgr := hI.gr.row w.heap.size (Nat.le_refl _) (kc R)
  generalize World.setRow _ _ _ = u16 at *
  clear hI
  simp only [Act.put, List.setIfInBounds_toArray, List.set_cons_zero, List.set_cons_succ, List.getElem_toArray, List.getElem_cons_zero, List.getElem_cons_succ]
  refine wpList_nil ?_
  go_wp2_with fail
  rw [unhide hT]
  exact bodyPost_ret (v := .agg (kc R)) (results_cell_row Tryd.results70 _ _ w.heap.size 25 (kc R) (0, 0) _ rfl hb4 Tryd.underlying25 rfl (by rw [Tryd.infoKey, kc_size, hRl])) rfl ⟨by rw [hR], hgr⟩
end Go.Proofs.YtpmgmpihmpifgaaDoor
