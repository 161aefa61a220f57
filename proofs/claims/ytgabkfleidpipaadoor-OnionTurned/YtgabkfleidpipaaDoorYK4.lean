/-
  Of layer 15: what the proof leans on.
-/
import Derived.Lib.AppendStr
import Derived.ChangeMaps5
import Derived.Laws.IdiomStrings
import Derived.OwnWalk
import Derived.Deep.DeepAppendWide
import Derived.Deep.LoopGhost
import Derived.Test.YtgabkfleidpipaaDoorYK3
namespace Go.Proofs.YtgabkfleidpipaaDoor
open Go.RowKit
set_option maxRecDepth 100000
set_option linter.unusedSimpArgs false
set_option linter.unusedVariables false
def hmacL (key text : List Int) : List Int := sumL (padK key 92 ++ sumL (padK key 54 ++ text))
theorem hmacL_len (key text : List Int) : (hmacL key text).length = 32 := sumL_len _
theorem sumL_isB (B : List Int) : IsB (sumL B) := keyL_isB _
structure HI (w : World) (g4 gk g1 g2 : Nat) (K L1 L2 : List Int) (v : World) : Prop where
  b4 : v.heap[g4]? = some (.cells (kc Z32) 34 (0, 0))
  bk : v.heap[gk]? = some (.cells (kc K) 98 (0, 0))
  h1 : H g1 L1 v
  h2 : H g2 L2 v
  gr : Gr w v
  n4 : w.heap.size ≤ g4
  nk : g4 < gk
  n1 : gk < g1
  n2 : g1 < g2
  n9 : g2 < v.heap.size
theorem HI.more {w : World} {g4 gk g1 g2 : Nat} {K L1 L2 : List Int} {u v : World} (h : HI w g4 gk g1 g2 K L1 L2 u) (k : Gr u v) : HI w g4 gk g1 g2 K L1 L2 v :=
  ⟨k.blk h.b4, k.blk h.bk, h.h1.gr k, h.h2.gr k, h.gr.trans k, h.n4, h.nk, h.n1, h.n2, Nat.lt_of_lt_of_le h.n9 k.size⟩
theorem HI.one {w : World} {g4 gk g1 g2 : Nat} {K L1 L2 M : List Int} {u v : World} (h : HI w g4 gk g1 g2 K L1 L2 u) (k : Bt g1 u v) (hm : H g1 M v) : HI w g4 gk g1 g2 K M L2 v := by
  have a1 := h.n4; have a2 := h.nk; have a3 := h.n1; have a4 := h.n2
  exact ⟨k.blk h.b4 (by omega), k.blk h.bk (by omega), hm, h.h2.bt k (by omega), k.gr h.gr (by omega), h.n4, h.nk, h.n1, h.n2, Nat.lt_of_lt_of_le h.n9 k.size⟩
theorem HI.two {w : World} {g4 gk g1 g2 : Nat} {K L1 L2 M : List Int} {u v : World} (h : HI w g4 gk g1 g2 K L1 L2 u) (k : Bt g2 u v) (hm : H g2 M v) : HI w g4 gk g1 g2 K L1 M v := by
  have a1 := h.n4; have a2 := h.nk; have a3 := h.n1; have a4 := h.n2
  exact ⟨k.blk h.b4 (by omega), k.blk h.bk (by omega), h.h1.bt k (by omega), hm, k.gr h.gr (by omega), h.n4, h.nk, h.n1, h.n2, Nat.lt_of_lt_of_le h.n9 k.size⟩
theorem PrX.one {g : Nat} {w : World} {p : Nat} {a : Option Addr} {n c : Nat} {t : TypeId} {P : List Int} (h : w.heap[p]? = some (.cells #[.slice a n c] t (0, 0))) (hp : p ≠ g) (hn : P.length = n) (hb : IsB P) (hs : SlX g w a P) (hc : n ≤ c) (hm : c < 9223372036854775808) : PrX g w (some ⟨p, 0, none⟩) [P] := by
  refine .inr ⟨p, 0, rfl, fun j hj => ?_⟩
  have hj0 : j = 0 := by simp at hj; exact hj
  subst hj0
  exact ⟨a, n, c, cell_of h rfl, hp, hn, hb, hs, hc, hm⟩
theorem PrX.pair {g : Nat} {w : World} {p : Nat} {a b : Option Addr} {n c m d : Nat} {t : TypeId} {P Q : List Int} (h : w.heap[p]? = some (.cells #[.slice a n c, .slice b m d] t (0, 0))) (hp : p ≠ g) (hn : P.length = n) (hb : IsB P) (hs : SlX g w a P) (hc : n ≤ c) (hm : c < 9223372036854775808)
    (hn2 : Q.length = m) (hb2 : IsB Q) (hs2 : SlX g w b Q) (hc2 : m ≤ d) (hm2 : d < 9223372036854775808) : PrX g w (some ⟨p, 0, none⟩) [P, Q] := by
  refine .inr ⟨p, 0, rfl, fun j hj => ?_⟩
  have hj0 : j = 0 ∨ j = 1 := by simp at hj; omega
  rcases hj0 with rfl | rfl
  · exact ⟨a, n, c, cell_of h rfl, hp, hn, hb, hs, hc, hm⟩
  · exact ⟨b, m, d, cell_of h rfl, hp, hn2, hb2, hs2, hc2, hm2⟩
def Coded (key text : List Int) (w : World) (r : Ending) (w' : World) : Prop := r = .returned (.agg (kc (hmacL key text))) ∧ Gr w w'
set_option maxHeartbeats 2000000 in
theorem hmac_ok (B : List Int) (hb : IsB B) (n : Nat) (hn : B.length = n) (hnb : n < 1152921504606846000) (a : Option Addr) (cap : Nat) (hcap : n ≤ cap) (hcb : cap < 9223372036854775808) (ps : List (List Int)) (ap : Option Addr) (m cp : Nat) (hm : ps.length = m) (hmb : m < 4611686018427387904) (hbig : ps.flatten.length < 1152921504606840000)
    (w : World) (hF : Fst w) (hA : Sl w a B) (hP : Pr w ap ps) : Calls Tryd.prog 74 #[.slice a n cap, .slice ap m cp] w (Coded B ps.flatten w) := by
  obtain ⟨T, hT⟩ : ∃ T, T = Coded B ps.flatten w := ⟨_, rfl⟩
  rw [← hT]
  replace hT := hide hT
  replace hF := hide hF
  replace hA := hide hA
  replace hP := hide hP
  replace hb := hide hb
  replace hn := hide hn
  replace hm := hide hm
  replace hbig := hide hbig
  go_enter Tryd.func74, Tryd.ntmps74
  go_upto_region 1 with fail
  have hB := (Bl.nil w).new #[.int .u8 0, .int .u8 0, .int .u8 0, .int .u8 0, .int .u8 0, .int .u8 0, .int .u8 0, .int .u8 0, .int .u8 0, .int .u8 0, .int .u8 0, .int .u8 0, .int .u8 0, .int .u8 0, .int .u8 0, .int .u8 0, .int .u8 0, .int .u8 0, .int .u8 0, .int .u8 0, .int .u8 0, .int .u8 0, .int .u8 0, .int .u8 0, .int .u8 0, .int .u8 0, .int .u8 0, .int .u8 0, .int .u8 0, .int .u8 0, .int .u8 0, .int .u8 0] 34
  simp only [List.nil_append] at hB
  generalize World.alloc _ _ = u1 at *
  replace hB : Bl w [⟨w.heap.size, kc Z32, 34⟩] u1 := hB
  refine wp_region_lit ?_
  iterate 1 (refine wpList_step fun K hK => ?_; replace hK := hide hK; go_simp; refine unhide hK _ _ ?_; clear hK K)
  refine list_call 81 #[.slice a n cap] (by kernel_rfl) (by kernel_rfl) ((pads_ok B (unhide hb) n (unhide hn) hnb a cap hcap hcb _ ((unhide hF).gr hB.gr) ((unhide hA).gr hB.gr)).mono ?_)
  rintro r u2 ⟨gk, rfl, hgk, hk, hg⟩
  refine ⟨_, rfl, ?_⟩
  have n0 := lt_of_block (hB.get 0 (x := ⟨w.heap.size, kc Z32, 34⟩) rfl)
  have nk : w.heap.size < gk := by dsimp only at n0; omega
  have n1 := lt_of_block hk
  replace hB := hB.more hg
  clear hg hgk n0
  simp only [nrm]
  replace hB := hide hB
  replace hk := hide hk
  obtain ⟨PF, hPF⟩ : ∃ PF, PF = padf gk := ⟨_, rfl⟩
  rw [← hPF]
  replace hPF := hide hPF
  iterate 1 (refine wpList_step fun K hK => ?_; replace hK := hide hK; go_simp; refine unhide hK _ _ ?_; clear hK K)
  refine wpList_nil ?_
  go_upto_region 2 with fail
  replace hB := unhide hB
  replace hk := unhide hk
  refine wp_region_lit ?_
  refine list_call 82 #[] (by kernel_rfl) (by kernel_rfl) ((new_ok _ ((unhide hF).gr hB.gr)).mono ?_)
  rintro r u3 ⟨g1, rfl, hg1, hH1, hg⟩
  refine ⟨_, rfl, ?_⟩
  have nk1 : gk < g1 := by omega
  have m1 : g1 < u3.heap.size := by obtain ⟨l, _, _, h3, _⟩ := hH1; exact lt_of_block h3
  replace hB := hB.more hg
  replace hk := hg.blk hk
  clear hg hg1 n1
  simp only [nrm]
  refine list_call 82 #[] (by kernel_rfl) (by kernel_rfl) ((new_ok _ ((unhide hF).gr hB.gr)).mono ?_)
  rintro r u4 ⟨g2, rfl, hg2, hH2, hg⟩
  refine ⟨_, rfl, ?_⟩
  have n12 : g1 < g2 := by omega
  have m2 : g2 < u4.heap.size := by obtain ⟨l, _, _, h3, _⟩ := hH2; exact lt_of_block h3
  replace hB := hB.more hg
  replace hk := hg.blk hk
  replace hH1 := hH1.gr hg
  clear hg hg2 m1
  simp only [nrm]
  have hI : HI w w.heap.size gk g1 g2 (z6 B) [] [] u4 := ⟨hB.get 0 (x := ⟨w.heap.size, kc Z32, 34⟩) rfl, hk, hH1, hH2, hB.gr, Nat.le_refl _, nk, nk1, n12, m2⟩
  clear hB hk hH1 hH2 m2
  replace hI := hide hI
  iterate 2 (refine wpList_step fun K hK => ?_; replace hK := hide hK; go_simp; refine unhide hK _ _ ?_; clear hK K)
  refine wpList_nil ?_
  go_upto_region 3 with fail
  refine wp_region_lit ?_
  iterate 1 (refine wpList_step fun K hK => ?_; replace hK := hide hK; go_simp; refine unhide hK _ _ ?_; clear hK K)
  refine list_val (wrf g1) (by kernel_rfl) (by kernel_rfl) ?_
  simp only [nrm]
  iterate 1 (refine wpList_step fun K hK => ?_; replace hK := hide hK; go_simp; refine unhide hK _ _ ?_; clear hK K)
  rw [unhide hPF]
  replace hI := unhide hI
  refine list_call 91 #[.int .u8 54, .pointer (some ⟨gk, 0, none⟩)] (by kernel_rfl) (by kernel_rfl) ((pads1_ok (z6 B) (z6_len B) 54 gk _ hI.bk).mono ?_)
  rintro r u5 ⟨gp, rfl, hgp, hp, hg⟩
  refine ⟨_, rfl, ?_⟩
  have npg : gp ≠ g1 := by have := hI.n9; omega
  replace hI := hI.more hg
  clear hg hgp
  rw [pad_all] at hp
  rw [← unhide hPF]
  simp only [nrm]
  replace hI := hide hI
  replace hp := hide hp
  obtain ⟨WF, hWF⟩ : ∃ WF, WF = wrf g1 := ⟨_, rfl⟩
  rw [← hWF]
  replace hWF := hide hWF
  iterate 1 (refine wpList_step fun K hK => ?_; replace hK := hide hK; go_simp; refine unhide hK _ _ ?_; clear hK K)
  have hg := (Gr.refl u5).alloc (.cells #[.slice (some ⟨gp, 0, none⟩) 64 64] 24)
  have hnew : (u5.alloc (.cells #[.slice (some ⟨gp, 0, none⟩) 64 64] 24)).heap[u5.heap.size]? = some (.cells #[.slice (some ⟨gp, 0, none⟩) 64 64] 24 (0, 0)) := blk_new _ _
  have hng : u5.heap.size ≠ g1 := by have := (unhide hI).n9; omega
  replace hI := (unhide hI).more hg
  replace hp := hg.blk (unhide hp)
  generalize World.alloc _ _ = u6 at *
  generalize u5.heap.size = gb at *
  clear hg
  rw [unhide hWF]
  refine list_call 83 #[wrf g1, .slice (some ⟨gb, 0, none⟩) 1 1] (by kernel_rfl) (by kernel_rfl) ((feed_ok g1 [] [padK B 54] (some ⟨gb, 0, none⟩) 1 1 rfl (by omega) (by simp [padK_len]) _ hI.h1 (PrX.one hnew hng (padK_len B 54) (padK_isB B 54) (.inr ⟨gp, 0, rfl, kc_at hp, npg⟩) (by omega) (by omega))).mono ?_)
  rintro r u7 ⟨vr, rfl, hH, hbt⟩
  refine ⟨_, rfl, ?_⟩
  replace hI := hI.one hbt hH
  rw [show ([] : List Int) ++ [padK B 54].flatten = padK B 54 by simp] at hI
  clear hbt hH hp hnew hng npg hWF
  simp only [nrm]
  refine wpList_nil ?_
  replace hI := hide hI
  go_upto_region 4 with fail
  refine wp_region_lit ?_
  iterate 1 (refine wpList_step fun K hK => ?_; replace hK := hide hK; go_simp; refine unhide hK _ _ ?_; clear hK K)
  refine list_val (wrf g1) (by kernel_rfl) (by kernel_rfl) ?_
  simp only [nrm]
  replace hI := unhide hI
  refine list_val (.slice ap m cp) (by kernel_rfl) (by kernel_rfl) ?_
  simp only [nrm]
  refine list_call 83 #[wrf g1, .slice ap m cp] (by kernel_rfl) (by kernel_rfl) ((feed_ok g1 (padK B 54) ps ap m cp (unhide hm) hmb (by rw [padK_len]; have := unhide hbig; omega) _ hI.h1 ((unhide hP).far hI.gr (by have a2 := hI.nk; have a3 := hI.n1; omega))).mono ?_)
  rintro r u8 ⟨vr2, rfl, hH, hbt⟩
  refine ⟨_, rfl, ?_⟩
  replace hI := hI.one hbt hH
  clear hbt hH
  simp only [nrm]
  refine wpList_nil ?_
  replace hI := hide hI
  go_upto_region 5 with fail
  refine wp_region_lit ?_
  iterate 1 (refine wpList_step fun K hK => ?_; replace hK := hide hK; go_simp; refine unhide hK _ _ ?_; clear hK K)
  replace hI := unhide hI
  refine list_call 85 #[.pointer (some ⟨g1, 0, none⟩)] (by kernel_rfl) (by kernel_rfl) ((hsum_ok g1 (padK B 54 ++ ps.flatten) (by rw [List.length_append, padK_len]; have := unhide hbig; omega) _ hI.h1).mono ?_)
  rintro r u9 ⟨rfl, hg⟩
  refine ⟨_, rfl, ?_⟩
  replace hI := hI.more hg
  clear hg
  simp only [nrm]
  have hSum : Hid (sumL (padK B 92 ++ sumL (padK B 54 ++ ps.flatten)) = hmacL B ps.flatten) := rfl
  obtain ⟨M, hM⟩ : ∃ M, M = sumL (padK B 54 ++ ps.flatten) := ⟨_, rfl⟩
  have hMl : M.length = 32 := by rw [hM]; exact sumL_len _
  have hMb : IsB M := by rw [hM]; exact sumL_isB _
  rw [← hM] at hSum
  rw [← hM]
  clear hM
  replace hI := hide hI
  replace hMb := hide hMb
  iterate 1 (refine wpList_step fun K hK => ?_; replace hK := hide hK; go_simp; refine unhide hK _ _ ?_; clear hK K)
  have hL := (Bl.nil u9).new #[.int .u8 0, .int .u8 0, .int .u8 0, .int .u8 0, .int .u8 0, .int .u8 0, .int .u8 0, .int .u8 0, .int .u8 0, .int .u8 0, .int .u8 0, .int .u8 0, .int .u8 0, .int .u8 0, .int .u8 0, .int .u8 0, .int .u8 0, .int .u8 0, .int .u8 0, .int .u8 0, .int .u8 0, .int .u8 0, .int .u8 0, .int .u8 0, .int .u8 0, .int .u8 0, .int .u8 0, .int .u8 0, .int .u8 0, .int .u8 0, .int .u8 0, .int .u8 0] 34
  simp only [List.nil_append] at hL
  generalize World.alloc _ _ = u10 at *
  replace hL : Bl u9 [⟨u9.heap.size, kc Z32, 34⟩] u10 := hL
  refine list_store 34 (.tmp 8) (.tmp 24) u9.heap.size (kc M) 34 (kc Z32) (by kernel_rfl) rfl (by kernel_rfl) (by kernel_rfl) (hL.get 0 (x := ⟨u9.heap.size, kc Z32, 34⟩) rfl) (by rw [Tryd.infoKey, kc_size, hMl]) ((show (kc Z32).size = 32 from rfl).trans ((kc_size _).trans hMl).symm) (kc_one _) ?_
  replace hL := hL.set 0 (x := ⟨u9.heap.size, kc Z32, 34⟩) rfl (kc M)
  simp only [List.set_cons_zero, List.set_cons_succ] at hL
  generalize World.setRow _ _ _ = u11 at *
  simp only [nrm]
  refine wpList_nil ?_
  have hks := hL.get 0 (x := ⟨u9.heap.size, kc M, 34⟩) rfl
  dsimp only at hks
  have nsg : u9.heap.size ≠ g2 := by have := (unhide hI).n9; omega
  replace hI := (unhide hI).more hL.gr
  generalize u9.heap.size = gs at *
  clear hL
  replace hI := hide hI
  replace hks := hide hks
  go_upto_region 6 with fail
  replace hI := unhide hI
  replace hks := unhide hks
  refine any_start (S := fun _ => True) (by kernel_rfl) ?_
  have hg := (Gr.refl u11).drew
  generalize World.drew _ = u11b at *
  replace hI := hI.more hg
  replace hks := hg.blk hks
  clear hg
  rw [unhide hPF]
  simp only [List.size_toArray, List.length_cons, List.length_nil, Array.replicate, List.replicate]
  refine any_take (i := 0) (v := (.pointer (some ⟨g2, 0, none⟩))) #[false, false, false, false, false, false, false] rfl (by kernel_rfl) (by kernel_rfl) (by kernel_rfl) (by kernel_rfl) (fun _ _ _ h => h) (.inl ⟨by kernel_rfl, fun x_ hu => by kernel_rfl⟩) trivial ?_
  simp only [nrm]
  refine any_take (i := 1) (v := (wrf g2)) #[true, false, false, false, false, false, false] rfl (by kernel_rfl) (by kernel_rfl) (by kernel_rfl) (by kernel_rfl) (fun _ _ _ h => h) (.inl ⟨by kernel_rfl, fun x_ hu => by kernel_rfl⟩) trivial ?_
  simp only [nrm]
  refine any_take (i := 2) (v := (padf gk)) #[true, true, false, false, false, false, false] rfl (by kernel_rfl) (by kernel_rfl) (by kernel_rfl) (by kernel_rfl) (fun _ _ _ h => h) (.inl ⟨by kernel_rfl, fun x_ hu => by kernel_rfl⟩) trivial ?_
  simp only [nrm]
  refine any_take (i := 4) (v := (.slice (some ⟨gs, 0, none⟩) 32 32)) #[true, true, true, false, false, false, false] rfl (by kernel_rfl) (by kernel_rfl) (by kernel_rfl) (by kernel_rfl) (fun _ _ _ h => h) (.inl ⟨by kernel_rfl, fun x_ hu => by go_simp⟩) trivial ?_
  simp only [nrm]
  refine any_one (i := 3) (by kernel_rfl) rfl (fun K hK => ?_)
  refine step_callw (by kernel_rfl) 91 #[.int .u8 92, .pointer (some ⟨gk, 0, none⟩)] (by kernel_rfl) ((pads1_ok (z6 B) (z6_len B) 92 gk _ hI.bk).mono ?_)
  rintro r u12 ⟨gq, rfl, hgq, hq, hg⟩
  refine ⟨_, rfl, ?_⟩
  have nqg : gq ≠ g2 := by have := hI.n9; omega
  replace hI := hI.more hg
  replace hks := hg.blk hks
  clear hg hgq
  rw [pad_all] at hq
  refine hK.out _ _ trivial (fun _ => ?_)
  clear hK K
  simp only [nrm]
  refine any_one (i := 5) (by kernel_rfl) rfl (fun K hK => ?_)
  replace hI := hide hI
  replace hq := hide hq
  replace hks := hide hks
  obtain ⟨WG, hWG⟩ : ∃ WG, WG = wrf g2 := ⟨_, rfl⟩
  rw [← hWG]
  replace hWG := hide hWG
  replace hK := hide hK
  go_simp
  refine (unhide hK).out _ _ trivial (fun _ => ?_)
  clear hK K
  have hg := (Gr.refl u12).alloc (.cells #[.slice (some ⟨gq, 0, none⟩) 64 64, .slice (some ⟨gs, 0, none⟩) 32 32] 24)
  have hnew : (u12.alloc (.cells #[.slice (some ⟨gq, 0, none⟩) 64 64, .slice (some ⟨gs, 0, none⟩) 32 32] 24)).heap[u12.heap.size]? = some (.cells #[.slice (some ⟨gq, 0, none⟩) 64 64, .slice (some ⟨gs, 0, none⟩) 32 32] 24 (0, 0)) := blk_new _ _
  have hng : u12.heap.size ≠ g2 := by have := (unhide hI).n9; omega
  replace hI := (unhide hI).more hg
  replace hq := hg.blk (unhide hq)
  replace hks := hg.blk (unhide hks)
  generalize World.alloc _ _ = u13 at *
  generalize u12.heap.size = gc at *
  clear hg
  rw [unhide hWG]
  clear hWG
  refine any_one (i := 6) (by kernel_rfl) rfl (fun K hK => ?_)
  refine step_callw (by kernel_rfl) 83 #[wrf g2, .slice (some ⟨gc, 0, none⟩) 2 2] (by kernel_rfl) ((feed_ok g2 [] [padK B 92, M] (some ⟨gc, 0, none⟩) 2 2 rfl (by omega) (by simp [padK_len, hMl]) _ hI.h2 (PrX.pair hnew hng (padK_len B 92) (padK_isB B 92) (.inr ⟨gq, 0, rfl, kc_at hq, nqg⟩) (by omega) (by omega) hMl (unhide hMb) (.inr ⟨gs, 0, rfl, kc_at hks, nsg⟩) (by omega) (by omega))).mono ?_)
  rintro r u14 ⟨vr3, rfl, hH, hbt⟩
  refine ⟨_, rfl, ?_⟩
  replace hI := hI.two hbt hH
  clear hbt hH hnew hng hq hks
  refine hK.out _ _ trivial (fun _ => ?_)
  clear hK K
  simp only [nrm]
  refine any_done (by kernel_rfl) ?_
  try simp only [nrm]
  rw [show ([] : List Int) ++ [padK B 92, M].flatten = padK B 92 ++ M by simp] at hI
  replace hI := hide hI
  go_upto_region 7 with fail
  refine wp_region_lit ?_
  iterate 1 (refine wpList_step fun K hK => ?_; replace hK := hide hK; go_simp; refine unhide hK _ _ ?_; clear hK K)
  replace hI := unhide hI
  refine list_call 85 #[.pointer (some ⟨g2, 0, none⟩)] (by kernel_rfl) (by kernel_rfl) ((hsum_ok g2 (padK B 92 ++ M) (by rw [List.length_append, padK_len, hMl]; omega) _ hI.h2).mono ?_)
  rintro r u15 ⟨rfl, hg⟩
  refine ⟨_, rfl, ?_⟩
  replace hI := hI.more hg
  clear hg
  rw [unhide hSum]
  simp only [nrm]
  have hRl : (hmacL B ps.flatten).length = 32 := hmacL_len _ _
  obtain ⟨R, hR⟩ : ∃ R, R = hmacL B ps.flatten := ⟨_, rfl⟩
  rw [← hR] at hRl
  rw [← hR]
  refine list_store 34 (.tmp 4) (.tmp 33) w.heap.size (kc R) 34 (kc Z32) (by kernel_rfl) rfl (by kernel_rfl) (by kernel_rfl) hI.b4 (by rw [Tryd.infoKey, kc_size, hRl]) ((show (kc Z32).size = 32 from rfl).trans ((kc_size _).trans hRl).symm) (kc_one _) ?_
  have hb4 := setRow_heap u15 w.heap.size _ (kc R) _ _ hI.b4
  have hgr := hI.gr.row w.heap.size (Nat.le_refl _) (kc R)
  generalize World.setRow _ _ _ = u16 at *
  clear hI
  simp only [nrm]
  refine wpList_nil ?_
  go_wp2_with fail
  rw [unhide hT]
  exact bodyPost_ret (v := .agg (kc R)) (results_cell_row Tryd.results74 _ _ w.heap.size 34 (kc R) (0, 0) _ rfl hb4 Tryd.underlying34 rfl (by rw [Tryd.infoKey, kc_size, hRl])) rfl ⟨by rw [hR], hgr⟩
theorem Lb.nil (w : World) : Lb w none 0 0 [] := ⟨rfl, (by intro x hx; cases hx), .inl rfl, by omega, by omega⟩
theorem Pr.one {w : World} {p : Nat} {a : Option Addr} {n c : Nat} {t : TypeId} {P : List Int} (h : w.heap[p]? = some (.cells #[.slice a n c] t (0, 0))) (hp : Lb w a n c P) : Pr w (some ⟨p, 0, none⟩) [P] := by
  refine .inr ⟨p, 0, rfl, fun j hj => ?_⟩
  have hj0 : j = 0 := by simp at hj; exact hj
  subst hj0
  exact ⟨a, n, c, cell_of h rfl, hp.len, hp.isB, hp.sl, hp.cap, hp.max⟩
theorem Pr.three {w : World} {p : Nat} {a b e : Option Addr} {n c m d k f : Nat} {t : TypeId} {P Q R : List Int} (h : w.heap[p]? = some (.cells #[.slice a n c, .slice b m d, .slice e k f] t (0, 0))) (hp : Lb w a n c P) (hq : Lb w b m d Q) (hr : Lb w e k f R) : Pr w (some ⟨p, 0, none⟩) [P, Q, R] := by
  refine .inr ⟨p, 0, rfl, fun j hj => ?_⟩
  have hj0 : j = 0 ∨ j = 1 ∨ j = 2 := by simp at hj; omega
  rcases hj0 with rfl | rfl | rfl
  · exact ⟨a, n, c, cell_of h rfl, hp.len, hp.isB, hp.sl, hp.cap, hp.max⟩
  · exact ⟨b, m, d, cell_of h rfl, hq.len, hq.isB, hq.sl, hq.cap, hq.max⟩
  · exact ⟨e, k, f, cell_of h rfl, hr.len, hr.isB, hr.sl, hr.cap, hr.max⟩
def lastT (K I : List Int) : Nat → List Int
  | 0 => []
  | i + 1 => hmacL K (lastT K I i ++ (I ++ [(((i + 1) % 256 : Nat) : Int)]))
def outT (K I : List Int) : Nat → List Int
  | 0 => []
  | i + 1 => outT K I i ++ lastT K I (i + 1)
theorem outT_len (K I : List Int) : ∀ i, (outT K I i).length = 32 * i
  | 0 => rfl
  | i + 1 => by
    rw [outT, List.length_append, outT_len K I i, lastT, hmacL_len]
    omega
theorem outT_add (K I : List Int) (m : Nat) : ∀ d, ∃ r, outT K I (m + d) = outT K I m ++ r
  | 0 => ⟨[], by simp⟩
  | d + 1 => by
    obtain ⟨r, hr⟩ := outT_add K I m d
    refine ⟨r ++ lastT K I (m + d + 1), ?_⟩
    rw [← Nat.add_assoc, outT, hr, List.append_assoc]
def spL (K I : List Int) (n : Nat) : List Int := (outT K I ((n + 31) / 32)).take n
theorem spL_len (K I : List Int) (n : Nat) : (spL K I n).length = n := by
  unfold spL
  rw [List.length_take, outT_len]
  omega
theorem spL_of (K I : List Int) (n m : Nat) (h : n ≤ 32 * m) : (outT K I m).take n = spL K I n := by
  obtain ⟨d, hd⟩ : ∃ d, m = (n + 31) / 32 + d := ⟨m - (n + 31) / 32, by omega⟩
  obtain ⟨r, hr⟩ := outT_add K I ((n + 31) / 32) d
  unfold spL
  rw [hd, hr, List.take_append_of_le_length (by rw [outT_len]; omega)]
theorem lastT_isB (K I : List Int) : ∀ i, IsB (lastT K I i)
  | 0 => by intro x hx; cases hx
  | i + 1 => by rw [lastT]; exact sumL_isB _
theorem outT_isB (K I : List Int) : ∀ i, IsB (outT K I i)
  | 0 => by intro x hx; cases hx
  | i + 1 => by rw [outT]; exact isB_append (outT_isB K I i) (lastT_isB K I (i + 1))
theorem spL_isB (K I : List Int) (n : Nat) : IsB (spL K I n) := isB_take (outT_isB _ _ _) n
theorem lastT_len (K I : List Int) (i : Nat) : (lastT K I (i + 1)).length = 32 := by rw [lastT]; exact hmacL_len _ _
def Spr (K I : List Int) (n : Nat) (w : World) (r : Ending) (w' : World) : Prop := ∃ a, r = .returned (.slice a n n) ∧ Lb w' a n n (spL K I n) ∧ (∀ x, a = some x → w.heap.size ≤ x.block) ∧ Gr w w'
structure SI (w : World) (b gk : Nat) (K I : List Int) (i : Nat) (v7 : Value) (a8 : Option Addr) (n8 c8 : Nat) (v : World) : Prop where
  ob : Ob b v v7 (outT K I i)
  la : Lb v a8 n8 c8 (lastT K I i)
  bk : v.heap[gk]? = some (.cells (kc K) 34 (0, 0))
  gr : Gr w v
  sz : b ≤ v.heap.size
theorem SI.more {w : World} {b gk : Nat} {K I : List Int} {i : Nat} {v7 : Value} {a8 : Option Addr} {n8 c8 : Nat} {u v : World} (h : SI w b gk K I i v7 a8 n8 c8 u) (k : Gr u v) : SI w b gk K I i v7 a8 n8 c8 v :=
  ⟨h.ob.gr k, h.la.gr k, k.blk h.bk, h.gr.trans k, Nat.le_trans h.sz k.size⟩
set_option maxHeartbeats 2000000 in
theorem spread_ok (K : List Int) (hKl : K.length = 32) (hKb : IsB K) (I : List Int) (a : Option Addr) (ni ci : Nat) (n : Nat) (hn : n ≤ 8160) (hni : ni ≤ 1152921504606830000) (w : World) (hF : Fst w) (hI : Lb w a ni ci I) :
    Calls Tryd.prog 52 #[.agg (kc K), .slice a ni ci, .int .i64 n] w (Spr K I n w) := by
  obtain ⟨T, hT⟩ : ∃ T, T = Spr K I n w := ⟨_, rfl⟩
  rw [← hT]
  obtain ⟨KK, hKK⟩ : ∃ KK, KK = kc K := ⟨_, rfl⟩
  rw [← hKK]
  have hKs : KK.size = 32 := by rw [hKK, kc_size, hKl]
  replace hT := hide hT
  replace hF := hide hF
  replace hI := hide hI
  replace hKK := hide hKK
  replace hKb := hide hKb
  have w1 : IntKind.i64.wrap ((n : Int) + 32) = (n : Int) + 32 := by rw [IntKind.wrap_i64]; omega
  have w2 : (0 : Int) ≤ (n : Int) + 32 := by omega
  go_enter Tryd.func52, Tryd.ntmps52
  go_upto_region 1 with fail
  have hB := (Bl.nil w).new KK 34
  simp only [List.nil_append] at hB
  generalize World.alloc _ _ = u1 at *
  refine wp_region_lit ?_
  iterate 2 (refine wpList_step fun K hK => ?_; replace hK := hide hK; go_simp; refine unhide hK _ _ ?_; clear hK K)
  refine wpList_make_room u1 rfl (.const (.int .i64 0)) (.tmp 12) rfl 0 ((n : Int) + 32) 0 (n + 32) (by kernel_rfl) (by kernel_rfl) (by omega) (by omega) (by omega) (by omega) ?_
  have hO : Ob u1.heap.size (u1.alloc (.cells (kc (List.replicate (n + 32) 0)) 5 (0, 0))) (.slice (some ⟨u1.heap.size, 0, none⟩) 0 (n + 32)) [] :=
    ⟨rfl, .inr ⟨u1.heap.size, n + 32, _, rfl, Nat.le_refl _, blk_new _ _, by simp, by unfold maxLen; omega, by rw [kc_size]; simp, by simp⟩⟩
  have hg := (Gr.refl u1).alloc (.cells (kc (List.replicate (n + 32) 0)) 5 (0, 0))
  have hgk : w.heap.size < u1.heap.size := by have := lt_of_block (hB.get 0 (x := ⟨w.heap.size, KK, 34⟩) rfl); exact this
  replace hB := hB.more hg
  have hbs := hg.size
  generalize World.alloc _ _ = u2 at *
  generalize u1.heap.size = b at *
  clear hg
  simp only [nrm]
  have hS : SI w b w.heap.size K I 0 (.slice (some ⟨b, 0, none⟩) 0 (n + 32)) none 0 0 u2 := ⟨hO, Lb.nil _, (by rw [← unhide hKK]; exact hB.get 0 (x := ⟨w.heap.size, KK, 34⟩) rfl), hB.gr, hbs⟩
  clear hO hB hbs
  replace hS := hide hS
  iterate 1 (refine wpList_step fun K hK => ?_; replace hK := hide hK; go_simp; refine unhide hK _ _ ?_; clear hK K)
  refine wpList_nil ?_
  go_wp2_with fail
  go_loopw [7, 8, 9] (fun x y z wr => ∃ (i : Nat) (a7 : Option Addr) (c7 : Nat) (a8 : Option Addr) (n8 c8 : Nat), i ≤ (n + 31) / 32 ∧ x = .slice a7 (32 * i) c7 ∧ y = .slice a8 n8 c8 ∧ z = .int .i64 ((i + 1 : Nat) : Int) ∧ Hid (SI w b w.heap.size K I i (.slice a7 (32 * i) c7) a8 n8 c8 wr)) (fun x _ _ _ => n + 32 - slenV x)
  case atStart => exact ⟨0, _, n + 32, none, 0, 0, by omega, rfl, rfl, rfl, hS⟩
  case round =>
  clear hS
  obtain ⟨i, a7, c7, a8, n8, c8, hi, rfl, rfl, rfl, hS⟩ := hrel
  by_cases hl : 32 * i < n
  · have lI : 32 * (i : Int) < (n : Int) := by omega
    have e1 : IntKind.i64.wrap ((i : Int) + 1 + 1) = (i : Int) + 1 + 1 := by rw [IntKind.wrap_i64]; omega
    obtain ⟨y, hy⟩ : ∃ y : Int, y = (((i + 1) % 256 : Nat) : Int) := ⟨_, rfl⟩
    have e2 : IntKind.u8.wrap ((i : Int) + 1) = y := by rw [IntKind.wrap_u8', hy]; omega
    have hyb : 0 ≤ y ∧ y < 256 := by omega
    have hnx : Hid (hmacL K ([lastT K I i, I, [y]] : List (List Int)).flatten = lastT K I (i + 1)) := by
      have e : ([lastT K I i, I, [y]] : List (List Int)).flatten = lastT K I i ++ (I ++ [y]) := by simp
      rw [e, hy]
      exact rfl
    replace hy := hide hy
    go_upto_region 6 with fail
    refine wp_region_lit ?_
    iterate 5 (refine wpList_step fun K hK => ?_; replace hK := hide hK; go_simp; refine unhide hK _ _ ?_; clear hK K)
    refine list_valw (.slice (some ⟨wr.heap.size, 0, none⟩) 1 1) (wr.alloc (.cells (kc [y]) 5 (0, 0))) (by kernel_rfl) (by kernel_rfl) ?_
    simp only [nrm]
    have hg := (Gr.refl wr).alloc (.cells (kc [y]) 5 (0, 0))
    have l3 : Lb (wr.alloc (.cells (kc [y]) 5 (0, 0))) (some ⟨wr.heap.size, 0, none⟩) 1 1 [y] := ⟨rfl, (by intro x hx; simp at hx; subst hx; exact hyb), .inr ⟨_, 0, rfl, kc_at (blk_new _ _)⟩, by omega, by omega⟩
    replace hS := (unhide hS).more hg
    generalize World.alloc _ _ = v1 at *
    generalize wr.heap.size = g1 at *
    clear hg
    refine list_valw (.slice (some ⟨v1.heap.size, 0, none⟩) 3 3) (v1.alloc (.cells #[.slice a8 n8 c8, .slice a ni ci, .slice (some ⟨g1, 0, none⟩) 1 1] 24 (0, 0))) (by kernel_rfl) (by kernel_rfl) ?_
    simp only [nrm]
    have hg := (Gr.refl v1).alloc (.cells #[.slice a8 n8 c8, .slice a ni ci, .slice (some ⟨g1, 0, none⟩) 1 1] 24 (0, 0))
    have hnew := blk_new v1 (.cells #[.slice a8 n8 c8, .slice a ni ci, .slice (some ⟨g1, 0, none⟩) 1 1] 24 (0, 0))
    replace hS := hS.more hg
    replace l3 := l3.gr hg
    generalize World.alloc _ _ = v2 at *
    generalize v1.heap.size = g2 at *
    clear hg
    have hP := Pr.three hnew hS.la ((unhide hI).gr hS.gr) l3
    refine list_call 74 #[.slice (some ⟨w.heap.size, 0, none⟩) 32 32, .slice (some ⟨g2, 0, none⟩) 3 3] (by kernel_rfl) (by kernel_rfl) ((hmac_ok K (unhide hKb) 32 hKl (by omega) _ 32 (by omega) (by omega) [lastT K I i, I, [y]] _ 3 3 rfl (by omega) (by have h1 : (lastT K I i).length ≤ 32 := (by cases i with | zero => simp [lastT] | succ j => rw [lastT_len]; omega); have h2 := (unhide hI).len; simp only [List.flatten_cons, List.flatten_nil, List.length_append, List.length_nil, List.length_cons]; omega) _ ((unhide hF).gr hS.gr) (.inr ⟨_, 0, rfl, kc_at hS.bk⟩) hP).mono ?_)
    rintro r v3 ⟨rfl, hg⟩
    refine ⟨_, rfl, ?_⟩
    replace hS := hS.more hg
    clear hg hP hnew l3
    rw [unhide hnx]
    simp only [nrm]
    obtain ⟨M, hM⟩ : ∃ M, M = lastT K I (i + 1) := ⟨_, rfl⟩
    have hMl : M.length = 32 := by rw [hM]; exact lastT_len _ _ _
    have hMb : IsB M := by rw [hM]; exact lastT_isB _ _ _
    rw [← hM]
    replace hM := hide hM
    replace hS := hide hS
    replace hMb := hide hMb
    iterate 1 (refine wpList_step fun K hK => ?_; replace hK := hide hK; go_simp; refine unhide hK _ _ ?_; clear hK K)
    have hL := (Bl.nil v3).new #[.int .u8 0, .int .u8 0, .int .u8 0, .int .u8 0, .int .u8 0, .int .u8 0, .int .u8 0, .int .u8 0, .int .u8 0, .int .u8 0, .int .u8 0, .int .u8 0, .int .u8 0, .int .u8 0, .int .u8 0, .int .u8 0, .int .u8 0, .int .u8 0, .int .u8 0, .int .u8 0, .int .u8 0, .int .u8 0, .int .u8 0, .int .u8 0, .int .u8 0, .int .u8 0, .int .u8 0, .int .u8 0, .int .u8 0, .int .u8 0, .int .u8 0, .int .u8 0] 34
    simp only [List.nil_append] at hL
    generalize World.alloc _ _ = v4 at *
    replace hL : Bl v3 [⟨v3.heap.size, kc Z32, 34⟩] v4 := hL
    refine list_store 34 (.tmp 10) (.tmp 27) v3.heap.size (kc M) 34 (kc Z32) (by kernel_rfl) rfl (by kernel_rfl) (by kernel_rfl) (hL.get 0 (x := ⟨v3.heap.size, kc Z32, 34⟩) rfl) (by rw [Tryd.infoKey, kc_size, hMl]) ((show (kc Z32).size = 32 from rfl).trans ((kc_size _).trans hMl).symm) (kc_one _) ?_
    replace hL := hL.set 0 (x := ⟨v3.heap.size, kc Z32, 34⟩) rfl (kc M)
    simp only [List.set_cons_zero, List.set_cons_succ] at hL
    generalize World.setRow _ _ _ = v5 at *
    simp only [nrm]
    refine wpList_nil ?_
    have hks := hL.get 0 (x := ⟨v3.heap.size, kc M, 34⟩) rfl
    dsimp only at hks
    have hobl : ∀ q, (Value.slice a7 (32 * i) c7).ownBlock = some q → q ≠ v3.heap.size := fun q hq => by have := (World.ownsRow.lt (unhide hS).ob q hq).2; omega
    replace hS := hide ((unhide hS).more hL.gr)
    generalize v3.heap.size = gc at *
    clear hL
    replace hobl := hide hobl
    replace hks := hide hks
    go_upto_region 8 with fail
    replace hS := unhide hS
    replace hks := unhide hks
    replace hobl := unhide hobl
    refine wp_region_lit ?_
    iterate 2 (refine wpList_step fun K hK => ?_; replace hK := hide hK; go_simp; refine unhide hK _ _ ?_; clear hK K)
    refine app_bs (by kernel_rfl) (.tmp 29) (.tmp 30) rfl b (.slice a7 (32 * i) c7) (outT K I i) (by kernel_rfl) hS.ob (some ⟨gc, 0, none⟩) 32 32 M (by kernel_rfl) hMl (.inr ⟨gc, 0, rfl, kc_at hks⟩) (by rw [outT_len]; omega) hS.sz ?_
    intro x5 v6 hO2 hgb
    have hks2 : v6.heap[gc]? = some (.cells (kc M) 34 (0, 0)) := by rw [hgb.block gc (lt_of_block hks) (fun e => hobl gc e.symm rfl)]; exact hks
    have hbk2 : v6.heap[w.heap.size]? = some (.cells (kc K) 34 (0, 0)) := by
      rw [hgb.block w.heap.size (lt_of_block hS.bk) (fun e => by have := (World.ownsRow.lt hS.ob _ e.symm).1; omega)]; exact hS.bk
    have hG2 := hS.ob.grown (by omega) hS.gr hgb
    have hsz2 := Nat.le_trans hS.sz hgb.size
    obtain ⟨a5, c5, rfl, _, _, _⟩ := hO2.slice
    have hO3 : Ob b v6 (.slice a5 (32 * (i + 1)) c5) (outT K I (i + 1)) := by
      have e : outT K I (i + 1) = outT K I i ++ M := by rw [outT, unhide hM]
      rw [← e] at hO2
      rw [outT_len] at hO2
      exact hO2
    have hlen : (outT K I i ++ M).length = 32 * (i + 1) := by rw [List.length_append, outT_len, hMl]; omega
    rw [hlen]
    have hS2 : SI w b w.heap.size K I (i + 1) (.slice a5 (32 * (i + 1)) c5) (some ⟨gc, 0, none⟩) 32 32 v6 := ⟨hO3, ⟨lastT_len _ _ _, lastT_isB _ _ _, .inr ⟨gc, 0, rfl, by rw [← unhide hM]; exact kc_at hks2⟩, by omega, by omega⟩, hbk2, hG2, hsz2⟩
    clear hS hO2 hO3 hgb hks hks2 hbk2 hG2 hsz2 hobl hlen
    simp only [nrm]
    replace hS2 := hide hS2
    iterate 1 (refine wpList_step fun K hK => ?_; replace hK := hide hK; go_simp; refine unhide hK _ _ ?_; clear hK K)
    refine wpList_nil ?_
    go_wp2_with fail
    refine ⟨⟨i + 1, a5, c5, some ⟨gc, 0, none⟩, 32, 32, by omega, rfl, rfl, by congr 1, hS2⟩, ?_⟩
    show n + 32 - 32 * (i + 1) < n + 32 - 32 * i
    omega
  · have lI : ¬ 32 * (i : Int) < (n : Int) := by omega
    obtain ⟨a6, c6, e6, hc6, hm6, hs6⟩ := (unhide hS).ob.slice
    rw [outT_len] at e6 hc6
    obtain ⟨rfl, _, rfl⟩ := (Value.slice.injEq _ _ _ _ _ _).mp e6
    have n1 : (n : Int) ≤ (c7 : Int) := by omega
    have n2 : n ≤ c7 := by omega
    have hP : Hid (Spr K I n w (.returned (.slice a7 n n)) wr) := by
      refine ⟨a7, rfl, ⟨spL_len _ _ _, spL_isB _ _ _, ?_, Nat.le_refl _, by omega⟩, (fun x hx => by have := (World.ownsRow.lt (unhide hS).ob x.block (by rw [hx]; rfl)).1; omega), (unhide hS).gr⟩
      rw [← spL_of K I n i (by omega)]
      rcases hs6 with h | ⟨p, o, h1, h2⟩
      · left; rw [h]; simp
      · exact .inr ⟨p, o, h1, h2.take n⟩
    clear hs6 hm6 hc6 e6 hS
    go_wp2_with fail
    rw [unhide hT]
    exact unhide hP
def lw (X : Nat) : Nat → List Int
  | 0 => []
  | k + 1 => lw X k ++ [((X / 256 ^ k % 256 : Nat) : Int)]
theorem lw_len (X : Nat) : ∀ k, (lw X k).length = k
  | 0 => rfl
  | k + 1 => by rw [lw, List.length_append, lw_len X k]; rfl
theorem lw_isB (X : Nat) : ∀ k, IsB (lw X k)
  | 0 => by intro x hx; cases hx
  | k + 1 => by
    intro x hx
    rw [lw] at hx
    rcases List.mem_append.1 hx with h | h
    · exact lw_isB X k x h
    · have : x = ((X / 256 ^ k % 256 : Nat) : Int) := by simpa using h
      omega
def lwz (B : List Int) (X k : Nat) : List Int := B ++ (lw X k ++ List.replicate (4 - k) 0)
theorem lwz_len (B : List Int) (X k : Nat) (hk : k ≤ 4) : (lwz B X k).length = B.length + 4 := by
  unfold lwz
  rw [List.length_append, List.length_append, lw_len, List.length_replicate]
  omega
theorem lwz_next (B : List Int) (X k : Nat) (hk : k < 4) : (lwz B X k).set (B.length + k) ((X / 256 ^ k % 256 : Nat) : Int) = lwz B X (k + 1) := by
  obtain ⟨m, hm⟩ : ∃ m, 4 - k = m + 1 := ⟨3 - k, by omega⟩
  have hm2 : 4 - (k + 1) = m := by omega
  unfold lwz
  rw [hm, hm2, List.set_append_right _ _ (by omega), Nat.add_sub_cancel_left, List.set_append_right _ _ (by rw [lw_len]; omega), lw_len, Nat.sub_self, List.replicate_succ, List.set_cons_zero, lw, List.append_assoc]
  rfl
theorem lwz_zero (B : List Int) (X : Nat) : lwz B X 0 = B ++ List.replicate 4 0 := rfl
theorem lwz_all (B : List Int) (X : Nat) : lwz B X 4 = B ++ lw X 4 := by unfold lwz; simp
def Putd (B : List Int) (X : Nat) (n : Nat) (w : World) (r : Ending) (w' : World) : Prop := ∃ g, r = .returned (.slice (some ⟨g, 0, none⟩) (n + 4) (n + 4)) ∧ w.heap.size ≤ g ∧ w'.heap[g]? = some (.cells (kc (B ++ lw X 4)) 5 (0, 0)) ∧ Gr w w'
set_option maxHeartbeats 2000000 in
theorem put_ok (B : List Int) (a : Option Addr) (n c : Nat) (X : Nat) (hX : X < 4294967296) (hn : n ≤ 140737488351232) (w : World) (hB : Lb w a n c B) : Calls Tryd.prog 54 #[.slice a n c, .int .u64 X, .int .i64 4] w (Putd B X n w) := by
  obtain ⟨T, hT⟩ : ∃ T, T = Putd B X n w := ⟨_, rfl⟩
  rw [← hT]
  replace hT := hide hT
  have hl := hB.len
  replace hB := hide hB
  have w1 : IntKind.i64.wrap ((n : Int) + 4) = (n : Int) + 4 := by rw [IntKind.wrap_i64]; omega
  have w2 : (0 : Int) ≤ (n : Int) + 4 := by omega
  replace hl := hide hl
  go_enter Tryd.func54, Tryd.ntmps54
  go_upto_region 1 with fail
  refine wp_region_lit ?_
  iterate 4 (refine wpList_step fun K hK => ?_; replace hK := hide hK; go_simp; refine unhide hK _ _ ?_; clear hK K)
  refine wpList_make_room w rfl (.tmp 12) (.tmp 12) rfl ((n : Int) + 4) ((n : Int) + 4) (n + 4) (n + 4) (by kernel_rfl) (by kernel_rfl) (by omega) (by omega) (by omega) (by omega) ?_
  have hv := blk_new w (.cells (kc (List.replicate (n + 4) 0)) 5 (0, 0))
  have hg := (Gr.refl w).alloc (.cells (kc (List.replicate (n + 4) 0)) 5 (0, 0))
  generalize World.alloc _ _ = u1 at *
  simp only [nrm]
  replace hv := hide hv
  replace hg := hide hg
  iterate 1 (refine wpList_step fun K hK => ?_; replace hK := hide hK; go_simp; refine unhide hK _ _ ?_; clear hK K)
  refine wpList_nil ?_
  go_upto_region 2 with fail
  refine wp_region_lit ?_
  iterate 2 (refine wpList_step fun K hK => ?_; replace hK := hide hK; go_simp; refine unhide hK _ _ ?_; clear hK K)
  refine wpList_plain rfl fun K hK => ?_
  refine copy_wp (.tmp 14) (.tmp 15) rfl w.heap.size 0 (n + 4) (n + 4) a n c (by kernel_rfl) (by kernel_rfl) ((List.replicate (n + 4) (0 : Int)).map (Value.int .u8)) 5 (unhide hv) B (by rw [unhide hl]; exact (Nat.min_eq_left (by omega)).symm) (by rcases ((unhide hB).gr (unhide hg)).sl with h | ⟨p, o, h1, h2⟩; exact .inl h; exact .inr ⟨p, o, h1, h2⟩) (by rw [List.length_map, List.length_replicate, unhide hl]; omega) ?_
  have hv2 := setCells_heap (B.map (Value.int .u8)) u1 w.heap.size 0 _ _ (unhide hv)
  rw [sp_kc B _ (by rw [List.length_replicate, unhide hl]; omega)] at hv2
  have e0 : B ++ (List.replicate (n + 4) (0 : Int)).drop B.length = lwz B X 0 := by
    rw [lwz_zero, List.drop_replicate, unhide hl]
    congr 2
    omega
  rw [e0] at hv2
  have hg2 := (setCells_bt (B.map (Value.int .u8)) u1 w.heap.size 0).gr (unhide hg) (Nat.le_refl _)
  refine hK _ _ ?_
  clear hK K hv hg e0
  simp only [nrm]
  generalize World.setCells _ _ _ _ = u2 at *
  rw [unhide hl]
  replace hv2 : Hid (u2.heap[w.heap.size]? = some (.cells (kc (lwz B X 0)) 5 (0, 0))) := hv2
  replace hg2 := hide hg2
  iterate 1 (refine wpList_step fun K hK => ?_; replace hK := hide hK; go_simp; refine unhide hK _ _ ?_; clear hK K)
  refine wpList_nil ?_
  go_wp2_with fail
  go_loopw [8, 1] (fun i x wr => ∃ k : Nat, k ≤ 4 ∧ i = .int .i64 ((n + k : Nat) : Int) ∧ x = .int .u64 ((X / 256 ^ k : Nat) : Int) ∧ Hid (wr.heap[w.heap.size]? = some (.cells (kc (lwz B X k)) 5 (0, 0))) ∧ Hid (Gr w wr)) (fun i _ _ => n + 4 - (intOf i).toNat)
  case atStart => exact ⟨0, by omega, rfl, by simp, hv2, hg2⟩
  case round =>
  clear hv2 hg2
  obtain ⟨k, hk, rfl, rfl, hv, hg⟩ := hrel
  by_cases hlt : k < 4
  · obtain ⟨q, hq⟩ : ∃ q, q = n + k := ⟨_, rfl⟩
    obtain ⟨Y, hY⟩ : ∃ Y, Y = X / 256 ^ k := ⟨_, rfl⟩
    obtain ⟨y, hy⟩ : ∃ y : Int, y = ((Y % 256 : Nat) : Int) := ⟨_, rfl⟩
    have q1 : (q : Int) < (n : Int) + 4 := by omega
    have q2 : q < n + 4 := by omega
    have q3 : 0 ≤ (q : Int) ∧ (q : Int) < ((n + 4 : Nat) : Int) := by omega
    have q4 : IntKind.i64.wrap ((q : Int) + 1) = (q : Int) + 1 := by rw [IntKind.wrap_i64]; omega
    have e1 : IntKind.u8.wrap (Y : Int) = y := by rw [IntKind.wrap_u8', hy]; omega
    obtain ⟨Z, hZ⟩ : ∃ Z, Z = X / 256 ^ (k + 1) := ⟨_, rfl⟩
    have e2 : (Y : Int) / 256 = (Z : Int) := by rw [hZ, hY, Nat.pow_succ, ← Nat.div_div_eq_div_mul]; omega
    have cs := kc_cell (unhide hv) q (by rw [lwz_len _ _ _ (by omega), unhide hl]; omega)
    have fs := froz_of (i := q) (unhide hv)
    have hv2 := heap_setCell_same wr w.heap.size q _ _ (.int .u8 y) (unhide hv)
    rw [kc_set] at hv2
    have hnx : (lwz B X k).set q y = lwz B X (k + 1) := by
      rw [hq, hy, hY, ← unhide hl]
      exact lwz_next B X k hlt
    rw [hnx] at hv2
    have hg2 := (setCells_bt [.int .u8 y] wr w.heap.size q).gr (unhide hg) (Nat.le_refl _)
    replace hg2 : Hid (Gr w (wr.setCell ⟨w.heap.size, q, none⟩ (.int .u8 y))) := hg2
    replace hv2 := hide hv2
    rw [← hq, ← hY]
    generalize (lwz B X k).getD q 0 = old at cs
    clear hnx
    replace hq := hide hq
    replace hY := hide hY
    replace hy := hide hy
    replace hZ := hide hZ
    go_wp2_with fail
    have h1 := unhide hq
    refine ⟨⟨k + 1, by omega, by congr 1; omega, by rw [unhide hZ], hv2, hg2⟩, ?_⟩
    show n + 4 - ((q : Int) + 1).toNat < n + 4 - (q : Int).toNat
    omega
  · have e : k = 4 := by omega
    subst e
    have hP : Hid (Putd B X n w (.returned (.slice (some ⟨w.heap.size, 0, none⟩) (n + 4) (n + 4))) wr) := ⟨_, rfl, Nat.le_refl _, by rw [← lwz_all]; exact unhide hv, unhide hg⟩
    clear hlt hv hg
    go_wp2_with fail
    rw [unhide hT]
    exact unhide hP
theorem put32_ok (B : List Int) (a : Option Addr) (n c : Nat) (X : Nat) (hX : X < 4294967296) (hn : n ≤ 140737488351232) (w : World) (hB : Lb w a n c B) : Calls Tryd.prog 86 #[.slice a n c, .int .u32 X] w (Putd B X n w) := by
  obtain ⟨T, hT⟩ : ∃ T, T = Putd B X n w := ⟨_, rfl⟩
  rw [← hT]
  replace hT := hide hT
  replace hB := hide hB
  go_enter Tryd.func86, Tryd.ntmps86
  go_wp2_with (go_at_call 54; refine (put_ok B a n c X hX hn _ (unhide hB)).mono ?_; rintro e u1 ⟨g, rfl, h1, h2, h3⟩)
  rw [unhide hT]
  exact ⟨g, rfl, h1, h2, h3⟩
theorem length_ok (X : Nat) (hX : X < 4294967296) (w : World) : Calls Tryd.prog 75 #[.int .i64 X] w (Putd [] X 0 w) := by
  obtain ⟨T, hT⟩ : ∃ T, T = Putd [] X 0 w := ⟨_, rfl⟩
  rw [← hT]
  replace hT := hide hT
  have e1 : IntKind.u32.wrap (X : Int) = (X : Int) := by rw [IntKind.wrap_u32]; omega
  go_enter Tryd.func75, Tryd.ntmps75
  go_wp2_with (go_at_call 86; refine (put32_ok [] none 0 0 X hX (by omega) _ (Lb.nil _)).mono ?_; rintro e u1 ⟨g, rfl, h1, h2, h3⟩)
  rw [unhide hT]
  exact ⟨g, rfl, h1, h2, h3⟩
def tb (s : ByteArray) : List Int := s.data.toList.map fun x => ((x.toNat : Nat) : Int)
theorem tb_len (s : ByteArray) : (tb s).length = s.size := by unfold tb; simp
theorem tb_isB (s : ByteArray) : IsB (tb s) := by
  intro x hx
  obtain ⟨y, _, rfl⟩ := List.mem_map.1 hx
  have := y.toNat_lt
  omega
theorem tb_cells (s : ByteArray) : Lib.strCells s = (tb s).map (Value.int .u8) := by unfold Lib.strCells tb; simp
theorem app_str {w : World} {ops : Array Oper} {rest : List Oper} {o : Oper} {a : Act} {Q : Exit → Act → World → Prop} (hgd : o.guard = none) (s x : Operand)
    (ho : o.op = .call { callee := .builtin .append, args := #[s, x], argTypes := #[24, 9] }) (b : Nat) (v : Value) (L : List Int) (hs : a.eval s = v) (hown : Ob b w v L)
    (t : ByteArray) (hx : a.eval x = .string t) (hbig : L.length + t.size ≤ 140737488355328) (hB : b ≤ w.heap.size)
    (h : ∀ v' w', Ob b w' v' (L ++ tb t) → w.grownBy w' v.ownBlock → wpList Tryd.prog ops Q rest (a.put o.dst v') w') :
    wpList Tryd.prog ops Q (o :: rest) a w := by
  obtain ⟨i0, hi, hz0, hz1, hz2⟩ := info_parts Tryd.info5
  refine Lib.wpList_append_own_string w hgd s x 24 9 ho b 5 i0 Tryd.underlying24 Tryd.underlying9 hi hz0 hz1 hz2 v L.length _ hs hown t hx (by unfold maxLen; omega) hbig hB ?_
  intro v' w' h1 h2 _
  refine h v' w' ?_ h2
  unfold Ob
  rw [List.length_append, List.map_append, tb_len, ← tb_cells]
  exact h1
theorem Putd.ob {w w' : World} {B : List Int} {X n g : Nat} (hn : B.length = n) (hg : w.heap.size ≤ g) (h : w'.heap[g]? = some (.cells (kc (B ++ lw X 4)) 5 (0, 0))) (hb : n ≤ 281474976710656) : Ob w.heap.size w' (.slice (some ⟨g, 0, none⟩) (n + 4) (n + 4)) (B ++ lw X 4) := by
  have hl : (B ++ lw X 4).length = n + 4 := by rw [List.length_append, lw_len, hn]
  refine ⟨by simp, .inr ⟨g, n + 4, kc (B ++ lw X 4), by rw [hl], hg, h, by omega, by unfold maxLen; omega, by rw [kc_size, hl]; omega, ?_⟩⟩
  unfold kc
  rw [Nat.mul_one]
  exact List.take_of_length_le (by simp)
theorem Ob.up {b b' : Nat} {w : World} {v : Value} {L : List Int} (h : Ob b w v L) (k : b' ≤ b) : Ob b' w v L := by
  obtain ⟨h1, h2 | ⟨g, cap, cur, h2, h3, h4, h5⟩⟩ := h
  · exact ⟨h1, .inl h2⟩
  · exact ⟨h1, .inr ⟨g, cap, cur, h2, by omega, h4, h5⟩⟩
theorem Ob.lb {b : Nat} {w : World} {v : Value} {L : List Int} (h : Ob b w v L) (hb : IsB L) : ∃ a c, v = .slice a L.length c ∧ Lb w a L.length c L := by
  obtain ⟨a, c, h1, h2, h3, h4⟩ := h.slice
  exact ⟨a, c, h1, rfl, hb, h4, h2, by unfold maxLen at h3; omega⟩
def tpart (p : List Int) : List Int := lw p.length 4 ++ p
theorem tpart_isB {p : List Int} (h : IsB p) : IsB (tpart p) := isB_append (lw_isB _ _) h
def infL (l : List Int) (ps : List (List Int)) (k : Nat) : List Int := tpart l ++ ((ps.take k).map tpart).flatten
theorem infL_next (l : List Int) (ps : List (List Int)) (k : Nat) (h : k < ps.length) : infL l ps (k + 1) = infL l ps k ++ tpart (ps.getD k []) := by
  unfold infL
  rw [List.take_add_one, List.getElem?_eq_getElem h, List.map_append, List.flatten_append, ← List.append_assoc]
  simp [h]
def infoL (l : List Int) (ps : List (List Int)) : List Int := infL l ps ps.length
def small4 (ps : List (List Int)) : Prop := ps.length ≤ 100 ∧ ∀ p ∈ ps, p.length ≤ 4096
theorem infL_len (l : List Int) (ps : List (List Int)) (hl : l.length ≤ 1000) (hp : small4 ps) : ∀ k, k ≤ ps.length → (infL l ps k).length ≤ 1004 + 4100 * k
  | 0, _ => by unfold infL tpart; simp [lw_len]; omega
  | k + 1, h => by
    rw [infL_next l ps k (by omega), List.length_append]
    have h1 := infL_len l ps hl hp k (by omega)
    have h2 : (tpart (ps.getD k [])).length ≤ 4100 := by
      have h3 : (ps.getD k []) ∈ ps := by rw [List.getD_eq_getElem?_getD, List.getElem?_eq_getElem (by omega)]; exact List.getElem_mem _
      have := hp.2 _ h3
      unfold tpart
      rw [List.length_append, lw_len]
      omega
    omega
def Infd (L : List Int) (w : World) (r : Ending) (w' : World) : Prop := ∃ v, r = .returned v ∧ Ob w.heap.size w' v L ∧ Gr w w'
set_option maxHeartbeats 2000000 in
theorem infoOf_ok (t : ByteArray) (ht : t.size ≤ 1000) (ps : List (List Int)) (ap : Option Addr) (m cp : Nat) (hm : ps.length = m) (hp : small4 ps) (w : World) (hP : Pr w ap ps) : Calls Tryd.prog 53 #[.string t, .slice ap m cp] w (Infd (infoL (tb t) ps) w) := by
  obtain ⟨T, hT⟩ : ∃ T, T = Infd (infoL (tb t) ps) w := ⟨_, rfl⟩
  rw [← hT]
  have hmb : m ≤ 100 := by rw [← hm]; exact hp.1
  have htl : (tb t).length ≤ 1000 := by rw [tb_len]; exact ht
  replace hT := hide hT
  replace hP := hide hP
  replace hp := hide hp
  replace hm := hide hm
  replace htl := hide htl
  go_enter Tryd.func53, Tryd.ntmps53
  go_upto_region 1 with fail
  refine wp_region_lit ?_
  iterate 2 (refine wpList_step fun K hK => ?_; replace hK := hide hK; go_simp; refine unhide hK _ _ ?_; clear hK K)
  refine list_call 75 #[.int .i64 t.size] (by kernel_rfl) (by kernel_rfl) ((length_ok t.size (by omega) _).mono ?_)
  rintro r u1 ⟨g, rfl, h1, h2, hg⟩
  refine ⟨_, rfl, ?_⟩
  have hO := Putd.ob (B := []) (n := 0) rfl h1 h2 (by omega)
  rw [List.nil_append] at hO
  clear h1 h2
  simp only [nrm]
  replace hO := hide hO
  replace hg := hide hg
  iterate 1 (refine wpList_step fun K hK => ?_; replace hK := hide hK; go_simp; refine unhide hK _ _ ?_; clear hK K)
  refine app_str rfl (.tmp 10) (.tmp 11) rfl w.heap.size _ (lw t.size 4) (by kernel_rfl) (unhide hO) t (by kernel_rfl) (by rw [lw_len]; omega) (unhide hg).size ?_
  intro v2 u2 hO2 hgb
  have hG := (unhide hO).grown (Nat.le_refl _) (unhide hg) hgb
  clear hgb hO hg
  have hO3 : Ob w.heap.size u2 v2 (infL (tb t) ps 0) := by
    have e : infL (tb t) ps 0 = lw t.size 4 ++ tb t := by unfold infL tpart; rw [tb_len]; simp
    rw [e]; exact hO2
  clear hO2
  obtain ⟨a2, c2, rfl, _, _, _⟩ := hO3.slice
  simp only [nrm]
  replace hO3 := hide hO3
  replace hG := hide hG
  obtain ⟨n2, hn2⟩ : ∃ n2, n2 = (infL (tb t) ps 0).length := ⟨_, rfl⟩
  rw [← hn2] at hO3
  rw [← hn2]
  replace hn2 := hide hn2
  iterate 1 (refine wpList_step fun K hK => ?_; replace hK := hide hK; go_simp; refine unhide hK _ _ ?_; clear hK K)
  refine wpList_nil ?_
  go_wp2_with fail
  go_loopw [5, 15] (fun x i wr => ∃ (k n : Nat) (a : Option Addr) (c : Nat), k ≤ m ∧ i = .int .i64 k ∧ x = .slice a n c ∧ Hid (n = (infL (tb t) ps k).length) ∧ Hid (Ob w.heap.size wr (.slice a n c) (infL (tb t) ps k)) ∧ Hid (Gr w wr)) (fun _ i _ => m - (intOf i).toNat)
  case atStart => exact ⟨0, n2, a2, c2, by omega, rfl, rfl, hn2, hO3, hG⟩
  case round =>
  clear hO3 hG hn2
  obtain ⟨k, n, a, c, hk, rfl, rfl, hn, hO, hG⟩ := hrel
  by_cases hl : k < m
  · have kI : (k : Int) < (m : Int) := by omega
    obtain ⟨p, o, rfl, hq⟩ : ∃ p o, ap = some ⟨p, o, none⟩ ∧ Pq w p o ps := by
      rcases (unhide hP) with h | ⟨p, o, h1, h2⟩
      · have := unhide hm; rw [h] at this; simp at this; omega
      · exact ⟨p, o, h1, h2⟩
    obtain ⟨aP, nP, cP, cc, hPl, hPb, hPs, hPc, hPm⟩ := hq k (by rw [unhide hm]; exact hl)
    replace cc := (unhide hG).cell cc
    clear hq
    have hnx := hide (infL_next (tb t) ps k (by rw [unhide hm]; exact hl))
    have hPs4 : (ps.getD k []).length ≤ 4096 := (unhide hp).2 _ (by rw [List.getD_eq_getElem?_getD, List.getElem?_eq_getElem (by rw [unhide hm]; exact hl)]; exact List.getElem_mem _)
    have hlen := infL_len (tb t) ps (unhide htl) (unhide hp) k (by rw [unhide hm]; omega)
    generalize ps.getD k [] = P at *
    have hPI : nP ≤ 4096 := by omega
    replace hPs := hide hPs
    replace hPb := hide hPb
    replace hPl := hide hPl
    replace hPs4 := hide hPs4
    replace hlen := hide hlen
    go_upto_region 5 with fail
    refine wp_region_lit ?_
    iterate 3 (refine wpList_step fun K hK => ?_; replace hK := hide hK; go_simp; refine unhide hK _ _ ?_; clear hK K)
    refine list_call 75 #[.int .i64 nP] (by kernel_rfl) (by kernel_rfl) ((length_ok nP (by omega) _).mono ?_)
    rintro r v1 ⟨g1, rfl, h1, h2, hg⟩
    refine ⟨_, rfl, ?_⟩
    replace hO := (unhide hO).gr hg
    replace hG := (unhide hG).trans hg
    have hs1 : Sl v1 (some ⟨g1, 0, none⟩) (lw nP 4) := .inr ⟨g1, 0, rfl, by rw [List.nil_append] at h2; exact kc_at h2⟩
    clear hg h1 h2
    simp only [nrm]
    refine app_bs (by kernel_rfl) (.tmp 19) (.tmp 22) rfl w.heap.size (.slice a n c) (infL (tb t) ps k) (by kernel_rfl) hO (some ⟨g1, 0, none⟩) 4 4 (lw nP 4) (by kernel_rfl) (lw_len _ _) hs1 (by have := unhide hlen; omega) hG.size ?_
    intro x2 v2 hO2 hgb
    replace hG := hO.grown (Nat.le_refl _) hG hgb
    clear hgb hO hs1
    simp only [nrm]
    replace hO2 := hide hO2
    replace hG := hide hG
    iterate 1 (refine wpList_step fun K hK => ?_; replace hK := hide hK; go_simp; refine unhide hK _ _ ?_; clear hK K)
    replace hO2 := unhide hO2
    replace hG := unhide hG
    refine app_bs (by kernel_rfl) (.tmp 23) (.tmp 24) rfl w.heap.size x2 (infL (tb t) ps k ++ lw nP 4) (by kernel_rfl) hO2 aP nP cP P (by kernel_rfl) (unhide hPl) ((unhide hPs).gr hG) (by rw [List.length_append, lw_len]; have := unhide hlen; omega) hG.size ?_
    intro x3 v3 hO3 hgb
    replace hG := hO2.grown (Nat.le_refl _) hG hgb
    clear hgb hO2
    have hO4 : Ob w.heap.size v3 x3 (infL (tb t) ps (k + 1)) := by
      rw [unhide hnx]
      unfold tpart
      rw [unhide hPl, ← List.append_assoc]
      exact hO3
    obtain ⟨a5, c5, rfl, _, _, _⟩ := hO4.slice
    clear hO3
    obtain ⟨n5, hn5⟩ : ∃ n5, n5 = (infL (tb t) ps (k + 1)).length := ⟨_, rfl⟩
    rw [← hn5] at hO4
    rw [← hn5]
    replace hn5 := hide hn5
    simp only [nrm]
    replace hO4 := hide hO4
    replace hG := hide hG
    iterate 1 (refine wpList_step fun K hK => ?_; replace hK := hide hK; go_simp; refine unhide hK _ _ ?_; clear hK K)
    refine wpList_nil ?_
    go_wp2_with fail
    go_roundw
    case rel => exact ⟨k + 1, n5, a5, c5, by omega, by go_num, rfl, hn5, hO4, hG⟩
    case measure => simp [intOf]; omega
  · have e : k = m := by omega
    subst e
    have hPd : Hid (Infd (infoL (tb t) ps) w (.returned (.slice a n c)) wr) := ⟨_, rfl, by unfold infoL; rw [unhide hm]; exact unhide hO, unhide hG⟩
    clear hO hG hn
    go_wp2_with fail
    rw [unhide hT]
    exact unhide hPd
theorem infoL_isB {l : List Int} {ps : List (List Int)} (hl : IsB l) (hp : ∀ p ∈ ps, IsB p) : IsB (infoL l ps) := by
  unfold infoL infL
  refine isB_append (tpart_isB hl) ?_
  intro x hx
  obtain ⟨q, hq, hx⟩ := List.mem_flatten.1 hx
  obtain ⟨p, hp2, rfl⟩ := List.mem_map.1 hq
  exact tpart_isB (hp p (List.mem_of_mem_take hp2)) x hx
theorem Pr.isB {w : World} {a : Option Addr} {ps : List (List Int)} (h : Pr w a ps) : ∀ p ∈ ps, IsB p := by
  intro p hp
  rcases h with h | ⟨q, o, _, h2⟩
  · rw [h] at hp; cases hp
  · obtain ⟨j, hj⟩ := List.getElem?_of_mem hp
    have hj2 := (List.getElem?_eq_some_iff.1 hj).1
    obtain ⟨_, _, _, _, _, h3, _⟩ := h2 j hj2
    have e : ps.getD j [] = p := by rw [List.getD_eq_getElem?_getD, hj]; rfl
    rw [e] at h3
    exact h3
theorem Bl.copy {w v : World} {L : List Blk} (h : Bl w L v) (k : Nat) {g : Nat} {Z D : List Int} (hk : L[k]? = some ⟨g, kc Z, 34⟩) (hZ : Z.length = 32) (hD : D.length = 32) : Bl w (L.set k ⟨g, kc D, 34⟩) (v.setCells g 0 (D.map (Value.int .u8))) := by
  have hv := setCells_heap (D.map (Value.int .u8)) v g 0 (Z.map (Value.int .u8)) 34 (h.get k hk)
  rw [sp_kc D Z (by omega), List.drop_eq_nil_of_le (by omega), List.append_nil] at hv
  exact h.but (setCells_bt (D.map (Value.int .u8)) v g 0) k hk rfl hv
def Derd (D : List Int) (w : World) (r : Ending) (w' : World) : Prop := r = .returned (.agg (kc D)) ∧ Gr w w'
set_option maxHeartbeats 2000000 in
theorem derive_ok (Ky : List Int) (hKl : Ky.length = 32) (hKb : IsB Ky) (t : ByteArray) (ht : t.size ≤ 1000) (ps : List (List Int)) (ap : Option Addr) (m cp : Nat) (hm : ps.length = m) (hp : small4 ps) (w : World) (hF : Fst w) (hP : Pr w ap ps) :
    Calls Tryd.prog 34 #[.agg (kc Ky), .string t, .slice ap m cp] w (Derd (spL Ky (infoL (tb t) ps) 32) w) := by
  obtain ⟨T, hT⟩ : ∃ T, T = Derd (spL Ky (infoL (tb t) ps) 32) w := ⟨_, rfl⟩
  rw [← hT]
  obtain ⟨KK, hKK⟩ : ∃ KK, KK = kc Ky := ⟨_, rfl⟩
  rw [← hKK]
  have hKs : KK.size = 32 := by rw [hKK, kc_size, hKl]
  have hIb : IsB (infoL (tb t) ps) := infoL_isB (tb_isB t) hP.isB
  have hIl : (infoL (tb t) ps).length ≤ 1004 + 4100 * ps.length := infL_len (tb t) ps (by rw [tb_len]; exact ht) hp ps.length (Nat.le_refl _)
  have hm100 := hp.1
  replace hT := hide hT
  replace hF := hide hF
  replace hP := hide hP
  replace hp := hide hp
  replace hm := hide hm
  replace hKK := hide hKK
  replace hKb := hide hKb
  replace hIb := hide hIb
  go_enter Tryd.func34, Tryd.ntmps34
  go_upto_region 2 with fail
  have hB := (((Bl.nil w).new KK 34).new #[.int .u8 0, .int .u8 0, .int .u8 0, .int .u8 0, .int .u8 0, .int .u8 0, .int .u8 0, .int .u8 0, .int .u8 0, .int .u8 0, .int .u8 0, .int .u8 0, .int .u8 0, .int .u8 0, .int .u8 0, .int .u8 0, .int .u8 0, .int .u8 0, .int .u8 0, .int .u8 0, .int .u8 0, .int .u8 0, .int .u8 0, .int .u8 0, .int .u8 0, .int .u8 0, .int .u8 0, .int .u8 0, .int .u8 0, .int .u8 0, .int .u8 0, .int .u8 0] 34).new #[.int .u8 0, .int .u8 0, .int .u8 0, .int .u8 0, .int .u8 0, .int .u8 0, .int .u8 0, .int .u8 0, .int .u8 0, .int .u8 0, .int .u8 0, .int .u8 0, .int .u8 0, .int .u8 0, .int .u8 0, .int .u8 0, .int .u8 0, .int .u8 0, .int .u8 0, .int .u8 0, .int .u8 0, .int .u8 0, .int .u8 0, .int .u8 0, .int .u8 0, .int .u8 0, .int .u8 0, .int .u8 0, .int .u8 0, .int .u8 0, .int .u8 0, .int .u8 0] 34
  simp only [List.nil_append, List.cons_append, size_alloc] at hB
  generalize World.alloc _ _ = u1 at *
  replace hB : Bl w [⟨w.heap.size, KK, 34⟩, ⟨w.heap.size + 1, kc Z32, 34⟩, ⟨w.heap.size + 1 + 1, kc Z32, 34⟩] u1 := hB
  refine any_start (S := fun v => v.heap[w.heap.size]? = some (.cells KK 34 (0, 0))) (by kernel_rfl) ?_
  replace hB := hB.drew
  generalize World.drew _ = u2 at *
  simp only [List.size_toArray, List.length_cons, List.length_nil, Array.replicate, List.replicate]
  refine any_take (i := 0) (v := (.slice (some ⟨w.heap.size + 1 + 1, 0, none⟩) 32 32)) #[false, false, false, false, false, false, false] rfl (by kernel_rfl) (by kernel_rfl) (by kernel_rfl) (by kernel_rfl) (fun _ _ _ h => h) (.inl ⟨by kernel_rfl, fun x_ hu => by go_simp⟩) (hB.get 0 (x := ⟨w.heap.size, KK, 34⟩) rfl) ?_
  simp only [nrm]
  refine any_take (i := 1) (v := (.agg KK)) #[true, false, false, false, false, false, false] rfl (by kernel_rfl) (by kernel_rfl) (by kernel_rfl) (by kernel_rfl) (fun _ _ _ h => h) (.inl ⟨by kernel_rfl, fun x_ hu => exec_arr x_ 34 (.tmp 3) rfl w.heap.size (by kernel_rfl) KK 34 _ hu Tryd.underlying34 rfl (by rw [Tryd.infoKey, hKs])⟩) (hB.get 0 (x := ⟨w.heap.size, KK, 34⟩) rfl) ?_
  simp only [nrm]
  refine any_take (i := 2) (v := (.string t)) #[true, true, false, false, false, false, false] rfl (by kernel_rfl) (by kernel_rfl) (by kernel_rfl) (by kernel_rfl) (fun _ _ _ h => h) (.inl ⟨by kernel_rfl, fun x_ hu => by kernel_rfl⟩) (hB.get 0 (x := ⟨w.heap.size, KK, 34⟩) rfl) ?_
  simp only [nrm]
  refine any_take (i := 3) (v := (.slice ap m cp)) #[true, true, true, false, false, false, false] rfl (by kernel_rfl) (by kernel_rfl) (by kernel_rfl) (by kernel_rfl) (fun _ _ _ h => h) (.inl ⟨by kernel_rfl, fun x_ hu => by kernel_rfl⟩) (hB.get 0 (x := ⟨w.heap.size, KK, 34⟩) rfl) ?_
  simp only [nrm]
  refine any_one (i := 4) (by kernel_rfl) rfl (fun K hK => ?_)
  refine step_callw (by kernel_rfl) 53 #[.string t, .slice ap m cp] (by kernel_rfl) ((infoOf_ok t ht ps ap m cp (unhide hm) (unhide hp) _ ((unhide hP).gr hB.gr)).mono ?_)
  rintro r y1 ⟨v1, rfl, hO, hg⟩
  refine ⟨_, rfl, ?_⟩
  obtain ⟨a1, c1, rfl, l1⟩ := hO.lb (unhide hIb)
  clear hO
  obtain ⟨n1, hn1⟩ : ∃ n1, n1 = (infoL (tb t) ps).length := ⟨_, rfl⟩
  rw [← hn1] at hIl l1
  rw [← hn1]
  replace hn1 := hide hn1
  replace hB := hB.more hg
  clear hg
  refine hK.out _ _ (hB.get 0 (x := ⟨w.heap.size, KK, 34⟩) rfl) (fun _ => ?_)
  clear hK K
  simp only [nrm]
  refine any_one (i := 5) (by kernel_rfl) rfl (fun K hK => ?_)
  rw [unhide hKK]
  refine step_callw (by kernel_rfl) 52 #[.agg (kc Ky), .slice a1 n1 c1, .int .i64 32] (by kernel_rfl) ((spread_ok Ky hKl (unhide hKb) (infoL (tb t) ps) a1 n1 c1 32 (by omega) (by omega) _ ((unhide hF).gr hB.gr) l1).mono ?_)
  rintro r y2 ⟨a2, rfl, l2, hfr, hg⟩
  refine ⟨_, rfl, ?_⟩
  rw [← unhide hKK]
  replace hB := hB.more hg
  clear hg l1
  refine hK.out _ _ (hB.get 0 (x := ⟨w.heap.size, KK, 34⟩) rfl) (fun _ => ?_)
  clear hK K
  simp only [nrm]
  refine any_one (i := 6) (by kernel_rfl) rfl (fun K hK => ?_)
  obtain ⟨D, hD⟩ : ∃ D, D = spL Ky (infoL (tb t) ps) 32 := ⟨_, rfl⟩
  have hDl : D.length = 32 := by rw [hD]; exact spL_len _ _ _
  rw [← hD] at l2
  replace hD := hide hD
  rw [if_pos (by kernel_rfl)]
  refine copy_wp (.tmp 8) (.tmp 13) rfl (w.heap.size + 1 + 1) 0 32 32 a2 32 32 (by kernel_rfl) (by kernel_rfl) (Z32.map (Value.int .u8)) 34 (hB.get 2 (x := ⟨w.heap.size + 1 + 1, kc Z32, 34⟩) rfl) D (by rw [hDl]; rfl) (by rcases l2.sl with h | ⟨p, o, h1, h2⟩; exact .inl h; exact .inr ⟨p, o, h1, h2⟩) (by rw [hDl]; decide) ?_
  replace hB := hB.copy 2 (Z := Z32) (D := D) rfl rfl hDl
  simp only [List.set_cons_zero, List.set_cons_succ] at hB
  refine hK.out _ _ (hB.get 0 (x := ⟨w.heap.size, KK, 34⟩) rfl) (fun _ => ?_)
  clear hK K l2
  generalize World.setCells _ _ _ _ = y3 at *
  try simp only [nrm]
  refine any_done (by kernel_rfl) ?_
  replace hB := hide hB
  go_upto_region 3 with fail
  replace hB := unhide hB
  refine wp_region_lit ?_
  refine list_val (.agg (kc D)) (by kernel_rfl) (exec_arr _ 34 (.tmp 7) rfl (w.heap.size + 1 + 1) (by kernel_rfl) (kc D) 34 _ (hB.get 2 (x := ⟨w.heap.size + 1 + 1, kc D, 34⟩) rfl) Tryd.underlying34 rfl (by rw [Tryd.infoKey, kc_size, hDl])) ?_
  simp only [nrm]
  refine list_store 34 (.tmp 6) (.tmp 15) (w.heap.size + 1) (kc D) 34 (kc Z32) (by kernel_rfl) rfl (by kernel_rfl) (by kernel_rfl) (hB.get 1 (x := ⟨w.heap.size + 1, kc Z32, 34⟩) rfl) (by rw [Tryd.infoKey, kc_size, hDl]) ((show (kc Z32).size = 32 from rfl).trans ((kc_size _).trans hDl).symm) (kc_one _) ?_
  replace hB := hB.set 1 (x := ⟨w.heap.size + 1, kc Z32, 34⟩) rfl (kc D)
  simp only [List.set_cons_zero, List.set_cons_succ] at hB
  generalize World.setRow _ _ _ = y4 at *
  simp only [nrm]
  refine wpList_nil ?_
  go_wp2_with fail
  rw [unhide hT]
  exact bodyPost_ret (v := .agg (kc D)) (results_cell_row Tryd.results34 _ _ (w.heap.size + 1) 34 (kc D) (0, 0) _ rfl (hB.get 1 (x := ⟨w.heap.size + 1, kc D, 34⟩) rfl) Tryd.underlying34 rfl (by rw [Tryd.infoKey, kc_size, hDl])) rfl ⟨by rw [unhide hD], hB.gr⟩
end Go.Proofs.YtgabkfleidpipaaDoor

namespace Go.Proofs.YtgabkfleidpipaaDoor
open Go.ChangeShapes Go.WideShapes Go.ChangeAt Go.RowKit
set_option maxRecDepth 100000
set_option linter.unusedVariables false
set_option linter.unusedSimpArgs false
theorem Tryd.cellsK : Tryd.prog.cellsOf 34 = 32 := by kernel_rfl
end Go.Proofs.YtgabkfleidpipaaDoor

namespace Go.Proofs.YtgabkfleidpipaaDoor
open Go.RowKit
set_option maxRecDepth 100000
set_option linter.unusedSimpArgs false
set_option linter.unusedVariables false
def Kl (s : Nat) (u : World) (q : Value) : Prop := ∃ g, q = .pointer (some ⟨g, 0, none⟩) ∧ u.heap[g]? = some (.cells (kc Z32) 34 (0, 0)) ∧ s ≤ g
end Go.Proofs.YtgabkfleidpipaaDoor
/-
  The document's labelled pair.
-/
namespace Go.Proofs.YtgabkfleidpipaaDoor
open Go.RowKit
set_option maxRecDepth 100000
set_option linter.unusedSimpArgs false
set_option linter.unusedVariables false
end Go.Proofs.YtgabkfleidpipaaDoor
/-
  The steps of a chain.
-/
namespace Go.Proofs.YtgabkfleidpipaaDoor
open Go.RowKit
set_option maxRecDepth 100000
set_option linter.unusedSimpArgs false
set_option linter.unusedVariables false
end Go.Proofs.YtgabkfleidpipaaDoor
/-
  Two keys that are made while a region's chain goes on: they stay two.
-/
namespace Go.Proofs.YtgabkfleidpipaaDoor
open Go.RowKit
set_option maxRecDepth 100000
set_option linter.unusedVariables false
section
variable {P : Program} {md : Region.Mode} {ops : Array Oper} {Q : Exit → Act → World → Prop} {S : World → Prop}
end
def KJ (s : Nat) (b1 b2 : Bool) (q1 q2 : Value) (u : World) : Prop := (b1 = true → Kl s u q1) ∧ (b2 = true → Kl s u q2) ∧ (b1 = true → b2 = true → q1 ≠ q2)
end Go.Proofs.YtgabkfleidpipaaDoor

namespace Go.Proofs.YtgabkfleidpipaaDoor
open Go.RowKit
set_option maxRecDepth 100000
set_option linter.unusedSimpArgs false
set_option linter.unusedVariables false
theorem add_zero (p o : Nat) : (⟨p, o, none⟩ : Addr).add 0 = ⟨p, o, none⟩ := rfl
theorem add_some (p o k : Nat) : (⟨p, o, none⟩ : Addr).add k = ⟨p, o + k, none⟩ := by
  rcases Nat.eq_zero_or_pos k with h0 | h0
  · subst h0; rfl
  · simp [Addr.add]; omega
theorem IsB.take {B : List Int} (h : IsB B) (n : Nat) : IsB (B.take n) := fun x hx => h x (List.mem_of_mem_take hx)
theorem IsB.drop {B : List Int} (h : IsB B) (n : Nat) : IsB (B.drop n) := fun x hx => h x (List.mem_of_mem_drop hx)
theorem Lb.upto {v : World} {s : Option Addr} {len cap : Nat} {B : List Int} (h : Lb v s len cap B) (n : Nat) (hn : n ≤ len) : Lb v (if cap = 0 then s else s.map (·.add 0)) n cap (B.take n) := by
  refine ⟨by rw [List.length_take, h.len]; omega, h.isB.take n, ?_, Nat.le_trans hn h.cap, h.max⟩
  rcases h.sl with rfl | ⟨p, o, rfl, hat⟩
  · exact .inl (by simp)
  · refine .inr ⟨p, o, ?_, fun j hj => ?_⟩
    · split
      · rfl
      · rfl
    · rw [List.length_take] at hj
      rw [hat j (by omega)]
      congr 2
      rw [List.getD_eq_getElem?_getD, List.getD_eq_getElem?_getD, List.getElem?_take, if_pos (by omega)]
theorem Lb.rest {v : World} {s : Option Addr} {len cap : Nat} {B : List Int} (h : Lb v s len cap B) (n : Nat) (hn : n ≤ len) : Lb v (if cap = n then s else s.map (·.add n)) (len - n) (cap - n) (B.drop n) := by
  have hc := h.cap
  have hl := h.len
  refine ⟨by rw [List.length_drop, h.len], h.isB.drop n, ?_, by omega, by have := h.max; omega⟩
  rcases h.sl with rfl | ⟨p, o, rfl, hat⟩
  · exact .inl (by simp)
  · by_cases hcn : cap = n
    · exact .inl (List.drop_eq_nil_of_le (by omega))
    · refine .inr ⟨p, o + n, by rw [if_neg hcn, Option.map_some, add_some], fun j hj => ?_⟩
      rw [List.length_drop] at hj
      rw [Nat.add_assoc, hat (n + j) (by omega)]
      congr 2
      rw [List.getD_eq_getElem?_getD, List.getD_eq_getElem?_getD, List.getElem?_drop]
theorem kc_lb {w : World} {g : Nat} {X : List Int} {t : TypeId} {n : Nat} (h : w.heap[g]? = some (.cells (kc X) t (0, 0))) (hn : X.length = n) (hX : IsB X) (hb : n < 9223372036854775808) : Lb w (some ⟨g, 0, none⟩) n n X := ⟨hn, hX, .inr ⟨g, 0, rfl, kc_at h⟩, Nat.le_refl _, hb⟩
theorem ob_of {w : World} {b g n : Nat} {X : List Int} (h : w.heap[g]? = some (.cells (kc X) 5 (0, 0))) (hn : X.length = n) (hg : b ≤ g) (hb : n ≤ 140737488351232) : Ob b w (.slice (some ⟨g, 0, none⟩) n n) X := by
  subst hn
  exact ⟨by simp, .inr ⟨g, X.length, kc X, rfl, hg, h, Nat.le_refl _, by unfold maxLen; omega, by rw [kc_size, Nat.mul_one], by unfold kc; rw [Nat.mul_one]; exact List.take_of_length_le (by simp)⟩⟩
theorem make_op {w : World} {o : Oper} {a : Act} {K : Act → World → Prop} {Q : Exit → Act → World → Prop} (l c : Operand) (hop : o.op = Op.makeSlice 24 l c) (n m : Nat) (hl : a.eval l = .int .i64 n) (hc : a.eval c = .int .i64 m) (hnm : n ≤ m) (hn : m ≤ 281474976710656)
    (h : K (a.put o.dst (.slice (some ⟨w.heap.size, 0, none⟩) n m)) (w.alloc (.cells (kc (List.replicate m 0)) 5 (0, 0)))) : o.wp Tryd.prog a w K Q := by
  obtain ⟨i, h2, h3, h4, h5⟩ := info_parts Tryd.info5
  have hrun := run_make (P := Tryd.prog) w 24 5 i (.int .u8 0) Tryd.underlying24 h2 h3 .i64 .i64 (n : Int) (m : Int) (by omega) (by omega) (by rw [h5]; omega) (by omega)
  rw [h4] at hrun
  have e : madeCells (Value.int .u8 0).cells m = kc (List.replicate m 0) := by
    apply Array.ext
    · simp [size_madeCells, kc]
    · intro i h1 h2
      have : i % 1 = 0 := Nat.mod_one i
      simp [madeCells, Value.cells, this, kc]
  simp only [Int.toNat_natCast, Nat.mul_one, e] at hrun
  unfold Oper.wp
  simp [execOp, hop, hl, hc, hrun, Result.andThen]
  exact h
theorem exec_upto {a : Act} {o : Oper} (w : World) (x y : Operand) (ho : o.op = .slice 24 x none (some y) none) (s : Option Addr) (len cap n : Nat) (hx : a.eval x = .slice s len cap) (hy : a.eval y = .int .i64 n) (hc : len ≤ cap) (hn : n ≤ len) :
    (execOp a.eval o).run Tryd.prog w = .ok (.value (.slice (if cap = 0 then s else s.map (·.add 0)) n cap)) w := by
  have h1 : (0 : Int) ≤ n := by omega
  have h2 : (n : Int) ≤ cap := by omega
  have hu : Tryd.prog.underlying 24 = some (.slice (Tryd.prog.elem 24)) := by kernel_rfl
  have hz : (sizeOf (Tryd.prog.elem 24)).run Tryd.prog w = .ok 1 w := by kernel_rfl
  simp [execOp, ho, hx, hy, run_sliceAt_slice _ _ _ _ _ _ hu, run_slice_h _ _ _ _ _ hu _ _ h1 h2, hz, sliced]
theorem exec_from {a : Act} {o : Oper} (w : World) (x y : Operand) (ho : o.op = .slice 24 x (some y) none none) (s : Option Addr) (len cap n : Nat) (hx : a.eval x = .slice s len cap) (hy : a.eval y = .int .i64 n) (hc : len ≤ cap) (hn : n ≤ len) :
    (execOp a.eval o).run Tryd.prog w = .ok (.value (.slice (if cap = n then s else s.map (·.add n)) (len - n) (cap - n))) w := by
  have h1 : (0 : Int) ≤ n := by omega
  have h2 : (n : Int) ≤ len := by omega
  have hu : Tryd.prog.underlying 24 = some (.slice (Tryd.prog.elem 24)) := by kernel_rfl
  have hz : (sizeOf (Tryd.prog.elem 24)).run Tryd.prog w = .ok 1 w := by kernel_rfl
  simp [execOp, ho, hx, hy, run_sliceAt_slice _ _ _ _ _ _ hu, run_slice_l _ _ _ _ _ hu _ _ h1 h2, hz, sliced]
def nc (l : List Nat) : List Value := l.map (fun x : Nat => Value.int .i64 (x : Int))
def V : List Nat → Nat
  | [] => 0
  | x :: l => x + 256 * V l
theorem V_append : ∀ (a b : List Nat), V (a ++ b) = V a + 256 ^ a.length * V b
  | [], b => by simp [V]
  | x :: a, b => by
    rw [List.cons_append, V, V, V_append a b, List.length_cons, Nat.pow_succ, Nat.mul_add, ← Nat.mul_assoc, Nat.mul_comm 256 (256 ^ a.length)]
    omega
theorem V_snoc (a : List Nat) (x : Nat) : V (a ++ [x]) = V a + 256 ^ a.length * x := by rw [V_append]; simp [V]
def nb (B : List Int) : List Nat := B.map Int.toNat
theorem nb_len (B : List Int) : (nb B).length = B.length := by simp [nb]
def ni (l : List Nat) : Array Value := (nc l).toArray
def P5 : Nat := 2 ^ 130 - 5
theorem P5_eq : P5 = 1361129467683753853853498429727072845819 := by decide
theorem Tryd.infoT : (Tryd.prog.info? 72).map (·.size) = some 16 := by kernel_rfl
def cl (i : Nat) (x : Int) : Int := if i = 3 ∨ i = 7 ∨ i = 11 ∨ i = 15 then x % 16 else if i = 4 ∨ i = 8 ∨ i = 12 then x / 4 * 4 else x
def clf (K : List Int) (i : Nat) : Int := cl i (K.getD i 0)
def clL (K : List Int) : List Int := (List.range 16).map (clf K)
def ZT : List Int := List.replicate 16 0
theorem clL_len (K : List Int) : (clL K).length = 16 := by simp [clL]
theorem cl_rng (i : Nat) (x : Int) (h : 0 ≤ x ∧ x < 256) : 0 ≤ cl i x ∧ cl i x < 256 := by
  unfold cl
  split
  · omega
  · split <;> omega
theorem clL_isB (K : List Int) (h : IsB K) : IsB (clL K) := fun x hx => by
  unfold clL at hx
  obtain ⟨i, _, rfl⟩ := List.mem_map.1 hx
  exact cl_rng _ _ (h.at_ i)
def Tg (L : List Int) (w : World) (r : Ending) (w' : World) : Prop := r = .returned (.agg (kc L)) ∧ Gr w w'
def bN (B : List Int) (k : Nat) : Nat := V (nb ((B.drop (16 * k)).take 16) ++ [1])
def acN (r : Nat) (B : List Int) : Nat → Nat
  | 0 => 0
  | k + 1 => (acN r B k + bN B k) * r % P5
def nk (n : Nat) : Nat := (n + 15) / 16
def mcN (K B : List Int) : Nat := acN (V (nb (clL K))) B (nk B.length) + V (nb (K.drop 16))
def tgf (n i : Nat) : Int := ((n / 256 ^ i % 256 : Nat) : Int)
def tgL (n : Nat) : List Int := (List.range 16).map (tgf n)
theorem tgL_len (n : Nat) : (tgL n).length = 16 := by simp [tgL]
def mcL (K B : List Int) : List Int := tgL (mcN K B)
def v5 (a b c d e : Int) : Int := a + b * 67108864 + c * 4503599627370496 + d * 302231454903657293676544 + e * 20282409603651670423947251286016
def Dg (x : Int) : Prop := 0 ≤ x ∧ x < 67108864
theorem mask26 (a : Int) (h : 0 ≤ a) (h2 : a < 18446744073709551616) : bits .and .u64 a 67108863 = a % 67108864 := by
  obtain ⟨n, rfl⟩ := Int.eq_ofNat_of_zero_le h
  have h3 := bits_and_u64_nat n 67108863 (by omega) (by omega)
  have e : n &&& 67108863 = n % 67108864 := Nat.and_two_pow_sub_one_eq_mod n 26
  rw [e] at h3
  simpa using h3
theorem passed_val (a b c d e o o1 o2 o3 o4 o5 : Int) (e1 : (o + a) / 67108864 = o1) (e2 : (o1 + b) / 67108864 = o2) (e3 : (o2 + c) / 67108864 = o3) (e4 : (o3 + d) / 67108864 = o4) (e5 : (o4 + e) / 67108864 = o5) :
    v5 ((o + a) % 67108864) ((o1 + b) % 67108864) ((o2 + c) % 67108864) ((o3 + d) % 67108864) ((o4 + e) % 67108864) + 1361129467683753853853498429727072845824 * o5 = v5 a b c d e + o := by
  unfold v5
  omega
def Psd (a b c d e o : Int) (w : World) (r : Ending) (w' : World) : Prop := ∃ y0 y1 y2 y3 y4 q, r = .returned (.tuple #[five y0 y1 y2 y3 y4, .int .u64 q]) ∧ Dg y0 ∧ Dg y1 ∧ Dg y2 ∧ Dg y3 ∧ Dg y4 ∧ 0 ≤ q ∧ v5 y0 y1 y2 y3 y4 + 1361129467683753853853498429727072845824 * q = v5 a b c d e + o ∧ Gr w w'
def Sm (x : Int) : Prop := 0 ≤ x ∧ x < 4611686018427387904
set_option maxHeartbeats 4000000 in
theorem passed_ok (a b c d e o : Int) (ha : Sm a) (hb : Sm b) (hc : Sm c) (hd : Sm d) (he : Sm e) (ho : Sm o) (w : World) : Calls Tryd.prog 78 #[five a b c d e, .int .u64 o] w (Psd a b c d e o w) := by
  unfold Sm at ha hb hc hd he ho
  have w1 := wrap_id (o + a) (by omega) (by omega)
  have m1 := mask26 (o + a) (by omega) (by omega)
  generalize e1 : (o + a) / 67108864 = o1 at *
  have w2 := wrap_id (o1 + b) (by omega) (by omega)
  have m2 := mask26 (o1 + b) (by omega) (by omega)
  generalize e2 : (o1 + b) / 67108864 = o2 at *
  have w3 := wrap_id (o2 + c) (by omega) (by omega)
  have m3 := mask26 (o2 + c) (by omega) (by omega)
  generalize e3 : (o2 + c) / 67108864 = o3 at *
  have w4 := wrap_id (o3 + d) (by omega) (by omega)
  have m4 := mask26 (o3 + d) (by omega) (by omega)
  generalize e4 : (o3 + d) / 67108864 = o4 at *
  have w5 := wrap_id (o4 + e) (by omega) (by omega)
  have m5 := mask26 (o4 + e) (by omega) (by omega)
  generalize e5 : (o4 + e) / 67108864 = o5 at *
  have fin := passed_val a b c d e o o1 o2 o3 o4 o5 e1 e2 e3 e4 e5
  have hq : 0 ≤ o5 := by omega
  replace fin := hide fin
  replace hq := hide hq
  replace ha := hide ha; replace hb := hide hb; replace hc := hide hc; replace hd := hide hd; replace he := hide he; replace ho := hide ho
  obtain ⟨T, hT⟩ : ∃ T, T = Psd a b c d e o w := ⟨_, rfl⟩
  rw [← hT]
  replace hT := hide hT
  unfold five at *
  go_enter Tryd.func78, Tryd.ntmps78
  go_wp2_with fail
  refine wp_loop_rounds 6 ?_
  rw [rounds_succ]
  go_wp2_with fail
  rw [rounds_succ]
  go_wp2_with fail
  rw [rounds_succ]
  go_wp2_with fail
  rw [rounds_succ]
  go_wp2_with fail
  rw [rounds_succ]
  go_wp2_with fail
  rw [rounds_succ]
  go_wp2_with fail
  rw [unhide hT]
  exact bodyPost_ret (v := .tuple #[five ((o + a) % 67108864) ((o1 + b) % 67108864) ((o2 + c) % 67108864) ((o3 + d) % 67108864) ((o4 + e) % 67108864), .int .u64 o5]) (by simp [results, Tryd.results78, go_sem, five]) rfl
    ⟨_, _, _, _, _, _, rfl, by unfold Dg; omega, by unfold Dg; omega, by unfold Dg; omega, by unfold Dg; omega, by unfold Dg; omega, unhide hq, unhide fin, ((Gr.refl w).alloc _).alloc _⟩
def Pls (a b c d e f g h i j : Int) (w : World) (r : Ending) (w' : World) : Prop := r = .returned (five (a + f) (b + g) (c + h) (d + i) (e + j)) ∧ Gr w w'
set_option maxHeartbeats 4000000 in
theorem plus_ok (a b c d e f g h i j : Int) (ha : Sm a) (hb : Sm b) (hc : Sm c) (hd : Sm d) (he : Sm e) (hf : Sm f) (hg : Sm g) (hh : Sm h) (hi : Sm i) (hj : Sm j) (w : World) : Calls Tryd.prog 69 #[five a b c d e, five f g h i j] w (Pls a b c d e f g h i j w) := by
  unfold Sm at *
  have w1 := wrap_id (a + f) (by omega) (by omega)
  have w2 := wrap_id (b + g) (by omega) (by omega)
  have w3 := wrap_id (c + h) (by omega) (by omega)
  have w4 := wrap_id (d + i) (by omega) (by omega)
  have w5 := wrap_id (e + j) (by omega) (by omega)
  clear ha hb hc hd he hf hg hh hi hj
  have i0 : ∀ w, (Instr.index 112 (five f g h i j) (.int .i64 0)).run Tryd.prog w = .ok (.int .u64 f) w := fun _ => by kernel_rfl
  have i1 : ∀ w, (Instr.index 112 (five f g h i j) (.int .i64 1)).run Tryd.prog w = .ok (.int .u64 g) w := fun _ => by kernel_rfl
  have i2 : ∀ w, (Instr.index 112 (five f g h i j) (.int .i64 2)).run Tryd.prog w = .ok (.int .u64 h) w := fun _ => by kernel_rfl
  have i3 : ∀ w, (Instr.index 112 (five f g h i j) (.int .i64 3)).run Tryd.prog w = .ok (.int .u64 i) w := fun _ => by kernel_rfl
  have i4 : ∀ w, (Instr.index 112 (five f g h i j) (.int .i64 4)).run Tryd.prog w = .ok (.int .u64 j) w := fun _ => by kernel_rfl
  obtain ⟨T, hT⟩ : ∃ T, T = Pls a b c d e f g h i j w := ⟨_, rfl⟩
  rw [← hT]
  replace hT := hide hT
  unfold five at *
  go_enter Tryd.func69, Tryd.ntmps69
  go_wp2_with fail
  refine wp_loop_rounds 6 ?_
  rw [rounds_succ]
  go_wp2_with fail
  rw [rounds_succ]
  go_wp2_with fail
  rw [rounds_succ]
  go_wp2_with fail
  rw [rounds_succ]
  go_wp2_with fail
  rw [rounds_succ]
  go_wp2_with fail
  rw [rounds_succ]
  go_wp2_with fail
  rw [unhide hT]
  exact bodyPost_ret (v := five (a + f) (b + g) (c + h) (d + i) (e + j)) (by simp [results, Tryd.results69, go_sem, five]) rfl ⟨rfl, (((Gr.refl w).alloc _).alloc _).alloc _⟩
theorem Tryd.infoPL : (Tryd.prog.info? 112).map (·.size) = some 5 := by kernel_rfl
def fc (a b c d e : Int) : Array Value := #[.int .u64 a, .int .u64 b, .int .u64 c, .int .u64 d, .int .u64 e]
theorem fc_one (a b c d e : Int) : (fc a b c d e).all (·.oneCell') = true := by unfold fc; simp [Value.oneCell']
theorem fc_set0 (a b c d e x : Int) : (fc a b c d e).setIfInBounds 0 (.int .u64 x) = fc x b c d e := rfl
theorem fc_set4 (a b c d e x : Int) : (fc a b c d e).setIfInBounds 4 (.int .u64 x) = fc a b c d x := rfl
def Car (n a b c d e : Int) : Prop := (0 ≤ a ∧ a < 67108869) ∧ Dg b ∧ Dg c ∧ Dg d ∧ Dg e ∧ v5 a b c d e < 1361129467683753853853498429727072845824 ∧ v5 a b c d e % 1361129467683753853853498429727072845819 = n
def Crd (n : Int) (w : World) (r : Ending) (w' : World) : Prop := ∃ a b c d e, r = .returned (.agg (fc a b c d e)) ∧ Car n a b c d e ∧ Gr w w'
def Mid (x : Int) : Prop := 0 ≤ x ∧ x < 1152921504606846976
theorem carried_val (a b c d e y0 y1 y2 y3 y4 z0 z1 z2 z3 z4 o1 o2 : Int) (ha : Mid a) (hb : Mid b) (hc : Mid c) (hd : Mid d) (he : Mid e) (hy0 : Dg y0) (hy1 : Dg y1) (hy2 : Dg y2) (hy3 : Dg y3) (hy4 : Dg y4) (hz0 : Dg z0) (hz1 : Dg z1) (hz2 : Dg z2) (hz3 : Dg z3) (hz4 : Dg z4)
    (h1 : v5 y0 y1 y2 y3 y4 + 1361129467683753853853498429727072845824 * o1 = v5 a b c d e + 0) (h2 : v5 z0 z1 z2 z3 z4 + 1361129467683753853853498429727072845824 * o2 = v5 y0 y1 y2 y3 y4 + o1 * 5) (ho1 : 0 ≤ o1) (ho2 : 0 ≤ o2) :
    Car (v5 a b c d e % 1361129467683753853853498429727072845819) (z0 + o2 * 5) z1 z2 z3 z4 ∧ o2 ≤ 1 := by
  unfold Dg at *
  unfold Mid at *
  have hv : v5 (z0 + o2 * 5) z1 z2 z3 z4 = v5 z0 z1 z2 z3 z4 + o2 * 5 := by unfold v5; omega
  have b1 : 0 ≤ v5 y0 y1 y2 y3 y4 ∧ v5 y0 y1 y2 y3 y4 < 1361129467683753853853498429727072845824 := by unfold v5; omega
  have b2 : 0 ≤ v5 z0 z1 z2 z3 z4 ∧ v5 z0 z1 z2 z3 z4 < 1361129467683753853853498429727072845824 := by unfold v5; omega
  have b3 : v5 a b c d e < 1361129467683753853853498429727072845824 * 34359738368 := by unfold v5; omega
  have k1 : o1 < 34359738369 := by omega
  have k2 : o2 ≤ 1 := by omega
  refine ⟨⟨by omega, hz1, hz2, hz3, hz4, ?_, ?_⟩, k2⟩
  · rw [hv]
    omega
  · rw [hv]
    omega
set_option maxHeartbeats 4000000 in
theorem carried_ok (a b c d e : Int) (ha : Mid a) (hb : Mid b) (hc : Mid c) (hd : Mid d) (he : Mid e) (w : World) : Calls Tryd.prog 88 #[.agg (fc a b c d e)] w (Crd (v5 a b c d e % 1361129467683753853853498429727072845819) w) := by
  obtain ⟨T, hT⟩ : ∃ T, T = Crd (v5 a b c d e % 1361129467683753853853498429727072845819) w := ⟨_, rfl⟩
  rw [← hT]
  replace hT := hide hT
  obtain ⟨SK, hSK⟩ : ∃ S, S = fc a b c d e := ⟨_, rfl⟩
  rw [← hSK]
  replace hSK := hide hSK
  replace ha := hide ha; replace hb := hide hb; replace hc := hide hc; replace hd := hide hd; replace he := hide he
  go_enter Tryd.func88, Tryd.ntmps88
  go_upto_region 1 with fail
  have hB := ((Bl.nil w).new SK 112).new #[.int .u64 0, .int .u64 0, .int .u64 0, .int .u64 0, .int .u64 0] 112
  simp only [size_alloc, List.nil_append, List.cons_append] at hB
  generalize World.alloc _ _ = u at *
  rw [unhide hSK] at hB
  replace hB : Bl w [⟨w.heap.size, fc a b c d e, 112⟩, ⟨w.heap.size + 1, fc 0 0 0 0 0, 112⟩] u := hB
  refine wp_region_lit ?_
  refine list_val (.agg (fc a b c d e)) (by kernel_rfl) (exec_arr _ 112 (.tmp 1) rfl (w.heap.size) (by kernel_rfl) (fc a b c d e) 112 _ (hB.get 0 (x := ⟨w.heap.size, fc a b c d e, 112⟩) rfl) Tryd.underlying112 rfl Tryd.infoPL) ?_
  simp only [nrm]
  refine list_call 78 #[.agg (fc a b c d e), .int .u64 0] (by kernel_rfl) (by kernel_rfl) ((passed_ok a b c d e 0 (by have := unhide ha; unfold Mid at this; unfold Sm; omega) (by have := unhide hb; unfold Mid at this; unfold Sm; omega) (by have := unhide hc; unfold Mid at this; unfold Sm; omega) (by have := unhide hd; unfold Mid at this; unfold Sm; omega) (by have := unhide he; unfold Mid at this; unfold Sm; omega) (by unfold Sm; omega) _).mono ?_)
  rintro r u1 ⟨y0, y1, y2, y3, y4, o1, rfl, hy0, hy1, hy2, hy3, hy4, ho1, hv1, hg⟩
  refine ⟨_, rfl, ?_⟩
  replace hB := hB.more hg
  clear hg
  simp only [nrm]
  refine list_val (.tuple #[.agg (fc y0 y1 y2 y3 y4), .int .u64 o1]) (by kernel_rfl) (by kernel_rfl) ?_
  simp only [nrm]
  refine list_val (.agg (fc y0 y1 y2 y3 y4)) (by kernel_rfl) (by kernel_rfl) ?_
  simp only [nrm]
  refine list_val (.int .u64 o1) (by kernel_rfl) (by kernel_rfl) ?_
  simp only [nrm]
  refine list_store 112 (.tmp 1) (.tmp 7) (w.heap.size) (fc y0 y1 y2 y3 y4) 112 (fc a b c d e) (by kernel_rfl) rfl (by kernel_rfl) (by kernel_rfl) (hB.get 0 (x := ⟨w.heap.size, fc a b c d e, 112⟩) rfl) Tryd.infoPL rfl (fc_one _ _ _ _ _) ?_
  replace hB := hB.set 0 (x := ⟨w.heap.size, fc a b c d e, 112⟩) rfl (fc y0 y1 y2 y3 y4)
  simp only [List.set_cons_zero, List.set_cons_succ] at hB
  generalize World.setRow _ _ _ = u2 at *
  simp only [nrm]
  (refine wpList_step fun K hK => ?_; replace hK := hide hK; go_simp; refine unhide hK _ _ ?_; clear hK K)
  refine wpList_nil ?_
  have k1 : o1 < 34359738369 := by
    have b0 := unhide ha; have b1 := unhide hb; have b2 := unhide hc; have b3 := unhide hd; have b4 := unhide he
    unfold Mid at b0 b1 b2 b3 b4
    unfold Dg at hy0 hy1 hy2 hy3 hy4
    unfold v5 at hv1
    omega
  have wr1 := wrap_id (o1 * 5) (by omega) (by omega)
  replace hB := hide hB; replace hv1 := hide hv1
  replace ho1 := hide ho1; replace k1 := hide k1
  go_upto_region 2 with fail
  replace hB := unhide hB; replace hv1 := unhide hv1
  replace ho1 := unhide ho1; replace k1 := unhide k1
  refine wp_region_lit ?_
  refine list_val (.agg (fc y0 y1 y2 y3 y4)) (by kernel_rfl) (exec_arr _ 112 (.tmp 1) rfl (w.heap.size) (by kernel_rfl) (fc y0 y1 y2 y3 y4) 112 _ (hB.get 0 (x := ⟨w.heap.size, fc y0 y1 y2 y3 y4, 112⟩) rfl) Tryd.underlying112 rfl Tryd.infoPL) ?_
  simp only [nrm]
  refine list_val (.int .u64 o1) (by kernel_rfl) (by kernel_rfl) ?_
  simp only [nrm]
  refine list_val (.int .u64 (o1 * 5)) (by kernel_rfl) (by go_simp) ?_
  simp only [nrm]
  refine list_call 78 #[.agg (fc y0 y1 y2 y3 y4), .int .u64 (o1 * 5)] (by kernel_rfl) (by kernel_rfl) ((passed_ok y0 y1 y2 y3 y4 (o1 * 5) (by have := hy0; unfold Dg at this; unfold Sm; omega) (by have := hy1; unfold Dg at this; unfold Sm; omega) (by have := hy2; unfold Dg at this; unfold Sm; omega) (by have := hy3; unfold Dg at this; unfold Sm; omega) (by have := hy4; unfold Dg at this; unfold Sm; omega) (by unfold Sm; omega) _).mono ?_)
  rintro r u3 ⟨z0, z1, z2, z3, z4, o2, rfl, hz0, hz1, hz2, hz3, hz4, ho2, hv2, hg⟩
  refine ⟨_, rfl, ?_⟩
  replace hB := hB.more hg
  clear hg
  simp only [nrm]
  refine list_val (.tuple #[.agg (fc z0 z1 z2 z3 z4), .int .u64 o2]) (by kernel_rfl) (by kernel_rfl) ?_
  simp only [nrm]
  refine list_val (.agg (fc z0 z1 z2 z3 z4)) (by kernel_rfl) (by kernel_rfl) ?_
  simp only [nrm]
  refine list_val (.int .u64 o2) (by kernel_rfl) (by kernel_rfl) ?_
  simp only [nrm]
  refine list_store 112 (.tmp 1) (.tmp 14) (w.heap.size) (fc z0 z1 z2 z3 z4) 112 (fc y0 y1 y2 y3 y4) (by kernel_rfl) rfl (by kernel_rfl) (by kernel_rfl) (hB.get 0 (x := ⟨w.heap.size, fc y0 y1 y2 y3 y4, 112⟩) rfl) Tryd.infoPL rfl (fc_one _ _ _ _ _) ?_
  replace hB := hB.set 0 (x := ⟨w.heap.size, fc y0 y1 y2 y3 y4, 112⟩) rfl (fc z0 z1 z2 z3 z4)
  simp only [List.set_cons_zero, List.set_cons_succ] at hB
  generalize World.setRow _ _ _ = u4 at *
  simp only [nrm]
  (refine wpList_step fun K hK => ?_; replace hK := hide hK; go_simp; refine unhide hK _ _ ?_; clear hK K)
  refine wpList_nil ?_
  obtain ⟨hcar, k2⟩ := carried_val a b c d e y0 y1 y2 y3 y4 z0 z1 z2 z3 z4 o1 o2 (unhide ha) (unhide hb) (unhide hc) (unhide hd) (unhide he) hy0 hy1 hy2 hy3 hy4 hz0 hz1 hz2 hz3 hz4 hv1 hv2 ho1 ho2
  have wr2 := wrap_id (o2 * 5) (by omega) (by omega)
  have wr3 := wrap_id (z0 + o2 * 5) (by unfold Dg at hz0; omega) (by unfold Dg at hz0; omega)
  replace hB := hide hB; replace hcar := hide hcar
  clear hv1 hv2 ho1 ho2 k1 k2 hy0 hy1 hy2 hy3 hy4 hz0 hz1 hz2 hz3 hz4 wr1
  go_upto_region 3 with fail
  replace hB := unhide hB
  refine wp_region_lit ?_
  refine list_val (.pointer (some ⟨w.heap.size, 0, none⟩)) (by kernel_rfl) (by kernel_rfl) ?_
  simp only [nrm]
  refine list_val (.int .u64 z0) (by kernel_rfl) (by have hc : World.cell? _ ⟨w.heap.size, 0, none⟩ = some (.int .u64 z0) := cell_of (hB.get 0 (x := ⟨w.heap.size, fc z0 z1 z2 z3 z4, 112⟩) rfl) rfl; go_simp) ?_
  simp only [nrm]
  refine list_val (.int .u64 o2) (by kernel_rfl) (by kernel_rfl) ?_
  simp only [nrm]
  refine list_val (.int .u64 (o2 * 5)) (by kernel_rfl) (by go_simp) ?_
  simp only [nrm]
  refine list_val (.int .u64 (z0 + o2 * 5)) (by kernel_rfl) (by go_simp) ?_
  simp only [nrm]
  refine list_val (.pointer (some ⟨w.heap.size, 0, none⟩)) (by kernel_rfl) (by kernel_rfl) ?_
  simp only [nrm]
  have c4 : World.cell? _ ⟨w.heap.size, 0, none⟩ = some (.int .u64 z0) := cell_of (hB.get 0 (x := ⟨w.heap.size, fc z0 z1 z2 z3 z4, 112⟩) rfl) rfl
  have fz := froz_of (i := 0) (hB.get 0 (x := ⟨w.heap.size, fc z0 z1 z2 z3 z4, 112⟩) rfl)
  have hB2 := hB.cell 0 (x := ⟨w.heap.size, fc z0 z1 z2 z3 z4, 112⟩) rfl 0 (.int .u64 (z0 + o2 * 5))
  simp only [List.set_cons_zero, List.set_cons_succ, fc_set0] at hB2
  clear hB
  replace hB2 := hide hB2
  (refine wpList_step fun K hK => ?_; replace hK := hide hK; go_simp; refine unhide hK _ _ ?_; clear hK K)
  clear c4 fz
  refine wpList_nil ?_
  generalize World.setCell _ _ _ = u5 at *
  go_upto_region 4 with fail
  have hB := unhide hB2
  clear hB2
  refine wp_region_lit ?_
  refine list_val (.agg (fc (z0 + o2 * 5) z1 z2 z3 z4)) (by kernel_rfl) (exec_arr _ 112 (.tmp 1) rfl (w.heap.size) (by kernel_rfl) (fc (z0 + o2 * 5) z1 z2 z3 z4) 112 _ (hB.get 0 (x := ⟨w.heap.size, fc (z0 + o2 * 5) z1 z2 z3 z4, 112⟩) rfl) Tryd.underlying112 rfl Tryd.infoPL) ?_
  simp only [nrm]
  refine list_store 112 (.tmp 2) (.tmp 22) (w.heap.size + 1) (fc (z0 + o2 * 5) z1 z2 z3 z4) 112 (fc 0 0 0 0 0) (by kernel_rfl) rfl (by kernel_rfl) (by kernel_rfl) (hB.get 1 (x := ⟨w.heap.size + 1, fc 0 0 0 0 0, 112⟩) rfl) Tryd.infoPL rfl (fc_one _ _ _ _ _) ?_
  replace hB := hB.set 1 (x := ⟨w.heap.size + 1, fc 0 0 0 0 0, 112⟩) rfl (fc (z0 + o2 * 5) z1 z2 z3 z4)
  simp only [List.set_cons_zero, List.set_cons_succ] at hB
  generalize World.setRow _ _ _ = u6 at *
  simp only [nrm]
  refine wpList_nil ?_
  replace hB := hide hB
  go_wp2_with fail
  replace hB := unhide hB
  rw [unhide hT]
  exact bodyPost_ret (v := .agg (fc (z0 + o2 * 5) z1 z2 z3 z4)) (results_cell_row Tryd.results88 _ _ (w.heap.size + 1) 112 (fc (z0 + o2 * 5) z1 z2 z3 z4) (0, 0) _ rfl (hB.get 1 (x := ⟨w.heap.size + 1, fc (z0 + o2 * 5) z1 z2 z3 z4, 112⟩) rfl) Tryd.underlying112 rfl Tryd.infoPL) rfl (⟨_, _, _, _, _, rfl, unhide hcar, hB.gr⟩)
def Lsd (n : Int) (w : World) (r : Ending) (w' : World) : Prop := ∃ a b c d e, r = .returned (.agg (fc a b c d e)) ∧ Dg a ∧ Dg b ∧ Dg c ∧ Dg d ∧ Dg e ∧ v5 a b c d e = n ∧ Gr w w'
theorem least_num (n a b c d e y0 y1 y2 y3 y4 z0 z1 z2 z3 z4 o1 o2 : Int) (hc : Car n a b c d e) (hy0 : Dg y0) (hy1 : Dg y1) (hy2 : Dg y2) (hy3 : Dg y3) (hy4 : Dg y4) (hz0 : Dg z0) (hz1 : Dg z1) (hz2 : Dg z2) (hz3 : Dg z3) (hz4 : Dg z4)
    (h1 : v5 y0 y1 y2 y3 y4 + 1361129467683753853853498429727072845824 * o1 = v5 a b c d e + 5) (h2 : v5 z0 z1 z2 z3 z4 + 1361129467683753853853498429727072845824 * o2 = v5 a b c d e + o1 * 5) (ho1 : 0 ≤ o1) (ho2 : 0 ≤ o2) : v5 z0 z1 z2 z3 z4 = n := by
  obtain ⟨h3, h4, h5, h6, h7, h8, h9⟩ := hc
  unfold Dg at *
  have b0 : 0 ≤ v5 a b c d e := by unfold v5; omega
  have b1 : 0 ≤ v5 y0 y1 y2 y3 y4 ∧ v5 y0 y1 y2 y3 y4 < 1361129467683753853853498429727072845824 := by unfold v5; omega
  have b2 : 0 ≤ v5 z0 z1 z2 z3 z4 ∧ v5 z0 z1 z2 z3 z4 < 1361129467683753853853498429727072845824 := by unfold v5; omega
  generalize v5 a b c d e = x at *
  generalize v5 y0 y1 y2 y3 y4 = y at *
  generalize v5 z0 z1 z2 z3 z4 = z at *
  have k1 : o1 = 0 ∨ o1 = 1 := by omega
  have k2 : o2 = 0 ∨ o2 = 1 := by omega
  clear hy0 hy1 hy2 hy3 hy4 hz0 hz1 hz2 hz3 hz4 h3 h4 h5 h6 h7
  rcases k1 with rfl | rfl <;> rcases k2 with rfl | rfl <;> omega
set_option maxHeartbeats 4000000 in
theorem least_ok (n a b c d e : Int) (hn : Car n a b c d e) (w : World) : Calls Tryd.prog 68 #[.agg (fc a b c d e)] w (Lsd n w) := by
  obtain ⟨T, hT⟩ : ∃ T, T = Lsd n w := ⟨_, rfl⟩
  rw [← hT]
  replace hT := hide hT
  obtain ⟨SK, hSK⟩ : ∃ S, S = fc a b c d e := ⟨_, rfl⟩
  rw [← hSK]
  replace hSK := hide hSK
  have hn2 := hn
  obtain ⟨ha, hb, hc, hd, he, -, -⟩ := hn2
  replace hn := hide hn
  replace ha := hide ha; replace hb := hide hb; replace hc := hide hc; replace hd := hide hd; replace he := hide he
  go_enter Tryd.func68, Tryd.ntmps68
  go_upto_region 1 with fail
  have hB := ((Bl.nil w).new SK 112).new #[.int .u64 0, .int .u64 0, .int .u64 0, .int .u64 0, .int .u64 0] 112
  simp only [size_alloc, List.nil_append, List.cons_append] at hB
  generalize World.alloc _ _ = u at *
  rw [unhide hSK] at hB
  replace hB : Bl w [⟨w.heap.size, fc a b c d e, 112⟩, ⟨w.heap.size + 1, fc 0 0 0 0 0, 112⟩] u := hB
  refine wp_region_lit ?_
  refine list_val (.agg (fc a b c d e)) (by kernel_rfl) (exec_arr _ 112 (.tmp 1) rfl (w.heap.size) (by kernel_rfl) (fc a b c d e) 112 _ (hB.get 0 (x := ⟨w.heap.size, fc a b c d e, 112⟩) rfl) Tryd.underlying112 rfl Tryd.infoPL) ?_
  simp only [nrm]
  refine list_call 78 #[.agg (fc a b c d e), .int .u64 5] (by kernel_rfl) (by kernel_rfl) ((passed_ok a b c d e 5 (by have := unhide ha; unfold Sm; omega) (by have := unhide hb; unfold Dg at this; unfold Sm; omega) (by have := unhide hc; unfold Dg at this; unfold Sm; omega) (by have := unhide hd; unfold Dg at this; unfold Sm; omega) (by have := unhide he; unfold Dg at this; unfold Sm; omega) (by unfold Sm; omega) _).mono ?_)
  rintro r u1 ⟨y0, y1, y2, y3, y4, o1, rfl, hy0, hy1, hy2, hy3, hy4, ho1, hv1, hg⟩
  refine ⟨_, rfl, ?_⟩
  replace hB := hB.more hg
  clear hg
  simp only [nrm]
  refine list_val (.tuple #[.agg (fc y0 y1 y2 y3 y4), .int .u64 o1]) (by kernel_rfl) (by kernel_rfl) ?_
  simp only [nrm]
  refine list_val (.agg (fc y0 y1 y2 y3 y4)) (by kernel_rfl) (by kernel_rfl) ?_
  simp only [nrm]
  refine list_val (.int .u64 o1) (by kernel_rfl) (by kernel_rfl) ?_
  simp only [nrm]
  replace hB := hide hB
  (refine wpList_step fun K hK => ?_; replace hK := hide hK; go_simp; refine unhide hK _ _ ?_; clear hK K)
  replace hB := (unhide hB).new #[.int .u64 0, .int .u64 0, .int .u64 0, .int .u64 0, .int .u64 0] 112
  simp only [List.nil_append, List.cons_append] at hB
  generalize World.alloc _ _ = u2 at *
  generalize u1.heap.size = h5 at *
  replace hB : Bl w [⟨w.heap.size, fc a b c d e, 112⟩, ⟨w.heap.size + 1, fc 0 0 0 0 0, 112⟩, ⟨h5, fc 0 0 0 0 0, 112⟩] u2 := hB
  refine list_store 112 (.tmp 3) (.tmp 8) (h5) (fc y0 y1 y2 y3 y4) 112 (fc 0 0 0 0 0) (by kernel_rfl) rfl (by kernel_rfl) (by kernel_rfl) (hB.get 2 (x := ⟨h5, fc 0 0 0 0 0, 112⟩) rfl) Tryd.infoPL rfl (fc_one _ _ _ _ _) ?_
  replace hB := hB.set 2 (x := ⟨h5, fc 0 0 0 0 0, 112⟩) rfl (fc y0 y1 y2 y3 y4)
  simp only [List.set_cons_zero, List.set_cons_succ] at hB
  generalize World.setRow _ _ _ = u3 at *
  simp only [nrm]
  (refine wpList_step fun K hK => ?_; replace hK := hide hK; go_simp; refine unhide hK _ _ ?_; clear hK K)
  refine wpList_nil ?_
  have k1 : o1 < 3 := by
    have b0 := unhide ha; have b1 := unhide hb; have b2 := unhide hc; have b3 := unhide hd; have b4 := unhide he
    unfold Dg at hy0 hy1 hy2 hy3 hy4 b1 b2 b3 b4
    unfold v5 at hv1
    omega
  have wr1 := wrap_id (o1 * 5) (by omega) (by omega)
  replace hB := hide hB; replace hv1 := hide hv1
  replace ho1 := hide ho1; replace k1 := hide k1
  go_upto_region 2 with fail
  replace hB := unhide hB; replace hv1 := unhide hv1
  replace ho1 := unhide ho1; replace k1 := unhide k1
  refine wp_region_lit ?_
  refine list_val (.agg (fc a b c d e)) (by kernel_rfl) (exec_arr _ 112 (.tmp 1) rfl (w.heap.size) (by kernel_rfl) (fc a b c d e) 112 _ (hB.get 0 (x := ⟨w.heap.size, fc a b c d e, 112⟩) rfl) Tryd.underlying112 rfl Tryd.infoPL) ?_
  simp only [nrm]
  refine list_val (.int .u64 o1) (by kernel_rfl) (by kernel_rfl) ?_
  simp only [nrm]
  refine list_val (.int .u64 (o1 * 5)) (by kernel_rfl) (by go_simp) ?_
  simp only [nrm]
  refine list_call 78 #[.agg (fc a b c d e), .int .u64 (o1 * 5)] (by kernel_rfl) (by kernel_rfl) ((passed_ok a b c d e (o1 * 5) (by have := unhide ha; unfold Sm; omega) (by have := unhide hb; unfold Dg at this; unfold Sm; omega) (by have := unhide hc; unfold Dg at this; unfold Sm; omega) (by have := unhide hd; unfold Dg at this; unfold Sm; omega) (by have := unhide he; unfold Dg at this; unfold Sm; omega) (by unfold Sm; omega) _).mono ?_)
  rintro r u4 ⟨z0, z1, z2, z3, z4, o2, rfl, hz0, hz1, hz2, hz3, hz4, ho2, hv2, hg⟩
  refine ⟨_, rfl, ?_⟩
  replace hB := hB.more hg
  clear hg
  simp only [nrm]
  refine list_val (.tuple #[.agg (fc z0 z1 z2 z3 z4), .int .u64 o2]) (by kernel_rfl) (by kernel_rfl) ?_
  simp only [nrm]
  refine list_val (.agg (fc z0 z1 z2 z3 z4)) (by kernel_rfl) (by kernel_rfl) ?_
  simp only [nrm]
  refine list_val (.int .u64 o2) (by kernel_rfl) (by kernel_rfl) ?_
  simp only [nrm]
  refine list_store 112 (.tmp 1) (.tmp 15) (w.heap.size) (fc z0 z1 z2 z3 z4) 112 (fc a b c d e) (by kernel_rfl) rfl (by kernel_rfl) (by kernel_rfl) (hB.get 0 (x := ⟨w.heap.size, fc a b c d e, 112⟩) rfl) Tryd.infoPL rfl (fc_one _ _ _ _ _) ?_
  replace hB := hB.set 0 (x := ⟨w.heap.size, fc a b c d e, 112⟩) rfl (fc z0 z1 z2 z3 z4)
  simp only [List.set_cons_zero, List.set_cons_succ] at hB
  generalize World.setRow _ _ _ = u5 at *
  simp only [nrm]
  refine wpList_nil ?_
  have hfin := hide (least_num n a b c d e y0 y1 y2 y3 y4 z0 z1 z2 z3 z4 o1 o2 (unhide hn) hy0 hy1 hy2 hy3 hy4 hz0 hz1 hz2 hz3 hz4 hv1 hv2 ho1 ho2)
  replace hB := hide hB
  clear hv1 hv2 ho1 ho2 k1 wr1
  go_upto_region 3 with fail
  replace hB := unhide hB
  refine wp_region_lit ?_
  refine list_val (.agg (fc z0 z1 z2 z3 z4)) (by kernel_rfl) (exec_arr _ 112 (.tmp 1) rfl (w.heap.size) (by kernel_rfl) (fc z0 z1 z2 z3 z4) 112 _ (hB.get 0 (x := ⟨w.heap.size, fc z0 z1 z2 z3 z4, 112⟩) rfl) Tryd.underlying112 rfl Tryd.infoPL) ?_
  simp only [nrm]
  refine list_store 112 (.tmp 2) (.tmp 17) (w.heap.size + 1) (fc z0 z1 z2 z3 z4) 112 (fc 0 0 0 0 0) (by kernel_rfl) rfl (by kernel_rfl) (by kernel_rfl) (hB.get 1 (x := ⟨w.heap.size + 1, fc 0 0 0 0 0, 112⟩) rfl) Tryd.infoPL rfl (fc_one _ _ _ _ _) ?_
  replace hB := hB.set 1 (x := ⟨w.heap.size + 1, fc 0 0 0 0 0, 112⟩) rfl (fc z0 z1 z2 z3 z4)
  simp only [List.set_cons_zero, List.set_cons_succ] at hB
  generalize World.setRow _ _ _ = u6 at *
  simp only [nrm]
  refine wpList_nil ?_
  replace hB := hide hB
  go_wp2_with fail
  replace hB := unhide hB
  rw [unhide hT]
  exact bodyPost_ret (v := .agg (fc z0 z1 z2 z3 z4)) (results_cell_row Tryd.results68 _ _ (w.heap.size + 1) 112 (fc z0 z1 z2 z3 z4) (0, 0) _ rfl (hB.get 1 (x := ⟨w.heap.size + 1, fc z0 z1 z2 z3 z4, 112⟩) rfl) Tryd.underlying112 rfl Tryd.infoPL) rfl (⟨_, _, _, _, _, rfl, hz0, hz1, hz2, hz3, hz4, unhide hfin, hB.gr⟩)
end Go.Proofs.YtgabkfleidpipaaDoor
