/-
  The reference: the hash of bytes.
-/
import Derived.Test.YthnmebhljkccnaaDoorShaRouter
namespace Go.Proofs.YthnmebhljkccnaaDoor
open Go.RowKit
set_option maxRecDepth 1000000
set_option linter.unusedSimpArgs false
set_option linter.unusedVariables false


theorem padL_tot (B : List Int) (n : Nat) (hn : B.length = n) : (B ++ padL n).length = 64 * ((B ++ padL n).length / 64) := by
  have h := padL_whole n
  rw [List.length_append, hn]
  omega
set_option maxHeartbeats 2000000 in
theorem rsum_ok (B : List Int) (hb : IsB B) (n : Nat) (hn : B.length = n) (hbig : n ≤ 170000000000000) (a : Option Addr) (cap : Nat) (w : World) (hA : Sl w a B) :
    Calls Tryd.prog 27 #[.slice a n cap] w (Summed B w) := by
  obtain ⟨T, hT⟩ : ∃ T, T = Summed B w := ⟨_, rfl⟩
  rw [← hT]
  replace hT := hide hT
  replace hA := hide hA
  replace hb := hide hb
  go_enter Tryd.func27, Tryd.ntmps27
  go_upto_region 1 with fail
  have hB := (Bl.nil w).new #[.int .u8 0, .int .u8 0, .int .u8 0, .int .u8 0, .int .u8 0, .int .u8 0, .int .u8 0, .int .u8 0, .int .u8 0, .int .u8 0, .int .u8 0, .int .u8 0, .int .u8 0, .int .u8 0, .int .u8 0, .int .u8 0, .int .u8 0, .int .u8 0, .int .u8 0, .int .u8 0, .int .u8 0, .int .u8 0, .int .u8 0, .int .u8 0, .int .u8 0, .int .u8 0, .int .u8 0, .int .u8 0, .int .u8 0, .int .u8 0, .int .u8 0, .int .u8 0] 28
  simp only [List.nil_append] at hB
  generalize World.alloc _ _ = u1 at *
  replace hB : Bl w [⟨w.heap.size, kc Z32, 28⟩] u1 := hB
  refine wp_region_lit ?_
  refine list_call 37 #[] (by kernel_rfl) (by kernel_rfl) ((rconstants_ok _).mono ?_)
  rintro r u2 ⟨rfl, hg⟩
  refine ⟨_, rfl, ?_⟩
  replace hB := hB.more hg
  clear hg
  simp only [Act.put, List.setIfInBounds_toArray, List.set_cons_zero, List.set_cons_succ, List.getElem_toArray, List.getElem_cons_zero, List.getElem_cons_succ]
  iterate 1 (refine wpList_step fun K hK => ?_; replace hK := hide hK; go_simp; refine unhide hK _ _ ?_; clear hK K)
  replace hB := hB.new #[.int .u32 0, .int .u32 0, .int .u32 0, .int .u32 0, .int .u32 0, .int .u32 0, .int .u32 0, .int .u32 0, .int .u32 0, .int .u32 0, .int .u32 0, .int .u32 0, .int .u32 0, .int .u32 0, .int .u32 0, .int .u32 0, .int .u32 0, .int .u32 0, .int .u32 0, .int .u32 0, .int .u32 0, .int .u32 0, .int .u32 0, .int .u32 0, .int .u32 0, .int .u32 0, .int .u32 0, .int .u32 0, .int .u32 0, .int .u32 0, .int .u32 0, .int .u32 0, .int .u32 0, .int .u32 0, .int .u32 0, .int .u32 0, .int .u32 0, .int .u32 0, .int .u32 0, .int .u32 0, .int .u32 0, .int .u32 0, .int .u32 0, .int .u32 0, .int .u32 0, .int .u32 0, .int .u32 0, .int .u32 0, .int .u32 0, .int .u32 0, .int .u32 0, .int .u32 0, .int .u32 0, .int .u32 0, .int .u32 0, .int .u32 0, .int .u32 0, .int .u32 0, .int .u32 0, .int .u32 0, .int .u32 0, .int .u32 0, .int .u32 0, .int .u32 0] 64
  simp only [List.cons_append, List.nil_append] at hB
  generalize World.alloc _ _ = u3 at *
  generalize u2.heap.size = gk at *
  replace hB : Bl w [⟨w.heap.size, kc Z32, 28⟩, ⟨gk, uc Z64, 64⟩] u3 := hB
  refine list_store 64 (.tmp 3) (.tmp 20) gk (uc KL) 64 (uc Z64) (by kernel_rfl) rfl (by kernel_rfl) (by kernel_rfl) (hB.get 1 (x := ⟨gk, uc Z64, 64⟩) rfl) (by rw [Tryd.infoW, uc_size, KL_len]) ((show (uc Z64).size = 64 from rfl).trans ((uc_size _).trans KL_len).symm) (uc_one _) ?_
  replace hB := hB.set 1 (x := ⟨gk, uc Z64, 64⟩) rfl (uc KL)
  simp only [List.set_cons_zero, List.set_cons_succ] at hB
  generalize World.setRow _ _ _ = u4 at *
  simp only [Act.put, List.setIfInBounds_toArray, List.set_cons_zero, List.set_cons_succ, List.getElem_toArray, List.getElem_cons_zero, List.getElem_cons_succ]
  refine wpList_nil ?_
  replace hB := hide hB
  go_upto_region 2 with fail
  replace hB := unhide hB
  refine wp_region_lit ?_
  iterate 2 (refine wpList_step fun K hK => ?_; replace hK := hide hK; go_simp; refine unhide hK _ _ ?_; clear hK K)
  have hO := blk_bytes (w := u4) (b := u4.heap.size) [] (Nat.le_refl _) (by simp)
  replace hO : Ob u4.heap.size (u4.alloc (.cells #[] 5 (0, 0))) (.slice (some ⟨u4.heap.size, 0, none⟩) 0 0) [] := hO
  have hG := (Gr.refl u4).alloc (.cells #[] 5 (0, 0))
  have hA1 := (unhide hA).gr (hB.gr.trans hG)
  generalize World.alloc _ _ = u5 at *
  refine app_bs (by kernel_rfl) (.tmp 21) (.tmp 22) rfl u4.heap.size _ [] (by kernel_rfl) hO a n cap B (by kernel_rfl) hn hA1 (by simp; omega) hG.size ?_
  intro v1 u6 hO1 hG1
  replace hG1 := hO.grown (Nat.le_refl _) hG hG1
  rw [List.nil_append] at hO1
  clear hO hG hA1
  simp only [Act.put, List.setIfInBounds_toArray, List.set_cons_zero, List.set_cons_succ, List.getElem_toArray, List.getElem_cons_zero, List.getElem_cons_succ]
  iterate 2 (refine wpList_step fun K hK => ?_; replace hK := hide hK; go_simp; refine unhide hK _ _ ?_; clear hK K)
  refine list_call 38 #[.int .i64 n] (by kernel_rfl) (by kernel_rfl) ((rpad_ok n (by omega) _).mono ?_)
  rintro r u7 ⟨v2, rfl, hO2, hg⟩
  refine ⟨_, rfl, ?_⟩
  obtain ⟨a2, c2, rfl, hc2, hc3, hs2⟩ := hO2.slice
  replace hO1 := hO1.gr hg
  replace hG1 := hG1.trans hg
  clear hg hO2
  simp only [Act.put, List.setIfInBounds_toArray, List.set_cons_zero, List.set_cons_succ, List.getElem_toArray, List.getElem_cons_zero, List.getElem_cons_succ]
  refine app_bs (by kernel_rfl) (.tmp 23) (.tmp 26) rfl u4.heap.size v1 B (by kernel_rfl) hO1 a2 (padL n).length c2 (padL n) (by kernel_rfl) rfl hs2 (by rw [padL_len, hn]; unfold nz; omega) hG1.size ?_
  intro v3 u8 hO3 hG3
  replace hG3 := hO1.grown (Nat.le_refl _) hG1 hG3
  clear hO1 hG1 hs2 hc2 hc3
  have hDb : IsB (B ++ padL n) := isB_append (unhide hb) (padL_isB n)
  have hDl := padL_tot B n hn
  have hD0 : 0 < (B ++ padL n).length := by rw [List.length_append, padL_len]; omega
  have hsum : Hid (keyL (bk ((B ++ padL n).length / 64) F0 (B ++ padL n)) = sumL B) := by rw [← hn]; exact rfl
  obtain ⟨D, hD⟩ : ∃ D, D = B ++ padL n := ⟨_, rfl⟩
  rw [← hD] at hDb hDl hD0 hO3 hsum
  clear hD
  rcases hO3.2 with ⟨_, h0⟩ | ⟨gd, c3, cur, h1, h2, h3, h4, h5, h6, h7⟩
  · omega
  rw [Nat.mul_one] at h6 h7
  have hc3 : c3 < 9223372036854775808 := by unfold maxLen at h5; omega
  subst h1
  have hB2 : Bl w [⟨w.heap.size, kc Z32, 28⟩, ⟨gk, uc KL, 64⟩, ⟨gd, cur, 5⟩] u8 := hB.join hG3 [⟨gd, cur, 5⟩] (fun x hx => by have hx2 : x = ⟨gd, cur, 5⟩ := (by simpa using hx); subst hx2; exact ⟨h3, h2⟩) (List.pairwise_singleton _ _)
  clear hB hO3 hG3 h2 h3 h5 h6
  have hB := hide hB2
  clear hB2
  replace hDl := hide hDl
  replace h7 := hide h7
  simp only [Act.put, List.setIfInBounds_toArray, List.set_cons_zero, List.set_cons_succ, List.getElem_toArray, List.getElem_cons_zero, List.getElem_cons_succ]
  iterate 1 (refine wpList_step fun K hK => ?_; replace hK := hide hK; go_simp; refine unhide hK _ _ ?_; clear hK K)
  refine wpList_nil ?_
  go_upto_region 3 with fail
  replace hB := unhide hB
  refine wp_region_lit ?_
  refine list_call 39 #[] (by kernel_rfl) (by kernel_rfl) ((rbegin_ok _).mono ?_)
  rintro r u9 ⟨rfl, hg⟩
  refine ⟨_, rfl, ?_⟩
  replace hB := hB.more hg
  clear hg
  simp only [Act.put, List.setIfInBounds_toArray, List.set_cons_zero, List.set_cons_succ, List.getElem_toArray, List.getElem_cons_zero, List.getElem_cons_succ]
  iterate 1 (refine wpList_step fun K hK => ?_; replace hK := hide hK; go_simp; refine unhide hK _ _ ?_; clear hK K)
  replace hB := hB.new #[.int .u32 0, .int .u32 0, .int .u32 0, .int .u32 0, .int .u32 0, .int .u32 0, .int .u32 0, .int .u32 0] 67
  simp only [List.cons_append, List.nil_append] at hB
  generalize World.alloc _ _ = u10 at *
  generalize u9.heap.size = gs at *
  replace hB : Bl w [⟨w.heap.size, kc Z32, 28⟩, ⟨gk, uc KL, 64⟩, ⟨gd, cur, 5⟩, ⟨gs, uc Z8, 67⟩] u10 := hB
  refine list_store 67 (.tmp 4) (.tmp 28) gs (uc F0) 67 (uc Z8) (by kernel_rfl) rfl (by kernel_rfl) (by kernel_rfl) (hB.get 3 (x := ⟨gs, uc Z8, 67⟩) rfl) (by rw [Tryd.infoS]; rfl) rfl (uc_one _) ?_
  replace hB := hB.set 3 (x := ⟨gs, uc Z8, 67⟩) rfl (uc F0)
  simp only [List.set_cons_zero, List.set_cons_succ] at hB
  generalize World.setRow _ _ _ = u11 at *
  simp only [Act.put, List.setIfInBounds_toArray, List.set_cons_zero, List.set_cons_succ, List.getElem_toArray, List.getElem_cons_zero, List.getElem_cons_succ]
  refine wpList_nil ?_
  replace hB := hide hB
  go_wp2_with fail
  refine router_loop w D hDb (D.length / 64) (unhide hDl) c3 h4 hc3 cur (unhide h7) ⟨w.heap.size, kc Z32, 28⟩ gk gd gs _ ?_ _ (unhide hB) _ _ _ _ _ _ _ _ _ _ _ _ _ _ _ _ _ _ _ _ _ _ _ _ _ _ _ _ _ _ _ _ _ _ _ _ _ _ _ _ _ _ _ _ _ _ _ _ _ _ _ _ _ _ _ _ _ _ _ _ _ _ _ _ _ _ _ _ _ _ _ _ _ _ _ _ _ _ _ _ _ _ _ _ _ _ _ _ _ _ _ _ _ _ _ _ _ _ _ _ _ _ _ _ _ _ _ _ _ _ _ _ _ _ _ _ _ _ _ _ _ _ _ _ _ _ _ _ _ _ _ _ _ _ _ _ _ _ _ _ _ _ _ _ _ _ _ _ _ _ _ _ _ _ _ _ _ _ _ _ _ _ _ _ _ _ _ _ _ _ _ _ _ _ _ _ _ _ _ _ _ _ _ _ _ _ _ _ _ _ _ _ _ _ _ _ _ _ _ _ _ _ _ _ _ _ _ _ _ _ _ _ _ _ _ _ _ _ _ _ _ _ _ _ ?_
  · exact fun _ _ _ _ _ h => h
  clear hB
  intro q0 q5 q6 q7 q8 q9 q10 q11 q12 q13 q14 q15 q29 q30 q31 q32 q33 q34 q35 q36 q37 q38 q39 q40 q41 q42 q43 q44 q45 q46 q47 q48 q49 q50 q51 q52 q53 q54 q55 q56 q57 q58 q59 q60 q61 q62 q63 q64 q65 q66 q67 q68 q69 q70 q71 q72 q73 q74 q75 q76 q77 q78 q79 q80 q81 q82 q83 q84 q85 q86 q87 q88 q89 q90 q91 q92 q93 q94 q95 q96 q97 q98 q99 q100 q101 q102 q103 q104 q105 q106 q107 q108 q109 q110 q111 q112 q113 q114 q115 q116 q117 q118 q119 q120 q121 q122 q123 q124 q125 q126 q127 q128 q129 q130 q131 q132 q133 q134 q135 q136 q137 q138 q139 q140 q141 q142 q143 q144 q145 q146 q147 q148 q149 q150 q151 q152 q153 q154 q155 q156 q157 q158 q159 q160 q161 q162 q163 q164 q165 q166 q167 q168 q169 q170 q171 q172 q173 q174 q175 q176 q177 q178 q179 q180 q181 q182 q183 q184 q185 q186 q187 q188 q189 q190 q191 q192 q193 q194 q195 q196 q197 q198 q199 q200 q201 q202 q203 q204 u12 hB
  obtain ⟨S, hS⟩ : ∃ S, S = bk (D.length / 64) F0 D := ⟨_, rfl⟩
  have hSl : S.length = 8 := by rw [hS]; exact bk_len _ _ rfl _
  rw [← hS] at hB hsum
  clear hS
  replace hB := hide hB
  go_upto_region 30 with fail
  replace hB := (unhide hB).new #[.int .u8 0, .int .u8 0, .int .u8 0, .int .u8 0, .int .u8 0, .int .u8 0, .int .u8 0, .int .u8 0, .int .u8 0, .int .u8 0, .int .u8 0, .int .u8 0, .int .u8 0, .int .u8 0, .int .u8 0, .int .u8 0, .int .u8 0, .int .u8 0, .int .u8 0, .int .u8 0, .int .u8 0, .int .u8 0, .int .u8 0, .int .u8 0, .int .u8 0, .int .u8 0, .int .u8 0, .int .u8 0, .int .u8 0, .int .u8 0, .int .u8 0, .int .u8 0] 28
  simp only [List.cons_append, List.nil_append] at hB
  generalize World.alloc _ _ = u13 at *
  generalize u12.heap.size = go at *
  replace hB : Bl w [⟨w.heap.size, kc Z32, 28⟩, ⟨gk, uc KL, 64⟩, ⟨gd, cur, 5⟩, ⟨gs, uc S, 67⟩, ⟨go, kc Z32, 28⟩] u13 := hB
  refine wp_region_lit ?_
  obtain ⟨SS, hSS⟩ : ∃ SS, SS = uc S := ⟨_, rfl⟩
  refine list_val (.agg SS) (by kernel_rfl) (by rw [hSS]; exact exec_arr _ 67 (.tmp 4) rfl gs (by kernel_rfl) (uc S) 67 _ (hB.get 3 (x := ⟨gs, uc S, 67⟩) rfl) Tryd.underlying67 rfl (by rw [Tryd.infoS, uc_size, hSl])) ?_
  simp only [Act.put, List.setIfInBounds_toArray, List.set_cons_zero, List.set_cons_succ, List.getElem_toArray, List.getElem_cons_zero, List.getElem_cons_succ]
  refine list_val (.int .i64 0) (by kernel_rfl) (by kernel_rfl) ?_
  simp only [Act.put, List.setIfInBounds_toArray, List.set_cons_zero, List.set_cons_succ, List.getElem_toArray, List.getElem_cons_zero, List.getElem_cons_succ]
  refine wpList_nil ?_
  replace hSS := hide hSS
  replace hB := hide hB
  go_wp2_with fail
  refine rkey_loop w S SS hSS hSl ⟨w.heap.size, kc Z32, 28⟩ ⟨gk, uc KL, 64⟩ ⟨gd, cur, 5⟩ ⟨gs, uc S, 67⟩ go _ _ (unhide hB) _ _ _ _ _ _ _ _ _ _ _ _ _ _ _ _ _ _ _ _ _ _ _ _ _ _ _ _ _ _ _ _ _ _ _ _ _ _ _ _ _ _ _ _ _ _ _ _ _ _ _ _ _ _ _ _ _ _ _ _ _ _ _ _ _ _ _ _ _ _ _ _ _ _ _ _ _ _ _ _ _ _ _ _ _ _ _ _ _ _ _ _ _ _ _ _ _ _ _ _ _ _ _ _ _ _ _ _ _ _ _ _ _ _ _ _ _ _ _ _ _ _ _ _ _ _ _ _ _ _ _ _ _ _ _ _ _ _ _ _ _ _ _ _ _ _ _ _ _ _ _ _ _ _ _ _ _ _ _ _ _ _ _ _ _ _ _ _ _ _ _ _ _ _ _ _ _ _ _ _ _ _ _ _ _ _ _ _ _ _ _ _ _ _ _ _ _ _ _ _ _ _ _ _ _ _ _ _ _ _ _ _ _ _ _ _ _ _ _ _ _ _ _ _ ?_
  clear hB hSS
  intro q17 q18 q19 q206 q207 q208 q209 q210 q211 q212 q213 q214 q215 q216 q217 q218 q219 q220 q221 q222 q223 q224 q225 u14 hB
  obtain ⟨M, hM⟩ : ∃ M, M = keyL S := ⟨_, rfl⟩
  have hMl : M.length = 32 := by rw [hM]; exact keyL_len _
  rw [← hM] at hB hsum
  clear hM
  replace hB := hide hB
  go_upto_region 39 with fail
  replace hB := unhide hB
  refine wp_region_lit ?_
  refine list_val (.agg (kc M)) (by kernel_rfl) (exec_arr _ 28 (.tmp 16) rfl go (by kernel_rfl) (kc M) 28 _ (hB.get 4 (x := ⟨go, kc M, 28⟩) rfl) Tryd.underlying28 rfl (by rw [Tryd.infoKey, kc_size, hMl])) ?_
  simp only [Act.put, List.setIfInBounds_toArray, List.set_cons_zero, List.set_cons_succ, List.getElem_toArray, List.getElem_cons_zero, List.getElem_cons_succ]
  refine list_store 28 (.tmp 2) (.tmp 226) w.heap.size (kc M) 28 (kc Z32) (by kernel_rfl) rfl (by kernel_rfl) (by kernel_rfl) (hB.get 0 (x := ⟨w.heap.size, kc Z32, 28⟩) rfl) (by rw [Tryd.infoKey, kc_size, hMl]) ((show (kc Z32).size = 32 from rfl).trans ((kc_size _).trans hMl).symm) (kc_one _) ?_
  replace hB := hB.set 0 (x := ⟨w.heap.size, kc Z32, 28⟩) rfl (kc M)
  simp only [List.set_cons_zero, List.set_cons_succ] at hB
  generalize World.setRow _ _ _ = u15 at *
  simp only [Act.put, List.setIfInBounds_toArray, List.set_cons_zero, List.set_cons_succ, List.getElem_toArray, List.getElem_cons_zero, List.getElem_cons_succ]
  refine wpList_nil ?_
  go_wp2_with fail
  rw [unhide hT]
  exact bodyPost_ret (v := .agg (kc M)) (results_cell_row Tryd.results27 _ _ w.heap.size 28 (kc M) (0, 0) _ rfl (hB.get 0 (x := ⟨w.heap.size, kc M, 28⟩) rfl) Tryd.underlying28 rfl (by rw [Tryd.infoKey, kc_size, hMl])) rfl ⟨by rw [unhide hsum], hB.gr⟩
end Go.Proofs.YthnmebhljkccnaaDoor
