/-
  The reference: block by block.
-/
import Derived.Test.YthnmebhljkccnaaDoorShaRadds
namespace Go.Proofs.YthnmebhljkccnaaDoor
open Go.RowKit
set_option maxRecDepth 1000000
set_option linter.unusedSimpArgs false
set_option linter.unusedVariables false

theorem Bl.left {w v : World} {L M : List Blk} (h : Bl w (L ++ M) v) : Bl w L v := ⟨h.gr, fun x hx => h.at_ x (List.mem_append_left _ hx), (List.pairwise_append.1 h.ne).1⟩
theorem cur_at {w : World} {gd : Nat} {cur : Array Value} {D : List Int} (h : w.heap[gd]? = some (.cells cur 5 (0, 0))) (hc : cur.toList.take D.length = D.map (Value.int .u8)) : At w gd 0 D := by
  intro j hj
  rw [Nat.zero_add]
  refine cell_of h ?_
  rw [← Array.getElem?_toList]
  have e : (D.map (Value.int .u8))[j]? = some (.int .u8 (D.getD j 0)) := by simp [hj]
  rw [← hc, List.getElem?_take, if_pos hj] at e
  exact e
set_option maxHeartbeats 2000000 in
theorem router_loop (w : World) (D : List Int) (hD : IsB D) (N : Nat) (hN : D.length = 64 * N) (cap : Nat) (hcap : D.length ≤ cap) (hcb : cap < 9223372036854775808) (cur : Array Value) (hcur : cur.toList.take D.length = D.map (Value.int .u8)) (b0 : Blk) (gk gd gs : Nat) (Q : Exit → Act → World → Prop) (hpan : ∀ c t t' d w, Q (.panic c) ⟨t, d⟩ w → Q (.panic c) ⟨t', d⟩ w) (v : World)
    (hB : Bl w [b0, ⟨gk, uc KL, 64⟩, ⟨gd, cur, 5⟩, ⟨gs, uc F0, 67⟩] v) (c1 c2 c5 c6 c7 c8 c9 c10 c11 c12 c13 c14 c15 c16 c17 c18 c19 c20 c21 c22 c23 c24 c25 c26 c27 c28 c29 c30 c31 c32 c33 c34 c35 c36 c37 c38 c39 c40 c41 c42 c43 c44 c45 c46 c47 c48 c49 c50 c51 c52 c53 c54 c55 c56 c57 c58 c59 c60 c61 c62 c63 c64 c65 c66 c67 c68 c69 c70 c71 c72 c73 c74 c75 c76 c77 c78 c79 c80 c81 c82 c83 c84 c85 c86 c87 c88 c89 c90 c91 c92 c93 c94 c95 c96 c97 c98 c99 c100 c101 c102 c103 c104 c105 c106 c107 c108 c109 c110 c111 c112 c113 c114 c115 c116 c117 c118 c119 c120 c121 c122 c123 c124 c125 c126 c127 c128 c129 c130 c131 c132 c133 c134 c135 c136 c137 c138 c139 c140 c141 c142 c143 c144 c145 c146 c147 c148 c149 c150 c151 c152 c153 c154 c155 c156 c157 c158 c159 c160 c161 c162 c163 c164 c165 c166 c167 c168 c169 c170 c171 c172 c173 c174 c175 c176 c177 c178 c179 c180 c181 c182 c183 c184 c185 c186 c187 c188 c189 c190 c191 c192 c193 c194 c195 c196 c197 c198 c199 c200 c201 c202 c203 c204 c205 c206 c207 c208 c209 c210 c211 c212 c213 c214 c215 c216 c217 c218 c219 c220 c221 c222 c223 c224 c225 c226 : Value)
    (hQ : ∀ (u0 u5 u6 u7 u8 u9 u10 u11 u12 u13 u14 u15 u29 u30 u31 u32 u33 u34 u35 u36 u37 u38 u39 u40 u41 u42 u43 u44 u45 u46 u47 u48 u49 u50 u51 u52 u53 u54 u55 u56 u57 u58 u59 u60 u61 u62 u63 u64 u65 u66 u67 u68 u69 u70 u71 u72 u73 u74 u75 u76 u77 u78 u79 u80 u81 u82 u83 u84 u85 u86 u87 u88 u89 u90 u91 u92 u93 u94 u95 u96 u97 u98 u99 u100 u101 u102 u103 u104 u105 u106 u107 u108 u109 u110 u111 u112 u113 u114 u115 u116 u117 u118 u119 u120 u121 u122 u123 u124 u125 u126 u127 u128 u129 u130 u131 u132 u133 u134 u135 u136 u137 u138 u139 u140 u141 u142 u143 u144 u145 u146 u147 u148 u149 u150 u151 u152 u153 u154 u155 u156 u157 u158 u159 u160 u161 u162 u163 u164 u165 u166 u167 u168 u169 u170 u171 u172 u173 u174 u175 u176 u177 u178 u179 u180 u181 u182 u183 u184 u185 u186 u187 u188 u189 u190 u191 u192 u193 u194 u195 u196 u197 u198 u199 u200 u201 u202 u203 u204 : Value) (v' : World), Bl w [b0, ⟨gk, uc KL, 64⟩, ⟨gd, cur, 5⟩, ⟨gs, uc (bk N F0 D), 67⟩] v' → Q (.exit 0) ⟨#[u0, c1, c2, .pointer (some ⟨gk, 0, none⟩), .pointer (some ⟨gs, 0, none⟩), u5, u6, u7, u8, u9, u10, u11, u12, u13, u14, u15, c16, c17, c18, c19, c20, c21, c22, c23, c24, c25, c26, c27, c28, u29, u30, u31, u32, u33, u34, u35, u36, u37, u38, u39, u40, u41, u42, u43, u44, u45, u46, u47, u48, u49, u50, u51, u52, u53, u54, u55, u56, u57, u58, u59, u60, u61, u62, u63, u64, u65, u66, u67, u68, u69, u70, u71, u72, u73, u74, u75, u76, u77, u78, u79, u80, u81, u82, u83, u84, u85, u86, u87, u88, u89, u90, u91, u92, u93, u94, u95, u96, u97, u98, u99, u100, u101, u102, u103, u104, u105, u106, u107, u108, u109, u110, u111, u112, u113, u114, u115, u116, u117, u118, u119, u120, u121, u122, u123, u124, u125, u126, u127, u128, u129, u130, u131, u132, u133, u134, u135, u136, u137, u138, u139, u140, u141, u142, u143, u144, u145, u146, u147, u148, u149, u150, u151, u152, u153, u154, u155, u156, u157, u158, u159, u160, u161, u162, u163, u164, u165, u166, u167, u168, u169, u170, u171, u172, u173, u174, u175, u176, u177, u178, u179, u180, u181, u182, u183, u184, u185, u186, u187, u188, u189, u190, u191, u192, u193, u194, u195, u196, u197, u198, u199, u200, u201, u202, u203, u204, c205, c206, c207, c208, c209, c210, c211, c212, c213, c214, c215, c216, c217, c218, c219, c220, c221, c222, c223, c224, c225, c226], []⟩ v') :
    Code.wp Tryd.prog (.loop (lp 0)) Q ⟨#[.slice (some ⟨gd, 0, none⟩) D.length cap, c1, c2, .pointer (some ⟨gk, 0, none⟩), .pointer (some ⟨gs, 0, none⟩), c5, c6, c7, c8, c9, c10, c11, c12, c13, c14, c15, c16, c17, c18, c19, c20, c21, c22, c23, c24, c25, c26, c27, c28, c29, c30, c31, c32, c33, c34, c35, c36, c37, c38, c39, c40, c41, c42, c43, c44, c45, c46, c47, c48, c49, c50, c51, c52, c53, c54, c55, c56, c57, c58, c59, c60, c61, c62, c63, c64, c65, c66, c67, c68, c69, c70, c71, c72, c73, c74, c75, c76, c77, c78, c79, c80, c81, c82, c83, c84, c85, c86, c87, c88, c89, c90, c91, c92, c93, c94, c95, c96, c97, c98, c99, c100, c101, c102, c103, c104, c105, c106, c107, c108, c109, c110, c111, c112, c113, c114, c115, c116, c117, c118, c119, c120, c121, c122, c123, c124, c125, c126, c127, c128, c129, c130, c131, c132, c133, c134, c135, c136, c137, c138, c139, c140, c141, c142, c143, c144, c145, c146, c147, c148, c149, c150, c151, c152, c153, c154, c155, c156, c157, c158, c159, c160, c161, c162, c163, c164, c165, c166, c167, c168, c169, c170, c171, c172, c173, c174, c175, c176, c177, c178, c179, c180, c181, c182, c183, c184, c185, c186, c187, c188, c189, c190, c191, c192, c193, c194, c195, c196, c197, c198, c199, c200, c201, c202, c203, c204, c205, c206, c207, c208, c209, c210, c211, c212, c213, c214, c215, c216, c217, c218, c219, c220, c221, c222, c223, c224, c225, c226], []⟩ v := by
  conv => arg 2; arg 1; whnf
  dsimp only
  dsimp only at hQ
  replace hB : Hid (Bl w [b0, ⟨gk, uc KL, 64⟩, ⟨gd, cur, 5⟩, ⟨gs, uc (bk 0 F0 D), 67⟩] v) := hB
  replace hQ := hide hQ
  replace hD := hide hD
  replace hcur := hide hcur
  go_loopw [0] (fun x wr => ∃ (j len c : Nat) (a : Option Addr) (S : List Int), x = .slice a len c ∧ len + 64 * j = 64 * N ∧ len ≤ c ∧ c < 9223372036854775808 ∧ Hid (0 < len → a = some ⟨gd, 64 * j, none⟩) ∧ Hid (S = bk j F0 D) ∧ Hid (Bl w [b0, ⟨gk, uc KL, 64⟩, ⟨gd, cur, 5⟩, ⟨gs, uc S, 67⟩] wr)) (fun x _ => slenV x)
  case atStart => exact ⟨0, D.length, cap, _, bk 0 F0 D, rfl, by omega, hcap, hcb, fun _ => rfl, rfl, hB⟩
  case round =>
  clear hB
  obtain ⟨j, len, c, a, S, rfl, hlen, hc1, hc2, ha, hS, hB⟩ := hrel
  by_cases hil : 0 < len
  · obtain rfl := (unhide ha) hil
    clear ha
    have lI : 0 < (len : Int) := by omega
    have l64 : 64 ≤ len := by omega
    have hSl : S.length = 8 := by rw [unhide hS]; exact bk_len _ _ rfl _
    go_upto_region 7 with fail
    replace hB := (unhide hB).new #[.int .u32 0, .int .u32 0, .int .u32 0, .int .u32 0, .int .u32 0, .int .u32 0, .int .u32 0, .int .u32 0, .int .u32 0, .int .u32 0, .int .u32 0, .int .u32 0, .int .u32 0, .int .u32 0, .int .u32 0, .int .u32 0, .int .u32 0, .int .u32 0, .int .u32 0, .int .u32 0, .int .u32 0, .int .u32 0, .int .u32 0, .int .u32 0, .int .u32 0, .int .u32 0, .int .u32 0, .int .u32 0, .int .u32 0, .int .u32 0, .int .u32 0, .int .u32 0, .int .u32 0, .int .u32 0, .int .u32 0, .int .u32 0, .int .u32 0, .int .u32 0, .int .u32 0, .int .u32 0, .int .u32 0, .int .u32 0, .int .u32 0, .int .u32 0, .int .u32 0, .int .u32 0, .int .u32 0, .int .u32 0, .int .u32 0, .int .u32 0, .int .u32 0, .int .u32 0, .int .u32 0, .int .u32 0, .int .u32 0, .int .u32 0, .int .u32 0, .int .u32 0, .int .u32 0, .int .u32 0, .int .u32 0, .int .u32 0, .int .u32 0, .int .u32 0] 64
    simp only [List.cons_append, List.nil_append] at hB
    generalize World.alloc _ _ = v1 at *
    generalize wr.heap.size = gw at *
    replace hB : Hid (Bl w [b0, ⟨gk, uc KL, 64⟩, ⟨gd, cur, 5⟩, ⟨gs, uc S, 67⟩, ⟨gw, uc Z64, 64⟩] v1) := hB
    go_wp2_with fail
    have hB5 : IsB ((D.drop (64 * j)).take 64) := isB_take (isB_drop (unhide hD) _) _
    have hl5 : ((D.drop (64 * j)).take 64).length = 64 := by rw [List.length_take, List.length_drop]; omega
    have hAt : ∀ m v, Bl w [b0, ⟨gk, uc KL, 64⟩, ⟨gd, cur, 5⟩, ⟨gs, uc S, 67⟩, ⟨gw, uc m, 64⟩] v → At v gd (64 * j) ((D.drop (64 * j)).take 64) := by
      intro m v h
      have h1 := (cur_at (h.get 2 (x := ⟨gd, cur, 5⟩) rfl) (unhide hcur)).drop (64 * j)
      rw [Nat.zero_add] at h1
      exact h1.take 64
    refine rwords_loop w ((D.drop (64 * j)).take 64) hB5 hl5 gd (64 * j) len c l64 b0 ⟨gk, uc KL, 64⟩ ⟨gd, cur, 5⟩ ⟨gs, uc S, 67⟩ gw hAt _ ?_ _ (unhide hB) _ _ _ _ _ _ _ _ _ _ _ _ _ _ _ _ _ _ _ _ _ _ _ _ _ _ _ _ _ _ _ _ _ _ _ _ _ _ _ _ _ _ _ _ _ _ _ _ _ _ _ _ _ _ _ _ _ _ _ _ _ _ _ _ _ _ _ _ _ _ _ _ _ _ _ _ _ _ _ _ _ _ _ _ _ _ _ _ _ _ _ _ _ _ _ _ _ _ _ _ _ _ _ _ _ _ _ _ _ _ _ _ _ _ _ _ _ _ _ _ _ _ _ _ _ _ _ _ _ _ _ _ _ _ _ _ _ _ _ _ _ _ _ _ _ _ _ _ _ _ _ _ _ _ _ _ _ _ _ _ _ _ _ _ _ _ _ _ _ _ _ _ _ _ _ _ _ _ _ _ _ _ _ _ _ _ _ _ _ _ _ _ _ _ _ _ _ _ _ _ _ _ _ _ _ _ _ _ _ _ _ _ _ _ _ _ _ _ _ _ _ _ _ _ ?_
    · exact fun c_ a_ a2_ d_ w_ h => hpan c_ a_ a2_ d_ w_ h
    clear hB hAt
    intro q6 q7 q8 q34 q35 q36 q37 q38 q39 q40 q41 q42 q43 q44 q45 q46 q47 q48 q49 q50 q51 q52 q53 q54 q55 q56 q57 q58 q59 q60 q61 q62 q63 q64 q65 q66 q67 q68 q69 q70 q71 q72 q73 q74 q75 q76 q77 q78 q79 q80 q81 q82 q83 q84 q85 q86 q87 q88 q89 q90 q91 q92 q93 q94 q95 q96 q97 q98 q99 q100 q101 q102 q103 q104 q105 q106 q107 q108 q109 q110 q111 v2 hB
    obtain ⟨X, hX⟩ : ∃ X, X = wds ((D.drop (64 * j)).take 64) := ⟨_, rfl⟩
    have hXl : X.length = 64 := by rw [hX]; exact wds_len _
    rw [← hX] at hB
    replace hX := hide hX
    replace hB := hide hB
    clear hB5 hl5
    go_upto_region 15 with fail
    replace hB := unhide hB
    refine wp_region_lit ?_
    refine list_val (.agg (uc S)) (by kernel_rfl) (exec_arr _ 67 (.tmp 4) rfl gs (by kernel_rfl) (uc S) 67 _ (hB.get 3 (x := ⟨gs, uc S, 67⟩) rfl) Tryd.underlying67 rfl (by rw [Tryd.infoS, uc_size, hSl])) ?_
    simp only [Act.put, List.setIfInBounds_toArray, List.set_cons_zero, List.set_cons_succ, List.getElem_toArray, List.getElem_cons_zero, List.getElem_cons_succ]
    iterate 1 (refine wpList_step fun K hK => ?_; replace hK := hide hK; go_simp; refine unhide hK _ _ ?_; clear hK K)
    replace hB := hB.new #[.int .u32 0, .int .u32 0, .int .u32 0, .int .u32 0, .int .u32 0, .int .u32 0, .int .u32 0, .int .u32 0] 67
    simp only [List.cons_append, List.nil_append] at hB
    generalize World.alloc _ _ = v3 at *
    generalize v2.heap.size = gt at *
    replace hB : Bl w [b0, ⟨gk, uc KL, 64⟩, ⟨gd, cur, 5⟩, ⟨gs, uc S, 67⟩, ⟨gw, uc X, 64⟩, ⟨gt, uc Z8, 67⟩] v3 := hB
    refine list_store 67 (.tmp 9) (.tmp 112) gt (uc S) 67 (uc Z8) (by kernel_rfl) rfl (by kernel_rfl) (by kernel_rfl) (hB.get 5 (x := ⟨gt, uc Z8, 67⟩) rfl) (by rw [Tryd.infoS, uc_size, hSl]) (by rw [uc_size, uc_size, hSl]; rfl) (uc_one _) ?_
    replace hB := hB.set 5 (x := ⟨gt, uc Z8, 67⟩) rfl (uc S)
    simp only [List.set_cons_zero, List.set_cons_succ] at hB
    generalize World.setRow _ _ _ = v4 at *
    simp only [Act.put, List.setIfInBounds_toArray, List.set_cons_zero, List.set_cons_succ, List.getElem_toArray, List.getElem_cons_zero, List.getElem_cons_succ]
    refine wpList_nil ?_
    have hB4 : Hid (Bl w [b0, ⟨gk, uc KL, 64⟩, ⟨gd, cur, 5⟩, ⟨gs, uc S, 67⟩, ⟨gw, uc X, 64⟩, ⟨gt, uc (stl (St.of S)), 67⟩] v4) := by rw [stl_of S hSl]; exact hB
    clear hB
    go_wp2_with fail
    refine rsteps_loop w (St.of S) X KL hXl KL_len b0 ⟨gd, cur, 5⟩ ⟨gs, uc S, 67⟩ gk gw gt _ ?_ _ (unhide hB4) _ _ _ _ _ _ _ _ _ _ _ _ _ _ _ _ _ _ _ _ _ _ _ _ _ _ _ _ _ _ _ _ _ _ _ _ _ _ _ _ _ _ _ _ _ _ _ _ _ _ _ _ _ _ _ _ _ _ _ _ _ _ _ _ _ _ _ _ _ _ _ _ _ _ _ _ _ _ _ _ _ _ _ _ _ _ _ _ _ _ _ _ _ _ _ _ _ _ _ _ _ _ _ _ _ _ _ _ _ _ _ _ _ _ _ _ _ _ _ _ _ _ _ _ _ _ _ _ _ _ _ _ _ _ _ _ _ _ _ _ _ _ _ _ _ _ _ _ _ _ _ _ _ _ _ _ _ _ _ _ _ _ _ _ _ _ _ _ _ _ _ _ _ _ _ _ _ _ _ _ _ _ _ _ _ _ _ _ _ _ _ _ _ _ _ _ _ _ _ _ _ _ _ _ _ _ _ _ _ _ _ _ _ _ _ _ _ _ _ _ _ _ _ ?_
    · exact fun c_ a_ a2_ d_ w_ h => hpan c_ a_ a2_ d_ w_ h
    clear hB4
    intro q10 q11 q12 q13 q14 q113 q114 q115 q116 q117 q118 q119 q120 q121 q122 q123 q124 q125 q126 q127 q128 q129 q130 q131 q132 q133 q134 q135 q136 q137 q138 q139 q140 q141 q142 q143 q144 q145 q146 q147 q148 q149 q150 q151 q152 q153 q154 q155 q156 q157 q158 q159 q160 q161 q162 q163 q164 q165 q166 q167 q168 q169 q170 q171 q172 q173 q174 q175 q176 q177 q178 q179 q180 q181 q182 q183 q184 q185 q186 q187 q188 q189 q190 q191 q192 v5 hB
    obtain ⟨Y, hY⟩ : ∃ Y, Y = stl (rnds (St.of S) X KL 64) := ⟨_, rfl⟩
    have hYl : Y.length = 8 := by rw [hY]; rfl
    rw [← hY] at hB
    replace hY := hide hY
    replace hB := hide hB
    go_wp2_with fail
    refine radds_loop w S Y hSl hYl b0 ⟨gk, uc KL, 64⟩ ⟨gd, cur, 5⟩ ⟨gw, uc X, 64⟩ gs gt _ _ (unhide hB) _ _ _ _ _ _ _ _ _ _ _ _ _ _ _ _ _ _ _ _ _ _ _ _ _ _ _ _ _ _ _ _ _ _ _ _ _ _ _ _ _ _ _ _ _ _ _ _ _ _ _ _ _ _ _ _ _ _ _ _ _ _ _ _ _ _ _ _ _ _ _ _ _ _ _ _ _ _ _ _ _ _ _ _ _ _ _ _ _ _ _ _ _ _ _ _ _ _ _ _ _ _ _ _ _ _ _ _ _ _ _ _ _ _ _ _ _ _ _ _ _ _ _ _ _ _ _ _ _ _ _ _ _ _ _ _ _ _ _ _ _ _ _ _ _ _ _ _ _ _ _ _ _ _ _ _ _ _ _ _ _ _ _ _ _ _ _ _ _ _ _ _ _ _ _ _ _ _ _ _ _ _ _ _ _ _ _ _ _ _ _ _ _ _ _ _ _ _ _ _ _ _ _ _ _ _ _ _ _ _ _ _ _ _ _ _ _ _ _ _ _ _ _ _ ?_
    clear hB
    intro q15 q193 q194 q195 q196 q197 q198 q199 q200 q201 q202 q203 q204 v6 hB
    have hnx : Hid (SA S Y 8 = bk (j + 1) F0 D) := by
      rw [unhide hY, SA_all S X KL hSl, unhide hX, unhide hS]
      exact rfl
    obtain ⟨S2, hS2⟩ : ∃ S2, S2 = SA S Y 8 := ⟨_, rfl⟩
    rw [← hS2] at hB hnx
    clear hS2 hY hX hS
    have hB7 : Hid (Bl w [b0, ⟨gk, uc KL, 64⟩, ⟨gd, cur, 5⟩, ⟨gs, uc S2, 67⟩] v6) := Bl.left (L := [b0, ⟨gk, uc KL, 64⟩, ⟨gd, cur, 5⟩, ⟨gs, uc S2, 67⟩]) (M := [⟨gw, uc X, 64⟩, ⟨gt, uc Y, 67⟩]) hB
    clear hB
    have e1 : (64 : Int) ≤ (c : Int) := by omega
    have e2 : 64 ≤ c := by omega
    have lJ : (64 : Int) ≤ (len : Int) := by omega
    go_wp2_with fail
    refine ⟨⟨j + 1, len - 64, c - 64, _, S2, by congr 1, by omega, by omega, by omega, ?_, hnx, hB7⟩, ?_⟩
    · intro h
      rw [if_neg (by omega)]
      congr 1
    · show len - 64 < len
      omega
  · have e : len = 0 := by omega
    have eN : j = N := by omega
    subst e eN
    have hB3 : Hid (Bl w [b0, ⟨gk, uc KL, 64⟩, ⟨gd, cur, 5⟩, ⟨gs, uc (bk j F0 D), 67⟩] wr) := by rw [← unhide hS]; exact hB
    clear hB hS hil ha
    go_wp2_with fail
    exact (unhide hQ) _ _ _ _ _ _ _ _ _ _ _ _ _ _ _ _ _ _ _ _ _ _ _ _ _ _ _ _ _ _ _ _ _ _ _ _ _ _ _ _ _ _ _ _ _ _ _ _ _ _ _ _ _ _ _ _ _ _ _ _ _ _ _ _ _ _ _ _ _ _ _ _ _ _ _ _ _ _ _ _ _ _ _ _ _ _ _ _ _ _ _ _ _ _ _ _ _ _ _ _ _ _ _ _ _ _ _ _ _ _ _ _ _ _ _ _ _ _ _ _ _ _ _ _ _ _ _ _ _ _ _ _ _ _ _ _ _ _ _ _ _ _ _ _ _ _ _ _ _ _ _ _ _ _ _ _ _ _ _ _ _ _ _ _ _ _ _ _ _ _ _ _ _ _ _ _ _ _ _ _ _ _ _ _ _ _ _ _ _ (unhide hB3)
end Go.Proofs.YthnmebhljkccnaaDoor
