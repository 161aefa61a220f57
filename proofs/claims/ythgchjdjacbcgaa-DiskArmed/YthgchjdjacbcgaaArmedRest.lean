/-
  An armed disk does as one that is not: one op.
-/
import Derived.Test.YthgchjdjacbcgaaArmedOn
namespace Go.Proofs.Ythgchjdjacbcgaa
open Go.RowKit
set_option maxRecDepth 100000
set_option linter.unusedSimpArgs false
set_option linter.unusedVariables false
set_option maxHeartbeats 4000000 in
theorem armed_rest (w : World) (nn : Nat) (hn40 : nn < 40) (B : Dk) (j : Nat) (hj : j < 120) (F G : List Nat) (ga gb go : Nat) (q : Opl) (ka : Option Addr) (kn kp kk : Nat) (hsix : Six B) (hBk : B.Ok j) (hAk : (arm B nn).Ok j) (hnB : B.ops ≤ nn) (hqo : q.Ok) (hkk : kk = q.k) (hk3 : ¬ 2 < kk) (v : World) (hS : Ds w [(F, ga, arm B nn), (G, gb, B)] v) (hkp : Kp w ka kn kp q.keep) (hoF : go ∉ F)
    (hO : v.heap[go]? = some (.cells (opv q ka kn kp) 37 (0, 0))) (Q : Exit → Act → World → Prop) (hc : ¬ (B.ops = nn ∧ 0 < kk ∧ (kk = 2 ∨ (0 ≤ q.at_ ∧ q.at_ < 6)))) (c0 c2 c3 c4 c8 c11 c12 c13 c14 c15 c16 c17 c18 c19 c20 c21 c22 c23 c24 c25 c26 c27 c28 c29 c30 c31 c32 c33 c34 c35 c36 c37 c38 c39 c40 c41 c42 c43 c44 c45 c46 c47 c48 c49 c50 c51 c52 c53 c54 c55 c56 c57 c58 c59 c60 c61 c62 c63 c64 c65 c66 c67 c68 c69 c70 c71 c72 c73 c74 c75 c76 c77 c78 c79 c80 c81 c82 c83 c84 c85 c86 c87 c88 c89 c90 c91 c92 c93 c94 c95 c96 c97 c98 c99 c100 c101 c102 c103 c104 c105 c106 c107 c108 c109 c110 c111 c112 c113 c114 c115 c116 c117 c118 c119 c120 c121 c122 c123 c124 c125 c126 c127 c128 c129 c130 c131 c132 c133 c134 c135 c136 c137 c138 c139 c140 c141 c142 c143 c144 c145 c146 c147 c148 c149 c150 c151 c152 c153 c154 c155 c156 c157 c158 c159 c160 c161 c162 c163 c164 c165 c166 c167 c168 c169 c170 c171 c172 c173 c174 c175 c176 c177 c178 c179 : Value)
    (hQ : ∀ (E : Dk) (F1 G1 : List Nat) (w' : World), Six E → E.Ok (j + 1) → E.ops ≤ nn → Ds w [(F1, ga, arm E nn), (G1, gb, E)] w' → ∀ (u4 u18 u19 u20 u21 u137 u138 u139 u140 u141 u142 u143 u144 u145 u146 u147 u148 u149 u150 u151 u152 u153 u154 u155 u156 u157 u158 u159 u160 u161 u162 u163 u164 u165 u166 : Value), Q .normal ⟨#[c0, .int .i64 (nn : Int), c2, c3, u4, .pointer (some ⟨ga, 0, none⟩), .pointer (some ⟨gb, 0, none⟩), .int .i64 (E.ops : Int), c8, .pointer (some ⟨go, 0, none⟩), .int .i64 (B.ops : Int), c11, c12, c13, c14, c15, c16, c17, u18, u19, u20, u21, c22, c23, c24, c25, c26, c27, c28, c29, c30, c31, c32, c33, c34, c35, c36, c37, c38, c39, c40, c41, c42, c43, c44, c45, c46, c47, c48, c49, c50, c51, c52, c53, c54, c55, c56, c57, c58, c59, c60, c61, c62, c63, c64, c65, c66, c67, c68, c69, c70, c71, c72, c73, c74, c75, c76, c77, c78, c79, c80, c81, c82, c83, c84, c85, c86, c87, c88, c89, c90, c91, c92, c93, c94, c95, c96, c97, c98, c99, c100, c101, c102, c103, c104, c105, c106, c107, c108, c109, c110, c111, c112, c113, c114, c115, c116, c117, c118, c119, c120, c121, c122, c123, c124, c125, c126, c127, c128, c129, c130, c131, c132, c133, c134, c135, c136, u137, u138, u139, u140, u141, u142, u143, u144, u145, u146, u147, u148, u149, u150, u151, u152, u153, u154, u155, u156, u157, u158, u159, u160, u161, u162, u163, u164, u165, u166, c167, c168, c169, c170, c171, c172, c173, c174, c175, c176, c177, c178, c179], []⟩ w') :
    Code.wp Try.prog restCode Q ⟨#[c0, .int .i64 (nn : Int), c2, c3, c4, .pointer (some ⟨ga, 0, none⟩), .pointer (some ⟨gb, 0, none⟩), .int .i64 (B.ops : Int), c8, .pointer (some ⟨go, 0, none⟩), .int .i64 (B.ops : Int), c11, c12, c13, c14, c15, c16, c17, c18, c19, c20, c21, c22, c23, c24, c25, c26, c27, c28, c29, c30, c31, c32, c33, c34, c35, c36, c37, c38, c39, c40, c41, c42, c43, c44, c45, c46, c47, c48, c49, c50, c51, c52, c53, c54, c55, c56, c57, c58, c59, c60, c61, c62, c63, c64, c65, c66, c67, c68, c69, c70, c71, c72, c73, c74, c75, c76, c77, c78, c79, c80, c81, c82, c83, c84, c85, c86, c87, c88, c89, c90, c91, c92, c93, c94, c95, c96, c97, c98, c99, c100, c101, c102, c103, c104, c105, c106, c107, c108, c109, c110, c111, c112, c113, c114, c115, c116, c117, c118, c119, c120, c121, c122, c123, c124, c125, c126, c127, c128, c129, c130, c131, c132, c133, c134, c135, c136, c137, c138, c139, c140, c141, c142, c143, c144, c145, c146, c147, c148, c149, c150, c151, c152, c153, c154, c155, c156, c157, c158, c159, c160, c161, c162, c163, c164, c165, c166, c167, c168, c169, c170, c171, c172, c173, c174, c175, c176, c177, c178, c179], []⟩ v := by
  conv => arg 2; whnf
  dsimp only
  have hDq := hAk.op q hqo
  replace hsix := hide hsix; replace hBk := hide hBk; replace hAk := hide hAk; replace hqo := hide hqo; replace hkk := hide hkk; replace hS := hide hS; replace hkp := hide hkp; replace hO := hide hO; replace hQ := hide hQ; replace hc := hide hc
  have hop := arm_op (unhide hsix) hnB q (by rw [← unhide hkk]; omega) (by rw [← unhide hkk]; exact unhide hc)
  have hdd := hop.2.2.2.2
  rw [hop.1] at hDq hdd
  have hB6 := six_op (unhide hsix) q (by rw [← unhide hkk]; omega)
  have hBq := (unhide hBk).op q (unhide hqo)
  have hnq := hop.2.2.2.1
  have hdq : (B.opD q).ops ≤ 1000 := by omega
  obtain ⟨E, hE⟩ : ∃ E, E = B.opD q := ⟨_, rfl⟩
  rw [← hE] at hop hDq hdd hB6 hBq hnq hdq
  replace hop := hide hop; replace hDq := hide hDq; replace hdd := hide hdd; replace hB6 := hide hB6; replace hBq := hide hBq; replace hE := hide hE
  clear hc
  go_upto_region 28 with fail
  refine wp_region_lit ?_
  refine list_val (.pointer (some ⟨ga, 0, none⟩)) (by kernel_rfl) (by kernel_rfl) ?_
  simp only [Act.put, List.setIfInBounds_toArray, List.set_cons_zero, List.set_cons_succ, List.getElem_toArray, List.getElem_cons_zero, List.getElem_cons_succ]
  refine list_val (.agg (opv q ka kn kp)) (by kernel_rfl) (exec_arr _ 37 (.tmp 9) rfl go (by kernel_rfl) (opv q ka kn kp) 37 _ (unhide hO) Try.underlying37 rfl (by rw [Try.infoO]; rfl)) ?_
  simp only [Act.put, List.setIfInBounds_toArray, List.set_cons_zero, List.set_cons_succ, List.getElem_toArray, List.getElem_cons_zero, List.getElem_cons_succ]
  refine list_call 13 #[.pointer (some ⟨ga, 0, none⟩), .agg (opv q ka kn kp)] (by kernel_rfl) (by kernel_rfl) ((does_ok F ga j (arm B nn) (unhide hAk) (by omega) q (unhide hqo) ka kn kp _ ((unhide hS).at_ (n := 0) rfl) ((unhide hkp).gr (unhide hS).gr)).mono ?_)
  rintro r y1 ⟨F1, rfl, hL1, hch⟩
  refine ⟨_, rfl, ?_⟩
  rw [(unhide hop).1] at hL1
  rw [(unhide hop).2.1, (unhide hop).2.2.1]
  have hO1 := hide (hch.blk (unhide hO) hoF)
  replace hS := hide (show Ds w [(F1, ga, arm E nn), (G, gb, B)] y1 from (unhide hS).chg (n := 0) rfl hch hL1)
  have hbb := Dk.opB_bb (unhide hBk) q
  obtain ⟨b, hb⟩ : ∃ b, b = B.opB q := ⟨_, rfl⟩
  obtain ⟨e, he⟩ : ∃ e, e = B.opE q := ⟨_, rfl⟩
  rw [← hb, ← he]
  rw [← hb] at hbb
  have hbl := hbb.1
  replace hb := hide hb; replace he := hide he
  clear hch hL1 hbb hO hoF
  have hO := hO1
  clear hO1
  have hB := Bl.nil y1
  simp only [Act.put, List.setIfInBounds_toArray, List.set_cons_zero, List.set_cons_succ, List.getElem_toArray, List.getElem_cons_zero, List.getElem_cons_succ]
  refine list_val (.tuple #[.agg (kc b), .int .i64 e]) (by kernel_rfl) (by kernel_rfl) ?_
  simp only [Act.put, List.setIfInBounds_toArray, List.set_cons_zero, List.set_cons_succ, List.getElem_toArray, List.getElem_cons_zero, List.getElem_cons_succ]
  refine list_val (.agg (kc b)) (by kernel_rfl) (by kernel_rfl) ?_
  simp only [Act.put, List.setIfInBounds_toArray, List.set_cons_zero, List.set_cons_succ, List.getElem_toArray, List.getElem_cons_zero, List.getElem_cons_succ]
  refine list_val (.int .i64 e) (by kernel_rfl) (by kernel_rfl) ?_
  simp only [Act.put, List.setIfInBounds_toArray, List.set_cons_zero, List.set_cons_succ, List.getElem_toArray, List.getElem_cons_zero, List.getElem_cons_succ]
  refine list_valw (.pointer (some ⟨y1.heap.size, 0, none⟩)) (y1.alloc (.cells (kc ZB) 39 (0, 0))) (by kernel_rfl) (by kernel_rfl) ?_
  replace hB := hB.new (kc ZB) 39
  simp only [List.nil_append, List.cons_append] at hB
  generalize World.alloc _ _ = y2 at *
  generalize y1.heap.size = g18 at *
  replace hB : Bl y1 [⟨g18, kc ZB, 39⟩] y2 := hB
  simp only [Act.put, List.setIfInBounds_toArray, List.set_cons_zero, List.set_cons_succ, List.getElem_toArray, List.getElem_cons_zero, List.getElem_cons_succ]
  refine list_store 39 (.tmp 18) (.tmp 141) (g18) (kc b) 39 (kc ZB) (by kernel_rfl) rfl (by kernel_rfl) (by kernel_rfl) (hB.get 0 (x := ⟨g18, kc ZB, 39⟩) rfl) (by rw [Try.infoB, kc_size, hbl]) ((show (kc ZB).size = 64 from rfl).trans ((kc_size _).trans hbl).symm) (kc_one _) ?_
  replace hB := hB.set 0 (x := ⟨g18, kc ZB, 39⟩) rfl (kc b)
  simp only [List.set_cons_zero, List.set_cons_succ] at hB
  generalize World.setRow _ _ _ = y3 at *
  replace hB : Bl y1 [⟨g18, kc b, 39⟩] y3 := hB
  simp only [Act.put, List.setIfInBounds_toArray, List.set_cons_zero, List.set_cons_succ, List.getElem_toArray, List.getElem_cons_zero, List.getElem_cons_succ]
  (refine wpList_step fun K hK => ?_; replace hK := hide hK; go_simp; refine unhide hK _ _ ?_; clear hK K)
  refine wpList_nil ?_
  have hX := hide (hB.get 0 (x := ⟨g18, kc b, 39⟩) rfl)
  have hoX : g18 ∉ G := fun hm => by have h1 := ((unhide hS).at_ (n := 1) rfl : Lies G gb B y1).lt _ hm; have h2 := hB.own 0 (x := ⟨g18, kc b, 39⟩) rfl; dsimp only at h2; omega
  dsimp only at hX
  replace hO := hide (hB.gr.blk (unhide hO))
  replace hS := hide ((unhide hS).more hB.gr)
  clear hB
  go_upto_region 29 with fail
  refine wp_region_lit ?_
  refine list_val (.pointer (some ⟨gb, 0, none⟩)) (by kernel_rfl) (by kernel_rfl) ?_
  simp only [Act.put, List.setIfInBounds_toArray, List.set_cons_zero, List.set_cons_succ, List.getElem_toArray, List.getElem_cons_zero, List.getElem_cons_succ]
  refine list_val (.agg (opv q ka kn kp)) (by kernel_rfl) (exec_arr _ 37 (.tmp 9) rfl go (by kernel_rfl) (opv q ka kn kp) 37 _ (unhide hO) Try.underlying37 rfl (by rw [Try.infoO]; rfl)) ?_
  simp only [Act.put, List.setIfInBounds_toArray, List.set_cons_zero, List.set_cons_succ, List.getElem_toArray, List.getElem_cons_zero, List.getElem_cons_succ]
  refine list_call 13 #[.pointer (some ⟨gb, 0, none⟩), .agg (opv q ka kn kp)] (by kernel_rfl) (by kernel_rfl) ((does_ok G gb j B (unhide hBk) (by omega) q (unhide hqo) ka kn kp _ ((unhide hS).at_ (n := 1) rfl) ((unhide hkp).gr (unhide hS).gr)).mono ?_)
  rintro r y4 ⟨G1, rfl, hL1, hch⟩
  refine ⟨_, rfl, ?_⟩
  rw [← unhide hE] at hL1
  rw [← unhide hb, ← unhide he]
  have hX1 := hide (hch.blk (unhide hX) hoX)
  replace hS := hide (show Ds w [(F1, ga, arm E nn), (G1, gb, E)] y4 from (unhide hS).chg (n := 1) rfl hch hL1)
  clear hch hL1 hX hoX hO
  have hB := Bl.nil y4
  simp only [Act.put, List.setIfInBounds_toArray, List.set_cons_zero, List.set_cons_succ, List.getElem_toArray, List.getElem_cons_zero, List.getElem_cons_succ]
  refine list_val (.tuple #[.agg (kc b), .int .i64 e]) (by kernel_rfl) (by kernel_rfl) ?_
  simp only [Act.put, List.setIfInBounds_toArray, List.set_cons_zero, List.set_cons_succ, List.getElem_toArray, List.getElem_cons_zero, List.getElem_cons_succ]
  refine list_val (.agg (kc b)) (by kernel_rfl) (by kernel_rfl) ?_
  simp only [Act.put, List.setIfInBounds_toArray, List.set_cons_zero, List.set_cons_succ, List.getElem_toArray, List.getElem_cons_zero, List.getElem_cons_succ]
  refine list_val (.int .i64 e) (by kernel_rfl) (by kernel_rfl) ?_
  simp only [Act.put, List.setIfInBounds_toArray, List.set_cons_zero, List.set_cons_succ, List.getElem_toArray, List.getElem_cons_zero, List.getElem_cons_succ]
  refine list_valw (.pointer (some ⟨y4.heap.size, 0, none⟩)) (y4.alloc (.cells (kc ZB) 39 (0, 0))) (by kernel_rfl) (by kernel_rfl) ?_
  replace hB := hB.new (kc ZB) 39
  simp only [List.nil_append, List.cons_append] at hB
  generalize World.alloc _ _ = y5 at *
  generalize y4.heap.size = g20 at *
  replace hB : Bl y4 [⟨g20, kc ZB, 39⟩] y5 := hB
  simp only [Act.put, List.setIfInBounds_toArray, List.set_cons_zero, List.set_cons_succ, List.getElem_toArray, List.getElem_cons_zero, List.getElem_cons_succ]
  refine list_store 39 (.tmp 20) (.tmp 147) (g20) (kc b) 39 (kc ZB) (by kernel_rfl) rfl (by kernel_rfl) (by kernel_rfl) (hB.get 0 (x := ⟨g20, kc ZB, 39⟩) rfl) (by rw [Try.infoB, kc_size, hbl]) ((show (kc ZB).size = 64 from rfl).trans ((kc_size _).trans hbl).symm) (kc_one _) ?_
  replace hB := hB.set 0 (x := ⟨g20, kc ZB, 39⟩) rfl (kc b)
  simp only [List.set_cons_zero, List.set_cons_succ] at hB
  generalize World.setRow _ _ _ = y6 at *
  replace hB : Bl y4 [⟨g20, kc b, 39⟩] y6 := hB
  simp only [Act.put, List.setIfInBounds_toArray, List.set_cons_zero, List.set_cons_succ, List.getElem_toArray, List.getElem_cons_zero, List.getElem_cons_succ]
  (refine wpList_step fun K hK => ?_; replace hK := hide hK; go_simp; refine unhide hK _ _ ?_; clear hK K)
  refine wpList_nil ?_
  have hY := hide (hB.get 0 (x := ⟨g20, kc b, 39⟩) rfl)
  dsimp only at hY
  have hX := hide (hB.gr.blk (unhide hX1))
  replace hS := hide ((unhide hS).more hB.gr)
  clear hB hX1
  go_upto_region 30 with fail
  refine wp_region_lit ?_
  refine list_val (.agg (kc b)) (by kernel_rfl) (exec_arr _ 39 (.tmp 18) rfl g18 (by kernel_rfl) (kc b) 39 _ (unhide hX) Try.underlying39 rfl (by rw [Try.infoB, kc_size, hbl])) ?_
  simp only [Act.put, List.setIfInBounds_toArray, List.set_cons_zero, List.set_cons_succ, List.getElem_toArray, List.getElem_cons_zero, List.getElem_cons_succ]
  refine list_val (.agg (kc b)) (by kernel_rfl) (exec_arr _ 39 (.tmp 20) rfl g20 (by kernel_rfl) (kc b) 39 _ (unhide hY) Try.underlying39 rfl (by rw [Try.infoB, kc_size, hbl])) ?_
  simp only [Act.put, List.setIfInBounds_toArray, List.set_cons_zero, List.set_cons_succ, List.getElem_toArray, List.getElem_cons_zero, List.getElem_cons_succ]
  refine list_val (.bool false) (by kernel_rfl) (exec_neB _ (.tmp 149) (.tmp 150) rfl b hbl (by kernel_rfl) (by kernel_rfl)) ?_
  simp only [Act.put, List.setIfInBounds_toArray, List.set_cons_zero, List.set_cons_succ, List.getElem_toArray, List.getElem_cons_zero, List.getElem_cons_succ]
  refine list_val (.bool false) (by kernel_rfl) (by kernel_rfl) ?_
  simp only [Act.put, List.setIfInBounds_toArray, List.set_cons_zero, List.set_cons_succ, List.getElem_toArray, List.getElem_cons_zero, List.getElem_cons_succ]
  refine list_val (.int .i64 e) (by kernel_rfl) (by kernel_rfl) ?_
  simp only [Act.put, List.setIfInBounds_toArray, List.set_cons_zero, List.set_cons_succ, List.getElem_toArray, List.getElem_cons_zero, List.getElem_cons_succ]
  refine list_val (.int .i64 e) (by kernel_rfl) (by kernel_rfl) ?_
  simp only [Act.put, List.setIfInBounds_toArray, List.set_cons_zero, List.set_cons_succ, List.getElem_toArray, List.getElem_cons_zero, List.getElem_cons_succ]
  refine list_val (.bool false) (by kernel_rfl) (by go_simp) ?_
  simp only [Act.put, List.setIfInBounds_toArray, List.set_cons_zero, List.set_cons_succ, List.getElem_toArray, List.getElem_cons_zero, List.getElem_cons_succ]
  refine list_val (.bool false) (by kernel_rfl) (by kernel_rfl) ?_
  simp only [Act.put, List.setIfInBounds_toArray, List.set_cons_zero, List.set_cons_succ, List.getElem_toArray, List.getElem_cons_zero, List.getElem_cons_succ]
  refine list_val (.bool false) (by kernel_rfl) (by kernel_rfl) ?_
  simp only [Act.put, List.setIfInBounds_toArray, List.set_cons_zero, List.set_cons_succ, List.getElem_toArray, List.getElem_cons_zero, List.getElem_cons_succ]
  refine list_val (.pointer (some ⟨ga, 0, none⟩)) (by kernel_rfl) (by kernel_rfl) ?_
  simp only [Act.put, List.setIfInBounds_toArray, List.set_cons_zero, List.set_cons_succ, List.getElem_toArray, List.getElem_cons_zero, List.getElem_cons_succ]
  refine list_call 21 #[.pointer (some ⟨ga, 0, none⟩)] (by kernel_rfl) (by kernel_rfl) ((ddead_ok F1 ga _ (arm E nn) (unhide hDq) (by omega) _ ((unhide hS).at_ (n := 0) rfl)).mono ?_)
  rintro r y7 ⟨rfl, hg⟩
  refine ⟨_, rfl, ?_⟩
  rw [unhide hdd]
  replace hS := hide ((unhide hS).more hg)
  clear hg hX hY
  simp only [Act.put, List.setIfInBounds_toArray, List.set_cons_zero, List.set_cons_succ, List.getElem_toArray, List.getElem_cons_zero, List.getElem_cons_succ]
  refine list_val (.bool false) (by kernel_rfl) (by kernel_rfl) ?_
  simp only [Act.put, List.setIfInBounds_toArray, List.set_cons_zero, List.set_cons_succ, List.getElem_toArray, List.getElem_cons_zero, List.getElem_cons_succ]
  refine wpList_nil ?_
  go_upto_region 32 with fail
  refine wp_region_lit ?_
  refine list_val (.int .i64 (B.ops : Int)) (by kernel_rfl) (by kernel_rfl) ?_
  simp only [Act.put, List.setIfInBounds_toArray, List.set_cons_zero, List.set_cons_succ, List.getElem_toArray, List.getElem_cons_zero, List.getElem_cons_succ]
  refine list_val (.pointer (some ⟨gb, 0, none⟩)) (by kernel_rfl) (by kernel_rfl) ?_
  simp only [Act.put, List.setIfInBounds_toArray, List.set_cons_zero, List.set_cons_succ, List.getElem_toArray, List.getElem_cons_zero, List.getElem_cons_succ]
  refine list_call 22 #[.pointer (some ⟨gb, 0, none⟩)] (by kernel_rfl) (by kernel_rfl) ((dops_ok G1 gb _ E (unhide hBq) (by omega) _ ((unhide hS).at_ (n := 1) rfl)).mono ?_)
  rintro r y8 ⟨rfl, hg⟩
  refine ⟨_, rfl, ?_⟩
  replace hS := hide ((unhide hS).more hg)
  clear hg
  simp only [Act.put, List.setIfInBounds_toArray, List.set_cons_zero, List.set_cons_succ, List.getElem_toArray, List.getElem_cons_zero, List.getElem_cons_succ]
  refine list_val (.int .i64 (B.ops : Int)) (by kernel_rfl) (by kernel_rfl) ?_
  simp only [Act.put, List.setIfInBounds_toArray, List.set_cons_zero, List.set_cons_succ, List.getElem_toArray, List.getElem_cons_zero, List.getElem_cons_succ]
  refine list_val (.int .i64 ((E.ops : Int) - (B.ops : Int))) (by kernel_rfl) (by have h1 : (B.ops : Int) ≤ 1000 := (by omega); have h2 : (E.ops : Int) ≤ 1000 := (by omega); have h3 : IntKind.i64.wrap ((E.ops : Int) - (B.ops : Int)) = (E.ops : Int) - (B.ops : Int) := (by rw [IntKind.wrap_i64]; omega); go_simp) ?_
  simp only [Act.put, List.setIfInBounds_toArray, List.set_cons_zero, List.set_cons_succ, List.getElem_toArray, List.getElem_cons_zero, List.getElem_cons_succ]
  refine list_val (.int .i64 (E.ops : Int)) (by kernel_rfl) (by have h1 : (B.ops : Int) ≤ 1000 := (by omega); have h2 : (E.ops : Int) ≤ 1000 := (by omega); have h3 : IntKind.i64.wrap ((B.ops : Int) + ((E.ops : Int) - (B.ops : Int))) = (E.ops : Int) := (by rw [IntKind.wrap_i64]; omega); go_simp) ?_
  simp only [Act.put, List.setIfInBounds_toArray, List.set_cons_zero, List.set_cons_succ, List.getElem_toArray, List.getElem_cons_zero, List.getElem_cons_succ]
  (refine wpList_step fun K hK => ?_; replace hK := hide hK; go_simp; refine unhide hK _ _ ?_; clear hK K)
  refine wpList_nil ?_
  have hP : Hid (Ds w [(F1, ga, arm E nn), (G1, gb, E)] _) := hS
  clear hS
  go_wp2_with fail
  exact unhide hQ E F1 G1 _ (unhide hB6) (unhide hBq) hnq (unhide hP) _ _ _ _ _ _ _ _ _ _ _ _ _ _ _ _ _ _ _ _ _ _ _ _ _ _ _ _ _ _ _ _ _ _ _
end Go.Proofs.Ythgchjdjacbcgaa
