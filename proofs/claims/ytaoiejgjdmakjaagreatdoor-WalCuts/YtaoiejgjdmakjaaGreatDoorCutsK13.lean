/-
  Of layer 12: what the proof leans on.
-/
import Derived.Test.YtaoiejgjdmakjaaGreatDoorCutsK12
namespace Go.Proofs.YtaoiejgjdmakjaaGreatDoor
open Go.RowKit
set_option maxRecDepth 100000
set_option linter.unusedSimpArgs false
set_option linter.unusedVariables false
noncomputable def foundC : Code := ((Tryz.f4.body).bind (fromReg 34)).getD .skip
set_option maxHeartbeats 4000000 in
theorem cuts_found (v0 : World) (hf : Fst v0) (Q : Exit → Act → World → Prop) (hQ : ∀ (t : Array Value) (w' : World), Gr v0 w' → t.getD 6 undef = .bool true → Q .ret ⟨t, []⟩ w') (hpan : ∀ c t t' d w, Q (.panic c) ⟨t, d⟩ w → Q (.panic c) ⟨t', d⟩ w) (F : List Nat) (gd gb ga m : Nat) (E : Dk) (s : Sup) (L : List Int) (X : List (List Int)) (v : World) (hg0 : Gr v0 v) (hL : Lies F gd E v) (hF : ∀ i ∈ F, v0.heap.size ≤ i) (wd : Wd E m s L X) (hm : m ≤ 700000) (f : Int) (L1 L2 : List Int) (X1 X2 : List (List Int)) (sa xa ta ya : Option Addr) (sn sc xn xc tn tc yn yc : Nat) (hb : v.heap[gb]? = some (.cells #[.slice sa sn sc, .slice xa xn xc] 55 (0, 0))) (ha : v.heap[ga]? = some (.cells #[.slice ta tn tc, .slice ya yn yc] 55 (0, 0))) (b1 : Lb v sa sn sc L1) (b2 : Lq v xa xn xc X1) (a1 : Lb v ta tn tc L2) (a2 : Lq v ya yn yc X2) (hcase : (f = 0 ∧ L = L2 ∧ X = X2) ∨ (f = 7 ∧ ((L = L1 ∧ X = X1) ∨ (L = L2 ∧ X = X2)))) (k0 k1 k2 k3 k4 k5 k6 k8 k9 k10 k11 k12 k16 k17 k18 k19 k20 k21 k22 k23 k24 k25 k26 k27 k28 k29 k30 k31 k32 k33 k34 k35 k36 k37 k38 k39 k40 k41 k42 k43 k44 k45 k46 k47 k48 k49 k50 k51 k52 k53 k54 k55 k56 k57 k58 k59 k60 k61 k62 k63 k64 k65 k66 k67 k68 k69 k70 k71 k72 k73 k74 k75 k76 k77 k78 k79 k80 k81 k82 k83 k84 k85 k86 k87 k88 k89 k90 k91 k92 k93 k94 k95 k96 k97 k98 k99 k100 k101 k102 k103 k104 k105 k106 k107 k108 k109 k110 k111 k112 k113 k114 k115 k116 k117 k118 k119 k120 k121 k122 k123 k124 k125 k126 k127 k128 k129 k130 k131 k132 k133 k134 k135 k136 k137 k138 k139 k140 k141 k142 k143 k144 k145 k146 k147 k148 k149 k150 k151 k152 k153 k154 k155 k156 k157 k158 k159 k160 k161 k162 k163 k164 k165 k166 k167 k168 k169 k170 k171 k172 k173 k174 k175 k176 k177 k178 k179 k180 k181 k182 k183 k184 k185 k186 k187 k188 k189 k190 k191 k192 k193 k194 k195 k196 k197 k198 k199 k200 k201 k202 k203 k204 k205 k206 k207 k208 k209 k210 : Value) : Code.wp Tryz.prog foundC Q ⟨#[k0, k1, k2, k3, k4, k5, k6, P0 gd, k8, k9, k10, k11, k12, P0 gb, .int .i64 f, P0 ga, k16, k17, k18, k19, k20, k21, k22, k23, k24, k25, k26, k27, k28, k29, k30, k31, k32, k33, k34, k35, k36, k37, k38, k39, k40, k41, k42, k43, k44, k45, k46, k47, k48, k49, k50, k51, k52, k53, k54, k55, k56, k57, k58, k59, k60, k61, k62, k63, k64, k65, k66, k67, k68, k69, k70, k71, k72, k73, k74, k75, k76, k77, k78, k79, k80, k81, k82, k83, k84, k85, k86, k87, k88, k89, k90, k91, k92, k93, k94, k95, k96, k97, k98, k99, k100, k101, k102, k103, k104, k105, k106, k107, k108, k109, k110, k111, k112, k113, k114, k115, k116, k117, k118, k119, k120, k121, k122, k123, k124, k125, k126, k127, k128, k129, k130, k131, k132, k133, k134, k135, k136, k137, k138, k139, k140, k141, k142, k143, k144, k145, k146, k147, k148, k149, k150, k151, k152, k153, k154, k155, k156, k157, k158, k159, k160, k161, k162, k163, k164, k165, k166, k167, k168, k169, k170, k171, k172, k173, k174, k175, k176, k177, k178, k179, k180, k181, k182, k183, k184, k185, k186, k187, k188, k189, k190, k191, k192, k193, k194, k195, k196, k197, k198, k199, k200, k201, k202, k203, k204, k205, k206, k207, k208, k209, k210], []⟩ v := by
  conv => arg 2; whnf
  dsimp only
  have hx512 : X.length ≤ 512 := by have a1 := usd_ge X; have a2 := wd.wl.le; have a3 := wd.fd.ok.hi1; omega
  have hLb := wd.bytes.1
  have hF0 := hide hF
  have wd0 := hide wd
  replace hQ := hide hQ; replace hpan := hide hpan; replace hf := hide hf; replace hg0 := hide hg0; replace hL := hide hL; replace hF := hide hF; replace wd := hide wd; replace hb := hide hb; replace ha := hide ha; replace b1 := hide b1; replace b2 := hide b2; replace a1 := hide a1; replace a2 := hide a2; replace hLb := hide hLb; replace hcase := hide hcase
  go_upto_region 34 with fail
  refine wp_region_lit ?_
  refine list_val (.pointer (some ⟨gd, 0, none⟩)) (by kernel_rfl) (by kernel_rfl) ?_
  simp only [nrm]
  refine list_call 23 #[P0 gd] (by kernel_rfl) (by kernel_rfl) ((again_ok v0 F gd E m s L X (unhide hf) v (unhide hg0) (unhide hL) (unhide hF) (unhide wd) (by omega)).mono ?_)
  rintro r u1 ⟨l, gs, G, H, rfl, hX, hg, -⟩
  refine ⟨_, rfl, ?_⟩
  have hX := hide hX
  replace hb := hide (hg.blk (unhide hb)); replace ha := hide (hg.blk (unhide ha)); replace b1 := hide ((unhide b1).gr hg); replace b2 := hide ((unhide b2).gr hg); replace a1 := hide ((unhide a1).gr hg); replace a2 := hide ((unhide a2).gr hg)
  clear hg hL hg0 hF wd
  simp only [nrm]
  refine list_val (.tuple #[.pointer (some ⟨l, 0, none⟩), .bool true]) (by kernel_rfl) (by kernel_rfl) ?_
  simp only [nrm]
  refine list_val (.pointer (some ⟨l, 0, none⟩)) (by kernel_rfl) (by kernel_rfl) ?_
  simp only [nrm]
  refine list_val (.bool true) (by kernel_rfl) (by kernel_rfl) ?_
  simp only [nrm]
  (refine wpList_step fun K hK => ?_; replace hK := hide hK; go_simp; refine unhide hK _ _ ?_; clear hK K)
  (refine wpList_step fun K hK => ?_; replace hK := hide hK; go_simp; refine unhide hK _ _ ?_; clear hK K)
  refine wpList_nil ?_
  go_upto_region 35 with fail
  refine wp_region_lit ?_
  refine list_val (.bool true) (by kernel_rfl) (by kernel_rfl) ?_
  simp only [nrm]
  refine list_val (.bool false) (by kernel_rfl) (by kernel_rfl) ?_
  simp only [nrm]
  refine wpList_nil ?_
  go_upto_region 37 with fail
  refine wp_region_lit ?_
  refine list_val (.pointer (some ⟨l, 0, none⟩)) (by kernel_rfl) (by kernel_rfl) ?_
  simp only [nrm]
  refine list_call 19 #[P0 l] (by kernel_rfl) (by kernel_rfl) ((of12_ok u1 (unhide hX).xr hx512).mono ?_)
  rintro r u2 ⟨pa, pn, pc, qa, qn, qc, rfl, hO1, hO2, hg⟩
  refine ⟨_, rfl, ?_⟩
  have p1 : Lb u2 pa pn pc L := by
    obtain ⟨a9, c9, e9, h9⟩ := hO1.lb (unhide hLb)
    injection e9 with e1 e2 e3
    subst e1 e2 e3
    exact h9
  have p2 : Lq u2 qa qn qc X := by
    obtain ⟨a9, c9, e9, h9⟩ := hO2.lq
    injection e9 with e1 e2 e3
    subst e1 e2 e3
    exact h9
  have hqn : qn = X.length := p2.len.symm
  replace p1 := hide p1; replace p2 := hide p2; replace hqn := hide hqn
  replace hX := hide ((unhide hX).more hg)
  replace hb := hide (hg.blk (unhide hb)); replace ha := hide (hg.blk (unhide ha)); replace b1 := hide ((unhide b1).gr hg); replace b2 := hide ((unhide b2).gr hg); replace a1 := hide ((unhide a1).gr hg); replace a2 := hide ((unhide a2).gr hg)
  clear hg hO1 hO2
  have hB := Bl.nil u2
  simp only [nrm]
  refine list_valw (.pointer (some ⟨u2.heap.size, 0, none⟩)) (u2.alloc (.cells (#[.slice none 0 0, .slice none 0 0]) 55 (0, 0))) (by kernel_rfl) (by kernel_rfl) ?_
  replace hB := hB.new (#[.slice none 0 0, .slice none 0 0]) 55
  simp only [List.nil_append, List.cons_append] at hB
  generalize World.alloc _ _ = u3 at *
  generalize u2.heap.size = gg at *
  replace hB : Bl u2 [⟨gg, #[.slice none 0 0, .slice none 0 0], 55⟩] u3 := hB
  simp only [nrm]
  refine list_store 55 (.tmp 18) (.tmp 152) (gg) (#[.slice pa pn pc, .slice qa qn qc]) 55 (#[.slice none 0 0, .slice none 0 0]) (by kernel_rfl) rfl (by kernel_rfl) (by kernel_rfl) (hB.get 0 (x := ⟨gg, #[.slice none 0 0, .slice none 0 0], 55⟩) rfl) (by rw [Tryz.infoTl]; rfl) rfl (by kernel_rfl) ?_
  replace hB := hB.set 0 (x := ⟨gg, #[.slice none 0 0, .slice none 0 0], 55⟩) rfl (#[.slice pa pn pc, .slice qa qn qc])
  simp only [List.set_cons_zero, List.set_cons_succ] at hB
  generalize World.setRow _ _ _ = u4 at *
  replace hB : Bl u2 [⟨gg, #[.slice pa pn pc, .slice qa qn qc], 55⟩] u4 := hB
  simp only [nrm]
  refine wpList_nil ?_
  have hgg : u4.heap[gg]? = some (.cells #[.slice pa pn pc, .slice qa qn qc] 55 (0, 0)) := (hB.get 0 (x := ⟨gg, #[.slice pa pn pc, .slice qa qn qc], 55⟩) rfl)
  have hg := hB.gr
  replace hb := hide (hg.blk (unhide hb)); replace ha := hide (hg.blk (unhide ha)); replace b1 := hide ((unhide b1).gr hg); replace b2 := hide ((unhide b2).gr hg); replace a1 := hide ((unhide a1).gr hg); replace a2 := hide ((unhide a2).gr hg)
  replace p1 := hide ((unhide p1).gr hg); replace p2 := hide ((unhide p2).gr hg); replace hX := hide ((unhide hX).more hg)
  replace hgg := hide hgg
  clear hg hB
  by_cases hBB : L = L1 ∧ X = X1
  · skip
    rcases unhide hcase with ⟨rfl, hA⟩ | ⟨rfl, -⟩
    · skip
      go_upto_region 38 with fail
      refine wp_region_lit ?_
      refine list_val (.int .i64 0) (by kernel_rfl) (by kernel_rfl) ?_
      simp only [nrm]
      refine list_val (.bool true) (by kernel_rfl) (by kernel_rfl) ?_
      simp only [nrm]
      refine list_val (.bool true) (by kernel_rfl) (by kernel_rfl) ?_
      simp only [nrm]
      refine list_val (.agg #[.slice pa pn pc, .slice qa qn qc]) (by kernel_rfl) (exec_arr _ 55 (.tmp 18) rfl gg (by kernel_rfl) #[.slice pa pn pc, .slice qa qn qc] 55 _ (unhide hgg) Tryz.underlying55 rfl (by rw [Tryz.infoTl]; rfl)) ?_
      simp only [nrm]
      refine list_val (.agg #[.slice ta tn tc, .slice ya yn yc]) (by kernel_rfl) (exec_arr _ 55 (.tmp 15) rfl ga (by kernel_rfl) #[.slice ta tn tc, .slice ya yn yc] 55 _ (unhide ha) Tryz.underlying55 rfl (by rw [Tryz.infoTl]; rfl)) ?_
      simp only [nrm]
      refine list_call 21 #[.agg #[.slice pa pn pc, .slice qa qn qc], .agg #[.slice ta tn tc, .slice ya yn yc]] (by kernel_rfl) (by kernel_rfl) ((same12_ok L L2 X X2 pa ta qa ya pn pc tn tc qn qc yn yc u4 (unhide p1) (unhide a1) (unhide p2) (unhide a2) (by rw [unhide hqn]; omega)).mono ?_)
      rintro r y1 ⟨rfl, hg⟩
      refine ⟨_, rfl, ?_⟩
      rw [decide_eq_true hA]
      replace hb := hide (hg.blk (unhide hb)); replace ha := hide (hg.blk (unhide ha)); replace b1 := hide ((unhide b1).gr hg); replace b2 := hide ((unhide b2).gr hg); replace a1 := hide ((unhide a1).gr hg); replace a2 := hide ((unhide a2).gr hg); replace hgg := hide (hg.blk (unhide hgg)); replace p1 := hide ((unhide p1).gr hg); replace p2 := hide ((unhide p2).gr hg); replace hX := hide ((unhide hX).more hg)
      clear hg
      simp only [nrm]
      refine list_val (.bool false) (by kernel_rfl) (by kernel_rfl) ?_
      simp only [nrm]
      refine list_val (.bool false) (by kernel_rfl) (by kernel_rfl) ?_
      simp only [nrm]
      refine list_val (.bool false) (by kernel_rfl) (by kernel_rfl) ?_
      simp only [nrm]
      refine list_val (.agg #[.slice pa pn pc, .slice qa qn qc]) (by kernel_rfl) (exec_arr _ 55 (.tmp 18) rfl gg (by kernel_rfl) #[.slice pa pn pc, .slice qa qn qc] 55 _ (unhide hgg) Tryz.underlying55 rfl (by rw [Tryz.infoTl]; rfl)) ?_
      simp only [nrm]
      refine list_val (.agg #[.slice sa sn sc, .slice xa xn xc]) (by kernel_rfl) (exec_arr _ 55 (.tmp 13) rfl gb (by kernel_rfl) #[.slice sa sn sc, .slice xa xn xc] 55 _ (unhide hb) Tryz.underlying55 rfl (by rw [Tryz.infoTl]; rfl)) ?_
      simp only [nrm]
      refine list_call 21 #[.agg #[.slice pa pn pc, .slice qa qn qc], .agg #[.slice sa sn sc, .slice xa xn xc]] (by kernel_rfl) (by kernel_rfl) ((same12_ok L L1 X X1 pa sa qa xa pn pc sn sc qn qc xn xc y1 (unhide p1) (unhide b1) (unhide p2) (unhide b2) (by rw [unhide hqn]; omega)).mono ?_)
      rintro r y2 ⟨rfl, hg⟩
      refine ⟨_, rfl, ?_⟩
      rw [decide_eq_true hBB]
      replace hb := hide (hg.blk (unhide hb)); replace ha := hide (hg.blk (unhide ha)); replace b1 := hide ((unhide b1).gr hg); replace b2 := hide ((unhide b2).gr hg); replace a1 := hide ((unhide a1).gr hg); replace a2 := hide ((unhide a2).gr hg); replace hgg := hide (hg.blk (unhide hgg)); replace p1 := hide ((unhide p1).gr hg); replace p2 := hide ((unhide p2).gr hg); replace hX := hide ((unhide hX).more hg)
      clear hg
      simp only [nrm]
      refine list_val (.bool false) (by kernel_rfl) (by kernel_rfl) ?_
      simp only [nrm]
      refine list_val (.bool false) (by kernel_rfl) (by kernel_rfl) ?_
      simp only [nrm]
      refine wpList_step fun K hK => ?_
      rw [if_neg (ne_true_of_eq_false (by kernel_rfl))]
      refine hK _ _ ?_
      clear hK K
      simp only [nrm]
      refine wpList_step fun K hK => ?_
      rw [if_neg (ne_true_of_eq_false (by kernel_rfl))]
      refine hK _ _ ?_
      clear hK K
      simp only [nrm]
      refine wpList_step fun K hK => ?_
      rw [if_neg (ne_true_of_eq_false (by kernel_rfl))]
      refine hK _ _ ?_
      clear hK K
      simp only [nrm]
      refine wpList_step fun K hK => ?_
      rw [if_neg (ne_true_of_eq_false (by kernel_rfl))]
      refine hK _ _ ?_
      clear hK K
      simp only [nrm]
      refine list_val (.bool false) (by kernel_rfl) (by kernel_rfl) ?_
      simp only [nrm]
      refine list_val (.bool false) (by kernel_rfl) (by kernel_rfl) ?_
      simp only [nrm]
      refine wpList_nil ?_
      rename_i K1_ hK1_ K0_ hK0_
      refine hK0_ _ _ ?_
      refine wp_cond_false rfl ?_
      refine wp_skip ?_
      show K1_ _ _
      refine hK1_ _ _ ?_
      refine wp_code_eq (c := tailC) (by kernel_rfl) ?_
      exact cuts_tail v0 (unhide hf) Q (unhide hQ) (unhide hpan) F gd gg m E s L X y2 (unhide hX).xs.gr (unhide hX).xs.ls (unhide hF0) (unhide wd0) hm pa qa pn pc qn qc (unhide hgg) (unhide p1) (unhide p2) _ _ _ _ _ _ _ _ _ _ _ _ _ _ _ _ _ _ _ _ _ _ _ _ _ _ _ _ _ _ _ _ _ _ _ _ _ _ _ _ _ _ _ _ _ _ _ _ _ _ _ _ _ _ _ _ _ _ _ _ _ _ _ _ _ _ _ _ _ _ _ _ _ _ _ _ _ _ _ _ _ _ _ _ _ _ _ _ _ _ _ _ _ _ _ _ _ _ _ _ _ _ _ _ _ _ _ _ _ _ _ _ _ _ _ _ _ _ _ _ _ _ _ _ _ _ _ _ _ _ _ _ _ _ _ _ _ _ _ _ _ _ _ _ _ _ _ _ _ _ _ _ _ _ _ _ _ _ _ _ _ _ _ _ _ _ _ _ _ _ _ _ _ _ _ _ _ _ _ _ _ _ _ _ _ _ _ _ _ _ _ _ _ _ _ _ _ _ _ _ _ _ _ _ _ _ _ _ _
    · skip
      go_upto_region 38 with fail
      refine wp_region_lit ?_
      refine list_val (.int .i64 7) (by kernel_rfl) (by kernel_rfl) ?_
      simp only [nrm]
      refine list_val (.bool false) (by kernel_rfl) (by kernel_rfl) ?_
      simp only [nrm]
      refine list_val (.bool false) (by kernel_rfl) (by kernel_rfl) ?_
      simp only [nrm]
      refine wpList_step fun K hK => ?_
      rw [if_neg (ne_true_of_eq_false (by kernel_rfl))]
      refine hK _ _ ?_
      clear hK K
      simp only [nrm]
      refine wpList_step fun K hK => ?_
      rw [if_neg (ne_true_of_eq_false (by kernel_rfl))]
      refine hK _ _ ?_
      clear hK K
      simp only [nrm]
      refine wpList_step fun K hK => ?_
      rw [if_neg (ne_true_of_eq_false (by kernel_rfl))]
      refine hK _ _ ?_
      clear hK K
      simp only [nrm]
      refine wpList_step fun K hK => ?_
      rw [if_neg (ne_true_of_eq_false (by kernel_rfl))]
      refine hK _ _ ?_
      clear hK K
      simp only [nrm]
      refine list_val (.bool false) (by kernel_rfl) (by kernel_rfl) ?_
      simp only [nrm]
      refine list_val (.bool false) (by kernel_rfl) (by kernel_rfl) ?_
      simp only [nrm]
      refine list_val (.agg #[.slice pa pn pc, .slice qa qn qc]) (by kernel_rfl) (exec_arr _ 55 (.tmp 18) rfl gg (by kernel_rfl) #[.slice pa pn pc, .slice qa qn qc] 55 _ (unhide hgg) Tryz.underlying55 rfl (by rw [Tryz.infoTl]; rfl)) ?_
      simp only [nrm]
      refine list_val (.agg #[.slice sa sn sc, .slice xa xn xc]) (by kernel_rfl) (exec_arr _ 55 (.tmp 13) rfl gb (by kernel_rfl) #[.slice sa sn sc, .slice xa xn xc] 55 _ (unhide hb) Tryz.underlying55 rfl (by rw [Tryz.infoTl]; rfl)) ?_
      simp only [nrm]
      refine list_call 21 #[.agg #[.slice pa pn pc, .slice qa qn qc], .agg #[.slice sa sn sc, .slice xa xn xc]] (by kernel_rfl) (by kernel_rfl) ((same12_ok L L1 X X1 pa sa qa xa pn pc sn sc qn qc xn xc u4 (unhide p1) (unhide b1) (unhide p2) (unhide b2) (by rw [unhide hqn]; omega)).mono ?_)
      rintro r y1 ⟨rfl, hg⟩
      refine ⟨_, rfl, ?_⟩
      rw [decide_eq_true hBB]
      replace hb := hide (hg.blk (unhide hb)); replace ha := hide (hg.blk (unhide ha)); replace b1 := hide ((unhide b1).gr hg); replace b2 := hide ((unhide b2).gr hg); replace a1 := hide ((unhide a1).gr hg); replace a2 := hide ((unhide a2).gr hg); replace hgg := hide (hg.blk (unhide hgg)); replace p1 := hide ((unhide p1).gr hg); replace p2 := hide ((unhide p2).gr hg); replace hX := hide ((unhide hX).more hg)
      clear hg
      simp only [nrm]
      refine list_val (.bool false) (by kernel_rfl) (by kernel_rfl) ?_
      simp only [nrm]
      refine list_val (.bool false) (by kernel_rfl) (by kernel_rfl) ?_
      simp only [nrm]
      refine wpList_step fun K hK => ?_
      rw [if_neg (ne_true_of_eq_false (by kernel_rfl))]
      refine hK _ _ ?_
      clear hK K
      simp only [nrm]
      refine wpList_step fun K hK => ?_
      rw [if_neg (ne_true_of_eq_false (by kernel_rfl))]
      refine hK _ _ ?_
      clear hK K
      simp only [nrm]
      refine wpList_step fun K hK => ?_
      rw [if_neg (ne_true_of_eq_false (by kernel_rfl))]
      refine hK _ _ ?_
      clear hK K
      simp only [nrm]
      refine wpList_step fun K hK => ?_
      rw [if_neg (ne_true_of_eq_false (by kernel_rfl))]
      refine hK _ _ ?_
      clear hK K
      simp only [nrm]
      refine list_val (.bool false) (by kernel_rfl) (by kernel_rfl) ?_
      simp only [nrm]
      refine list_val (.bool false) (by kernel_rfl) (by kernel_rfl) ?_
      simp only [nrm]
      refine wpList_nil ?_
      rename_i K1_ hK1_ K0_ hK0_
      refine hK0_ _ _ ?_
      refine wp_cond_false rfl ?_
      refine wp_skip ?_
      show K1_ _ _
      refine hK1_ _ _ ?_
      refine wp_code_eq (c := tailC) (by kernel_rfl) ?_
      exact cuts_tail v0 (unhide hf) Q (unhide hQ) (unhide hpan) F gd gg m E s L X y1 (unhide hX).xs.gr (unhide hX).xs.ls (unhide hF0) (unhide wd0) hm pa qa pn pc qn qc (unhide hgg) (unhide p1) (unhide p2) _ _ _ _ _ _ _ _ _ _ _ _ _ _ _ _ _ _ _ _ _ _ _ _ _ _ _ _ _ _ _ _ _ _ _ _ _ _ _ _ _ _ _ _ _ _ _ _ _ _ _ _ _ _ _ _ _ _ _ _ _ _ _ _ _ _ _ _ _ _ _ _ _ _ _ _ _ _ _ _ _ _ _ _ _ _ _ _ _ _ _ _ _ _ _ _ _ _ _ _ _ _ _ _ _ _ _ _ _ _ _ _ _ _ _ _ _ _ _ _ _ _ _ _ _ _ _ _ _ _ _ _ _ _ _ _ _ _ _ _ _ _ _ _ _ _ _ _ _ _ _ _ _ _ _ _ _ _ _ _ _ _ _ _ _ _ _ _ _ _ _ _ _ _ _ _ _ _ _ _ _ _ _ _ _ _ _ _ _ _ _ _ _ _ _ _ _ _ _ _ _ _ _ _ _ _ _ _ _
  · skip
    rcases unhide hcase with ⟨rfl, hA⟩ | ⟨rfl, hC⟩
    · skip
      go_upto_region 38 with fail
      refine wp_region_lit ?_
      refine list_val (.int .i64 0) (by kernel_rfl) (by kernel_rfl) ?_
      simp only [nrm]
      refine list_val (.bool true) (by kernel_rfl) (by kernel_rfl) ?_
      simp only [nrm]
      refine list_val (.bool true) (by kernel_rfl) (by kernel_rfl) ?_
      simp only [nrm]
      refine list_val (.agg #[.slice pa pn pc, .slice qa qn qc]) (by kernel_rfl) (exec_arr _ 55 (.tmp 18) rfl gg (by kernel_rfl) #[.slice pa pn pc, .slice qa qn qc] 55 _ (unhide hgg) Tryz.underlying55 rfl (by rw [Tryz.infoTl]; rfl)) ?_
      simp only [nrm]
      refine list_val (.agg #[.slice ta tn tc, .slice ya yn yc]) (by kernel_rfl) (exec_arr _ 55 (.tmp 15) rfl ga (by kernel_rfl) #[.slice ta tn tc, .slice ya yn yc] 55 _ (unhide ha) Tryz.underlying55 rfl (by rw [Tryz.infoTl]; rfl)) ?_
      simp only [nrm]
      refine list_call 21 #[.agg #[.slice pa pn pc, .slice qa qn qc], .agg #[.slice ta tn tc, .slice ya yn yc]] (by kernel_rfl) (by kernel_rfl) ((same12_ok L L2 X X2 pa ta qa ya pn pc tn tc qn qc yn yc u4 (unhide p1) (unhide a1) (unhide p2) (unhide a2) (by rw [unhide hqn]; omega)).mono ?_)
      rintro r y1 ⟨rfl, hg⟩
      refine ⟨_, rfl, ?_⟩
      rw [decide_eq_true hA]
      replace hb := hide (hg.blk (unhide hb)); replace ha := hide (hg.blk (unhide ha)); replace b1 := hide ((unhide b1).gr hg); replace b2 := hide ((unhide b2).gr hg); replace a1 := hide ((unhide a1).gr hg); replace a2 := hide ((unhide a2).gr hg); replace hgg := hide (hg.blk (unhide hgg)); replace p1 := hide ((unhide p1).gr hg); replace p2 := hide ((unhide p2).gr hg); replace hX := hide ((unhide hX).more hg)
      clear hg
      simp only [nrm]
      refine list_val (.bool false) (by kernel_rfl) (by kernel_rfl) ?_
      simp only [nrm]
      refine list_val (.bool false) (by kernel_rfl) (by kernel_rfl) ?_
      simp only [nrm]
      refine list_val (.bool false) (by kernel_rfl) (by kernel_rfl) ?_
      simp only [nrm]
      refine list_val (.agg #[.slice pa pn pc, .slice qa qn qc]) (by kernel_rfl) (exec_arr _ 55 (.tmp 18) rfl gg (by kernel_rfl) #[.slice pa pn pc, .slice qa qn qc] 55 _ (unhide hgg) Tryz.underlying55 rfl (by rw [Tryz.infoTl]; rfl)) ?_
      simp only [nrm]
      refine list_val (.agg #[.slice sa sn sc, .slice xa xn xc]) (by kernel_rfl) (exec_arr _ 55 (.tmp 13) rfl gb (by kernel_rfl) #[.slice sa sn sc, .slice xa xn xc] 55 _ (unhide hb) Tryz.underlying55 rfl (by rw [Tryz.infoTl]; rfl)) ?_
      simp only [nrm]
      refine list_call 21 #[.agg #[.slice pa pn pc, .slice qa qn qc], .agg #[.slice sa sn sc, .slice xa xn xc]] (by kernel_rfl) (by kernel_rfl) ((same12_ok L L1 X X1 pa sa qa xa pn pc sn sc qn qc xn xc y1 (unhide p1) (unhide b1) (unhide p2) (unhide b2) (by rw [unhide hqn]; omega)).mono ?_)
      rintro r y2 ⟨rfl, hg⟩
      refine ⟨_, rfl, ?_⟩
      rw [decide_eq_false hBB]
      replace hb := hide (hg.blk (unhide hb)); replace ha := hide (hg.blk (unhide ha)); replace b1 := hide ((unhide b1).gr hg); replace b2 := hide ((unhide b2).gr hg); replace a1 := hide ((unhide a1).gr hg); replace a2 := hide ((unhide a2).gr hg); replace hgg := hide (hg.blk (unhide hgg)); replace p1 := hide ((unhide p1).gr hg); replace p2 := hide ((unhide p2).gr hg); replace hX := hide ((unhide hX).more hg)
      clear hg
      simp only [nrm]
      refine list_val (.bool true) (by kernel_rfl) (by kernel_rfl) ?_
      simp only [nrm]
      refine list_val (.bool true) (by kernel_rfl) (by kernel_rfl) ?_
      simp only [nrm]
      refine list_val (.agg #[.slice pa pn pc, .slice qa qn qc]) (by kernel_rfl) (exec_arr _ 55 (.tmp 18) rfl gg (by kernel_rfl) #[.slice pa pn pc, .slice qa qn qc] 55 _ (unhide hgg) Tryz.underlying55 rfl (by rw [Tryz.infoTl]; rfl)) ?_
      simp only [nrm]
      refine list_val (.agg #[.slice ta tn tc, .slice ya yn yc]) (by kernel_rfl) (exec_arr _ 55 (.tmp 15) rfl ga (by kernel_rfl) #[.slice ta tn tc, .slice ya yn yc] 55 _ (unhide ha) Tryz.underlying55 rfl (by rw [Tryz.infoTl]; rfl)) ?_
      simp only [nrm]
      refine list_call 21 #[.agg #[.slice pa pn pc, .slice qa qn qc], .agg #[.slice ta tn tc, .slice ya yn yc]] (by kernel_rfl) (by kernel_rfl) ((same12_ok L L2 X X2 pa ta qa ya pn pc tn tc qn qc yn yc y2 (unhide p1) (unhide a1) (unhide p2) (unhide a2) (by rw [unhide hqn]; omega)).mono ?_)
      rintro r y3 ⟨rfl, hg⟩
      refine ⟨_, rfl, ?_⟩
      rw [decide_eq_true hA]
      replace hb := hide (hg.blk (unhide hb)); replace ha := hide (hg.blk (unhide ha)); replace b1 := hide ((unhide b1).gr hg); replace b2 := hide ((unhide b2).gr hg); replace a1 := hide ((unhide a1).gr hg); replace a2 := hide ((unhide a2).gr hg); replace hgg := hide (hg.blk (unhide hgg)); replace p1 := hide ((unhide p1).gr hg); replace p2 := hide ((unhide p2).gr hg); replace hX := hide ((unhide hX).more hg)
      clear hg
      simp only [nrm]
      refine list_val (.bool false) (by kernel_rfl) (by kernel_rfl) ?_
      simp only [nrm]
      refine list_val (.bool false) (by kernel_rfl) (by kernel_rfl) ?_
      simp only [nrm]
      refine list_val (.bool false) (by kernel_rfl) (by kernel_rfl) ?_
      simp only [nrm]
      refine wpList_nil ?_
      rename_i K1_ hK1_ K0_ hK0_
      refine hK0_ _ _ ?_
      refine wp_cond_false rfl ?_
      refine wp_skip ?_
      show K1_ _ _
      refine hK1_ _ _ ?_
      refine wp_code_eq (c := tailC) (by kernel_rfl) ?_
      exact cuts_tail v0 (unhide hf) Q (unhide hQ) (unhide hpan) F gd gg m E s L X y3 (unhide hX).xs.gr (unhide hX).xs.ls (unhide hF0) (unhide wd0) hm pa qa pn pc qn qc (unhide hgg) (unhide p1) (unhide p2) _ _ _ _ _ _ _ _ _ _ _ _ _ _ _ _ _ _ _ _ _ _ _ _ _ _ _ _ _ _ _ _ _ _ _ _ _ _ _ _ _ _ _ _ _ _ _ _ _ _ _ _ _ _ _ _ _ _ _ _ _ _ _ _ _ _ _ _ _ _ _ _ _ _ _ _ _ _ _ _ _ _ _ _ _ _ _ _ _ _ _ _ _ _ _ _ _ _ _ _ _ _ _ _ _ _ _ _ _ _ _ _ _ _ _ _ _ _ _ _ _ _ _ _ _ _ _ _ _ _ _ _ _ _ _ _ _ _ _ _ _ _ _ _ _ _ _ _ _ _ _ _ _ _ _ _ _ _ _ _ _ _ _ _ _ _ _ _ _ _ _ _ _ _ _ _ _ _ _ _ _ _ _ _ _ _ _ _ _ _ _ _ _ _ _ _ _ _ _ _ _ _ _ _ _ _ _ _ _
    · skip
      have hA := hC.resolve_left hBB
      clear hC
      go_upto_region 38 with fail
      refine wp_region_lit ?_
      refine list_val (.int .i64 7) (by kernel_rfl) (by kernel_rfl) ?_
      simp only [nrm]
      refine list_val (.bool false) (by kernel_rfl) (by kernel_rfl) ?_
      simp only [nrm]
      refine list_val (.bool false) (by kernel_rfl) (by kernel_rfl) ?_
      simp only [nrm]
      refine wpList_step fun K hK => ?_
      rw [if_neg (ne_true_of_eq_false (by kernel_rfl))]
      refine hK _ _ ?_
      clear hK K
      simp only [nrm]
      refine wpList_step fun K hK => ?_
      rw [if_neg (ne_true_of_eq_false (by kernel_rfl))]
      refine hK _ _ ?_
      clear hK K
      simp only [nrm]
      refine wpList_step fun K hK => ?_
      rw [if_neg (ne_true_of_eq_false (by kernel_rfl))]
      refine hK _ _ ?_
      clear hK K
      simp only [nrm]
      refine wpList_step fun K hK => ?_
      rw [if_neg (ne_true_of_eq_false (by kernel_rfl))]
      refine hK _ _ ?_
      clear hK K
      simp only [nrm]
      refine list_val (.bool false) (by kernel_rfl) (by kernel_rfl) ?_
      simp only [nrm]
      refine list_val (.bool false) (by kernel_rfl) (by kernel_rfl) ?_
      simp only [nrm]
      refine list_val (.agg #[.slice pa pn pc, .slice qa qn qc]) (by kernel_rfl) (exec_arr _ 55 (.tmp 18) rfl gg (by kernel_rfl) #[.slice pa pn pc, .slice qa qn qc] 55 _ (unhide hgg) Tryz.underlying55 rfl (by rw [Tryz.infoTl]; rfl)) ?_
      simp only [nrm]
      refine list_val (.agg #[.slice sa sn sc, .slice xa xn xc]) (by kernel_rfl) (exec_arr _ 55 (.tmp 13) rfl gb (by kernel_rfl) #[.slice sa sn sc, .slice xa xn xc] 55 _ (unhide hb) Tryz.underlying55 rfl (by rw [Tryz.infoTl]; rfl)) ?_
      simp only [nrm]
      refine list_call 21 #[.agg #[.slice pa pn pc, .slice qa qn qc], .agg #[.slice sa sn sc, .slice xa xn xc]] (by kernel_rfl) (by kernel_rfl) ((same12_ok L L1 X X1 pa sa qa xa pn pc sn sc qn qc xn xc u4 (unhide p1) (unhide b1) (unhide p2) (unhide b2) (by rw [unhide hqn]; omega)).mono ?_)
      rintro r y1 ⟨rfl, hg⟩
      refine ⟨_, rfl, ?_⟩
      rw [decide_eq_false hBB]
      replace hb := hide (hg.blk (unhide hb)); replace ha := hide (hg.blk (unhide ha)); replace b1 := hide ((unhide b1).gr hg); replace b2 := hide ((unhide b2).gr hg); replace a1 := hide ((unhide a1).gr hg); replace a2 := hide ((unhide a2).gr hg); replace hgg := hide (hg.blk (unhide hgg)); replace p1 := hide ((unhide p1).gr hg); replace p2 := hide ((unhide p2).gr hg); replace hX := hide ((unhide hX).more hg)
      clear hg
      simp only [nrm]
      refine list_val (.bool true) (by kernel_rfl) (by kernel_rfl) ?_
      simp only [nrm]
      refine list_val (.bool true) (by kernel_rfl) (by kernel_rfl) ?_
      simp only [nrm]
      refine list_val (.agg #[.slice pa pn pc, .slice qa qn qc]) (by kernel_rfl) (exec_arr _ 55 (.tmp 18) rfl gg (by kernel_rfl) #[.slice pa pn pc, .slice qa qn qc] 55 _ (unhide hgg) Tryz.underlying55 rfl (by rw [Tryz.infoTl]; rfl)) ?_
      simp only [nrm]
      refine list_val (.agg #[.slice ta tn tc, .slice ya yn yc]) (by kernel_rfl) (exec_arr _ 55 (.tmp 15) rfl ga (by kernel_rfl) #[.slice ta tn tc, .slice ya yn yc] 55 _ (unhide ha) Tryz.underlying55 rfl (by rw [Tryz.infoTl]; rfl)) ?_
      simp only [nrm]
      refine list_call 21 #[.agg #[.slice pa pn pc, .slice qa qn qc], .agg #[.slice ta tn tc, .slice ya yn yc]] (by kernel_rfl) (by kernel_rfl) ((same12_ok L L2 X X2 pa ta qa ya pn pc tn tc qn qc yn yc y1 (unhide p1) (unhide a1) (unhide p2) (unhide a2) (by rw [unhide hqn]; omega)).mono ?_)
      rintro r y2 ⟨rfl, hg⟩
      refine ⟨_, rfl, ?_⟩
      rw [decide_eq_true hA]
      replace hb := hide (hg.blk (unhide hb)); replace ha := hide (hg.blk (unhide ha)); replace b1 := hide ((unhide b1).gr hg); replace b2 := hide ((unhide b2).gr hg); replace a1 := hide ((unhide a1).gr hg); replace a2 := hide ((unhide a2).gr hg); replace hgg := hide (hg.blk (unhide hgg)); replace p1 := hide ((unhide p1).gr hg); replace p2 := hide ((unhide p2).gr hg); replace hX := hide ((unhide hX).more hg)
      clear hg
      simp only [nrm]
      refine list_val (.bool false) (by kernel_rfl) (by kernel_rfl) ?_
      simp only [nrm]
      refine list_val (.bool false) (by kernel_rfl) (by kernel_rfl) ?_
      simp only [nrm]
      refine list_val (.bool false) (by kernel_rfl) (by kernel_rfl) ?_
      simp only [nrm]
      refine wpList_nil ?_
      rename_i K1_ hK1_ K0_ hK0_
      refine hK0_ _ _ ?_
      refine wp_cond_false rfl ?_
      refine wp_skip ?_
      show K1_ _ _
      refine hK1_ _ _ ?_
      refine wp_code_eq (c := tailC) (by kernel_rfl) ?_
      exact cuts_tail v0 (unhide hf) Q (unhide hQ) (unhide hpan) F gd gg m E s L X y2 (unhide hX).xs.gr (unhide hX).xs.ls (unhide hF0) (unhide wd0) hm pa qa pn pc qn qc (unhide hgg) (unhide p1) (unhide p2) _ _ _ _ _ _ _ _ _ _ _ _ _ _ _ _ _ _ _ _ _ _ _ _ _ _ _ _ _ _ _ _ _ _ _ _ _ _ _ _ _ _ _ _ _ _ _ _ _ _ _ _ _ _ _ _ _ _ _ _ _ _ _ _ _ _ _ _ _ _ _ _ _ _ _ _ _ _ _ _ _ _ _ _ _ _ _ _ _ _ _ _ _ _ _ _ _ _ _ _ _ _ _ _ _ _ _ _ _ _ _ _ _ _ _ _ _ _ _ _ _ _ _ _ _ _ _ _ _ _ _ _ _ _ _ _ _ _ _ _ _ _ _ _ _ _ _ _ _ _ _ _ _ _ _ _ _ _ _ _ _ _ _ _ _ _ _ _ _ _ _ _ _ _ _ _ _ _ _ _ _ _ _ _ _ _ _ _ _ _ _ _ _ _ _ _ _ _ _ _ _ _ _ _ _ _ _ _ _
def fromIf (r : Nat) : Code → Option Code
  | .seq (.seq (.region i ops d) b) c => if i = r then some (.seq (.seq (.region i ops d) b) c) else (fromIf r b).orElse fun _ => fromIf r c
  | .seq a b => (fromIf r a).orElse fun _ => fromIf r b
  | .cond _ a b => (fromIf r a).orElse fun _ => fromIf r b
  | .loop c => fromIf r c
  | .block _ c => fromIf r c
  | .scope c => fromIf r c
  | _ => none
noncomputable def crashC : Code := ((Tryz.f4.body).bind (fromIf 30)).getD .skip
theorem exec_sbl {op : Oper} {a : Act} (w : World) (x : Operand) (ho : op.op = .load 49 x) (g i : Nat) (hx : a.eval x = .pointer (some ⟨g, i, none⟩)) (s : Option Addr) (n c : Nat) (hc : w.cell? ⟨g, i, none⟩ = some (.slice s n c)) : (execOp a.eval op).run Tryz.prog w = .ok (.value (.slice s n c)) w := by
  unfold execOp
  simp only [ho, hx, Instr.loadAt, Instr.sureAddr, Sem.run_bind, Sem.run_pure, Result.andThen_ok]
  go_simp
set_option maxHeartbeats 4000000 in
theorem cuts_crash (v0 : World) (hf : Fst v0) (Q : Exit → Act → World → Prop) (hQ : ∀ (t : Array Value) (w' : World), Gr v0 w' → t.getD 6 undef = .bool true → Q .ret ⟨t, []⟩ w') (hpan : ∀ c t t' d w, Q (.panic c) ⟨t, d⟩ w → Q (.panic c) ⟨t', d⟩ w) (F G H : List Nat) (l gs gd gb ga gc m : Nat) (A : Dk) (s' : Sup) (L' : List Int) (X' : List (List Int)) (bk : Bool) (v : World) (k : Xr v0 F G H l gs gd A s' L' X' bk v) (hA : A.Ok m) (hm : m ≤ 700000) (f : Int) (hbk : f = 7 → bk = true) (m0 : Int) (ka : Option Addr) (kn kp : Nat) (keep : List Bool) (hkn : kn ≤ 140737488351232) (hK : Kp v0 ka kn kp keep) (hgc : v.heap[gc]? = some (.cells #[.int .i64 m0, .slice ka kn kp] 51 (0, 0))) (s : Sup) (L : List Int) (X : List (List Int)) (wd : Wd (A.crashD keep) m s L X) (L1 L2 : List Int) (X1 X2 : List (List Int)) (sa xa ta ya : Option Addr) (sn sc xn xc tn tc yn yc : Nat) (P : World → Prop) (hP : P v) (hPg : ∀ a b, P a → Gr a b → P b) (hPc : ∀ a b F', Xr v0 F G H l gs gd A s' L' X' bk a → P a → Chg F F' a b → P b) (hPu : ∀ a, P a → a.heap[gb]? = some (.cells #[.slice sa sn sc, .slice xa xn xc] 55 (0, 0)) ∧ a.heap[ga]? = some (.cells #[.slice ta tn tc, .slice ya yn yc] 55 (0, 0)) ∧ Lb a sa sn sc L1 ∧ Lq a xa xn xc X1 ∧ Lb a ta tn tc L2 ∧ Lq a ya yn yc X2) (hcase : (f = 0 ∧ L = L2 ∧ X = X2) ∨ (f = 7 ∧ ((L = L1 ∧ X = X1) ∨ (L = L2 ∧ X = X2)))) (k0 k1 k2 k3 k4 k6 k8 k10 k11 k12 k16 k17 k18 k19 k20 k21 k22 k23 k24 k25 k26 k27 k28 k29 k30 k31 k32 k33 k34 k35 k36 k37 k38 k39 k40 k41 k42 k43 k44 k45 k46 k47 k48 k49 k50 k51 k52 k53 k54 k55 k56 k57 k58 k59 k60 k61 k62 k63 k64 k65 k66 k67 k68 k69 k70 k71 k72 k73 k74 k75 k76 k77 k78 k79 k80 k81 k82 k83 k84 k85 k86 k87 k88 k89 k90 k91 k92 k93 k94 k95 k96 k97 k98 k99 k100 k101 k102 k103 k104 k105 k106 k107 k108 k109 k110 k111 k112 k113 k114 k115 k116 k117 k118 k119 k120 k121 k122 k123 k124 k125 k126 k127 k128 k129 k130 k131 k132 k133 k134 k135 k136 k137 k138 k139 k140 k141 k142 k143 k144 k145 k146 k147 k148 k149 k150 k151 k152 k153 k154 k155 k156 k157 k158 k159 k160 k161 k162 k163 k164 k165 k166 k167 k168 k169 k170 k171 k172 k173 k174 k175 k176 k177 k178 k179 k180 k181 k182 k183 k184 k185 k186 k187 k188 k189 k190 k191 k192 k193 k194 k195 k196 k197 k198 k199 k200 k201 k202 k203 k204 k205 k206 k207 k208 k209 k210 : Value) : Code.wp Tryz.prog crashC Q ⟨#[k0, k1, k2, k3, k4, P0 gc, k6, P0 gd, k8, P0 l, k10, k11, k12, P0 gb, .int .i64 f, P0 ga, k16, k17, k18, k19, k20, k21, k22, k23, k24, k25, k26, k27, k28, k29, k30, k31, k32, k33, k34, k35, k36, k37, k38, k39, k40, k41, k42, k43, k44, k45, k46, k47, k48, k49, k50, k51, k52, k53, k54, k55, k56, k57, k58, k59, k60, k61, k62, k63, k64, k65, k66, k67, k68, k69, k70, k71, k72, k73, k74, k75, k76, k77, k78, k79, k80, k81, k82, k83, k84, k85, k86, k87, k88, k89, k90, k91, k92, k93, k94, k95, k96, k97, k98, k99, k100, k101, k102, k103, k104, k105, k106, k107, k108, k109, k110, k111, k112, k113, k114, k115, k116, k117, k118, k119, k120, k121, k122, k123, k124, k125, k126, k127, k128, k129, k130, k131, k132, k133, k134, k135, k136, k137, k138, k139, k140, k141, k142, k143, k144, k145, k146, k147, k148, k149, k150, k151, k152, k153, k154, k155, k156, k157, k158, k159, k160, k161, k162, k163, k164, k165, k166, k167, k168, k169, k170, k171, k172, k173, k174, k175, k176, k177, k178, k179, k180, k181, k182, k183, k184, k185, k186, k187, k188, k189, k190, k191, k192, k193, k194, k195, k196, k197, k198, k199, k200, k201, k202, k203, k204, k205, k206, k207, k208, k209, k210], []⟩ v := by
  conv => arg 2; whnf
  dsimp only
  have hK0 := hide hK
  have hX6 := hide k
  replace hQ := hide hQ; replace hpan := hide hpan; replace hf := hide hf; replace hA := hide hA; replace wd := hide wd; replace hgc := hide hgc; replace hP := hide hP; replace hPg := hide hPg; replace hPc := hide hPc; replace hPu := hide hPu; replace hcase := hide hcase; replace hbk := hide hbk
  clear hK k
  go_upto_region 30 with fail
  refine wp_region_lit ?_
  refine list_val (.pointer (some ⟨gd, 0, none⟩)) (by kernel_rfl) (by kernel_rfl) ?_
  simp only [nrm]
  refine list_valw (.slice (some ⟨v.heap.size, 0, none⟩) 0 0) (v.alloc (.cells #[] 4 (0, 0))) (by kernel_rfl) (by kernel_rfl) ?_
  have hor : Or_ 1 4 v.heap.size (v.alloc (.cells #[] 4 (0, 0))) (.slice (some ⟨v.heap.size, 0, none⟩) 0 0) [] := ⟨(fun r hr => by cases hr), rfl, .inr ⟨v.heap.size, 0, _, rfl, Nat.le_refl _, blk_new _ _, Nat.zero_le _, by unfold maxLen; omega, rfl, rfl⟩⟩
  have hG := (Gr.refl v).alloc (.cells #[] 4 (0, 0))
  have hX8 := hide ((unhide hX6).more hG)
  have hgc9 := hide (hG.blk (unhide hgc))
  generalize World.alloc _ _ = u9 at *
  simp only [nrm]
  refine list_val (.pointer (some ⟨gc, 1, none⟩)) (by kernel_rfl) (by kernel_rfl) ?_
  simp only [nrm]
  refine list_val (.slice ka kn kp) (by kernel_rfl) (exec_sbl _ (.tmp 127) rfl gc 1 (by kernel_rfl) ka kn kp (cell_of (unhide hgc9) (i := 1) rfl)) ?_
  simp only [nrm]
  refine wpList_step fun K_ hQ_ => ?_
  rw [if_pos (by kernel_rfl)]
  refine app_rows0 lt_k (.tmp 126) (.tmp 128) rfl v.heap.size _ [] rfl hor ka kn kp (keep.map fun b => [Value.bool b]) rfl (by rw [List.length_map]; exact (unhide hK0).len) (by intro r hr; obtain ⟨b, _, rfl⟩ := List.mem_map.1 hr; rfl) ?_ (by intro r hr u hu; obtain ⟨b, _, rfl⟩ := List.mem_map.1 hr; rw [List.mem_singleton] at hu; subst hu; rfl) (by simp only [List.length_nil, Nat.zero_add]; omega) hG.size ?_
  · rcases ((unhide hK0).gr (unhide hX8).gr).sl with h | ⟨p, o, h1, h2⟩
    · left
      rw [h]
      rfl
    · exact .inr ⟨p, o, h1, by rw [flat_bools]; exact h2⟩
  intro v2_ u10 hor2 hgr
  have hG2 := grown_owned hor.2 (Nat.le_refl _) hG hgr
  rw [List.nil_append] at hor2
  obtain ⟨a2, c2, rfl, hls⟩ := hor2.ls
  have hfr := hor2.fr (Nat.le_refl _)
  have hlen : (keep.map fun b => [Value.bool b]).length = kn := by rw [List.length_map]; exact (unhide hK0).len
  rw [hlen] at hls ⊢
  have hkp := hide hls.kp
  have hX9 := hide ((unhide hX6).more hG2)
  have hP9 := hide ((unhide hPg) _ _ (unhide hP) hG2)
  have hfar : ∀ i ∈ F, blkOf a2 ≠ some i := by
    intro i hi e
    rcases hfr i e with h | h
    · cases h
    · have := (unhide hX6).ls.lt i hi; omega
  replace hfar := hide hfar
  clear hor hor2 hgr hls hfr hG hG2 hlen hX8 hX6 hP hgc hgc9
  refine hQ_ _ _ ?_
  clear hQ_ K_
  simp only [nrm]
  refine list_call 22 #[P0 gd, .slice a2 kn c2] (by kernel_rfl) (by kernel_rfl) ((x_crash (unhide hX9) (unhide hA) (by omega) keep a2 kn c2 (unhide hkp) (.inr (unhide hfar))).mono ?_)
  rintro r u11 ⟨F7, rfl, hR7, hc7⟩
  have hP11 := hide ((unhide hPc) _ _ _ (unhide hX9) (unhide hP9) hc7)
  refine ⟨_, rfl, ?_⟩
  generalize A.crashD keep = C at *
  replace hR7 := hide hR7
  clear hX9 hP9 hc7 hkp hfar hPc hA
  simp only [nrm]
  refine list_val (.bool false) (by kernel_rfl) (by kernel_rfl) ?_
  simp only [nrm]
  refine wpList_nil ?_
  rcases unhide hcase with ⟨rfl, hA⟩ | ⟨rfl, hA⟩
  · skip
    go_upto_region 32 with fail
    refine wp_region_lit ?_
    refine list_val (.int .i64 0) (by kernel_rfl) (by kernel_rfl) ?_
    simp only [nrm]
    refine list_val (.bool false) (by kernel_rfl) (by kernel_rfl) ?_
    simp only [nrm]
    refine list_val_offs 8 (.bool false) (by kernel_rfl) (by kernel_rfl) (by kernel_rfl) ?_
    simp only [List.drop_succ_cons, List.drop_zero, List.take_succ_cons, List.take_zero, putU]
    simp only [nrm]
    refine list_val (.bool false) (by kernel_rfl) (by kernel_rfl) ?_
    simp only [nrm]
    refine wpList_nil ?_
    have hP12 := hP11
    rename_i K1_ hK1_ K0_ hK0_
    refine hK0_ _ _ ?_
    refine wp_cond_false rfl ?_
    refine wp_skip ?_
    show K1_ _ _
    refine hK1_ _ _ ?_
    refine wp_code_eq (c := foundC) (by kernel_rfl) ?_
    obtain ⟨w1, w2, w3, w4, w5, w6⟩ := (unhide hPu) _ (unhide hP12)
    exact cuts_found v0 (unhide hf) Q (unhide hQ) (unhide hpan) F7 gd gb ga m C s L X u11 (unhide hR7).gr (unhide hR7).ls (unhide hR7).oF (unhide wd) hm 0 L1 L2 X1 X2 sa xa ta ya sn sc xn xc tn tc yn yc w1 w2 w3 w4 w5 w6 (.inl ⟨rfl, hA⟩) _ _ _ _ _ _ _ _ _ _ _ _ _ _ _ _ _ _ _ _ _ _ _ _ _ _ _ _ _ _ _ _ _ _ _ _ _ _ _ _ _ _ _ _ _ _ _ _ _ _ _ _ _ _ _ _ _ _ _ _ _ _ _ _ _ _ _ _ _ _ _ _ _ _ _ _ _ _ _ _ _ _ _ _ _ _ _ _ _ _ _ _ _ _ _ _ _ _ _ _ _ _ _ _ _ _ _ _ _ _ _ _ _ _ _ _ _ _ _ _ _ _ _ _ _ _ _ _ _ _ _ _ _ _ _ _ _ _ _ _ _ _ _ _ _ _ _ _ _ _ _ _ _ _ _ _ _ _ _ _ _ _ _ _ _ _ _ _ _ _ _ _ _ _ _ _ _ _ _ _ _ _ _ _ _ _ _ _ _ _ _ _ _ _ _ _ _ _ _ _ _ _ _ _ _ _ _
  · skip
    have hb7 := (unhide hbk) rfl
    subst hb7
    go_upto_region 32 with fail
    refine wp_region_lit ?_
    refine list_val (.int .i64 7) (by kernel_rfl) (by kernel_rfl) ?_
    simp only [nrm]
    refine list_val (.bool true) (by kernel_rfl) (by kernel_rfl) ?_
    simp only [nrm]
    refine list_val (.bool true) (by kernel_rfl) (by kernel_rfl) ?_
    simp only [nrm]
    refine list_val (.pointer (some ⟨l, 0, none⟩)) (by kernel_rfl) (by kernel_rfl) ?_
    simp only [nrm]
    refine list_call 17 #[.pointer (some ⟨l, 0, none⟩), .slice none 0 0] (by kernel_rfl) (by kernel_rfl) ((lappend_dead H l gs L' X' none 0 0 _ (unhide hR7).lg).mono ?_)
    rintro r u12 ⟨rfl, hg⟩
    refine ⟨_, rfl, ?_⟩
    replace hR7 := hide ((unhide hR7).more hg)
    have hP11b := hide ((unhide hPg) _ _ (unhide hP11) hg)
    clear hg
    simp only [nrm]
    refine list_val (.bool false) (by kernel_rfl) (by kernel_rfl) ?_
    simp only [nrm]
    refine list_val (.bool false) (by kernel_rfl) (by kernel_rfl) ?_
    simp only [nrm]
    refine list_val (.pointer (some ⟨l, 0, none⟩)) (by kernel_rfl) (by kernel_rfl) ?_
    simp only [nrm]
    refine list_call 8 #[.pointer (some ⟨l, 0, none⟩), .slice none 0 0] (by kernel_rfl) (by kernel_rfl) ((lcheck_dead H l gs L' X' none 0 0 _ (unhide hR7).lg).mono ?_)
    rintro r u13 ⟨rfl, hg⟩
    refine ⟨_, rfl, ?_⟩
    replace hR7 := hide ((unhide hR7).more hg)
    have hP12 := hide ((unhide hPg) _ _ (unhide hP11b) hg)
    clear hg
    simp only [nrm]
    refine list_val (.bool false) (by kernel_rfl) (by kernel_rfl) ?_
    simp only [nrm]
    refine list_val (.bool false) (by kernel_rfl) (by kernel_rfl) ?_
    simp only [nrm]
    refine list_val (.bool false) (by kernel_rfl) (by kernel_rfl) ?_
    simp only [nrm]
    refine wpList_nil ?_
    rename_i K1_ hK1_ K0_ hK0_
    refine hK0_ _ _ ?_
    refine wp_cond_false rfl ?_
    refine wp_skip ?_
    show K1_ _ _
    refine hK1_ _ _ ?_
    refine wp_code_eq (c := foundC) (by kernel_rfl) ?_
    obtain ⟨w1, w2, w3, w4, w5, w6⟩ := (unhide hPu) _ (unhide hP12)
    exact cuts_found v0 (unhide hf) Q (unhide hQ) (unhide hpan) F7 gd gb ga m C s L X u13 (unhide hR7).gr (unhide hR7).ls (unhide hR7).oF (unhide wd) hm 7 L1 L2 X1 X2 sa xa ta ya sn sc xn xc tn tc yn yc w1 w2 w3 w4 w5 w6 (.inr ⟨rfl, hA⟩) _ _ _ _ _ _ _ _ _ _ _ _ _ _ _ _ _ _ _ _ _ _ _ _ _ _ _ _ _ _ _ _ _ _ _ _ _ _ _ _ _ _ _ _ _ _ _ _ _ _ _ _ _ _ _ _ _ _ _ _ _ _ _ _ _ _ _ _ _ _ _ _ _ _ _ _ _ _ _ _ _ _ _ _ _ _ _ _ _ _ _ _ _ _ _ _ _ _ _ _ _ _ _ _ _ _ _ _ _ _ _ _ _ _ _ _ _ _ _ _ _ _ _ _ _ _ _ _ _ _ _ _ _ _ _ _ _ _ _ _ _ _ _ _ _ _ _ _ _ _ _ _ _ _ _ _ _ _ _ _ _ _ _ _ _ _ _ _ _ _ _ _ _ _ _ _ _ _ _ _ _ _ _ _ _ _ _ _ _ _ _ _ _ _ _ _ _ _ _ _ _ _ _ _ _ _ _
noncomputable def checkC : Code := ((Tryz.f4.body).bind (fromIf 28)).getD .skip
set_option maxHeartbeats 4000000 in
theorem cuts_check (v0 : World) (hf : Fst v0) (Q : Exit → Act → World → Prop) (hQ : ∀ (t : Array Value) (w' : World), Gr v0 w' → t.getD 6 undef = .bool true → Q .ret ⟨t, []⟩ w') (hpan : ∀ c t t' d w, Q (.panic c) ⟨t, d⟩ w → Q (.panic c) ⟨t', d⟩ w) (F G H : List Nat) (l gs gd gb ga gc m : Nat) (A : Dk) (s' : Sup) (L' : List Int) (X' : List (List Int)) (bk : Bool) (v : World) (k : Xr v0 F G H l gs gd A s' L' X' bk v) (hA : A.Ok m) (hm : m ≤ 700000) (f : Int) (hbk : f = 7 → bk = true) (m0 : Int) (ka : Option Addr) (kn kp : Nat) (keep : List Bool) (hkn : kn ≤ 140737488351232) (hK : Kp v0 ka kn kp keep) (hgc : v.heap[gc]? = some (.cells #[.int .i64 m0, .slice ka kn kp] 51 (0, 0))) (s : Sup) (L : List Int) (X : List (List Int)) (wd : Wd (A.crashD keep) m s L X) (L1 L2 : List Int) (X1 X2 : List (List Int)) (sa xa ta ya : Option Addr) (sn sc xn xc tn tc yn yc : Nat) (P : World → Prop) (hP : P v) (hPg : ∀ a b, P a → Gr a b → P b) (hPc : ∀ a b F', Xr v0 F G H l gs gd A s' L' X' bk a → P a → Chg F F' a b → P b) (hPu : ∀ a, P a → a.heap[gb]? = some (.cells #[.slice sa sn sc, .slice xa xn xc] 55 (0, 0)) ∧ a.heap[ga]? = some (.cells #[.slice ta tn tc, .slice ya yn yc] 55 (0, 0)) ∧ Lb a sa sn sc L1 ∧ Lq a xa xn xc X1 ∧ Lb a ta tn tc L2 ∧ Lq a ya yn yc X2) (hcase : (f = 0 ∧ L = L2 ∧ X = X2) ∨ (f = 7 ∧ ((L = L1 ∧ X = X1) ∨ (L = L2 ∧ X = X2)))) (hx0 : f = 0 → L' = L2 ∧ X' = X2 ∧ X'.length ≤ 512) (k0 k1 k2 k3 k4 k6 k8 k10 k11 k12 k16 k17 k18 k19 k20 k21 k22 k23 k24 k25 k26 k27 k28 k29 k30 k31 k32 k33 k34 k35 k36 k37 k38 k39 k40 k41 k42 k43 k44 k45 k46 k47 k48 k49 k50 k51 k52 k53 k54 k55 k56 k57 k58 k59 k60 k61 k62 k63 k64 k65 k66 k67 k68 k69 k70 k71 k72 k73 k74 k75 k76 k77 k78 k79 k80 k81 k82 k83 k84 k85 k86 k87 k88 k89 k90 k91 k92 k93 k94 k95 k96 k97 k98 k99 k100 k101 k102 k103 k104 k105 k106 k107 k108 k109 k110 k111 k112 k113 k114 k115 k116 k117 k118 k119 k120 k121 k122 k123 k124 k125 k126 k127 k128 k129 k130 k131 k132 k133 k134 k135 k136 k137 k138 k139 k140 k141 k142 k143 k144 k145 k146 k147 k148 k149 k150 k151 k152 k153 k154 k155 k156 k157 k158 k159 k160 k161 k162 k163 k164 k165 k166 k167 k168 k169 k170 k171 k172 k173 k174 k175 k176 k177 k178 k179 k180 k181 k182 k183 k184 k185 k186 k187 k188 k189 k190 k191 k192 k193 k194 k195 k196 k197 k198 k199 k200 k201 k202 k203 k204 k205 k206 k207 k208 k209 k210 : Value) : Code.wp Tryz.prog checkC Q ⟨#[k0, k1, k2, k3, k4, P0 gc, k6, P0 gd, k8, P0 l, k10, k11, k12, P0 gb, .int .i64 f, P0 ga, k16, k17, k18, k19, k20, k21, k22, k23, k24, k25, k26, k27, k28, k29, k30, k31, k32, k33, k34, k35, k36, k37, k38, k39, k40, k41, k42, k43, k44, k45, k46, k47, k48, k49, k50, k51, k52, k53, k54, k55, k56, k57, k58, k59, k60, k61, k62, k63, k64, k65, k66, k67, k68, k69, k70, k71, k72, k73, k74, k75, k76, k77, k78, k79, k80, k81, k82, k83, k84, k85, k86, k87, k88, k89, k90, k91, k92, k93, k94, k95, k96, k97, k98, k99, k100, k101, k102, k103, k104, k105, k106, k107, k108, k109, k110, k111, k112, k113, k114, k115, k116, k117, k118, k119, k120, k121, k122, k123, k124, k125, k126, k127, k128, k129, k130, k131, k132, k133, k134, k135, k136, k137, k138, k139, k140, k141, k142, k143, k144, k145, k146, k147, k148, k149, k150, k151, k152, k153, k154, k155, k156, k157, k158, k159, k160, k161, k162, k163, k164, k165, k166, k167, k168, k169, k170, k171, k172, k173, k174, k175, k176, k177, k178, k179, k180, k181, k182, k183, k184, k185, k186, k187, k188, k189, k190, k191, k192, k193, k194, k195, k196, k197, k198, k199, k200, k201, k202, k203, k204, k205, k206, k207, k208, k209, k210], []⟩ v := by
  conv => arg 2; whnf
  dsimp only
  have hX := hide k
  replace hQ := hide hQ; replace hpan := hide hpan; replace hf := hide hf; replace hA := hide hA; replace wd := hide wd; replace hgc := hide hgc; replace hP := hide hP; replace hPg := hide hPg; replace hPc := hide hPc; replace hPu := hide hPu; replace hbk := hide hbk; replace hK := hide hK; replace hx0 := hide hx0
  clear k
  rcases hcase with ⟨rfl, hC⟩ | ⟨rfl, hC⟩
  · skip
    have h0 := (unhide hx0) rfl
    obtain ⟨e1, e2, h512⟩ := h0
    clear hx0
    replace e1 := hide e1; replace e2 := hide e2; replace hC := hide hC
    go_upto_region 28 with fail
    rename_i K1_ hK1_ K0_ hK0_
    refine any_start (S := fun (v : World) => v.heap[ga]? = some (.cells #[.slice ta tn tc, .slice ya yn yc] 55 (0, 0))) (by kernel_rfl) ?_
    replace hX := hide ((unhide hX).more (Gr.refl _).drew); replace hgc := hide ((Gr.refl _).drew.blk (unhide hgc)); replace hP := hide ((unhide hPg) _ _ (unhide hP) (Gr.refl _).drew)
    have hS : (fun (v : World) => v.heap[ga]? = some (.cells #[.slice ta tn tc, .slice ya yn yc] 55 (0, 0))) (World.drew _) := ((unhide hPu) _ (unhide hP)).2.1
    generalize World.drew _ = x1 at *
    simp only [List.size_toArray, List.length_cons, List.length_nil, Array.replicate, List.replicate]
    refine any_take (i := 0) (v := (.int .i64 0)) #[false, false, false, false, false, false, false, false, false] rfl (by kernel_rfl) (by kernel_rfl) (by kernel_rfl) (by kernel_rfl) (fun _ _ _ h => (unhide hpan) _ _ _ _ _ h) (.inl ⟨by kernel_rfl, fun x_ hu => by kernel_rfl⟩) hS ?_
    simp only [nrm]
    refine any_take (i := 1) (v := (.bool true)) #[true, false, false, false, false, false, false, false, false] rfl (by kernel_rfl) (by kernel_rfl) (by kernel_rfl) (by kernel_rfl) (fun _ _ _ h => (unhide hpan) _ _ _ _ _ h) (.inl ⟨by kernel_rfl, fun x_ hu => by kernel_rfl⟩) hS ?_
    simp only [nrm]
    refine any_take (i := 2) (v := (.bool true)) #[true, true, false, false, false, false, false, false, false] rfl (by kernel_rfl) (by kernel_rfl) (by kernel_rfl) (by kernel_rfl) (fun _ _ _ h => (unhide hpan) _ _ _ _ _ h) (.inl ⟨by kernel_rfl, fun x_ hu => by kernel_rfl⟩) hS ?_
    simp only [nrm]
    refine any_take (i := 3) (v := (.pointer (some ⟨l, 0, none⟩))) #[true, true, true, false, false, false, false, false, false] rfl (by kernel_rfl) (by kernel_rfl) (by kernel_rfl) (by kernel_rfl) (fun _ _ _ h => (unhide hpan) _ _ _ _ _ h) (.inl ⟨by kernel_rfl, fun x_ hu => by kernel_rfl⟩) hS ?_
    simp only [nrm]
    refine any_take (i := 5) (v := (.agg #[.slice ta tn tc, .slice ya yn yc])) #[true, true, true, true, false, false, false, false, false] rfl (by kernel_rfl) (by kernel_rfl) (by kernel_rfl) (by kernel_rfl) (fun _ _ _ h => (unhide hpan) _ _ _ _ _ h) (.inl ⟨by kernel_rfl, fun x_ hu => exec_arr _ 55 (.tmp 15) rfl ga (by kernel_rfl) #[.slice ta tn tc, .slice ya yn yc] 55 _ hu Tryz.underlying55 rfl (by rw [Tryz.infoTl]; rfl)⟩) hS ?_
    simp only [nrm]
    refine any_one (i := 4) (by kernel_rfl) rfl (fun K_ hQ => ?_)
    refine step_callw (by kernel_rfl) 19 #[P0 l] (by kernel_rfl) ((of12_ok x1 (unhide hX) h512).mono ?_)
    rintro r u2 ⟨ra, rn, rc, pa, pn, pc, rfl, hO1, hO2, hg⟩
    refine ⟨_, rfl, ?_⟩
    have hbb := (unhide hX).lg.li.1
    obtain ⟨ra2, rc2, er, hl1⟩ := hO1.lb hbb
    obtain ⟨ta2, tc2, et, hl2⟩ := hO2.lq
    injection er with er1 er2 er3
    injection et with et1 et2 et3
    subst er1 er3 et1 et3
    rw [← er2] at hl1
    rw [← et2] at hl2
    have hl1 := hide hl1
    have hl2 := hide hl2
    replace hX := hide ((unhide hX).more hg); replace hgc := hide (hg.blk (unhide hgc)); replace hP := hide ((unhide hPg) _ _ (unhide hP) hg)
    replace hS : (fun (v : World) => v.heap[ga]? = some (.cells #[.slice ta tn tc, .slice ya yn yc] 55 (0, 0))) u2 := ((unhide hPu) _ (unhide hP)).2.1
    have hpn : pn ≤ 512 := by rw [et2]; exact h512
    clear hg hO1 hO2 hbb er2 et2
    refine hQ.out _ _ hS (fun _ => ?_)
    clear hQ K_
    simp only [nrm]
    refine any_one (i := 6) (by kernel_rfl) rfl (fun K_ hQ => ?_)
    refine step_callw (by kernel_rfl) 21 #[.agg #[.slice ra rn rc, .slice pa pn pc], .agg #[.slice ta tn tc, .slice ya yn yc]] (by kernel_rfl) ((same12_ok L' L2 X' X2 ra ta pa ya rn rc tn tc pn pc yn yc u2 (unhide hl1) ((unhide hPu) _ (unhide hP)).2.2.2.2.1 (unhide hl2) ((unhide hPu) _ (unhide hP)).2.2.2.2.2 (by omega)).mono ?_)
    rintro r u3 ⟨rfl, hg⟩
    refine ⟨_, rfl, ?_⟩
    rw [decide_eq_true (⟨unhide e1, unhide e2⟩ : L' = L2 ∧ X' = X2)]
    replace hX := hide ((unhide hX).more hg); replace hgc := hide (hg.blk (unhide hgc)); replace hP := hide ((unhide hPg) _ _ (unhide hP) hg)
    replace hS : (fun (v : World) => v.heap[ga]? = some (.cells #[.slice ta tn tc, .slice ya yn yc] 55 (0, 0))) u3 := ((unhide hPu) _ (unhide hP)).2.1
    clear hg hl1 hl2
    refine hQ.out _ _ hS (fun _ => ?_)
    clear hQ K_
    simp only [nrm]
    refine any_take (i := 7) (v := (.bool false)) #[true, true, true, true, true, true, true, false, false] rfl (by kernel_rfl) (by kernel_rfl) (by kernel_rfl) (by kernel_rfl) (fun _ _ _ h => (unhide hpan) _ _ _ _ _ h) (.inl ⟨by kernel_rfl, fun x_ hu => by kernel_rfl⟩) hS ?_
    simp only [nrm]
    refine any_take (i := 8) (v := (.bool false)) #[true, true, true, true, true, true, true, true, false] rfl (by kernel_rfl) (by kernel_rfl) (by kernel_rfl) (by kernel_rfl) (fun _ _ _ h => (unhide hpan) _ _ _ _ _ h) (.inl ⟨by kernel_rfl, fun x_ hu => by kernel_rfl⟩) hS ?_
    simp only [nrm]
    refine any_done (by kernel_rfl) ?_
    clear hS
    refine hK0_ _ _ ?_
    refine wp_cond_false rfl ?_
    refine wp_skip ?_
    show K1_ _ _
    refine hK1_ _ _ ?_
    refine wp_code_eq (c := crashC) (by kernel_rfl) ?_
    exact cuts_crash v0 (unhide hf) Q (unhide hQ) (unhide hpan) F G H l gs gd gb ga gc m A s' L' X' bk u3 (unhide hX) (unhide hA) hm 0 (unhide hbk) m0 ka kn kp keep hkn (unhide hK) (unhide hgc) s L X (unhide wd) L1 L2 X1 X2 sa xa ta ya sn sc xn xc tn tc yn yc P (unhide hP) (unhide hPg) (unhide hPc) (unhide hPu) (.inl ⟨rfl, unhide hC⟩) _ _ _ _ _ _ _ _ _ _ _ _ _ _ _ _ _ _ _ _ _ _ _ _ _ _ _ _ _ _ _ _ _ _ _ _ _ _ _ _ _ _ _ _ _ _ _ _ _ _ _ _ _ _ _ _ _ _ _ _ _ _ _ _ _ _ _ _ _ _ _ _ _ _ _ _ _ _ _ _ _ _ _ _ _ _ _ _ _ _ _ _ _ _ _ _ _ _ _ _ _ _ _ _ _ _ _ _ _ _ _ _ _ _ _ _ _ _ _ _ _ _ _ _ _ _ _ _ _ _ _ _ _ _ _ _ _ _ _ _ _ _ _ _ _ _ _ _ _ _ _ _ _ _ _ _ _ _ _ _ _ _ _ _ _ _ _ _ _ _ _ _ _ _ _ _ _ _ _ _ _ _ _ _ _ _ _ _ _ _ _ _ _ _ _ _ _ _ _ _ _ _ _ _ _
  · skip
    clear hx0
    replace hC := hide hC
    go_upto_region 28 with fail
    rename_i K1_ hK1_ K0_ hK0_
    refine any_start (S := fun _ => True) (by kernel_rfl) ?_
    replace hX := hide ((unhide hX).more (Gr.refl _).drew); replace hgc := hide ((Gr.refl _).drew.blk (unhide hgc)); replace hP := hide ((unhide hPg) _ _ (unhide hP) (Gr.refl _).drew)
    generalize World.drew _ = x1 at *
    simp only [List.size_toArray, List.length_cons, List.length_nil, Array.replicate, List.replicate]
    refine any_take (i := 0) (v := (.int .i64 7)) #[false, false, false, false, false, false, false, false, false] rfl (by kernel_rfl) (by kernel_rfl) (by kernel_rfl) (by kernel_rfl) (fun _ _ _ h => (unhide hpan) _ _ _ _ _ h) (.inl ⟨by kernel_rfl, fun x_ hu => by kernel_rfl⟩) trivial ?_
    simp only [nrm]
    refine any_take (i := 1) (v := (.bool false)) #[true, false, false, false, false, false, false, false, false] rfl (by kernel_rfl) (by kernel_rfl) (by kernel_rfl) (by kernel_rfl) (fun _ _ _ h => (unhide hpan) _ _ _ _ _ h) (.inl ⟨by kernel_rfl, fun x_ hu => by kernel_rfl⟩) trivial ?_
    simp only [nrm]
    refine any_take (i := 2) (v := (.bool false)) #[true, true, false, false, false, false, false, false, false] rfl (by kernel_rfl) (by kernel_rfl) (by kernel_rfl) (by kernel_rfl) (fun _ _ _ h => (unhide hpan) _ _ _ _ _ h) (.inl ⟨by kernel_rfl, fun x_ hu => by kernel_rfl⟩) trivial ?_
    simp only [nrm]
    refine any_take (i := 3) (v := undef) #[true, true, true, false, false, false, false, false, false] rfl (by kernel_rfl) (by kernel_rfl) (by kernel_rfl) (by kernel_rfl) (fun _ _ _ h => (unhide hpan) _ _ _ _ _ h) (.inr ⟨by kernel_rfl, rfl⟩) trivial ?_
    simp only [nrm]
    refine any_take (i := 4) (v := undef) #[true, true, true, true, false, false, false, false, false] rfl (by kernel_rfl) (by kernel_rfl) (by kernel_rfl) (by kernel_rfl) (fun _ _ _ h => (unhide hpan) _ _ _ _ _ h) (.inr ⟨by kernel_rfl, rfl⟩) trivial ?_
    simp only [nrm]
    refine any_take (i := 5) (v := undef) #[true, true, true, true, true, false, false, false, false] rfl (by kernel_rfl) (by kernel_rfl) (by kernel_rfl) (by kernel_rfl) (fun _ _ _ h => (unhide hpan) _ _ _ _ _ h) (.inr ⟨by kernel_rfl, rfl⟩) trivial ?_
    simp only [nrm]
    refine any_take (i := 6) (v := undef) #[true, true, true, true, true, true, false, false, false] rfl (by kernel_rfl) (by kernel_rfl) (by kernel_rfl) (by kernel_rfl) (fun _ _ _ h => (unhide hpan) _ _ _ _ _ h) (.inr ⟨by kernel_rfl, rfl⟩) trivial ?_
    simp only [nrm]
    refine any_take (i := 7) (v := undef) #[true, true, true, true, true, true, true, false, false] rfl (by kernel_rfl) (by kernel_rfl) (by kernel_rfl) (by kernel_rfl) (fun _ _ _ h => (unhide hpan) _ _ _ _ _ h) (.inr ⟨by kernel_rfl, rfl⟩) trivial ?_
    simp only [nrm]
    refine any_take (i := 8) (v := (.bool false)) #[true, true, true, true, true, true, true, true, false] rfl (by kernel_rfl) (by kernel_rfl) (by kernel_rfl) (by kernel_rfl) (fun _ _ _ h => (unhide hpan) _ _ _ _ _ h) (.inl ⟨by kernel_rfl, fun x_ hu => by kernel_rfl⟩) trivial ?_
    simp only [nrm]
    refine any_done (by kernel_rfl) ?_
    refine hK0_ _ _ ?_
    refine wp_cond_false rfl ?_
    refine wp_skip ?_
    show K1_ _ _
    refine hK1_ _ _ ?_
    refine wp_code_eq (c := crashC) (by kernel_rfl) ?_
    exact cuts_crash v0 (unhide hf) Q (unhide hQ) (unhide hpan) F G H l gs gd gb ga gc m A s' L' X' bk x1 (unhide hX) (unhide hA) hm 7 (unhide hbk) m0 ka kn kp keep hkn (unhide hK) (unhide hgc) s L X (unhide wd) L1 L2 X1 X2 sa xa ta ya sn sc xn xc tn tc yn yc P (unhide hP) (unhide hPg) (unhide hPc) (unhide hPu) (.inr ⟨rfl, unhide hC⟩) _ _ _ _ _ _ _ _ _ _ _ _ _ _ _ _ _ _ _ _ _ _ _ _ _ _ _ _ _ _ _ _ _ _ _ _ _ _ _ _ _ _ _ _ _ _ _ _ _ _ _ _ _ _ _ _ _ _ _ _ _ _ _ _ _ _ _ _ _ _ _ _ _ _ _ _ _ _ _ _ _ _ _ _ _ _ _ _ _ _ _ _ _ _ _ _ _ _ _ _ _ _ _ _ _ _ _ _ _ _ _ _ _ _ _ _ _ _ _ _ _ _ _ _ _ _ _ _ _ _ _ _ _ _ _ _ _ _ _ _ _ _ _ _ _ _ _ _ _ _ _ _ _ _ _ _ _ _ _ _ _ _ _ _ _ _ _ _ _ _ _ _ _ _ _ _ _ _ _ _ _ _ _ _ _ _ _ _ _ _ _ _ _ _ _ _ _ _ _ _ _ _ _ _ _
section
variable {P : Program} {md : Region.Mode} {Q : Exit → Act → World → Prop}
def putF : List Oper → Nat → (Nat → Value) → (Nat → Bool) → Act → Act
  | [], _, _, _, a => a
  | o :: r, i, f, l, a => putF r (i + 1) f l (if l i then a.put o.dst (f i) else a)
def noD (d : Option Tmp) (r : List Oper) : Bool := r.all fun o => d.isNone || !(o.dst == d)
def distD : List Oper → Bool
  | [] => true
  | o :: r => noD o.dst r && distD r
def updF {α : Type} (f : Nat → α) (i : Nat) (v : α) : Nat → α := fun j => if j = i then v else f j
theorem noD_at {d : Option Tmp} {r : List Oper} (h : noD d r = true) {o : Oper} (ho : o ∈ r) : ∀ t, d = some t → o.dst ≠ some t := by
  intro t e
  subst e
  have h1 := List.all_eq_true.1 h o ho
  simpa using h1
theorem putF_congr : ∀ (r : List Oper) (i : Nat) (f g : Nat → Value) (l m : Nat → Bool) (a : Act), (∀ j, i ≤ j → f j = g j ∧ l j = m j) → putF r i f l a = putF r i g m a
  | [], _, _, _, _, _, _, _ => rfl
  | o :: r, i, f, g, l, m, a, h => by
    unfold putF
    rw [(h i (Nat.le_refl _)).1, (h i (Nat.le_refl _)).2]
    exact putF_congr r (i + 1) f g l m _ (fun j hj => h j (by omega))
theorem putF_put : ∀ (r : List Oper) (i : Nat) (f : Nat → Value) (l : Nat → Bool) (a : Act) (d : Option Tmp) (v : Value), noD d r = true → (putF r i f l a).put d v = putF r i f l (a.put d v)
  | [], _, _, _, _, _, _, _ => rfl
  | o :: r, i, f, l, a, d, v, h => by
    unfold putF
    have h2 : noD d r = true := by
      simp only [noD, List.all_cons, Bool.and_eq_true] at h
      exact h.2
    rw [putF_put r (i + 1) f l _ d v h2]
    by_cases hl : l i = true
    · rw [if_pos hl, if_pos hl, Act.put_comm]
      intro t e1 e2
      exact noD_at h List.mem_cons_self t e2 e1
    · rw [if_neg hl, if_neg hl]
theorem putF_set : ∀ (r : List Oper) (i j : Nat) (f : Nat → Value) (l : Nat → Bool) (a : Act) (o : Oper) (v : Value), distD r = true → r[j]? = some o → l (i + j) = false → (putF r i f l a).put o.dst v = putF r i (updF f (i + j) v) (updF l (i + j) true) a
  | [], _, _, _, _, _, _, _, _, h, _ => by cases h
  | o' :: r, i, 0, f, l, a, o, v, hd, ho, hl => by
    simp only [List.getElem?_cons_zero, Option.some.injEq] at ho
    subst ho
    simp only [distD, Bool.and_eq_true] at hd
    unfold putF
    simp only [Nat.add_zero] at hl ⊢
    rw [if_neg (by rw [hl]; decide), if_pos (by simp [updF]), putF_put r _ _ _ _ _ _ hd.1]
    have e : updF f i v i = v := by simp [updF]
    rw [e]
    refine putF_congr r _ _ _ _ _ _ (fun q hq => ?_)
    unfold updF
    rw [if_neg (by omega), if_neg (by omega)]
    exact ⟨rfl, rfl⟩
  | o' :: r, i, j + 1, f, l, a, o, v, hd, ho, hl => by
    simp only [List.getElem?_cons_succ] at ho
    simp only [distD, Bool.and_eq_true] at hd
    unfold putF
    have e : i + (j + 1) = i + 1 + j := by omega
    rw [e] at hl ⊢
    rw [putF_set r (i + 1) j f l _ o v hd.2 ho hl]
    have e1 : updF f (i + 1 + j) v i = f i := if_neg (by omega)
    have e2 : updF l (i + 1 + j) true i = l i := if_neg (by omega)
    rw [e1, e2]
theorem putF_tmps : ∀ (r : List Oper) (i : Nat) (f : Nat → Value) (l : Nat → Bool) (a : Act) (k : Nat), noD (some k) r = true → (putF r i f l a).tmps.getD k undef = a.tmps.getD k undef
  | [], _, _, _, _, _, _ => rfl
  | o :: r, i, f, l, a, k, h => by
    have h2 : noD (some k) r = true := by
      simp only [noD, List.all_cons, Bool.and_eq_true] at h
      exact h.2
    have h1 : o.dst ≠ some k := noD_at h List.mem_cons_self k rfl
    unfold putF
    rw [putF_tmps r (i + 1) f l _ k h2]
    by_cases hl : l i = true
    · rw [if_pos hl]
      unfold Act.put
      cases hd : o.dst with
      | none => rfl
      | some d =>
        have hne : d ≠ k := fun e => h1 (by rw [hd, e])
        simp [Array.getD_eq_getD_getElem?, Array.getElem?_setIfInBounds, hne]
    · rw [if_neg hl]
theorem putF_at : ∀ (r : List Oper) (i j : Nat) (f : Nat → Value) (l : Nat → Bool) (a : Act) (o : Oper) (k : Nat), distD r = true → r[j]? = some o → o.dst = some k → l (i + j) = true → k < a.tmps.size → (putF r i f l a).tmps.getD k undef = f (i + j)
  | [], _, _, _, _, _, _, _, _, h, _, _, _ => by cases h
  | o' :: r, i, 0, f, l, a, o, k, hd, ho, hk, hl, hs => by
    simp only [List.getElem?_cons_zero, Option.some.injEq] at ho
    subst ho
    simp only [distD, Bool.and_eq_true] at hd
    unfold putF
    rw [Nat.add_zero] at hl ⊢
    rw [hk] at hd
    rw [if_pos hl, putF_tmps r _ _ _ _ _ hd.1]
    unfold Act.put
    rw [hk]
    simp [Array.getD_eq_getD_getElem?, Array.getElem?_setIfInBounds, hs]
  | o' :: r, i, j + 1, f, l, a, o, k, hd, ho, hk, hl, hs => by
    simp only [List.getElem?_cons_succ] at ho
    simp only [distD, Bool.and_eq_true] at hd
    unfold putF
    have e : i + (j + 1) = i + 1 + j := by omega
    rw [e] at hl ⊢
    refine putF_at r (i + 1) j f l _ o k hd.2 ho hk hl ?_
    by_cases h9 : l i = true
    · rw [if_pos h9]
      unfold Act.put
      cases o'.dst <;> simpa using hs
    · rw [if_neg h9]
      exact hs
def earlier (md : Region.Mode) (r : List Oper) (i : Nat) : Bool :=
  match r with
  | [] => true
  | o :: r => (o.after.all fun e => !Region.binds md e || decide (e.on < i)) && earlier md r (i + 1)
theorem earlier_at : ∀ (r : List Oper) (i j : Nat) (o : Oper), earlier md r i = true → r[j]? = some o → ∀ e ∈ o.after, Region.binds md e = true → e.on < i + j
  | [], _, _, _, _, h => by cases h
  | o' :: r, i, 0, o, h, ho => by
    simp only [List.getElem?_cons_zero, Option.some.injEq] at ho
    subst ho
    simp only [earlier, Bool.and_eq_true] at h
    intro e he hb
    have h1 := Array.all_eq_true'.1 h.1 e he
    rw [hb] at h1
    simpa using h1
  | o' :: r, i, j + 1, o, h, ho => by
    simp only [List.getElem?_cons_succ] at ho
    simp only [earlier, Bool.and_eq_true] at h
    have := earlier_at r (i + 1) j o h.2 ho
    intro e he hb
    have := this e he hb
    omega
def upL (l : Array Bool) : Nat → Bool := fun i => l.getD i false
theorem up_set {l : Array Bool} {i : Nat} (h : i < l.size) : upL (l.setIfInBounds i true) = updF (upL l) i true := by
  funext j
  unfold upL updF
  by_cases e : j = i
  · subst e
    simp [Array.getD_eq_getD_getElem?, Array.getElem?_setIfInBounds, h]
  · rw [if_neg e]
    have e2 : ¬ i = j := fun e' => e e'.symm
    simp [Array.getD_eq_getD_getElem?, Array.getElem?_setIfInBounds, e2]
def Pre (md : Region.Mode) (o : Oper) (l : Nat → Bool) : Prop := (o.after.all fun e => !Region.binds md e || l e.on) = true
def Cls (L : List Oper) (l : Nat → Bool) : Prop := ∀ j o, L[j]? = some o → l j = true → Pre .any o l
theorem Pre.mono {o : Oper} {l : Nat → Bool} (h : Pre .any o l) (i : Nat) : Pre .any o (updF l i true) := by
  unfold Pre at *
  rw [Array.all_eq_true'] at *
  intro e he
  have h1 := h e he
  unfold updF
  split
  · simp
  · exact h1
theorem flow {id : Nat} {L : List Oper} {a : Act} {w : World} (J : (Nat → Bool) → (Nat → Value) → World → Prop) (hm : P.follows .mixedOrders = true) (hd : distD L = true) (he : earlier .any L 0 = true)
    (h0 : J (fun _ => false) (fun _ => undef) w.drew)
    (step : ∀ i o l f v, L[i]? = some o → l i = false → Pre .any o l → Cls L l → J l f v → ∀ K : Act → World → Prop, (∀ x v', J (updF l i true) (updF f i x) v' → K ((putF L 0 f l a).put o.dst x) v') → wpOp P L.toArray Q i K (putF L 0 f l a) v)
    (fin : ∀ l f v, (∀ i, i < L.length → l i = true) → J l f v → Q .normal (putF L 0 f (fun _ => true) a) v) : (Code.region id L.toArray true).wp P Q a w := by
  refine any_start (S := fun _ => True) hm ?_
  have key : ∀ (n : Nat) (l : Array Bool) (f : Nat → Value) (v : World), (l.toList.filter (!·)).length = n → l.size = L.length → Cls L (upL l) → J (upL l) f v → Any P .any L.toArray Q (fun _ => True) l (putF L 0 f (upL l) a) v := by
    intro n
    induction n with
    | zero =>
      intro l f v hn hs hcl hJ
      have hall : ∀ i, i < L.length → upL l i = true := by
        intro i hi
        unfold upL
        rw [Array.getD_eq_getD_getElem?, Array.getElem?_eq_getElem (by omega)]
        have hq : ∀ b ∈ l.toList, b = true := by
          intro b hb
          have := List.eq_nil_of_length_eq_zero hn
          rw [List.filter_eq_nil_iff] at this
          simpa using this b hb
        exact hq _ (by simp)
      have hr : Region.ready .any L.toArray l = [] := by
        unfold Region.ready
        rw [List.filter_eq_nil_iff]
        intro i hi
        rw [List.mem_range] at hi
        have := hall i (by simpa using hi)
        unfold upL at this
        rw [Array.getD_eq_getD_getElem?, Array.getElem?_eq_getElem (by simp at hi; omega)] at this
        simp at this
        simp [Array.getD_eq_getD_getElem?, show i < l.size by simp at hi; omega, this]
      refine any_done hr ?_
      have := fin (upL l) f v hall hJ
      have e : putF L 0 f (upL l) a = putF L 0 f (fun _ => true) a := by
        have h2 : ∀ (r : List Oper) (i : Nat) (a : Act), i + r.length = L.length → putF r i f (upL l) a = putF r i f (fun _ => true) a := by
          intro r
          induction r with
          | nil => intros; rfl
          | cons o r ih =>
            intro i a hi
            unfold putF
            rw [hall i (by simp at hi; omega)]
            exact ih (i + 1) _ (by simp at hi ⊢; omega)
        exact h2 L 0 a (by simp)
      rw [e]
      exact this
    | succ n ih =>
      intro l f v hn hs hcl hJ
      intro fuel hfu
      obtain ⟨fu, rfl⟩ : ∃ k, fuel = k + 1 := ⟨fuel - 1, by omega⟩
      have hex : ∃ i, i < L.length ∧ upL l i = false := by
        refine Classical.byContradiction fun hno => ?_
        have hall : ∀ b ∈ l.toList, b = true := by
          intro b hb
          obtain ⟨i, hi, rfl⟩ := List.getElem_of_mem hb
          cases hq : l.toList[i] with
          | true => rfl
          | false =>
            refine absurd ⟨i, by simp at hi; omega, ?_⟩ hno
            unfold upL
            rw [Array.getD_eq_getD_getElem?, ← Array.getElem?_toList, List.getElem?_eq_getElem hi, hq]
            rfl
        have : l.toList.filter (!·) = [] := by
          rw [List.filter_eq_nil_iff]
          intro b hb
          simp [hall b hb]
        rw [this] at hn
        cases hn
      have hne : Region.ready .any L.toArray l ≠ [] := by
        have hmin : ∃ i, (i < L.length ∧ upL l i = false) ∧ ∀ j, j < i → ¬ (j < L.length ∧ upL l j = false) := by
          obtain ⟨i, hi⟩ := hex
          induction i using Nat.strongRecOn with
          | _ i ihh =>
            by_cases hb : ∃ j, j < i ∧ (j < L.length ∧ upL l j = false)
            · obtain ⟨j, h1, h2⟩ := hb
              exact ihh j h1 h2
            · exact ⟨i, hi, fun j hj h => hb ⟨j, hj, h⟩⟩
        obtain ⟨i, ⟨hi1, hi2⟩, hlow⟩ := hmin
        intro hnil
        have hmem : i ∈ Region.ready .any L.toArray l := by
          unfold Region.ready
          rw [List.mem_filter, List.mem_range]
          refine ⟨by simpa using hi1, ?_⟩
          have g1 : l.getD i true = false := by
            unfold upL at hi2
            rw [Array.getD_eq_getD_getElem?, Array.getElem?_eq_getElem (by omega)] at hi2 ⊢
            exact hi2
          rw [g1]
          have g2 : L.toArray[i]? = some L[i] := by simp [hi1]
          rw [g2]
          simp only [Option.map_some, Option.getD_some, Bool.not_false, Bool.true_and]
          rw [Array.all_eq_true']
          intro e hee
          by_cases hb : Region.binds .any e = true
          · have hlt := earlier_at L 0 i L[i] he (by simp [hi1]) e hee hb
            have := hlow e.on (by omega)
            rw [hb]
            simp only [Bool.not_true, Bool.false_or]
            cases hx : l.getD e.on false with
            | true => rfl
            | false => exact absurd ⟨by omega, hx⟩ this
          · simp [hb]
        rw [hnil] at hmem
        cases hmem
      refine ⟨fun h => absurd h hne, fun i hi => ?_⟩
      obtain ⟨g1, o, g2, g3⟩ := mem_ready.1 hi
      have g4 : L[i]? = some o := by simpa using g2
      have hil : i < L.length := by
        rcases Nat.lt_or_ge i L.length with h | h
        · exact h
        · rw [List.getElem?_eq_none h] at g4
          cases g4
      have g5 : upL l i = false := by
        unfold upL
        rw [Array.getD_eq_getD_getElem?, Array.getElem?_eq_getElem (by omega)] at g1 ⊢
        exact g1
      have g6 : Pre .any o (upL l) := by
        unfold Pre
        rw [Array.all_eq_true']
        intro e hee
        unfold upL
        by_cases hb : Region.binds .any e = true
        · rw [hb]
          simpa using g3 e hee hb
        · simp [hb]
      refine step i o (upL l) f v g4 g5 g6 hcl hJ _ ?_
      · intro x v' hJ'
        refine ⟨trivial, ?_⟩
        have hcl' : Cls L (updF (upL l) i true) := by
          intro j o' hj hl
          by_cases e : j = i
          · subst e
            rw [g4] at hj
            cases hj
            exact g6.mono _
          · exact (hcl j o' hj (by unfold updF at hl; rw [if_neg e] at hl; exact hl)).mono _
        rw [← up_set (by omega)] at hcl'
        have e1 := putF_set L 0 i f (upL l) a o x hd g4 (by rw [Nat.zero_add]; exact g5)
        rw [Nat.zero_add, ← up_set (by omega)] at e1
        rw [e1]
        rw [← up_set (by omega)] at hJ'
        have hcount := left_of g1
        exact ih (l.setIfInBounds i true) _ v' (by omega) (by simpa using hs) hcl' hJ' fu (by omega)
  have hz : upL (Array.replicate L.toArray.size false) = fun _ => false := by
    funext i
    unfold upL
    by_cases h : i < L.length <;> simp [Array.getD_eq_getD_getElem?, Array.getElem?_replicate, h]
  have hk := key _ (Array.replicate L.toArray.size false) (fun _ => undef) w.drew rfl (by simp) (by rw [hz]; intro j o _ h; cases h) (by rw [hz]; exact h0)
  rw [hz] at hk
  have hp : ∀ (r : List Oper) (i : Nat) (a : Act), putF r i (fun _ => undef) (fun _ => false) a = a := by
    intro r
    induction r with
    | nil => intros; rfl
    | cons o r ih => intro i a; unfold putF; exact ih _ _
  rw [hp] at hk
  exact hk
theorem ev_at {L : List Oper} {f : Nat → Value} {l : Nat → Bool} {a : Act} (j k : Nat) (o : Oper) (hd : distD L = true) (ho : L[j]? = some o) (hk : o.dst = some k) (hl : l j = true) (hs : k < a.tmps.size) : (putF L 0 f l a).eval (.tmp k) = f j := by
  have := putF_at L 0 j f l a o k hd ho hk (by rw [Nat.zero_add]; exact hl) hs
  rw [Nat.zero_add] at this
  exact this
theorem ev_off {L : List Oper} {f : Nat → Value} {l : Nat → Bool} {a : Act} (k : Nat) (h : noD (some k) L = true) : (putF L 0 f l a).eval (.tmp k) = a.eval (.tmp k) := putF_tmps L 0 f l a k h
theorem op_val {L : List Oper} {o : Oper} {i : Nat} {a : Act} {w w' : World} {K : Act → World → Prop} (x : Value) (ho : L[i]? = some o) (hg : o.guard = none) (hx : (execOp a.eval o).run P w = .ok (.value x) w') (h : K (a.put o.dst x) w') : wpOp P L.toArray Q i K a w := by
  unfold wpOp
  have : L.toArray[i]? = some o := by simpa using ho
  rw [this]
  dsimp only
  have hw : Region.wanted o (yielded L.toArray a.tmps) = true := by unfold Region.wanted; rw [hg]
  rw [if_pos hw]
  refine .inl ?_
  unfold Oper.wp
  rw [hx]
  exact h
theorem op_wp {L : List Oper} {o : Oper} {i : Nat} {a : Act} {w : World} {K : Act → World → Prop} (ho : L[i]? = some o) (hg : o.guard = none) (h : Oper.wp P o a w K Q) : wpOp P L.toArray Q i K a w := by
  unfold wpOp
  have : L.toArray[i]? = some o := by simpa using ho
  rw [this]
  dsimp only
  have hw : Region.wanted o (yielded L.toArray a.tmps) = true := by unfold Region.wanted; rw [hg]
  rw [if_pos hw]
  exact .inl h
theorem op_call {L : List Oper} {o : Oper} {i : Nat} {a : Act} {w : World} {K : Act → World → Prop} (fn : FuncId) (args : Array Value) (ho : L[i]? = some o) (hg : o.guard = none) (hx : (execOp a.eval o).run P w = .ok (.enter fn args) w) (hc : Calls P fn args w fun e w' => ∃ x, e = .returned x ∧ K (a.put o.dst x) w') : wpOp P L.toArray Q i K a w := by
  refine op_wp ho hg ?_
  unfold Oper.wp
  rw [hx]
  refine hc.mono ?_
  rintro e w' ⟨x, rfl, h⟩
  exact h
end
theorem pre_at {o : Oper} {l : Nat → Bool} (hp : Pre .any o l) (k : Nat) (hk : (o.after.any fun e => Region.binds .any e && e.on == k) = true) : l k = true := by
  obtain ⟨e, he, h⟩ := Array.any_eq_true'.1 hk
  rw [Bool.and_eq_true] at h
  have h2 := Array.all_eq_true'.1 hp e he
  rw [h.1] at h2
  have h3 : e.on = k := by simpa using h.2
  rw [h3] at h2
  simpa using h2
noncomputable def afterC : Code := ((Tryz.f4.body).bind (fromReg 25)).getD .skip
theorem Tryz.infoOp12 : (Tryz.prog.info? 48).map (·.size) = some 2 := by kernel_rfl
theorem x25_f {a : Act} {o : Oper} (w : World) (g : Nat) (x : Operand) (k : Nat) (hk : k < 2) (ho : o.op = .fieldAddr 55 x k) (hx : a.eval x = .pointer (some ⟨g, 0, none⟩)) : (execOp a.eval o).run Tryz.prog w = .ok (.value (.pointer (some ⟨g, k, none⟩))) w := by
  unfold execOp
  simp only [ho, hx]
  rcases k with _ | _ | k
  · kernel_rfl
  · kernel_rfl
  · omega
theorem x25_a {a : Act} {o : Oper} (w : World) (ho : o.op = .alloc 55) : (execOp a.eval o).run Tryz.prog w = .ok (.value (.pointer (some ⟨w.heap.size, 0, none⟩))) (w.alloc (.cells #[.slice none 0 0, .slice none 0 0] 55 (0, 0))) := by
  unfold execOp
  simp only [ho]
  kernel_rfl
theorem x25_b {a : Act} {o : Oper} (w : World) (ho : o.op = .buildSlice 41 0 #[]) : (execOp a.eval o).run Tryz.prog w = .ok (.value (.slice (some ⟨w.heap.size, 0, none⟩) 0 0)) (w.alloc (.cells #[] 33 (0, 0))) := by
  unfold execOp
  simp only [ho]
  kernel_rfl
theorem x25_o {a : Act} {o : Oper} (w : World) (x : Operand) (ho : o.op = .buildSlice 41 1 #[(0, x)]) (p : Option Addr) (n c : Nat) (hx : a.eval x = .slice p n c) : (execOp a.eval o).run Tryz.prog w = .ok (.value (.slice (some ⟨w.heap.size, 0, none⟩) 1 1)) (w.alloc (.cells #[.slice p n c] 33 (0, 0))) := by
  unfold execOp
  simp only [ho, List.map_toArray, List.map_cons, List.map_nil, hx]
  kernel_rfl
theorem x25_s {a : Act} {o : Oper} (w : World) (x y : Operand) (ho : o.op = .build 55 #[(0, x), (1, y)]) (p q : Option Addr) (n c m d : Nat) (hx : a.eval x = .slice p n c) (hy : a.eval y = .slice q m d) : (execOp a.eval o).run Tryz.prog w = .ok (.value (.agg #[.slice p n c, .slice q m d])) w := by
  unfold execOp
  simp only [ho, List.map_toArray, List.map_cons, List.map_nil, hx, hy]
  kernel_rfl
theorem x25_c {a : Act} {o : Oper} (w : World) (v : Value) (x : Operand) (ho : o.op = .call { callee := .value (.func 18), args := #[x], argTypes := #[48] }) (hx : a.eval x = v) : (execOp a.eval o).run Tryz.prog w = .ok (.enter 18 #[v]) w := by
  unfold execOp
  simp only [ho]
  unfold resolve
  simp only [List.map_toArray, List.map_cons, List.map_nil, hx]
  kernel_rfl
theorem bt_row (w : World) (g : Nat) (c : Array Value) : Bt g w (w.setRow g c) := ⟨rfl, rfl, rfl, by simp, fun i _ hn => setRow_other w g i c hn⟩
theorem ls_one {w : World} {p : Nat} {s : Value} (h : w.heap[p]? = some (.cells #[s] 33 (0, 0))) : Ls 1 w (some ⟨p, 0, none⟩) 1 1 [[s]] := by
  have h9 : Or_ 1 33 p w (.slice (some ⟨p, 0, none⟩) 1 1) [[s]] := ⟨by intro r hr; rw [List.mem_singleton] at hr; rw [hr]; rfl, rfl, .inr ⟨p, 1, _, rfl, Nat.le_refl _, h, Nat.le_refl _, by decide, rfl, rfl⟩⟩
  obtain ⟨a9, c9, h8, h7⟩ := h9.ls
  injection h8 with e1 e2 e3
  subst e1
  subst e3
  exact h7
theorem lq_mix {b : Nat} {w : World} {a : Option Addr} {n c : Nat} {vs : List Value} {X : List (List Int)} (h : Or_ 1 33 b w (.slice a n c) (vs.map fun s => [s])) (h2 : vs.length = X.length) (h3 : ∀ i, i < X.length → ∃ ai ni ci, vs.getD i undef = .slice ai ni ci ∧ Lb w ai ni ci (X.getD i []) ∧ ni ≤ 140737488351232) : Lq w a n c X := by
  obtain ⟨a', c', e, hl⟩ := h.ls
  injection e with e1 e2 e3
  subst e1
  subst e3
  rw [List.length_map, h2] at e2 hl
  subst e2
  refine ⟨rfl, ?_, hl.cap, hl.max⟩
  rcases Nat.eq_zero_or_pos X.length with h0 | h0
  · exact .inl h0
  · right
    obtain ⟨p, o, e1, -⟩ := hl.at_ 0 h0
    refine ⟨p, o, e1, fun i hi => ?_⟩
    obtain ⟨p2, o2, e2, hr⟩ := hl.at_ i hi
    rw [e1] at e2
    injection e2 with e2
    injection e2 with e3 e4
    subst e3 e4
    obtain ⟨ai, ni, ci, e5, l5, l6⟩ := h3 i hi
    refine ⟨ai, ni, ci, ?_, l5, l6⟩
    have hv : (vs.map fun s => [s]).getD i [] = [vs.getD i undef] := by
      have hiv : i < vs.length := by rw [h2]; exact hi
      simp [List.getD_eq_getElem?_getD, hiv]
    rw [hv, e5] at hr
    have h6 := hr 0 _ rfl
    rw [Nat.one_mul, Nat.add_zero] at h6
    exact h6
theorem getD_fst {α : Type} (l m : List α) (d : α) (i : Nat) (h : i < l.length) : (l ++ m).getD i d = l.getD i d := by simp [List.getD_eq_getElem?_getD, List.getElem?_append_left h]
theorem getD_last {α : Type} (l : List α) (x d : α) : (l ++ [x]).getD l.length d = x := by simp [List.getD_eq_getElem?_getD]
structure Kp2 (v0 w1 w2 : World) (lo b : Nat) (a : World) : Prop where
  gr : Gr v0 a
  b1 : Btw lo w1.heap.size w1 a
  s1 : w1.heap.size ≤ a.heap.size
  b2 : Btw b w2.heap.size w2 a
  s2 : w2.heap.size ≤ a.heap.size
theorem Kp2.more {v0 w1 w2 : World} {lo b : Nat} {a u : World} (h : Kp2 v0 w1 w2 lo b a) (k : Gr a u) : Kp2 v0 w1 w2 lo b u := ⟨h.gr.trans k, h.b1.gr k h.s1, Nat.le_trans h.s1 k.size, h.b2.gr k h.s2, Nat.le_trans h.s2 k.size⟩
theorem Kp2.chg {v0 w1 w2 : World} {lo b : Nat} {a u : World} {F F' : List Nat} (h : Kp2 v0 w1 w2 lo b a) (k : Chg F F' a u) (h0 : ∀ i ∈ F, v0.heap.size ≤ i) (h1 : ∀ i ∈ F, i < lo ∨ w1.heap.size ≤ i) (h2 : ∀ i ∈ F, i < b) : Kp2 v0 w1 w2 lo b u := ⟨Chg.own h.gr k h0, h.b1.chg k h.s1 h1, Nat.le_trans h.s1 k.size, h.b2.chg k h.s2 (fun i hi => .inl (h2 i hi)), Nat.le_trans h.s2 k.size⟩
theorem lb_back {b : Nat} {w : World} {a : Option Addr} {n c : Nat} {L : List Int} (h : Ob b w (.slice a n c) L) (hb : IsB L) : Lb w a n c L := by
  obtain ⟨a9, c9, e9, h9⟩ := h.lb hb
  injection e9 with e1 e2 e3
  subst e1 e2 e3
  exact h9
theorem lq_back {b : Nat} {w : World} {a : Option Addr} {n c : Nat} {X : List (List Int)} (h : Ox b w (.slice a n c) X) : Lq w a n c X := by
  obtain ⟨a9, c9, e9, h9⟩ := h.lq
  injection e9 with e1 e2 e3
  subst e1 e2 e3
  exact h9
set_option maxHeartbeats 4000000 in
theorem cuts_after (v0 : World) (hf : Fst v0) (Q : Exit → Act → World → Prop) (hQ : ∀ (t : Array Value) (w' : World), Gr v0 w' → t.getD 6 undef = .bool true → Q .ret ⟨t, []⟩ w') (hpan : ∀ c t t' d w, Q (.panic c) ⟨t, d⟩ w → Q (.panic c) ⟨t', d⟩ w) (F G H : List Nat) (l gs gd gb gc g0 m : Nat) (A : Dk) (s' : Sup) (L' : List Int) (X' : List (List Int)) (bk : Bool) (v : World) (k : Xr v0 F G H l gs gd A s' L' X' bk v) (hA : A.Ok m) (hm : m ≤ 700000) (f : Int) (hbk : f = 7 → bk = true) (m0 : Int) (ka : Option Addr) (kn kp : Nat) (keep : List Bool) (hkn : kn ≤ 140737488351232) (hK : Kp v0 ka kn kp keep) (hgc : v.heap[gc]? = some (.cells #[.int .i64 m0, .slice ka kn kp] 51 (0, 0))) (z1 t : Int) (a1 : Option Addr) (n1 c1 nx : Nat) (hg0 : v.heap[g0]? = some (.cells #[.int .i64 z1, .slice a1 n1 c1] 48 (0, 0))) (hcap : n1 ≤ c1) (hcmx : c1 < 9223372036854775808) (hnx : nx = min n1 2500) (ht : t = IntKind.u64.wrap z1 % 3) (x : List Int) (hx : Lb v0 a1 nx c1 x) (s : Sup) (L : List Int) (X : List (List Int)) (wd : Wd (A.crashD keep) m s L X) (L1 L2 : List Int) (X1 X2 : List (List Int)) (lo : Nat) (w1 : World) (sa xa : Option Addr) (sn sc xn xc : Nat) (hb : w1.heap[gb]? = some (.cells #[.slice sa sn sc, .slice xa xn xc] 55 (0, 0))) (hgb : lo ≤ gb) (o1 : Ob lo w1 (.slice sa sn sc) L1) (hL1 : IsB L1) (o2 : Ox lo w1 (.slice xa xn xc) X1) (hx1 : X1.length ≤ 512) (hbt : Btw lo w1.heap.size w1 v) (hsz : w1.heap.size ≤ v.heap.size) (hFo : ∀ i ∈ F, i < lo ∨ w1.heap.size ≤ i) (h2 : (t = 1 ∧ L2 = x ∧ X2 = []) ∨ (¬ t = 1 ∧ L2 = L1 ∧ X2 = X1 ++ [x])) (hcase : (f = 0 ∧ L = L2 ∧ X = X2) ∨ (f = 7 ∧ ((L = L1 ∧ X = X1) ∨ (L = L2 ∧ X = X2)))) (hx0 : f = 0 → L' = L2 ∧ X' = X2 ∧ X'.length ≤ 512) (k0 k1 k2 k3 k6 k8 k10 k11 k12 k15 k16 k17 k18 k19 k20 k21 k22 k23 k24 k25 k26 k27 k28 k29 k30 k31 k32 k33 k34 k35 k36 k37 k38 k39 k40 k41 k42 k43 k44 k45 k46 k47 k48 k49 k50 k51 k52 k53 k54 k55 k56 k57 k58 k59 k60 k61 k62 k63 k64 k65 k66 k67 k68 k69 k70 k71 k72 k73 k74 k75 k76 k77 k78 k79 k80 k81 k82 k83 k84 k85 k86 k87 k88 k89 k90 k91 k92 k93 k94 k95 k96 k97 k98 k99 k100 k101 k102 k103 k104 k105 k106 k107 k108 k109 k110 k111 k112 k113 k114 k115 k116 k117 k118 k119 k120 k121 k122 k123 k124 k125 k126 k127 k128 k129 k130 k131 k132 k133 k134 k135 k136 k137 k138 k139 k140 k141 k142 k143 k144 k145 k146 k147 k148 k149 k150 k151 k152 k153 k154 k155 k156 k157 k158 k159 k160 k161 k162 k163 k164 k165 k166 k167 k168 k169 k170 k171 k172 k173 k174 k175 k176 k177 k178 k179 k180 k181 k182 k183 k184 k185 k186 k187 k188 k189 k190 k191 k192 k193 k194 k195 k196 k197 k198 k199 k200 k201 k202 k203 k204 k205 k206 k207 k208 k209 k210 : Value) : Code.wp Tryz.prog afterC Q ⟨#[k0, k1, k2, k3, P0 g0, P0 gc, k6, P0 gd, k8, P0 l, k10, k11, k12, P0 gb, .int .i64 f, k15, k16, k17, k18, k19, k20, k21, k22, k23, k24, k25, k26, k27, k28, k29, k30, k31, k32, k33, k34, k35, k36, k37, k38, k39, k40, k41, k42, k43, k44, k45, k46, k47, k48, k49, k50, k51, k52, k53, k54, k55, k56, k57, k58, k59, k60, k61, k62, k63, k64, k65, k66, k67, k68, k69, k70, k71, k72, k73, k74, k75, k76, k77, k78, k79, k80, k81, k82, k83, k84, k85, k86, k87, k88, k89, k90, k91, k92, k93, k94, k95, k96, k97, k98, k99, k100, k101, k102, k103, k104, k105, k106, k107, k108, k109, k110, k111, k112, k113, k114, k115, k116, k117, k118, k119, k120, k121, k122, k123, k124, k125, k126, k127, k128, k129, k130, k131, k132, k133, k134, k135, k136, k137, k138, k139, k140, k141, k142, k143, k144, k145, k146, k147, k148, k149, k150, k151, k152, k153, k154, k155, k156, k157, k158, k159, k160, k161, k162, k163, k164, k165, k166, k167, k168, k169, k170, k171, k172, k173, k174, k175, k176, k177, k178, k179, k180, k181, k182, k183, k184, k185, k186, k187, k188, k189, k190, k191, k192, k193, k194, k195, k196, k197, k198, k199, k200, k201, k202, k203, k204, k205, k206, k207, k208, k209, k210], []⟩ v := by
  conv => arg 2; whnf
  dsimp only
  obtain ⟨vs, o3, o4, o5⟩ := o2.own
  obtain ⟨RR, hRR⟩ : ∃ R : List (List Value), R = vs.map fun s => [s] := ⟨_, rfl⟩
  have hRl : RR.length ≤ 512 := by rw [hRR, List.length_map, o4]; exact hx1
  have hRn : ∀ r ∈ RR, ∀ u ∈ r, u.oneCell' = true := by
    intro r hr u hu
    rw [hRR] at hr
    obtain ⟨s, hs, rfl⟩ := List.mem_map.1 hr
    rw [List.mem_singleton] at hu
    subst hu
    obtain ⟨i, hi, e⟩ := List.getElem_of_mem hs
    have h9 := o5 i (by rw [← o4]; exact hi)
    rw [List.getD_eq_getElem?_getD, List.getElem?_eq_getElem hi, Option.getD_some, e] at h9
    obtain ⟨ai, ci, e5, -⟩ := ob_lb h9 (o2.isB _ (mem_of_getD (by rw [← o4]; exact hi))).1 rfl
    rw [e5]
    rfl
  rw [← hRR] at o3
  have o6 : Or_ 1 33 lo v (.slice xa xn xc) RR := ⟨o3.1, owns_keep o3.2 (fun p e => hbt p (own_lt o3.2 e).1 (own_lt o3.2 e).2)⟩
  have hvb : v.heap[gb]? = some (.cells #[.slice sa sn sc, .slice xa xn xc] 55 (0, 0)) := (hbt gb hgb (lt_of_block hb)).trans hb
  have hX := hide k
  replace hQ := hide hQ; replace hpan := hide hpan; replace hf := hide hf; replace hA := hide hA; replace wd := hide wd; replace hgc := hide hgc; replace hbk := hide hbk; replace hK := hide hK; replace hx0 := hide hx0; replace hcase := hide hcase; replace h2 := hide h2; replace hg0 := hide hg0; replace hx := hide hx; replace hb := hide hb; replace o1 := hide o1; replace o2 := hide o2; replace o3 := hide o3; replace o5 := hide o5; replace o6 := hide o6; replace hbt := hide hbt; replace hFo := hide hFo; replace hRR := hide hRR; replace hRn := hide hRn; replace hvb := hide hvb; replace hnx := hide hnx; replace ht := hide ht; replace hL1 := hide hL1
  clear k
  go_upto_region 25 with fail
  generalize hA0 : Act.mk _ _ = A0
  have ev4 : A0.eval (.tmp 4) = .pointer (some ⟨g0, 0, none⟩) := by rw [← hA0]; rfl
  have ev13 : A0.eval (.tmp 13) = .pointer (some ⟨gb, 0, none⟩) := by rw [← hA0]; rfl
  have hs0 : A0.tmps.size = 211 := by rw [← hA0]; rfl
  refine flow (J := fun l f w => Gr v w ∧ (l 0 = true → f 0 = .pointer (some ⟨gb, 0, none⟩)) ∧ (l 1 = true → f 1 = .slice sa sn sc) ∧ (l 2 = true → (l 5 = false → ∃ p, f 2 = .slice (some ⟨p, 0, none⟩) 0 0 ∧ v.heap.size ≤ p ∧ w.heap[p]? = some (.cells #[] 33 (0, 0)))) ∧ (l 3 = true → f 3 = .pointer (some ⟨gb, 1, none⟩)) ∧ (l 4 = true → f 4 = .slice xa xn xc) ∧ (l 5 = true → (l 9 = false → Or_ 1 33 v.heap.size w (f 5) RR)) ∧ (l 6 = true → f 6 = .agg #[.int .i64 z1, .slice a1 n1 c1]) ∧ (l 7 = true → f 7 = .slice a1 nx c1) ∧ (l 8 = true → (l 9 = false → ∃ p, f 8 = .slice (some ⟨p, 0, none⟩) 1 1 ∧ v.heap.size ≤ p ∧ w.heap[p]? = some (.cells #[.slice a1 nx c1] 33 (0, 0)))) ∧ (l 9 = true → Or_ 1 33 v.heap.size w (f 9) (RR ++ [[.slice a1 nx c1]])) ∧ (l 10 = true → f 10 = .agg #[.slice sa sn sc, f 9]) ∧ (l 11 = true → (∃ g c, f 11 = .pointer (some ⟨g, 0, none⟩) ∧ v.heap.size ≤ g ∧ w.heap[g]? = some (.cells c 55 (0, 0)) ∧ (l 12 = false → c = #[.slice none 0 0, .slice none 0 0]) ∧ (l 12 = true → c = #[.slice sa sn sc, f 9]))) ∧ (l 12 = true → True)) (by kernel_rfl) (by kernel_rfl) (by kernel_rfl) ?_ ?_ ?_
  · exact ⟨(Gr.refl v).drew, (fun e => by cases e), (fun e => by cases e), (fun e => by cases e), (fun e => by cases e), (fun e => by cases e), (fun e => by cases e), (fun e => by cases e), (fun e => by cases e), (fun e => by cases e), (fun e => by cases e), (fun e => by cases e), (fun e => by cases e), (fun e => by cases e)⟩
  · intro i o l f w_ ho hl hp hcl hJ K hK
    obtain ⟨hG, t0, t1, t2, t3, t4, t5, t6, t7, t8, t9, t10, t11, t12⟩ := hJ
    match i, ho with
    | 0, ho =>
      obtain rfl := Option.some.inj ho
      exact op_val (.pointer (some ⟨gb, 0, none⟩)) rfl rfl (x25_f _ gb (.tmp 13) 0 (by decide) rfl ((ev_off 13 (by kernel_rfl)).trans ev13)) (hK _ _ ⟨hG, (fun _ => rfl), t1, t2, t3, t4, t5, t6, t7, t8, t9, t10, t11, t12⟩)
    | 1, ho =>
      obtain rfl := Option.some.inj ho
      have p0 := pre_at hp 0 (by kernel_rfl)
      exact op_val (.slice sa sn sc) rfl rfl (exec_sby _ (.tmp 99) rfl gb 0 ((ev_at 0 99 _ (by kernel_rfl) rfl rfl p0 (by rw [hs0]; decide)).trans (t0 p0)) sa sn sc (cell_of (hG.blk (unhide hvb)) (i := 0) rfl)) (hK _ _ ⟨hG, t0, (fun _ => rfl), t2, t3, t4, t5, t6, t7, t8, t9, t10, t11, t12⟩)
    | 2, ho =>
      obtain rfl := Option.some.inj ho
      have hg := (Gr.refl w_).alloc (.cells #[] 33 (0, 0))
      have hG2 := hG.trans hg
      have hb9 : (w_.alloc (.cells #[] 33 (0, 0))).heap[w_.heap.size]? = some (.cells #[] 33 (0, 0)) := blk_new _ _
      have hz9 := hG.size
      exact op_val (.slice (some ⟨w_.heap.size, 0, none⟩) 0 0) rfl rfl (x25_b _ rfl) (hK _ _ ⟨hG2, t0, t1, (fun _ _ => ⟨_, rfl, hz9, hb9⟩), t3, t4, (fun e e2 => (t5 e e2).gr hg), t6, t7, (fun e e2 => (t8 e e2).elim fun p h => ⟨p, h.1, h.2.1, hg.blk h.2.2⟩), (fun e => (t9 e).gr hg), t10, (fun e => by obtain ⟨g, c, q1, q2, q3, q4, q5⟩ := t11 e; exact ⟨g, c, q1, q2, hg.blk q3, q4, q5⟩), t12⟩)
    | 3, ho =>
      obtain rfl := Option.some.inj ho
      exact op_val (.pointer (some ⟨gb, 1, none⟩)) rfl rfl (x25_f _ gb (.tmp 13) 1 (by decide) rfl ((ev_off 13 (by kernel_rfl)).trans ev13)) (hK _ _ ⟨hG, t0, t1, t2, (fun _ => rfl), t4, t5, t6, t7, t8, t9, t10, t11, t12⟩)
    | 4, ho =>
      obtain rfl := Option.some.inj ho
      have p3 := pre_at hp 3 (by kernel_rfl)
      exact op_val (.slice xa xn xc) rfl rfl (exec_sx _ (.tmp 102) rfl gb 1 ((ev_at 3 102 _ (by kernel_rfl) rfl rfl p3 (by rw [hs0]; decide)).trans (t3 p3)) xa xn xc (cell_of (hG.blk (unhide hvb)) (i := 1) rfl)) (hK _ _ ⟨hG, t0, t1, t2, t3, (fun _ => rfl), t5, t6, t7, t8, t9, t10, t11, t12⟩)
    | 5, ho =>
      obtain rfl := Option.some.inj ho
      have p2 := pre_at hp 2 (by kernel_rfl)
      have p4 := pre_at hp 4 (by kernel_rfl)
      obtain ⟨p, e2, hp2, hb2⟩ := t2 p2 hl
      have hown : Or_ 1 33 v.heap.size w_ (f 2) [] := by rw [e2]; exact ⟨(fun r hr => by cases hr), rfl, .inr ⟨p, 0, _, rfl, hp2, hb2, Nat.zero_le _, by unfold maxLen; omega, rfl, rfl⟩⟩
      obtain ⟨a9, c9, e9, hls⟩ := ((unhide o6).gr hG).ls
      injection e9 with e91 e92 e93
      subst e91
      subst e93
      rw [← e92] at hls
      refine op_wp rfl rfl (app_rows lt_s (.tmp 101) (.tmp 103) rfl v.heap.size (f 2) [] (ev_at 2 101 _ (by kernel_rfl) rfl rfl p2 (by rw [hs0]; decide)) hown xa xn xc RR ((ev_at 4 103 _ (by kernel_rfl) rfl rfl p4 (by rw [hs0]; decide)).trans (t4 p4)) hls (unhide hRn) (by rw [List.length_nil, e92]; omega) hG.size ?_)
      intro v9 w9 hor hgr
      rw [List.nil_append] at hor
      have hG2 := grown_owned hown.2 (Nat.le_refl _) hG hgr
      exact hK _ _ ⟨hG2, t0, t1, (fun _ h => by cases h), t3, t4, (fun _ _ => hor), t6, t7, (fun e => absurd (pre_at (hcl 7 _ rfl (pre_at (hcl 8 _ rfl e) 7 (by kernel_rfl))) 5 (by kernel_rfl)) (by rw [hl]; decide)), (fun e => absurd (pre_at (hcl 9 _ rfl e) 5 (by kernel_rfl)) (by rw [hl]; decide)), t10, (fun e => by obtain ⟨g, c, q1, q2, q3, q4, q5⟩ := t11 e; exact ⟨g, c, q1, q2, grown_other hown hgr q3 (fun c e => by injection e with _ e2 _; exact absurd e2 (by decide)), q4, q5⟩), t12⟩
    | 6, ho =>
      obtain rfl := Option.some.inj ho
      exact op_val (.agg #[.int .i64 z1, .slice a1 n1 c1]) rfl rfl (exec_arr _ 48 (.tmp 4) rfl g0 ((ev_off 4 (by kernel_rfl)).trans ev4) #[.int .i64 z1, .slice a1 n1 c1] 48 _ (hG.blk (unhide hg0)) Tryz.underlying48 rfl (by rw [Tryz.infoOp12]; rfl)) (hK _ _ ⟨hG, t0, t1, t2, t3, t4, t5, (fun _ => rfl), t7, t8, t9, t10, t11, t12⟩)
    | 7, ho =>
      obtain rfl := Option.some.inj ho
      have p5 := pre_at hp 5 (by kernel_rfl)
      have p6 := pre_at hp 6 (by kernel_rfl)
      refine op_call 18 #[.agg #[.int .i64 z1, .slice a1 n1 c1]] rfl rfl (x25_c _ _ (.tmp 105) rfl ((ev_at 6 105 _ (by kernel_rfl) rfl rfl p6 (by rw [hs0]; decide)).trans (t6 p6))) ((bytes12_ok z1 a1 n1 c1 hcap hcmx _).mono ?_)
      rintro r w9 ⟨rfl, hg⟩
      rw [← unhide hnx]
      have hG2 := hG.trans hg
      exact ⟨_, rfl, hK _ _ ⟨hG2, t0, t1, (fun e e2 => (t2 e e2).elim fun p h => ⟨p, h.1, h.2.1, hg.blk h.2.2⟩), t3, t4, (fun e e2 => (t5 e e2).gr hg), t6, (fun _ => rfl), (fun e e2 => (t8 e e2).elim fun p h => ⟨p, h.1, h.2.1, hg.blk h.2.2⟩), (fun e => (t9 e).gr hg), t10, (fun e => by obtain ⟨g, c, q1, q2, q3, q4, q5⟩ := t11 e; exact ⟨g, c, q1, q2, hg.blk q3, q4, q5⟩), t12⟩⟩
    | 8, ho =>
      obtain rfl := Option.some.inj ho
      have p7 := pre_at hp 7 (by kernel_rfl)
      have hg := (Gr.refl w_).alloc (.cells #[.slice a1 nx c1] 33 (0, 0))
      have hG2 := hG.trans hg
      have hb9 : (w_.alloc (.cells #[.slice a1 nx c1] 33 (0, 0))).heap[w_.heap.size]? = some (.cells #[.slice a1 nx c1] 33 (0, 0)) := blk_new _ _
      have hz9 := hG.size
      exact op_val (.slice (some ⟨w_.heap.size, 0, none⟩) 1 1) rfl rfl (x25_o _ (.tmp 106) rfl a1 nx c1 ((ev_at 7 106 _ (by kernel_rfl) rfl rfl p7 (by rw [hs0]; decide)).trans (t7 p7))) (hK _ _ ⟨hG2, t0, t1, (fun e e2 => (t2 e e2).elim fun p h => ⟨p, h.1, h.2.1, hg.blk h.2.2⟩), t3, t4, (fun e e2 => (t5 e e2).gr hg), t6, t7, (fun _ _ => ⟨_, rfl, hz9, hb9⟩), (fun e => (t9 e).gr hg), t10, (fun e => by obtain ⟨g, c, q1, q2, q3, q4, q5⟩ := t11 e; exact ⟨g, c, q1, q2, hg.blk q3, q4, q5⟩), t12⟩)
    | 9, ho =>
      obtain rfl := Option.some.inj ho
      have p5 := pre_at hp 5 (by kernel_rfl)
      have p7 := pre_at hp 7 (by kernel_rfl)
      have p8 := pre_at hp 8 (by kernel_rfl)
      obtain ⟨p, e8, hp8, hb8⟩ := t8 p8 hl
      have hown := t5 p5 hl
      refine op_wp rfl rfl (app_rows lt_s (.tmp 104) (.tmp 107) rfl v.heap.size (f 5) RR (ev_at 5 104 _ (by kernel_rfl) rfl rfl p5 (by rw [hs0]; decide)) hown (some ⟨p, 0, none⟩) 1 1 [[.slice a1 nx c1]] ((ev_at 8 107 _ (by kernel_rfl) rfl rfl p8 (by rw [hs0]; decide)).trans e8) (ls_one hb8) (by intro r hr; rw [List.mem_singleton] at hr; subst hr; intro q hq; rw [List.mem_singleton] at hq; subst hq; rfl) (by omega) hG.size ?_)
      intro v9 w9 hor hgr
      have hG2 := grown_owned hown.2 (Nat.le_refl _) hG hgr
      exact hK _ _ ⟨hG2, t0, t1, (fun _ h => absurd (h.symm.trans p5) (by decide)), t3, t4, (fun _ h => by cases h), t6, t7, (fun _ h => by cases h), (fun _ => hor), (fun e => absurd (pre_at (hcl 10 _ rfl e) 9 (by kernel_rfl)) (by rw [hl]; decide)), (fun e => by
              obtain ⟨g, c, q1, q2, q3, q4, q5⟩ := t11 e
              exact ⟨g, c, q1, q2, grown_other hown hgr q3 (fun c e => by injection e with _ e2 _; exact absurd e2 (by decide)), q4, fun e => absurd (pre_at (hcl 12 _ rfl e) 9 (by kernel_rfl)) (by rw [hl]; decide)⟩), t12⟩
    | 10, ho =>
      obtain rfl := Option.some.inj ho
      have p1 := pre_at hp 1 (by kernel_rfl)
      have p9 := pre_at hp 9 (by kernel_rfl)
      obtain ⟨a9, c9, e9, -⟩ := (t9 p9).ls
      exact op_val (.agg #[.slice sa sn sc, f 9]) rfl rfl (by rw [e9]; exact x25_s _ (.tmp 100) (.tmp 108) rfl sa a9 sn sc _ c9 ((ev_at 1 100 _ (by kernel_rfl) rfl rfl p1 (by rw [hs0]; decide)).trans (t1 p1)) ((ev_at 9 108 _ (by kernel_rfl) rfl rfl p9 (by rw [hs0]; decide)).trans e9)) (hK _ _ ⟨hG, t0, t1, t2, t3, t4, t5, t6, t7, t8, t9, (fun _ => rfl), t11, t12⟩)
    | 11, ho =>
      obtain rfl := Option.some.inj ho
      have hg := (Gr.refl w_).alloc (.cells #[.slice none 0 0, .slice none 0 0] 55 (0, 0))
      have hG2 := hG.trans hg
      have hb9 : (w_.alloc (.cells #[.slice none 0 0, .slice none 0 0] 55 (0, 0))).heap[w_.heap.size]? = some (.cells #[.slice none 0 0, .slice none 0 0] 55 (0, 0)) := blk_new _ _
      have hz9 := hG.size
      exact op_val (.pointer (some ⟨w_.heap.size, 0, none⟩)) rfl rfl (x25_a _ rfl) (hK _ _ ⟨hG2, t0, t1, (fun e e2 => (t2 e e2).elim fun p h => ⟨p, h.1, h.2.1, hg.blk h.2.2⟩), t3, t4, (fun e e2 => (t5 e e2).gr hg), t6, t7, (fun e e2 => (t8 e e2).elim fun p h => ⟨p, h.1, h.2.1, hg.blk h.2.2⟩), (fun e => (t9 e).gr hg), t10, (fun _ => ⟨_, _, rfl, hz9, hb9, fun _ => rfl, fun e => absurd (pre_at (hcl 12 _ rfl e) 11 (by kernel_rfl)) (by rw [hl]; decide)⟩), t12⟩)
    | 12, ho =>
      obtain rfl := Option.some.inj ho
      have p0 := pre_at hp 0 (by kernel_rfl)
      have p1 := pre_at hp 1 (by kernel_rfl)
      have p2 := pre_at hp 2 (by kernel_rfl)
      have p3 := pre_at hp 3 (by kernel_rfl)
      have p4 := pre_at hp 4 (by kernel_rfl)
      have p5 := pre_at hp 5 (by kernel_rfl)
      have p6 := pre_at hp 6 (by kernel_rfl)
      have p7 := pre_at hp 7 (by kernel_rfl)
      have p8 := pre_at hp 8 (by kernel_rfl)
      have p9 := pre_at hp 9 (by kernel_rfl)
      have p10 := pre_at hp 10 (by kernel_rfl)
      have p11 := pre_at hp 11 (by kernel_rfl)
      obtain ⟨g, c, q1, q2, q3, q4, q5⟩ := t11 p11
      have ec := q4 hl
      subst ec
      have e10 := t10 p10
      have hbt9 := bt_row w_ g #[.slice sa sn sc, f 9]
      have hG2 := hG.row g q2 #[.slice sa sn sc, f 9]
      have hb9 : (w_.setRow g #[.slice sa sn sc, f 9]).heap[g]? = some (.cells #[.slice sa sn sc, f 9] 55 (0, 0)) := setRow_heap _ _ _ _ _ _ q3
      have h1c : (#[.slice sa sn sc, f 9] : Array Value).all (·.oneCell') = true := by
        obtain ⟨a9, c9, e9, -⟩ := (t9 p9).ls
        rw [e9]
        kernel_rfl
      refine op_wp rfl rfl (wp_store_row 55 (.tmp 15) (.tmp 109) rfl g #[.slice sa sn sc, f 9] ((ev_at 11 15 _ (by kernel_rfl) rfl rfl p11 (by rw [hs0]; decide)).trans q1) ((ev_at 10 109 _ (by kernel_rfl) rfl rfl p10 (by rw [hs0]; decide)).trans e10) 55 _ q3 (by rw [Tryz.infoTl]; rfl) rfl h1c ?_)
      exact hK _ _ ⟨hG2, t0, t1, (fun _ h => absurd (h.symm.trans p5) (by decide)), t3, t4, (fun _ h => absurd (h.symm.trans p9) (by decide)), t6, t7, (fun _ h => absurd (h.symm.trans p9) (by decide)), (fun e => ⟨(t9 e).1, owns_bt (t9 e).2 q3 (by decide) hbt9⟩), t10, (fun _ => ⟨g, _, q1, q2, hb9, (fun h => by cases h), fun _ => rfl⟩), (fun _ => trivial)⟩
    | n + 13, ho => cases ho
  · intro l_ f_ v5 hall hJ
    obtain ⟨hG, t0, t1, t2, t3, t4, t5, t6, t7, t8, t9, t10, t11, t12⟩ := hJ
    obtain ⟨ga, c9, q1, q2, q3, q4, q5⟩ := t11 (hall 11 (by decide))
    have q6 := q5 (hall 12 (by decide))
    subst q6
    have o9 := t9 (hall 9 (by decide))
    obtain ⟨ya, yc, e9, -⟩ := o9.ls
    obtain ⟨yn, hyn⟩ : ∃ n, n = (RR ++ [[Value.slice a1 nx c1]]).length := ⟨_, rfl⟩
    rw [← hyn] at e9
    rw [e9] at o9 q3
    subst hA0
    simp only [putF, if_true]
    simp only [nrm]
    rw [q1]
    replace q3 := hide q3; replace o9 := hide o9; replace hG := hide hG
    clear t0 t1 t2 t3 t4 t5 t6 t7 t8 t9 t10 t11 t12 q1 q4 q5 e9 hall ev4 ev13 hs0
    generalize f_ 0 = y0; generalize f_ 1 = y1; generalize f_ 2 = y2; generalize f_ 3 = y3; generalize f_ 4 = y4; generalize f_ 5 = y5; generalize f_ 6 = y6; generalize f_ 7 = y7; generalize f_ 8 = y8; generalize f_ 9 = y9; generalize f_ 10 = y10
    by_cases ht1 : t = 1
    · skip
      subst ht1
      go_upto_region 26 with fail
      rename_i K1_ hK1_ K0_ hK0_
      refine wp_region_lit ?_
      refine list_val (.agg #[.int .i64 z1, .slice a1 n1 c1]) (by kernel_rfl) (exec_arr _ 48 (.tmp 4) rfl g0 (by kernel_rfl) #[.int .i64 z1, .slice a1 n1 c1] 48 _ ((unhide hG).blk (unhide hg0)) Tryz.underlying48 rfl (by rw [Tryz.infoOp12]; rfl)) ?_
      simp only [nrm]
      refine list_call 16 #[.agg #[.int .i64 z1, .slice a1 n1 c1]] (by kernel_rfl) (by kernel_rfl) ((kind12_ok z1 a1 n1 c1 _).mono ?_)
      rintro r u1 ⟨rfl, hg⟩
      refine ⟨_, rfl, ?_⟩
      rw [← unhide ht]
      replace hG := hide ((unhide hG).trans hg); replace q3 := hide (hg.blk (unhide q3)); replace o9 := hide ((unhide o9).gr hg)
      clear hg
      simp only [nrm]
      refine list_val (.bool true) (by kernel_rfl) (by kernel_rfl) ?_
      simp only [nrm]
      refine wpList_nil ?_
      go_upto_region 27 with fail
      refine wp_region_lit ?_
      refine list_val (.agg #[.int .i64 z1, .slice a1 n1 c1]) (by kernel_rfl) (exec_arr _ 48 (.tmp 4) rfl g0 (by kernel_rfl) #[.int .i64 z1, .slice a1 n1 c1] 48 _ ((unhide hG).blk (unhide hg0)) Tryz.underlying48 rfl (by rw [Tryz.infoOp12]; rfl)) ?_
      simp only [nrm]
      refine list_call 18 #[.agg #[.int .i64 z1, .slice a1 n1 c1]] (by kernel_rfl) (by kernel_rfl) ((bytes12_ok z1 a1 n1 c1 hcap hcmx _).mono ?_)
      rintro r u2 ⟨rfl, hg⟩
      refine ⟨_, rfl, ?_⟩
      rw [← unhide hnx]
      replace hG := hide ((unhide hG).trans hg); replace q3 := hide (hg.blk (unhide q3)); replace o9 := hide ((unhide o9).gr hg)
      clear hg
      simp only [nrm]
      refine list_val (.agg #[.slice a1 nx c1, .slice none 0 0]) (by kernel_rfl) (by kernel_rfl) ?_
      simp only [nrm]
      refine list_store 55 (.tmp 15) (.tmp 115) (ga) (#[.slice a1 nx c1, .slice none 0 0]) 55 (#[.slice sa sn sc, .slice ya yn yc]) (by kernel_rfl) rfl (by kernel_rfl) (by kernel_rfl) (unhide q3) (by rw [Tryz.infoTl]; rfl) rfl (by kernel_rfl) ?_
      replace hG := hide ((unhide hG).row ga q2 #[.slice a1 nx c1, .slice none 0 0])
      have q9 : (u2.setRow ga #[.slice a1 nx c1, .slice none 0 0]).heap[ga]? = some (.cells #[.slice a1 nx c1, .slice none 0 0] 55 (0, 0)) := setRow_heap _ _ _ _ _ _ (unhide q3)
      replace q3 := hide q9
      clear q9
      clear o9
      generalize World.setRow _ _ _ = u3 at *
      simp only [nrm]
      refine wpList_nil ?_
      show K1_ _ _
      refine hK1_ _ _ ?_
      have hP9 : Kp2 v0 w1 u3 lo v.heap.size u3 := ⟨(unhide hX).gr.trans (unhide hG), (unhide hbt).gr (unhide hG) hsz, Nat.le_trans hsz (unhide hG).size, Btw.refl _ _ _, Nat.le_refl _⟩
      have hPu : ∀ a, Kp2 v0 w1 u3 lo v.heap.size a → a.heap[gb]? = some (.cells #[.slice sa sn sc, .slice xa xn xc] 55 (0, 0)) ∧ a.heap[ga]? = some (.cells #[.slice a1 nx c1, .slice none 0 0] 55 (0, 0)) ∧ Lb a sa sn sc L1 ∧ Lq a xa xn xc X1 ∧ Lb a a1 nx c1 L2 ∧ Lq a none 0 0 X2 := by
        intro a h
        refine ⟨(h.b1 gb hgb (lt_of_block (unhide hb))).trans (unhide hb), (h.b2 ga q2 (lt_of_block (unhide q3))).trans (unhide q3), ?_, ?_, ?_⟩
        · exact lb_back ((unhide o1).btw h.b1) (unhide hL1)
        · exact lq_back ((unhide o2).btw h.b1)
        · obtain ⟨e1, e2⟩ := (unhide h2).elim (fun h => h.2) (fun h => absurd rfl h.1)
          rw [e1, e2]
          exact ⟨(unhide hx).gr h.gr, rfl, .inl rfl, Nat.le_refl _, by omega⟩
      refine wp_code_eq (c := checkC) (by kernel_rfl) ?_
      exact cuts_check v0 (unhide hf) Q (unhide hQ) (unhide hpan) F G H l gs gd gb ga gc m A s' L' X' bk u3 ((unhide hX).more (unhide hG)) (unhide hA) hm f (unhide hbk) m0 ka kn kp keep hkn (unhide hK) ((unhide hG).blk (unhide hgc)) s L X (unhide wd) L1 L2 X1 X2 sa xa a1 none sn sc xn xc nx c1 0 0 (Kp2 v0 w1 u3 lo v.heap.size) hP9 (fun a b h hg => h.more hg) (fun a b F' kx h hc => h.chg hc kx.oF (unhide hFo) (fun i hi => (unhide hX).ls.lt i hi)) hPu (unhide hcase) (unhide hx0) _ _ _ _ _ _ _ _ _ _ _ _ _ _ _ _ _ _ _ _ _ _ _ _ _ _ _ _ _ _ _ _ _ _ _ _ _ _ _ _ _ _ _ _ _ _ _ _ _ _ _ _ _ _ _ _ _ _ _ _ _ _ _ _ _ _ _ _ _ _ _ _ _ _ _ _ _ _ _ _ _ _ _ _ _ _ _ _ _ _ _ _ _ _ _ _ _ _ _ _ _ _ _ _ _ _ _ _ _ _ _ _ _ _ _ _ _ _ _ _ _ _ _ _ _ _ _ _ _ _ _ _ _ _ _ _ _ _ _ _ _ _ _ _ _ _ _ _ _ _ _ _ _ _ _ _ _ _ _ _ _ _ _ _ _ _ _ _ _ _ _ _ _ _ _ _ _ _ _ _ _ _ _ _ _ _ _ _ _ _ _ _ _ _ _ _ _ _ _ _ _ _ _ _ _
    · skip
      go_upto_region 26 with fail
      rename_i K1_ hK1_ K0_ hK0_
      refine wp_region_lit ?_
      refine list_val (.agg #[.int .i64 z1, .slice a1 n1 c1]) (by kernel_rfl) (exec_arr _ 48 (.tmp 4) rfl g0 (by kernel_rfl) #[.int .i64 z1, .slice a1 n1 c1] 48 _ ((unhide hG).blk (unhide hg0)) Tryz.underlying48 rfl (by rw [Tryz.infoOp12]; rfl)) ?_
      simp only [nrm]
      refine list_call 16 #[.agg #[.int .i64 z1, .slice a1 n1 c1]] (by kernel_rfl) (by kernel_rfl) ((kind12_ok z1 a1 n1 c1 _).mono ?_)
      rintro r u1 ⟨rfl, hg⟩
      refine ⟨_, rfl, ?_⟩
      rw [← unhide ht]
      replace hG := hide ((unhide hG).trans hg); replace q3 := hide (hg.blk (unhide q3)); replace o9 := hide ((unhide o9).gr hg)
      clear hg
      simp only [nrm]
      refine list_val (.bool false) (by kernel_rfl) (by go_simp) ?_
      simp only [nrm]
      refine wpList_nil ?_
      refine hK0_ _ _ ?_
      refine wp_cond_false rfl ?_
      refine wp_skip ?_
      show K1_ _ _
      refine hK1_ _ _ ?_
      have hP9 : Kp2 v0 w1 u1 lo v.heap.size u1 := ⟨(unhide hX).gr.trans (unhide hG), (unhide hbt).gr (unhide hG) hsz, Nat.le_trans hsz (unhide hG).size, Btw.refl _ _ _, Nat.le_refl _⟩
      have hPu : ∀ a, Kp2 v0 w1 u1 lo v.heap.size a → a.heap[gb]? = some (.cells #[.slice sa sn sc, .slice xa xn xc] 55 (0, 0)) ∧ a.heap[ga]? = some (.cells #[.slice sa sn sc, .slice ya yn yc] 55 (0, 0)) ∧ Lb a sa sn sc L1 ∧ Lq a xa xn xc X1 ∧ Lb a sa sn sc L2 ∧ Lq a ya yn yc X2 := by
        intro a h
        refine ⟨(h.b1 gb hgb (lt_of_block (unhide hb))).trans (unhide hb), (h.b2 ga q2 (lt_of_block (unhide q3))).trans (unhide q3), ?_, ?_, ?_⟩
        · exact lb_back ((unhide o1).btw h.b1) (unhide hL1)
        · exact lq_back ((unhide o2).btw h.b1)
        · obtain ⟨e1, e2⟩ := (unhide h2).elim (fun h => absurd h.1 ht1) (fun h => h.2)
          rw [e1, e2]
          refine ⟨lb_back ((unhide o1).btw h.b1) (unhide hL1), ?_⟩
          have o10 : Or_ 1 33 v.heap.size a (.slice ya yn yc) ((vs ++ [Value.slice a1 nx c1]).map fun s => [s]) := by
            rw [List.map_append, ← unhide hRR]
            exact ⟨(unhide o9).1, owns_keep (unhide o9).2 (fun p e => h.b2 p (own_lt (unhide o9).2 e).1 (own_lt (unhide o9).2 e).2)⟩
          refine lq_mix o10 (by simp [o4]) (fun i hi => ?_)
          rw [List.length_append, List.length_singleton] at hi
          rcases Nat.lt_or_ge i X1.length with hlt | hge
          · have ho := ((unhide o5) i hlt).btw h.b1
            have hx9 := (unhide o2).isB (X1.getD i []) (mem_of_getD hlt)
            obtain ⟨ai, ci, e5, l5⟩ := ob_lb ho hx9.1 rfl
            refine ⟨ai, _, ci, ?_, ?_, hx9.2⟩
            · rw [getD_fst _ _ _ _ (by omega)]
              exact e5
            · rw [getD_fst _ _ _ _ hlt]
              exact l5
          · obtain rfl : i = X1.length := by omega
            refine ⟨a1, nx, c1, ?_, ?_, by have := unhide hnx; omega⟩
            · rw [← o4, getD_last]
            · rw [getD_last]
              exact (unhide hx).gr h.gr
      refine wp_code_eq (c := checkC) (by kernel_rfl) ?_
      exact cuts_check v0 (unhide hf) Q (unhide hQ) (unhide hpan) F G H l gs gd gb ga gc m A s' L' X' bk u1 ((unhide hX).more (unhide hG)) (unhide hA) hm f (unhide hbk) m0 ka kn kp keep hkn (unhide hK) ((unhide hG).blk (unhide hgc)) s L X (unhide wd) L1 L2 X1 X2 sa xa sa ya sn sc xn xc sn sc yn yc (Kp2 v0 w1 u1 lo v.heap.size) hP9 (fun a b h hg => h.more hg) (fun a b F' kx h hc => h.chg hc kx.oF (unhide hFo) (fun i hi => (unhide hX).ls.lt i hi)) hPu (unhide hcase) (unhide hx0) _ _ _ _ _ _ _ _ _ _ _ _ _ _ _ _ _ _ _ _ _ _ _ _ _ _ _ _ _ _ _ _ _ _ _ _ _ _ _ _ _ _ _ _ _ _ _ _ _ _ _ _ _ _ _ _ _ _ _ _ _ _ _ _ _ _ _ _ _ _ _ _ _ _ _ _ _ _ _ _ _ _ _ _ _ _ _ _ _ _ _ _ _ _ _ _ _ _ _ _ _ _ _ _ _ _ _ _ _ _ _ _ _ _ _ _ _ _ _ _ _ _ _ _ _ _ _ _ _ _ _ _ _ _ _ _ _ _ _ _ _ _ _ _ _ _ _ _ _ _ _ _ _ _ _ _ _ _ _ _ _ _ _ _ _ _ _ _ _ _ _ _ _ _ _ _ _ _ _ _ _ _ _ _ _ _ _ _ _ _ _ _ _ _ _ _ _ _ _ _ _ _ _ _ _
end Go.Proofs.YtaoiejgjdmakjaaGreatDoor
