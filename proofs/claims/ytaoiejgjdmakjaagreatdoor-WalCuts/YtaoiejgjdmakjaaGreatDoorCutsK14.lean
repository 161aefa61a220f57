/-
  Of layer 12: what the proof leans on.
-/
import Derived.ChangeSame
import Derived.Test.YtaoiejgjdmakjaaGreatDoorCutsK13
namespace Go.Proofs.YtaoiejgjdmakjaaGreatDoor
open Go.RowKit
set_option maxRecDepth 100000
set_option linter.unusedSimpArgs false
set_option linter.unusedVariables false
noncomputable def midC : Code := ((Tryz.f4.body).bind (fromIf 23)).getD .skip
set_option maxHeartbeats 4000000 in
theorem cuts_go (v0 : World) (hf : Fst v0) (Q : Exit → Act → World → Prop) (hQ : ∀ (t : Array Value) (w' : World), Gr v0 w' → t.getD 6 undef = .bool true → Q .ret ⟨t, []⟩ w') (hpan : ∀ c t t' d w, Q (.panic c) ⟨t, d⟩ w → Q (.panic c) ⟨t', d⟩ w) (F G H : List Nat) (l gs gd gb gc g0 m : Nat) (A : Dk) (s' : Sup) (L' : List Int) (X' : List (List Int)) (bk : Bool) (v : World) (k : Xr v0 F G H l gs gd A s' L' X' bk v) (hA : A.Ok m) (hm : m ≤ 700000) (f : Int) (hbk : f = 7 → bk = true) (m0 : Int) (ka : Option Addr) (kn kp : Nat) (keep : List Bool) (hkn : kn ≤ 140737488351232) (hK : Kp v0 ka kn kp keep) (hgc : v.heap[gc]? = some (.cells #[.int .i64 m0, .slice ka kn kp] 51 (0, 0))) (z1 t : Int) (a1 : Option Addr) (n1 c1 nx : Nat) (hg0 : v.heap[g0]? = some (.cells #[.int .i64 z1, .slice a1 n1 c1] 48 (0, 0))) (hcap : n1 ≤ c1) (hcmx : c1 < 9223372036854775808) (hnx : nx = min n1 2500) (ht : t = IntKind.u64.wrap z1 % 3) (x : List Int) (hx : Lb v0 a1 nx c1 x) (s : Sup) (L : List Int) (X : List (List Int)) (wd : Wd (A.crashD keep) m s L X) (L1 L2 : List Int) (X1 X2 : List (List Int)) (lo : Nat) (w1 : World) (sa xa : Option Addr) (sn sc xn xc : Nat) (hb : w1.heap[gb]? = some (.cells #[.slice sa sn sc, .slice xa xn xc] 55 (0, 0))) (hgb : lo ≤ gb) (o1 : Ob lo w1 (.slice sa sn sc) L1) (hL1 : IsB L1) (o2 : Ox lo w1 (.slice xa xn xc) X1) (hx1 : X1.length ≤ 512) (hbt : Btw lo w1.heap.size w1 v) (hsz : w1.heap.size ≤ v.heap.size) (hFo : ∀ i ∈ F, i < lo ∨ w1.heap.size ≤ i) (h2 : (t = 1 ∧ L2 = x ∧ X2 = []) ∨ (¬ t = 1 ∧ L2 = L1 ∧ X2 = X1 ++ [x])) (hcase : (f = 0 ∧ L = L2 ∧ X = X2) ∨ (f = 7 ∧ ((L = L1 ∧ X = X1) ∨ (L = L2 ∧ X = X2)))) (hx0 : f = 0 → L' = L2 ∧ X' = X2 ∧ X'.length ≤ 512) (k0 k1 k2 k3 k6 k8 k10 k11 k12 k15 k16 k17 k18 k19 k20 k21 k22 k23 k24 k25 k26 k27 k28 k29 k30 k31 k32 k33 k34 k35 k36 k37 k38 k39 k40 k41 k42 k43 k44 k45 k46 k47 k48 k49 k50 k51 k52 k53 k54 k55 k56 k57 k58 k59 k60 k61 k62 k63 k64 k65 k66 k67 k68 k69 k70 k71 k72 k73 k74 k75 k76 k77 k78 k79 k80 k81 k82 k83 k84 k85 k86 k87 k88 k89 k90 k91 k92 k93 k94 k95 k96 k97 k98 k99 k100 k101 k102 k103 k104 k105 k106 k107 k108 k109 k110 k111 k112 k113 k114 k115 k116 k117 k118 k119 k120 k121 k122 k123 k124 k125 k126 k127 k128 k129 k130 k131 k132 k133 k134 k135 k136 k137 k138 k139 k140 k141 k142 k143 k144 k145 k146 k147 k148 k149 k150 k151 k152 k153 k154 k155 k156 k157 k158 k159 k160 k161 k162 k163 k164 k165 k166 k167 k168 k169 k170 k171 k172 k173 k174 k175 k176 k177 k178 k179 k180 k181 k182 k183 k184 k185 k186 k187 k188 k189 k190 k191 k192 k193 k194 k195 k196 k197 k198 k199 k200 k201 k202 k203 k204 k205 k206 k207 k208 k209 k210 : Value) : Code.wp Tryz.prog midC Q ⟨#[k0, k1, k2, k3, P0 g0, P0 gc, k6, P0 gd, k8, P0 l, k10, k11, k12, P0 gb, .int .i64 f, k15, k16, k17, k18, k19, k20, k21, k22, k23, k24, k25, k26, k27, k28, k29, k30, k31, k32, k33, k34, k35, k36, k37, k38, k39, k40, k41, k42, k43, k44, k45, k46, k47, k48, k49, k50, k51, k52, k53, k54, k55, k56, k57, k58, k59, k60, k61, k62, k63, k64, k65, k66, k67, k68, k69, k70, k71, k72, k73, k74, k75, k76, k77, k78, k79, k80, k81, k82, k83, k84, k85, k86, k87, k88, k89, k90, k91, k92, k93, k94, k95, k96, k97, k98, k99, k100, k101, k102, k103, k104, k105, k106, k107, k108, k109, k110, k111, k112, k113, k114, k115, k116, k117, k118, k119, k120, k121, k122, k123, k124, k125, k126, k127, k128, k129, k130, k131, k132, k133, k134, k135, k136, k137, k138, k139, k140, k141, k142, k143, k144, k145, k146, k147, k148, k149, k150, k151, k152, k153, k154, k155, k156, k157, k158, k159, k160, k161, k162, k163, k164, k165, k166, k167, k168, k169, k170, k171, k172, k173, k174, k175, k176, k177, k178, k179, k180, k181, k182, k183, k184, k185, k186, k187, k188, k189, k190, k191, k192, k193, k194, k195, k196, k197, k198, k199, k200, k201, k202, k203, k204, k205, k206, k207, k208, k209, k210], []⟩ v := by
  conv => arg 2; whnf
  dsimp only
  obtain ⟨hall, -⟩ : Hid (∀ (k0 k1 k2 k3 k6 k8 k10 k11 k12 k15 k16 k17 k18 k19 k20 k21 k22 k23 k24 k25 k26 k27 k28 k29 k30 k31 k32 k33 k34 k35 k36 k37 k38 k39 k40 k41 k42 k43 k44 k45 k46 k47 k48 k49 k50 k51 k52 k53 k54 k55 k56 k57 k58 k59 k60 k61 k62 k63 k64 k65 k66 k67 k68 k69 k70 k71 k72 k73 k74 k75 k76 k77 k78 k79 k80 k81 k82 k83 k84 k85 k86 k87 k88 k89 k90 k91 k92 k93 k94 k95 k96 k97 k98 k99 k100 k101 k102 k103 k104 k105 k106 k107 k108 k109 k110 k111 k112 k113 k114 k115 k116 k117 k118 k119 k120 k121 k122 k123 k124 k125 k126 k127 k128 k129 k130 k131 k132 k133 k134 k135 k136 k137 k138 k139 k140 k141 k142 k143 k144 k145 k146 k147 k148 k149 k150 k151 k152 k153 k154 k155 k156 k157 k158 k159 k160 k161 k162 k163 k164 k165 k166 k167 k168 k169 k170 k171 k172 k173 k174 k175 k176 k177 k178 k179 k180 k181 k182 k183 k184 k185 k186 k187 k188 k189 k190 k191 k192 k193 k194 k195 k196 k197 k198 k199 k200 k201 k202 k203 k204 k205 k206 k207 k208 k209 k210 : Value), Code.wp Tryz.prog afterC Q ⟨#[k0, k1, k2, k3, P0 g0, P0 gc, k6, P0 gd, k8, P0 l, k10, k11, k12, P0 gb, .int .i64 f, k15, k16, k17, k18, k19, k20, k21, k22, k23, k24, k25, k26, k27, k28, k29, k30, k31, k32, k33, k34, k35, k36, k37, k38, k39, k40, k41, k42, k43, k44, k45, k46, k47, k48, k49, k50, k51, k52, k53, k54, k55, k56, k57, k58, k59, k60, k61, k62, k63, k64, k65, k66, k67, k68, k69, k70, k71, k72, k73, k74, k75, k76, k77, k78, k79, k80, k81, k82, k83, k84, k85, k86, k87, k88, k89, k90, k91, k92, k93, k94, k95, k96, k97, k98, k99, k100, k101, k102, k103, k104, k105, k106, k107, k108, k109, k110, k111, k112, k113, k114, k115, k116, k117, k118, k119, k120, k121, k122, k123, k124, k125, k126, k127, k128, k129, k130, k131, k132, k133, k134, k135, k136, k137, k138, k139, k140, k141, k142, k143, k144, k145, k146, k147, k148, k149, k150, k151, k152, k153, k154, k155, k156, k157, k158, k159, k160, k161, k162, k163, k164, k165, k166, k167, k168, k169, k170, k171, k172, k173, k174, k175, k176, k177, k178, k179, k180, k181, k182, k183, k184, k185, k186, k187, k188, k189, k190, k191, k192, k193, k194, k195, k196, k197, k198, k199, k200, k201, k202, k203, k204, k205, k206, k207, k208, k209, k210], []⟩ v) ∧ True := ⟨cuts_after v0 hf Q hQ hpan F G H l gs gd gb gc g0 m A s' L' X' bk v k hA hm f hbk m0 ka kn kp keep hkn hK hgc z1 t a1 n1 c1 nx hg0 hcap hcmx hnx ht x hx s L X wd L1 L2 X1 X2 lo w1 sa xa sn sc xn xc hb hgb o1 hL1 o2 hx1 hbt hsz hFo h2 hcase hx0, trivial⟩
  have hfc : f = 0 ∨ f = 7 := hcase.imp (·.1) (·.1)
  clear hx0 hcase h2 hFo hsz hbt hx1 o2 hL1 o1 hgb hb wd hx ht hnx hcmx hcap hg0 hgc hK hkn hbk hm hA k hpan hQ hf
  rcases hfc with rfl | rfl
  · skip
    go_upto_region 23 with fail
    refine wp_region_lit ?_
    refine list_val (.int .i64 0) (by kernel_rfl) (by kernel_rfl) ?_
    simp only [nrm]
    refine list_val (.bool false) (by kernel_rfl) (by kernel_rfl) ?_
    simp only [nrm]
    refine list_val_offs 2 (.bool false) (by kernel_rfl) (by kernel_rfl) (by kernel_rfl) ?_
    simp only [List.drop_succ_cons, List.drop_zero, List.take_succ_cons, List.take_zero, putU]
    simp only [nrm]
    refine list_val (.bool false) (by kernel_rfl) (by kernel_rfl) ?_
    simp only [nrm]
    refine wpList_nil ?_
    rename_i K1_ hK1_ K0_ hK0_
    refine hK0_ _ _ ?_
    refine wp_cond_false rfl ?_
    refine wp_skip ?_
    show K1_ _ _
    refine hK1_ _ _ ?_
    refine wp_code_eq (c := afterC) (by kernel_rfl) ?_
    exact unhide hall _ _ _ _ _ _ _ _ _ _ _ _ _ _ _ _ _ _ _ _ _ _ _ _ _ _ _ _ _ _ _ _ _ _ _ _ _ _ _ _ _ _ _ _ _ _ _ _ _ _ _ _ _ _ _ _ _ _ _ _ _ _ _ _ _ _ _ _ _ _ _ _ _ _ _ _ _ _ _ _ _ _ _ _ _ _ _ _ _ _ _ _ _ _ _ _ _ _ _ _ _ _ _ _ _ _ _ _ _ _ _ _ _ _ _ _ _ _ _ _ _ _ _ _ _ _ _ _ _ _ _ _ _ _ _ _ _ _ _ _ _ _ _ _ _ _ _ _ _ _ _ _ _ _ _ _ _ _ _ _ _ _ _ _ _ _ _ _ _ _ _ _ _ _ _ _ _ _ _ _ _ _ _ _ _ _ _ _ _ _ _ _ _ _ _ _ _ _ _ _ _ _ _ _ _
  · skip
    go_upto_region 23 with fail
    refine wp_region_lit ?_
    refine list_val (.int .i64 7) (by kernel_rfl) (by kernel_rfl) ?_
    simp only [nrm]
    refine list_val (.bool true) (by kernel_rfl) (by kernel_rfl) ?_
    simp only [nrm]
    refine list_val (.bool true) (by kernel_rfl) (by kernel_rfl) ?_
    simp only [nrm]
    refine list_val (.int .i64 7) (by kernel_rfl) (by kernel_rfl) ?_
    simp only [nrm]
    refine list_val (.bool false) (by kernel_rfl) (by kernel_rfl) ?_
    simp only [nrm]
    refine list_val (.bool false) (by kernel_rfl) (by kernel_rfl) ?_
    simp only [nrm]
    refine wpList_nil ?_
    rename_i K1_ hK1_ K0_ hK0_
    refine hK0_ _ _ ?_
    refine wp_cond_false rfl ?_
    refine wp_skip ?_
    show K1_ _ _
    refine hK1_ _ _ ?_
    refine wp_code_eq (c := afterC) (by kernel_rfl) ?_
    exact unhide hall _ _ _ _ _ _ _ _ _ _ _ _ _ _ _ _ _ _ _ _ _ _ _ _ _ _ _ _ _ _ _ _ _ _ _ _ _ _ _ _ _ _ _ _ _ _ _ _ _ _ _ _ _ _ _ _ _ _ _ _ _ _ _ _ _ _ _ _ _ _ _ _ _ _ _ _ _ _ _ _ _ _ _ _ _ _ _ _ _ _ _ _ _ _ _ _ _ _ _ _ _ _ _ _ _ _ _ _ _ _ _ _ _ _ _ _ _ _ _ _ _ _ _ _ _ _ _ _ _ _ _ _ _ _ _ _ _ _ _ _ _ _ _ _ _ _ _ _ _ _ _ _ _ _ _ _ _ _ _ _ _ _ _ _ _ _ _ _ _ _ _ _ _ _ _ _ _ _ _ _ _ _ _ _ _ _ _ _ _ _ _ _ _ _ _ _ _ _ _ _ _ _ _ _ _
set_option maxHeartbeats 4000000 in
theorem cuts_no (v0 : World) (Q : Exit → Act → World → Prop) (hQ : ∀ (t : Array Value) (w' : World), Gr v0 w' → t.getD 6 undef = .bool true → Q .ret ⟨t, []⟩ w') (hpan : ∀ c t t' d w, Q (.panic c) ⟨t, d⟩ w → Q (.panic c) ⟨t', d⟩ w) (F G H : List Nat) (l gs gd gb gc g0 : Nat) (A : Dk) (s' : Sup) (L1 : List Int) (X1 : List (List Int)) (bk : Bool) (v : World) (k : Xr v0 F G H l gs gd A s' L1 X1 bk v) (f : Int) (hfc : f = 6 ∨ f = 3) (sa xa : Option Addr) (sn sc xn xc : Nat) (hvb : v.heap[gb]? = some (.cells #[.slice sa sn sc, .slice xa xn xc] 55 (0, 0))) (b1 : Lb v sa sn sc L1) (b2 : Lq v xa xn xc X1) (hx1 : X1.length ≤ 512) (k0 k1 k2 k3 k6 k8 k10 k11 k12 k15 k16 k17 k18 k19 k20 k21 k22 k23 k24 k25 k26 k27 k28 k29 k30 k31 k32 k33 k34 k35 k36 k37 k38 k39 k40 k41 k42 k43 k44 k45 k46 k47 k48 k49 k50 k51 k52 k53 k54 k55 k56 k57 k58 k59 k60 k61 k62 k63 k64 k65 k66 k67 k68 k69 k70 k71 k72 k73 k74 k75 k76 k77 k78 k79 k80 k81 k82 k83 k84 k85 k86 k87 k88 k89 k90 k91 k92 k93 k94 k95 k96 k97 k98 k99 k100 k101 k102 k103 k104 k105 k106 k107 k108 k109 k110 k111 k112 k113 k114 k115 k116 k117 k118 k119 k120 k121 k122 k123 k124 k125 k126 k127 k128 k129 k130 k131 k132 k133 k134 k135 k136 k137 k138 k139 k140 k141 k142 k143 k144 k145 k146 k147 k148 k149 k150 k151 k152 k153 k154 k155 k156 k157 k158 k159 k160 k161 k162 k163 k164 k165 k166 k167 k168 k169 k170 k171 k172 k173 k174 k175 k176 k177 k178 k179 k180 k181 k182 k183 k184 k185 k186 k187 k188 k189 k190 k191 k192 k193 k194 k195 k196 k197 k198 k199 k200 k201 k202 k203 k204 k205 k206 k207 k208 k209 k210 : Value) : Code.wp Tryz.prog midC Q ⟨#[k0, k1, k2, k3, P0 g0, P0 gc, k6, P0 gd, k8, P0 l, k10, k11, k12, P0 gb, .int .i64 f, k15, k16, k17, k18, k19, k20, k21, k22, k23, k24, k25, k26, k27, k28, k29, k30, k31, k32, k33, k34, k35, k36, k37, k38, k39, k40, k41, k42, k43, k44, k45, k46, k47, k48, k49, k50, k51, k52, k53, k54, k55, k56, k57, k58, k59, k60, k61, k62, k63, k64, k65, k66, k67, k68, k69, k70, k71, k72, k73, k74, k75, k76, k77, k78, k79, k80, k81, k82, k83, k84, k85, k86, k87, k88, k89, k90, k91, k92, k93, k94, k95, k96, k97, k98, k99, k100, k101, k102, k103, k104, k105, k106, k107, k108, k109, k110, k111, k112, k113, k114, k115, k116, k117, k118, k119, k120, k121, k122, k123, k124, k125, k126, k127, k128, k129, k130, k131, k132, k133, k134, k135, k136, k137, k138, k139, k140, k141, k142, k143, k144, k145, k146, k147, k148, k149, k150, k151, k152, k153, k154, k155, k156, k157, k158, k159, k160, k161, k162, k163, k164, k165, k166, k167, k168, k169, k170, k171, k172, k173, k174, k175, k176, k177, k178, k179, k180, k181, k182, k183, k184, k185, k186, k187, k188, k189, k190, k191, k192, k193, k194, k195, k196, k197, k198, k199, k200, k201, k202, k203, k204, k205, k206, k207, k208, k209, k210], []⟩ v := by
  conv => arg 2; whnf
  dsimp only
  have hX := hide k
  clear k
  replace hQ := hide hQ; replace hpan := hide hpan; replace hvb := hide hvb; replace b1 := hide b1; replace b2 := hide b2
  rcases hfc with rfl | rfl
  · skip
    go_upto_region 23 with fail
    rename_i K1_ hK1_ K0_ hK0_
    refine wp_region_lit ?_
    refine list_val (.int .i64 6) (by kernel_rfl) (by kernel_rfl) ?_
    simp only [nrm]
    refine list_val (.bool true) (by kernel_rfl) (by kernel_rfl) ?_
    simp only [nrm]
    refine list_val (.bool true) (by kernel_rfl) (by kernel_rfl) ?_
    simp only [nrm]
    refine list_val (.int .i64 6) (by kernel_rfl) (by kernel_rfl) ?_
    simp only [nrm]
    refine list_val (.bool true) (by kernel_rfl) (by kernel_rfl) ?_
    simp only [nrm]
    refine list_val (.bool true) (by kernel_rfl) (by kernel_rfl) ?_
    simp only [nrm]
    refine wpList_nil ?_
    go_upto_region 24 with fail
    refine any_start (S := fun (v : World) => v.heap[gb]? = some (.cells #[.slice sa sn sc, .slice xa xn xc] 55 (0, 0))) (by kernel_rfl) ?_
    replace hX := hide ((unhide hX).more (Gr.refl _).drew); replace hvb := hide ((Gr.refl _).drew.blk (unhide hvb)); replace b1 := hide ((unhide b1).gr (Gr.refl _).drew); replace b2 := hide ((unhide b2).gr (Gr.refl _).drew)
    have hS : (fun (v : World) => v.heap[gb]? = some (.cells #[.slice sa sn sc, .slice xa xn xc] 55 (0, 0))) (World.drew _) := unhide hvb
    generalize World.drew _ = x1 at *
    simp only [List.size_toArray, List.length_cons, List.length_nil, Array.replicate, List.replicate]
    refine any_take (i := 0) (v := (.int .i64 6)) #[false, false, false, false, false, false, false, false, false, false, false, false, false] rfl (by kernel_rfl) (by kernel_rfl) (by kernel_rfl) (by kernel_rfl) (fun _ _ _ h => (unhide hpan) _ _ _ _ _ h) (.inl ⟨by kernel_rfl, fun x_ hu => by kernel_rfl⟩) hS ?_
    simp only [nrm]
    refine any_take (i := 1) (v := (.bool true)) #[true, false, false, false, false, false, false, false, false, false, false, false, false] rfl (by kernel_rfl) (by kernel_rfl) (by kernel_rfl) (by kernel_rfl) (fun _ _ _ h => (unhide hpan) _ _ _ _ _ h) (.inl ⟨by kernel_rfl, fun x_ hu => by kernel_rfl⟩) hS ?_
    simp only [nrm]
    refine any_take (i := 2) (v := (.bool true)) #[true, true, false, false, false, false, false, false, false, false, false, false, false] rfl (by kernel_rfl) (by kernel_rfl) (by kernel_rfl) (by kernel_rfl) (fun _ _ _ h => (unhide hpan) _ _ _ _ _ h) (.inl ⟨by kernel_rfl, fun x_ hu => by kernel_rfl⟩) hS ?_
    simp only [nrm]
    refine any_take (i := 3) (v := undef) #[true, true, true, false, false, false, false, false, false, false, false, false, false] rfl (by kernel_rfl) (by kernel_rfl) (by kernel_rfl) (by kernel_rfl) (fun _ _ _ h => (unhide hpan) _ _ _ _ _ h) (.inr ⟨by kernel_rfl, rfl⟩) hS ?_
    simp only [nrm]
    refine any_take (i := 4) (v := undef) #[true, true, true, true, false, false, false, false, false, false, false, false, false] rfl (by kernel_rfl) (by kernel_rfl) (by kernel_rfl) (by kernel_rfl) (fun _ _ _ h => (unhide hpan) _ _ _ _ _ h) (.inr ⟨by kernel_rfl, rfl⟩) hS ?_
    simp only [nrm]
    refine any_take (i := 5) (v := (.bool true)) #[true, true, true, true, true, false, false, false, false, false, false, false, false] rfl (by kernel_rfl) (by kernel_rfl) (by kernel_rfl) (by kernel_rfl) (fun _ _ _ h => (unhide hpan) _ _ _ _ _ h) (.inl ⟨by kernel_rfl, fun x_ hu => by kernel_rfl⟩) hS ?_
    simp only [nrm]
    refine any_take (i := 6) (v := (.bool true)) #[true, true, true, true, true, true, false, false, false, false, false, false, false] rfl (by kernel_rfl) (by kernel_rfl) (by kernel_rfl) (by kernel_rfl) (fun _ _ _ h => (unhide hpan) _ _ _ _ _ h) (.inl ⟨by kernel_rfl, fun x_ hu => by kernel_rfl⟩) hS ?_
    simp only [nrm]
    refine any_take (i := 7) (v := (.pointer (some ⟨l, 0, none⟩))) #[true, true, true, true, true, true, true, false, false, false, false, false, false] rfl (by kernel_rfl) (by kernel_rfl) (by kernel_rfl) (by kernel_rfl) (fun _ _ _ h => (unhide hpan) _ _ _ _ _ h) (.inl ⟨by kernel_rfl, fun x_ hu => by kernel_rfl⟩) hS ?_
    simp only [nrm]
    refine any_take (i := 9) (v := (.agg #[.slice sa sn sc, .slice xa xn xc])) #[true, true, true, true, true, true, true, true, false, false, false, false, false] rfl (by kernel_rfl) (by kernel_rfl) (by kernel_rfl) (by kernel_rfl) (fun _ _ _ h => (unhide hpan) _ _ _ _ _ h) (.inl ⟨by kernel_rfl, fun x_ hu => exec_arr _ 55 (.tmp 13) rfl gb (by kernel_rfl) #[.slice sa sn sc, .slice xa xn xc] 55 _ hu Tryz.underlying55 rfl (by rw [Tryz.infoTl]; rfl)⟩) hS ?_
    simp only [nrm]
    refine any_one (i := 8) (by kernel_rfl) rfl (fun K_ hQ => ?_)
    refine step_callw (by kernel_rfl) 19 #[P0 l] (by kernel_rfl) ((of12_ok x1 (unhide hX) hx1).mono ?_)
    rintro r u2 ⟨ra, rn, rc, pa, pn, pc, rfl, hO1, hO2, hg⟩
    refine ⟨_, rfl, ?_⟩
    have hl1 := hide (lb_back hO1 (unhide hX).lg.li.1)
    have hl2 := hide (lq_back hO2)
    have hpn : pn ≤ 512 := by rw [← (unhide hl2).len]; exact hx1
    replace hX := hide ((unhide hX).more hg); replace hvb := hide (hg.blk (unhide hvb)); replace b1 := hide ((unhide b1).gr hg); replace b2 := hide ((unhide b2).gr hg)
    replace hS : (fun (v : World) => v.heap[gb]? = some (.cells #[.slice sa sn sc, .slice xa xn xc] 55 (0, 0))) u2 := unhide hvb
    clear hg hO1 hO2
    refine hQ.out _ _ hS (fun _ => ?_)
    clear hQ K_
    simp only [nrm]
    refine any_one (i := 10) (by kernel_rfl) rfl (fun K_ hQ => ?_)
    refine step_callw (by kernel_rfl) 21 #[.agg #[.slice ra rn rc, .slice pa pn pc], .agg #[.slice sa sn sc, .slice xa xn xc]] (by kernel_rfl) ((same12_ok L1 L1 X1 X1 ra sa pa xa rn rc sn sc pn pc xn xc u2 (unhide hl1) (unhide b1) (unhide hl2) (unhide b2) (by omega)).mono ?_)
    rintro r u3 ⟨rfl, hg⟩
    refine ⟨_, rfl, ?_⟩
    rw [decide_eq_true (⟨rfl, rfl⟩ : L1 = L1 ∧ X1 = X1)]
    replace hX := hide ((unhide hX).more hg); replace hvb := hide (hg.blk (unhide hvb)); replace b1 := hide ((unhide b1).gr hg); replace b2 := hide ((unhide b2).gr hg)
    replace hS : (fun (v : World) => v.heap[gb]? = some (.cells #[.slice sa sn sc, .slice xa xn xc] 55 (0, 0))) u3 := unhide hvb
    clear hg hl1 hl2
    refine hQ.out _ _ hS (fun _ => ?_)
    clear hQ K_
    simp only [nrm]
    refine any_take (i := 11) (v := (.bool true)) #[true, true, true, true, true, true, true, true, true, true, true, false, false] rfl (by kernel_rfl) (by kernel_rfl) (by kernel_rfl) (by kernel_rfl) (fun _ _ _ h => (unhide hpan) _ _ _ _ _ h) (.inl ⟨by kernel_rfl, fun x_ hu => by kernel_rfl⟩) hS ?_
    simp only [nrm]
    refine any_one (i := 12) (by kernel_rfl) rfl (fun K_ hQ => ?_)
    replace hQ := hide hQ
    go_simp
    refine (unhide hQ).out _ _ hS (fun _ => ?_)
    clear hQ K_
    refine any_done (by kernel_rfl) ?_
    clear hS
    have hZ : Hid (Gr v0 u3) := (unhide hX).gr
    clear hX
    go_wp2_with fail
    exact unhide hQ _ _ (unhide hZ) rfl
  · skip
    go_upto_region 23 with fail
    rename_i K1_ hK1_ K0_ hK0_
    refine wp_region_lit ?_
    refine list_val (.int .i64 3) (by kernel_rfl) (by kernel_rfl) ?_
    simp only [nrm]
    refine list_val (.bool true) (by kernel_rfl) (by kernel_rfl) ?_
    simp only [nrm]
    refine list_val (.bool true) (by kernel_rfl) (by kernel_rfl) ?_
    simp only [nrm]
    refine list_val (.int .i64 3) (by kernel_rfl) (by kernel_rfl) ?_
    simp only [nrm]
    refine list_val (.bool true) (by kernel_rfl) (by kernel_rfl) ?_
    simp only [nrm]
    refine list_val (.bool true) (by kernel_rfl) (by kernel_rfl) ?_
    simp only [nrm]
    refine wpList_nil ?_
    go_upto_region 24 with fail
    refine any_start (S := fun (v : World) => v.heap[gb]? = some (.cells #[.slice sa sn sc, .slice xa xn xc] 55 (0, 0))) (by kernel_rfl) ?_
    replace hX := hide ((unhide hX).more (Gr.refl _).drew); replace hvb := hide ((Gr.refl _).drew.blk (unhide hvb)); replace b1 := hide ((unhide b1).gr (Gr.refl _).drew); replace b2 := hide ((unhide b2).gr (Gr.refl _).drew)
    have hS : (fun (v : World) => v.heap[gb]? = some (.cells #[.slice sa sn sc, .slice xa xn xc] 55 (0, 0))) (World.drew _) := unhide hvb
    generalize World.drew _ = x1 at *
    simp only [List.size_toArray, List.length_cons, List.length_nil, Array.replicate, List.replicate]
    refine any_take (i := 0) (v := (.int .i64 3)) #[false, false, false, false, false, false, false, false, false, false, false, false, false] rfl (by kernel_rfl) (by kernel_rfl) (by kernel_rfl) (by kernel_rfl) (fun _ _ _ h => (unhide hpan) _ _ _ _ _ h) (.inl ⟨by kernel_rfl, fun x_ hu => by kernel_rfl⟩) hS ?_
    simp only [nrm]
    refine any_take (i := 1) (v := (.bool false)) #[true, false, false, false, false, false, false, false, false, false, false, false, false] rfl (by kernel_rfl) (by kernel_rfl) (by kernel_rfl) (by kernel_rfl) (fun _ _ _ h => (unhide hpan) _ _ _ _ _ h) (.inl ⟨by kernel_rfl, fun x_ hu => by kernel_rfl⟩) hS ?_
    simp only [nrm]
    refine any_take (i := 2) (v := (.bool false)) #[true, true, false, false, false, false, false, false, false, false, false, false, false] rfl (by kernel_rfl) (by kernel_rfl) (by kernel_rfl) (by kernel_rfl) (fun _ _ _ h => (unhide hpan) _ _ _ _ _ h) (.inl ⟨by kernel_rfl, fun x_ hu => by kernel_rfl⟩) hS ?_
    simp only [nrm]
    refine any_take (i := 3) (v := (.int .i64 3)) #[true, true, true, false, false, false, false, false, false, false, false, false, false] rfl (by kernel_rfl) (by kernel_rfl) (by kernel_rfl) (by kernel_rfl) (fun _ _ _ h => (unhide hpan) _ _ _ _ _ h) (.inl ⟨by kernel_rfl, fun x_ hu => by kernel_rfl⟩) hS ?_
    simp only [nrm]
    refine any_take (i := 4) (v := (.bool true)) #[true, true, true, true, false, false, false, false, false, false, false, false, false] rfl (by kernel_rfl) (by kernel_rfl) (by kernel_rfl) (by kernel_rfl) (fun _ _ _ h => (unhide hpan) _ _ _ _ _ h) (.inl ⟨by kernel_rfl, fun x_ hu => by kernel_rfl⟩) hS ?_
    simp only [nrm]
    refine any_take (i := 5) (v := (.bool true)) #[true, true, true, true, true, false, false, false, false, false, false, false, false] rfl (by kernel_rfl) (by kernel_rfl) (by kernel_rfl) (by kernel_rfl) (fun _ _ _ h => (unhide hpan) _ _ _ _ _ h) (.inl ⟨by kernel_rfl, fun x_ hu => by kernel_rfl⟩) hS ?_
    simp only [nrm]
    refine any_take (i := 6) (v := (.bool true)) #[true, true, true, true, true, true, false, false, false, false, false, false, false] rfl (by kernel_rfl) (by kernel_rfl) (by kernel_rfl) (by kernel_rfl) (fun _ _ _ h => (unhide hpan) _ _ _ _ _ h) (.inl ⟨by kernel_rfl, fun x_ hu => by kernel_rfl⟩) hS ?_
    simp only [nrm]
    refine any_take (i := 7) (v := (.pointer (some ⟨l, 0, none⟩))) #[true, true, true, true, true, true, true, false, false, false, false, false, false] rfl (by kernel_rfl) (by kernel_rfl) (by kernel_rfl) (by kernel_rfl) (fun _ _ _ h => (unhide hpan) _ _ _ _ _ h) (.inl ⟨by kernel_rfl, fun x_ hu => by kernel_rfl⟩) hS ?_
    simp only [nrm]
    refine any_take (i := 9) (v := (.agg #[.slice sa sn sc, .slice xa xn xc])) #[true, true, true, true, true, true, true, true, false, false, false, false, false] rfl (by kernel_rfl) (by kernel_rfl) (by kernel_rfl) (by kernel_rfl) (fun _ _ _ h => (unhide hpan) _ _ _ _ _ h) (.inl ⟨by kernel_rfl, fun x_ hu => exec_arr _ 55 (.tmp 13) rfl gb (by kernel_rfl) #[.slice sa sn sc, .slice xa xn xc] 55 _ hu Tryz.underlying55 rfl (by rw [Tryz.infoTl]; rfl)⟩) hS ?_
    simp only [nrm]
    refine any_one (i := 8) (by kernel_rfl) rfl (fun K_ hQ => ?_)
    refine step_callw (by kernel_rfl) 19 #[P0 l] (by kernel_rfl) ((of12_ok x1 (unhide hX) hx1).mono ?_)
    rintro r u2 ⟨ra, rn, rc, pa, pn, pc, rfl, hO1, hO2, hg⟩
    refine ⟨_, rfl, ?_⟩
    have hl1 := hide (lb_back hO1 (unhide hX).lg.li.1)
    have hl2 := hide (lq_back hO2)
    have hpn : pn ≤ 512 := by rw [← (unhide hl2).len]; exact hx1
    replace hX := hide ((unhide hX).more hg); replace hvb := hide (hg.blk (unhide hvb)); replace b1 := hide ((unhide b1).gr hg); replace b2 := hide ((unhide b2).gr hg)
    replace hS : (fun (v : World) => v.heap[gb]? = some (.cells #[.slice sa sn sc, .slice xa xn xc] 55 (0, 0))) u2 := unhide hvb
    clear hg hO1 hO2
    refine hQ.out _ _ hS (fun _ => ?_)
    clear hQ K_
    simp only [nrm]
    refine any_one (i := 10) (by kernel_rfl) rfl (fun K_ hQ => ?_)
    refine step_callw (by kernel_rfl) 21 #[.agg #[.slice ra rn rc, .slice pa pn pc], .agg #[.slice sa sn sc, .slice xa xn xc]] (by kernel_rfl) ((same12_ok L1 L1 X1 X1 ra sa pa xa rn rc sn sc pn pc xn xc u2 (unhide hl1) (unhide b1) (unhide hl2) (unhide b2) (by omega)).mono ?_)
    rintro r u3 ⟨rfl, hg⟩
    refine ⟨_, rfl, ?_⟩
    rw [decide_eq_true (⟨rfl, rfl⟩ : L1 = L1 ∧ X1 = X1)]
    replace hX := hide ((unhide hX).more hg); replace hvb := hide (hg.blk (unhide hvb)); replace b1 := hide ((unhide b1).gr hg); replace b2 := hide ((unhide b2).gr hg)
    replace hS : (fun (v : World) => v.heap[gb]? = some (.cells #[.slice sa sn sc, .slice xa xn xc] 55 (0, 0))) u3 := unhide hvb
    clear hg hl1 hl2
    refine hQ.out _ _ hS (fun _ => ?_)
    clear hQ K_
    simp only [nrm]
    refine any_take (i := 11) (v := (.bool true)) #[true, true, true, true, true, true, true, true, true, true, true, false, false] rfl (by kernel_rfl) (by kernel_rfl) (by kernel_rfl) (by kernel_rfl) (fun _ _ _ h => (unhide hpan) _ _ _ _ _ h) (.inl ⟨by kernel_rfl, fun x_ hu => by kernel_rfl⟩) hS ?_
    simp only [nrm]
    refine any_one (i := 12) (by kernel_rfl) rfl (fun K_ hQ => ?_)
    replace hQ := hide hQ
    go_simp
    refine (unhide hQ).out _ _ hS (fun _ => ?_)
    clear hQ K_
    refine any_done (by kernel_rfl) ?_
    clear hS
    have hZ : Hid (Gr v0 u3) := (unhide hX).gr
    clear hX
    go_wp2_with fail
    exact unhide hQ _ _ (unhide hZ) rfl
theorem cut_chk {D : Dk} {m : Nat} {s : Sup} {L M : List Int} {X : List (List Int)} (k : Wd D m s L X) (a : Int) (ha : 0 ≤ a) (ha2 : a < 9223372036854775808) (keep : List Bool) (hM : IsB M) (hf : M.length ≤ 64 * ((D.safe.length - 2) / 4)) (ht : s.turn + 1 < 18446744073709551616) : ∃ e E, e = (Dk.runD (takeOps s ((D.safe.length - 2) / 4) M) (D.armD a)).2 ∧ E = (Dk.runD (takeOps s ((D.safe.length - 2) / 4) M) (D.armD a)).1 ∧ E.Ok (m + ((M.length + 63) / 64 + 3)) ∧ (e = 0 ∨ e = 7) ∧ ∃ s2 L2 X2, Wd (E.crashD keep) (m + ((M.length + 63) / 64 + 3)) s2 L2 X2 ∧ ((e = 0 ∧ L2 = M ∧ X2 = []) ∨ (e = 7 ∧ ((L2 = L ∧ X2 = X) ∨ (L2 = M ∧ X2 = [])))) := by
  have hok := next_ok k.fd.hs hM hf (by have := k.fd.ok.hi1; omega) ht
  have h1 := run_ok (takeOps s ((D.safe.length - 2) / 4) M) (k.fd.ok.arm a ha2) (fun x hx => (take_mem (h := (D.safe.length - 2) / 4) k.fd.hs.ok.p hM hf hok x hx).1)
  rw [take_len] at h1
  have h2 := wd_take_cut k a ha ha2 keep hM hf ht
  generalize (Dk.runD (takeOps s ((D.safe.length - 2) / 4) M) (D.armD a)).2 = e at *
  generalize (Dk.runD (takeOps s ((D.safe.length - 2) / 4) M) (D.armD a)).1 = E at *
  refine ⟨e, E, rfl, rfl, h1, h2.imp (·.1) (·.1), ?_⟩
  rcases h2 with ⟨q1, _, q2⟩ | ⟨q1, _, q2 | q2⟩
  · exact ⟨_, _, _, q2, .inl ⟨q1, rfl, rfl⟩⟩
  · exact ⟨_, _, _, q2, .inr ⟨q1, .inl ⟨rfl, rfl⟩⟩⟩
  · exact ⟨_, _, _, q2, .inr ⟨q1, .inr ⟨rfl, rfl⟩⟩⟩
theorem cut_app {D : Dk} {m : Nat} {s : Sup} {L x : List Int} {X : List (List Int)} (k : Wd D m s L X) (a : Int) (ha : 0 ≤ a) (ha2 : a < 9223372036854775808) (keep : List Bool) (hx : IsB x) (hf : usd X + ned x.length ≤ D.safe.length - lgo D.safe.length) (ht : s.turn < 18446744073709551616) : ∃ e E, e = (Dk.runD (appOps (lgo D.safe.length) s.turn X.length (usd X) x) (D.armD a)).2 ∧ E = (Dk.runD (appOps (lgo D.safe.length) s.turn X.length (usd X) x) (D.armD a)).1 ∧ E.Ok (m + ((x.length + 62) / 63 + 3)) ∧ (e = 0 ∨ e = 7) ∧ ∃ s2 L2 X2, Wd (E.crashD keep) (m + ((x.length + 62) / 63 + 3)) s2 L2 X2 ∧ ((e = 0 ∧ L2 = L ∧ X2 = X ++ [x]) ∨ (e = 7 ∧ ((L2 = L ∧ X2 = X) ∨ (L2 = L ∧ X2 = X ++ [x])))) := by
  have h1 := run_ok (appOps (lgo D.safe.length) s.turn X.length (usd X) x) (k.fd.ok.arm a ha2) (fun y hy => (app_mem hx y hy).1)
  rw [app_len] at h1
  have h2 := wd_app_cut k a ha ha2 keep hx hf ht
  generalize (Dk.runD (appOps (lgo D.safe.length) s.turn X.length (usd X) x) (D.armD a)).2 = e at *
  generalize (Dk.runD (appOps (lgo D.safe.length) s.turn X.length (usd X) x) (D.armD a)).1 = E at *
  refine ⟨e, E, rfl, rfl, h1, h2.imp (·.1) (·.1), ?_⟩
  rcases h2 with ⟨q1, _, q2⟩ | ⟨q1, _, q2 | q2⟩
  · exact ⟨_, _, _, q2, .inl ⟨q1, rfl, rfl⟩⟩
  · exact ⟨_, _, _, q2, .inr ⟨q1, .inl ⟨rfl, rfl⟩⟩⟩
  · exact ⟨_, _, _, q2, .inr ⟨q1, .inr ⟨rfl, rfl⟩⟩⟩
noncomputable def restC : Code := ((Tryz.f4.body).bind (fromReg 16)).getD .skip
set_option maxHeartbeats 4000000 in
theorem cuts_rest (v0 : World) (hf : Fst v0) (Q : Exit → Act → World → Prop) (hQ : ∀ (t : Array Value) (w' : World), Gr v0 w' → t.getD 6 undef = .bool true → Q .ret ⟨t, []⟩ w') (hpan : ∀ c t t' d w, Q (.panic c) ⟨t, d⟩ w → Q (.panic c) ⟨t', d⟩ w) (F G H : List Nat) (l gs gd gc g0 m : Nat) (D : Dk) (s : Sup) (L : List Int) (X : List (List Int)) (v : World) (k : Xl v0 F G H l gs gd D m s L X v) (hm : m ≤ 1803) (ht30 : s.turn ≤ 30) (m0 : Int) (b0 : -9223372036854775808 ≤ m0 ∧ m0 < 9223372036854775808) (ka : Option Addr) (kn kp : Nat) (keep : List Bool) (hkn : kn ≤ 140737488351232) (hK : Kp v0 ka kn kp keep) (hgc : v0.heap[gc]? = some (.cells #[.int .i64 m0, .slice ka kn kp] 51 (0, 0))) (z1 : Int) (a1 : Option Addr) (n1 c1 : Nat) (S1 : List Int) (hS : Lb v0 a1 n1 c1 S1) (hg0 : v0.heap[g0]? = some (.cells #[.int .i64 z1, .slice a1 n1 c1] 48 (0, 0))) (k0 k1 k2 k3 k6 k8 k10 k11 k12 k13 k14 k15 k16 k17 k18 k19 k20 k21 k22 k23 k24 k25 k26 k27 k28 k29 k30 k31 k32 k33 k34 k35 k36 k37 k38 k39 k40 k41 k42 k43 k44 k45 k46 k47 k48 k49 k50 k51 k52 k53 k54 k55 k56 k57 k58 k59 k60 k61 k62 k63 k64 k65 k66 k67 k68 k69 k70 k71 k72 k73 k74 k75 k76 k77 k78 k79 k80 k81 k82 k83 k84 k85 k86 k87 k88 k89 k90 k91 k92 k93 k94 k95 k96 k97 k98 k99 k100 k101 k102 k103 k104 k105 k106 k107 k108 k109 k110 k111 k112 k113 k114 k115 k116 k117 k118 k119 k120 k121 k122 k123 k124 k125 k126 k127 k128 k129 k130 k131 k132 k133 k134 k135 k136 k137 k138 k139 k140 k141 k142 k143 k144 k145 k146 k147 k148 k149 k150 k151 k152 k153 k154 k155 k156 k157 k158 k159 k160 k161 k162 k163 k164 k165 k166 k167 k168 k169 k170 k171 k172 k173 k174 k175 k176 k177 k178 k179 k180 k181 k182 k183 k184 k185 k186 k187 k188 k189 k190 k191 k192 k193 k194 k195 k196 k197 k198 k199 k200 k201 k202 k203 k204 k205 k206 k207 k208 k209 k210 : Value) : Code.wp Tryz.prog restC Q ⟨#[k0, k1, k2, k3, P0 g0, P0 gc, k6, P0 gd, k8, P0 l, k10, k11, k12, k13, k14, k15, k16, k17, k18, k19, k20, k21, k22, k23, k24, k25, k26, k27, k28, k29, k30, k31, k32, k33, k34, k35, k36, k37, k38, k39, k40, k41, k42, k43, k44, k45, k46, k47, k48, k49, k50, k51, k52, k53, k54, k55, k56, k57, k58, k59, k60, k61, k62, k63, k64, k65, k66, k67, k68, k69, k70, k71, k72, k73, k74, k75, k76, k77, k78, k79, k80, k81, k82, k83, k84, k85, k86, k87, k88, k89, k90, k91, k92, k93, k94, k95, k96, k97, k98, k99, k100, k101, k102, k103, k104, k105, k106, k107, k108, k109, k110, k111, k112, k113, k114, k115, k116, k117, k118, k119, k120, k121, k122, k123, k124, k125, k126, k127, k128, k129, k130, k131, k132, k133, k134, k135, k136, k137, k138, k139, k140, k141, k142, k143, k144, k145, k146, k147, k148, k149, k150, k151, k152, k153, k154, k155, k156, k157, k158, k159, k160, k161, k162, k163, k164, k165, k166, k167, k168, k169, k170, k171, k172, k173, k174, k175, k176, k177, k178, k179, k180, k181, k182, k183, k184, k185, k186, k187, k188, k189, k190, k191, k192, k193, k194, k195, k196, k197, k198, k199, k200, k201, k202, k203, k204, k205, k206, k207, k208, k209, k210], []⟩ v := by
  conv => arg 2; whnf
  dsimp only
  have hx512 : X.length ≤ 511 := by have a1 := usd_ge X; have a2 := k.wd.wl.le; have a3 := k.wd.fd.ok.hi1; have a4 := lgo_le k.wd.fd.len; have a5 := k.wd.fd.len; omega
  have hcap := hS.cap
  have hcmx := hS.max
  obtain ⟨nx, hnx⟩ : ∃ k, k = min n1 2500 := ⟨_, rfl⟩
  have hnx2 : nx ≤ n1 ∧ nx ≤ 2500 := by omega
  have hLx := hS.pre nx hnx2.1
  obtain ⟨x, hx⟩ : ∃ x, x = S1.take nx := ⟨_, rfl⟩
  rw [← hx] at hLx
  have hxl : x.length = nx := hLx.len
  have hxb := hLx.isB
  obtain ⟨t, ht⟩ : ∃ t : Int, t = IntKind.u64.wrap z1 % 3 := ⟨_, rfl⟩
  have hLb := k.wd.bytes.1
  have hFl : ∀ i ∈ F, i < v.heap.size := fun i hi => k.xs.ls.lt i hi
  have hHl : ∀ i ∈ H, i < v.heap.size := fun i hi => k.lg.lt i hi
  have hX := hide k
  replace hQ := hide hQ; replace hpan := hide hpan; replace hf := hide hf; replace hK := hide hK; replace hgc := hide hgc; replace hg0 := hide hg0; replace hnx := hide hnx; replace hLx := hide hLx; replace hxl := hide hxl; replace hxb := hide hxb; replace ht := hide ht; replace hLb := hide hLb; replace hFl := hide hFl; replace hHl := hide hHl
  clear k hS hx
  obtain ⟨q0, hq0⟩ : ∃ q : Int, q = (if m0 < 0 then 0 else m0) := ⟨_, rfl⟩
  have p0 : 0 ≤ q0 := by rw [hq0]; split <;> omega
  obtain ⟨t0, ht0⟩ : ∃ t : Int, t = q0 % 50 := ⟨_, rfl⟩
  have r0 : 0 ≤ t0 ∧ t0 < 50 := by omega
  have et0 : q0.tmod 50 = t0 := by rw [Int.tmod_eq_emod_of_nonneg p0, ht0]
  have ew0 : IntKind.i64.wrap t0 = t0 := by rw [IntKind.wrap_i64]; omega
  obtain ⟨z0, hz0⟩ : ∃ z : Nat, (z : Int) = 0 + t0 := ⟨(0 + t0).toNat, by omega⟩
  have ex0 : IntKind.i64.wrap (0 + t0) = (z0 : Int) := by rw [IntKind.wrap_i64]; omega
  have bz0 : 0 ≤ z0 ∧ z0 < 0 + 50 := by omega
  replace hq0 := hide hq0; replace ht0 := hide ht0; replace hz0 := hide hz0
  go_upto_region 16 with fail
  refine wp_region_lit ?_
  refine list_val (.pointer (some ⟨l, 0, none⟩)) (by kernel_rfl) (by kernel_rfl) ?_
  simp only [nrm]
  refine list_call 19 #[P0 l] (by kernel_rfl) (by kernel_rfl) ((of12_ok v (unhide hX).xr (by omega)).mono ?_)
  rintro r u2 ⟨sa, sn, sc, xa, xn, xc, rfl, hO1, hO2, hg⟩
  refine ⟨_, rfl, ?_⟩
  have hgv := hide hg
  replace hX := hide ((unhide hX).more hg)
  replace hO1 := hide hO1; replace hO2 := hide hO2
  clear hg
  have hB := Bl.nil u2
  simp only [nrm]
  refine list_valw (.pointer (some ⟨u2.heap.size, 0, none⟩)) (u2.alloc (.cells (#[.slice none 0 0, .slice none 0 0]) 55 (0, 0))) (by kernel_rfl) (by kernel_rfl) ?_
  replace hB := hB.new (#[.slice none 0 0, .slice none 0 0]) 55
  simp only [List.nil_append, List.cons_append] at hB
  generalize World.alloc _ _ = u3 at *
  generalize u2.heap.size = gb at *
  replace hB : Bl u2 [⟨gb, #[.slice none 0 0, .slice none 0 0], 55⟩] u3 := hB
  simp only [nrm]
  refine list_store 55 (.tmp 13) (.tmp 62) (gb) (#[.slice sa sn sc, .slice xa xn xc]) 55 (#[.slice none 0 0, .slice none 0 0]) (by kernel_rfl) rfl (by kernel_rfl) (by kernel_rfl) (hB.get 0 (x := ⟨gb, #[.slice none 0 0, .slice none 0 0], 55⟩) rfl) (by rw [Tryz.infoTl]; rfl) rfl (by kernel_rfl) ?_
  replace hB := hB.set 0 (x := ⟨gb, #[.slice none 0 0, .slice none 0 0], 55⟩) rfl (#[.slice sa sn sc, .slice xa xn xc])
  simp only [List.set_cons_zero, List.set_cons_succ] at hB
  generalize World.setRow _ _ _ = w1 at *
  replace hB : Bl u2 [⟨gb, #[.slice sa sn sc, .slice xa xn xc], 55⟩] w1 := hB
  simp only [nrm]
  refine wpList_nil ?_
  have hb : w1.heap[gb]? = some (.cells #[.slice sa sn sc, .slice xa xn xc] 55 (0, 0)) := (hB.get 0 (x := ⟨gb, #[.slice sa sn sc, .slice xa xn xc], 55⟩) rfl)
  have hgb : v.heap.size ≤ gb := Nat.le_trans (unhide hgv).size (hB.own 0 (x := ⟨gb, #[.slice sa sn sc, .slice xa xn xc], 55⟩) rfl)
  have hg := hB.gr
  replace hX := hide ((unhide hX).more hg); replace hO1 := hide ((unhide hO1).gr hg); replace hO2 := hide ((unhide hO2).gr hg)
  have hvs1 : v.heap.size ≤ w1.heap.size := Nat.le_trans (unhide hgv).size hg.size
  replace hb := hide hb
  clear hg hB hgv
  go_upto_region 17 with fail
  refine wp_region_lit ?_
  refine list_val (.pointer (some ⟨gd, 0, none⟩)) (by kernel_rfl) (by kernel_rfl) ?_
  simp only [nrm]
  refine list_val (.pointer (some ⟨gc, 0, none⟩)) (by kernel_rfl) (by kernel_rfl) ?_
  simp only [nrm]
  refine list_val (.int .i64 m0) (by kernel_rfl) (exec_i64 _ (.tmp 64) rfl gc 0 (by kernel_rfl) m0 (cell_of ((unhide hX).xs.gr.blk (unhide hgc)) (i := 0) rfl)) ?_
  simp only [nrm]
  refine list_val (.int .i64 q0) (by kernel_rfl) (by have hmx := unhide hq0; go_simp) ?_
  simp only [nrm]
  refine list_val (.int .i64 t0) (by kernel_rfl) (by go_simp) ?_
  simp only [nrm]
  refine list_call 20 #[P0 gd, .int .i64 t0] (by kernel_rfl) (by kernel_rfl) ((x_arm (unhide hX) (by omega) t0 r0.1 (by omega)).mono ?_)
  rintro r y1 ⟨F1, rfl, hR, hC⟩
  have hbt : Hid (Btw v.heap.size w1.heap.size w1 y1) := (Btw.refl _ _ _).chg hC (Nat.le_refl _) (fun i hi => .inl (unhide hFl i hi))
  have hFo : Hid (∀ i ∈ F1, i < v.heap.size ∨ w1.heap.size ≤ i) := out_chg hC (Nat.le_refl _) (fun i hi => .inl (unhide hFl i hi))
  have hsz := hC.size
  have wd := hide (unhide hX).wd
  have hR := hide hR
  clear hC hX
  refine ⟨_, rfl, ?_⟩
  simp only [nrm]
  refine list_val (.bool false) (by kernel_rfl) (by kernel_rfl) ?_
  simp only [nrm]
  refine wpList_nil ?_
  go_upto_region 19 with fail
  refine wp_region_lit ?_
  (refine wpList_step fun K hK => ?_; replace hK := hide hK; go_simp; refine unhide hK _ _ ?_; clear hK K)
  refine wpList_nil ?_
  by_cases ht1 : t = 1
  · skip
    subst ht1
    go_upto_region 20 with fail
    rename_i K1_ hK1_ K0_ hK0_
    refine wp_region_lit ?_
    refine list_val (.agg #[.int .i64 z1, .slice a1 n1 c1]) (by kernel_rfl) (exec_arr _ 48 (.tmp 4) rfl g0 (by kernel_rfl) #[.int .i64 z1, .slice a1 n1 c1] 48 _ ((unhide hR).gr.blk (unhide hg0)) Tryz.underlying48 rfl (by rw [Tryz.infoOp12]; rfl)) ?_
    simp only [nrm]
    refine list_call 16 #[.agg #[.int .i64 z1, .slice a1 n1 c1]] (by kernel_rfl) (by kernel_rfl) ((kind12_ok z1 a1 n1 c1 _).mono ?_)
    rintro r y2 ⟨rfl, hg⟩
    refine ⟨_, rfl, ?_⟩
    rw [← unhide ht]
    replace hR := hide ((unhide hR).more hg); replace hbt := hide ((unhide hbt).gr hg hsz); replace hsz := Nat.le_trans hsz hg.size
    clear hg
    simp only [nrm]
    refine list_val (.bool true) (by kernel_rfl) (by kernel_rfl) ?_
    simp only [nrm]
    refine wpList_nil ?_
    by_cases hfit : nx ≤ 64 * ((D.safe.length - 2) / 4)
    · skip
      go_upto_region 21 with fail
      refine wp_region_lit ?_
      refine list_val (.pointer (some ⟨l, 0, none⟩)) (by kernel_rfl) (by kernel_rfl) ?_
      simp only [nrm]
      refine list_val (.agg #[.int .i64 z1, .slice a1 n1 c1]) (by kernel_rfl) (exec_arr _ 48 (.tmp 4) rfl g0 (by kernel_rfl) #[.int .i64 z1, .slice a1 n1 c1] 48 _ ((unhide hR).gr.blk (unhide hg0)) Tryz.underlying48 rfl (by rw [Tryz.infoOp12]; rfl)) ?_
      simp only [nrm]
      refine list_call 18 #[.agg #[.int .i64 z1, .slice a1 n1 c1]] (by kernel_rfl) (by kernel_rfl) ((bytes12_ok z1 a1 n1 c1 hcap hcmx _).mono ?_)
      rintro r y3 ⟨rfl, hg⟩
      refine ⟨_, rfl, ?_⟩
      rw [← unhide hnx]
      replace hR := hide ((unhide hR).more hg); replace hbt := hide ((unhide hbt).gr hg hsz); replace hsz := Nat.le_trans hsz hg.size
      clear hg
      simp only [nrm]
      obtain ⟨e, E, he, hE, hEk, he07, s2, L2, X2, hwd2, hcs⟩ := cut_chk (unhide wd) t0 r0.1 (by omega) keep (unhide hxb) (by rw [unhide hxl]; exact hfit) (by omega)
      refine list_call 8 #[P0 l, .slice a1 nx c1] (by kernel_rfl) (by kernel_rfl) ((x_chk_armed t0 r0.1 (by omega) (unhide hR) (unhide wd) (by omega) (unhide hf) (by omega) x a1 nx c1 ((unhide hLx).gr (unhide hR).gr) ((unhide hR).far (unhide hLx)) hfit).mono ?_)
      rintro r y4 ⟨F2, H2, rfl, hR4, hC⟩
      rw [← he, ← hE] at hR4
      rw [← he]
      have hbt4 : Hid (Btw v.heap.size w1.heap.size w1 y4) := (unhide hbt).chg hC hsz (fun i hi => (List.mem_append.1 hi).elim (unhide hFo i) (fun h => .inl (unhide hHl i h)))
      have hFo4 : Hid (∀ i ∈ F2, i < v.heap.size ∨ w1.heap.size ≤ i) := fun i hi => out_chg hC hsz (fun i hi => (List.mem_append.1 hi).elim (unhide hFo i) (fun h => .inl (unhide hHl i h))) i (List.mem_append_left _ hi)
      have hsz4 := Nat.le_trans hsz hC.size
      have hR4 := hide hR4; have hEk := hide hEk; have hwd2 := hide hwd2; have hcs := hide hcs; have he07 := hide he07
      clear hR hC he hE hbt
      refine ⟨_, rfl, ?_⟩
      simp only [nrm]
      (refine wpList_step fun K hK => ?_; replace hK := hide hK; go_simp; refine unhide hK _ _ ?_; clear hK K)
      refine wpList_nil ?_
      show K1_ _ _
      refine hK1_ _ _ ?_
      rcases unhide he07 with rfl | rfl
      · skip
        refine wp_code_eq (c := midC) (by kernel_rfl) ?_
        exact cuts_go v0 (unhide hf) Q (unhide hQ) (unhide hpan) F2 G H2 l gs gd gb gc g0 (m + ((x.length + 63) / 64 + 3)) E (s.next x) x [] false y4 (unhide hR4) (unhide hEk) (by rw [unhide hxl]; omega) 0 (fun h => by cases h) m0 ka kn kp keep hkn (unhide hK) ((unhide hR4).gr.blk (unhide hgc)) z1 1 a1 n1 c1 nx ((unhide hR4).gr.blk (unhide hg0)) hcap hcmx (unhide hnx) (unhide ht) x (unhide hLx) s2 L2 X2 (unhide hwd2) L x X [] v.heap.size w1 sa xa sn sc xn xc (unhide hb) hgb (unhide hO1) (unhide hLb) (unhide hO2) (by omega) (unhide hbt4) hsz4 (unhide hFo4) (.inl ⟨rfl, rfl, rfl⟩) (unhide hcs) (fun _ => ⟨rfl, rfl, by simp⟩) _ _ _ _ _ _ _ _ _ _ _ _ _ _ _ _ _ _ _ _ _ _ _ _ _ _ _ _ _ _ _ _ _ _ _ _ _ _ _ _ _ _ _ _ _ _ _ _ _ _ _ _ _ _ _ _ _ _ _ _ _ _ _ _ _ _ _ _ _ _ _ _ _ _ _ _ _ _ _ _ _ _ _ _ _ _ _ _ _ _ _ _ _ _ _ _ _ _ _ _ _ _ _ _ _ _ _ _ _ _ _ _ _ _ _ _ _ _ _ _ _ _ _ _ _ _ _ _ _ _ _ _ _ _ _ _ _ _ _ _ _ _ _ _ _ _ _ _ _ _ _ _ _ _ _ _ _ _ _ _ _ _ _ _ _ _ _ _ _ _ _ _ _ _ _ _ _ _ _ _ _ _ _ _ _ _ _ _ _ _ _ _ _ _ _ _ _ _ _ _ _ _ _ _ _
      · skip
        refine wp_code_eq (c := midC) (by kernel_rfl) ?_
        exact cuts_go v0 (unhide hf) Q (unhide hQ) (unhide hpan) F2 G H2 l gs gd gb gc g0 (m + ((x.length + 63) / 64 + 3)) E s L X true y4 (unhide hR4) (unhide hEk) (by rw [unhide hxl]; omega) 7 (fun _ => rfl) m0 ka kn kp keep hkn (unhide hK) ((unhide hR4).gr.blk (unhide hgc)) z1 1 a1 n1 c1 nx ((unhide hR4).gr.blk (unhide hg0)) hcap hcmx (unhide hnx) (unhide ht) x (unhide hLx) s2 L2 X2 (unhide hwd2) L x X [] v.heap.size w1 sa xa sn sc xn xc (unhide hb) hgb (unhide hO1) (unhide hLb) (unhide hO2) (by omega) (unhide hbt4) hsz4 (unhide hFo4) (.inl ⟨rfl, rfl, rfl⟩) (unhide hcs) (fun h => by cases h) _ _ _ _ _ _ _ _ _ _ _ _ _ _ _ _ _ _ _ _ _ _ _ _ _ _ _ _ _ _ _ _ _ _ _ _ _ _ _ _ _ _ _ _ _ _ _ _ _ _ _ _ _ _ _ _ _ _ _ _ _ _ _ _ _ _ _ _ _ _ _ _ _ _ _ _ _ _ _ _ _ _ _ _ _ _ _ _ _ _ _ _ _ _ _ _ _ _ _ _ _ _ _ _ _ _ _ _ _ _ _ _ _ _ _ _ _ _ _ _ _ _ _ _ _ _ _ _ _ _ _ _ _ _ _ _ _ _ _ _ _ _ _ _ _ _ _ _ _ _ _ _ _ _ _ _ _ _ _ _ _ _ _ _ _ _ _ _ _ _ _ _ _ _ _ _ _ _ _ _ _ _ _ _ _ _ _ _ _ _ _ _ _ _ _ _ _ _ _ _ _ _ _ _ _
    · skip
      go_upto_region 21 with fail
      refine wp_region_lit ?_
      refine list_val (.pointer (some ⟨l, 0, none⟩)) (by kernel_rfl) (by kernel_rfl) ?_
      simp only [nrm]
      refine list_val (.agg #[.int .i64 z1, .slice a1 n1 c1]) (by kernel_rfl) (exec_arr _ 48 (.tmp 4) rfl g0 (by kernel_rfl) #[.int .i64 z1, .slice a1 n1 c1] 48 _ ((unhide hR).gr.blk (unhide hg0)) Tryz.underlying48 rfl (by rw [Tryz.infoOp12]; rfl)) ?_
      simp only [nrm]
      refine list_call 18 #[.agg #[.int .i64 z1, .slice a1 n1 c1]] (by kernel_rfl) (by kernel_rfl) ((bytes12_ok z1 a1 n1 c1 hcap hcmx _).mono ?_)
      rintro r y3 ⟨rfl, hg⟩
      refine ⟨_, rfl, ?_⟩
      rw [← unhide hnx]
      replace hR := hide ((unhide hR).more hg); replace hbt := hide ((unhide hbt).gr hg hsz); replace hsz := Nat.le_trans hsz hg.size
      clear hg
      simp only [nrm]
      obtain ⟨a1_, a2_, a3_, a4_, a5_⟩ := arm_parts (unhide wd).fd.dead r0.1
      refine list_call 8 #[P0 l, .slice a1 nx c1] (by kernel_rfl) (by kernel_rfl) ((r_long (unhide hR) ((unhide wd).fd.ok.arm t0 (by omega)) (by omega) a1 nx c1 (by omega) (by rw [a3_]; omega)).mono ?_)
      rintro r y4 ⟨rfl, hR4, hC⟩
      have hbt4 : Hid (Btw v.heap.size w1.heap.size w1 y4) := (unhide hbt).chg hC hsz (fun i hi => .inl (unhide hHl i hi))
      have hR4 := hide hR4
      clear hR hC hbt a1_ a2_ a3_ a4_ a5_
      refine ⟨_, rfl, ?_⟩
      simp only [nrm]
      (refine wpList_step fun K hK => ?_; replace hK := hide hK; go_simp; refine unhide hK _ _ ?_; clear hK K)
      refine wpList_nil ?_
      show K1_ _ _
      refine hK1_ _ _ ?_
      refine wp_code_eq (c := midC) (by kernel_rfl) ?_
      exact cuts_no v0 Q (unhide hQ) (unhide hpan) F1 G H l gs gd gb gc g0 _ s L X false y4 (unhide hR4) 3 (.inr rfl) sa xa sn sc xn xc ((unhide hbt4 gb hgb (lt_of_block (unhide hb))).trans (unhide hb)) (lb_back ((unhide hO1).btw (unhide hbt4)) (unhide hLb)) (lq_back ((unhide hO2).btw (unhide hbt4))) (by omega) _ _ _ _ _ _ _ _ _ _ _ _ _ _ _ _ _ _ _ _ _ _ _ _ _ _ _ _ _ _ _ _ _ _ _ _ _ _ _ _ _ _ _ _ _ _ _ _ _ _ _ _ _ _ _ _ _ _ _ _ _ _ _ _ _ _ _ _ _ _ _ _ _ _ _ _ _ _ _ _ _ _ _ _ _ _ _ _ _ _ _ _ _ _ _ _ _ _ _ _ _ _ _ _ _ _ _ _ _ _ _ _ _ _ _ _ _ _ _ _ _ _ _ _ _ _ _ _ _ _ _ _ _ _ _ _ _ _ _ _ _ _ _ _ _ _ _ _ _ _ _ _ _ _ _ _ _ _ _ _ _ _ _ _ _ _ _ _ _ _ _ _ _ _ _ _ _ _ _ _ _ _ _ _ _ _ _ _ _ _ _ _ _ _ _ _ _ _ _ _ _ _ _ _ _
  · skip
    go_upto_region 20 with fail
    rename_i K1_ hK1_ K0_ hK0_
    refine wp_region_lit ?_
    refine list_val (.agg #[.int .i64 z1, .slice a1 n1 c1]) (by kernel_rfl) (exec_arr _ 48 (.tmp 4) rfl g0 (by kernel_rfl) #[.int .i64 z1, .slice a1 n1 c1] 48 _ ((unhide hR).gr.blk (unhide hg0)) Tryz.underlying48 rfl (by rw [Tryz.infoOp12]; rfl)) ?_
    simp only [nrm]
    refine list_call 16 #[.agg #[.int .i64 z1, .slice a1 n1 c1]] (by kernel_rfl) (by kernel_rfl) ((kind12_ok z1 a1 n1 c1 _).mono ?_)
    rintro r y2 ⟨rfl, hg⟩
    refine ⟨_, rfl, ?_⟩
    rw [← unhide ht]
    replace hR := hide ((unhide hR).more hg); replace hbt := hide ((unhide hbt).gr hg hsz); replace hsz := Nat.le_trans hsz hg.size
    clear hg
    simp only [nrm]
    refine list_val (.bool false) (by kernel_rfl) (by go_simp) ?_
    simp only [nrm]
    refine wpList_nil ?_
    by_cases hfit : usd X + ned x.length ≤ D.safe.length - lgo D.safe.length
    · skip
      go_upto_region 22 with fail
      refine wp_region_lit ?_
      refine list_val (.pointer (some ⟨l, 0, none⟩)) (by kernel_rfl) (by kernel_rfl) ?_
      simp only [nrm]
      refine list_val (.agg #[.int .i64 z1, .slice a1 n1 c1]) (by kernel_rfl) (exec_arr _ 48 (.tmp 4) rfl g0 (by kernel_rfl) #[.int .i64 z1, .slice a1 n1 c1] 48 _ ((unhide hR).gr.blk (unhide hg0)) Tryz.underlying48 rfl (by rw [Tryz.infoOp12]; rfl)) ?_
      simp only [nrm]
      refine list_call 18 #[.agg #[.int .i64 z1, .slice a1 n1 c1]] (by kernel_rfl) (by kernel_rfl) ((bytes12_ok z1 a1 n1 c1 hcap hcmx _).mono ?_)
      rintro r y3 ⟨rfl, hg⟩
      refine ⟨_, rfl, ?_⟩
      rw [← unhide hnx]
      replace hR := hide ((unhide hR).more hg); replace hbt := hide ((unhide hbt).gr hg hsz); replace hsz := Nat.le_trans hsz hg.size
      clear hg
      simp only [nrm]
      obtain ⟨e, E, he, hE, hEk, he07, s2, L2, X2, hwd2, hcs⟩ := cut_app (unhide wd) t0 r0.1 (by omega) keep (unhide hxb) hfit (by omega)
      refine list_call 17 #[P0 l, .slice a1 nx c1] (by kernel_rfl) (by kernel_rfl) ((x_app_armed t0 r0.1 (by omega) (unhide hR) (unhide wd) (by omega) (unhide hf) x a1 nx c1 ((unhide hLx).gr (unhide hR).gr) ((unhide hR).far (unhide hLx)) hfit).mono ?_)
      rintro r y4 ⟨F2, H2, rfl, hR4, hC⟩
      rw [← he, ← hE] at hR4
      rw [← he]
      have hbt4 : Hid (Btw v.heap.size w1.heap.size w1 y4) := (unhide hbt).chg hC hsz (fun i hi => (List.mem_append.1 hi).elim (unhide hFo i) (fun h => .inl (unhide hHl i h)))
      have hFo4 : Hid (∀ i ∈ F2, i < v.heap.size ∨ w1.heap.size ≤ i) := fun i hi => out_chg hC hsz (fun i hi => (List.mem_append.1 hi).elim (unhide hFo i) (fun h => .inl (unhide hHl i h))) i (List.mem_append_left _ hi)
      have hsz4 := Nat.le_trans hsz hC.size
      have hR4 := hide hR4; have hEk := hide hEk; have hwd2 := hide hwd2; have hcs := hide hcs; have he07 := hide he07
      clear hR hC he hE hbt
      refine ⟨_, rfl, ?_⟩
      simp only [nrm]
      (refine wpList_step fun K hK => ?_; replace hK := hide hK; go_simp; refine unhide hK _ _ ?_; clear hK K)
      refine wpList_nil ?_
      show K1_ _ _
      refine hK1_ _ _ ?_
      rcases unhide he07 with rfl | rfl
      · skip
        refine wp_code_eq (c := midC) (by kernel_rfl) ?_
        exact cuts_go v0 (unhide hf) Q (unhide hQ) (unhide hpan) F2 G H2 l gs gd gb gc g0 (m + ((x.length + 62) / 63 + 3)) E s L (X ++ [x]) false y4 (unhide hR4) (unhide hEk) (by rw [unhide hxl]; omega) 0 (fun h => by cases h) m0 ka kn kp keep hkn (unhide hK) ((unhide hR4).gr.blk (unhide hgc)) z1 t a1 n1 c1 nx ((unhide hR4).gr.blk (unhide hg0)) hcap hcmx (unhide hnx) (unhide ht) x (unhide hLx) s2 L2 X2 (unhide hwd2) L L X (X ++ [x]) v.heap.size w1 sa xa sn sc xn xc (unhide hb) hgb (unhide hO1) (unhide hLb) (unhide hO2) (by omega) (unhide hbt4) hsz4 (unhide hFo4) (.inr ⟨ht1, rfl, rfl⟩) (unhide hcs) (fun _ => ⟨rfl, rfl, by rw [List.length_append, List.length_singleton]; omega⟩) _ _ _ _ _ _ _ _ _ _ _ _ _ _ _ _ _ _ _ _ _ _ _ _ _ _ _ _ _ _ _ _ _ _ _ _ _ _ _ _ _ _ _ _ _ _ _ _ _ _ _ _ _ _ _ _ _ _ _ _ _ _ _ _ _ _ _ _ _ _ _ _ _ _ _ _ _ _ _ _ _ _ _ _ _ _ _ _ _ _ _ _ _ _ _ _ _ _ _ _ _ _ _ _ _ _ _ _ _ _ _ _ _ _ _ _ _ _ _ _ _ _ _ _ _ _ _ _ _ _ _ _ _ _ _ _ _ _ _ _ _ _ _ _ _ _ _ _ _ _ _ _ _ _ _ _ _ _ _ _ _ _ _ _ _ _ _ _ _ _ _ _ _ _ _ _ _ _ _ _ _ _ _ _ _ _ _ _ _ _ _ _ _ _ _ _ _ _ _ _ _ _ _ _ _
      · skip
        refine wp_code_eq (c := midC) (by kernel_rfl) ?_
        exact cuts_go v0 (unhide hf) Q (unhide hQ) (unhide hpan) F2 G H2 l gs gd gb gc g0 (m + ((x.length + 62) / 63 + 3)) E s L X true y4 (unhide hR4) (unhide hEk) (by rw [unhide hxl]; omega) 7 (fun _ => rfl) m0 ka kn kp keep hkn (unhide hK) ((unhide hR4).gr.blk (unhide hgc)) z1 t a1 n1 c1 nx ((unhide hR4).gr.blk (unhide hg0)) hcap hcmx (unhide hnx) (unhide ht) x (unhide hLx) s2 L2 X2 (unhide hwd2) L L X (X ++ [x]) v.heap.size w1 sa xa sn sc xn xc (unhide hb) hgb (unhide hO1) (unhide hLb) (unhide hO2) (by omega) (unhide hbt4) hsz4 (unhide hFo4) (.inr ⟨ht1, rfl, rfl⟩) (unhide hcs) (fun h => by cases h) _ _ _ _ _ _ _ _ _ _ _ _ _ _ _ _ _ _ _ _ _ _ _ _ _ _ _ _ _ _ _ _ _ _ _ _ _ _ _ _ _ _ _ _ _ _ _ _ _ _ _ _ _ _ _ _ _ _ _ _ _ _ _ _ _ _ _ _ _ _ _ _ _ _ _ _ _ _ _ _ _ _ _ _ _ _ _ _ _ _ _ _ _ _ _ _ _ _ _ _ _ _ _ _ _ _ _ _ _ _ _ _ _ _ _ _ _ _ _ _ _ _ _ _ _ _ _ _ _ _ _ _ _ _ _ _ _ _ _ _ _ _ _ _ _ _ _ _ _ _ _ _ _ _ _ _ _ _ _ _ _ _ _ _ _ _ _ _ _ _ _ _ _ _ _ _ _ _ _ _ _ _ _ _ _ _ _ _ _ _ _ _ _ _ _ _ _ _ _ _ _ _ _ _ _
    · skip
      go_upto_region 22 with fail
      refine wp_region_lit ?_
      refine list_val (.pointer (some ⟨l, 0, none⟩)) (by kernel_rfl) (by kernel_rfl) ?_
      simp only [nrm]
      refine list_val (.agg #[.int .i64 z1, .slice a1 n1 c1]) (by kernel_rfl) (exec_arr _ 48 (.tmp 4) rfl g0 (by kernel_rfl) #[.int .i64 z1, .slice a1 n1 c1] 48 _ ((unhide hR).gr.blk (unhide hg0)) Tryz.underlying48 rfl (by rw [Tryz.infoOp12]; rfl)) ?_
      simp only [nrm]
      refine list_call 18 #[.agg #[.int .i64 z1, .slice a1 n1 c1]] (by kernel_rfl) (by kernel_rfl) ((bytes12_ok z1 a1 n1 c1 hcap hcmx _).mono ?_)
      rintro r y3 ⟨rfl, hg⟩
      refine ⟨_, rfl, ?_⟩
      rw [← unhide hnx]
      replace hR := hide ((unhide hR).more hg); replace hbt := hide ((unhide hbt).gr hg hsz); replace hsz := Nat.le_trans hsz hg.size
      clear hg
      simp only [nrm]
      obtain ⟨a1_, a2_, a3_, a4_, a5_⟩ := arm_parts (unhide wd).fd.dead r0.1
      refine list_call 17 #[P0 l, .slice a1 nx c1] (by kernel_rfl) (by kernel_rfl) ((r_full (unhide hR) (unhide wd) (by rw [a3_]) a1 nx c1 (by omega) (by rw [← unhide hxl]; exact hfit)).mono ?_)
      rintro r y4 ⟨rfl, hg⟩
      have hR4 := hide ((unhide hR).more hg)
      have hbt4 := hide ((unhide hbt).gr hg hsz)
      clear hR hg hbt a1_ a2_ a3_ a4_ a5_
      refine ⟨_, rfl, ?_⟩
      simp only [nrm]
      (refine wpList_step fun K hK => ?_; replace hK := hide hK; go_simp; refine unhide hK _ _ ?_; clear hK K)
      refine wpList_nil ?_
      show K1_ _ _
      refine hK1_ _ _ ?_
      refine wp_code_eq (c := midC) (by kernel_rfl) ?_
      exact cuts_no v0 Q (unhide hQ) (unhide hpan) F1 G H l gs gd gb gc g0 _ s L X false y4 (unhide hR4) 6 (.inl rfl) sa xa sn sc xn xc ((unhide hbt4 gb hgb (lt_of_block (unhide hb))).trans (unhide hb)) (lb_back ((unhide hO1).btw (unhide hbt4)) (unhide hLb)) (lq_back ((unhide hO2).btw (unhide hbt4))) (by omega) _ _ _ _ _ _ _ _ _ _ _ _ _ _ _ _ _ _ _ _ _ _ _ _ _ _ _ _ _ _ _ _ _ _ _ _ _ _ _ _ _ _ _ _ _ _ _ _ _ _ _ _ _ _ _ _ _ _ _ _ _ _ _ _ _ _ _ _ _ _ _ _ _ _ _ _ _ _ _ _ _ _ _ _ _ _ _ _ _ _ _ _ _ _ _ _ _ _ _ _ _ _ _ _ _ _ _ _ _ _ _ _ _ _ _ _ _ _ _ _ _ _ _ _ _ _ _ _ _ _ _ _ _ _ _ _ _ _ _ _ _ _ _ _ _ _ _ _ _ _ _ _ _ _ _ _ _ _ _ _ _ _ _ _ _ _ _ _ _ _ _ _ _ _ _ _ _ _ _ _ _ _ _ _ _ _ _ _ _ _ _ _ _ _ _ _ _ _ _ _ _ _ _ _ _
end Go.Proofs.YtaoiejgjdmakjaaGreatDoor

namespace Go.Proofs.YtaoiejgjdmakjaaGreatDoor
open Go.ChangeShapes Go.WideShapes Go.ChangeAt Go.RowKit
set_option maxRecDepth 100000
set_option linter.unusedVariables false
set_option linter.unusedSimpArgs false
theorem Tryz.cellsOp12 : Tryz.prog.cellsOf 48 = 2 := by kernel_rfl
theorem open_opc {H : Type} {enc : TypeId × Value → H} {W : World} {fuel : Nat} {cs : List Value} {x : DataW H × List MemPlace} (h : DataW.trod enc Tryz.prog W 0 (fun _ => true) true fuel 48 cs = some x) (hw : ∀ n ∈ x.1.weights Tryz.prog 48, n ≤ reachBytes) :
    ∃ z ai ni ci S, cs = [.int .i64 z, .slice ai ni ci] ∧ (-9223372036854775808 ≤ z ∧ z < 9223372036854775808) ∧ Lb W ai ni ci S ∧ ci ≤ 140737488351232 := by
  obtain ⟨y0, y1, n, hx, hl, h0, h1⟩ := trod_struct2 Tryz.underlying48 h
  rw [Tryz.cellsOp12] at hl
  match cs, hl with
  | [c0, c1], _ =>
    simp only [Tryz.cellsIn, Tryz.cellsBy] at h0 h1
    have hxd : x.1 = .agg [y0.1, y1.1] := by rw [hx]
    have hsw : ∀ e2 s2, y1.1 = .slice e2 s2 → (e2.length + s2.length) * Tryz.prog.bytesOf 5 ≤ reachBytes := by
      intro e2 s2 he
      refine hw _ ?_
      rw [hxd, DataW.weights, Tryz.underlying48]
      show _ ∈ DataW.weightsEach Tryz.prog [3, 33] [y0.1, y1.1]
      rw [DataW.weightsEach, DataW.weightsEach]
      refine List.mem_append_right _ (List.mem_append_left _ ?_)
      rw [he, DataW.weights, Tryz.underlying33]
      exact List.mem_cons_self
    obtain ⟨z0, e0, _, w0⟩ := DataW.trod_int Tryz.underlying3 h0
    have hby : ∃ sa sn sc S, c1 = .slice sa sn sc ∧ Lb W sa sn sc S ∧ sc ≤ 140737488351232 := by
      simp only [List.drop_succ_cons, List.drop_zero, List.take_succ_cons, List.take_zero] at h1
      rcases DataW.trod_slice Tryz.underlying33 h1 with ⟨e2, _⟩ | ⟨ad', l', c', _, _, _, _, e2, _⟩
      · have e4 : c1 = .slice none 0 0 := by simpa using e2
        subst e4
        obtain ⟨li, k1, k2, k3, k4, k5⟩ := open_bytes (a := none) (len := 0) (cap := 0) (d := y1.1) (p := y1.2) ⟨n, h1⟩ hsw
        exact ⟨none, 0, 0, li, rfl, ⟨k2, k1, k3, k4, by omega⟩, k5⟩
      · have e4 : c1 = .slice (some ad') l' c' := by simpa using e2
        subst e4
        obtain ⟨li, k1, k2, k3, k4, k5⟩ := open_bytes (a := some ad') (len := l') (cap := c') (d := y1.1) (p := y1.2) ⟨n, h1⟩ hsw
        exact ⟨some ad', l', c', li, rfl, ⟨k2, k1, k3, k4, by omega⟩, k5⟩
    obtain ⟨sa, sn, sc, S, e1, hS, hsc⟩ := hby
    simp at e0
    subst e0 e1
    exact ⟨z0, sa, sn, sc, S, rfl, wf_b64 w0, hS, hsc⟩
theorem open_op12 {H : Type} {enc : TypeId × Value → H} {W : World} {base : Nat} {v : Value} {d : DataW H} {p : List MemPlace}
    (hv : Value.okWide Tryz.prog W .any base 48 v) (h : DataW.Trod enc Tryz.prog W 0 (fun _ => true) true 48 v d p) (hw : ∀ n ∈ d.weights Tryz.prog 48, n ≤ reachBytes) :
    ∃ z ai ni ci S, v = .agg #[.int .i64 z, .slice ai ni ci] ∧ (-9223372036854775808 ≤ z ∧ z < 9223372036854775808) ∧ Lb W ai ni ci S ∧ ci ≤ 140737488351232 := by
  unfold Value.okWide at hv
  rw [Tryz.underlying48] at hv
  obtain ⟨ar, rfl, hsz, _⟩ := hv
  obtain ⟨fuel, hf⟩ := h
  obtain ⟨z, ai, ni, ci, S, e, h1, h2, h3⟩ := open_opc hf hw
  obtain ⟨cs⟩ := ar
  simp only [Value.cells] at e
  subst e
  exact ⟨z, ai, ni, ci, S, rfl, h1, h2, h3⟩
structure Lo (W : World) (a : Option Addr) (n c : Nat) (os : List (Int × List Int)) : Prop where
  len : os.length = n
  sl : n = 0 ∨ ∃ p o, a = some ⟨p, o, none⟩ ∧ ∀ i, i < n → ∃ ai ni ci, W.cell? ⟨p, o + 2 * i, none⟩ = some (.int .i64 (os.getD i (0, [])).1) ∧ W.cell? ⟨p, o + 2 * i + 1, none⟩ = some (.slice ai ni ci) ∧ Lb W ai ni ci (os.getD i (0, [])).2 ∧ (-9223372036854775808 ≤ (os.getD i (0, [])).1 ∧ (os.getD i (0, [])).1 < 9223372036854775808)
  cap : n ≤ c
  max : c < 9223372036854775808
theorem Lo.gr {w v : World} {a : Option Addr} {n c : Nat} {os : List (Int × List Int)} (h : Lo w a n c os) (g : Gr w v) : Lo v a n c os := by
  refine ⟨h.len, ?_, h.cap, h.max⟩
  rcases h.sl with h | ⟨p, o, h1, h2⟩
  · exact .inl h
  · refine .inr ⟨p, o, h1, fun i hi => ?_⟩
    obtain ⟨ai, ni, ci, h3, h4, h5, h6⟩ := h2 i hi
    exact ⟨ai, ni, ci, g.cell h3, g.cell h4, h5.gr g, h6⟩
theorem Lo.at_ {w : World} {a : Option Addr} {n c : Nat} {os : List (Int × List Int)} (h : Lo w a n c os) (i : Nat) (hi : i < n) : ∃ p o z ai ni ci S, a = some ⟨p, o, none⟩ ∧ os.getD i (0, []) = (z, S) ∧ w.cell? ⟨p, o + 2 * i, none⟩ = some (.int .i64 z) ∧ w.cell? ⟨p, o + 2 * i + 1, none⟩ = some (.slice ai ni ci) ∧ Lb w ai ni ci S ∧ (-9223372036854775808 ≤ z ∧ z < 9223372036854775808) := by
  rcases h.sl with h0 | ⟨p, o, h1, h2⟩
  · omega
  · obtain ⟨ai, ni, ci, h3, h4, h5, h6⟩ := h2 i hi
    exact ⟨p, o, _, ai, ni, ci, _, h1, rfl, h3, h4, h5, h6⟩
theorem open_ops12 {H : Type} {enc : TypeId × Value → H} {W : World} {a : Option Addr} {len cap : Nat} {d : DataW H} {p : List MemPlace}
    (h : DataW.Trod enc Tryz.prog W 0 (fun _ => true) true 46 (.slice a len cap) d p) (hw : ∀ n ∈ d.weights Tryz.prog 46, n ≤ reachBytes) : ∃ os, Lo W a len cap os := by
  obtain ⟨fuel, hf⟩ := h
  rcases DataW.trod_slice Tryz.underlying46 hf with ⟨hcs, _⟩ | ⟨ad, l, c, elems, rest, n, _, hcs, hx, hb, hl, hm, hlen, hel, hsp, hns⟩
  · simp [Value.cells] at hcs
    obtain ⟨rfl, rfl, rfl⟩ := hcs
    exact ⟨[], rfl, .inl rfl, by omega, by omega⟩
  · simp [Value.cells] at hcs
    obtain ⟨rfl, rfl, rfl⟩ := hcs
    simp only [Prod.mk.injEq] at hx
    have hwd : d.weights Tryz.prog 46 = ((elems.map (·.1)).length + (rest.map (·.1)).length) * Tryz.prog.bytesOf 48 :: (DataW.weightsAll Tryz.prog 48 (elems.map (·.1)) ++ DataW.weightsAll Tryz.prog 48 (rest.map (·.1))) := by
      rw [hx.1, DataW.weights, Tryz.underlying46]
    have each : ∀ i, ∃ li : Int × List Int, i < len → ∃ ai ni ci, W.cell? (ad.add (i * 2 + 0)) = some (.int .i64 li.1) ∧ W.cell? (ad.add (i * 2 + 1)) = some (.slice ai ni ci) ∧ Lb W ai ni ci li.2 ∧ (-9223372036854775808 ≤ li.1 ∧ li.1 < 9223372036854775808) := by
      intro i
      by_cases hi : i < len
      · have hy : elems[i]? = some (elems[i]'(by omega)) := List.getElem?_eq_getElem (by omega)
        have h1 := hel i hi
        rw [hy, Tryz.cellsOp12, Option.bind_eq_some_iff] at h1
        obtain ⟨cs', hcs', hy'⟩ := h1
        have hmem : (elems[i]'(by omega)).1 ∈ elems.map (·.1) := List.mem_map.2 ⟨_, List.getElem_mem _, rfl⟩
        obtain ⟨z, ai, ni, ci, S, e, k1, k2, k3⟩ := open_opc hy' (fun n hn => hw n (by rw [hwd]; exact List.mem_cons_of_mem _ (List.mem_append_left _ (weights_all hmem hn))))
        obtain ⟨_, hl4, hc4⟩ := World.cells?_some hcs'
        have c0 := hc4 0 (by omega)
        have c1 := hc4 1 (by omega)
        rw [Deep.add_add] at c0 c1
        rw [e] at c0 c1
        exact ⟨(z, S), fun _ => ⟨ai, ni, ci, c0, c1, k2, k1⟩⟩
      · exact ⟨(0, []), fun h => absurd h hi⟩
    obtain ⟨f, hf2⟩ := Classical.axiomOfChoice each
    refine ⟨(List.range len).map f, by simp, ?_, hl, by unfold maxLen at hm; omega⟩
    rcases Nat.eq_zero_or_pos len with h0 | h0
    · exact .inl h0
    · right
      obtain ⟨b, off, spot⟩ := ad
      obtain ⟨a0, n0, c0, h1, _⟩ := hf2 0 h0
      have hspot : spot = none := by simpa [Addr.add] using World.cell?_spot h1
      subst hspot
      refine ⟨b, off, rfl, fun j hj => ?_⟩
      obtain ⟨ai, ni, ci, h2, h3, h4, h5⟩ := hf2 j hj
      have e : ((List.range len).map f).getD j (0, []) = f j := by simp [hj]
      rw [e]
      rw [Addr.add_mid] at h2 h3
      rw [Nat.mul_comm 2 j, Nat.add_assoc]
      exact ⟨ai, ni, ci, h2, h3, h4, h5⟩
theorem Tryz.cellsCu12 : Tryz.prog.cellsOf 51 = 2 := by kernel_rfl
theorem open_cut12 {H : Type} {enc : TypeId × Value → H} {W : World} {base : Nat} {v : Value} {d : DataW H} {p : List MemPlace}
    (hv : Value.okWide Tryz.prog W .any base 51 v) (h : DataW.Trod enc Tryz.prog W 0 (fun _ => true) true 51 v d p) (hw : ∀ n ∈ d.weights Tryz.prog 51, n ≤ reachBytes) :
    ∃ n0 ka kn kp l, v = .agg #[.int .i64 n0, .slice ka kn kp] ∧ Kp W ka kn kp l ∧ kn ≤ 140737488351232 ∧ (-9223372036854775808 ≤ n0 ∧ n0 < 9223372036854775808) := by
  unfold Value.okWide at hv
  rw [Tryz.underlying51] at hv
  obtain ⟨ar, rfl, hsz, _⟩ := hv
  obtain ⟨fuel, hf⟩ := h
  obtain ⟨y0, y1, n, hx, hl, h0, h1⟩ := trod_struct2 Tryz.underlying51 hf
  rw [Tryz.cellsCu12] at hl
  simp only [Value.cells] at hl h0 h1
  obtain ⟨cs⟩ := ar
  simp only at hl h0 h1
  match cs, hl with
  | [c0, c1], _ =>
    simp only [Tryz.cellsIn, Tryz.cellsKs] at h0 h1
    have hxd : d = .agg [y0.1, y1.1] := congrArg Prod.fst hx
    have hsw : ∀ e2 s2, y1.1 = .slice e2 s2 → (e2.length + s2.length) * Tryz.prog.bytesOf 4 ≤ reachBytes := by
      intro e2 s2 he
      refine hw _ ?_
      rw [hxd, DataW.weights, Tryz.underlying51]
      show _ ∈ DataW.weightsEach Tryz.prog [3, 49] [y0.1, y1.1]
      rw [DataW.weightsEach, DataW.weightsEach]
      refine List.mem_append_right _ (List.mem_append_left _ ?_)
      rw [he, DataW.weights, Tryz.underlying49]
      exact List.mem_cons_self
    obtain ⟨z0, e0, _, w0⟩ := DataW.trod_int Tryz.underlying3 h0
    obtain ⟨ka, kn, kp, l, e1, hk, hkn⟩ := open_kps h1 hsw
    simp at e0 e1
    subst e0 e1
    exact ⟨z0, ka, kn, kp, l, rfl, hk, hkn, wf_b64 w0⟩
end Go.Proofs.YtaoiejgjdmakjaaGreatDoor
