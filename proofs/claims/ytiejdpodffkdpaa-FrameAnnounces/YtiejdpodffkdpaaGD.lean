/-
  FrameAnnounces: what is read of bytes.
-/
import Derived.Test.YtiejdpodffkdpaaGC
import Derived.Test.YtiejdpodffkdpaaGX
namespace Go.Proofs.Ytiejdpodffkdpaa
open Go.RowKit
set_option maxRecDepth 100000
set_option linter.unusedSimpArgs false
set_option linter.unusedVariables false
def fromReg (r : Nat) : Code → Option Code
  | .seq (.region i ops d) b => if i = r then some (.seq (.region i ops d) b) else fromReg r b
  | .seq a b => (fromReg r a).orElse fun _ => fromReg r b
  | .cond _ a b => (fromReg r a).orElse fun _ => fromReg r b
  | .loop c => fromReg r c
  | .block _ c => fromReg r c
  | .scope c => fromReg r c
  | _ => none
theorem wp_code_eq {P : Program} {c c' : Code} {Q : Exit → Act → World → Prop} {a : Act} {w : World} (h : c' = c) (k : c.wp P Q a w) : c'.wp P Q a w := h ▸ k
noncomputable def getC : Code := ((Try.f3.body).bind (fromReg 13)).getD .skip
theorem Try.infoAnn : (Try.prog.info? 25).map (·.size) = some 2 := by kernel_rfl
theorem ann_one (r : Int) (a : Option Addr) (n c : Nat) : (#[.int .u64 r, .slice a n c] : Array Value).all (·.oneCell') = true := by simp [Value.oneCell']
theorem ls_some {w : World} {a : Option Addr} {n c : Nat} {R : List (List Value)} (h : Ls 32 w a n c R) (hn : 1 ≤ n) : ∃ p q, a = some ⟨p, q, none⟩ := by
  rcases h.sl with h1 | ⟨p, o, h1, _⟩
  · have := h.len
    rw [h1] at this
    simp at this
    omega
  · exact ⟨p, o, h1⟩
set_option maxHeartbeats 4000000 in
theorem ann_get_no (v0 : World) (Q : Exit → Act → World → Prop) (hQ : ∀ (t : Array Value) (w' : World), Gr v0 w' → t.getD 4 undef = .bool true → Q .ret ⟨t, []⟩ w') (L : List Int) (s : Option Addr) (n cap : Nat) (hn9 : n ≤ 1000) (v : World) (hg0 : Gr v0 v) (lb : Lb v s n cap L) (hN : ¬ n = 106) (k0 k2 k3 k4 k5 k6 k7 k8 k9 k10 k11 k12 k13 k14 k15 k16 k17 k18 k19 k20 k21 k22 k23 k24 k25 k26 k27 k28 k29 k30 k31 k32 k33 k34 k35 k36 k37 k38 k39 k40 k41 k42 k43 k44 k45 k46 k47 k48 k49 k50 k51 k52 k53 k54 k55 k56 k57 k58 k59 k60 k61 k62 k63 k64 k65 k66 k67 k68 k69 k70 k71 k72 k73 k74 k75 k76 k77 k78 k79 k80 k81 k82 k83 k84 k85 k86 k87 k88 k89 k90 k91 k92 k93 k94 k95 k96 k97 k98 k99 k100 k101 k102 k103 k104 k105 k106 k107 k108 k109 k110 k111 k112 k113 k114 k115 k116 k117 k118 k119 k120 k121 k122 k123 k124 k125 k126 k127 k128 k129 k130 k131 k132 : Value) : getC.wp Try.prog Q ⟨#[k0, .slice s n cap, k2, k3, k4, k5, k6, k7, k8, k9, k10, k11, k12, k13, k14, k15, k16, k17, k18, k19, k20, k21, k22, k23, k24, k25, k26, k27, k28, k29, k30, k31, k32, k33, k34, k35, k36, k37, k38, k39, k40, k41, k42, k43, k44, k45, k46, k47, k48, k49, k50, k51, k52, k53, k54, k55, k56, k57, k58, k59, k60, k61, k62, k63, k64, k65, k66, k67, k68, k69, k70, k71, k72, k73, k74, k75, k76, k77, k78, k79, k80, k81, k82, k83, k84, k85, k86, k87, k88, k89, k90, k91, k92, k93, k94, k95, k96, k97, k98, k99, k100, k101, k102, k103, k104, k105, k106, k107, k108, k109, k110, k111, k112, k113, k114, k115, k116, k117, k118, k119, k120, k121, k122, k123, k124, k125, k126, k127, k128, k129, k130, k131, k132], []⟩ v := by
  conv => arg 2; whnf
  dsimp only
  have i106 : ¬ (n : Int) = 106 := by omega
  have hLl := lb.len
  have hLb := hide lb.isB
  replace hQ := hide hQ; replace hg0 := hide hg0; replace lb := hide lb
  go_upto_region 13 with fail
  refine wp_region_lit ?_
  refine list_val (.slice s n cap) (by kernel_rfl) (by kernel_rfl) ?_
  simp only [Act.put, List.setIfInBounds_toArray, List.set_cons_zero, List.set_cons_succ, List.getElem_toArray, List.getElem_cons_zero, List.getElem_cons_succ]
  refine list_call 12 #[.slice s n cap] (by kernel_rfl) (by kernel_rfl) ((jroom_ok L s n cap (by omega) v (unhide lb)).mono ?_)
  rintro r u6 ⟨go, co, rfl, hc1, hc2, hgo, hat, hg⟩
  rw [hLl] at hc1 ⊢
  have hlo : Lb u6 (some ⟨go, 0, none⟩) n co L := by
    have h9 := hat.take n
    rw [List.take_append_of_le_length (by rw [hLl]; exact Nat.le_refl _), List.take_of_length_le (by rw [hLl]; exact Nat.le_refl _)] at h9
    exact ⟨hLl, unhide hLb, .inr ⟨go, 0, rfl, h9⟩, by omega, hc2⟩
  replace hlo := hide hlo
  replace hg0 := hide ((unhide hg0).trans hg)
  replace lb := hide ((unhide lb).gr hg)
  clear hg hat hc1 hc2 hgo
  refine ⟨_, rfl, ?_⟩
  simp only [Act.put, List.setIfInBounds_toArray, List.set_cons_zero, List.set_cons_succ, List.getElem_toArray, List.getElem_cons_zero, List.getElem_cons_succ]
  refine list_call 11 #[.slice (some ⟨go, 0, none⟩) n co] (by kernel_rfl) (by kernel_rfl) ((fgeta_no (some ⟨go, 0, none⟩) n co hN u6).mono ?_)
  rintro r u7 ⟨rfl, hg⟩
  have hW := (Bl.nil u7)
  replace hg0 := hide ((unhide hg0).trans hg)
  replace lb := hide ((unhide lb).gr hg)
  clear hg
  refine ⟨_, rfl, ?_⟩
  simp only [Act.put, List.setIfInBounds_toArray, List.set_cons_zero, List.set_cons_succ, List.getElem_toArray, List.getElem_cons_zero, List.getElem_cons_succ]
  refine list_val (.tuple #[.agg #[.int .u64 0, .slice none 0 0], .int .i64 240]) (by kernel_rfl) (by kernel_rfl) ?_
  simp only [Act.put, List.setIfInBounds_toArray, List.set_cons_zero, List.set_cons_succ, List.getElem_toArray, List.getElem_cons_zero, List.getElem_cons_succ]
  refine list_val (.agg #[.int .u64 0, .slice none 0 0]) (by kernel_rfl) (by kernel_rfl) ?_
  simp only [Act.put, List.setIfInBounds_toArray, List.set_cons_zero, List.set_cons_succ, List.getElem_toArray, List.getElem_cons_zero, List.getElem_cons_succ]
  refine list_val (.int .i64 240) (by kernel_rfl) (by kernel_rfl) ?_
  simp only [Act.put, List.setIfInBounds_toArray, List.set_cons_zero, List.set_cons_succ, List.getElem_toArray, List.getElem_cons_zero, List.getElem_cons_succ]
  refine list_valw (.pointer (some ⟨u7.heap.size, 0, none⟩)) (u7.alloc (.cells #[.int .u64 0, .slice none 0 0] 25 (0, 0))) (by kernel_rfl) (by kernel_rfl) ?_
  replace hW := hW.new #[.int .u64 0, .slice none 0 0] 25
  simp only [List.nil_append, List.cons_append] at hW
  generalize World.alloc _ _ = u8 at *
  generalize u7.heap.size = qe at *
  replace hW : Bl u7 [⟨qe, #[.int .u64 0, .slice none 0 0], 25⟩] u8 := hW
  simp only [Act.put, List.setIfInBounds_toArray, List.set_cons_zero, List.set_cons_succ, List.getElem_toArray, List.getElem_cons_zero, List.getElem_cons_succ]
  refine list_store 25 (.tmp 8) (.tmp 79) qe #[.int .u64 0, .slice none 0 0] 25 #[.int .u64 0, .slice none 0 0] (by kernel_rfl) rfl (by kernel_rfl) (by kernel_rfl) (hW.get 0 (x := ⟨qe, #[.int .u64 0, .slice none 0 0], 25⟩) rfl) (by rw [Try.infoAnn]; rfl) rfl (ann_one _ _ _ _) ?_
  replace hW := hW.set 0 (x := ⟨qe, #[.int .u64 0, .slice none 0 0], 25⟩) rfl #[.int .u64 0, .slice none 0 0]
  simp only [List.set_cons_zero, List.set_cons_succ] at hW
  generalize World.setRow _ _ _ = u9 at *
  replace hW : Bl u7 [⟨qe, #[.int .u64 0, .slice none 0 0], 25⟩] u9 := hW
  simp only [Act.put, List.setIfInBounds_toArray, List.set_cons_zero, List.set_cons_succ, List.getElem_toArray, List.getElem_cons_zero, List.getElem_cons_succ]
  (refine wpList_step fun K hK => ?_; replace hK := hide hK; go_simp; refine unhide hK _ _ ?_; clear hK K)
  refine wpList_nil ?_
  replace hW := hide hW
  go_upto_region 14 with fail
  replace hW := unhide hW
  refine wp_region_lit ?_
  refine list_val (.slice s n cap) (by kernel_rfl) (by kernel_rfl) ?_
  simp only [Act.put, List.setIfInBounds_toArray, List.set_cons_zero, List.set_cons_succ, List.getElem_toArray, List.getElem_cons_zero, List.getElem_cons_succ]
  refine list_val (.int .i64 (n : Int)) (by kernel_rfl) (by kernel_rfl) ?_
  simp only [Act.put, List.setIfInBounds_toArray, List.set_cons_zero, List.set_cons_succ, List.getElem_toArray, List.getElem_cons_zero, List.getElem_cons_succ]
  refine list_val (.bool true) (by kernel_rfl) (by go_simp) ?_
  simp only [Act.put, List.setIfInBounds_toArray, List.set_cons_zero, List.set_cons_succ, List.getElem_toArray, List.getElem_cons_zero, List.getElem_cons_succ]
  refine wpList_nil ?_
  replace hW := hide hW
  go_upto_region 15 with fail
  replace hW := unhide hW
  refine wp_region_lit ?_
  refine list_val (.int .i64 240) (by kernel_rfl) (by kernel_rfl) ?_
  simp only [Act.put, List.setIfInBounds_toArray, List.set_cons_zero, List.set_cons_succ, List.getElem_toArray, List.getElem_cons_zero, List.getElem_cons_succ]
  refine list_val (.bool true) (by kernel_rfl) (by kernel_rfl) ?_
  simp only [Act.put, List.setIfInBounds_toArray, List.set_cons_zero, List.set_cons_succ, List.getElem_toArray, List.getElem_cons_zero, List.getElem_cons_succ]
  refine list_val (.bool true) (by kernel_rfl) (by kernel_rfl) ?_
  simp only [Act.put, List.setIfInBounds_toArray, List.set_cons_zero, List.set_cons_succ, List.getElem_toArray, List.getElem_cons_zero, List.getElem_cons_succ]
  refine list_val (.pointer (some ⟨qe, 0, none⟩)) (by kernel_rfl) (by kernel_rfl) ?_
  simp only [Act.put, List.setIfInBounds_toArray, List.set_cons_zero, List.set_cons_succ, List.getElem_toArray, List.getElem_cons_zero, List.getElem_cons_succ]
  refine list_val (.int .u64 0) (by kernel_rfl) (exec_u64 _ (.tmp 87) rfl qe 0 (by kernel_rfl) 0 (cell_of (hW.get 0 (x := ⟨qe, #[.int .u64 0, .slice none 0 0], 25⟩) rfl) (i := 0) rfl)) ?_
  simp only [Act.put, List.setIfInBounds_toArray, List.set_cons_zero, List.set_cons_succ, List.getElem_toArray, List.getElem_cons_zero, List.getElem_cons_succ]
  refine list_val (.bool true) (by kernel_rfl) (by kernel_rfl) ?_
  simp only [Act.put, List.setIfInBounds_toArray, List.set_cons_zero, List.set_cons_succ, List.getElem_toArray, List.getElem_cons_zero, List.getElem_cons_succ]
  refine list_val (.bool true) (by kernel_rfl) (by kernel_rfl) ?_
  simp only [Act.put, List.setIfInBounds_toArray, List.set_cons_zero, List.set_cons_succ, List.getElem_toArray, List.getElem_cons_zero, List.getElem_cons_succ]
  refine list_val (.bool true) (by kernel_rfl) (by kernel_rfl) ?_
  simp only [Act.put, List.setIfInBounds_toArray, List.set_cons_zero, List.set_cons_succ, List.getElem_toArray, List.getElem_cons_zero, List.getElem_cons_succ]
  refine list_val (.pointer (some ⟨qe, 1, none⟩)) (by kernel_rfl) (by kernel_rfl) ?_
  simp only [Act.put, List.setIfInBounds_toArray, List.set_cons_zero, List.set_cons_succ, List.getElem_toArray, List.getElem_cons_zero, List.getElem_cons_succ]
  refine list_val (.slice none 0 0) (by kernel_rfl) (exec_sks _ (.tmp 92) rfl qe 1 (by kernel_rfl) none 0 0 (cell_of (hW.get 0 (x := ⟨qe, #[.int .u64 0, .slice none 0 0], 25⟩) rfl) (i := 1) rfl)) ?_
  simp only [Act.put, List.setIfInBounds_toArray, List.set_cons_zero, List.set_cons_succ, List.getElem_toArray, List.getElem_cons_zero, List.getElem_cons_succ]
  refine list_val (.int .i64 0) (by kernel_rfl) (by kernel_rfl) ?_
  simp only [Act.put, List.setIfInBounds_toArray, List.set_cons_zero, List.set_cons_succ, List.getElem_toArray, List.getElem_cons_zero, List.getElem_cons_succ]
  refine list_val (.bool true) (by kernel_rfl) (by kernel_rfl) ?_
  simp only [Act.put, List.setIfInBounds_toArray, List.set_cons_zero, List.set_cons_succ, List.getElem_toArray, List.getElem_cons_zero, List.getElem_cons_succ]
  refine list_val (.bool true) (by kernel_rfl) (by kernel_rfl) ?_
  simp only [Act.put, List.setIfInBounds_toArray, List.set_cons_zero, List.set_cons_succ, List.getElem_toArray, List.getElem_cons_zero, List.getElem_cons_succ]
  (refine wpList_step fun K hK => ?_; replace hK := hide hK; go_simp; refine unhide hK _ _ ?_; clear hK K)
  refine wpList_nil ?_
  have hZ : Hid (Gr v0 u9) := hide ((unhide hg0).trans hW.gr)
  clear hW
  go_wp2_with fail
  exact unhide hQ _ _ (unhide hZ) rfl
set_option maxHeartbeats 4000000 in
theorem ann_get_bad (v0 : World) (Q : Exit → Act → World → Prop) (hQ : ∀ (t : Array Value) (w' : World), Gr v0 w' → t.getD 4 undef = .bool true → Q .ret ⟨t, []⟩ w') (L : List Int) (s : Option Addr) (n cap : Nat) (hn9 : n ≤ 1000) (v : World) (hg0 : Gr v0 v) (lb : Lb v s n cap L) (hN : n = 106) (hE : anE L = false) (hq : anQ L = false) (k0 k2 k3 k4 k5 k6 k7 k8 k9 k10 k11 k12 k13 k14 k15 k16 k17 k18 k19 k20 k21 k22 k23 k24 k25 k26 k27 k28 k29 k30 k31 k32 k33 k34 k35 k36 k37 k38 k39 k40 k41 k42 k43 k44 k45 k46 k47 k48 k49 k50 k51 k52 k53 k54 k55 k56 k57 k58 k59 k60 k61 k62 k63 k64 k65 k66 k67 k68 k69 k70 k71 k72 k73 k74 k75 k76 k77 k78 k79 k80 k81 k82 k83 k84 k85 k86 k87 k88 k89 k90 k91 k92 k93 k94 k95 k96 k97 k98 k99 k100 k101 k102 k103 k104 k105 k106 k107 k108 k109 k110 k111 k112 k113 k114 k115 k116 k117 k118 k119 k120 k121 k122 k123 k124 k125 k126 k127 k128 k129 k130 k131 k132 : Value) : getC.wp Try.prog Q ⟨#[k0, .slice s n cap, k2, k3, k4, k5, k6, k7, k8, k9, k10, k11, k12, k13, k14, k15, k16, k17, k18, k19, k20, k21, k22, k23, k24, k25, k26, k27, k28, k29, k30, k31, k32, k33, k34, k35, k36, k37, k38, k39, k40, k41, k42, k43, k44, k45, k46, k47, k48, k49, k50, k51, k52, k53, k54, k55, k56, k57, k58, k59, k60, k61, k62, k63, k64, k65, k66, k67, k68, k69, k70, k71, k72, k73, k74, k75, k76, k77, k78, k79, k80, k81, k82, k83, k84, k85, k86, k87, k88, k89, k90, k91, k92, k93, k94, k95, k96, k97, k98, k99, k100, k101, k102, k103, k104, k105, k106, k107, k108, k109, k110, k111, k112, k113, k114, k115, k116, k117, k118, k119, k120, k121, k122, k123, k124, k125, k126, k127, k128, k129, k130, k131, k132], []⟩ v := by
  conv => arg 2; whnf
  dsimp only
  obtain rfl : n = 106 := hN
  obtain ⟨p0, q0, rfl, lb⟩ := lb.some (by omega)
  have hLl := lb.len
  have hLb := hide lb.isB
  replace hQ := hide hQ; replace hg0 := hide hg0; replace lb := hide lb; replace hE := hide hE; replace hq := hide hq
  go_upto_region 13 with fail
  refine wp_region_lit ?_
  refine list_val (.slice (some ⟨p0, q0, none⟩) 106 cap) (by kernel_rfl) (by kernel_rfl) ?_
  simp only [Act.put, List.setIfInBounds_toArray, List.set_cons_zero, List.set_cons_succ, List.getElem_toArray, List.getElem_cons_zero, List.getElem_cons_succ]
  refine list_call 12 #[.slice (some ⟨p0, q0, none⟩) 106 cap] (by kernel_rfl) (by kernel_rfl) ((jroom_ok L (some ⟨p0, q0, none⟩) 106 cap (by omega) v (unhide lb)).mono ?_)
  rintro r u6 ⟨go, co, rfl, hc1, hc2, hgo, hat, hg⟩
  rw [hLl] at hc1 ⊢
  have hlo : Lb u6 (some ⟨go, 0, none⟩) 106 co L := by
    have h9 := hat.take 106
    rw [List.take_append_of_le_length (by rw [hLl]; exact Nat.le_refl _), List.take_of_length_le (by rw [hLl]; exact Nat.le_refl _)] at h9
    exact ⟨hLl, unhide hLb, .inr ⟨go, 0, rfl, h9⟩, by omega, hc2⟩
  replace hlo := hide hlo
  replace hg0 := hide ((unhide hg0).trans hg)
  replace lb := hide ((unhide lb).gr hg)
  clear hg hat hc1 hc2 hgo
  refine ⟨_, rfl, ?_⟩
  simp only [Act.put, List.setIfInBounds_toArray, List.set_cons_zero, List.set_cons_succ, List.getElem_toArray, List.getElem_cons_zero, List.getElem_cons_succ]
  refine list_call 11 #[.slice (some ⟨go, 0, none⟩) 106 co] (by kernel_rfl) (by kernel_rfl) ((fgeta_bad L (some ⟨go, 0, none⟩) co u6 (unhide hlo) (unhide hE)).mono ?_)
  rintro r u7 ⟨rfl, hg⟩
  have hW := (Bl.nil u7)
  replace hg0 := hide ((unhide hg0).trans hg)
  replace lb := hide ((unhide lb).gr hg)
  clear hg
  refine ⟨_, rfl, ?_⟩
  simp only [Act.put, List.setIfInBounds_toArray, List.set_cons_zero, List.set_cons_succ, List.getElem_toArray, List.getElem_cons_zero, List.getElem_cons_succ]
  refine list_val (.tuple #[.agg #[.int .u64 0, .slice none 0 0], .int .i64 241]) (by kernel_rfl) (by kernel_rfl) ?_
  simp only [Act.put, List.setIfInBounds_toArray, List.set_cons_zero, List.set_cons_succ, List.getElem_toArray, List.getElem_cons_zero, List.getElem_cons_succ]
  refine list_val (.agg #[.int .u64 0, .slice none 0 0]) (by kernel_rfl) (by kernel_rfl) ?_
  simp only [Act.put, List.setIfInBounds_toArray, List.set_cons_zero, List.set_cons_succ, List.getElem_toArray, List.getElem_cons_zero, List.getElem_cons_succ]
  refine list_val (.int .i64 241) (by kernel_rfl) (by kernel_rfl) ?_
  simp only [Act.put, List.setIfInBounds_toArray, List.set_cons_zero, List.set_cons_succ, List.getElem_toArray, List.getElem_cons_zero, List.getElem_cons_succ]
  refine list_valw (.pointer (some ⟨u7.heap.size, 0, none⟩)) (u7.alloc (.cells #[.int .u64 0, .slice none 0 0] 25 (0, 0))) (by kernel_rfl) (by kernel_rfl) ?_
  replace hW := hW.new #[.int .u64 0, .slice none 0 0] 25
  simp only [List.nil_append, List.cons_append] at hW
  generalize World.alloc _ _ = u8 at *
  generalize u7.heap.size = qe at *
  replace hW : Bl u7 [⟨qe, #[.int .u64 0, .slice none 0 0], 25⟩] u8 := hW
  simp only [Act.put, List.setIfInBounds_toArray, List.set_cons_zero, List.set_cons_succ, List.getElem_toArray, List.getElem_cons_zero, List.getElem_cons_succ]
  refine list_store 25 (.tmp 8) (.tmp 79) qe #[.int .u64 0, .slice none 0 0] 25 #[.int .u64 0, .slice none 0 0] (by kernel_rfl) rfl (by kernel_rfl) (by kernel_rfl) (hW.get 0 (x := ⟨qe, #[.int .u64 0, .slice none 0 0], 25⟩) rfl) (by rw [Try.infoAnn]; rfl) rfl (ann_one _ _ _ _) ?_
  replace hW := hW.set 0 (x := ⟨qe, #[.int .u64 0, .slice none 0 0], 25⟩) rfl #[.int .u64 0, .slice none 0 0]
  simp only [List.set_cons_zero, List.set_cons_succ] at hW
  generalize World.setRow _ _ _ = u9 at *
  replace hW : Bl u7 [⟨qe, #[.int .u64 0, .slice none 0 0], 25⟩] u9 := hW
  simp only [Act.put, List.setIfInBounds_toArray, List.set_cons_zero, List.set_cons_succ, List.getElem_toArray, List.getElem_cons_zero, List.getElem_cons_succ]
  (refine wpList_step fun K hK => ?_; replace hK := hide hK; go_simp; refine unhide hK _ _ ?_; clear hK K)
  refine wpList_nil ?_
  replace hW := hide hW
  go_upto_region 14 with fail
  replace hW := unhide hW
  refine wp_region_lit ?_
  refine list_val (.slice (some ⟨p0, q0, none⟩) 106 cap) (by kernel_rfl) (by kernel_rfl) ?_
  simp only [Act.put, List.setIfInBounds_toArray, List.set_cons_zero, List.set_cons_succ, List.getElem_toArray, List.getElem_cons_zero, List.getElem_cons_succ]
  refine list_val (.int .i64 106) (by kernel_rfl) (by kernel_rfl) ?_
  simp only [Act.put, List.setIfInBounds_toArray, List.set_cons_zero, List.set_cons_succ, List.getElem_toArray, List.getElem_cons_zero, List.getElem_cons_succ]
  refine list_val (.bool false) (by kernel_rfl) (by kernel_rfl) ?_
  simp only [Act.put, List.setIfInBounds_toArray, List.set_cons_zero, List.set_cons_succ, List.getElem_toArray, List.getElem_cons_zero, List.getElem_cons_succ]
  refine wpList_nil ?_
  replace hW := hide hW
  go_upto_region 16 with fail
  replace hW := unhide hW
  refine wp_region_lit ?_
  refine list_val (.slice (some ⟨p0, q0, none⟩) 106 cap) (by kernel_rfl) (by kernel_rfl) ?_
  simp only [Act.put, List.setIfInBounds_toArray, List.set_cons_zero, List.set_cons_succ, List.getElem_toArray, List.getElem_cons_zero, List.getElem_cons_succ]
  refine list_call 13 #[.slice (some ⟨p0, q0, none⟩) 106 cap] (by kernel_rfl) (by kernel_rfl) ((qgeta_no L p0 q0 cap u9 ((unhide lb).gr hW.gr) (unhide hq)).mono ?_)
  rintro r x1 ⟨rfl, hg⟩
  replace hW := hW.more hg
  clear hg
  refine ⟨_, rfl, ?_⟩
  simp only [Act.put, List.setIfInBounds_toArray, List.set_cons_zero, List.set_cons_succ, List.getElem_toArray, List.getElem_cons_zero, List.getElem_cons_succ]
  refine list_val (.tuple #[.agg #[.int .u64 0, .slice none 0 0], .bool false]) (by kernel_rfl) (by kernel_rfl) ?_
  simp only [Act.put, List.setIfInBounds_toArray, List.set_cons_zero, List.set_cons_succ, List.getElem_toArray, List.getElem_cons_zero, List.getElem_cons_succ]
  refine list_val (.agg #[.int .u64 0, .slice none 0 0]) (by kernel_rfl) (by kernel_rfl) ?_
  simp only [Act.put, List.setIfInBounds_toArray, List.set_cons_zero, List.set_cons_succ, List.getElem_toArray, List.getElem_cons_zero, List.getElem_cons_succ]
  refine list_val (.bool false) (by kernel_rfl) (by kernel_rfl) ?_
  simp only [Act.put, List.setIfInBounds_toArray, List.set_cons_zero, List.set_cons_succ, List.getElem_toArray, List.getElem_cons_zero, List.getElem_cons_succ]
  refine list_valw (.pointer (some ⟨x1.heap.size, 0, none⟩)) (x1.alloc (.cells #[.int .u64 0, .slice none 0 0] 25 (0, 0))) (by kernel_rfl) (by kernel_rfl) ?_
  replace hW := hW.new #[.int .u64 0, .slice none 0 0] 25
  simp only [List.nil_append, List.cons_append] at hW
  generalize World.alloc _ _ = x2 at *
  generalize x1.heap.size = qr at *
  replace hW : Bl u7 [⟨qe, #[.int .u64 0, .slice none 0 0], 25⟩, ⟨qr, #[.int .u64 0, .slice none 0 0], 25⟩] x2 := hW
  simp only [Act.put, List.setIfInBounds_toArray, List.set_cons_zero, List.set_cons_succ, List.getElem_toArray, List.getElem_cons_zero, List.getElem_cons_succ]
  refine list_store 25 (.tmp 9) (.tmp 100) qr #[.int .u64 0, .slice none 0 0] 25 #[.int .u64 0, .slice none 0 0] (by kernel_rfl) rfl (by kernel_rfl) (by kernel_rfl) (hW.get 1 (x := ⟨qr, #[.int .u64 0, .slice none 0 0], 25⟩) rfl) (by rw [Try.infoAnn]; rfl) rfl (ann_one _ _ _ _) ?_
  replace hW := hW.set 1 (x := ⟨qr, #[.int .u64 0, .slice none 0 0], 25⟩) rfl #[.int .u64 0, .slice none 0 0]
  simp only [List.set_cons_zero, List.set_cons_succ] at hW
  generalize World.setRow _ _ _ = x3 at *
  replace hW : Bl u7 [⟨qe, #[.int .u64 0, .slice none 0 0], 25⟩, ⟨qr, #[.int .u64 0, .slice none 0 0], 25⟩] x3 := hW
  simp only [Act.put, List.setIfInBounds_toArray, List.set_cons_zero, List.set_cons_succ, List.getElem_toArray, List.getElem_cons_zero, List.getElem_cons_succ]
  (refine wpList_step fun K hK => ?_; replace hK := hide hK; go_simp; refine unhide hK _ _ ?_; clear hK K)
  refine wpList_nil ?_
  replace hW := hide hW
  go_upto_region 17 with fail
  replace hW := unhide hW
  refine wp_region_lit ?_
  refine list_val (.bool false) (by kernel_rfl) (by kernel_rfl) ?_
  simp only [Act.put, List.setIfInBounds_toArray, List.set_cons_zero, List.set_cons_succ, List.getElem_toArray, List.getElem_cons_zero, List.getElem_cons_succ]
  refine list_val (.bool true) (by kernel_rfl) (by kernel_rfl) ?_
  simp only [Act.put, List.setIfInBounds_toArray, List.set_cons_zero, List.set_cons_succ, List.getElem_toArray, List.getElem_cons_zero, List.getElem_cons_succ]
  refine wpList_nil ?_
  replace hW := hide hW
  go_upto_region 18 with fail
  replace hW := unhide hW
  refine wp_region_lit ?_
  refine list_val (.int .i64 241) (by kernel_rfl) (by kernel_rfl) ?_
  simp only [Act.put, List.setIfInBounds_toArray, List.set_cons_zero, List.set_cons_succ, List.getElem_toArray, List.getElem_cons_zero, List.getElem_cons_succ]
  refine list_val (.bool true) (by kernel_rfl) (by kernel_rfl) ?_
  simp only [Act.put, List.setIfInBounds_toArray, List.set_cons_zero, List.set_cons_succ, List.getElem_toArray, List.getElem_cons_zero, List.getElem_cons_succ]
  refine list_val (.bool true) (by kernel_rfl) (by kernel_rfl) ?_
  simp only [Act.put, List.setIfInBounds_toArray, List.set_cons_zero, List.set_cons_succ, List.getElem_toArray, List.getElem_cons_zero, List.getElem_cons_succ]
  refine list_val (.pointer (some ⟨qe, 0, none⟩)) (by kernel_rfl) (by kernel_rfl) ?_
  simp only [Act.put, List.setIfInBounds_toArray, List.set_cons_zero, List.set_cons_succ, List.getElem_toArray, List.getElem_cons_zero, List.getElem_cons_succ]
  refine list_val (.int .u64 0) (by kernel_rfl) (exec_u64 _ (.tmp 107) rfl qe 0 (by kernel_rfl) 0 (cell_of (hW.get 0 (x := ⟨qe, #[.int .u64 0, .slice none 0 0], 25⟩) rfl) (i := 0) rfl)) ?_
  simp only [Act.put, List.setIfInBounds_toArray, List.set_cons_zero, List.set_cons_succ, List.getElem_toArray, List.getElem_cons_zero, List.getElem_cons_succ]
  refine list_val (.bool true) (by kernel_rfl) (by kernel_rfl) ?_
  simp only [Act.put, List.setIfInBounds_toArray, List.set_cons_zero, List.set_cons_succ, List.getElem_toArray, List.getElem_cons_zero, List.getElem_cons_succ]
  refine list_val (.bool true) (by kernel_rfl) (by kernel_rfl) ?_
  simp only [Act.put, List.setIfInBounds_toArray, List.set_cons_zero, List.set_cons_succ, List.getElem_toArray, List.getElem_cons_zero, List.getElem_cons_succ]
  refine list_val (.bool true) (by kernel_rfl) (by kernel_rfl) ?_
  simp only [Act.put, List.setIfInBounds_toArray, List.set_cons_zero, List.set_cons_succ, List.getElem_toArray, List.getElem_cons_zero, List.getElem_cons_succ]
  refine list_val (.pointer (some ⟨qe, 1, none⟩)) (by kernel_rfl) (by kernel_rfl) ?_
  simp only [Act.put, List.setIfInBounds_toArray, List.set_cons_zero, List.set_cons_succ, List.getElem_toArray, List.getElem_cons_zero, List.getElem_cons_succ]
  refine list_val (.slice none 0 0) (by kernel_rfl) (exec_sks _ (.tmp 112) rfl qe 1 (by kernel_rfl) none 0 0 (cell_of (hW.get 0 (x := ⟨qe, #[.int .u64 0, .slice none 0 0], 25⟩) rfl) (i := 1) rfl)) ?_
  simp only [Act.put, List.setIfInBounds_toArray, List.set_cons_zero, List.set_cons_succ, List.getElem_toArray, List.getElem_cons_zero, List.getElem_cons_succ]
  refine list_val (.int .i64 0) (by kernel_rfl) (by kernel_rfl) ?_
  simp only [Act.put, List.setIfInBounds_toArray, List.set_cons_zero, List.set_cons_succ, List.getElem_toArray, List.getElem_cons_zero, List.getElem_cons_succ]
  refine list_val (.bool true) (by kernel_rfl) (by kernel_rfl) ?_
  simp only [Act.put, List.setIfInBounds_toArray, List.set_cons_zero, List.set_cons_succ, List.getElem_toArray, List.getElem_cons_zero, List.getElem_cons_succ]
  refine list_val (.bool true) (by kernel_rfl) (by kernel_rfl) ?_
  simp only [Act.put, List.setIfInBounds_toArray, List.set_cons_zero, List.set_cons_succ, List.getElem_toArray, List.getElem_cons_zero, List.getElem_cons_succ]
  (refine wpList_step fun K hK => ?_; replace hK := hide hK; go_simp; refine unhide hK _ _ ?_; clear hK K)
  refine wpList_nil ?_
  have hZ : Hid (Gr v0 x3) := hide ((unhide hg0).trans hW.gr)
  clear hW
  go_wp2_with fail
  exact unhide hQ _ _ (unhide hZ) rfl
set_option maxHeartbeats 4000000 in
theorem ann_get_bad2 (v0 : World) (Q : Exit → Act → World → Prop) (hQ : ∀ (t : Array Value) (w' : World), Gr v0 w' → t.getD 4 undef = .bool true → Q .ret ⟨t, []⟩ w') (L : List Int) (s : Option Addr) (n cap : Nat) (hn9 : n ≤ 1000) (v : World) (hg0 : Gr v0 v) (lb : Lb v s n cap L) (hN : n = 106) (hE : anE L = false) (hq : anQ L = true) (k0 k2 k3 k4 k5 k6 k7 k8 k9 k10 k11 k12 k13 k14 k15 k16 k17 k18 k19 k20 k21 k22 k23 k24 k25 k26 k27 k28 k29 k30 k31 k32 k33 k34 k35 k36 k37 k38 k39 k40 k41 k42 k43 k44 k45 k46 k47 k48 k49 k50 k51 k52 k53 k54 k55 k56 k57 k58 k59 k60 k61 k62 k63 k64 k65 k66 k67 k68 k69 k70 k71 k72 k73 k74 k75 k76 k77 k78 k79 k80 k81 k82 k83 k84 k85 k86 k87 k88 k89 k90 k91 k92 k93 k94 k95 k96 k97 k98 k99 k100 k101 k102 k103 k104 k105 k106 k107 k108 k109 k110 k111 k112 k113 k114 k115 k116 k117 k118 k119 k120 k121 k122 k123 k124 k125 k126 k127 k128 k129 k130 k131 k132 : Value) : getC.wp Try.prog Q ⟨#[k0, .slice s n cap, k2, k3, k4, k5, k6, k7, k8, k9, k10, k11, k12, k13, k14, k15, k16, k17, k18, k19, k20, k21, k22, k23, k24, k25, k26, k27, k28, k29, k30, k31, k32, k33, k34, k35, k36, k37, k38, k39, k40, k41, k42, k43, k44, k45, k46, k47, k48, k49, k50, k51, k52, k53, k54, k55, k56, k57, k58, k59, k60, k61, k62, k63, k64, k65, k66, k67, k68, k69, k70, k71, k72, k73, k74, k75, k76, k77, k78, k79, k80, k81, k82, k83, k84, k85, k86, k87, k88, k89, k90, k91, k92, k93, k94, k95, k96, k97, k98, k99, k100, k101, k102, k103, k104, k105, k106, k107, k108, k109, k110, k111, k112, k113, k114, k115, k116, k117, k118, k119, k120, k121, k122, k123, k124, k125, k126, k127, k128, k129, k130, k131, k132], []⟩ v := by
  conv => arg 2; whnf
  dsimp only
  obtain rfl : n = 106 := hN
  obtain ⟨p0, q0, rfl, lb⟩ := lb.some (by omega)
  have hLl := lb.len
  have hLb := hide lb.isB
  replace hQ := hide hQ; replace hg0 := hide hg0; replace lb := hide lb; replace hE := hide hE; replace hq := hide hq
  go_upto_region 13 with fail
  refine wp_region_lit ?_
  refine list_val (.slice (some ⟨p0, q0, none⟩) 106 cap) (by kernel_rfl) (by kernel_rfl) ?_
  simp only [Act.put, List.setIfInBounds_toArray, List.set_cons_zero, List.set_cons_succ, List.getElem_toArray, List.getElem_cons_zero, List.getElem_cons_succ]
  refine list_call 12 #[.slice (some ⟨p0, q0, none⟩) 106 cap] (by kernel_rfl) (by kernel_rfl) ((jroom_ok L (some ⟨p0, q0, none⟩) 106 cap (by omega) v (unhide lb)).mono ?_)
  rintro r u6 ⟨go, co, rfl, hc1, hc2, hgo, hat, hg⟩
  rw [hLl] at hc1 ⊢
  have hlo : Lb u6 (some ⟨go, 0, none⟩) 106 co L := by
    have h9 := hat.take 106
    rw [List.take_append_of_le_length (by rw [hLl]; exact Nat.le_refl _), List.take_of_length_le (by rw [hLl]; exact Nat.le_refl _)] at h9
    exact ⟨hLl, unhide hLb, .inr ⟨go, 0, rfl, h9⟩, by omega, hc2⟩
  replace hlo := hide hlo
  replace hg0 := hide ((unhide hg0).trans hg)
  replace lb := hide ((unhide lb).gr hg)
  clear hg hat hc1 hc2 hgo
  refine ⟨_, rfl, ?_⟩
  simp only [Act.put, List.setIfInBounds_toArray, List.set_cons_zero, List.set_cons_succ, List.getElem_toArray, List.getElem_cons_zero, List.getElem_cons_succ]
  refine list_call 11 #[.slice (some ⟨go, 0, none⟩) 106 co] (by kernel_rfl) (by kernel_rfl) ((fgeta_bad L (some ⟨go, 0, none⟩) co u6 (unhide hlo) (unhide hE)).mono ?_)
  rintro r u7 ⟨rfl, hg⟩
  have hW := (Bl.nil u7)
  replace hg0 := hide ((unhide hg0).trans hg)
  replace lb := hide ((unhide lb).gr hg)
  clear hg
  refine ⟨_, rfl, ?_⟩
  simp only [Act.put, List.setIfInBounds_toArray, List.set_cons_zero, List.set_cons_succ, List.getElem_toArray, List.getElem_cons_zero, List.getElem_cons_succ]
  refine list_val (.tuple #[.agg #[.int .u64 0, .slice none 0 0], .int .i64 241]) (by kernel_rfl) (by kernel_rfl) ?_
  simp only [Act.put, List.setIfInBounds_toArray, List.set_cons_zero, List.set_cons_succ, List.getElem_toArray, List.getElem_cons_zero, List.getElem_cons_succ]
  refine list_val (.agg #[.int .u64 0, .slice none 0 0]) (by kernel_rfl) (by kernel_rfl) ?_
  simp only [Act.put, List.setIfInBounds_toArray, List.set_cons_zero, List.set_cons_succ, List.getElem_toArray, List.getElem_cons_zero, List.getElem_cons_succ]
  refine list_val (.int .i64 241) (by kernel_rfl) (by kernel_rfl) ?_
  simp only [Act.put, List.setIfInBounds_toArray, List.set_cons_zero, List.set_cons_succ, List.getElem_toArray, List.getElem_cons_zero, List.getElem_cons_succ]
  refine list_valw (.pointer (some ⟨u7.heap.size, 0, none⟩)) (u7.alloc (.cells #[.int .u64 0, .slice none 0 0] 25 (0, 0))) (by kernel_rfl) (by kernel_rfl) ?_
  replace hW := hW.new #[.int .u64 0, .slice none 0 0] 25
  simp only [List.nil_append, List.cons_append] at hW
  generalize World.alloc _ _ = u8 at *
  generalize u7.heap.size = qe at *
  replace hW : Bl u7 [⟨qe, #[.int .u64 0, .slice none 0 0], 25⟩] u8 := hW
  simp only [Act.put, List.setIfInBounds_toArray, List.set_cons_zero, List.set_cons_succ, List.getElem_toArray, List.getElem_cons_zero, List.getElem_cons_succ]
  refine list_store 25 (.tmp 8) (.tmp 79) qe #[.int .u64 0, .slice none 0 0] 25 #[.int .u64 0, .slice none 0 0] (by kernel_rfl) rfl (by kernel_rfl) (by kernel_rfl) (hW.get 0 (x := ⟨qe, #[.int .u64 0, .slice none 0 0], 25⟩) rfl) (by rw [Try.infoAnn]; rfl) rfl (ann_one _ _ _ _) ?_
  replace hW := hW.set 0 (x := ⟨qe, #[.int .u64 0, .slice none 0 0], 25⟩) rfl #[.int .u64 0, .slice none 0 0]
  simp only [List.set_cons_zero, List.set_cons_succ] at hW
  generalize World.setRow _ _ _ = u9 at *
  replace hW : Bl u7 [⟨qe, #[.int .u64 0, .slice none 0 0], 25⟩] u9 := hW
  simp only [Act.put, List.setIfInBounds_toArray, List.set_cons_zero, List.set_cons_succ, List.getElem_toArray, List.getElem_cons_zero, List.getElem_cons_succ]
  (refine wpList_step fun K hK => ?_; replace hK := hide hK; go_simp; refine unhide hK _ _ ?_; clear hK K)
  refine wpList_nil ?_
  replace hW := hide hW
  go_upto_region 14 with fail
  replace hW := unhide hW
  refine wp_region_lit ?_
  refine list_val (.slice (some ⟨p0, q0, none⟩) 106 cap) (by kernel_rfl) (by kernel_rfl) ?_
  simp only [Act.put, List.setIfInBounds_toArray, List.set_cons_zero, List.set_cons_succ, List.getElem_toArray, List.getElem_cons_zero, List.getElem_cons_succ]
  refine list_val (.int .i64 106) (by kernel_rfl) (by kernel_rfl) ?_
  simp only [Act.put, List.setIfInBounds_toArray, List.set_cons_zero, List.set_cons_succ, List.getElem_toArray, List.getElem_cons_zero, List.getElem_cons_succ]
  refine list_val (.bool false) (by kernel_rfl) (by kernel_rfl) ?_
  simp only [Act.put, List.setIfInBounds_toArray, List.set_cons_zero, List.set_cons_succ, List.getElem_toArray, List.getElem_cons_zero, List.getElem_cons_succ]
  refine wpList_nil ?_
  replace hW := hide hW
  go_upto_region 16 with fail
  replace hW := unhide hW
  refine wp_region_lit ?_
  refine list_val (.slice (some ⟨p0, q0, none⟩) 106 cap) (by kernel_rfl) (by kernel_rfl) ?_
  simp only [Act.put, List.setIfInBounds_toArray, List.set_cons_zero, List.set_cons_succ, List.getElem_toArray, List.getElem_cons_zero, List.getElem_cons_succ]
  refine list_call 13 #[.slice (some ⟨p0, q0, none⟩) 106 cap] (by kernel_rfl) (by kernel_rfl) ((qgeta_ok L p0 q0 cap u9 ((unhide lb).gr hW.gr) (unhide hq)).mono ?_)
  rintro r x1 ⟨ab, cb, rfl, ho, hg⟩
  have haz : allZ (L.drop (10 + 32 * anN L)) = false := by
    have h1 := unhide hE
    have h2 := unhide hq
    unfold anE at h1
    unfold anQ at h2
    rw [h2, Bool.true_and] at h1
    exact h1
  rw [haz]
  obtain ⟨NB, hNB⟩ : ∃ N, N = anN L := ⟨_, rfl⟩
  obtain ⟨RR, hRR⟩ : ∃ N, N = lowN ((L.drop 1).take 8) := ⟨_, rfl⟩
  rw [← hNB, ← hRR]
  clear hNB hRR haz ho
  replace hW := hW.more hg
  clear hg
  refine ⟨_, rfl, ?_⟩
  simp only [Act.put, List.setIfInBounds_toArray, List.set_cons_zero, List.set_cons_succ, List.getElem_toArray, List.getElem_cons_zero, List.getElem_cons_succ]
  refine list_val (.tuple #[.agg #[.int .u64 RR, .slice ab NB cb], .bool false]) (by kernel_rfl) (by kernel_rfl) ?_
  simp only [Act.put, List.setIfInBounds_toArray, List.set_cons_zero, List.set_cons_succ, List.getElem_toArray, List.getElem_cons_zero, List.getElem_cons_succ]
  refine list_val (.agg #[.int .u64 RR, .slice ab NB cb]) (by kernel_rfl) (by kernel_rfl) ?_
  simp only [Act.put, List.setIfInBounds_toArray, List.set_cons_zero, List.set_cons_succ, List.getElem_toArray, List.getElem_cons_zero, List.getElem_cons_succ]
  refine list_val (.bool false) (by kernel_rfl) (by kernel_rfl) ?_
  simp only [Act.put, List.setIfInBounds_toArray, List.set_cons_zero, List.set_cons_succ, List.getElem_toArray, List.getElem_cons_zero, List.getElem_cons_succ]
  refine list_valw (.pointer (some ⟨x1.heap.size, 0, none⟩)) (x1.alloc (.cells #[.int .u64 0, .slice none 0 0] 25 (0, 0))) (by kernel_rfl) (by kernel_rfl) ?_
  replace hW := hW.new #[.int .u64 0, .slice none 0 0] 25
  simp only [List.nil_append, List.cons_append] at hW
  generalize World.alloc _ _ = x2 at *
  generalize x1.heap.size = qr at *
  replace hW : Bl u7 [⟨qe, #[.int .u64 0, .slice none 0 0], 25⟩, ⟨qr, #[.int .u64 0, .slice none 0 0], 25⟩] x2 := hW
  simp only [Act.put, List.setIfInBounds_toArray, List.set_cons_zero, List.set_cons_succ, List.getElem_toArray, List.getElem_cons_zero, List.getElem_cons_succ]
  refine list_store 25 (.tmp 9) (.tmp 100) qr #[.int .u64 RR, .slice ab NB cb] 25 #[.int .u64 0, .slice none 0 0] (by kernel_rfl) rfl (by kernel_rfl) (by kernel_rfl) (hW.get 1 (x := ⟨qr, #[.int .u64 0, .slice none 0 0], 25⟩) rfl) (by rw [Try.infoAnn]; rfl) rfl (ann_one _ _ _ _) ?_
  replace hW := hW.set 1 (x := ⟨qr, #[.int .u64 0, .slice none 0 0], 25⟩) rfl #[.int .u64 RR, .slice ab NB cb]
  simp only [List.set_cons_zero, List.set_cons_succ] at hW
  generalize World.setRow _ _ _ = x3 at *
  replace hW : Bl u7 [⟨qe, #[.int .u64 0, .slice none 0 0], 25⟩, ⟨qr, #[.int .u64 RR, .slice ab NB cb], 25⟩] x3 := hW
  simp only [Act.put, List.setIfInBounds_toArray, List.set_cons_zero, List.set_cons_succ, List.getElem_toArray, List.getElem_cons_zero, List.getElem_cons_succ]
  (refine wpList_step fun K hK => ?_; replace hK := hide hK; go_simp; refine unhide hK _ _ ?_; clear hK K)
  refine wpList_nil ?_
  replace hW := hide hW
  go_upto_region 17 with fail
  replace hW := unhide hW
  refine wp_region_lit ?_
  refine list_val (.bool false) (by kernel_rfl) (by kernel_rfl) ?_
  simp only [Act.put, List.setIfInBounds_toArray, List.set_cons_zero, List.set_cons_succ, List.getElem_toArray, List.getElem_cons_zero, List.getElem_cons_succ]
  refine list_val (.bool true) (by kernel_rfl) (by kernel_rfl) ?_
  simp only [Act.put, List.setIfInBounds_toArray, List.set_cons_zero, List.set_cons_succ, List.getElem_toArray, List.getElem_cons_zero, List.getElem_cons_succ]
  refine wpList_nil ?_
  replace hW := hide hW
  go_upto_region 18 with fail
  replace hW := unhide hW
  refine wp_region_lit ?_
  refine list_val (.int .i64 241) (by kernel_rfl) (by kernel_rfl) ?_
  simp only [Act.put, List.setIfInBounds_toArray, List.set_cons_zero, List.set_cons_succ, List.getElem_toArray, List.getElem_cons_zero, List.getElem_cons_succ]
  refine list_val (.bool true) (by kernel_rfl) (by kernel_rfl) ?_
  simp only [Act.put, List.setIfInBounds_toArray, List.set_cons_zero, List.set_cons_succ, List.getElem_toArray, List.getElem_cons_zero, List.getElem_cons_succ]
  refine list_val (.bool true) (by kernel_rfl) (by kernel_rfl) ?_
  simp only [Act.put, List.setIfInBounds_toArray, List.set_cons_zero, List.set_cons_succ, List.getElem_toArray, List.getElem_cons_zero, List.getElem_cons_succ]
  refine list_val (.pointer (some ⟨qe, 0, none⟩)) (by kernel_rfl) (by kernel_rfl) ?_
  simp only [Act.put, List.setIfInBounds_toArray, List.set_cons_zero, List.set_cons_succ, List.getElem_toArray, List.getElem_cons_zero, List.getElem_cons_succ]
  refine list_val (.int .u64 0) (by kernel_rfl) (exec_u64 _ (.tmp 107) rfl qe 0 (by kernel_rfl) 0 (cell_of (hW.get 0 (x := ⟨qe, #[.int .u64 0, .slice none 0 0], 25⟩) rfl) (i := 0) rfl)) ?_
  simp only [Act.put, List.setIfInBounds_toArray, List.set_cons_zero, List.set_cons_succ, List.getElem_toArray, List.getElem_cons_zero, List.getElem_cons_succ]
  refine list_val (.bool true) (by kernel_rfl) (by kernel_rfl) ?_
  simp only [Act.put, List.setIfInBounds_toArray, List.set_cons_zero, List.set_cons_succ, List.getElem_toArray, List.getElem_cons_zero, List.getElem_cons_succ]
  refine list_val (.bool true) (by kernel_rfl) (by kernel_rfl) ?_
  simp only [Act.put, List.setIfInBounds_toArray, List.set_cons_zero, List.set_cons_succ, List.getElem_toArray, List.getElem_cons_zero, List.getElem_cons_succ]
  refine list_val (.bool true) (by kernel_rfl) (by kernel_rfl) ?_
  simp only [Act.put, List.setIfInBounds_toArray, List.set_cons_zero, List.set_cons_succ, List.getElem_toArray, List.getElem_cons_zero, List.getElem_cons_succ]
  refine list_val (.pointer (some ⟨qe, 1, none⟩)) (by kernel_rfl) (by kernel_rfl) ?_
  simp only [Act.put, List.setIfInBounds_toArray, List.set_cons_zero, List.set_cons_succ, List.getElem_toArray, List.getElem_cons_zero, List.getElem_cons_succ]
  refine list_val (.slice none 0 0) (by kernel_rfl) (exec_sks _ (.tmp 112) rfl qe 1 (by kernel_rfl) none 0 0 (cell_of (hW.get 0 (x := ⟨qe, #[.int .u64 0, .slice none 0 0], 25⟩) rfl) (i := 1) rfl)) ?_
  simp only [Act.put, List.setIfInBounds_toArray, List.set_cons_zero, List.set_cons_succ, List.getElem_toArray, List.getElem_cons_zero, List.getElem_cons_succ]
  refine list_val (.int .i64 0) (by kernel_rfl) (by kernel_rfl) ?_
  simp only [Act.put, List.setIfInBounds_toArray, List.set_cons_zero, List.set_cons_succ, List.getElem_toArray, List.getElem_cons_zero, List.getElem_cons_succ]
  refine list_val (.bool true) (by kernel_rfl) (by kernel_rfl) ?_
  simp only [Act.put, List.setIfInBounds_toArray, List.set_cons_zero, List.set_cons_succ, List.getElem_toArray, List.getElem_cons_zero, List.getElem_cons_succ]
  refine list_val (.bool true) (by kernel_rfl) (by kernel_rfl) ?_
  simp only [Act.put, List.setIfInBounds_toArray, List.set_cons_zero, List.set_cons_succ, List.getElem_toArray, List.getElem_cons_zero, List.getElem_cons_succ]
  (refine wpList_step fun K hK => ?_; replace hK := hide hK; go_simp; refine unhide hK _ _ ?_; clear hK K)
  refine wpList_nil ?_
  have hZ : Hid (Gr v0 x3) := hide ((unhide hg0).trans hW.gr)
  clear hW
  go_wp2_with fail
  exact unhide hQ _ _ (unhide hZ) rfl
set_option maxHeartbeats 4000000 in
theorem ann_get_ok (v0 : World) (Q : Exit → Act → World → Prop) (hQ : ∀ (t : Array Value) (w' : World), Gr v0 w' → t.getD 4 undef = .bool true → Q .ret ⟨t, []⟩ w') (L : List Int) (s : Option Addr) (n cap : Nat) (hn9 : n ≤ 1000) (v : World) (hg0 : Gr v0 v) (lb : Lb v s n cap L) (hN : n = 106) (hE : anE L = true) (k0 k2 k3 k4 k5 k6 k7 k8 k9 k10 k11 k12 k13 k14 k15 k16 k17 k18 k19 k20 k21 k22 k23 k24 k25 k26 k27 k28 k29 k30 k31 k32 k33 k34 k35 k36 k37 k38 k39 k40 k41 k42 k43 k44 k45 k46 k47 k48 k49 k50 k51 k52 k53 k54 k55 k56 k57 k58 k59 k60 k61 k62 k63 k64 k65 k66 k67 k68 k69 k70 k71 k72 k73 k74 k75 k76 k77 k78 k79 k80 k81 k82 k83 k84 k85 k86 k87 k88 k89 k90 k91 k92 k93 k94 k95 k96 k97 k98 k99 k100 k101 k102 k103 k104 k105 k106 k107 k108 k109 k110 k111 k112 k113 k114 k115 k116 k117 k118 k119 k120 k121 k122 k123 k124 k125 k126 k127 k128 k129 k130 k131 k132 : Value) : getC.wp Try.prog Q ⟨#[k0, .slice s n cap, k2, k3, k4, k5, k6, k7, k8, k9, k10, k11, k12, k13, k14, k15, k16, k17, k18, k19, k20, k21, k22, k23, k24, k25, k26, k27, k28, k29, k30, k31, k32, k33, k34, k35, k36, k37, k38, k39, k40, k41, k42, k43, k44, k45, k46, k47, k48, k49, k50, k51, k52, k53, k54, k55, k56, k57, k58, k59, k60, k61, k62, k63, k64, k65, k66, k67, k68, k69, k70, k71, k72, k73, k74, k75, k76, k77, k78, k79, k80, k81, k82, k83, k84, k85, k86, k87, k88, k89, k90, k91, k92, k93, k94, k95, k96, k97, k98, k99, k100, k101, k102, k103, k104, k105, k106, k107, k108, k109, k110, k111, k112, k113, k114, k115, k116, k117, k118, k119, k120, k121, k122, k123, k124, k125, k126, k127, k128, k129, k130, k131, k132], []⟩ v := by
  conv => arg 2; whnf
  dsimp only
  obtain rfl : n = 106 := hN
  obtain ⟨p0, q0, rfl, lb⟩ := lb.some (by omega)
  have hLl := lb.len
  have hLb := hide lb.isB
  replace hQ := hide hQ; replace hg0 := hide hg0; replace lb := hide lb; replace hE := hide hE
  go_upto_region 13 with fail
  refine wp_region_lit ?_
  refine list_val (.slice (some ⟨p0, q0, none⟩) 106 cap) (by kernel_rfl) (by kernel_rfl) ?_
  simp only [Act.put, List.setIfInBounds_toArray, List.set_cons_zero, List.set_cons_succ, List.getElem_toArray, List.getElem_cons_zero, List.getElem_cons_succ]
  refine list_call 12 #[.slice (some ⟨p0, q0, none⟩) 106 cap] (by kernel_rfl) (by kernel_rfl) ((jroom_ok L (some ⟨p0, q0, none⟩) 106 cap (by omega) v (unhide lb)).mono ?_)
  rintro r u6 ⟨go, co, rfl, hc1, hc2, hgo, hat, hg⟩
  rw [hLl] at hc1 ⊢
  have hlo : Lb u6 (some ⟨go, 0, none⟩) 106 co L := by
    have h9 := hat.take 106
    rw [List.take_append_of_le_length (by rw [hLl]; exact Nat.le_refl _), List.take_of_length_le (by rw [hLl]; exact Nat.le_refl _)] at h9
    exact ⟨hLl, unhide hLb, .inr ⟨go, 0, rfl, h9⟩, by omega, hc2⟩
  replace hlo := hide hlo
  replace hg0 := hide ((unhide hg0).trans hg)
  replace lb := hide ((unhide lb).gr hg)
  clear hg hat hc1 hc2 hgo
  refine ⟨_, rfl, ?_⟩
  simp only [Act.put, List.setIfInBounds_toArray, List.set_cons_zero, List.set_cons_succ, List.getElem_toArray, List.getElem_cons_zero, List.getElem_cons_succ]
  refine list_call 11 #[.slice (some ⟨go, 0, none⟩) 106 co] (by kernel_rfl) (by kernel_rfl) ((fgeta_ok L (some ⟨go, 0, none⟩) co u6 (unhide hlo) (unhide hE)).mono ?_)
  rintro r u7 ⟨a7, ca, rfl, ho7, hg⟩
  have hanr : anR (lowN ((L.drop 1).take 8)) (anN L) = true := by
    have h := unhide hE
    unfold anE at h
    simp only [Bool.and_eq_true] at h
    exact h.1.2
  obtain ⟨NN, hNN⟩ : ∃ N, N = anN L := ⟨_, rfl⟩
  obtain ⟨RR, hRR⟩ : ∃ N, N = lowN ((L.drop 1).take 8) := ⟨_, rfl⟩
  rw [← hNN, ← hRR] at hanr
  have hN1 : 1 ≤ NN ∧ NN ≤ 3 := by unfold anR at hanr; have := of_decide_eq_true hanr; omega
  obtain ⟨a8, c8, e8, hls⟩ := ho7.ls
  rw [List.length_map] at e8 hls
  rw [show (ksO L (anN L)).length = NN from by rw [hNN]; unfold ksO; simp] at e8 hls
  rw [← hNN] at e8
  injection e8 with e81 e82 e83
  subst e81
  subst e83
  obtain ⟨pa, qa, rfl⟩ := ls_some hls hN1.1
  rw [← hNN, ← hRR]
  rw [← hNN] at hls
  replace hNN := hide hNN; replace hRR := hide hRR; replace hls := hide hls
  clear ho7 hanr
  have hW := (Bl.nil u7)
  replace hg0 := hide ((unhide hg0).trans hg)
  replace lb := hide ((unhide lb).gr hg)
  clear hg
  refine ⟨_, rfl, ?_⟩
  simp only [Act.put, List.setIfInBounds_toArray, List.set_cons_zero, List.set_cons_succ, List.getElem_toArray, List.getElem_cons_zero, List.getElem_cons_succ]
  refine list_val (.tuple #[.agg #[.int .u64 RR, .slice (some ⟨pa, qa, none⟩) NN ca], .int .i64 0]) (by kernel_rfl) (by kernel_rfl) ?_
  simp only [Act.put, List.setIfInBounds_toArray, List.set_cons_zero, List.set_cons_succ, List.getElem_toArray, List.getElem_cons_zero, List.getElem_cons_succ]
  refine list_val (.agg #[.int .u64 RR, .slice (some ⟨pa, qa, none⟩) NN ca]) (by kernel_rfl) (by kernel_rfl) ?_
  simp only [Act.put, List.setIfInBounds_toArray, List.set_cons_zero, List.set_cons_succ, List.getElem_toArray, List.getElem_cons_zero, List.getElem_cons_succ]
  refine list_val (.int .i64 0) (by kernel_rfl) (by kernel_rfl) ?_
  simp only [Act.put, List.setIfInBounds_toArray, List.set_cons_zero, List.set_cons_succ, List.getElem_toArray, List.getElem_cons_zero, List.getElem_cons_succ]
  refine list_valw (.pointer (some ⟨u7.heap.size, 0, none⟩)) (u7.alloc (.cells #[.int .u64 0, .slice none 0 0] 25 (0, 0))) (by kernel_rfl) (by kernel_rfl) ?_
  replace hW := hW.new #[.int .u64 0, .slice none 0 0] 25
  simp only [List.nil_append, List.cons_append] at hW
  generalize World.alloc _ _ = u8 at *
  generalize u7.heap.size = qe at *
  replace hW : Bl u7 [⟨qe, #[.int .u64 0, .slice none 0 0], 25⟩] u8 := hW
  simp only [Act.put, List.setIfInBounds_toArray, List.set_cons_zero, List.set_cons_succ, List.getElem_toArray, List.getElem_cons_zero, List.getElem_cons_succ]
  refine list_store 25 (.tmp 8) (.tmp 79) qe #[.int .u64 RR, .slice (some ⟨pa, qa, none⟩) NN ca] 25 #[.int .u64 0, .slice none 0 0] (by kernel_rfl) rfl (by kernel_rfl) (by kernel_rfl) (hW.get 0 (x := ⟨qe, #[.int .u64 0, .slice none 0 0], 25⟩) rfl) (by rw [Try.infoAnn]; rfl) rfl (ann_one _ _ _ _) ?_
  replace hW := hW.set 0 (x := ⟨qe, #[.int .u64 0, .slice none 0 0], 25⟩) rfl #[.int .u64 RR, .slice (some ⟨pa, qa, none⟩) NN ca]
  simp only [List.set_cons_zero, List.set_cons_succ] at hW
  generalize World.setRow _ _ _ = u9 at *
  replace hW : Bl u7 [⟨qe, #[.int .u64 RR, .slice (some ⟨pa, qa, none⟩) NN ca], 25⟩] u9 := hW
  simp only [Act.put, List.setIfInBounds_toArray, List.set_cons_zero, List.set_cons_succ, List.getElem_toArray, List.getElem_cons_zero, List.getElem_cons_succ]
  (refine wpList_step fun K hK => ?_; replace hK := hide hK; go_simp; refine unhide hK _ _ ?_; clear hK K)
  refine wpList_nil ?_
  replace hW := hide hW
  go_upto_region 14 with fail
  replace hW := unhide hW
  refine wp_region_lit ?_
  refine list_val (.slice (some ⟨p0, q0, none⟩) 106 cap) (by kernel_rfl) (by kernel_rfl) ?_
  simp only [Act.put, List.setIfInBounds_toArray, List.set_cons_zero, List.set_cons_succ, List.getElem_toArray, List.getElem_cons_zero, List.getElem_cons_succ]
  refine list_val (.int .i64 106) (by kernel_rfl) (by kernel_rfl) ?_
  simp only [Act.put, List.setIfInBounds_toArray, List.set_cons_zero, List.set_cons_succ, List.getElem_toArray, List.getElem_cons_zero, List.getElem_cons_succ]
  refine list_val (.bool false) (by kernel_rfl) (by kernel_rfl) ?_
  simp only [Act.put, List.setIfInBounds_toArray, List.set_cons_zero, List.set_cons_succ, List.getElem_toArray, List.getElem_cons_zero, List.getElem_cons_succ]
  refine wpList_nil ?_
  replace hW := hide hW
  go_upto_region 16 with fail
  replace hW := unhide hW
  refine wp_region_lit ?_
  refine list_val (.slice (some ⟨p0, q0, none⟩) 106 cap) (by kernel_rfl) (by kernel_rfl) ?_
  simp only [Act.put, List.setIfInBounds_toArray, List.set_cons_zero, List.set_cons_succ, List.getElem_toArray, List.getElem_cons_zero, List.getElem_cons_succ]
  refine list_call 13 #[.slice (some ⟨p0, q0, none⟩) 106 cap] (by kernel_rfl) (by kernel_rfl) ((qgeta_ok L p0 q0 cap u9 ((unhide lb).gr hW.gr) (by
    have h := unhide hE
    unfold anE at h
    unfold anQ
    simp only [Bool.and_eq_true] at h ⊢
    exact h.1)).mono ?_)
  rintro r x1 ⟨ab, cb, rfl, ho, hg⟩
  have haz : allZ (L.drop (10 + 32 * anN L)) = true := by
    have h := unhide hE
    unfold anE at h
    simp only [Bool.and_eq_true] at h
    exact h.2
  rw [haz]
  obtain ⟨a8, c8, e8, hls2⟩ := ho.ls
  rw [List.length_map] at e8 hls2
  rw [show (ksO L (anN L)).length = NN from by rw [unhide hNN]; unfold ksO; simp] at e8 hls2
  rw [← unhide hNN] at e8
  injection e8 with e81 e82 e83
  subst e81
  subst e83
  obtain ⟨pb, qb, rfl⟩ := ls_some hls2 hN1.1
  rw [← unhide hNN, ← unhide hRR]
  rw [← unhide hNN] at hls2
  replace hls := hide (((unhide hls).gr hW.gr).gr hg)
  replace hls2 := hide hls2
  clear ho haz
  have hgz := hg
  replace hW := hW.more hg
  clear hg
  refine ⟨_, rfl, ?_⟩
  simp only [Act.put, List.setIfInBounds_toArray, List.set_cons_zero, List.set_cons_succ, List.getElem_toArray, List.getElem_cons_zero, List.getElem_cons_succ]
  refine list_val (.tuple #[.agg #[.int .u64 RR, .slice (some ⟨pb, qb, none⟩) NN cb], .bool true]) (by kernel_rfl) (by kernel_rfl) ?_
  simp only [Act.put, List.setIfInBounds_toArray, List.set_cons_zero, List.set_cons_succ, List.getElem_toArray, List.getElem_cons_zero, List.getElem_cons_succ]
  refine list_val (.agg #[.int .u64 RR, .slice (some ⟨pb, qb, none⟩) NN cb]) (by kernel_rfl) (by kernel_rfl) ?_
  simp only [Act.put, List.setIfInBounds_toArray, List.set_cons_zero, List.set_cons_succ, List.getElem_toArray, List.getElem_cons_zero, List.getElem_cons_succ]
  refine list_val (.bool true) (by kernel_rfl) (by kernel_rfl) ?_
  simp only [Act.put, List.setIfInBounds_toArray, List.set_cons_zero, List.set_cons_succ, List.getElem_toArray, List.getElem_cons_zero, List.getElem_cons_succ]
  have hgx := Gr.refl x1
  refine list_valw (.pointer (some ⟨x1.heap.size, 0, none⟩)) (x1.alloc (.cells #[.int .u64 0, .slice none 0 0] 25 (0, 0))) (by kernel_rfl) (by kernel_rfl) ?_
  replace hW := hW.new #[.int .u64 0, .slice none 0 0] 25
  simp only [List.nil_append, List.cons_append] at hW
  replace hgx := hgx.trans ((Gr.refl x1).alloc (.cells #[.int .u64 0, .slice none 0 0] 25 (0, 0)))
  have hge9 := hW.own 1 (x := ⟨x1.heap.size, #[.int .u64 0, .slice none 0 0], 25⟩) rfl
  have hgy := Nat.le_refl x1.heap.size
  generalize World.alloc _ _ = x2 at *
  generalize hqr : x1.heap.size = qr at *
  replace hW : Bl u7 [⟨qe, #[.int .u64 RR, .slice (some ⟨pa, qa, none⟩) NN ca], 25⟩, ⟨qr, #[.int .u64 0, .slice none 0 0], 25⟩] x2 := hW
  simp only [Act.put, List.setIfInBounds_toArray, List.set_cons_zero, List.set_cons_succ, List.getElem_toArray, List.getElem_cons_zero, List.getElem_cons_succ]
  refine list_store 25 (.tmp 9) (.tmp 100) qr #[.int .u64 RR, .slice (some ⟨pb, qb, none⟩) NN cb] 25 #[.int .u64 0, .slice none 0 0] (by kernel_rfl) rfl (by kernel_rfl) (by kernel_rfl) (hW.get 1 (x := ⟨qr, #[.int .u64 0, .slice none 0 0], 25⟩) rfl) (by rw [Try.infoAnn]; rfl) rfl (ann_one _ _ _ _) ?_
  replace hW := hW.set 1 (x := ⟨qr, #[.int .u64 0, .slice none 0 0], 25⟩) rfl #[.int .u64 RR, .slice (some ⟨pb, qb, none⟩) NN cb]
  simp only [List.set_cons_zero, List.set_cons_succ] at hW
  replace hgx := hgx.row qr (by rw [hqr]; exact Nat.le_refl _) #[.int .u64 RR, .slice (some ⟨pb, qb, none⟩) NN cb]
  generalize World.setRow _ _ _ = x3 at *
  clear hqr hgy hge9
  replace hgx := hide hgx
  replace hW : Bl u7 [⟨qe, #[.int .u64 RR, .slice (some ⟨pa, qa, none⟩) NN ca], 25⟩, ⟨qr, #[.int .u64 RR, .slice (some ⟨pb, qb, none⟩) NN cb], 25⟩] x3 := hW
  simp only [Act.put, List.setIfInBounds_toArray, List.set_cons_zero, List.set_cons_succ, List.getElem_toArray, List.getElem_cons_zero, List.getElem_cons_succ]
  (refine wpList_step fun K hK => ?_; replace hK := hide hK; go_simp; refine unhide hK _ _ ?_; clear hK K)
  refine wpList_nil ?_
  replace hW := hide hW
  go_upto_region 17 with fail
  replace hW := unhide hW
  refine wp_region_lit ?_
  refine list_val (.bool true) (by kernel_rfl) (by kernel_rfl) ?_
  simp only [Act.put, List.setIfInBounds_toArray, List.set_cons_zero, List.set_cons_succ, List.getElem_toArray, List.getElem_cons_zero, List.getElem_cons_succ]
  refine list_val (.bool false) (by kernel_rfl) (by kernel_rfl) ?_
  simp only [Act.put, List.setIfInBounds_toArray, List.set_cons_zero, List.set_cons_succ, List.getElem_toArray, List.getElem_cons_zero, List.getElem_cons_succ]
  refine wpList_nil ?_
  replace hW := hide hW
  go_upto_region 19 with fail
  replace hW := unhide hW
  refine wp_region_lit ?_
  refine list_val (.int .i64 0) (by kernel_rfl) (by kernel_rfl) ?_
  simp only [Act.put, List.setIfInBounds_toArray, List.set_cons_zero, List.set_cons_succ, List.getElem_toArray, List.getElem_cons_zero, List.getElem_cons_succ]
  refine list_val (.bool true) (by kernel_rfl) (by kernel_rfl) ?_
  simp only [Act.put, List.setIfInBounds_toArray, List.set_cons_zero, List.set_cons_succ, List.getElem_toArray, List.getElem_cons_zero, List.getElem_cons_succ]
  refine list_val (.bool true) (by kernel_rfl) (by kernel_rfl) ?_
  simp only [Act.put, List.setIfInBounds_toArray, List.set_cons_zero, List.set_cons_succ, List.getElem_toArray, List.getElem_cons_zero, List.getElem_cons_succ]
  refine list_val (.pointer (some ⟨qe, 0, none⟩)) (by kernel_rfl) (by kernel_rfl) ?_
  simp only [Act.put, List.setIfInBounds_toArray, List.set_cons_zero, List.set_cons_succ, List.getElem_toArray, List.getElem_cons_zero, List.getElem_cons_succ]
  refine list_val (.int .u64 RR) (by kernel_rfl) (exec_u64 _ (.tmp 120) rfl qe 0 (by kernel_rfl) RR (cell_of (hW.get 0 (x := ⟨qe, #[.int .u64 RR, .slice (some ⟨pa, qa, none⟩) NN ca], 25⟩) rfl) (i := 0) rfl)) ?_
  simp only [Act.put, List.setIfInBounds_toArray, List.set_cons_zero, List.set_cons_succ, List.getElem_toArray, List.getElem_cons_zero, List.getElem_cons_succ]
  refine list_val (.pointer (some ⟨qr, 0, none⟩)) (by kernel_rfl) (by kernel_rfl) ?_
  simp only [Act.put, List.setIfInBounds_toArray, List.set_cons_zero, List.set_cons_succ, List.getElem_toArray, List.getElem_cons_zero, List.getElem_cons_succ]
  refine list_val (.int .u64 RR) (by kernel_rfl) (exec_u64 _ (.tmp 122) rfl qr 0 (by kernel_rfl) RR (cell_of (hW.get 1 (x := ⟨qr, #[.int .u64 RR, .slice (some ⟨pb, qb, none⟩) NN cb], 25⟩) rfl) (i := 0) rfl)) ?_
  simp only [Act.put, List.setIfInBounds_toArray, List.set_cons_zero, List.set_cons_succ, List.getElem_toArray, List.getElem_cons_zero, List.getElem_cons_succ]
  refine list_val (.bool true) (by kernel_rfl) (by go_simp) ?_
  simp only [Act.put, List.setIfInBounds_toArray, List.set_cons_zero, List.set_cons_succ, List.getElem_toArray, List.getElem_cons_zero, List.getElem_cons_succ]
  refine list_val (.bool true) (by kernel_rfl) (by kernel_rfl) ?_
  simp only [Act.put, List.setIfInBounds_toArray, List.set_cons_zero, List.set_cons_succ, List.getElem_toArray, List.getElem_cons_zero, List.getElem_cons_succ]
  refine list_val (.bool true) (by kernel_rfl) (by kernel_rfl) ?_
  simp only [Act.put, List.setIfInBounds_toArray, List.set_cons_zero, List.set_cons_succ, List.getElem_toArray, List.getElem_cons_zero, List.getElem_cons_succ]
  refine list_val (.pointer (some ⟨qe, 1, none⟩)) (by kernel_rfl) (by kernel_rfl) ?_
  simp only [Act.put, List.setIfInBounds_toArray, List.set_cons_zero, List.set_cons_succ, List.getElem_toArray, List.getElem_cons_zero, List.getElem_cons_succ]
  refine list_val (.slice (some ⟨pa, qa, none⟩) NN ca) (by kernel_rfl) (exec_sks _ (.tmp 127) rfl qe 1 (by kernel_rfl) (some ⟨pa, qa, none⟩) NN ca (cell_of (hW.get 0 (x := ⟨qe, #[.int .u64 RR, .slice (some ⟨pa, qa, none⟩) NN ca], 25⟩) rfl) (i := 1) rfl)) ?_
  simp only [Act.put, List.setIfInBounds_toArray, List.set_cons_zero, List.set_cons_succ, List.getElem_toArray, List.getElem_cons_zero, List.getElem_cons_succ]
  refine list_val (.pointer (some ⟨qr, 1, none⟩)) (by kernel_rfl) (by kernel_rfl) ?_
  simp only [Act.put, List.setIfInBounds_toArray, List.set_cons_zero, List.set_cons_succ, List.getElem_toArray, List.getElem_cons_zero, List.getElem_cons_succ]
  refine list_val (.slice (some ⟨pb, qb, none⟩) NN cb) (by kernel_rfl) (exec_sks _ (.tmp 129) rfl qr 1 (by kernel_rfl) (some ⟨pb, qb, none⟩) NN cb (cell_of (hW.get 1 (x := ⟨qr, #[.int .u64 RR, .slice (some ⟨pb, qb, none⟩) NN cb], 25⟩) rfl) (i := 1) rfl)) ?_
  simp only [Act.put, List.setIfInBounds_toArray, List.set_cons_zero, List.set_cons_succ, List.getElem_toArray, List.getElem_cons_zero, List.getElem_cons_succ]
  refine list_call 7 #[.slice (some ⟨pa, qa, none⟩) NN ca, .slice (some ⟨pb, qb, none⟩) NN cb] (by kernel_rfl) (by kernel_rfl) ((jhops_some (ksO L NN) (ksO_ok hLl (unhide hLb) NN) pa qa NN ca pb qb cb x3 ((unhide hls).gr (unhide hgx)) ((unhide hls2).gr (unhide hgx))).mono ?_)
  rintro r x4 ⟨rfl, hg⟩
  replace hW := hW.more hg
  clear hg
  refine ⟨_, rfl, ?_⟩
  simp only [Act.put, List.setIfInBounds_toArray, List.set_cons_zero, List.set_cons_succ, List.getElem_toArray, List.getElem_cons_zero, List.getElem_cons_succ]
  refine list_val (.bool true) (by kernel_rfl) (by kernel_rfl) ?_
  simp only [Act.put, List.setIfInBounds_toArray, List.set_cons_zero, List.set_cons_succ, List.getElem_toArray, List.getElem_cons_zero, List.getElem_cons_succ]
  (refine wpList_step fun K hK => ?_; replace hK := hide hK; go_simp; refine unhide hK _ _ ?_; clear hK K)
  refine wpList_nil ?_
  have hZ : Hid (Gr v0 x4) := hide ((unhide hg0).trans hW.gr)
  clear hW
  go_wp2_with fail
  exact unhide hQ _ _ (unhide hZ) rfl
theorem ann_get (v0 : World) (Q : Exit → Act → World → Prop) (hQ : ∀ (t : Array Value) (w' : World), Gr v0 w' → t.getD 4 undef = .bool true → Q .ret ⟨t, []⟩ w') (L : List Int) (s : Option Addr) (n cap : Nat) (hn9 : n ≤ 1000) (v : World) (hg0 : Gr v0 v) (lb : Lb v s n cap L) (k0 k2 k3 k4 k5 k6 k7 k8 k9 k10 k11 k12 k13 k14 k15 k16 k17 k18 k19 k20 k21 k22 k23 k24 k25 k26 k27 k28 k29 k30 k31 k32 k33 k34 k35 k36 k37 k38 k39 k40 k41 k42 k43 k44 k45 k46 k47 k48 k49 k50 k51 k52 k53 k54 k55 k56 k57 k58 k59 k60 k61 k62 k63 k64 k65 k66 k67 k68 k69 k70 k71 k72 k73 k74 k75 k76 k77 k78 k79 k80 k81 k82 k83 k84 k85 k86 k87 k88 k89 k90 k91 k92 k93 k94 k95 k96 k97 k98 k99 k100 k101 k102 k103 k104 k105 k106 k107 k108 k109 k110 k111 k112 k113 k114 k115 k116 k117 k118 k119 k120 k121 k122 k123 k124 k125 k126 k127 k128 k129 k130 k131 k132 : Value) : getC.wp Try.prog Q ⟨#[k0, .slice s n cap, k2, k3, k4, k5, k6, k7, k8, k9, k10, k11, k12, k13, k14, k15, k16, k17, k18, k19, k20, k21, k22, k23, k24, k25, k26, k27, k28, k29, k30, k31, k32, k33, k34, k35, k36, k37, k38, k39, k40, k41, k42, k43, k44, k45, k46, k47, k48, k49, k50, k51, k52, k53, k54, k55, k56, k57, k58, k59, k60, k61, k62, k63, k64, k65, k66, k67, k68, k69, k70, k71, k72, k73, k74, k75, k76, k77, k78, k79, k80, k81, k82, k83, k84, k85, k86, k87, k88, k89, k90, k91, k92, k93, k94, k95, k96, k97, k98, k99, k100, k101, k102, k103, k104, k105, k106, k107, k108, k109, k110, k111, k112, k113, k114, k115, k116, k117, k118, k119, k120, k121, k122, k123, k124, k125, k126, k127, k128, k129, k130, k131, k132], []⟩ v := by
  by_cases hN : n = 106
  · cases hE : anE L with
    | true => exact ann_get_ok v0 Q hQ L s n cap hn9 v hg0 lb hN hE k0 k2 k3 k4 k5 k6 k7 k8 k9 k10 k11 k12 k13 k14 k15 k16 k17 k18 k19 k20 k21 k22 k23 k24 k25 k26 k27 k28 k29 k30 k31 k32 k33 k34 k35 k36 k37 k38 k39 k40 k41 k42 k43 k44 k45 k46 k47 k48 k49 k50 k51 k52 k53 k54 k55 k56 k57 k58 k59 k60 k61 k62 k63 k64 k65 k66 k67 k68 k69 k70 k71 k72 k73 k74 k75 k76 k77 k78 k79 k80 k81 k82 k83 k84 k85 k86 k87 k88 k89 k90 k91 k92 k93 k94 k95 k96 k97 k98 k99 k100 k101 k102 k103 k104 k105 k106 k107 k108 k109 k110 k111 k112 k113 k114 k115 k116 k117 k118 k119 k120 k121 k122 k123 k124 k125 k126 k127 k128 k129 k130 k131 k132
    | false =>
      cases hq : anQ L with
      | true => exact ann_get_bad2 v0 Q hQ L s n cap hn9 v hg0 lb hN hE hq k0 k2 k3 k4 k5 k6 k7 k8 k9 k10 k11 k12 k13 k14 k15 k16 k17 k18 k19 k20 k21 k22 k23 k24 k25 k26 k27 k28 k29 k30 k31 k32 k33 k34 k35 k36 k37 k38 k39 k40 k41 k42 k43 k44 k45 k46 k47 k48 k49 k50 k51 k52 k53 k54 k55 k56 k57 k58 k59 k60 k61 k62 k63 k64 k65 k66 k67 k68 k69 k70 k71 k72 k73 k74 k75 k76 k77 k78 k79 k80 k81 k82 k83 k84 k85 k86 k87 k88 k89 k90 k91 k92 k93 k94 k95 k96 k97 k98 k99 k100 k101 k102 k103 k104 k105 k106 k107 k108 k109 k110 k111 k112 k113 k114 k115 k116 k117 k118 k119 k120 k121 k122 k123 k124 k125 k126 k127 k128 k129 k130 k131 k132
      | false => exact ann_get_bad v0 Q hQ L s n cap hn9 v hg0 lb hN hE hq k0 k2 k3 k4 k5 k6 k7 k8 k9 k10 k11 k12 k13 k14 k15 k16 k17 k18 k19 k20 k21 k22 k23 k24 k25 k26 k27 k28 k29 k30 k31 k32 k33 k34 k35 k36 k37 k38 k39 k40 k41 k42 k43 k44 k45 k46 k47 k48 k49 k50 k51 k52 k53 k54 k55 k56 k57 k58 k59 k60 k61 k62 k63 k64 k65 k66 k67 k68 k69 k70 k71 k72 k73 k74 k75 k76 k77 k78 k79 k80 k81 k82 k83 k84 k85 k86 k87 k88 k89 k90 k91 k92 k93 k94 k95 k96 k97 k98 k99 k100 k101 k102 k103 k104 k105 k106 k107 k108 k109 k110 k111 k112 k113 k114 k115 k116 k117 k118 k119 k120 k121 k122 k123 k124 k125 k126 k127 k128 k129 k130 k131 k132
  · exact ann_get_no v0 Q hQ L s n cap hn9 v hg0 lb hN k0 k2 k3 k4 k5 k6 k7 k8 k9 k10 k11 k12 k13 k14 k15 k16 k17 k18 k19 k20 k21 k22 k23 k24 k25 k26 k27 k28 k29 k30 k31 k32 k33 k34 k35 k36 k37 k38 k39 k40 k41 k42 k43 k44 k45 k46 k47 k48 k49 k50 k51 k52 k53 k54 k55 k56 k57 k58 k59 k60 k61 k62 k63 k64 k65 k66 k67 k68 k69 k70 k71 k72 k73 k74 k75 k76 k77 k78 k79 k80 k81 k82 k83 k84 k85 k86 k87 k88 k89 k90 k91 k92 k93 k94 k95 k96 k97 k98 k99 k100 k101 k102 k103 k104 k105 k106 k107 k108 k109 k110 k111 k112 k113 k114 k115 k116 k117 k118 k119 k120 k121 k122 k123 k124 k125 k126 k127 k128 k129 k130 k131 k132
end Go.Proofs.Ytiejdpodffkdpaa
