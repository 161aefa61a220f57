/-
  An armed disk does as one that is not, till the power goes: the walk of DiskArmed.
-/
import Derived.Test.YthgchjdjacbcgaaDkU
namespace Go.Proofs.Ythgchjdjacbcgaa
open Go.RowKit
set_option maxRecDepth 100000
set_option linter.unusedSimpArgs false
set_option linter.unusedVariables false
theorem los_nil (w : World) : Los w none 0 0 [] := ⟨rfl, by simp, .inl rfl, Nat.le_refl _, by decide⟩
theorem worn_nil (w : World) : Calls Try.prog 23 #[.slice none 0 0] w (Wrn (dk0 6) w) := worn_ok [] none 0 0 w (los_nil w)
theorem arm_ok {B : Dk} {m n : Nat} (h : B.Ok m) (hn : B.ops ≤ n) (h2 : n < 1000) : (arm B n).Ok m := ⟨h.blk, h.pnd, h.lo1, h.hi1, by show (-1 : Int) ≤ (n : Int) - (B.ops : Int); omega, by show (n : Int) - (B.ops : Int) < 9223372036854775808; omega, h.ops, h.num⟩
theorem dead_ok {B : Dk} {m : Nat} (h : B.Ok m) : Dk.Ok { B with dead := true } m := ⟨h.blk, h.pnd, h.lo1, h.hi1, h.lo, h.hi, h.ops, h.num⟩
theorem arm_zero (n : Nat) : (dk0 6).armD (n : Int) = arm (dk0 6) n := by
  have e1 : ¬ (n : Int) < -1 := by omega
  unfold Dk.armD arm dk0
  simp [e1]
/-- what is done where a test holds -/
def thenOf (t : Nat) : Code → Option Code
  | .cond (.tmp s) a b => if s = t then some a else (thenOf t a).orElse fun _ => thenOf t b
  | .cond _ a b => (thenOf t a).orElse fun _ => thenOf t b
  | .seq a b => (thenOf t a).orElse fun _ => thenOf t b
  | .loop c => thenOf t c
  | .block _ c => thenOf t c
  | .scope c => thenOf t c
  | _ => none
/-- the code from a region on -/
def fromReg (r : Nat) : Code → Option Code
  | .seq (.region i ops d) b => if i = r then some (.seq (.region i ops d) b) else fromReg r b
  | .seq a b => (fromReg r a).orElse fun _ => fromReg r b
  | .cond _ a b => (fromReg r a).orElse fun _ => fromReg r b
  | .loop c => fromReg r c
  | .block _ c => fromReg r c
  | .scope c => fromReg r c
  | _ => none
noncomputable def onCode : Code := ((Try.f7.body).bind (thenOf 75)).getD .skip
noncomputable def restCode : Code := ((Try.f7.body).bind (fromReg 28)).getD .skip
theorem wp_code_eq {P : Program} {c c' : Code} {Q : Exit → Act → World → Prop} {a : Act} {w : World} (h : c' = c) (k : c.wp P Q a w) : c'.wp P Q a w := h ▸ k
set_option maxHeartbeats 4000000 in
theorem armed_on (w : World) (nn : Nat) (hn40 : nn < 40) (B : Dk) (j : Nat) (hj : j < 120) (F G : List Nat) (ga gb go : Nat) (q : Opl) (ka : Option Addr) (kn kp kk : Nat) (hsix : Six B) (hBk : B.Ok j) (hAk : (arm B nn).Ok j) (hnB : B.ops ≤ nn) (hqo : q.Ok) (hkk : kk = q.k) (hk3 : ¬ 2 < kk) (v : World) (hS : Ds w [(F, ga, arm B nn), (G, gb, B)] v) (hkp : Kp w ka kn kp q.keep) (hoF : go ∉ F)
    (hO : v.heap[go]? = some (.cells (opv q ka kn kp) 37 (0, 0))) (Q : Exit → Act → World → Prop) (hc : (B.ops = nn ∧ 0 < kk ∧ (kk = 2 ∨ (0 ≤ q.at_ ∧ q.at_ < 6))))
    (hQ : ∀ (t : Array Value) (w' : World), Gr w w' → t.getD 4 undef = .bool true → Q .ret ⟨t, []⟩ w') (c0 c2 c3 c4 c8 c11 c12 c13 c14 c15 c16 c17 c18 c19 c20 c21 c22 c23 c24 c25 c26 c27 c28 c29 c30 c31 c32 c33 c34 c35 c36 c37 c38 c39 c40 c41 c42 c43 c44 c45 c46 c47 c48 c49 c50 c51 c52 c53 c54 c55 c56 c57 c58 c59 c60 c61 c62 c63 c64 c65 c66 c67 c68 c69 c70 c71 c72 c73 c74 c75 c76 c77 c78 c79 c80 c81 c82 c83 c84 c85 c86 c87 c88 c89 c90 c91 c92 c93 c94 c95 c96 c97 c98 c99 c100 c101 c102 c103 c104 c105 c106 c107 c108 c109 c110 c111 c112 c113 c114 c115 c116 c117 c118 c119 c120 c121 c122 c123 c124 c125 c126 c127 c128 c129 c130 c131 c132 c133 c134 c135 c136 c137 c138 c139 c140 c141 c142 c143 c144 c145 c146 c147 c148 c149 c150 c151 c152 c153 c154 c155 c156 c157 c158 c159 c160 c161 c162 c163 c164 c165 c166 c167 c168 c169 c170 c171 c172 c173 c174 c175 c176 c177 c178 c179 : Value) :
    Code.wp Try.prog onCode Q ⟨#[c0, .int .i64 (nn : Int), c2, c3, c4, .pointer (some ⟨ga, 0, none⟩), .pointer (some ⟨gb, 0, none⟩), .int .i64 (B.ops : Int), c8, .pointer (some ⟨go, 0, none⟩), .int .i64 (B.ops : Int), c11, c12, c13, c14, c15, c16, c17, c18, c19, c20, c21, c22, c23, c24, c25, c26, c27, c28, c29, c30, c31, c32, c33, c34, c35, c36, c37, c38, c39, c40, c41, c42, c43, c44, c45, c46, c47, c48, c49, c50, c51, c52, c53, c54, c55, c56, c57, c58, c59, c60, c61, c62, c63, c64, c65, c66, c67, c68, c69, c70, c71, c72, c73, c74, c75, c76, c77, c78, c79, c80, c81, c82, c83, c84, c85, c86, c87, c88, c89, c90, c91, c92, c93, c94, c95, c96, c97, c98, c99, c100, c101, c102, c103, c104, c105, c106, c107, c108, c109, c110, c111, c112, c113, c114, c115, c116, c117, c118, c119, c120, c121, c122, c123, c124, c125, c126, c127, c128, c129, c130, c131, c132, c133, c134, c135, c136, c137, c138, c139, c140, c141, c142, c143, c144, c145, c146, c147, c148, c149, c150, c151, c152, c153, c154, c155, c156, c157, c158, c159, c160, c161, c162, c163, c164, c165, c166, c167, c168, c169, c170, c171, c172, c173, c174, c175, c176, c177, c178, c179], []⟩ v := by
  conv => arg 2; whnf
  dsimp only
  have hDq := hAk.op q hqo
  replace hsix := hide hsix; replace hBk := hide hBk; replace hAk := hide hAk; replace hqo := hide hqo; replace hkk := hide hkk; replace hS := hide hS; replace hkp := hide hkp; replace hO := hide hO; replace hQ := hide hQ; replace hc := hide hc
  have hoff := arm_off (unhide hsix) (n := nn) q (by rw [← unhide hkk]; omega) (by rw [← unhide hkk]; exact unhide hc)
  have hA1 := hDq
  rw [hoff.1] at hA1
  obtain ⟨A1, hA⟩ : ∃ A, A = { arm B nn with dead := true } := ⟨_, rfl⟩
  rw [← hA] at hA1 hoff
  replace hoff := hide hoff; replace hA1 := hide hA1
  have hAf : Hid (A1.dead = true ∧ A1.safe = B.safe ∧ A1.pend = B.pend ∧ A1.ops = B.ops) := by rw [hA]; exact ⟨rfl, rfl, rfl, rfl⟩
  replace hA := hide hA
  go_upto_region 14 with fail
  refine wp_region_lit ?_
  refine list_val (.pointer (some ⟨ga, 0, none⟩)) (by kernel_rfl) (by kernel_rfl) ?_
  simp only [Act.put, List.setIfInBounds_toArray, List.set_cons_zero, List.set_cons_succ, List.getElem_toArray, List.getElem_cons_zero, List.getElem_cons_succ]
  refine list_val (.agg (opv q ka kn kp)) (by kernel_rfl) (exec_arr _ 37 (.tmp 9) rfl go (by kernel_rfl) (opv q ka kn kp) 37 _ (unhide hO) Try.underlying37 rfl (by rw [Try.infoO]; rfl)) ?_
  simp only [Act.put, List.setIfInBounds_toArray, List.set_cons_zero, List.set_cons_succ, List.getElem_toArray, List.getElem_cons_zero, List.getElem_cons_succ]
  refine list_call 13 #[.pointer (some ⟨ga, 0, none⟩), .agg (opv q ka kn kp)] (by kernel_rfl) (by kernel_rfl) ((does_ok F ga j (arm B nn) (unhide hAk) (by omega) q (unhide hqo) ka kn kp _ ((unhide hS).at_ (n := 0) rfl) ((unhide hkp).gr (unhide hS).gr)).mono ?_)
  rintro r y1 ⟨F1, rfl, hL1, hch⟩
  refine ⟨_, rfl, ?_⟩
  rw [(unhide hoff).1] at hL1
  rw [(unhide hoff).2]
  replace hS := hide (show Ds w [(F1, ga, A1), (G, gb, B)] y1 from (unhide hS).chg (n := 0) rfl hch hL1)
  have hbb := Dk.opB_bb (unhide hAk) q
  obtain ⟨b, hb⟩ : ∃ b, b = (arm B nn).opB q := ⟨_, rfl⟩
  rw [← hb]
  rw [← hb] at hbb
  have hbl := hbb.1
  replace hb := hide hb
  clear hch hL1 hbb hO
  have hB := Bl.nil y1
  simp only [Act.put, List.setIfInBounds_toArray, List.set_cons_zero, List.set_cons_succ, List.getElem_toArray, List.getElem_cons_zero, List.getElem_cons_succ]
  refine list_val (.tuple #[.agg (kc b), .int .i64 7]) (by kernel_rfl) (by kernel_rfl) ?_
  simp only [Act.put, List.setIfInBounds_toArray, List.set_cons_zero, List.set_cons_succ, List.getElem_toArray, List.getElem_cons_zero, List.getElem_cons_succ]
  refine list_val (.agg (kc b)) (by kernel_rfl) (by kernel_rfl) ?_
  simp only [Act.put, List.setIfInBounds_toArray, List.set_cons_zero, List.set_cons_succ, List.getElem_toArray, List.getElem_cons_zero, List.getElem_cons_succ]
  refine list_val (.int .i64 7) (by kernel_rfl) (by kernel_rfl) ?_
  simp only [Act.put, List.setIfInBounds_toArray, List.set_cons_zero, List.set_cons_succ, List.getElem_toArray, List.getElem_cons_zero, List.getElem_cons_succ]
  refine list_valw (.pointer (some ⟨y1.heap.size, 0, none⟩)) (y1.alloc (.cells (kc ZB) 39 (0, 0))) (by kernel_rfl) (by kernel_rfl) ?_
  replace hB := hB.new (kc ZB) 39
  simp only [List.nil_append, List.cons_append] at hB
  generalize World.alloc _ _ = y2 at *
  generalize y1.heap.size = g11 at *
  replace hB : Bl y1 [⟨g11, kc ZB, 39⟩] y2 := hB
  simp only [Act.put, List.setIfInBounds_toArray, List.set_cons_zero, List.set_cons_succ, List.getElem_toArray, List.getElem_cons_zero, List.getElem_cons_succ]
  refine list_store 39 (.tmp 11) (.tmp 80) (g11) (kc b) 39 (kc ZB) (by kernel_rfl) rfl (by kernel_rfl) (by kernel_rfl) (hB.get 0 (x := ⟨g11, kc ZB, 39⟩) rfl) (by rw [Try.infoB, kc_size, hbl]) ((show (kc ZB).size = 64 from rfl).trans ((kc_size _).trans hbl).symm) (kc_one _) ?_
  replace hB := hB.set 0 (x := ⟨g11, kc ZB, 39⟩) rfl (kc b)
  simp only [List.set_cons_zero, List.set_cons_succ] at hB
  generalize World.setRow _ _ _ = y3 at *
  replace hB : Bl y1 [⟨g11, kc b, 39⟩] y3 := hB
  simp only [Act.put, List.setIfInBounds_toArray, List.set_cons_zero, List.set_cons_succ, List.getElem_toArray, List.getElem_cons_zero, List.getElem_cons_succ]
  (refine wpList_step fun K hK => ?_; replace hK := hide hK; go_simp; refine unhide hK _ _ ?_; clear hK K)
  refine wpList_nil ?_
  replace hS := hide ((unhide hS).more hB.gr)
  clear hB
  go_upto_region 15 with fail
  refine wp_region_lit ?_
  refine list_val (.int .i64 7) (by kernel_rfl) (by kernel_rfl) ?_
  simp only [Act.put, List.setIfInBounds_toArray, List.set_cons_zero, List.set_cons_succ, List.getElem_toArray, List.getElem_cons_zero, List.getElem_cons_succ]
  refine list_val (.bool false) (by kernel_rfl) (by go_simp) ?_
  simp only [Act.put, List.setIfInBounds_toArray, List.set_cons_zero, List.set_cons_succ, List.getElem_toArray, List.getElem_cons_zero, List.getElem_cons_succ]
  refine list_val (.bool false) (by kernel_rfl) (by kernel_rfl) ?_
  simp only [Act.put, List.setIfInBounds_toArray, List.set_cons_zero, List.set_cons_succ, List.getElem_toArray, List.getElem_cons_zero, List.getElem_cons_succ]
  refine list_val (.pointer (some ⟨ga, 0, none⟩)) (by kernel_rfl) (by kernel_rfl) ?_
  simp only [Act.put, List.setIfInBounds_toArray, List.set_cons_zero, List.set_cons_succ, List.getElem_toArray, List.getElem_cons_zero, List.getElem_cons_succ]
  refine list_call 21 #[.pointer (some ⟨ga, 0, none⟩)] (by kernel_rfl) (by kernel_rfl) ((ddead_ok F1 ga _ A1 (unhide hA1) (by omega) _ ((unhide hS).at_ (n := 0) rfl)).mono ?_)
  rintro r y4 ⟨rfl, hg⟩
  refine ⟨_, rfl, ?_⟩
  rw [(unhide hAf).1]
  replace hS := hide ((unhide hS).more hg)
  clear hg
  simp only [Act.put, List.setIfInBounds_toArray, List.set_cons_zero, List.set_cons_succ, List.getElem_toArray, List.getElem_cons_zero, List.getElem_cons_succ]
  refine list_val (.bool false) (by kernel_rfl) (by kernel_rfl) ?_
  simp only [Act.put, List.setIfInBounds_toArray, List.set_cons_zero, List.set_cons_succ, List.getElem_toArray, List.getElem_cons_zero, List.getElem_cons_succ]
  refine list_val (.bool false) (by kernel_rfl) (by kernel_rfl) ?_
  simp only [Act.put, List.setIfInBounds_toArray, List.set_cons_zero, List.set_cons_succ, List.getElem_toArray, List.getElem_cons_zero, List.getElem_cons_succ]
  refine wpList_nil ?_
  go_upto_region 17 with fail
  refine wp_region_lit ?_
  refine list_val (.pointer (some ⟨ga, 0, none⟩)) (by kernel_rfl) (by kernel_rfl) ?_
  simp only [Act.put, List.setIfInBounds_toArray, List.set_cons_zero, List.set_cons_succ, List.getElem_toArray, List.getElem_cons_zero, List.getElem_cons_succ]
  refine list_call 17 #[.pointer (some ⟨ga, 0, none⟩), .int .i64 0] (by kernel_rfl) (by kernel_rfl) ((dread_ok F1 ga _ A1 (unhide hA1) (by omega) 0 _ ((unhide hS).at_ (n := 0) rfl)).mono ?_)
  rintro r y5 ⟨rfl, hg⟩
  refine ⟨_, rfl, ?_⟩
  rw [show A1.readB 0 = ZB from (by unfold Dk.readB; rw [(unhide hAf).1]; rfl), show A1.readE 0 = 7 from (by unfold Dk.readE; rw [(unhide hAf).1]; rfl)]
  replace hS := hide ((unhide hS).more hg)
  clear hg
  have hB := Bl.nil y5
  simp only [Act.put, List.setIfInBounds_toArray, List.set_cons_zero, List.set_cons_succ, List.getElem_toArray, List.getElem_cons_zero, List.getElem_cons_succ]
  refine list_val (.tuple #[.agg (kc ZB), .int .i64 7]) (by kernel_rfl) (by kernel_rfl) ?_
  simp only [Act.put, List.setIfInBounds_toArray, List.set_cons_zero, List.set_cons_succ, List.getElem_toArray, List.getElem_cons_zero, List.getElem_cons_succ]
  refine list_val (.agg (kc ZB)) (by kernel_rfl) (by kernel_rfl) ?_
  simp only [Act.put, List.setIfInBounds_toArray, List.set_cons_zero, List.set_cons_succ, List.getElem_toArray, List.getElem_cons_zero, List.getElem_cons_succ]
  refine list_val (.int .i64 7) (by kernel_rfl) (by kernel_rfl) ?_
  simp only [Act.put, List.setIfInBounds_toArray, List.set_cons_zero, List.set_cons_succ, List.getElem_toArray, List.getElem_cons_zero, List.getElem_cons_succ]
  refine list_valw (.pointer (some ⟨y5.heap.size, 0, none⟩)) (y5.alloc (.cells (kc ZB) 39 (0, 0))) (by kernel_rfl) (by kernel_rfl) ?_
  replace hB := hB.new (kc ZB) 39
  simp only [List.nil_append, List.cons_append] at hB
  generalize World.alloc _ _ = y6 at *
  generalize y5.heap.size = g13 at *
  replace hB : Bl y5 [⟨g13, kc ZB, 39⟩] y6 := hB
  simp only [Act.put, List.setIfInBounds_toArray, List.set_cons_zero, List.set_cons_succ, List.getElem_toArray, List.getElem_cons_zero, List.getElem_cons_succ]
  refine list_store 39 (.tmp 13) (.tmp 92) (g13) (kc ZB) 39 (kc ZB) (by kernel_rfl) rfl (by kernel_rfl) (by kernel_rfl) (hB.get 0 (x := ⟨g13, kc ZB, 39⟩) rfl) (by rw [Try.infoB, kc_size, ZB_len]) ((show (kc ZB).size = 64 from rfl).trans ((kc_size _).trans ZB_len).symm) (kc_one _) ?_
  replace hB := hB.set 0 (x := ⟨g13, kc ZB, 39⟩) rfl (kc ZB)
  simp only [List.set_cons_zero, List.set_cons_succ] at hB
  generalize World.setRow _ _ _ = y7 at *
  replace hB : Bl y5 [⟨g13, kc ZB, 39⟩] y7 := hB
  simp only [Act.put, List.setIfInBounds_toArray, List.set_cons_zero, List.set_cons_succ, List.getElem_toArray, List.getElem_cons_zero, List.getElem_cons_succ]
  (refine wpList_step fun K hK => ?_; replace hK := hide hK; go_simp; refine unhide hK _ _ ?_; clear hK K)
  refine wpList_nil ?_
  replace hS := hide ((unhide hS).more hB.gr)
  clear hB
  go_upto_region 18 with fail
  refine wp_region_lit ?_
  refine list_val (.int .i64 7) (by kernel_rfl) (by kernel_rfl) ?_
  simp only [Act.put, List.setIfInBounds_toArray, List.set_cons_zero, List.set_cons_succ, List.getElem_toArray, List.getElem_cons_zero, List.getElem_cons_succ]
  refine list_val (.bool false) (by kernel_rfl) (by go_simp) ?_
  simp only [Act.put, List.setIfInBounds_toArray, List.set_cons_zero, List.set_cons_succ, List.getElem_toArray, List.getElem_cons_zero, List.getElem_cons_succ]
  refine list_val (.bool false) (by kernel_rfl) (by kernel_rfl) ?_
  simp only [Act.put, List.setIfInBounds_toArray, List.set_cons_zero, List.set_cons_succ, List.getElem_toArray, List.getElem_cons_zero, List.getElem_cons_succ]
  refine list_val (.pointer (some ⟨ga, 0, none⟩)) (by kernel_rfl) (by kernel_rfl) ?_
  simp only [Act.put, List.setIfInBounds_toArray, List.set_cons_zero, List.set_cons_succ, List.getElem_toArray, List.getElem_cons_zero, List.getElem_cons_succ]
  refine list_call 28 #[.pointer (some ⟨ga, 0, none⟩), .int .i64 5] (by kernel_rfl) (by kernel_rfl) ((darm_ok F1 ga _ A1 (unhide hA1) (by omega) 5 (by omega) (by omega) _ ((unhide hS).at_ (n := 0) rfl)).mono ?_)
  rintro r y8 ⟨F2, rfl, hL1, hch⟩
  refine ⟨_, rfl, ?_⟩
  rw [show A1.armD 5 = A1 from (by unfold Dk.armD; rw [(unhide hAf).1]; rfl)] at hL1
  rw [show A1.armE = 7 from (by unfold Dk.armE; rw [(unhide hAf).1]; rfl)]
  replace hS := hide (show Ds w [(F2, ga, A1), (G, gb, B)] y8 from (unhide hS).chg (n := 0) rfl hch hL1)
  clear hch hL1
  simp only [Act.put, List.setIfInBounds_toArray, List.set_cons_zero, List.set_cons_succ, List.getElem_toArray, List.getElem_cons_zero, List.getElem_cons_succ]
  refine list_val (.bool false) (by kernel_rfl) (by go_simp) ?_
  simp only [Act.put, List.setIfInBounds_toArray, List.set_cons_zero, List.set_cons_succ, List.getElem_toArray, List.getElem_cons_zero, List.getElem_cons_succ]
  refine list_val (.bool false) (by kernel_rfl) (by kernel_rfl) ?_
  simp only [Act.put, List.setIfInBounds_toArray, List.set_cons_zero, List.set_cons_succ, List.getElem_toArray, List.getElem_cons_zero, List.getElem_cons_succ]
  refine list_val (.bool false) (by kernel_rfl) (by kernel_rfl) ?_
  simp only [Act.put, List.setIfInBounds_toArray, List.set_cons_zero, List.set_cons_succ, List.getElem_toArray, List.getElem_cons_zero, List.getElem_cons_succ]
  refine list_val (.pointer (some ⟨ga, 0, none⟩)) (by kernel_rfl) (by kernel_rfl) ?_
  simp only [Act.put, List.setIfInBounds_toArray, List.set_cons_zero, List.set_cons_succ, List.getElem_toArray, List.getElem_cons_zero, List.getElem_cons_succ]
  refine list_call 26 #[.pointer (some ⟨ga, 0, none⟩)] (by kernel_rfl) (by kernel_rfl) ((dsync_ok F2 ga _ A1 (unhide hA1) (by omega) _ ((unhide hS).at_ (n := 0) rfl)).mono ?_)
  rintro r y9 ⟨F3, rfl, hL1, hch⟩
  refine ⟨_, rfl, ?_⟩
  rw [show A1.syncD = A1 from (by unfold Dk.syncD; rw [(unhide hAf).1]; rfl)] at hL1
  rw [show A1.syncE = 7 from (by unfold Dk.syncE; rw [(unhide hAf).1]; rfl)]
  replace hS := hide (show Ds w [(F3, ga, A1), (G, gb, B)] y9 from (unhide hS).chg (n := 0) rfl hch hL1)
  clear hch hL1
  simp only [Act.put, List.setIfInBounds_toArray, List.set_cons_zero, List.set_cons_succ, List.getElem_toArray, List.getElem_cons_zero, List.getElem_cons_succ]
  refine list_val (.bool false) (by kernel_rfl) (by go_simp) ?_
  simp only [Act.put, List.setIfInBounds_toArray, List.set_cons_zero, List.set_cons_succ, List.getElem_toArray, List.getElem_cons_zero, List.getElem_cons_succ]
  refine list_val (.bool false) (by kernel_rfl) (by kernel_rfl) ?_
  simp only [Act.put, List.setIfInBounds_toArray, List.set_cons_zero, List.set_cons_succ, List.getElem_toArray, List.getElem_cons_zero, List.getElem_cons_succ]
  refine wpList_nil ?_
  obtain ⟨pn, hpn⟩ : ∃ k, k = B.pend.length := ⟨_, rfl⟩
  have hpb : pn ≤ 1000 := by have h1 := (unhide hBk).num; omega
  replace hpn := hide hpn
  go_upto_region 20 with fail
  refine wp_region_lit ?_
  refine list_val (.pointer (some ⟨ga, 0, none⟩)) (by kernel_rfl) (by kernel_rfl) ?_
  simp only [Act.put, List.setIfInBounds_toArray, List.set_cons_zero, List.set_cons_succ, List.getElem_toArray, List.getElem_cons_zero, List.getElem_cons_succ]
  refine list_call 20 #[.pointer (some ⟨ga, 0, none⟩)] (by kernel_rfl) (by kernel_rfl) ((dpending_ok F3 ga _ A1 (unhide hA1) (by omega) _ ((unhide hS).at_ (n := 0) rfl)).mono ?_)
  rintro r z1 ⟨vp, rfl, hOr, hg⟩
  refine ⟨_, rfl, ?_⟩
  obtain ⟨pv, cv, rfl, -⟩ := hOr.ls
  have e2 : (iv (A1.pend.map fun x => (x.1 : Int))).length = pn := by rw [iv_len, List.length_map, (unhide hAf).2.2.1, unhide hpn]
  rw [e2]
  clear hOr e2
  replace hS := hide ((unhide hS).more hg)
  clear hg
  simp only [Act.put, List.setIfInBounds_toArray, List.set_cons_zero, List.set_cons_succ, List.getElem_toArray, List.getElem_cons_zero, List.getElem_cons_succ]
  (refine wpList_step fun K hK => ?_; replace hK := hide hK; go_simp; refine unhide hK _ _ ?_; clear hK K)
  refine wpList_nil ?_
  go_upto_region 21 with fail
  have hB := Bl.nil z1
  refine wp_region_lit ?_
  refine list_val (.slice pv pn cv) (by kernel_rfl) (by kernel_rfl) ?_
  simp only [Act.put, List.setIfInBounds_toArray, List.set_cons_zero, List.set_cons_succ, List.getElem_toArray, List.getElem_cons_zero, List.getElem_cons_succ]
  refine list_val (.int .i64 pn) (by kernel_rfl) (by kernel_rfl) ?_
  simp only [Act.put, List.setIfInBounds_toArray, List.set_cons_zero, List.set_cons_succ, List.getElem_toArray, List.getElem_cons_zero, List.getElem_cons_succ]
  refine make_bools z1 rfl (.tmp 109) (.tmp 109) rfl pn pn rfl rfl (Nat.le_refl _) (by omega) ?_
  simp only [Act.put, List.setIfInBounds_toArray, List.set_cons_zero, List.set_cons_succ, List.getElem_toArray, List.getElem_cons_zero, List.getElem_cons_succ]
  replace hB := hB.new (bc (List.replicate pn false)) 4
  simp only [List.nil_append, List.cons_append] at hB
  have hgk : z1.heap.size ≤ z1.heap.size := Nat.le_refl _
  generalize World.alloc _ _ = z2 at *
  obtain ⟨gk, hgq⟩ : ∃ k, k = z1.heap.size := ⟨_, rfl⟩
  rw [← hgq] at hB ⊢
  replace hgq := hide hgq
  clear hgk
  (refine wpList_step fun K hK => ?_; replace hK := hide hK; go_simp; refine unhide hK _ _ ?_; clear hK K)
  refine wpList_nil ?_
  have e0 : flt 0 pn = List.replicate pn false := by unfold flt; simp
  rw [← e0] at hB
  clear e0
  replace hB := hide hB
  go_wp2_with fail
  go_loopw [113] (fun i wr => ∃ i2 : Nat, i2 ≤ pn ∧ i = .int .i64 i2 ∧ Hid (Bl z1 [⟨gk, bc (flt i2 pn), 4⟩] wr)) (fun i _ => pn - (intOf i).toNat)
  case atStart => exact ⟨0, by omega, rfl, hB⟩
  case round =>
  clear hB
  obtain ⟨i2, hi2, rfl, hB⟩ := hrel
  by_cases hil : i2 < pn
  · have jI2 : (i2 : Int) < (pn : Int) := by omega
    have c0 := cell_of (i := i2) ((unhide hB).get 0 (x := ⟨gk, bc (flt i2 pn), 4⟩) rfl) (Array.getElem?_eq_getElem (by dsimp only; rw [bc_size, flt_len _ _ hi2]; exact hil))
    have fz := froz_of (i := i2) ((unhide hB).get 0 (x := ⟨gk, bc (flt i2 pn), 4⟩) rfl)
    have hB2 := (unhide hB).cell 0 (x := ⟨gk, bc (flt i2 pn), 4⟩) rfl i2 (.bool true)
    simp only [List.set_cons_zero, List.set_cons_succ, bc_set, flt_set i2 pn hil] at hB2
    clear hB
    replace hB2 := hide hB2
    dsimp only at c0 fz
    generalize (bc (flt i2 pn))[i2]'_ = z at c0
    go_wp2_with fail
    go_roundw
    case rel => exact ⟨i2 + 1, by omega, by go_num, hB2⟩
    case measure => simp [intOf]; omega
  have jI2 : ¬ (i2 : Int) < (pn : Int) := by omega
  have hKp : Hid (Kp wr (some ⟨gk, 0, none⟩) pn pn (List.replicate pn true)) := by
    have e : i2 = pn := by omega
    have h := (unhide hB).get 0 (x := ⟨gk, bc (flt i2 pn), 4⟩) rfl
    dsimp only at h
    rw [e, flt_all] at h
    exact bc_kp h (by simp) (by omega)
  have hgF : ∀ i ∈ F3, blkOf (some (⟨gk, 0, none⟩ : Addr)) ≠ some i := by
    intro i hi e
    have h1 := ((unhide hS).at_ (n := 0) rfl : Lies F3 ga A1 z1).lt i hi
    have h2 : gk = i := by simpa [blkOf] using e
    have h3 := unhide hgq
    omega
  replace hS := hide ((unhide hS).more (unhide hB).gr)
  clear hB
  go_upto_region 27 with fail
  refine wp_region_lit ?_
  refine list_val (.pointer (some ⟨ga, 0, none⟩)) (by kernel_rfl) (by kernel_rfl) ?_
  simp only [Act.put, List.setIfInBounds_toArray, List.set_cons_zero, List.set_cons_succ, List.getElem_toArray, List.getElem_cons_zero, List.getElem_cons_succ]
  refine list_val (.slice (some ⟨gk, 0, none⟩) pn pn) (by kernel_rfl) (by kernel_rfl) ?_
  simp only [Act.put, List.setIfInBounds_toArray, List.set_cons_zero, List.set_cons_succ, List.getElem_toArray, List.getElem_cons_zero, List.getElem_cons_succ]
  refine list_call 25 #[.pointer (some ⟨ga, 0, none⟩), .slice (some ⟨gk, 0, none⟩) pn pn] (by kernel_rfl) (by kernel_rfl) ((dcrash_ok F3 ga _ A1 (unhide hA1) (by omega) (List.replicate pn true) _ pn pn _ ((unhide hS).at_ (n := 0) rfl) (unhide hKp) hgF).mono ?_)
  rintro r t1 ⟨F4, rfl, hL1, hch⟩
  refine ⟨_, rfl, ?_⟩
  have hC := (unhide hA1).crash (List.replicate pn true)
  have hCh : heldL (A1.crashD (List.replicate pn true)) = heldL B := by
    rw [unhide hpn, ← (unhide hAf).2.2.1]
    exact crash_all A1 (fun x hx => ((unhide hA1).pnd x hx).1) B (unhide hsix).dead (unhide hAf).2.1.symm (unhide hAf).2.2.1.symm
  have hC6 : (A1.crashD (List.replicate pn true)).safe.length = 6 := by rw [crash_len, (unhide hAf).2.1]; exact (unhide hsix).six
  have hCo : (A1.crashD (List.replicate pn true)).ops = B.ops := (unhide hAf).2.2.2
  generalize A1.crashD (List.replicate pn true) = C at *
  replace hS := hide (show Ds w [(F4, ga, C), (G, gb, B)] t1 from (unhide hS).chg (n := 0) rfl hch hL1)
  replace hC := hide hC; replace hCh := hide hCh; replace hC6 := hide hC6; replace hCo := hide hCo
  clear hch hL1 hKp hgF
  simp only [Act.put, List.setIfInBounds_toArray, List.set_cons_zero, List.set_cons_succ, List.getElem_toArray, List.getElem_cons_zero, List.getElem_cons_succ]
  refine list_val (.bool true) (by kernel_rfl) (by go_simp) ?_
  simp only [Act.put, List.setIfInBounds_toArray, List.set_cons_zero, List.set_cons_succ, List.getElem_toArray, List.getElem_cons_zero, List.getElem_cons_succ]
  refine list_val (.bool true) (by kernel_rfl) (by kernel_rfl) ?_
  simp only [Act.put, List.setIfInBounds_toArray, List.set_cons_zero, List.set_cons_succ, List.getElem_toArray, List.getElem_cons_zero, List.getElem_cons_succ]
  refine list_val (.pointer (some ⟨ga, 0, none⟩)) (by kernel_rfl) (by kernel_rfl) ?_
  simp only [Act.put, List.setIfInBounds_toArray, List.set_cons_zero, List.set_cons_succ, List.getElem_toArray, List.getElem_cons_zero, List.getElem_cons_succ]
  refine list_call 24 #[.pointer (some ⟨ga, 0, none⟩)] (by kernel_rfl) (by kernel_rfl) ((held_ok F4 ga _ C (unhide hC) (by omega) _ ((unhide hS).at_ (n := 0) rfl)).mono ?_)
  rintro r t2 ⟨la, lc, rfl, hls1, -, hg⟩
  refine ⟨_, rfl, ?_⟩
  rw [unhide hC6, unhide hCh] at hls1
  rw [unhide hC6]
  replace hls1 := hide hls1
  replace hS := hide ((unhide hS).more hg)
  clear hg
  simp only [Act.put, List.setIfInBounds_toArray, List.set_cons_zero, List.set_cons_succ, List.getElem_toArray, List.getElem_cons_zero, List.getElem_cons_succ]
  refine list_val (.pointer (some ⟨gb, 0, none⟩)) (by kernel_rfl) (by kernel_rfl) ?_
  simp only [Act.put, List.setIfInBounds_toArray, List.set_cons_zero, List.set_cons_succ, List.getElem_toArray, List.getElem_cons_zero, List.getElem_cons_succ]
  refine list_call 24 #[.pointer (some ⟨gb, 0, none⟩)] (by kernel_rfl) (by kernel_rfl) ((held_ok G gb j B (unhide hBk) (by omega) _ ((unhide hS).at_ (n := 1) rfl)).mono ?_)
  rintro r t3 ⟨lb, ld, rfl, hls2, -, hg⟩
  refine ⟨_, rfl, ?_⟩
  rw [(unhide hsix).six] at hls2 ⊢
  replace hls1 := hide ((unhide hls1).gr hg)
  replace hls2 := hide hls2
  replace hS := hide ((unhide hS).more hg)
  clear hg
  simp only [Act.put, List.setIfInBounds_toArray, List.set_cons_zero, List.set_cons_succ, List.getElem_toArray, List.getElem_cons_zero, List.getElem_cons_succ]
  refine list_call 27 #[.slice la 6 lc, .slice lb 6 ld] (by kernel_rfl) (by kernel_rfl) ((same_ok (heldL B) (heldN_bb (unhide hBk) _) la lb 6 lc ld (by omega) _ (unhide hls1) (unhide hls2)).mono ?_)
  rintro r t4 ⟨rfl, hg⟩
  refine ⟨_, rfl, ?_⟩
  replace hS := hide ((unhide hS).more hg)
  clear hg
  clear hls1 hls2
  simp only [Act.put, List.setIfInBounds_toArray, List.set_cons_zero, List.set_cons_succ, List.getElem_toArray, List.getElem_cons_zero, List.getElem_cons_succ]
  refine list_val (.bool true) (by kernel_rfl) (by kernel_rfl) ?_
  simp only [Act.put, List.setIfInBounds_toArray, List.set_cons_zero, List.set_cons_succ, List.getElem_toArray, List.getElem_cons_zero, List.getElem_cons_succ]
  refine list_val (.bool true) (by kernel_rfl) (by kernel_rfl) ?_
  simp only [Act.put, List.setIfInBounds_toArray, List.set_cons_zero, List.set_cons_succ, List.getElem_toArray, List.getElem_cons_zero, List.getElem_cons_succ]
  refine list_val (.pointer (some ⟨ga, 0, none⟩)) (by kernel_rfl) (by kernel_rfl) ?_
  simp only [Act.put, List.setIfInBounds_toArray, List.set_cons_zero, List.set_cons_succ, List.getElem_toArray, List.getElem_cons_zero, List.getElem_cons_succ]
  refine list_call 22 #[.pointer (some ⟨ga, 0, none⟩)] (by kernel_rfl) (by kernel_rfl) ((dops_ok F4 ga _ C (unhide hC) (by omega) _ ((unhide hS).at_ (n := 0) rfl)).mono ?_)
  rintro r t5 ⟨rfl, hg⟩
  refine ⟨_, rfl, ?_⟩
  rw [unhide hCo, (unhide hc).1]
  replace hS := hide ((unhide hS).more hg)
  clear hg
  simp only [Act.put, List.setIfInBounds_toArray, List.set_cons_zero, List.set_cons_succ, List.getElem_toArray, List.getElem_cons_zero, List.getElem_cons_succ]
  refine list_val (.int .i64 (nn : Int)) (by kernel_rfl) (by kernel_rfl) ?_
  simp only [Act.put, List.setIfInBounds_toArray, List.set_cons_zero, List.set_cons_succ, List.getElem_toArray, List.getElem_cons_zero, List.getElem_cons_succ]
  refine list_val (.bool true) (by kernel_rfl) (by go_simp) ?_
  simp only [Act.put, List.setIfInBounds_toArray, List.set_cons_zero, List.set_cons_succ, List.getElem_toArray, List.getElem_cons_zero, List.getElem_cons_succ]
  refine list_val (.bool true) (by kernel_rfl) (by kernel_rfl) ?_
  simp only [Act.put, List.setIfInBounds_toArray, List.set_cons_zero, List.set_cons_succ, List.getElem_toArray, List.getElem_cons_zero, List.getElem_cons_succ]
  (refine wpList_step fun K hK => ?_; replace hK := hide hK; go_simp; refine unhide hK _ _ ?_; clear hK K)
  refine wpList_nil ?_
  have hP : Hid (Gr w _) := (unhide hS).gr
  clear hS
  go_wp2_with fail
  exact unhide hQ _ _ (unhide hP) rfl
end Go.Proofs.Ythgchjdjacbcgaa
