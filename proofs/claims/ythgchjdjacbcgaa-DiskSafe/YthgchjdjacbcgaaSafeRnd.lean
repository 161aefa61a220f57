/-
  Each sector holds something that it held: a round of DiskSafe.
-/
import Derived.Test.YthgchjdjacbcgaaSafeIn
namespace Go.Proofs.Ythgchjdjacbcgaa
open Go.RowKit
set_option maxRecDepth 100000
set_option linter.unusedSimpArgs false
set_option linter.unusedVariables false
set_option maxHeartbeats 4000000 in
theorem safe_rnd (v0 : World) (D : Dk) (m : Nat) (hDk : D.Ok m) (hm : m ≤ 1000) (h6 : D.safe.length = 6) (keep : List Bool) (i : Nat) (hi : i < 6) (gt : Nat) (Ft : List Nat) (hL : Lies Ft gt D v0) (pn : Nat) (hpn : pn = D.pend.length) (pv : Option Addr) (cv : Nat) (hp : Ls 1 v0 pv pn cv (iv (D.pend.map fun x => (x.1 : Int)))) (sa : Option Addr) (sc : Nat) (hg : Ls 64 v0 sa 6 sc ((heldL (D.crashD keep)).map bv)) (wa : Option Addr) (wc : Nat) (hw : Ls 64 v0 wa 6 wc ((heldL (D.crashD [])).map bv)) (v : World) (hv : Gr v0 v)
    (Q : Exit → Act → World → Prop) (hpan : ∀ c t t' d w, Q (.panic c) ⟨t, d⟩ w → Q (.panic c) ⟨t', d⟩ w) (c0 c1 c2 c3 c4 c5 c6 c7 c8 c9 c10 c11 c17 c18 c19 c20 c21 c22 c23 c24 c25 c26 c27 c28 c29 c30 c31 c32 c33 c34 c35 c36 c37 c38 c39 c40 c41 c42 c43 c44 c45 c46 c47 c48 c49 c50 c51 c52 c53 c54 c55 c56 c57 c58 c59 c60 c61 c62 c63 c64 c65 c66 c67 c68 c69 c70 c71 c72 c73 c74 c75 c76 c77 c78 c79 c80 c81 c82 c83 c84 c85 c86 c87 c88 c89 c90 c91 c92 c93 c94 c95 c96 c97 c98 c99 c100 c101 c102 c103 c104 c105 c106 c107 c108 c109 c110 c111 c112 c113 c114 c115 c116 c117 c118 c119 c120 c121 c122 c123 c124 c125 c126 c127 c128 c129 c130 c131 c132 c133 c134 c135 c136 c137 c138 c139 c140 c141 c142 c143 c144 c145 c146 c147 c148 c149 c150 c151 c152 c153 c154 c155 c156 c157 c158 c159 c160 c161 c162 : Value)
    (hQ : ∀ (u17 u18 u19 u20 u21 u22 u102 u103 u104 u105 u106 u107 u108 u109 u110 u111 u112 u113 u114 u115 u116 u117 u118 u119 u120 u121 u122 u123 u124 u125 u126 u127 u128 u129 u130 u131 u132 u133 u134 u135 u136 u137 u138 u139 u140 u141 u142 u143 u144 u145 u146 u147 u148 u149 u150 u151 u152 : Value) (w' : World), Gr v0 w' → Q .normal ⟨#[c0, c1, c2, c3, c4, c5, c6, c7, c8, c9, c10, c11, .slice pv pn cv, .pointer (some ⟨gt, 0, none⟩), .slice wa 6 wc, .slice sa 6 sc, .int .i64 (i : Int), u17, u18, u19, u20, u21, u22, c23, c24, c25, c26, c27, c28, c29, c30, c31, c32, c33, c34, c35, c36, c37, c38, c39, c40, c41, c42, c43, c44, c45, c46, c47, c48, c49, c50, c51, c52, c53, c54, c55, c56, c57, c58, c59, c60, c61, c62, c63, c64, c65, c66, c67, c68, c69, c70, c71, c72, c73, c74, c75, c76, c77, c78, c79, c80, c81, c82, c83, c84, c85, c86, c87, c88, c89, c90, c91, c92, c93, c94, c95, c96, c97, c98, c99, c100, c101, u102, u103, u104, u105, u106, u107, u108, u109, u110, u111, u112, u113, u114, u115, u116, u117, u118, u119, u120, u121, u122, u123, u124, u125, u126, u127, u128, u129, u130, u131, u132, u133, u134, u135, u136, u137, u138, u139, u140, u141, u142, u143, u144, u145, u146, u147, u148, u149, u150, u151, u152, c153, c154, c155, c156, c157, c158, c159, c160, c161, c162], []⟩ w') :
    Code.wp Try.prog rndCode Q ⟨#[c0, c1, c2, c3, c4, c5, c6, c7, c8, c9, c10, c11, .slice pv pn cv, .pointer (some ⟨gt, 0, none⟩), .slice wa 6 wc, .slice sa 6 sc, .int .i64 (i : Int), c17, c18, c19, c20, c21, c22, c23, c24, c25, c26, c27, c28, c29, c30, c31, c32, c33, c34, c35, c36, c37, c38, c39, c40, c41, c42, c43, c44, c45, c46, c47, c48, c49, c50, c51, c52, c53, c54, c55, c56, c57, c58, c59, c60, c61, c62, c63, c64, c65, c66, c67, c68, c69, c70, c71, c72, c73, c74, c75, c76, c77, c78, c79, c80, c81, c82, c83, c84, c85, c86, c87, c88, c89, c90, c91, c92, c93, c94, c95, c96, c97, c98, c99, c100, c101, c102, c103, c104, c105, c106, c107, c108, c109, c110, c111, c112, c113, c114, c115, c116, c117, c118, c119, c120, c121, c122, c123, c124, c125, c126, c127, c128, c129, c130, c131, c132, c133, c134, c135, c136, c137, c138, c139, c140, c141, c142, c143, c144, c145, c146, c147, c148, c149, c150, c151, c152, c153, c154, c155, c156, c157, c158, c159, c160, c161, c162], []⟩ v := by
  conv => arg 2; whnf
  dsimp only
  have hgl : ∀ kp, (heldL (D.crashD kp)).length = 6 := fun kp => by unfold heldL; rw [heldN_len, crash_len, h6]
  obtain ⟨p3, o3, hsa, hrow⟩ := hg.at_ i hi
  rw [getD_map bv _ i [] [] (by rw [hgl]; exact hi), held_at i (by rw [crash_len, h6]; exact hi)] at hrow
  obtain ⟨p4, o4, hwa, hrw4⟩ := hw.at_ i hi
  rw [getD_map bv _ i [] [] (by rw [hgl]; exact hi), held_at i (by rw [crash_len, h6]; exact hi)] at hrw4
  have hb1 := (Dk.readB_bb (hDk.crash keep) (i : Int)).1
  have hb2 := (Dk.readB_bb (hDk.crash []) (i : Int)).1
  have hf0 : fnB D keep i 0 = decide ((D.crashD keep).readB (i : Int) = (D.crashD []).readB (i : Int)) := rfl
  obtain ⟨bg, hbg⟩ : ∃ b, b = (D.crashD keep).readB (i : Int) := ⟨_, rfl⟩
  obtain ⟨bw, hbw⟩ : ∃ b, b = (D.crashD []).readB (i : Int) := ⟨_, rfl⟩
  rw [← hbg] at hrow hb1 hf0
  rw [← hbw] at hrw4 hb2 hf0
  subst hsa
  subst hwa
  have hS : Gr v0 v := hv
  replace hDk := hide hDk; replace hL := hide hL; replace hp := hide hp; replace hg := hide hg; replace hv := hide hv; replace hQ := hide hQ; replace hpn := hide hpn; replace hrow := hide hrow; replace hrw4 := hide hrw4; replace hbg := hide hbg; replace hbw := hide hbw; replace hf0 := hide hf0; replace hw := hide hw; replace hgl := hide hgl; replace hS := hide hS; replace hpan := hide hpan
  go_upto_region 27 with fail
  replace hS := unhide hS
  refine any_start (S := fun (v : World) => Gr v0 v) (by kernel_rfl) ?_
  replace hS := hS.drew
  generalize World.drew _ = x0 at *
  simp only [List.size_toArray, List.length_cons, List.length_nil, Array.replicate, List.replicate]
  refine any_take (i := 0) (v := (.slice (some ⟨p3, o3, none⟩) 6 sc)) #[false, false, false, false, false, false, false, false, false, false] rfl (by kernel_rfl) (by kernel_rfl) (by kernel_rfl) (by kernel_rfl) (fun _ _ _ h => (unhide hpan) _ _ _ _ _ h) (.inl ⟨by kernel_rfl, fun x_ hu => by kernel_rfl⟩) hS ?_
  simp only [Act.put, List.setIfInBounds_toArray, List.set_cons_zero, List.set_cons_succ, List.getElem_toArray, List.getElem_cons_zero, List.getElem_cons_succ]
  refine any_take (i := 1) (v := (.int .i64 (i : Int))) #[true, false, false, false, false, false, false, false, false, false] rfl (by kernel_rfl) (by kernel_rfl) (by kernel_rfl) (by kernel_rfl) (fun _ _ _ h => (unhide hpan) _ _ _ _ _ h) (.inl ⟨by kernel_rfl, fun x_ hu => by kernel_rfl⟩) hS ?_
  simp only [Act.put, List.setIfInBounds_toArray, List.set_cons_zero, List.set_cons_succ, List.getElem_toArray, List.getElem_cons_zero, List.getElem_cons_succ]
  refine any_take (i := 2) (v := (.pointer (some ⟨p3, o3 + 64 * i, none⟩))) #[true, true, false, false, false, false, false, false, false, false] rfl (by kernel_rfl) (by kernel_rfl) (by kernel_rfl) (by kernel_rfl) (fun _ _ _ h => (unhide hpan) _ _ _ _ _ h) (.inl ⟨by kernel_rfl, fun x_ hu => exec_ib _ (.tmp 102) (.tmp 103) rfl p3 o3 6 sc i rfl rfl hi⟩) hS ?_
  simp only [Act.put, List.setIfInBounds_toArray, List.set_cons_zero, List.set_cons_succ, List.getElem_toArray, List.getElem_cons_zero, List.getElem_cons_succ]
  refine any_take (i := 3) (v := (.agg (kc bg))) #[true, true, true, false, false, false, false, false, false, false] rfl (by kernel_rfl) (by kernel_rfl) (by kernel_rfl) (by kernel_rfl) (fun _ _ _ h => (unhide hpan) _ _ _ _ _ h) (.inl ⟨by kernel_rfl, fun x_ hu => exec_row _ 39 (.tmp 104) rfl p3 (o3 + 64 * i) (by kernel_rfl) (bv bg) _ (range_gr (unhide hrow) hu) Try.underlying39 rfl (by rw [Try.infoB, bv_len, hb1])⟩) hS ?_
  simp only [Act.put, List.setIfInBounds_toArray, List.set_cons_zero, List.set_cons_succ, List.getElem_toArray, List.getElem_cons_zero, List.getElem_cons_succ]
  refine any_take (i := 4) (v := (.slice (some ⟨p4, o4, none⟩) 6 wc)) #[true, true, true, true, false, false, false, false, false, false] rfl (by kernel_rfl) (by kernel_rfl) (by kernel_rfl) (by kernel_rfl) (fun _ _ _ h => (unhide hpan) _ _ _ _ _ h) (.inl ⟨by kernel_rfl, fun x_ hu => by kernel_rfl⟩) hS ?_
  simp only [Act.put, List.setIfInBounds_toArray, List.set_cons_zero, List.set_cons_succ, List.getElem_toArray, List.getElem_cons_zero, List.getElem_cons_succ]
  refine any_take (i := 5) (v := (.int .i64 (i : Int))) #[true, true, true, true, true, false, false, false, false, false] rfl (by kernel_rfl) (by kernel_rfl) (by kernel_rfl) (by kernel_rfl) (fun _ _ _ h => (unhide hpan) _ _ _ _ _ h) (.inl ⟨by kernel_rfl, fun x_ hu => by kernel_rfl⟩) hS ?_
  simp only [Act.put, List.setIfInBounds_toArray, List.set_cons_zero, List.set_cons_succ, List.getElem_toArray, List.getElem_cons_zero, List.getElem_cons_succ]
  refine any_take (i := 6) (v := (.pointer (some ⟨p4, o4 + 64 * i, none⟩))) #[true, true, true, true, true, true, false, false, false, false] rfl (by kernel_rfl) (by kernel_rfl) (by kernel_rfl) (by kernel_rfl) (fun _ _ _ h => (unhide hpan) _ _ _ _ _ h) (.inl ⟨by kernel_rfl, fun x_ hu => exec_ib _ (.tmp 106) (.tmp 107) rfl p4 o4 6 wc i rfl rfl hi⟩) hS ?_
  simp only [Act.put, List.setIfInBounds_toArray, List.set_cons_zero, List.set_cons_succ, List.getElem_toArray, List.getElem_cons_zero, List.getElem_cons_succ]
  refine any_take (i := 7) (v := (.agg (kc bw))) #[true, true, true, true, true, true, true, false, false, false] rfl (by kernel_rfl) (by kernel_rfl) (by kernel_rfl) (by kernel_rfl) (fun _ _ _ h => (unhide hpan) _ _ _ _ _ h) (.inl ⟨by kernel_rfl, fun x_ hu => exec_row _ 39 (.tmp 108) rfl p4 (o4 + 64 * i) (by kernel_rfl) (bv bw) _ (range_gr (unhide hrw4) hu) Try.underlying39 rfl (by rw [Try.infoB, bv_len, hb2])⟩) hS ?_
  simp only [Act.put, List.setIfInBounds_toArray, List.set_cons_zero, List.set_cons_succ, List.getElem_toArray, List.getElem_cons_zero, List.getElem_cons_succ]
  refine any_take (i := 8) (v := (.bool (fnB D keep i 0))) #[true, true, true, true, true, true, true, true, false, false] rfl (by kernel_rfl) (by kernel_rfl) (by kernel_rfl) (by kernel_rfl) (fun _ _ _ h => (unhide hpan) _ _ _ _ _ h) (.inl ⟨by kernel_rfl, fun x_ hu => by rw [unhide hf0]; exact exec_eqB2 _ (.tmp 105) (.tmp 109) rfl bg bw hb1 hb2 (by kernel_rfl) (by kernel_rfl)⟩) hS ?_
  simp only [Act.put, List.setIfInBounds_toArray, List.set_cons_zero, List.set_cons_succ, List.getElem_toArray, List.getElem_cons_zero, List.getElem_cons_succ]
  refine any_one (i := 9) (by kernel_rfl) rfl (fun K_ hQ => ?_)
  replace hQ := hide hQ
  go_simp
  refine (unhide hQ).out _ _ hS (fun _ => ?_)
  clear hQ K_
  refine any_done (by kernel_rfl) ?_
  rename_i K0_ hK0_ hx_
  refine hK0_ _ _ ?_
  refine wp_seq ?_
  refine wp_code_eq (c := inCode) (by kernel_rfl) ?_
  refine safe_in v0 D m (unhide hDk) hm h6 keep i hi gt Ft (unhide hL) pn (unhide hpn) pv cv (unhide hp) _ sc (unhide hg) _ hS _ (by exact fun c t t' d w h => unhide hpan c t t' d w h) _ _ _ _ _ _ _ _ _ _ _ _ _ _ _ _ _ _ _ _ _ _ _ _ _ _ _ _ _ _ _ _ _ _ _ _ _ _ _ _ _ _ _ _ _ _ _ _ _ _ _ _ _ _ _ _ _ _ _ _ _ _ _ _ _ _ _ _ _ _ _ _ _ _ _ _ _ _ _ _ _ _ _ _ _ _ _ _ _ _ _ _ _ _ _ _ _ _ _ _ _ _ _ _ _ _ _ _ _ _ _ _ _ _ _ _ _ _ _ _ _ _ _ _ _ _ _ _ _ _ _ _ _ _ _ _ _ _ _ _ _ _ _ _ _ _ _ _ _ _ _ _ _ _ _ _ _ _ (fun e18 e19 e20 e21 e22 e111 e112 e113 e114 e115 e116 e117 e118 e119 e120 e121 e122 e123 e124 e125 e126 e127 e128 e129 e130 e131 e132 e133 e134 e135 e136 e137 e138 e139 e140 e141 e142 e143 e144 e145 e146 e147 e148 e149 e150 w9 hw9 => ?_)
  replace hw9 := hide hw9
  clear hS
  show Code.wp Try.prog _ _ _ _
  go_upto_region 38 with fail
  refine wp_region_lit ?_
  refine list_val (.bool true) (by kernel_rfl) (by kernel_rfl) ?_
  simp only [Act.put, List.setIfInBounds_toArray, List.set_cons_zero, List.set_cons_succ, List.getElem_toArray, List.getElem_cons_zero, List.getElem_cons_succ]
  refine list_val (.bool false) (by kernel_rfl) (by kernel_rfl) ?_
  simp only [Act.put, List.setIfInBounds_toArray, List.set_cons_zero, List.set_cons_succ, List.getElem_toArray, List.getElem_cons_zero, List.getElem_cons_succ]
  refine wpList_nil ?_
  go_wp2_with fail
  exact unhide hQ _ _ _ _ _ _ _ _ _ _ _ _ _ _ _ _ _ _ _ _ _ _ _ _ _ _ _ _ _ _ _ _ _ _ _ _ _ _ _ _ _ _ _ _ _ _ _ _ _ _ _ _ _ _ _ _ _ _ (unhide hw9)
end Go.Proofs.Ythgchjdjacbcgaa
