/-
  The reference: the words of a block.
-/
import Derived.Test.YthnmebhljkccnaaDoorShaRef2
namespace Go.Proofs.YthnmebhljkccnaaDoor
open Go.RowKit
set_option maxRecDepth 1000000
set_option linter.unusedSimpArgs false
set_option linter.unusedVariables false

/-- the bodies of all loops of a code, the outer ones first -/
def loopsOf : Code → List Code
  | .loop c => c :: loopsOf c
  | .seq a b => loopsOf a ++ loopsOf b
  | .block _ c => loopsOf c
  | .scope c => loopsOf c
  | .cond _ a b => loopsOf a ++ loopsOf b
  | _ => []
theorem right_gr (x m : Int) (hm : 1 ≤ m ∧ m ≤ 31) (w : World) : Calls Tryd.prog 40 #[.int .u32 x, .int .i64 m] w (fun r w' => r = .returned (.int .u32 (tn x m.toNat)) ∧ Gr w w') :=
  (right_int x m hm w).mono fun _ _ h => ⟨h.1, h.2 ▸ (Gr.refl w).drew⟩
noncomputable def lp (k : Nat) : Code := (((Tryd.f27.body).map loopsOf).getD []).getD k .skip

set_option maxHeartbeats 1000000 in
theorem rwords_loop (w : World) (D : List Int) (hD : IsB D) (hl : D.length = 64) (p o len cap : Nat) (hlen : 64 ≤ len) (b0 b1 b2 b3 : Blk) (gw : Nat) (hAt : ∀ m v, Bl w [b0, b1, b2, b3, ⟨gw, uc m, 64⟩] v → At v p o D) (Q : Exit → Act → World → Prop) (hpan : ∀ c t t' d w, Q (.panic c) ⟨t, d⟩ w → Q (.panic c) ⟨t', d⟩ w) (v : World)
    (hB : Bl w [b0, b1, b2, b3, ⟨gw, uc Z64, 64⟩] v) (c1 c2 c3 c4 c6 c7 c8 c9 c10 c11 c12 c13 c14 c15 c16 c17 c18 c19 c20 c21 c22 c23 c24 c25 c26 c27 c28 c29 c30 c31 c32 c33 c35 c36 c37 c38 c39 c40 c41 c42 c43 c44 c45 c46 c47 c48 c49 c50 c51 c52 c53 c54 c55 c56 c57 c58 c59 c60 c61 c62 c63 c64 c65 c66 c67 c68 c69 c70 c71 c72 c73 c74 c75 c76 c77 c78 c79 c80 c81 c82 c83 c84 c85 c86 c87 c88 c89 c90 c91 c92 c93 c94 c95 c96 c97 c98 c99 c100 c101 c102 c103 c104 c105 c106 c107 c108 c109 c110 c111 c112 c113 c114 c115 c116 c117 c118 c119 c120 c121 c122 c123 c124 c125 c126 c127 c128 c129 c130 c131 c132 c133 c134 c135 c136 c137 c138 c139 c140 c141 c142 c143 c144 c145 c146 c147 c148 c149 c150 c151 c152 c153 c154 c155 c156 c157 c158 c159 c160 c161 c162 c163 c164 c165 c166 c167 c168 c169 c170 c171 c172 c173 c174 c175 c176 c177 c178 c179 c180 c181 c182 c183 c184 c185 c186 c187 c188 c189 c190 c191 c192 c193 c194 c195 c196 c197 c198 c199 c200 c201 c202 c203 c204 c205 c206 c207 c208 c209 c210 c211 c212 c213 c214 c215 c216 c217 c218 c219 c220 c221 c222 c223 c224 c225 c226 : Value)
    (hQ : ∀ (u6 u7 u8 u34 u35 u36 u37 u38 u39 u40 u41 u42 u43 u44 u45 u46 u47 u48 u49 u50 u51 u52 u53 u54 u55 u56 u57 u58 u59 u60 u61 u62 u63 u64 u65 u66 u67 u68 u69 u70 u71 u72 u73 u74 u75 u76 u77 u78 u79 u80 u81 u82 u83 u84 u85 u86 u87 u88 u89 u90 u91 u92 u93 u94 u95 u96 u97 u98 u99 u100 u101 u102 u103 u104 u105 u106 u107 u108 u109 u110 u111 : Value) (v' : World), Bl w [b0, b1, b2, b3, ⟨gw, uc (wds D), 64⟩] v' → Q (.exit 2) ⟨#[.slice (some ⟨p, o, none⟩) len cap, c1, c2, c3, c4, .pointer (some ⟨gw, 0, none⟩), u6, u7, u8, c9, c10, c11, c12, c13, c14, c15, c16, c17, c18, c19, c20, c21, c22, c23, c24, c25, c26, c27, c28, c29, c30, c31, c32, c33, u34, u35, u36, u37, u38, u39, u40, u41, u42, u43, u44, u45, u46, u47, u48, u49, u50, u51, u52, u53, u54, u55, u56, u57, u58, u59, u60, u61, u62, u63, u64, u65, u66, u67, u68, u69, u70, u71, u72, u73, u74, u75, u76, u77, u78, u79, u80, u81, u82, u83, u84, u85, u86, u87, u88, u89, u90, u91, u92, u93, u94, u95, u96, u97, u98, u99, u100, u101, u102, u103, u104, u105, u106, u107, u108, u109, u110, u111, c112, c113, c114, c115, c116, c117, c118, c119, c120, c121, c122, c123, c124, c125, c126, c127, c128, c129, c130, c131, c132, c133, c134, c135, c136, c137, c138, c139, c140, c141, c142, c143, c144, c145, c146, c147, c148, c149, c150, c151, c152, c153, c154, c155, c156, c157, c158, c159, c160, c161, c162, c163, c164, c165, c166, c167, c168, c169, c170, c171, c172, c173, c174, c175, c176, c177, c178, c179, c180, c181, c182, c183, c184, c185, c186, c187, c188, c189, c190, c191, c192, c193, c194, c195, c196, c197, c198, c199, c200, c201, c202, c203, c204, c205, c206, c207, c208, c209, c210, c211, c212, c213, c214, c215, c216, c217, c218, c219, c220, c221, c222, c223, c224, c225, c226], []⟩ v') :
    Code.wp Tryd.prog (.loop (lp 1)) Q ⟨#[.slice (some ⟨p, o, none⟩) len cap, c1, c2, c3, c4, .pointer (some ⟨gw, 0, none⟩), c6, c7, c8, c9, c10, c11, c12, c13, c14, c15, c16, c17, c18, c19, c20, c21, c22, c23, c24, c25, c26, c27, c28, c29, c30, c31, c32, c33, .int .i64 0, c35, c36, c37, c38, c39, c40, c41, c42, c43, c44, c45, c46, c47, c48, c49, c50, c51, c52, c53, c54, c55, c56, c57, c58, c59, c60, c61, c62, c63, c64, c65, c66, c67, c68, c69, c70, c71, c72, c73, c74, c75, c76, c77, c78, c79, c80, c81, c82, c83, c84, c85, c86, c87, c88, c89, c90, c91, c92, c93, c94, c95, c96, c97, c98, c99, c100, c101, c102, c103, c104, c105, c106, c107, c108, c109, c110, c111, c112, c113, c114, c115, c116, c117, c118, c119, c120, c121, c122, c123, c124, c125, c126, c127, c128, c129, c130, c131, c132, c133, c134, c135, c136, c137, c138, c139, c140, c141, c142, c143, c144, c145, c146, c147, c148, c149, c150, c151, c152, c153, c154, c155, c156, c157, c158, c159, c160, c161, c162, c163, c164, c165, c166, c167, c168, c169, c170, c171, c172, c173, c174, c175, c176, c177, c178, c179, c180, c181, c182, c183, c184, c185, c186, c187, c188, c189, c190, c191, c192, c193, c194, c195, c196, c197, c198, c199, c200, c201, c202, c203, c204, c205, c206, c207, c208, c209, c210, c211, c212, c213, c214, c215, c216, c217, c218, c219, c220, c221, c222, c223, c224, c225, c226], []⟩ v := by
  conv => arg 2; arg 1; whnf
  dsimp only
  dsimp only at hQ
  replace hB : Hid (Bl w [b0, b1, b2, b3, ⟨gw, uc (W12 D 0), 64⟩] v) := hB
  replace hAt := hide hAt
  replace hD := hide hD
  replace hQ := hide hQ
  have hlI : (64 : Int) ≤ (len : Int) := by omega
  go_loopw [34] (fun i wr => ∃ n : Nat, ∃ m : List Int, n ≤ 64 ∧ i = .int .i64 n ∧ Hid (m = W12 D n) ∧ Hid (Bl w [b0, b1, b2, b3, ⟨gw, uc m, 64⟩] wr)) (fun i _ => 64 - (intOf i).toNat)
  case atStart => exact ⟨0, W12 D 0, by omega, rfl, rfl, hB⟩
  case round =>
  clear hB
  obtain ⟨n, m, hn, rfl, hm, hB⟩ := hrel
  have hml : m.length = 64 := by rw [unhide hm]; exact W12_len D n
  by_cases hil : n < 64
  · have nI : (n : Int) < 64 := by omega
    by_cases h16 : n < 16
    · obtain ⟨q0, hq0⟩ : ∃ q, q = 4 * n := ⟨_, rfl⟩
      obtain ⟨q1, hq1⟩ : ∃ q, q = 4 * n + 1 := ⟨_, rfl⟩
      obtain ⟨q2, hq2⟩ : ∃ q, q = 4 * n + 2 := ⟨_, rfl⟩
      obtain ⟨q3, hq3⟩ : ∃ q, q = 4 * n + 3 := ⟨_, rfl⟩
      have hA : At wr p o D := (unhide hAt) m wr (unhide hB)
      have c0' := hA q0 (by omega)
      have c1' := hA q1 (by omega)
      have c2' := hA q2 (by omega)
      have c3' := hA q3 (by omega)
      have b0' := (unhide hD).at_ q0
      have b1' := (unhide hD).at_ q1
      have b2' := (unhide hD).at_ q2
      have b3' := (unhide hD).at_ q3
      clear hA
      have f3 := froz_of (i := n) ((unhide hB).get 4 (x := ⟨gw, uc m, 64⟩) rfl)
      have c4' := uc_cell ((unhide hB).get 4 (x := ⟨gw, uc m, 64⟩) rfl) n (by omega)
      have hm2 : Hid (m.set n (be (D.getD q0 0) (D.getD q1 0) (D.getD q2 0) (D.getD q3 0)) = W12 D (n + 1)) := by
        rw [unhide hm, hq0, hq1, hq2, hq3, W12_lo D n h16]
        exact rfl
      have hB2 := (unhide hB).drew.cell 4 (x := ⟨gw, uc m, 64⟩) rfl n (.int .u32 (be (D.getD q0 0) (D.getD q1 0) (D.getD q2 0) (D.getD q3 0)))
      simp only [List.set_cons_zero, List.set_cons_succ, uc_set] at hB2
      replace hB2 := hide hB2
      generalize D.getD q0 0 = x0 at *
      generalize D.getD q1 0 = x1 at *
      generalize D.getD q2 0 = x2 at *
      generalize D.getD q3 0 = x3 at *
      generalize m.getD n 0 = z at c4'
      have e0 : 4 * (n : Int) = (q0 : Int) := by omega
      have g0 : IntKind.i64.wrap (q0 : Int) = (q0 : Int) := by rw [IntKind.wrap_i64]; omega
      have l0 : 0 ≤ (q0 : Int) ∧ (q0 : Int) < (len : Int) := by omega
      have m0 : q0 < len := by omega
      have e1 : (q0 : Int) + 1 = (q1 : Int) := by omega
      have g1 : IntKind.i64.wrap (q1 : Int) = (q1 : Int) := by rw [IntKind.wrap_i64]; omega
      have l1 : 0 ≤ (q1 : Int) ∧ (q1 : Int) < (len : Int) := by omega
      have m1 : q1 < len := by omega
      have e2 : (q0 : Int) + 2 = (q2 : Int) := by omega
      have g2 : IntKind.i64.wrap (q2 : Int) = (q2 : Int) := by rw [IntKind.wrap_i64]; omega
      have l2 : 0 ≤ (q2 : Int) ∧ (q2 : Int) < (len : Int) := by omega
      have m2 : q2 < len := by omega
      have e3 : (q0 : Int) + 3 = (q3 : Int) := by omega
      have g3 : IntKind.i64.wrap (q3 : Int) = (q3 : Int) := by rw [IntKind.wrap_i64]; omega
      have l3 : 0 ≤ (q3 : Int) ∧ (q3 : Int) < (len : Int) := by omega
      have m3 : q3 < len := by omega
      have hI : (n : Int) < 16 := by omega
      have nK : n < 64 := by omega
      replace hq0 := hide hq0
      replace hq1 := hide hq1
      replace hq2 := hide hq2
      replace hq3 := hide hq3
      go_wp2_with fail
      go_still_tail 35, (by kernel_rfl)
      go_wp2_with fail
      go_roundw
      case rel => exact ⟨n + 1, _, by omega, by go_num, hm2, hB2⟩
      case measure => simp [intOf]; omega
    · have hI : ¬ (n : Int) < 16 := by omega
      obtain ⟨q0, hq0⟩ : ∃ q, q = n - 2 := ⟨_, rfl⟩
      obtain ⟨q1, hq1⟩ : ∃ q, q = n - 7 := ⟨_, rfl⟩
      obtain ⟨q2, hq2⟩ : ∃ q, q = n - 15 := ⟨_, rfl⟩
      obtain ⟨q3, hq3⟩ : ∃ q, q = n - 16 := ⟨_, rfl⟩
      have hg := (unhide hB).get 4 (x := ⟨gw, uc m, 64⟩) rfl
      have c0' := uc_cell hg q0 (by omega)
      have c1' := uc_cell hg q1 (by omega)
      have c2' := uc_cell hg q2 (by omega)
      have c3' := uc_cell hg q3 (by omega)
      have c4' := uc_cell hg n (by omega)
      have f4 := froz_of (i := n) hg
      have hm2 : Hid (m.set n ((m.getD q3 0 + sg0 (m.getD q2 0) + m.getD q1 0 + sg1 (m.getD q0 0)) % 4294967296) = W12 D (n + 1)) := by
        rw [hq0, hq1, hq2, hq3, unhide hm, W12_hi D n (by omega), nx_ref]
        exact rfl
      clear hg
      obtain ⟨x1, hx1⟩ : ∃ x, x = m.getD q1 0 := ⟨_, rfl⟩
      obtain ⟨x3, hx3⟩ : ∃ x, x = m.getD q3 0 := ⟨_, rfl⟩
      rw [← hx1] at c1' hm2
      rw [← hx3] at c3' hm2
      replace hx1 := hide hx1
      replace hx3 := hide hx3
      generalize m.getD q0 0 = x0 at *
      generalize m.getD q2 0 = x2 at *
      clear c4' f4
      have e0 : (n : Int) - 2 = (q0 : Int) := by omega
      have g0 : IntKind.i64.wrap (q0 : Int) = (q0 : Int) := by rw [IntKind.wrap_i64]; omega
      have l0 : 0 ≤ (q0 : Int) ∧ (q0 : Int) < 64 := by omega
      have m0 : q0 < 64 := by omega
      have e1 : (n : Int) - 7 = (q1 : Int) := by omega
      have g1 : IntKind.i64.wrap (q1 : Int) = (q1 : Int) := by rw [IntKind.wrap_i64]; omega
      have l1 : 0 ≤ (q1 : Int) ∧ (q1 : Int) < 64 := by omega
      have m1 : q1 < 64 := by omega
      have e2 : (n : Int) - 15 = (q2 : Int) := by omega
      have g2 : IntKind.i64.wrap (q2 : Int) = (q2 : Int) := by rw [IntKind.wrap_i64]; omega
      have l2 : 0 ≤ (q2 : Int) ∧ (q2 : Int) < 64 := by omega
      have m2 : q2 < 64 := by omega
      have e3 : (n : Int) - 16 = (q3 : Int) := by omega
      have g3 : IntKind.i64.wrap (q3 : Int) = (q3 : Int) := by rw [IntKind.wrap_i64]; omega
      have l3 : 0 ≤ (q3 : Int) ∧ (q3 : Int) < 64 := by omega
      have m3 : q3 < 64 := by omega
      have nJ : 0 ≤ (n : Int) ∧ (n : Int) < 64 := by omega
      have nK : n < 64 := by omega
      replace hq0 := hide hq0
      replace hq1 := hide hq1
      replace hq2 := hide hq2
      replace hq3 := hide hq3
      go_wp2_with fail
      go_quiet (fail)
      replace hB : Hid (Bl w [b0, b1, b2, b3, ⟨gw, uc m, 64⟩] (wr.drewN nq)) := (unhide hB).drewN nq
      replace c1' : (wr.drewN nq).cell? ⟨gw, q1, none⟩ = some (.int .u32 x1) := c1'
      replace c3' : (wr.drewN nq).cell? ⟨gw, q3, none⟩ = some (.int .u32 x3) := c3'
      clear c0' c2'
      generalize World.drewN _ _ = v at *
      go_upto_region 13 with fail
      replace hB := unhide hB
      refine any_start (S := fun v => v.cell? ⟨gw, q3, none⟩ = some (.int .u32 x3) ∧ v.cell? ⟨gw, q1, none⟩ = some (.int .u32 x1)) (by kernel_rfl) ?_
      replace c1' : v.drew.cell? ⟨gw, q1, none⟩ = some (.int .u32 x1) := c1'
      replace c3' : v.drew.cell? ⟨gw, q3, none⟩ = some (.int .u32 x3) := c3'
      replace hB := hB.drew
      generalize v.drew = v0_ at *
      simp only [List.size_toArray, List.length_cons, List.length_nil, Array.replicate, List.replicate]
      refine any_take (i := 0) (v := (.int .i64 n)) #[false, false, false, false, false, false, false, false, false, false, false, false, false, false, false, false, false, false, false, false, false, false, false, false, false, false, false, false, false, false] rfl (by kernel_rfl) (by kernel_rfl) (by kernel_rfl) (by kernel_rfl) (fun c a_ w_ h => hpan c _ _ _ w_ h) (.inl ⟨by kernel_rfl, fun x_ hu => by kernel_rfl⟩) ⟨c3', c1'⟩ ?_
      simp only [Act.put, List.setIfInBounds_toArray, List.set_cons_zero, List.set_cons_succ, List.getElem_toArray, List.getElem_cons_zero, List.getElem_cons_succ]
      refine any_take (i := 1) (v := (.int .i64 n)) #[true, false, false, false, false, false, false, false, false, false, false, false, false, false, false, false, false, false, false, false, false, false, false, false, false, false, false, false, false, false] rfl (by kernel_rfl) (by kernel_rfl) (by kernel_rfl) (by kernel_rfl) (fun c a_ w_ h => hpan c _ _ _ w_ h) (.inl ⟨by kernel_rfl, fun x_ hu => by kernel_rfl⟩) ⟨c3', c1'⟩ ?_
      simp only [Act.put, List.setIfInBounds_toArray, List.set_cons_zero, List.set_cons_succ, List.getElem_toArray, List.getElem_cons_zero, List.getElem_cons_succ]
      refine any_take (i := 2) (v := (.int .i64 q3)) #[true, true, false, false, false, false, false, false, false, false, false, false, false, false, false, false, false, false, false, false, false, false, false, false, false, false, false, false, false, false] rfl (by kernel_rfl) (by kernel_rfl) (by kernel_rfl) (by kernel_rfl) (fun c a_ w_ h => hpan c _ _ _ w_ h) (.inl ⟨by kernel_rfl, fun x_ hu => by go_simp⟩) ⟨c3', c1'⟩ ?_
      simp only [Act.put, List.setIfInBounds_toArray, List.set_cons_zero, List.set_cons_succ, List.getElem_toArray, List.getElem_cons_zero, List.getElem_cons_succ]
      refine any_take (i := 3) (v := (.pointer (some ⟨gw, q3, none⟩))) #[true, true, true, false, false, false, false, false, false, false, false, false, false, false, false, false, false, false, false, false, false, false, false, false, false, false, false, false, false, false] rfl (by kernel_rfl) (by kernel_rfl) (by kernel_rfl) (by kernel_rfl) (fun c a_ w_ h => hpan c _ _ _ w_ h) (.inl ⟨by kernel_rfl, fun x_ hu => by go_simp⟩) ⟨c3', c1'⟩ ?_
      simp only [Act.put, List.setIfInBounds_toArray, List.set_cons_zero, List.set_cons_succ, List.getElem_toArray, List.getElem_cons_zero, List.getElem_cons_succ]
      refine any_take (i := 4) (v := (.int .u32 x3)) #[true, true, true, true, false, false, false, false, false, false, false, false, false, false, false, false, false, false, false, false, false, false, false, false, false, false, false, false, false, false] rfl (by kernel_rfl) (by kernel_rfl) (by kernel_rfl) (by kernel_rfl) (fun c a_ w_ h => hpan c _ _ _ w_ h) (.inl ⟨by kernel_rfl, fun x_ hu => by have c := hu.1; go_simp⟩) ⟨c3', c1'⟩ ?_
      simp only [Act.put, List.setIfInBounds_toArray, List.set_cons_zero, List.set_cons_succ, List.getElem_toArray, List.getElem_cons_zero, List.getElem_cons_succ]
      refine any_take (i := 5) (v := (.int .u32 x2)) #[true, true, true, true, true, false, false, false, false, false, false, false, false, false, false, false, false, false, false, false, false, false, false, false, false, false, false, false, false, false] rfl (by kernel_rfl) (by kernel_rfl) (by kernel_rfl) (by kernel_rfl) (fun c a_ w_ h => hpan c _ _ _ w_ h) (.inl ⟨by kernel_rfl, fun x_ hu => by kernel_rfl⟩) ⟨c3', c1'⟩ ?_
      simp only [Act.put, List.setIfInBounds_toArray, List.set_cons_zero, List.set_cons_succ, List.getElem_toArray, List.getElem_cons_zero, List.getElem_cons_succ]
      refine any_take (i := 7) (v := (.int .u32 x2)) #[true, true, true, true, true, true, false, false, false, false, false, false, false, false, false, false, false, false, false, false, false, false, false, false, false, false, false, false, false, false] rfl (by kernel_rfl) (by kernel_rfl) (by kernel_rfl) (by kernel_rfl) (fun c a_ w_ h => hpan c _ _ _ w_ h) (.inl ⟨by kernel_rfl, fun x_ hu => by kernel_rfl⟩) ⟨c3', c1'⟩ ?_
      simp only [Act.put, List.setIfInBounds_toArray, List.set_cons_zero, List.set_cons_succ, List.getElem_toArray, List.getElem_cons_zero, List.getElem_cons_succ]
      refine any_take (i := 10) (v := (.int .u32 x2)) #[true, true, true, true, true, true, false, true, false, false, false, false, false, false, false, false, false, false, false, false, false, false, false, false, false, false, false, false, false, false] rfl (by kernel_rfl) (by kernel_rfl) (by kernel_rfl) (by kernel_rfl) (fun c a_ w_ h => hpan c _ _ _ w_ h) (.inl ⟨by kernel_rfl, fun x_ hu => by kernel_rfl⟩) ⟨c3', c1'⟩ ?_
      simp only [Act.put, List.setIfInBounds_toArray, List.set_cons_zero, List.set_cons_succ, List.getElem_toArray, List.getElem_cons_zero, List.getElem_cons_succ]
      refine any_take (i := 11) (v := (.int .u32 (x2 / 2 ^ 3))) #[true, true, true, true, true, true, false, true, false, false, true, false, false, false, false, false, false, false, false, false, false, false, false, false, false, false, false, false, false, false] rfl (by kernel_rfl) (by kernel_rfl) (by kernel_rfl) (by kernel_rfl) (fun c a_ w_ h => hpan c _ _ _ w_ h) (.inl ⟨by kernel_rfl, fun x_ hu => by go_simp⟩) ⟨c3', c1'⟩ ?_
      simp only [Act.put, List.setIfInBounds_toArray, List.set_cons_zero, List.set_cons_succ, List.getElem_toArray, List.getElem_cons_zero, List.getElem_cons_succ]
      refine any_take (i := 14) (v := (.int .i64 n)) #[true, true, true, true, true, true, false, true, false, false, true, true, false, false, false, false, false, false, false, false, false, false, false, false, false, false, false, false, false, false] rfl (by kernel_rfl) (by kernel_rfl) (by kernel_rfl) (by kernel_rfl) (fun c a_ w_ h => hpan c _ _ _ w_ h) (.inl ⟨by kernel_rfl, fun x_ hu => by kernel_rfl⟩) ⟨c3', c1'⟩ ?_
      simp only [Act.put, List.setIfInBounds_toArray, List.set_cons_zero, List.set_cons_succ, List.getElem_toArray, List.getElem_cons_zero, List.getElem_cons_succ]
      refine any_take (i := 15) (v := (.int .i64 q1)) #[true, true, true, true, true, true, false, true, false, false, true, true, false, false, true, false, false, false, false, false, false, false, false, false, false, false, false, false, false, false] rfl (by kernel_rfl) (by kernel_rfl) (by kernel_rfl) (by kernel_rfl) (fun c a_ w_ h => hpan c _ _ _ w_ h) (.inl ⟨by kernel_rfl, fun x_ hu => by go_simp⟩) ⟨c3', c1'⟩ ?_
      simp only [Act.put, List.setIfInBounds_toArray, List.set_cons_zero, List.set_cons_succ, List.getElem_toArray, List.getElem_cons_zero, List.getElem_cons_succ]
      refine any_take (i := 16) (v := (.pointer (some ⟨gw, q1, none⟩))) #[true, true, true, true, true, true, false, true, false, false, true, true, false, false, true, true, false, false, false, false, false, false, false, false, false, false, false, false, false, false] rfl (by kernel_rfl) (by kernel_rfl) (by kernel_rfl) (by kernel_rfl) (fun c a_ w_ h => hpan c _ _ _ w_ h) (.inl ⟨by kernel_rfl, fun x_ hu => by go_simp⟩) ⟨c3', c1'⟩ ?_
      simp only [Act.put, List.setIfInBounds_toArray, List.set_cons_zero, List.set_cons_succ, List.getElem_toArray, List.getElem_cons_zero, List.getElem_cons_succ]
      refine any_take (i := 17) (v := (.int .u32 x1)) #[true, true, true, true, true, true, false, true, false, false, true, true, false, false, true, true, true, false, false, false, false, false, false, false, false, false, false, false, false, false] rfl (by kernel_rfl) (by kernel_rfl) (by kernel_rfl) (by kernel_rfl) (fun c a_ w_ h => hpan c _ _ _ w_ h) (.inl ⟨by kernel_rfl, fun x_ hu => by have c := hu.2; go_simp⟩) ⟨c3', c1'⟩ ?_
      simp only [Act.put, List.setIfInBounds_toArray, List.set_cons_zero, List.set_cons_succ, List.getElem_toArray, List.getElem_cons_zero, List.getElem_cons_succ]
      refine any_take (i := 19) (v := (.int .u32 x0)) #[true, true, true, true, true, true, false, true, false, false, true, true, false, false, true, true, true, true, false, false, false, false, false, false, false, false, false, false, false, false] rfl (by kernel_rfl) (by kernel_rfl) (by kernel_rfl) (by kernel_rfl) (fun c a_ w_ h => hpan c _ _ _ w_ h) (.inl ⟨by kernel_rfl, fun x_ hu => by kernel_rfl⟩) ⟨c3', c1'⟩ ?_
      simp only [Act.put, List.setIfInBounds_toArray, List.set_cons_zero, List.set_cons_succ, List.getElem_toArray, List.getElem_cons_zero, List.getElem_cons_succ]
      refine any_take (i := 21) (v := (.int .u32 x0)) #[true, true, true, true, true, true, false, true, false, false, true, true, false, false, true, true, true, true, false, true, false, false, false, false, false, false, false, false, false, false] rfl (by kernel_rfl) (by kernel_rfl) (by kernel_rfl) (by kernel_rfl) (fun c a_ w_ h => hpan c _ _ _ w_ h) (.inl ⟨by kernel_rfl, fun x_ hu => by kernel_rfl⟩) ⟨c3', c1'⟩ ?_
      simp only [Act.put, List.setIfInBounds_toArray, List.set_cons_zero, List.set_cons_succ, List.getElem_toArray, List.getElem_cons_zero, List.getElem_cons_succ]
      refine any_take (i := 24) (v := (.int .u32 x0)) #[true, true, true, true, true, true, false, true, false, false, true, true, false, false, true, true, true, true, false, true, false, true, false, false, false, false, false, false, false, false] rfl (by kernel_rfl) (by kernel_rfl) (by kernel_rfl) (by kernel_rfl) (fun c a_ w_ h => hpan c _ _ _ w_ h) (.inl ⟨by kernel_rfl, fun x_ hu => by kernel_rfl⟩) ⟨c3', c1'⟩ ?_
      simp only [Act.put, List.setIfInBounds_toArray, List.set_cons_zero, List.set_cons_succ, List.getElem_toArray, List.getElem_cons_zero, List.getElem_cons_succ]
      refine any_take (i := 25) (v := (.int .u32 (x0 / 2 ^ 10))) #[true, true, true, true, true, true, false, true, false, false, true, true, false, false, true, true, true, true, false, true, false, true, false, false, true, false, false, false, false, false] rfl (by kernel_rfl) (by kernel_rfl) (by kernel_rfl) (by kernel_rfl) (fun c a_ w_ h => hpan c _ _ _ w_ h) (.inl ⟨by kernel_rfl, fun x_ hu => by go_simp⟩) ⟨c3', c1'⟩ ?_
      simp only [Act.put, List.setIfInBounds_toArray, List.set_cons_zero, List.set_cons_succ, List.getElem_toArray, List.getElem_cons_zero, List.getElem_cons_succ]
      refine any_one (i := 6) (by kernel_rfl) rfl (fun K hK => ?_)
      refine step_callw (by kernel_rfl) 40 #[.int .u32 x2, .int .i64 7] (by kernel_rfl) ((right_gr x2 7 (by omega) _).mono ?_)
      rintro r v1_ ⟨rfl, hg⟩
      refine ⟨_, rfl, ?_⟩
      replace c1' := hg.cell c1'
      replace c3' := hg.cell c3'
      replace hB := hB.more hg
      clear hg
      refine hK.out _ _ ⟨c3', c1'⟩ (fun _ => ?_)
      clear hK K
      simp only [Act.put, List.setIfInBounds_toArray, List.set_cons_zero, List.set_cons_succ, List.getElem_toArray, List.getElem_cons_zero, List.getElem_cons_succ]
      refine any_one (i := 8) (by kernel_rfl) rfl (fun K hK => ?_)
      refine step_callw (by kernel_rfl) 40 #[.int .u32 x2, .int .i64 18] (by kernel_rfl) ((right_gr x2 18 (by omega) _).mono ?_)
      rintro r v2_ ⟨rfl, hg⟩
      refine ⟨_, rfl, ?_⟩
      replace c1' := hg.cell c1'
      replace c3' := hg.cell c3'
      replace hB := hB.more hg
      clear hg
      refine hK.out _ _ ⟨c3', c1'⟩ (fun _ => ?_)
      clear hK K
      simp only [Act.put, List.setIfInBounds_toArray, List.set_cons_zero, List.set_cons_succ, List.getElem_toArray, List.getElem_cons_zero, List.getElem_cons_succ]
      refine any_take (i := 9) (v := (.int .u32 (xr (tn x2 7) (tn x2 18)))) #[true, true, true, true, true, true, true, true, true, false, true, true, false, false, true, true, true, true, false, true, false, true, false, false, true, true, false, false, false, false] rfl (by kernel_rfl) (by kernel_rfl) (by kernel_rfl) (by kernel_rfl) (fun c a_ w_ h => hpan c _ _ _ w_ h) (.inl ⟨by kernel_rfl, fun x_ hu => by kernel_rfl⟩) ⟨c3', c1'⟩ ?_
      simp only [Act.put, List.setIfInBounds_toArray, List.set_cons_zero, List.set_cons_succ, List.getElem_toArray, List.getElem_cons_zero, List.getElem_cons_succ]
      refine any_take (i := 12) (v := (.int .u32 (xr (xr (tn x2 7) (tn x2 18)) (x2 / 2 ^ 3)))) #[true, true, true, true, true, true, true, true, true, true, true, true, false, false, true, true, true, true, false, true, false, true, false, false, true, true, false, false, false, false] rfl (by kernel_rfl) (by kernel_rfl) (by kernel_rfl) (by kernel_rfl) (fun c a_ w_ h => hpan c _ _ _ w_ h) (.inl ⟨by kernel_rfl, fun x_ hu => by kernel_rfl⟩) ⟨c3', c1'⟩ ?_
      simp only [Act.put, List.setIfInBounds_toArray, List.set_cons_zero, List.set_cons_succ, List.getElem_toArray, List.getElem_cons_zero, List.getElem_cons_succ]
      refine any_take (i := 13) (v := (.int .u32 (ad x3 (xr (xr (tn x2 7) (tn x2 18)) (x2 / 2 ^ 3))))) #[true, true, true, true, true, true, true, true, true, true, true, true, true, false, true, true, true, true, false, true, false, true, false, false, true, true, false, false, false, false] rfl (by kernel_rfl) (by kernel_rfl) (by kernel_rfl) (by kernel_rfl) (fun c a_ w_ h => hpan c _ _ _ w_ h) (.inl ⟨by kernel_rfl, fun x_ hu => by kernel_rfl⟩) ⟨c3', c1'⟩ ?_
      simp only [Act.put, List.setIfInBounds_toArray, List.set_cons_zero, List.set_cons_succ, List.getElem_toArray, List.getElem_cons_zero, List.getElem_cons_succ]
      refine any_take (i := 18) (v := (.int .u32 (ad (ad x3 (xr (xr (tn x2 7) (tn x2 18)) (x2 / 2 ^ 3))) x1))) #[true, true, true, true, true, true, true, true, true, true, true, true, true, true, true, true, true, true, false, true, false, true, false, false, true, true, false, false, false, false] rfl (by kernel_rfl) (by kernel_rfl) (by kernel_rfl) (by kernel_rfl) (fun c a_ w_ h => hpan c _ _ _ w_ h) (.inl ⟨by kernel_rfl, fun x_ hu => by kernel_rfl⟩) ⟨c3', c1'⟩ ?_
      simp only [Act.put, List.setIfInBounds_toArray, List.set_cons_zero, List.set_cons_succ, List.getElem_toArray, List.getElem_cons_zero, List.getElem_cons_succ]
      refine any_one (i := 20) (by kernel_rfl) rfl (fun K hK => ?_)
      refine step_callw (by kernel_rfl) 40 #[.int .u32 x0, .int .i64 17] (by kernel_rfl) ((right_gr x0 17 (by omega) _).mono ?_)
      rintro r v3_ ⟨rfl, hg⟩
      refine ⟨_, rfl, ?_⟩
      replace c1' := hg.cell c1'
      replace c3' := hg.cell c3'
      replace hB := hB.more hg
      clear hg
      refine hK.out _ _ ⟨c3', c1'⟩ (fun _ => ?_)
      clear hK K
      simp only [Act.put, List.setIfInBounds_toArray, List.set_cons_zero, List.set_cons_succ, List.getElem_toArray, List.getElem_cons_zero, List.getElem_cons_succ]
      refine any_one (i := 22) (by kernel_rfl) rfl (fun K hK => ?_)
      refine step_callw (by kernel_rfl) 40 #[.int .u32 x0, .int .i64 19] (by kernel_rfl) ((right_gr x0 19 (by omega) _).mono ?_)
      rintro r v4_ ⟨rfl, hg⟩
      refine ⟨_, rfl, ?_⟩
      replace c1' := hg.cell c1'
      replace c3' := hg.cell c3'
      replace hB := hB.more hg
      clear hg
      refine hK.out _ _ ⟨c3', c1'⟩ (fun _ => ?_)
      clear hK K
      simp only [Act.put, List.setIfInBounds_toArray, List.set_cons_zero, List.set_cons_succ, List.getElem_toArray, List.getElem_cons_zero, List.getElem_cons_succ]
      refine any_take (i := 23) (v := (.int .u32 (xr (tn x0 17) (tn x0 19)))) #[true, true, true, true, true, true, true, true, true, true, true, true, true, true, true, true, true, true, true, true, true, true, true, false, true, true, false, false, false, false] rfl (by kernel_rfl) (by kernel_rfl) (by kernel_rfl) (by kernel_rfl) (fun c a_ w_ h => hpan c _ _ _ w_ h) (.inl ⟨by kernel_rfl, fun x_ hu => by kernel_rfl⟩) ⟨c3', c1'⟩ ?_
      simp only [Act.put, List.setIfInBounds_toArray, List.set_cons_zero, List.set_cons_succ, List.getElem_toArray, List.getElem_cons_zero, List.getElem_cons_succ]
      refine any_take (i := 26) (v := (.int .u32 (xr (xr (tn x0 17) (tn x0 19)) (x0 / 2 ^ 10)))) #[true, true, true, true, true, true, true, true, true, true, true, true, true, true, true, true, true, true, true, true, true, true, true, true, true, true, false, false, false, false] rfl (by kernel_rfl) (by kernel_rfl) (by kernel_rfl) (by kernel_rfl) (fun c a_ w_ h => hpan c _ _ _ w_ h) (.inl ⟨by kernel_rfl, fun x_ hu => by kernel_rfl⟩) ⟨c3', c1'⟩ ?_
      simp only [Act.put, List.setIfInBounds_toArray, List.set_cons_zero, List.set_cons_succ, List.getElem_toArray, List.getElem_cons_zero, List.getElem_cons_succ]
      refine any_take (i := 27) (v := (.int .u32 (ad (ad (ad x3 (xr (xr (tn x2 7) (tn x2 18)) (x2 / 2 ^ 3))) x1) (xr (xr (tn x0 17) (tn x0 19)) (x0 / 2 ^ 10))))) #[true, true, true, true, true, true, true, true, true, true, true, true, true, true, true, true, true, true, true, true, true, true, true, true, true, true, true, false, false, false] rfl (by kernel_rfl) (by kernel_rfl) (by kernel_rfl) (by kernel_rfl) (fun c a_ w_ h => hpan c _ _ _ w_ h) (.inl ⟨by kernel_rfl, fun x_ hu => by kernel_rfl⟩) ⟨c3', c1'⟩ ?_
      simp only [Act.put, List.setIfInBounds_toArray, List.set_cons_zero, List.set_cons_succ, List.getElem_toArray, List.getElem_cons_zero, List.getElem_cons_succ]
      refine any_take (i := 28) (v := (.pointer (some ⟨gw, n, none⟩))) #[true, true, true, true, true, true, true, true, true, true, true, true, true, true, true, true, true, true, true, true, true, true, true, true, true, true, true, true, false, false] rfl (by kernel_rfl) (by kernel_rfl) (by kernel_rfl) (by kernel_rfl) (fun c a_ w_ h => hpan c _ _ _ w_ h) (.inl ⟨by kernel_rfl, fun x_ hu => by go_simp⟩) ⟨c3', c1'⟩ ?_
      simp only [Act.put, List.setIfInBounds_toArray, List.set_cons_zero, List.set_cons_succ, List.getElem_toArray, List.getElem_cons_zero, List.getElem_cons_succ]
      refine any_one (i := 29) (by kernel_rfl) rfl (fun K hK => ?_)
      have c4' := uc_cell (hB.get 4 (x := ⟨gw, uc m, 64⟩) rfl) n (by omega)
      have f4 := froz_of (i := n) (hB.get 4 (x := ⟨gw, uc m, 64⟩) rfl)
      obtain ⟨V, hV⟩ : ∃ V, V = (ad (ad (ad x3 (xr (xr (tn x2 7) (tn x2 18)) (x2 / 2 ^ 3))) x1) (xr (xr (tn x0 17) (tn x0 19)) (x0 / 2 ^ 10))) := ⟨_, rfl⟩
      have hB2 := hB.cell 4 (x := ⟨gw, uc m, 64⟩) rfl n (.int .u32 V)
      simp only [List.set_cons_zero, List.set_cons_succ, uc_set] at hB2
      have k1 := uc_cell (hB2.get 4 (x := ⟨gw, uc (m.set n V), 64⟩) rfl) q1 (by rw [List.length_set]; omega)
      have k3 := uc_cell (hB2.get 4 (x := ⟨gw, uc (m.set n V), 64⟩) rfl) q3 (by rw [List.length_set]; omega)
      rw [getD_set _ _ _ _ (by omega), if_neg (by have := unhide hq1; omega), ← unhide hx1] at k1
      rw [getD_set _ _ _ _ (by omega), if_neg (by have := unhide hq3; omega), ← unhide hx3] at k3
      rw [← hV]
      replace hK := hide hK
      replace hB2 := hide hB2
      replace hV := hide hV
      go_simp
      refine (unhide hK).out _ _ ⟨k3, k1⟩ (fun _ => ?_)
      clear hK K
      refine any_done (by kernel_rfl) ?_
      try simp only [Act.put, List.setIfInBounds_toArray, List.set_cons_zero, List.set_cons_succ, List.getElem_toArray, List.getElem_cons_zero, List.getElem_cons_succ]
      have hm3 : Hid (m.set n V = W12 D (n + 1)) := by
        rw [← unhide hm2, unhide hV]
        congr 1
        simp only [ad_eq, sg0, sg1]
        omega
      generalize World.setCell _ _ _ = v9 at *
      clear k1 k3 c4' f4 c1' c3' hB
      go_wp2_with fail
      go_roundw
      case rel => exact ⟨n + 1, _, by omega, by go_num, hm3, hB2⟩
      case measure => simp [intOf]; omega
  · have e : n = 64 := by omega
    subst e
    clear hil
    have hr0 : m = wds D := (unhide hm).trans (W12_all D)
    have hB3 : Hid (Bl w [b0, b1, b2, b3, ⟨gw, uc (wds D), 64⟩] wr) := by rw [← hr0]; exact hB
    clear hB hm hr0 hAt
    go_wp2_with fail
    exact (unhide hQ) _ _ _ _ _ _ _ _ _ _ _ _ _ _ _ _ _ _ _ _ _ _ _ _ _ _ _ _ _ _ _ _ _ _ _ _ _ _ _ _ _ _ _ _ _ _ _ _ _ _ _ _ _ _ _ _ _ _ _ _ _ _ _ _ _ _ _ _ _ _ _ _ _ _ _ _ _ _ _ _ _ _ (unhide hB3)
end Go.Proofs.YthnmebhljkccnaaDoor
