/-
  The reference: what the steps made is added; the state as bytes.
-/
import Derived.Test.YthnmebhljkccnaaDoorShaRsteps
namespace Go.Proofs.YthnmebhljkccnaaDoor
open Go.RowKit
set_option maxRecDepth 1000000
set_option linter.unusedSimpArgs false
set_option linter.unusedVariables false


set_option maxHeartbeats 1000000 in
theorem radds_loop (w : World) (s t : List Int) (hs : s.length = 8) (ht : t.length = 8) (b0 b1 b2 b4 : Blk) (gs gt : Nat) (Q : Exit → Act → World → Prop) (v : World)
    (hB : Bl w [b0, b1, b2, ⟨gs, uc s, 67⟩, b4, ⟨gt, uc t, 67⟩] v) (c0 c1 c2 c3 c5 c6 c7 c8 c10 c11 c12 c13 c14 c15 c16 c17 c18 c19 c20 c21 c22 c23 c24 c25 c26 c27 c28 c29 c30 c31 c32 c33 c34 c35 c36 c37 c38 c39 c40 c41 c42 c43 c44 c45 c46 c47 c48 c49 c50 c51 c52 c53 c54 c55 c56 c57 c58 c59 c60 c61 c62 c63 c64 c65 c66 c67 c68 c69 c70 c71 c72 c73 c74 c75 c76 c77 c78 c79 c80 c81 c82 c83 c84 c85 c86 c87 c88 c89 c90 c91 c92 c93 c94 c95 c96 c97 c98 c99 c100 c101 c102 c103 c104 c105 c106 c107 c108 c109 c110 c111 c112 c113 c114 c115 c116 c117 c118 c119 c120 c121 c122 c123 c124 c125 c126 c127 c128 c129 c130 c131 c132 c133 c134 c135 c136 c137 c138 c139 c140 c141 c142 c143 c144 c145 c146 c147 c148 c149 c150 c151 c152 c153 c154 c155 c156 c157 c158 c159 c160 c161 c162 c163 c164 c165 c166 c167 c168 c169 c170 c171 c172 c173 c174 c175 c176 c177 c178 c179 c180 c181 c182 c183 c184 c185 c186 c187 c188 c189 c190 c191 c192 c194 c195 c196 c197 c198 c199 c200 c201 c202 c203 c204 c205 c206 c207 c208 c209 c210 c211 c212 c213 c214 c215 c216 c217 c218 c219 c220 c221 c222 c223 c224 c225 c226 : Value)
    (hQ : ∀ (u15 u193 u194 u195 u196 u197 u198 u199 u200 u201 u202 u203 u204 : Value) (v' : World), Bl w [b0, b1, b2, ⟨gs, uc (SA s t 8), 67⟩, b4, ⟨gt, uc t, 67⟩] v' → Q (.exit 6) ⟨#[c0, c1, c2, c3, .pointer (some ⟨gs, 0, none⟩), c5, c6, c7, c8, .pointer (some ⟨gt, 0, none⟩), c10, c11, c12, c13, c14, u15, c16, c17, c18, c19, c20, c21, c22, c23, c24, c25, c26, c27, c28, c29, c30, c31, c32, c33, c34, c35, c36, c37, c38, c39, c40, c41, c42, c43, c44, c45, c46, c47, c48, c49, c50, c51, c52, c53, c54, c55, c56, c57, c58, c59, c60, c61, c62, c63, c64, c65, c66, c67, c68, c69, c70, c71, c72, c73, c74, c75, c76, c77, c78, c79, c80, c81, c82, c83, c84, c85, c86, c87, c88, c89, c90, c91, c92, c93, c94, c95, c96, c97, c98, c99, c100, c101, c102, c103, c104, c105, c106, c107, c108, c109, c110, c111, c112, c113, c114, c115, c116, c117, c118, c119, c120, c121, c122, c123, c124, c125, c126, c127, c128, c129, c130, c131, c132, c133, c134, c135, c136, c137, c138, c139, c140, c141, c142, c143, c144, c145, c146, c147, c148, c149, c150, c151, c152, c153, c154, c155, c156, c157, c158, c159, c160, c161, c162, c163, c164, c165, c166, c167, c168, c169, c170, c171, c172, c173, c174, c175, c176, c177, c178, c179, c180, c181, c182, c183, c184, c185, c186, c187, c188, c189, c190, c191, c192, u193, u194, u195, u196, u197, u198, u199, u200, u201, u202, u203, u204, c205, c206, c207, c208, c209, c210, c211, c212, c213, c214, c215, c216, c217, c218, c219, c220, c221, c222, c223, c224, c225, c226], []⟩ v') :
    Code.wp Tryd.prog (.loop (lp 3)) Q ⟨#[c0, c1, c2, c3, .pointer (some ⟨gs, 0, none⟩), c5, c6, c7, c8, .pointer (some ⟨gt, 0, none⟩), c10, c11, c12, c13, c14, c15, c16, c17, c18, c19, c20, c21, c22, c23, c24, c25, c26, c27, c28, c29, c30, c31, c32, c33, c34, c35, c36, c37, c38, c39, c40, c41, c42, c43, c44, c45, c46, c47, c48, c49, c50, c51, c52, c53, c54, c55, c56, c57, c58, c59, c60, c61, c62, c63, c64, c65, c66, c67, c68, c69, c70, c71, c72, c73, c74, c75, c76, c77, c78, c79, c80, c81, c82, c83, c84, c85, c86, c87, c88, c89, c90, c91, c92, c93, c94, c95, c96, c97, c98, c99, c100, c101, c102, c103, c104, c105, c106, c107, c108, c109, c110, c111, c112, c113, c114, c115, c116, c117, c118, c119, c120, c121, c122, c123, c124, c125, c126, c127, c128, c129, c130, c131, c132, c133, c134, c135, c136, c137, c138, c139, c140, c141, c142, c143, c144, c145, c146, c147, c148, c149, c150, c151, c152, c153, c154, c155, c156, c157, c158, c159, c160, c161, c162, c163, c164, c165, c166, c167, c168, c169, c170, c171, c172, c173, c174, c175, c176, c177, c178, c179, c180, c181, c182, c183, c184, c185, c186, c187, c188, c189, c190, c191, c192, .int .i64 0, c194, c195, c196, c197, c198, c199, c200, c201, c202, c203, c204, c205, c206, c207, c208, c209, c210, c211, c212, c213, c214, c215, c216, c217, c218, c219, c220, c221, c222, c223, c224, c225, c226], []⟩ v := by
  conv => arg 2; arg 1; whnf
  dsimp only
  dsimp only at hQ
  replace hB : Hid (Bl w [b0, b1, b2, ⟨gs, uc (SA s t 0), 67⟩, b4, ⟨gt, uc t, 67⟩] v) := hB
  replace hQ := hide hQ
  go_loopw [193] (fun i wr => ∃ n : Nat, ∃ m : List Int, n ≤ 8 ∧ i = .int .i64 n ∧ Hid (m = SA s t n) ∧ Hid (Bl w [b0, b1, b2, ⟨gs, uc m, 67⟩, b4, ⟨gt, uc t, 67⟩] wr)) (fun i _ => 8 - (intOf i).toNat)
  case atStart => exact ⟨0, SA s t 0, by omega, rfl, rfl, hB⟩
  case round =>
  clear hB
  obtain ⟨n, m, hn, rfl, hm, hB⟩ := hrel
  have hml : m.length = 8 := by rw [unhide hm, SA_len, hs]
  by_cases hil : n < 8
  · have nI : (n : Int) < 8 := by omega
    have nJ : 0 ≤ (n : Int) ∧ (n : Int) < 8 := by omega
    have cs := uc_cell ((unhide hB).get 3 (x := ⟨gs, uc m, 67⟩) rfl) n (by omega)
    have fs := froz_of (i := n) ((unhide hB).get 3 (x := ⟨gs, uc m, 67⟩) rfl)
    have ct := uc_cell ((unhide hB).get 5 (x := ⟨gt, uc t, 67⟩) rfl) n (by omega)
    have hm2 : Hid (m.set n ((m.getD n 0 + t.getD n 0) % 4294967296) = SA s t (n + 1)) := by
      rw [unhide hm, SA, ad_eq]
      exact rfl
    have hB2 := (unhide hB).drew.cell 3 (x := ⟨gs, uc m, 67⟩) rfl n (.int .u32 ((m.getD n 0 + t.getD n 0) % 4294967296))
    simp only [List.set_cons_zero, List.set_cons_succ, uc_set] at hB2
    replace hB2 := hide hB2
    generalize m.getD n 0 = x at *
    generalize t.getD n 0 = y at *
    go_wp2_with fail
    go_still_tail 8, (by kernel_rfl)
    go_wp2_with fail
    go_roundw
    case rel => exact ⟨n + 1, _, by omega, by go_num, hm2, hB2⟩
    case measure => simp [intOf]; omega
  · have e : n = 8 := by omega
    subst e
    clear hil
    have hB3 : Hid (Bl w [b0, b1, b2, ⟨gs, uc (SA s t 8), 67⟩, b4, ⟨gt, uc t, 67⟩] wr) := by rw [← unhide hm]; exact hB
    clear hB hm
    go_wp2_with fail
    exact (unhide hQ) _ _ _ _ _ _ _ _ _ _ _ _ _ _ (unhide hB3)

set_option maxHeartbeats 1000000 in
theorem rkey_loop (w : World) (s : List Int) (SS : Array Value) (hSS : Hid (SS = uc s)) (hs : s.length = 8) (b0 b1 b2 b3 : Blk) (go : Nat) (Q : Exit → Act → World → Prop) (v : World)
    (hB : Bl w [b0, b1, b2, b3, ⟨go, kc Z32, 28⟩] v) (c0 c1 c2 c3 c4 c5 c6 c7 c8 c9 c10 c11 c12 c13 c14 c15 c17 c18 c19 c20 c21 c22 c23 c24 c25 c26 c27 c28 c29 c30 c31 c32 c33 c34 c35 c36 c37 c38 c39 c40 c41 c42 c43 c44 c45 c46 c47 c48 c49 c50 c51 c52 c53 c54 c55 c56 c57 c58 c59 c60 c61 c62 c63 c64 c65 c66 c67 c68 c69 c70 c71 c72 c73 c74 c75 c76 c77 c78 c79 c80 c81 c82 c83 c84 c85 c86 c87 c88 c89 c90 c91 c92 c93 c94 c95 c96 c97 c98 c99 c100 c101 c102 c103 c104 c105 c106 c107 c108 c109 c110 c111 c112 c113 c114 c115 c116 c117 c118 c119 c120 c121 c122 c123 c124 c125 c126 c127 c128 c129 c130 c131 c132 c133 c134 c135 c136 c137 c138 c139 c140 c141 c142 c143 c144 c145 c146 c147 c148 c149 c150 c151 c152 c153 c154 c155 c156 c157 c158 c159 c160 c161 c162 c163 c164 c165 c166 c167 c168 c169 c170 c171 c172 c173 c174 c175 c176 c177 c178 c179 c180 c181 c182 c183 c184 c185 c186 c187 c188 c189 c190 c191 c192 c193 c194 c195 c196 c197 c198 c199 c200 c201 c202 c203 c204 c207 c208 c209 c210 c211 c212 c213 c214 c215 c216 c217 c218 c219 c220 c221 c222 c223 c224 c225 c226 : Value)
    (hQ : ∀ (u17 u18 u19 u206 u207 u208 u209 u210 u211 u212 u213 u214 u215 u216 u217 u218 u219 u220 u221 u222 u223 u224 u225 : Value) (v' : World), Bl w [b0, b1, b2, b3, ⟨go, kc (keyL s), 28⟩] v' → Q (.exit 8) ⟨#[c0, c1, c2, c3, c4, c5, c6, c7, c8, c9, c10, c11, c12, c13, c14, c15, .pointer (some ⟨go, 0, none⟩), u17, u18, u19, c20, c21, c22, c23, c24, c25, c26, c27, c28, c29, c30, c31, c32, c33, c34, c35, c36, c37, c38, c39, c40, c41, c42, c43, c44, c45, c46, c47, c48, c49, c50, c51, c52, c53, c54, c55, c56, c57, c58, c59, c60, c61, c62, c63, c64, c65, c66, c67, c68, c69, c70, c71, c72, c73, c74, c75, c76, c77, c78, c79, c80, c81, c82, c83, c84, c85, c86, c87, c88, c89, c90, c91, c92, c93, c94, c95, c96, c97, c98, c99, c100, c101, c102, c103, c104, c105, c106, c107, c108, c109, c110, c111, c112, c113, c114, c115, c116, c117, c118, c119, c120, c121, c122, c123, c124, c125, c126, c127, c128, c129, c130, c131, c132, c133, c134, c135, c136, c137, c138, c139, c140, c141, c142, c143, c144, c145, c146, c147, c148, c149, c150, c151, c152, c153, c154, c155, c156, c157, c158, c159, c160, c161, c162, c163, c164, c165, c166, c167, c168, c169, c170, c171, c172, c173, c174, c175, c176, c177, c178, c179, c180, c181, c182, c183, c184, c185, c186, c187, c188, c189, c190, c191, c192, c193, c194, c195, c196, c197, c198, c199, c200, c201, c202, c203, c204, .agg SS, u206, u207, u208, u209, u210, u211, u212, u213, u214, u215, u216, u217, u218, u219, u220, u221, u222, u223, u224, u225, c226], []⟩ v') :
    Code.wp Tryd.prog (.loop (lp 4)) Q ⟨#[c0, c1, c2, c3, c4, c5, c6, c7, c8, c9, c10, c11, c12, c13, c14, c15, .pointer (some ⟨go, 0, none⟩), c17, c18, c19, c20, c21, c22, c23, c24, c25, c26, c27, c28, c29, c30, c31, c32, c33, c34, c35, c36, c37, c38, c39, c40, c41, c42, c43, c44, c45, c46, c47, c48, c49, c50, c51, c52, c53, c54, c55, c56, c57, c58, c59, c60, c61, c62, c63, c64, c65, c66, c67, c68, c69, c70, c71, c72, c73, c74, c75, c76, c77, c78, c79, c80, c81, c82, c83, c84, c85, c86, c87, c88, c89, c90, c91, c92, c93, c94, c95, c96, c97, c98, c99, c100, c101, c102, c103, c104, c105, c106, c107, c108, c109, c110, c111, c112, c113, c114, c115, c116, c117, c118, c119, c120, c121, c122, c123, c124, c125, c126, c127, c128, c129, c130, c131, c132, c133, c134, c135, c136, c137, c138, c139, c140, c141, c142, c143, c144, c145, c146, c147, c148, c149, c150, c151, c152, c153, c154, c155, c156, c157, c158, c159, c160, c161, c162, c163, c164, c165, c166, c167, c168, c169, c170, c171, c172, c173, c174, c175, c176, c177, c178, c179, c180, c181, c182, c183, c184, c185, c186, c187, c188, c189, c190, c191, c192, c193, c194, c195, c196, c197, c198, c199, c200, c201, c202, c203, c204, .agg SS, .int .i64 0, c207, c208, c209, c210, c211, c212, c213, c214, c215, c216, c217, c218, c219, c220, c221, c222, c223, c224, c225, c226], []⟩ v := by
  conv => arg 2; arg 1; whnf
  dsimp only
  dsimp only at hQ
  replace hB : Hid (Bl w [b0, b1, b2, b3, ⟨go, kc (KY s 0), 28⟩] v) := hB
  replace hQ := hide hQ
  go_loopw [206] (fun i wr => ∃ n : Nat, ∃ m : List Int, n ≤ 8 ∧ i = .int .i64 n ∧ Hid (m = KY s n) ∧ Hid (Bl w [b0, b1, b2, b3, ⟨go, kc m, 28⟩] wr)) (fun i _ => 8 - (intOf i).toNat)
  case atStart => exact ⟨0, KY s 0, by omega, rfl, rfl, hB⟩
  case round =>
  clear hB
  obtain ⟨n, m, hn, rfl, hm, hB⟩ := hrel
  by_cases hil : n < 8
  · have nI : (n : Int) < 8 := by omega
    have nJ : 0 ≤ (n : Int) ∧ (n : Int) < 8 := by omega
    have hx : (Instr.index 67 (.agg SS) (.int .i64 n)).run Tryd.prog wr = .ok (.int .u32 (s.getD n 0)) wr := index_u32 SS n _ hil (by rw [unhide hSS]; exact uc_get s n (by omega)) wr
    have hB0 : Hid (Bl w [b0, b1, b2, b3, ⟨go, kc (KZ s n 0), 28⟩] wr) := by have := unhide hB; rw [unhide hm] at this; exact this
    clear hB hm
    obtain ⟨x, hx0⟩ : ∃ x, x = s.getD n 0 := ⟨_, rfl⟩
    rw [← hx0] at hx
    replace hx0 := hide hx0
    go_wp2_with fail
    go_loopw [210] (fun i wr => ∃ r : Nat, ∃ m : List Int, r ≤ 4 ∧ i = .int .i64 r ∧ Hid (m = KZ s n r) ∧ Hid (Bl w [b0, b1, b2, b3, ⟨go, kc m, 28⟩] wr)) (fun i _ => 4 - (intOf i).toNat)
    case atStart => exact ⟨0, KZ s n 0, by omega, rfl, rfl, hB0⟩
    case round =>
    clear hB0 hx
    obtain ⟨r, m, hr, rfl, hm, hB⟩ := hrel
    have hml : m.length = 32 := by rw [unhide hm]; exact KZ_len s n r
    by_cases hrl : r < 4
    · obtain ⟨q, hq⟩ : ∃ q, q = 4 * n + r := ⟨_, rfl⟩
      obtain ⟨sh, hsh⟩ : ∃ sh, sh = 24 - 8 * r := ⟨_, rfl⟩
      have r1 : (r : Int) < 4 := by omega
      have e0 : 4 * (n : Int) + (r : Int) = (q : Int) := by omega
      have e3 : IntKind.i64.wrap (4 * (n : Int)) = 4 * (n : Int) := by rw [IntKind.wrap_i64]; omega
      have e4 : IntKind.i64.wrap (q : Int) = (q : Int) := by rw [IntKind.wrap_i64]; omega
      have e5 : IntKind.i64.wrap (8 * (r : Int)) = 8 * (r : Int) := by rw [IntKind.wrap_i64]; omega
      have e6 : 24 - 8 * (r : Int) = (sh : Int) := by omega
      have e7 : IntKind.i64.wrap (sh : Int) = (sh : Int) := by rw [IntKind.wrap_i64]; omega
      have l0 : 0 ≤ (q : Int) ∧ (q : Int) < 32 := by omega
      have l1 : q < 32 := by omega
      have l2 : 0 ≤ (sh : Int) := by omega
      have l3 : (sh : Int) < 32 := by omega
      have cs := kc_cell ((unhide hB).get 4 (x := ⟨go, kc m, 28⟩) rfl) q (by omega)
      have fs := froz_of (i := q) ((unhide hB).get 4 (x := ⟨go, kc m, 28⟩) rfl)
      have hm2 : Hid (m.set q (x / 2 ^ sh % 256) = KZ s n (r + 1)) := by
        have h1 : KZ s n (r + 1) = (KZ s n r).set (4 * n + r) (yn (s.getD n 0) r) := rfl
        rw [h1, hq, hsh, unhide hm, ← unhide hx0]
        exact rfl
      have hw8 : IntKind.u8.wrap (x / 2 ^ sh) = x / 2 ^ sh % 256 := by rw [IntKind.wrap_u8']
      have hB2 := (unhide hB).cell 4 (x := ⟨go, kc m, 28⟩) rfl q (.int .u8 (x / 2 ^ sh % 256))
      simp only [List.set_cons_zero, List.set_cons_succ, kc_set] at hB2
      replace hB2 := hide hB2
      generalize m.getD q 0 = y at *
      replace hq := hide hq
      replace hsh := hide hsh
      go_wp2_with fail
      go_roundw
      case rel => exact ⟨r + 1, _, by omega, by go_num, hm2, hB2⟩
      case measure => simp [intOf]; omega
    · have e : r = 4 := by omega
      subst e
      clear hrl
      have hB3 : Hid (Bl w [b0, b1, b2, b3, ⟨go, kc m, 28⟩] wr) := hB
      have hm3 : Hid (m = KY s (n + 1)) := (unhide hm).trans (KZ_all s n)
      clear hB hm
      go_wp2_with fail
      go_roundw
      case rel => exact ⟨n + 1, _, by omega, by go_num, hm3, hB3⟩
      case measure => simp [intOf]; omega
  · have e : n = 8 := by omega
    subst e
    clear hil
    have hB3 : Hid (Bl w [b0, b1, b2, b3, ⟨go, kc (keyL s), 28⟩] wr) := by have := unhide hB; rw [unhide hm] at this; exact this
    clear hB hm
    go_wp2_with fail
    exact (unhide hQ) _ _ _ _ _ _ _ _ _ _ _ _ _ _ _ _ _ _ _ _ _ _ _ _ (unhide hB3)
end Go.Proofs.YthnmebhljkccnaaDoor
