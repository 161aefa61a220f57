/-
  Each sector holds something that it held: the inner loop of DiskSafe.
-/
import Derived.Test.YthgchjdjacbcgaaDkU
namespace Go.Proofs.Ythgchjdjacbcgaa
open Go.RowKit
set_option maxRecDepth 100000
set_option linter.unusedSimpArgs false
set_option linter.unusedVariables false
/-- the code from a region on -/
def fromReg (r : Nat) : Code → Option Code
  | .seq (.region i ops d) b => if i = r then some (.seq (.region i ops d) b) else fromReg r b
  | .seq a b => (fromReg r a).orElse fun _ => fromReg r b
  | .cond _ a b => (fromReg r a).orElse fun _ => fromReg r b
  | .loop c => fromReg r c
  | .block _ c => fromReg r c
  | .scope c => fromReg r c
  | _ => none
noncomputable def inCode : Code := ((Try.f6.body).bind (fromReg 28)).getD .skip
noncomputable def rndCode : Code := ((Try.f6.body).bind (fromReg 27)).getD .skip
theorem wp_code_eq {P : Program} {c c' : Code} {Q : Exit → Act → World → Prop} {a : Act} {w : World} (h : c' = c) (k : c.wp P Q a w) : c'.wp P Q a w := h ▸ k
theorem exec_eqB2 {a : Act} {o : Oper} (w : World) (x y : Operand) (ho : o.op = .binOp .eql 39 x y 39) (b c : List Int) (hb : b.length = 64) (hc : c.length = 64) (hx : a.eval x = .agg (kc b)) (hy : a.eval y = .agg (kc c)) : (execOp a.eval o).run Try.prog w = .ok (.value (.bool (decide (b = c)))) w := by
  have h1 := eq_B b c hb hc w
  unfold execOp
  simp only [ho, hx, hy]
  go_simp
/-- does sector i hold something that it held? as far as the first k pending writes tell -/
def fnB (D : Dk) (keep : List Bool) (i : Nat) : Nat → Bool
  | 0 => decide ((D.crashD keep).readB (i : Int) = (D.crashD []).readB (i : Int))
  | k + 1 => fnB D keep i k || (decide ((D.pend.getD k (0, [])).1 = i) && decide ((D.crashD keep).readB (i : Int) = (D.crashD (oneL k)).readB (i : Int)))
theorem fnB_of (D : Dk) (keep : List Bool) (i : Nat) : ∀ (K k : Nat), k < K → (D.pend.getD k (0, [])).1 = i → (D.crashD keep).readB (i : Int) = (D.crashD (oneL k)).readB (i : Int) → fnB D keep i K = true
  | 0, _, h, _, _ => absurd h (Nat.not_lt_zero _)
  | K + 1, k, h, h1, h2 => by
    unfold fnB
    by_cases e : k = K
    · subst e
      rw [decide_eq_true h1, decide_eq_true h2]
      simp
    · rw [fnB_of D keep i K k (by omega) h1 h2]
      rfl
theorem fnB_zero (D : Dk) (keep : List Bool) (i : Nat) (h : fnB D keep i 0 = true) : ∀ K, fnB D keep i K = true
  | 0 => h
  | K + 1 => by
    unfold fnB
    rw [fnB_zero D keep i h K]
    rfl
theorem fnB_all {D : Dk} (hP : ∀ x ∈ D.pend, x.1 < D.safe.length) (keep : List Bool) (i : Nat) (hi : i < D.safe.length) : fnB D keep i D.pend.length = true := by
  rcases crash_some hP keep i hi with h | ⟨k, h1, h2, h3⟩
  · exact fnB_zero D keep i (by unfold fnB; simp [h]) _
  · exact fnB_of D keep i _ k h1 h2 h3
theorem held_at {D : Dk} (i : Nat) (hi : i < D.safe.length) : (heldL D).getD i [] = D.readB (i : Int) := by
  unfold heldL heldN
  rw [List.getD_eq_getElem?_getD, List.getElem?_map, List.getElem?_range hi]
  rfl
theorem oneL_len (k : Nat) : (oneL k).length = k + 1 := by unfold oneL; simp
set_option maxHeartbeats 4000000 in
theorem safe_in (v0 : World) (D : Dk) (m : Nat) (hDk : D.Ok m) (hm : m ≤ 1000) (h6 : D.safe.length = 6) (keep : List Bool) (i : Nat) (hi : i < 6) (gt : Nat) (Ft : List Nat) (hL : Lies Ft gt D v0) (pn : Nat) (hpn : pn = D.pend.length) (pv : Option Addr) (cv : Nat) (hp : Ls 1 v0 pv pn cv (iv (D.pend.map fun x => (x.1 : Int)))) (sa : Option Addr) (sc : Nat) (hg : Ls 64 v0 sa 6 sc ((heldL (D.crashD keep)).map bv)) (v : World) (hv : Gr v0 v)
    (Q : Exit → Act → World → Prop) (hpan : ∀ c t t' d w, Q (.panic c) ⟨t, d⟩ w → Q (.panic c) ⟨t', d⟩ w) (c0 c1 c2 c3 c4 c5 c6 c7 c8 c9 c10 c11 c14 c18 c19 c20 c21 c22 c23 c24 c25 c26 c27 c28 c29 c30 c31 c32 c33 c34 c35 c36 c37 c38 c39 c40 c41 c42 c43 c44 c45 c46 c47 c48 c49 c50 c51 c52 c53 c54 c55 c56 c57 c58 c59 c60 c61 c62 c63 c64 c65 c66 c67 c68 c69 c70 c71 c72 c73 c74 c75 c76 c77 c78 c79 c80 c81 c82 c83 c84 c85 c86 c87 c88 c89 c90 c91 c92 c93 c94 c95 c96 c97 c98 c99 c100 c101 c102 c103 c104 c105 c106 c107 c108 c109 c110 c111 c112 c113 c114 c115 c116 c117 c118 c119 c120 c121 c122 c123 c124 c125 c126 c127 c128 c129 c130 c131 c132 c133 c134 c135 c136 c137 c138 c139 c140 c141 c142 c143 c144 c145 c146 c147 c148 c149 c150 c151 c152 c153 c154 c155 c156 c157 c158 c159 c160 c161 c162 : Value)
    (hQ : ∀ (u18 u19 u20 u21 u22 u111 u112 u113 u114 u115 u116 u117 u118 u119 u120 u121 u122 u123 u124 u125 u126 u127 u128 u129 u130 u131 u132 u133 u134 u135 u136 u137 u138 u139 u140 u141 u142 u143 u144 u145 u146 u147 u148 u149 u150 : Value) (w' : World), Gr v0 w' → Q .normal ⟨#[c0, c1, c2, c3, c4, c5, c6, c7, c8, c9, c10, c11, .slice pv pn cv, .pointer (some ⟨gt, 0, none⟩), c14, .slice sa 6 sc, .int .i64 (i : Int), .bool true, u18, u19, u20, u21, u22, c23, c24, c25, c26, c27, c28, c29, c30, c31, c32, c33, c34, c35, c36, c37, c38, c39, c40, c41, c42, c43, c44, c45, c46, c47, c48, c49, c50, c51, c52, c53, c54, c55, c56, c57, c58, c59, c60, c61, c62, c63, c64, c65, c66, c67, c68, c69, c70, c71, c72, c73, c74, c75, c76, c77, c78, c79, c80, c81, c82, c83, c84, c85, c86, c87, c88, c89, c90, c91, c92, c93, c94, c95, c96, c97, c98, c99, c100, c101, c102, c103, c104, c105, c106, c107, c108, c109, c110, u111, u112, u113, u114, u115, u116, u117, u118, u119, u120, u121, u122, u123, u124, u125, u126, u127, u128, u129, u130, u131, u132, u133, u134, u135, u136, u137, u138, u139, u140, u141, u142, u143, u144, u145, u146, u147, u148, u149, u150, c151, c152, c153, c154, c155, c156, c157, c158, c159, c160, c161, c162], []⟩ w') :
    Code.wp Try.prog inCode Q ⟨#[c0, c1, c2, c3, c4, c5, c6, c7, c8, c9, c10, c11, .slice pv pn cv, .pointer (some ⟨gt, 0, none⟩), c14, .slice sa 6 sc, .int .i64 (i : Int), .bool (fnB D keep i 0), c18, c19, c20, c21, c22, c23, c24, c25, c26, c27, c28, c29, c30, c31, c32, c33, c34, c35, c36, c37, c38, c39, c40, c41, c42, c43, c44, c45, c46, c47, c48, c49, c50, c51, c52, c53, c54, c55, c56, c57, c58, c59, c60, c61, c62, c63, c64, c65, c66, c67, c68, c69, c70, c71, c72, c73, c74, c75, c76, c77, c78, c79, c80, c81, c82, c83, c84, c85, c86, c87, c88, c89, c90, c91, c92, c93, c94, c95, c96, c97, c98, c99, c100, c101, c102, c103, c104, c105, c106, c107, c108, c109, c110, c111, c112, c113, c114, c115, c116, c117, c118, c119, c120, c121, c122, c123, c124, c125, c126, c127, c128, c129, c130, c131, c132, c133, c134, c135, c136, c137, c138, c139, c140, c141, c142, c143, c144, c145, c146, c147, c148, c149, c150, c151, c152, c153, c154, c155, c156, c157, c158, c159, c160, c161, c162], []⟩ v := by
  conv => arg 2; whnf
  dsimp only
  have hfin := fnB_all (fun x hx => (hDk.pnd x hx).1) keep i (by rw [h6]; exact hi)
  rw [← hpn] at hfin
  have hpb : pn ≤ 1000 := by rw [hpn]; exact Nat.le_trans hDk.num hm
  have hgl : (heldL (D.crashD keep)).length = 6 := by unfold heldL; rw [heldN_len, crash_len, h6]
  obtain ⟨p3, o3, hsa, hrow⟩ := hg.at_ i hi
  rw [getD_map bv _ i [] [] (by rw [hgl]; exact hi), held_at i (by rw [crash_len, h6]; exact hi)] at hrow
  subst hsa
  have hGb := Dk.readB_bb (hDk.crash keep) (i : Int)
  obtain ⟨bg, hbg⟩ : ∃ b, b = (D.crashD keep).readB (i : Int) := ⟨_, rfl⟩
  rw [← hbg] at hrow hGb
  have hgbl := hGb.1
  obtain ⟨f0, hf0⟩ : ∃ f, f = fnB D keep i 0 := ⟨_, rfl⟩
  rw [← hf0]
  have iI : (i : Int) < 6 := by omega
  replace hfin := hide hfin; replace hDk := hide hDk; replace hL := hide hL; replace hp := hide hp; replace hg := hide hg; replace hv := hide hv; replace hQ := hide hQ; replace hpn := hide hpn; replace hrow := hide hrow; replace hbg := hide hbg; replace hGb := hide hGb; replace hf0 := hide hf0; replace hgl := hide hgl; replace hpan := hide hpan
  go_upto_region 28 with fail
  refine wp_region_lit ?_
  refine list_val (.slice pv pn cv) (by kernel_rfl) (by kernel_rfl) ?_
  simp only [Act.put, List.setIfInBounds_toArray, List.set_cons_zero, List.set_cons_succ, List.getElem_toArray, List.getElem_cons_zero, List.getElem_cons_succ]
  refine list_val (.int .i64 pn) (by kernel_rfl) (by kernel_rfl) ?_
  simp only [Act.put, List.setIfInBounds_toArray, List.set_cons_zero, List.set_cons_succ, List.getElem_toArray, List.getElem_cons_zero, List.getElem_cons_succ]
  refine list_val (.int .i64 0) (by kernel_rfl) (by kernel_rfl) ?_
  simp only [Act.put, List.setIfInBounds_toArray, List.set_cons_zero, List.set_cons_succ, List.getElem_toArray, List.getElem_cons_zero, List.getElem_cons_succ]
  refine wpList_nil ?_
  go_wp2_with fail
  go_loopw [17, 113] (fun fv ix wr => ∃ (k : Nat) (f : Bool), k ≤ pn ∧ ix = .int .i64 k ∧ fv = .bool f ∧ Hid (f = fnB D keep i k) ∧ Hid (Gr v0 wr)) (fun _ ix _ => pn - (intOf ix).toNat)
  case atStart => exact ⟨0, f0, by omega, rfl, rfl, hf0, hv⟩
  case round =>
  clear hv hf0
  obtain ⟨k, f, hk, rfl, rfl, hf, hv⟩ := hrel
  by_cases hkl : k < pn
  · skip
    have kI : (k : Int) < (pn : Int) := by omega
    obtain ⟨p2, o2, rfl, hpr⟩ := (unhide hp).at_ k hkl
    have hpx : (iv (D.pend.map fun x => (x.1 : Int))).getD k [] = [Value.int .i64 ((D.pend.getD k (0, [])).1 : Int)] := by
      unfold iv
      rw [getD_map (fun x : Int => [Value.int .i64 x]) _ k 0 [] (by rw [List.length_map, ← unhide hpn]; exact hkl), getD_map (fun x : Nat × List Int => (x.1 : Int)) D.pend k (0, []) 0 (by rw [← unhide hpn]; exact hkl)]
    rw [hpx, Nat.one_mul] at hpr
    clear hpx
    obtain ⟨ai, hai⟩ : ∃ x, x = (D.pend.getD k (0, [])).1 := ⟨_, rfl⟩
    rw [← hai] at hpr
    obtain ⟨kz, hkz⟩ : ∃ x, x = k + 1 := ⟨_, rfl⟩
    have hkz1 : (k : Int) + 1 = (kz : Int) := by omega
    have hkz2 : IntKind.i64.wrap (kz : Int) = (kz : Int) := by rw [IntKind.wrap_i64]; omega
    have hnx : Hid (fnB D keep i kz = (f || (decide (ai = i) && decide (bg = (D.crashD (oneL k)).readB (i : Int))))) := by
      show fnB D keep i kz = _
      rw [hkz, unhide hf, hai, unhide hbg]
      rfl
    have hkz3 : kz ≤ 1001 := by omega
    have hkk : k < kz := by omega
    replace hkz := hide hkz; replace hai := hide hai; replace hpr := hide hpr
    go_upto_region 31 with fail
    have hB := Bl.nil wr
    refine wp_region_lit ?_
    refine list_val (.int .i64 (k : Int)) (by kernel_rfl) (by kernel_rfl) ?_
    simp only [Act.put, List.setIfInBounds_toArray, List.set_cons_zero, List.set_cons_succ, List.getElem_toArray, List.getElem_cons_zero, List.getElem_cons_succ]
    refine list_val (.int .i64 kz) (by kernel_rfl) (by go_simp) ?_
    simp only [Act.put, List.setIfInBounds_toArray, List.set_cons_zero, List.set_cons_succ, List.getElem_toArray, List.getElem_cons_zero, List.getElem_cons_succ]
    refine make_bools wr rfl (.tmp 117) (.tmp 117) rfl kz kz rfl rfl (Nat.le_refl _) (by omega) ?_
    simp only [Act.put, List.setIfInBounds_toArray, List.set_cons_zero, List.set_cons_succ, List.getElem_toArray, List.getElem_cons_zero, List.getElem_cons_succ]
    replace hB := hB.new (bc (List.replicate kz false)) 4
    simp only [List.nil_append, List.cons_append] at hB
    generalize World.alloc _ _ = z2 at *
    obtain ⟨gk, hgq⟩ : ∃ k, k = wr.heap.size := ⟨_, rfl⟩
    rw [← hgq] at hB ⊢
    replace hgq := hide hgq
    (refine wpList_step fun K hK => ?_; replace hK := hide hK; go_simp; refine unhide hK _ _ ?_; clear hK K)
    refine wpList_nil ?_
    have hx1 : (List.replicate kz false).set k true = oneL k := by unfold oneL; rw [unhide hkz]
    have c0 := cell_of (i := k) (hB.get 0 (x := ⟨gk, bc (List.replicate kz false), 4⟩) rfl) (Array.getElem?_eq_getElem (by dsimp only; rw [bc_size, List.length_replicate]; exact hkk))
    have fz := froz_of (i := k) (hB.get 0 (x := ⟨gk, bc (List.replicate kz false), 4⟩) rfl)
    have hB2 := hB.cell 0 (x := ⟨gk, bc (List.replicate kz false), 4⟩) rfl k (.bool true)
    simp only [List.set_cons_zero, List.set_cons_succ, bc_set, hx1] at hB2
    clear hB hx1
    replace hB2 := hide hB2
    dsimp only at c0 fz
    generalize (bc (List.replicate kz false))[k]'_ = z at c0
    go_upto_region 32 with fail
    refine wp_region_lit ?_
    refine list_val (.slice (some ⟨gk, 0, none⟩) kz kz) (by kernel_rfl) (by kernel_rfl) ?_
    simp only [Act.put, List.setIfInBounds_toArray, List.set_cons_zero, List.set_cons_succ, List.getElem_toArray, List.getElem_cons_zero, List.getElem_cons_succ]
    refine list_val (.int .i64 (k : Int)) (by kernel_rfl) (by kernel_rfl) ?_
    simp only [Act.put, List.setIfInBounds_toArray, List.set_cons_zero, List.set_cons_succ, List.getElem_toArray, List.getElem_cons_zero, List.getElem_cons_succ]
    refine list_val (.pointer (some ⟨gk, 0 + k, none⟩)) (by kernel_rfl) (exec_ik _ (.tmp 119) (.tmp 120) rfl gk 0 kz kz k rfl rfl hkk) ?_
    simp only [Act.put, List.setIfInBounds_toArray, List.set_cons_zero, List.set_cons_succ, List.getElem_toArray, List.getElem_cons_zero, List.getElem_cons_succ]
    rw [Nat.zero_add]
    (refine wpList_step fun K hK => ?_; replace hK := hide hK; go_simp; refine unhide hK _ _ ?_; clear hK K)
    clear c0 fz
    have hB := unhide hB2
    clear hB2
    generalize World.setCell _ _ _ = z3 at *
    refine wpList_nil ?_
    have hKp : Kp z3 (some ⟨gk, 0, none⟩) kz kz (oneL k) := bc_kp (hB.get 0 (x := ⟨gk, bc (oneL k), 4⟩) rfl) (by rw [oneL_len, unhide hkz]) (by omega)
    have hgk3 := lt_of_block (hB.get 0 (x := ⟨gk, bc (oneL k), 4⟩) rfl)
    dsimp only at hgk3
    have hw3 := hB.gr
    replace hKp := hide hKp; replace hw3 := hide hw3; replace hgk3 := hide hgk3
    clear hB
    go_upto_region 33 with fail
    refine wp_region_lit ?_
    refine list_val (.pointer (some ⟨gt, 0, none⟩)) (by kernel_rfl) (by kernel_rfl) ?_
    simp only [Act.put, List.setIfInBounds_toArray, List.set_cons_zero, List.set_cons_succ, List.getElem_toArray, List.getElem_cons_zero, List.getElem_cons_succ]
    refine list_call 19 #[.pointer (some ⟨gt, 0, none⟩)] (by kernel_rfl) (by kernel_rfl) ((dcopy_ok Ft gt m D (unhide hDk) (by omega) _ ((unhide hL).gr ((unhide hv).trans (unhide hw3)))).mono ?_)
    rintro r z4 ⟨gc, Fc, rfl, hLc, hFc, hG4⟩
    refine ⟨_, rfl, ?_⟩
    have hgF : ∀ i ∈ Fc, blkOf (some (⟨gk, 0, none⟩ : Addr)) ≠ some i := by
      intro i_ hi_ e_
      have h1 := hFc i_ hi_
      have h2 : gk = i_ := by simpa [blkOf] using e_
      have h3 := unhide hgk3
      omega
    have hFw : ∀ i ∈ Fc, wr.heap.size ≤ i := fun i_ hi_ => Nat.le_trans (unhide hw3).size (hFc i_ hi_)
    have hw4 := hide ((unhide hw3).trans hG4)
    replace hKp := hide ((unhide hKp).gr hG4)
    replace hLc := hide hLc; replace hgF := hide hgF; replace hFw := hide hFw
    clear hG4 hFc hw3
    simp only [Act.put, List.setIfInBounds_toArray, List.set_cons_zero, List.set_cons_succ, List.getElem_toArray, List.getElem_cons_zero, List.getElem_cons_succ]
    (refine wpList_step fun K hK => ?_; replace hK := hide hK; go_simp; refine unhide hK _ _ ?_; clear hK K)
    refine wpList_nil ?_
    go_upto_region 34 with fail
    refine wp_region_lit ?_
    refine list_val (.pointer (some ⟨gc, 0, none⟩)) (by kernel_rfl) (by kernel_rfl) ?_
    simp only [Act.put, List.setIfInBounds_toArray, List.set_cons_zero, List.set_cons_succ, List.getElem_toArray, List.getElem_cons_zero, List.getElem_cons_succ]
    refine list_val (.slice (some ⟨gk, 0, none⟩) kz kz) (by kernel_rfl) (by kernel_rfl) ?_
    simp only [Act.put, List.setIfInBounds_toArray, List.set_cons_zero, List.set_cons_succ, List.getElem_toArray, List.getElem_cons_zero, List.getElem_cons_succ]
    refine list_call 25 #[.pointer (some ⟨gc, 0, none⟩), .slice (some ⟨gk, 0, none⟩) kz kz] (by kernel_rfl) (by kernel_rfl) ((dcrash_ok Fc gc m D (unhide hDk) (by omega) (oneL k) _ kz kz _ (unhide hLc) (unhide hKp) (unhide hgF)).mono ?_)
    rintro r z5 ⟨F5, rfl, hL5, hch⟩
    refine ⟨_, rfl, ?_⟩
    have hw5 := hide (Chg.own (unhide hw4) hch (unhide hFw))
    replace hL5 := hide hL5
    clear hch hLc hKp hgF hFw hw4
    simp only [Act.put, List.setIfInBounds_toArray, List.set_cons_zero, List.set_cons_succ, List.getElem_toArray, List.getElem_cons_zero, List.getElem_cons_succ]
    refine wpList_nil ?_
    obtain ⟨bc_, hbc⟩ : ∃ b, b = (D.crashD (oneL k)).readB (i : Int) := ⟨_, rfl⟩
    have hbcb : BB bc_ := by rw [hbc]; exact Dk.readB_bb ((unhide hDk).crash _) _
    rw [← hbc] at hnx
    obtain ⟨ee, hee⟩ : ∃ e, e = (D.crashD (oneL k)).readE (i : Int) := ⟨_, rfl⟩
    have hbcl := hbcb.1
    replace hbc := hide hbc; replace hbcb := hide hbcb; replace hee := hide hee
    go_upto_region 35 with fail
    refine wp_region_lit ?_
    refine list_val (.pointer (some ⟨gc, 0, none⟩)) (by kernel_rfl) (by kernel_rfl) ?_
    simp only [Act.put, List.setIfInBounds_toArray, List.set_cons_zero, List.set_cons_succ, List.getElem_toArray, List.getElem_cons_zero, List.getElem_cons_succ]
    refine list_val (.int .i64 (i : Int)) (by kernel_rfl) (by kernel_rfl) ?_
    simp only [Act.put, List.setIfInBounds_toArray, List.set_cons_zero, List.set_cons_succ, List.getElem_toArray, List.getElem_cons_zero, List.getElem_cons_succ]
    refine list_call 17 #[.pointer (some ⟨gc, 0, none⟩), .int .i64 (i : Int)] (by kernel_rfl) (by kernel_rfl) ((dread_ok F5 gc m (D.crashD (oneL k)) ((unhide hDk).crash _) (by omega) (i : Int) _ (unhide hL5)).mono ?_)
    rintro r z6 ⟨rfl, hG6⟩
    refine ⟨_, rfl, ?_⟩
    rw [← unhide hbc, ← unhide hee]
    have hw6 := hide ((unhide hw5).trans hG6)
    clear hG6 hL5 hw5
    have hB := Bl.nil z6
    simp only [Act.put, List.setIfInBounds_toArray, List.set_cons_zero, List.set_cons_succ, List.getElem_toArray, List.getElem_cons_zero, List.getElem_cons_succ]
    refine list_val (.tuple #[.agg (kc bc_), .int .i64 ee]) (by kernel_rfl) (by kernel_rfl) ?_
    simp only [Act.put, List.setIfInBounds_toArray, List.set_cons_zero, List.set_cons_succ, List.getElem_toArray, List.getElem_cons_zero, List.getElem_cons_succ]
    refine list_val (.agg (kc bc_)) (by kernel_rfl) (by kernel_rfl) ?_
    simp only [Act.put, List.setIfInBounds_toArray, List.set_cons_zero, List.set_cons_succ, List.getElem_toArray, List.getElem_cons_zero, List.getElem_cons_succ]
    refine list_val (.int .i64 ee) (by kernel_rfl) (by kernel_rfl) ?_
    simp only [Act.put, List.setIfInBounds_toArray, List.set_cons_zero, List.set_cons_succ, List.getElem_toArray, List.getElem_cons_zero, List.getElem_cons_succ]
    refine list_valw (.pointer (some ⟨z6.heap.size, 0, none⟩)) (z6.alloc (.cells (kc ZB) 39 (0, 0))) (by kernel_rfl) (by kernel_rfl) ?_
    replace hB := hB.new (kc ZB) 39
    simp only [List.nil_append, List.cons_append] at hB
    generalize World.alloc _ _ = z7 at *
    generalize z6.heap.size = g21 at *
    replace hB : Bl z6 [⟨g21, kc ZB, 39⟩] z7 := hB
    simp only [Act.put, List.setIfInBounds_toArray, List.set_cons_zero, List.set_cons_succ, List.getElem_toArray, List.getElem_cons_zero, List.getElem_cons_succ]
    refine list_store 39 (.tmp 21) (.tmp 131) (g21) (kc bc_) 39 (kc ZB) (by kernel_rfl) rfl (by kernel_rfl) (by kernel_rfl) (hB.get 0 (x := ⟨g21, kc ZB, 39⟩) rfl) (by rw [Try.infoB, kc_size, hbcl]) ((show (kc ZB).size = 64 from rfl).trans ((kc_size _).trans hbcl).symm) (kc_one _) ?_
    replace hB := hB.set 0 (x := ⟨g21, kc ZB, 39⟩) rfl (kc bc_)
    simp only [List.set_cons_zero, List.set_cons_succ] at hB
    generalize World.setRow _ _ _ = z8 at *
    replace hB : Bl z6 [⟨g21, kc bc_, 39⟩] z8 := hB
    simp only [Act.put, List.setIfInBounds_toArray, List.set_cons_zero, List.set_cons_succ, List.getElem_toArray, List.getElem_cons_zero, List.getElem_cons_succ]
    (refine wpList_step fun K hK => ?_; replace hK := hide hK; go_simp; refine unhide hK _ _ ?_; clear hK K)
    refine wpList_nil ?_
    have hX := hide (hB.get 0 (x := ⟨g21, kc bc_, 39⟩) rfl)
    dsimp only at hX
    have hw8 : Hid (Gr v0 z8) := ((unhide hv).trans (unhide hw6)).trans hB.gr
    clear hB hw6
    have hS : Gr v0 z8 ∧ z8.heap[g21]? = some (.cells (kc bc_) 39 (0, 0)) := ⟨unhide hw8, unhide hX⟩
    clear hw8 hX
    replace hS := hide hS
    go_upto_region 36 with fail
    replace hS := unhide hS
    cases f
    case false =>
      by_cases hai2 : ai = i
      · skip
        have aI : (ai : Int) = (i : Int) := by omega
        replace hai2 := hide hai2
        obtain ⟨rb, hrb⟩ : ∃ r, r = decide (bg = bc_) := ⟨_, rfl⟩
        replace hrb := hide hrb
        refine any_start (S := fun (v : World) => Gr v0 v ∧ v.heap[g21]? = some (.cells (kc bc_) 39 (0, 0))) (by kernel_rfl) ?_
        replace hS : (fun (v : World) => Gr v0 v ∧ v.heap[g21]? = some (.cells (kc bc_) 39 (0, 0))) _ := ⟨hS.1.drew, (Gr.refl _).drew.blk hS.2⟩
        generalize World.drew _ = x0 at *
        simp only [List.size_toArray, List.length_cons, List.length_nil, Array.replicate, List.replicate]
        refine any_take (i := 0) (v := (.bool false)) #[false, false, false, false, false, false, false, false, false, false, false, false, false, false, false, false, false, false] rfl (by kernel_rfl) (by kernel_rfl) (by kernel_rfl) (by kernel_rfl) (fun _ _ _ h => (unhide hpan) _ _ _ _ _ h) (.inl ⟨by kernel_rfl, fun x_ hu => by kernel_rfl⟩) hS ?_
        simp only [Act.put, List.setIfInBounds_toArray, List.set_cons_zero, List.set_cons_succ, List.getElem_toArray, List.getElem_cons_zero, List.getElem_cons_succ]
        refine any_take (i := 1) (v := (.bool false)) #[true, false, false, false, false, false, false, false, false, false, false, false, false, false, false, false, false, false] rfl (by kernel_rfl) (by kernel_rfl) (by kernel_rfl) (by kernel_rfl) (fun _ _ _ h => (unhide hpan) _ _ _ _ _ h) (.inl ⟨by kernel_rfl, fun x_ hu => by kernel_rfl⟩) hS ?_
        simp only [Act.put, List.setIfInBounds_toArray, List.set_cons_zero, List.set_cons_succ, List.getElem_toArray, List.getElem_cons_zero, List.getElem_cons_succ]
        refine any_take (i := 2) (v := (.slice (some ⟨p2, o2, none⟩) pn cv)) #[true, true, false, false, false, false, false, false, false, false, false, false, false, false, false, false, false, false] rfl (by kernel_rfl) (by kernel_rfl) (by kernel_rfl) (by kernel_rfl) (fun _ _ _ h => (unhide hpan) _ _ _ _ _ h) (.inl ⟨by kernel_rfl, fun x_ hu => by kernel_rfl⟩) hS ?_
        simp only [Act.put, List.setIfInBounds_toArray, List.set_cons_zero, List.set_cons_succ, List.getElem_toArray, List.getElem_cons_zero, List.getElem_cons_succ]
        refine any_take (i := 3) (v := (.int .i64 (k : Int))) #[true, true, true, false, false, false, false, false, false, false, false, false, false, false, false, false, false, false] rfl (by kernel_rfl) (by kernel_rfl) (by kernel_rfl) (by kernel_rfl) (fun _ _ _ h => (unhide hpan) _ _ _ _ _ h) (.inl ⟨by kernel_rfl, fun x_ hu => by kernel_rfl⟩) hS ?_
        simp only [Act.put, List.setIfInBounds_toArray, List.set_cons_zero, List.set_cons_succ, List.getElem_toArray, List.getElem_cons_zero, List.getElem_cons_succ]
        refine any_take (i := 4) (v := (.pointer (some ⟨p2, o2 + k, none⟩))) #[true, true, true, true, false, false, false, false, false, false, false, false, false, false, false, false, false, false] rfl (by kernel_rfl) (by kernel_rfl) (by kernel_rfl) (by kernel_rfl) (fun _ _ _ h => (unhide hpan) _ _ _ _ _ h) (.inl ⟨by kernel_rfl, fun x_ hu => exec_ii _ (.tmp 135) (.tmp 136) rfl p2 o2 pn cv k rfl rfl hkl⟩) hS ?_
        simp only [Act.put, List.setIfInBounds_toArray, List.set_cons_zero, List.set_cons_succ, List.getElem_toArray, List.getElem_cons_zero, List.getElem_cons_succ]
        refine any_take (i := 5) (v := (.int .i64 (ai : Int))) #[true, true, true, true, true, false, false, false, false, false, false, false, false, false, false, false, false, false] rfl (by kernel_rfl) (by kernel_rfl) (by kernel_rfl) (by kernel_rfl) (fun _ _ _ h => (unhide hpan) _ _ _ _ _ h) (.inl ⟨by kernel_rfl, fun x_ hu => exec_i64 _ (.tmp 137) rfl p2 (o2 + k) (by kernel_rfl) _ (hu.1.cell (unhide hpr 0 _ rfl))⟩) hS ?_
        simp only [Act.put, List.setIfInBounds_toArray, List.set_cons_zero, List.set_cons_succ, List.getElem_toArray, List.getElem_cons_zero, List.getElem_cons_succ]
        refine any_take (i := 6) (v := (.int .i64 (i : Int))) #[true, true, true, true, true, true, false, false, false, false, false, false, false, false, false, false, false, false] rfl (by kernel_rfl) (by kernel_rfl) (by kernel_rfl) (by kernel_rfl) (fun _ _ _ h => (unhide hpan) _ _ _ _ _ h) (.inl ⟨by kernel_rfl, fun x_ hu => by kernel_rfl⟩) hS ?_
        simp only [Act.put, List.setIfInBounds_toArray, List.set_cons_zero, List.set_cons_succ, List.getElem_toArray, List.getElem_cons_zero, List.getElem_cons_succ]
        refine any_take (i := 7) (v := (.bool true)) #[true, true, true, true, true, true, true, false, false, false, false, false, false, false, false, false, false, false] rfl (by kernel_rfl) (by kernel_rfl) (by kernel_rfl) (by kernel_rfl) (fun _ _ _ h => (unhide hpan) _ _ _ _ _ h) (.inl ⟨by kernel_rfl, fun x_ hu => by go_simp⟩) hS ?_
        simp only [Act.put, List.setIfInBounds_toArray, List.set_cons_zero, List.set_cons_succ, List.getElem_toArray, List.getElem_cons_zero, List.getElem_cons_succ]
        refine any_take (i := 8) (v := (.bool true)) #[true, true, true, true, true, true, true, true, false, false, false, false, false, false, false, false, false, false] rfl (by kernel_rfl) (by kernel_rfl) (by kernel_rfl) (by kernel_rfl) (fun _ _ _ h => (unhide hpan) _ _ _ _ _ h) (.inl ⟨by kernel_rfl, fun x_ hu => by kernel_rfl⟩) hS ?_
        simp only [Act.put, List.setIfInBounds_toArray, List.set_cons_zero, List.set_cons_succ, List.getElem_toArray, List.getElem_cons_zero, List.getElem_cons_succ]
        refine any_take (i := 9) (v := (.slice (some ⟨p3, o3, none⟩) 6 sc)) #[true, true, true, true, true, true, true, true, true, false, false, false, false, false, false, false, false, false] rfl (by kernel_rfl) (by kernel_rfl) (by kernel_rfl) (by kernel_rfl) (fun _ _ _ h => (unhide hpan) _ _ _ _ _ h) (.inl ⟨by kernel_rfl, fun x_ hu => by kernel_rfl⟩) hS ?_
        simp only [Act.put, List.setIfInBounds_toArray, List.set_cons_zero, List.set_cons_succ, List.getElem_toArray, List.getElem_cons_zero, List.getElem_cons_succ]
        refine any_take (i := 10) (v := (.int .i64 (i : Int))) #[true, true, true, true, true, true, true, true, true, true, false, false, false, false, false, false, false, false] rfl (by kernel_rfl) (by kernel_rfl) (by kernel_rfl) (by kernel_rfl) (fun _ _ _ h => (unhide hpan) _ _ _ _ _ h) (.inl ⟨by kernel_rfl, fun x_ hu => by kernel_rfl⟩) hS ?_
        simp only [Act.put, List.setIfInBounds_toArray, List.set_cons_zero, List.set_cons_succ, List.getElem_toArray, List.getElem_cons_zero, List.getElem_cons_succ]
        refine any_take (i := 11) (v := (.pointer (some ⟨p3, o3 + 64 * i, none⟩))) #[true, true, true, true, true, true, true, true, true, true, true, false, false, false, false, false, false, false] rfl (by kernel_rfl) (by kernel_rfl) (by kernel_rfl) (by kernel_rfl) (fun _ _ _ h => (unhide hpan) _ _ _ _ _ h) (.inl ⟨by kernel_rfl, fun x_ hu => exec_ib _ (.tmp 142) (.tmp 143) rfl p3 o3 6 sc i rfl rfl hi⟩) hS ?_
        simp only [Act.put, List.setIfInBounds_toArray, List.set_cons_zero, List.set_cons_succ, List.getElem_toArray, List.getElem_cons_zero, List.getElem_cons_succ]
        refine any_take (i := 12) (v := (.agg (kc bg))) #[true, true, true, true, true, true, true, true, true, true, true, true, false, false, false, false, false, false] rfl (by kernel_rfl) (by kernel_rfl) (by kernel_rfl) (by kernel_rfl) (fun _ _ _ h => (unhide hpan) _ _ _ _ _ h) (.inl ⟨by kernel_rfl, fun x_ hu => exec_row _ 39 (.tmp 144) rfl p3 (o3 + 64 * i) (by kernel_rfl) (bv bg) _ (range_gr (unhide hrow) hu.1) Try.underlying39 rfl (by rw [Try.infoB, bv_len, hgbl])⟩) hS ?_
        simp only [Act.put, List.setIfInBounds_toArray, List.set_cons_zero, List.set_cons_succ, List.getElem_toArray, List.getElem_cons_zero, List.getElem_cons_succ]
        refine any_take (i := 13) (v := (.agg (kc bc_))) #[true, true, true, true, true, true, true, true, true, true, true, true, true, false, false, false, false, false] rfl (by kernel_rfl) (by kernel_rfl) (by kernel_rfl) (by kernel_rfl) (fun _ _ _ h => (unhide hpan) _ _ _ _ _ h) (.inl ⟨by kernel_rfl, fun x_ hu => exec_arr _ 39 (.tmp 21) rfl g21 (by kernel_rfl) (kc bc_) 39 _ hu.2 Try.underlying39 rfl (by rw [Try.infoB, kc_size, hbcl])⟩) hS ?_
        simp only [Act.put, List.setIfInBounds_toArray, List.set_cons_zero, List.set_cons_succ, List.getElem_toArray, List.getElem_cons_zero, List.getElem_cons_succ]
        refine any_take (i := 14) (v := (.bool rb)) #[true, true, true, true, true, true, true, true, true, true, true, true, true, true, false, false, false, false] rfl (by kernel_rfl) (by kernel_rfl) (by kernel_rfl) (by kernel_rfl) (fun _ _ _ h => (unhide hpan) _ _ _ _ _ h) (.inl ⟨by kernel_rfl, fun x_ hu => by rw [unhide hrb]; exact exec_eqB2 _ (.tmp 145) (.tmp 146) rfl bg bc_ hgbl hbcl (by kernel_rfl) (by kernel_rfl)⟩) hS ?_
        simp only [Act.put, List.setIfInBounds_toArray, List.set_cons_zero, List.set_cons_succ, List.getElem_toArray, List.getElem_cons_zero, List.getElem_cons_succ]
        refine any_take (i := 15) (v := (.bool rb)) #[true, true, true, true, true, true, true, true, true, true, true, true, true, true, true, false, false, false] rfl (by kernel_rfl) (by kernel_rfl) (by kernel_rfl) (by kernel_rfl) (fun _ _ _ h => (unhide hpan) _ _ _ _ _ h) (.inl ⟨by kernel_rfl, fun x_ hu => by kernel_rfl⟩) hS ?_
        simp only [Act.put, List.setIfInBounds_toArray, List.set_cons_zero, List.set_cons_succ, List.getElem_toArray, List.getElem_cons_zero, List.getElem_cons_succ]
        refine any_take (i := 16) (v := (.bool rb)) #[true, true, true, true, true, true, true, true, true, true, true, true, true, true, true, true, false, false] rfl (by kernel_rfl) (by kernel_rfl) (by kernel_rfl) (by kernel_rfl) (fun _ _ _ h => (unhide hpan) _ _ _ _ _ h) (.inl ⟨by kernel_rfl, fun x_ hu => by kernel_rfl⟩) hS ?_
        simp only [Act.put, List.setIfInBounds_toArray, List.set_cons_zero, List.set_cons_succ, List.getElem_toArray, List.getElem_cons_zero, List.getElem_cons_succ]
        refine any_one (i := 17) (by kernel_rfl) rfl (fun K_ hQ => ?_)
        replace hQ := hide hQ
        go_simp
        refine (unhide hQ).out _ _ hS (fun _ => ?_)
        clear hQ K_
        refine any_done (by kernel_rfl) ?_
        have hf2 : Hid (rb = fnB D keep i kz) := by
          show rb = fnB D keep i kz
          rw [unhide hnx]
          rw [unhide hrb, decide_eq_true (unhide hai2)]; rfl
        have hw9 : Hid (Gr v0 x0) := hS.1
        clear hS
        go_wp2_with fail
        go_roundw
        case rel => exact ⟨kz, rb, by omega, by go_num, rfl, hf2, hw9⟩
        case measure => simp [intOf]; omega
      have aI : ¬ (ai : Int) = (i : Int) := by omega
      replace hai2 := hide hai2
      refine any_start (S := fun (v : World) => Gr v0 v ∧ v.heap[g21]? = some (.cells (kc bc_) 39 (0, 0))) (by kernel_rfl) ?_
      replace hS : (fun (v : World) => Gr v0 v ∧ v.heap[g21]? = some (.cells (kc bc_) 39 (0, 0))) _ := ⟨hS.1.drew, (Gr.refl _).drew.blk hS.2⟩
      generalize World.drew _ = x0 at *
      simp only [List.size_toArray, List.length_cons, List.length_nil, Array.replicate, List.replicate]
      refine any_take (i := 0) (v := (.bool false)) #[false, false, false, false, false, false, false, false, false, false, false, false, false, false, false, false, false, false] rfl (by kernel_rfl) (by kernel_rfl) (by kernel_rfl) (by kernel_rfl) (fun _ _ _ h => (unhide hpan) _ _ _ _ _ h) (.inl ⟨by kernel_rfl, fun x_ hu => by kernel_rfl⟩) hS ?_
      simp only [Act.put, List.setIfInBounds_toArray, List.set_cons_zero, List.set_cons_succ, List.getElem_toArray, List.getElem_cons_zero, List.getElem_cons_succ]
      refine any_take (i := 1) (v := (.bool false)) #[true, false, false, false, false, false, false, false, false, false, false, false, false, false, false, false, false, false] rfl (by kernel_rfl) (by kernel_rfl) (by kernel_rfl) (by kernel_rfl) (fun _ _ _ h => (unhide hpan) _ _ _ _ _ h) (.inl ⟨by kernel_rfl, fun x_ hu => by kernel_rfl⟩) hS ?_
      simp only [Act.put, List.setIfInBounds_toArray, List.set_cons_zero, List.set_cons_succ, List.getElem_toArray, List.getElem_cons_zero, List.getElem_cons_succ]
      refine any_take (i := 2) (v := (.slice (some ⟨p2, o2, none⟩) pn cv)) #[true, true, false, false, false, false, false, false, false, false, false, false, false, false, false, false, false, false] rfl (by kernel_rfl) (by kernel_rfl) (by kernel_rfl) (by kernel_rfl) (fun _ _ _ h => (unhide hpan) _ _ _ _ _ h) (.inl ⟨by kernel_rfl, fun x_ hu => by kernel_rfl⟩) hS ?_
      simp only [Act.put, List.setIfInBounds_toArray, List.set_cons_zero, List.set_cons_succ, List.getElem_toArray, List.getElem_cons_zero, List.getElem_cons_succ]
      refine any_take (i := 3) (v := (.int .i64 (k : Int))) #[true, true, true, false, false, false, false, false, false, false, false, false, false, false, false, false, false, false] rfl (by kernel_rfl) (by kernel_rfl) (by kernel_rfl) (by kernel_rfl) (fun _ _ _ h => (unhide hpan) _ _ _ _ _ h) (.inl ⟨by kernel_rfl, fun x_ hu => by kernel_rfl⟩) hS ?_
      simp only [Act.put, List.setIfInBounds_toArray, List.set_cons_zero, List.set_cons_succ, List.getElem_toArray, List.getElem_cons_zero, List.getElem_cons_succ]
      refine any_take (i := 4) (v := (.pointer (some ⟨p2, o2 + k, none⟩))) #[true, true, true, true, false, false, false, false, false, false, false, false, false, false, false, false, false, false] rfl (by kernel_rfl) (by kernel_rfl) (by kernel_rfl) (by kernel_rfl) (fun _ _ _ h => (unhide hpan) _ _ _ _ _ h) (.inl ⟨by kernel_rfl, fun x_ hu => exec_ii _ (.tmp 135) (.tmp 136) rfl p2 o2 pn cv k rfl rfl hkl⟩) hS ?_
      simp only [Act.put, List.setIfInBounds_toArray, List.set_cons_zero, List.set_cons_succ, List.getElem_toArray, List.getElem_cons_zero, List.getElem_cons_succ]
      refine any_take (i := 5) (v := (.int .i64 (ai : Int))) #[true, true, true, true, true, false, false, false, false, false, false, false, false, false, false, false, false, false] rfl (by kernel_rfl) (by kernel_rfl) (by kernel_rfl) (by kernel_rfl) (fun _ _ _ h => (unhide hpan) _ _ _ _ _ h) (.inl ⟨by kernel_rfl, fun x_ hu => exec_i64 _ (.tmp 137) rfl p2 (o2 + k) (by kernel_rfl) _ (hu.1.cell (unhide hpr 0 _ rfl))⟩) hS ?_
      simp only [Act.put, List.setIfInBounds_toArray, List.set_cons_zero, List.set_cons_succ, List.getElem_toArray, List.getElem_cons_zero, List.getElem_cons_succ]
      refine any_take (i := 6) (v := (.int .i64 (i : Int))) #[true, true, true, true, true, true, false, false, false, false, false, false, false, false, false, false, false, false] rfl (by kernel_rfl) (by kernel_rfl) (by kernel_rfl) (by kernel_rfl) (fun _ _ _ h => (unhide hpan) _ _ _ _ _ h) (.inl ⟨by kernel_rfl, fun x_ hu => by kernel_rfl⟩) hS ?_
      simp only [Act.put, List.setIfInBounds_toArray, List.set_cons_zero, List.set_cons_succ, List.getElem_toArray, List.getElem_cons_zero, List.getElem_cons_succ]
      refine any_take (i := 7) (v := (.bool false)) #[true, true, true, true, true, true, true, false, false, false, false, false, false, false, false, false, false, false] rfl (by kernel_rfl) (by kernel_rfl) (by kernel_rfl) (by kernel_rfl) (fun _ _ _ h => (unhide hpan) _ _ _ _ _ h) (.inl ⟨by kernel_rfl, fun x_ hu => by go_simp⟩) hS ?_
      simp only [Act.put, List.setIfInBounds_toArray, List.set_cons_zero, List.set_cons_succ, List.getElem_toArray, List.getElem_cons_zero, List.getElem_cons_succ]
      refine any_take (i := 8) (v := (.bool false)) #[true, true, true, true, true, true, true, true, false, false, false, false, false, false, false, false, false, false] rfl (by kernel_rfl) (by kernel_rfl) (by kernel_rfl) (by kernel_rfl) (fun _ _ _ h => (unhide hpan) _ _ _ _ _ h) (.inl ⟨by kernel_rfl, fun x_ hu => by kernel_rfl⟩) hS ?_
      simp only [Act.put, List.setIfInBounds_toArray, List.set_cons_zero, List.set_cons_succ, List.getElem_toArray, List.getElem_cons_zero, List.getElem_cons_succ]
      refine any_take (i := 9) (v := undef) #[true, true, true, true, true, true, true, true, true, false, false, false, false, false, false, false, false, false] rfl (by kernel_rfl) (by kernel_rfl) (by kernel_rfl) (by kernel_rfl) (fun _ _ _ h => (unhide hpan) _ _ _ _ _ h) (.inr ⟨by kernel_rfl, rfl⟩) hS ?_
      simp only [Act.put, List.setIfInBounds_toArray, List.set_cons_zero, List.set_cons_succ, List.getElem_toArray, List.getElem_cons_zero, List.getElem_cons_succ]
      refine any_take (i := 10) (v := undef) #[true, true, true, true, true, true, true, true, true, true, false, false, false, false, false, false, false, false] rfl (by kernel_rfl) (by kernel_rfl) (by kernel_rfl) (by kernel_rfl) (fun _ _ _ h => (unhide hpan) _ _ _ _ _ h) (.inr ⟨by kernel_rfl, rfl⟩) hS ?_
      simp only [Act.put, List.setIfInBounds_toArray, List.set_cons_zero, List.set_cons_succ, List.getElem_toArray, List.getElem_cons_zero, List.getElem_cons_succ]
      refine any_take (i := 11) (v := undef) #[true, true, true, true, true, true, true, true, true, true, true, false, false, false, false, false, false, false] rfl (by kernel_rfl) (by kernel_rfl) (by kernel_rfl) (by kernel_rfl) (fun _ _ _ h => (unhide hpan) _ _ _ _ _ h) (.inr ⟨by kernel_rfl, rfl⟩) hS ?_
      simp only [Act.put, List.setIfInBounds_toArray, List.set_cons_zero, List.set_cons_succ, List.getElem_toArray, List.getElem_cons_zero, List.getElem_cons_succ]
      refine any_take (i := 12) (v := undef) #[true, true, true, true, true, true, true, true, true, true, true, true, false, false, false, false, false, false] rfl (by kernel_rfl) (by kernel_rfl) (by kernel_rfl) (by kernel_rfl) (fun _ _ _ h => (unhide hpan) _ _ _ _ _ h) (.inr ⟨by kernel_rfl, rfl⟩) hS ?_
      simp only [Act.put, List.setIfInBounds_toArray, List.set_cons_zero, List.set_cons_succ, List.getElem_toArray, List.getElem_cons_zero, List.getElem_cons_succ]
      refine any_take (i := 13) (v := undef) #[true, true, true, true, true, true, true, true, true, true, true, true, true, false, false, false, false, false] rfl (by kernel_rfl) (by kernel_rfl) (by kernel_rfl) (by kernel_rfl) (fun _ _ _ h => (unhide hpan) _ _ _ _ _ h) (.inr ⟨by kernel_rfl, rfl⟩) hS ?_
      simp only [Act.put, List.setIfInBounds_toArray, List.set_cons_zero, List.set_cons_succ, List.getElem_toArray, List.getElem_cons_zero, List.getElem_cons_succ]
      refine any_take (i := 14) (v := undef) #[true, true, true, true, true, true, true, true, true, true, true, true, true, true, false, false, false, false] rfl (by kernel_rfl) (by kernel_rfl) (by kernel_rfl) (by kernel_rfl) (fun _ _ _ h => (unhide hpan) _ _ _ _ _ h) (.inr ⟨by kernel_rfl, rfl⟩) hS ?_
      simp only [Act.put, List.setIfInBounds_toArray, List.set_cons_zero, List.set_cons_succ, List.getElem_toArray, List.getElem_cons_zero, List.getElem_cons_succ]
      refine any_take (i := 15) (v := (.bool false)) #[true, true, true, true, true, true, true, true, true, true, true, true, true, true, true, false, false, false] rfl (by kernel_rfl) (by kernel_rfl) (by kernel_rfl) (by kernel_rfl) (fun _ _ _ h => (unhide hpan) _ _ _ _ _ h) (.inl ⟨by kernel_rfl, fun x_ hu => by kernel_rfl⟩) hS ?_
      simp only [Act.put, List.setIfInBounds_toArray, List.set_cons_zero, List.set_cons_succ, List.getElem_toArray, List.getElem_cons_zero, List.getElem_cons_succ]
      refine any_take (i := 16) (v := (.bool false)) #[true, true, true, true, true, true, true, true, true, true, true, true, true, true, true, true, false, false] rfl (by kernel_rfl) (by kernel_rfl) (by kernel_rfl) (by kernel_rfl) (fun _ _ _ h => (unhide hpan) _ _ _ _ _ h) (.inl ⟨by kernel_rfl, fun x_ hu => by kernel_rfl⟩) hS ?_
      simp only [Act.put, List.setIfInBounds_toArray, List.set_cons_zero, List.set_cons_succ, List.getElem_toArray, List.getElem_cons_zero, List.getElem_cons_succ]
      refine any_one (i := 17) (by kernel_rfl) rfl (fun K_ hQ => ?_)
      replace hQ := hide hQ
      go_simp
      refine (unhide hQ).out _ _ hS (fun _ => ?_)
      clear hQ K_
      refine any_done (by kernel_rfl) ?_
      have hf2 : Hid (false = fnB D keep i kz) := by
        show false = fnB D keep i kz
        rw [unhide hnx]
        rw [decide_eq_false (unhide hai2)]; rfl
      have hw9 : Hid (Gr v0 x0) := hS.1
      clear hS
      go_wp2_with fail
      go_roundw
      case rel => exact ⟨kz, false, by omega, by go_num, rfl, hf2, hw9⟩
      case measure => simp [intOf]; omega
    case true =>
      refine any_start (S := fun (v : World) => Gr v0 v ∧ v.heap[g21]? = some (.cells (kc bc_) 39 (0, 0))) (by kernel_rfl) ?_
      replace hS : (fun (v : World) => Gr v0 v ∧ v.heap[g21]? = some (.cells (kc bc_) 39 (0, 0))) _ := ⟨hS.1.drew, (Gr.refl _).drew.blk hS.2⟩
      generalize World.drew _ = x0 at *
      simp only [List.size_toArray, List.length_cons, List.length_nil, Array.replicate, List.replicate]
      refine any_take (i := 0) (v := (.bool true)) #[false, false, false, false, false, false, false, false, false, false, false, false, false, false, false, false, false, false] rfl (by kernel_rfl) (by kernel_rfl) (by kernel_rfl) (by kernel_rfl) (fun _ _ _ h => (unhide hpan) _ _ _ _ _ h) (.inl ⟨by kernel_rfl, fun x_ hu => by kernel_rfl⟩) hS ?_
      simp only [Act.put, List.setIfInBounds_toArray, List.set_cons_zero, List.set_cons_succ, List.getElem_toArray, List.getElem_cons_zero, List.getElem_cons_succ]
      refine any_take (i := 1) (v := (.bool true)) #[true, false, false, false, false, false, false, false, false, false, false, false, false, false, false, false, false, false] rfl (by kernel_rfl) (by kernel_rfl) (by kernel_rfl) (by kernel_rfl) (fun _ _ _ h => (unhide hpan) _ _ _ _ _ h) (.inl ⟨by kernel_rfl, fun x_ hu => by kernel_rfl⟩) hS ?_
      simp only [Act.put, List.setIfInBounds_toArray, List.set_cons_zero, List.set_cons_succ, List.getElem_toArray, List.getElem_cons_zero, List.getElem_cons_succ]
      refine any_take (i := 2) (v := undef) #[true, true, false, false, false, false, false, false, false, false, false, false, false, false, false, false, false, false] rfl (by kernel_rfl) (by kernel_rfl) (by kernel_rfl) (by kernel_rfl) (fun _ _ _ h => (unhide hpan) _ _ _ _ _ h) (.inr ⟨by kernel_rfl, rfl⟩) hS ?_
      simp only [Act.put, List.setIfInBounds_toArray, List.set_cons_zero, List.set_cons_succ, List.getElem_toArray, List.getElem_cons_zero, List.getElem_cons_succ]
      refine any_take (i := 3) (v := undef) #[true, true, true, false, false, false, false, false, false, false, false, false, false, false, false, false, false, false] rfl (by kernel_rfl) (by kernel_rfl) (by kernel_rfl) (by kernel_rfl) (fun _ _ _ h => (unhide hpan) _ _ _ _ _ h) (.inr ⟨by kernel_rfl, rfl⟩) hS ?_
      simp only [Act.put, List.setIfInBounds_toArray, List.set_cons_zero, List.set_cons_succ, List.getElem_toArray, List.getElem_cons_zero, List.getElem_cons_succ]
      refine any_take (i := 4) (v := undef) #[true, true, true, true, false, false, false, false, false, false, false, false, false, false, false, false, false, false] rfl (by kernel_rfl) (by kernel_rfl) (by kernel_rfl) (by kernel_rfl) (fun _ _ _ h => (unhide hpan) _ _ _ _ _ h) (.inr ⟨by kernel_rfl, rfl⟩) hS ?_
      simp only [Act.put, List.setIfInBounds_toArray, List.set_cons_zero, List.set_cons_succ, List.getElem_toArray, List.getElem_cons_zero, List.getElem_cons_succ]
      refine any_take (i := 5) (v := undef) #[true, true, true, true, true, false, false, false, false, false, false, false, false, false, false, false, false, false] rfl (by kernel_rfl) (by kernel_rfl) (by kernel_rfl) (by kernel_rfl) (fun _ _ _ h => (unhide hpan) _ _ _ _ _ h) (.inr ⟨by kernel_rfl, rfl⟩) hS ?_
      simp only [Act.put, List.setIfInBounds_toArray, List.set_cons_zero, List.set_cons_succ, List.getElem_toArray, List.getElem_cons_zero, List.getElem_cons_succ]
      refine any_take (i := 6) (v := undef) #[true, true, true, true, true, true, false, false, false, false, false, false, false, false, false, false, false, false] rfl (by kernel_rfl) (by kernel_rfl) (by kernel_rfl) (by kernel_rfl) (fun _ _ _ h => (unhide hpan) _ _ _ _ _ h) (.inr ⟨by kernel_rfl, rfl⟩) hS ?_
      simp only [Act.put, List.setIfInBounds_toArray, List.set_cons_zero, List.set_cons_succ, List.getElem_toArray, List.getElem_cons_zero, List.getElem_cons_succ]
      refine any_take (i := 7) (v := undef) #[true, true, true, true, true, true, true, false, false, false, false, false, false, false, false, false, false, false] rfl (by kernel_rfl) (by kernel_rfl) (by kernel_rfl) (by kernel_rfl) (fun _ _ _ h => (unhide hpan) _ _ _ _ _ h) (.inr ⟨by kernel_rfl, rfl⟩) hS ?_
      simp only [Act.put, List.setIfInBounds_toArray, List.set_cons_zero, List.set_cons_succ, List.getElem_toArray, List.getElem_cons_zero, List.getElem_cons_succ]
      refine any_take (i := 8) (v := undef) #[true, true, true, true, true, true, true, true, false, false, false, false, false, false, false, false, false, false] rfl (by kernel_rfl) (by kernel_rfl) (by kernel_rfl) (by kernel_rfl) (fun _ _ _ h => (unhide hpan) _ _ _ _ _ h) (.inr ⟨by kernel_rfl, rfl⟩) hS ?_
      simp only [Act.put, List.setIfInBounds_toArray, List.set_cons_zero, List.set_cons_succ, List.getElem_toArray, List.getElem_cons_zero, List.getElem_cons_succ]
      refine any_take (i := 9) (v := undef) #[true, true, true, true, true, true, true, true, true, false, false, false, false, false, false, false, false, false] rfl (by kernel_rfl) (by kernel_rfl) (by kernel_rfl) (by kernel_rfl) (fun _ _ _ h => (unhide hpan) _ _ _ _ _ h) (.inr ⟨by kernel_rfl, rfl⟩) hS ?_
      simp only [Act.put, List.setIfInBounds_toArray, List.set_cons_zero, List.set_cons_succ, List.getElem_toArray, List.getElem_cons_zero, List.getElem_cons_succ]
      refine any_take (i := 10) (v := undef) #[true, true, true, true, true, true, true, true, true, true, false, false, false, false, false, false, false, false] rfl (by kernel_rfl) (by kernel_rfl) (by kernel_rfl) (by kernel_rfl) (fun _ _ _ h => (unhide hpan) _ _ _ _ _ h) (.inr ⟨by kernel_rfl, rfl⟩) hS ?_
      simp only [Act.put, List.setIfInBounds_toArray, List.set_cons_zero, List.set_cons_succ, List.getElem_toArray, List.getElem_cons_zero, List.getElem_cons_succ]
      refine any_take (i := 11) (v := undef) #[true, true, true, true, true, true, true, true, true, true, true, false, false, false, false, false, false, false] rfl (by kernel_rfl) (by kernel_rfl) (by kernel_rfl) (by kernel_rfl) (fun _ _ _ h => (unhide hpan) _ _ _ _ _ h) (.inr ⟨by kernel_rfl, rfl⟩) hS ?_
      simp only [Act.put, List.setIfInBounds_toArray, List.set_cons_zero, List.set_cons_succ, List.getElem_toArray, List.getElem_cons_zero, List.getElem_cons_succ]
      refine any_take (i := 12) (v := undef) #[true, true, true, true, true, true, true, true, true, true, true, true, false, false, false, false, false, false] rfl (by kernel_rfl) (by kernel_rfl) (by kernel_rfl) (by kernel_rfl) (fun _ _ _ h => (unhide hpan) _ _ _ _ _ h) (.inr ⟨by kernel_rfl, rfl⟩) hS ?_
      simp only [Act.put, List.setIfInBounds_toArray, List.set_cons_zero, List.set_cons_succ, List.getElem_toArray, List.getElem_cons_zero, List.getElem_cons_succ]
      refine any_take (i := 13) (v := undef) #[true, true, true, true, true, true, true, true, true, true, true, true, true, false, false, false, false, false] rfl (by kernel_rfl) (by kernel_rfl) (by kernel_rfl) (by kernel_rfl) (fun _ _ _ h => (unhide hpan) _ _ _ _ _ h) (.inr ⟨by kernel_rfl, rfl⟩) hS ?_
      simp only [Act.put, List.setIfInBounds_toArray, List.set_cons_zero, List.set_cons_succ, List.getElem_toArray, List.getElem_cons_zero, List.getElem_cons_succ]
      refine any_take (i := 14) (v := undef) #[true, true, true, true, true, true, true, true, true, true, true, true, true, true, false, false, false, false] rfl (by kernel_rfl) (by kernel_rfl) (by kernel_rfl) (by kernel_rfl) (fun _ _ _ h => (unhide hpan) _ _ _ _ _ h) (.inr ⟨by kernel_rfl, rfl⟩) hS ?_
      simp only [Act.put, List.setIfInBounds_toArray, List.set_cons_zero, List.set_cons_succ, List.getElem_toArray, List.getElem_cons_zero, List.getElem_cons_succ]
      refine any_take (i := 15) (v := undef) #[true, true, true, true, true, true, true, true, true, true, true, true, true, true, true, false, false, false] rfl (by kernel_rfl) (by kernel_rfl) (by kernel_rfl) (by kernel_rfl) (fun _ _ _ h => (unhide hpan) _ _ _ _ _ h) (.inr ⟨by kernel_rfl, rfl⟩) hS ?_
      simp only [Act.put, List.setIfInBounds_toArray, List.set_cons_zero, List.set_cons_succ, List.getElem_toArray, List.getElem_cons_zero, List.getElem_cons_succ]
      refine any_take (i := 16) (v := (.bool true)) #[true, true, true, true, true, true, true, true, true, true, true, true, true, true, true, true, false, false] rfl (by kernel_rfl) (by kernel_rfl) (by kernel_rfl) (by kernel_rfl) (fun _ _ _ h => (unhide hpan) _ _ _ _ _ h) (.inl ⟨by kernel_rfl, fun x_ hu => by kernel_rfl⟩) hS ?_
      simp only [Act.put, List.setIfInBounds_toArray, List.set_cons_zero, List.set_cons_succ, List.getElem_toArray, List.getElem_cons_zero, List.getElem_cons_succ]
      refine any_one (i := 17) (by kernel_rfl) rfl (fun K_ hQ => ?_)
      replace hQ := hide hQ
      go_simp
      refine (unhide hQ).out _ _ hS (fun _ => ?_)
      clear hQ K_
      refine any_done (by kernel_rfl) ?_
      have hf2 : Hid (true = fnB D keep i kz) := by
        show true = fnB D keep i kz
        rw [unhide hnx]
        rfl
      have hw9 : Hid (Gr v0 x0) := hS.1
      clear hS
      go_wp2_with fail
      go_roundw
      case rel => exact ⟨kz, true, by omega, by go_num, rfl, hf2, hw9⟩
      case measure => simp [intOf]; omega
  have kI : ¬ (k : Int) < (pn : Int) := by omega
  obtain rfl : f = true := by
    have e : k = pn := by omega
    rw [unhide hf, e]
    exact unhide hfin
  go_wp2_with fail
  exact unhide hQ _ _ _ _ _ _ _ _ _ _ _ _ _ _ _ _ _ _ _ _ _ _ _ _ _ _ _ _ _ _ _ _ _ _ _ _ _ _ _ _ _ _ _ _ _ _ (unhide hv)
end Go.Proofs.Ythgchjdjacbcgaa
