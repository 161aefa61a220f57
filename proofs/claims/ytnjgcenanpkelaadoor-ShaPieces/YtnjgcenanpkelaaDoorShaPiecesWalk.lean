/-
  Bytes that are written piece by piece have the hash of all of them: the walk.
-/
import Derived.Test.YtnjgcenanpkelaaDoorShaRsum
namespace Go.Proofs.YtnjgcenanpkelaaDoor
open Go.RowKit
set_option maxRecDepth 1000000
set_option linter.unusedSimpArgs false
set_option linter.unusedVariables false

/-- lists of bytes, one behind the other -/
def Pt (w : World) (p o : Nat) (ps : List (List Int)) : Prop := ∀ j, j < ps.length → ∃ a n c, w.cell? ⟨p, o + j, none⟩ = some (.slice a n c) ∧ (ps.getD j []).length = n ∧ IsB (ps.getD j []) ∧ Sl w a (ps.getD j []) ∧ n ≤ c ∧ c ≤ 140737488351232
theorem Pt.gr {w v : World} {p o : Nat} {ps : List (List Int)} (h : Pt w p o ps) (k : Gr w v) : Pt v p o ps := by
  intro j hj
  obtain ⟨a, n, c, h1, h2, h3, h4, h5⟩ := h j hj
  exact ⟨a, n, c, k.cell h1, h2, h3, h4.gr k, h5⟩
def Ps (w : World) (a : Option Addr) (ps : List (List Int)) : Prop := ps = [] ∨ ∃ p o, a = some ⟨p, o, none⟩ ∧ Pt w p o ps
theorem Ps.gr {w v : World} {a : Option Addr} {ps : List (List Int)} (h : Ps w a ps) (k : Gr w v) : Ps v a ps := by
  rcases h with h | ⟨p, o, h1, h2⟩
  · exact .inl h
  · exact .inr ⟨p, o, h1, h2.gr k⟩
def loopsIn : Code → List Code
  | .loop c => c :: loopsIn c
  | .seq a b => loopsIn a ++ loopsIn b
  | .block _ c => loopsIn c
  | .scope c => loopsIn c
  | .cond _ a b => loopsIn a ++ loopsIn b
  | _ => []
noncomputable def lpp (k : Nat) : Code := (((Tryd.f4.body).map loopsIn).getD []).getD k .skip

set_option maxHeartbeats 1000000 in
theorem ee_loop (go n co : Nat) (cur : Array Value) (hn : n ≤ cur.size) (hnb : n ≤ 140737488351232) (Q : Exit → Act → World → Prop) (v : World) (hv : v.heap[go]? = some (.cells cur 5 (0, 0))) (c0 c1 c2 c3 c4 c5 c6 c8 c9 c10 c11 c12 c13 c14 c15 c16 c17 c18 c19 c20 c21 c22 c23 c24 c25 c26 c27 c28 c29 c30 c31 c32 c33 c34 c35 c36 c37 c38 c39 c42 c43 c44 c45 c46 c47 c48 c49 c50 c51 c52 c53 c54 c55 c56 c57 c58 c59 c60 c61 c62 c63 c64 c65 c66 c67 c68 c69 c70 c71 c72 c73 c74 c75 c76 c77 c78 c79 c80 c81 c82 c83 c84 c85 c86 c87 : Value)
    (hQ : ∀ (u8 u41 u42 u43 u44 u45 u46 u47 : Value) (v' : World), Bt go v v' → Q (.exit 2) ⟨#[c0, c1, c2, c3, c4, c5, c6, .slice (some ⟨go, 0, none⟩) n co, u8, c9, c10, c11, c12, c13, c14, c15, c16, c17, c18, c19, c20, c21, c22, c23, c24, c25, c26, c27, c28, c29, c30, c31, c32, c33, c34, c35, c36, c37, c38, c39, .int .i64 n, u41, u42, u43, u44, u45, u46, u47, c48, c49, c50, c51, c52, c53, c54, c55, c56, c57, c58, c59, c60, c61, c62, c63, c64, c65, c66, c67, c68, c69, c70, c71, c72, c73, c74, c75, c76, c77, c78, c79, c80, c81, c82, c83, c84, c85, c86, c87], []⟩ v') :
    Code.wp Tryd.prog (.loop (lpp 1)) Q ⟨#[c0, c1, c2, c3, c4, c5, c6, .slice (some ⟨go, 0, none⟩) n co, c8, c9, c10, c11, c12, c13, c14, c15, c16, c17, c18, c19, c20, c21, c22, c23, c24, c25, c26, c27, c28, c29, c30, c31, c32, c33, c34, c35, c36, c37, c38, c39, .int .i64 n, .int .i64 0, c42, c43, c44, c45, c46, c47, c48, c49, c50, c51, c52, c53, c54, c55, c56, c57, c58, c59, c60, c61, c62, c63, c64, c65, c66, c67, c68, c69, c70, c71, c72, c73, c74, c75, c76, c77, c78, c79, c80, c81, c82, c83, c84, c85, c86, c87], []⟩ v := by
  conv => arg 2; arg 1; whnf
  dsimp only
  dsimp only at hQ
  replace hQ := hide hQ
  replace hv := hide hv
  go_loopw [41] (fun i wr => ∃ (k : Nat) (c' : Array Value), k ≤ n ∧ i = .int .i64 k ∧ c'.size = cur.size ∧ Hid (wr.heap[go]? = some (.cells c' 5 (0, 0))) ∧ Hid (Bt go v wr)) (fun i _ => n - (intOf i).toNat)
  case atStart => exact ⟨0, cur, by omega, rfl, rfl, hv, Bt.refl go v⟩
  case round =>
  clear hv
  obtain ⟨k, c', hk, rfl, hs, hv, hB⟩ := hrel
  by_cases hl : k < n
  · have kI : (k : Int) < (n : Int) := by omega
    have kJ : 0 ≤ (k : Int) ∧ (k : Int) < (n : Int) := by omega
    have kw : IntKind.i64.wrap ((k : Int) + 1) = (k : Int) + 1 := by rw [IntKind.wrap_i64]; omega
    have hks : k < c'.size := by omega
    have cc : wr.cell? ⟨go, k, none⟩ = some (c'[k]'hks) := cell_of (unhide hv) (by simp [hks])
    have cf := froz_of (i := k) (unhide hv)
    have hv2 : Hid ((wr.setCell ⟨go, k, none⟩ (.int .u8 238)).heap[go]? = some (.cells (c'.setIfInBounds k (.int .u8 238)) 5 (0, 0))) := heap_setCell_same _ _ _ _ _ _ (unhide hv)
    have hB2 : Hid (Bt go v (wr.setCell ⟨go, k, none⟩ (.int .u8 238))) := (unhide hB).trans (setCells_bt [.int .u8 238] wr go k)
    generalize c'[k]'hks = old at cc
    go_wp2_with fail
    go_roundw
    case rel => exact ⟨k + 1, _, by omega, by go_num, by simpa using hs, hv2, hB2⟩
    case measure => simp [intOf]; omega
  · have e : k = n := by omega
    subst e
    go_wp2_with fail
    exact (unhide hQ) _ _ _ _ _ _ _ _ _ (unhide hB)

/-- what stands behind all the bytes so far -/
structure PI (w : World) (b g : Nat) (x : Value) (L : List Int) (v : World) : Prop where
  ob : Ob b v x L
  h : H g L v
  gr : Gr w v
  sz : b ≤ v.heap.size
  isB : IsB L
theorem PI.more {w : World} {b g : Nat} {x : Value} {L : List Int} {u v : World} (p : PI w b g x L u) (k : Gr u v) : PI w b g x L v := ⟨p.ob.gr k, p.h.gr k, p.gr.trans k, Nat.le_trans p.sz k.size, p.isB⟩
theorem PI.sl {w : World} {b g n c : Nat} {a : Option Addr} {L : List Int} {v : World} (p : PI w b g (.slice a n c) L v) : Sl v a L := by
  obtain ⟨a6, c6, e6, _, _, hs6⟩ := p.ob.slice
  obtain ⟨rfl, _, _⟩ := (Value.slice.injEq _ _ _ _ _ _).mp e6
  exact hs6
theorem Ob.bt {b g : Nat} {w v : World} {x : Value} {L : List Int} (h : Ob b w x L) (k : Bt g w v) (hg : g < b) : Ob b v x L := by
  obtain ⟨h1, h2 | ⟨p, cap, cur, h2, h3, h4, h5⟩⟩ := h
  · exact ⟨h1, .inl h2⟩
  · exact ⟨h1, .inr ⟨p, cap, cur, h2, h3, k.blk h4 (by omega), h5⟩⟩
theorem Ob.but {b g : Nat} {w v : World} {x : Value} {L : List Int} (h : Ob b w x L) (k : Bt g w v) (hne : ∀ q, x.ownBlock = some q → q ≠ g) : Ob b v x L := by
  obtain ⟨h1, h2 | ⟨p, cap, cur, h2, h3, h4, h5⟩⟩ := h
  · exact ⟨h1, .inl h2⟩
  · exact ⟨h1, .inr ⟨p, cap, cur, h2, h3, k.blk h4 (hne p (by rw [h2]; rfl)), h5⟩⟩
theorem H.grown {b g : Nat} {B L : List Int} {w v : World} {x : Value} (h : H g B w) (ho : Ob b w x L) (hg : g < b) (k : w.grownBy v x.ownBlock) : H g B v := by
  obtain ⟨l, h1, h2, h3, h4⟩ := h
  refine ⟨l, h1, h2, ?_, h4⟩
  rw [k.block g (lt_of_block h3) (fun e => by have := (World.ownsRow.lt ho g e.symm).1; omega)]
  exact h3
set_option maxHeartbeats 2000000 in
theorem pieces_loop (ps : List (List Int)) (m cap : Nat) (hm : ps.length = m) (hmb : m ≤ 140737488351232) (a : Option Addr) (w : World) (b g : Nat) (hg0 : w.heap.size ≤ g) (hgb : g < b) (hP : Ps w a ps) (Q : Exit → Act → World → Prop) (hret : ∀ c t t' d w, Q (.panic c) ⟨t, d⟩ w → Q (.panic c) ⟨t', d⟩ w) (v : World) (hI : PI w b g (.slice none 0 0) [] v) (c0 c1 c2 c5 c6 c7 c8 c9 c10 c11 c12 c16 c17 c18 c19 c20 c21 c22 c23 c24 c25 c26 c27 c28 c29 c30 c31 c32 c33 c34 c35 c36 c37 c38 c39 c40 c41 c42 c43 c44 c45 c46 c47 c48 c49 c50 c51 c52 c53 c54 c55 c56 c57 c58 c59 c60 c61 c62 c63 c64 c65 c66 c67 c68 c69 c70 c71 c72 c73 c74 c75 c76 c77 c78 c79 c80 c81 c82 c83 c84 c85 c86 c87 : Value)
    (hQ : ∀ (u2 u5 u6 u7 u8 u15 u16 u17 u18 u19 u20 u21 u22 u23 u24 u25 u26 u27 u28 u29 u30 u31 u32 u33 u34 u35 u36 u37 u38 u39 u40 u41 u42 u43 u44 u45 u46 u47 u48 u49 u50 u51 u52 u53 u54 u55 u56 u57 u58 u59 u60 u61 u62 u63 u64 u65 u66 u67 u68 x : Value) (L : List Int) (v' : World), L.length ≤ 140737488416768 → PI w b g x L v' → Q (.exit 0) ⟨#[c0, c1, u2, .pointer (some ⟨g, 0, none⟩), x, u5, u6, u7, u8, c9, c10, c11, c12, .slice a m cap, .int .i64 m, u15, u16, u17, u18, u19, u20, u21, u22, u23, u24, u25, u26, u27, u28, u29, u30, u31, u32, u33, u34, u35, u36, u37, u38, u39, u40, u41, u42, u43, u44, u45, u46, u47, u48, u49, u50, u51, u52, u53, u54, u55, u56, u57, u58, u59, u60, u61, u62, u63, u64, u65, u66, u67, u68, c69, c70, c71, c72, c73, c74, c75, c76, c77, c78, c79, c80, c81, c82, c83, c84, c85, c86, c87], []⟩ v') :
    Code.wp Tryd.prog (.loop (lpp 0)) Q ⟨#[c0, c1, c2, .pointer (some ⟨g, 0, none⟩), .slice none 0 0, c5, c6, c7, c8, c9, c10, c11, c12, .slice a m cap, .int .i64 m, .int .i64 0, c16, c17, c18, c19, c20, c21, c22, c23, c24, c25, c26, c27, c28, c29, c30, c31, c32, c33, c34, c35, c36, c37, c38, c39, c40, c41, c42, c43, c44, c45, c46, c47, c48, c49, c50, c51, c52, c53, c54, c55, c56, c57, c58, c59, c60, c61, c62, c63, c64, c65, c66, c67, c68, c69, c70, c71, c72, c73, c74, c75, c76, c77, c78, c79, c80, c81, c82, c83, c84, c85, c86, c87], []⟩ v := by
  conv => arg 2; arg 1; whnf
  dsimp only
  dsimp only at hQ
  replace hQ := hide hQ
  replace hP := hide hP
  replace hI := hide hI
  go_loopw [15, 4] (fun i x wr => ∃ (k c : Nat) (a4 : Option Addr) (L : List Int), k ≤ m ∧ k ≤ 40 ∧ i = .int .i64 k ∧ x = .slice a4 L.length c ∧ L.length ≤ 140737488416768 ∧ Hid (PI w b g (.slice a4 L.length c) L wr)) (fun i _ _ => m - (intOf i).toNat)
  case atStart => exact ⟨0, 0, none, [], by omega, by omega, rfl, rfl, by simp, hI⟩
  case round =>
  clear hI
  obtain ⟨k, c, a4, L, hk, hk40, rfl, rfl, hL, hI⟩ := hrel
  by_cases hl : k < m
  · have kI : (k : Int) < (m : Int) := by omega
    obtain ⟨p, o, rfl, hpt⟩ : ∃ p o, a = some ⟨p, o, none⟩ ∧ Pt w p o ps := by
      rcases (unhide hP) with h | ⟨p, o, h1, h2⟩
      · rw [h] at hm; simp at hm; omega
      · exact ⟨p, o, h1, h2⟩
    obtain ⟨aP, nP, cP, cc, hPl, hPb, hPw, hPc, hPm⟩ := hpt k (by omega)
    replace cc := (unhide hI).gr.cell cc
    clear hpt
    generalize ps.getD k [] = P at *
    replace hPw := hide hPw
    replace hPb := hide hPb
    by_cases h40 : k = 40
    · subst h40
      go_wp2_with fail
      exact (unhide hQ) _ _ _ _ _ _ _ _ _ _ _ _ _ _ _ _ _ _ _ _ _ _ _ _ _ _ _ _ _ _ _ _ _ _ _ _ _ _ _ _ _ _ _ _ _ _ _ _ _ _ _ _ _ _ _ _ _ _ _ _ _ _ hL (unhide hI)
    · have k40 : ¬ (k : Int) = 40 := by omega
      by_cases hbig : 65536 < L.length
      · have hbI : (65536 : Int) < (L.length : Int) := by omega
        go_wp2_with fail
        exact (unhide hQ) _ _ _ _ _ _ _ _ _ _ _ _ _ _ _ _ _ _ _ _ _ _ _ _ _ _ _ _ _ _ _ _ _ _ _ _ _ _ _ _ _ _ _ _ _ _ _ _ _ _ _ _ _ _ _ _ _ _ _ _ _ _ hL (unhide hI)
      · have hbI : ¬ (65536 : Int) < (L.length : Int) := by omega
        go_upto_region 9 with fail
        replace hI := unhide hI
        have hobl : ∀ q, (Value.slice a4 L.length c).ownBlock = some q → q < wr.heap.size := fun q hq => (World.ownsRow.lt hI.ob q hq).2
        have hwsz := hI.gr.size
        have hbsz := hI.sz
        refine wp_region_lit ?_
        iterate 1 (refine wpList_step fun K hK => ?_; replace hK := hide hK; go_simp; refine unhide hK _ _ ?_; clear hK K)
        refine list_call 10 #[.slice aP nP cP] (by kernel_rfl) (by kernel_rfl) ((room_ok P aP nP cP hPl (by omega) _ ((unhide hPw).gr hI.gr)).mono ?_)
        rintro r v1 ⟨x1, rfl, hR, hg⟩
        refine ⟨_, rfl, ?_⟩
        obtain ⟨go, co, cur, rfl, hgo, hcur, hco, hcm, hcs, _, _⟩ := hR.ex
        obtain ⟨go', co', hx', _, _, _, _, hat⟩ := hR.sl
        obtain ⟨rfl, rfl⟩ : go = go' ∧ co = co' := by simpa using hx'
        clear hx'
        replace hI := hI.more hg
        have hgg : go ≠ g := by omega
        replace hobl : ∀ q, (Value.slice a4 L.length c).ownBlock = some q → q ≠ go := fun q hq => by have := hobl q hq; omega
        have hwgo : w.heap.size ≤ go := by omega
        clear hg hR hgo hwsz hbsz
        simp only [Act.put, List.setIfInBounds_toArray, List.set_cons_zero, List.set_cons_succ, List.getElem_toArray, List.getElem_cons_zero, List.getElem_cons_succ]
        replace hI := hide hI
        replace hat := hide hat
        replace hcur := hide hcur
        replace hobl := hide hobl
        iterate 1 (refine wpList_step fun K hK => ?_; replace hK := hide hK; go_simp; refine unhide hK _ _ ?_; clear hK K)
        refine wpList_nil ?_
        go_upto_region 10 with fail
        replace hI := unhide hI
        replace hat := unhide hat
        replace hcur := unhide hcur
        refine wp_region_lit ?_
        iterate 2 (refine wpList_step fun K hK => ?_; replace hK := hide hK; go_simp; refine unhide hK _ _ ?_; clear hK K)
        refine list_call 15 #[.pointer (some ⟨g, 0, none⟩), .slice (some ⟨go, 0, none⟩) nP co] (by kernel_rfl) (by kernel_rfl) ((write_ok g L P (unhide hPb) (by omega) _ nP co hPl (by omega) (by unfold maxLen at hcm; omega) _ hI.h (.inr ⟨go, 0, rfl, hat, hgg⟩)).mono ?_)
        rintro r v2 ⟨rfl, hH, hbt⟩
        refine ⟨_, rfl, ?_⟩
        have hO := hI.ob.bt hbt hgb
        have hG := hbt.gr hI.gr hg0
        have hsz := Nat.le_trans hI.sz hbt.size
        have hLb := hI.isB
        replace hcur := hbt.blk hcur hgg
        replace hat := hat.bt hbt hgg
        clear hI hbt
        simp only [Act.put, List.setIfInBounds_toArray, List.set_cons_zero, List.set_cons_succ, List.getElem_toArray, List.getElem_cons_zero, List.getElem_cons_succ]
        iterate 4 (refine wpList_step fun K hK => ?_; replace hK := hide hK; go_simp; refine unhide hK _ _ ?_; clear hK K)
        refine list_call 13 #[.slice (some ⟨go, 0, none⟩) nP co, .slice aP nP cP] (by kernel_rfl) (by kernel_rfl) ((equal_same P _ aP nP co cP hPl _ (.inr ⟨go, 0, rfl, hat⟩) ((unhide hPw).gr hG)).mono ?_)
        rintro r v3 ⟨rfl, rfl⟩
        refine ⟨_, rfl, ?_⟩
        clear hat
        simp only [Act.put, List.setIfInBounds_toArray, List.set_cons_zero, List.set_cons_succ, List.getElem_toArray, List.getElem_cons_zero, List.getElem_cons_succ]
        iterate 2 (refine wpList_step fun K hK => ?_; replace hK := hide hK; go_simp; refine unhide hK _ _ ?_; clear hK K)
        refine wpList_nil ?_
        replace hO := hide hO
        replace hG := hide hG
        replace hH := hide hH
        replace hsz := hide hsz
        replace hcur := hide hcur
        go_wp2_with fail
        refine ee_loop go nP co cur (by omega) (by omega) _ _ (unhide hcur) _ _ _ _ _ _ _ _ _ _ _ _ _ _ _ _ _ _ _ _ _ _ _ _ _ _ _ _ _ _ _ _ _ _ _ _ _ _ _ _ _ _ _ _ _ _ _ _ _ _ _ _ _ _ _ _ _ _ _ _ _ _ _ _ _ _ _ _ _ _ _ _ _ _ _ _ _ _ _ _ _ _ _ _ _ ?_
        intro q8 q41 q42 q43 q44 q45 q46 q47 v4 hbt
        replace hO := (unhide hO).but hbt (unhide hobl)
        replace hH := (unhide hH).bt hbt (fun e => hgg e.symm)
        replace hG := hbt.gr (unhide hG) hwgo
        replace hsz := Nat.le_trans (unhide hsz) hbt.size
        clear hbt hobl hcur
        replace hO := hide hO
        replace hG := hide hG
        replace hH := hide hH
        replace hsz := hide hsz
        go_upto_region 17 with fail
        replace hO := unhide hO
        replace hG := unhide hG
        replace hH := unhide hH
        replace hsz := unhide hsz
        refine wp_region_lit ?_
        iterate 2 (refine wpList_step fun K hK => ?_; replace hK := hide hK; go_simp; refine unhide hK _ _ ?_; clear hK K)
        refine app_bs (by kernel_rfl) (.tmp 48) (.tmp 49) rfl b (.slice a4 L.length c) L (by kernel_rfl) hO aP nP cP P (by kernel_rfl) hPl ((unhide hPw).gr hG) (by omega) hsz ?_
        intro x5 v5 hO2 hgb2
        replace hH := hH.grown hO hgb hgb2
        replace hG := hO.grown (by omega) hG hgb2
        replace hsz := Nat.le_trans hsz hgb2.size
        clear hgb2 hO
        obtain ⟨a5, c5, rfl, _, _, _⟩ := hO2.slice
        have hLP : (L ++ P).length ≤ 140737488416768 := by rw [List.length_append, hPl]; omega
        have hLPb : IsB (L ++ P) := isB_append hLb (unhide hPb)
        obtain ⟨M, hM⟩ : ∃ M, M = L ++ P := ⟨_, rfl⟩
        rw [← hM] at hO2 hH hLP hLPb
        rw [← hM]
        clear hM hLb hL hPw hPb hPl hPc hPm cc hbI hbig
        have hI : PI w b g (.slice a5 M.length c5) M v5 := ⟨hO2, hH, hG, hsz, hLPb⟩
        clear hO2 hH hG hsz
        simp only [Act.put, List.setIfInBounds_toArray, List.set_cons_zero, List.set_cons_succ, List.getElem_toArray, List.getElem_cons_zero, List.getElem_cons_succ]
        replace hI := hide hI
        replace hLPb := hide hLPb
        iterate 1 (refine wpList_step fun K hK => ?_; replace hK := hide hK; go_simp; refine unhide hK _ _ ?_; clear hK K)
        refine wpList_nil ?_
        go_upto_region 18 with fail
        replace hI := unhide hI
        refine wp_region_lit ?_
        iterate 1 (refine wpList_step fun K hK => ?_; replace hK := hide hK; go_simp; refine unhide hK _ _ ?_; clear hK K)
        refine list_call 16 #[.pointer (some ⟨g, 0, none⟩)] (by kernel_rfl) (by kernel_rfl) ((len_ok g M _ hI.h).mono ?_)
        rintro r v6 ⟨rfl, rfl⟩
        refine ⟨_, rfl, ?_⟩
        simp only [Act.put, List.setIfInBounds_toArray, List.set_cons_zero, List.set_cons_succ, List.getElem_toArray, List.getElem_cons_zero, List.getElem_cons_succ]
        have e1 : Int.tmod (k : Int) 3 = (k : Int) % 3 := by rw [Int.tmod_eq_emod_of_nonneg (by omega)]
        have e2 : IntKind.i64.wrap ((k : Int) % 3) = (k : Int) % 3 := by rw [IntKind.wrap_i64]; omega
        replace hI := hide hI
        by_cases h3 : (k : Int) % 3 = 0
        · iterate 9 (refine wpList_step fun K hK => ?_; replace hK := hide hK; go_simp; refine unhide hK _ _ ?_; clear hK K)
          replace hI := unhide hI
          refine list_call 17 #[.pointer (some ⟨g, 0, none⟩)] (by kernel_rfl) (by kernel_rfl) ((hsum_ok g M (by omega) _ hI.h).mono ?_)
          rintro r v7 ⟨rfl, hg⟩
          refine ⟨_, rfl, ?_⟩
          replace hI := hI.more hg
          clear hg
          simp only [Act.put, List.setIfInBounds_toArray, List.set_cons_zero, List.set_cons_succ, List.getElem_toArray, List.getElem_cons_zero, List.getElem_cons_succ]
          iterate 1 (refine wpList_step fun K hK => ?_; replace hK := hide hK; go_simp; refine unhide hK _ _ ?_; clear hK K)
          refine list_call 12 #[.slice a5 M.length c5] (by kernel_rfl) (by kernel_rfl) ((rsum_ok M (unhide hLPb) M.length rfl (by omega) a5 c5 _ hI.sl).mono ?_)
          rintro r v8 ⟨rfl, hg⟩
          refine ⟨_, rfl, ?_⟩
          replace hI := hI.more hg
          clear hg
          simp only [Act.put, List.setIfInBounds_toArray, List.set_cons_zero, List.set_cons_succ, List.getElem_toArray, List.getElem_cons_zero, List.getElem_cons_succ]
          have hkk : (sumL M).length = 32 := sumL_len M
          generalize sumL M = kk at *
          have hke := key_refl kk hkk
          replace hI := hide hI
          iterate 3 (refine wpList_step fun K hK => ?_; replace hK := hide hK; go_simp; refine unhide hK _ _ ?_; clear hK K)
          refine wpList_nil ?_
          go_wp2_with fail
          go_roundw
          case rel => exact ⟨k + 1, _, _, M, by omega, by omega, by go_num, rfl, hLP, hI⟩
          case measure => simp [intOf]; omega
        · iterate 15 (refine wpList_step fun K hK => ?_; replace hK := hide hK; go_simp; refine unhide hK _ _ ?_; clear hK K)
          refine wpList_nil ?_
          go_wp2_with fail
          go_roundw
          case rel => exact ⟨k + 1, _, _, M, by omega, by omega, by go_num, rfl, hLP, hI⟩
          case measure => simp [intOf]; omega
  · have e : k = m := by omega
    subst e
    go_wp2_with fail
    exact (unhide hQ) _ _ _ _ _ _ _ _ _ _ _ _ _ _ _ _ _ _ _ _ _ _ _ _ _ _ _ _ _ _ _ _ _ _ _ _ _ _ _ _ _ _ _ _ _ _ _ _ _ _ _ _ _ _ _ _ _ _ _ _ _ _ hL (unhide hI)
end Go.Proofs.YtnjgcenanpkelaaDoor
