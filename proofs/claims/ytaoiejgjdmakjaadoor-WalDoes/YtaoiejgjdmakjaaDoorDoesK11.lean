/-
  Of layer 12: what the proof leans on.
-/
import Derived.Test.YtaoiejgjdmakjaaDoorDoesK10
namespace Go.Proofs.YtaoiejgjdmakjaaDoor
open Go.RowKit
set_option maxRecDepth 100000
set_option linter.unusedSimpArgs false
set_option linter.unusedVariables false
theorem own_blk (z : Option Addr) (n c q : Nat) : (Value.slice z n c).ownBlock = some q ↔ blkOf z = some q := by cases z <;> simp [Value.ownBlock, blkOf]
theorem owns_keep {b : Nat} {e : TypeId} {k n : Nat} {W W' : World} {v : Value} {xs : List Value} (h : W.ownsRow b e k v n xs) (hk : ∀ p, v.ownBlock = some p → W'.heap[p]? = W.heap[p]?) : W'.ownsRow b e k v n xs := by
  refine ⟨h.1, ?_⟩
  rcases h.2 with h | ⟨p, cap, cur, h1, h2, h3, h4⟩
  · exact .inl h
  · exact .inr ⟨p, cap, cur, h1, h2, (hk p (by rw [h1]; rfl)).trans h3, h4⟩
def LgQ (H : List Nat) (l gs : Nat) (L : List Int) (X : List (List Int)) (vs : List Value) (sa : Option Addr) (sn sc : Nat) (v : World) : Prop := Ob 0 v (.slice sa sn sc) L ∧ ∀ i, i < X.length → Ob 0 v (vs.getD i undef) (X.getD i [])
theorem ob_grown2 {b b2 : Nat} {w w' : World} {s v : Value} {x : List Int} {R : List (List Value)} (ho : Ob b w s x) (hr : Or_ 1 32 b2 w v R) (g : w.grownBy w' v.ownBlock) : Ob b w' s x := by
  refine ⟨ho.1, ?_⟩
  rcases ho.2 with h | ⟨p, cap, cur, h1, h2, h3, h4⟩
  · exact .inl h
  · exact .inr ⟨p, cap, cur, h1, h2, grown_other hr g h3 (fun c e => by injection e with _ e2 _; exact absurd e2 (by decide)), h4⟩
theorem getD_app_left {α : Type} {a b : List α} {i : Nat} {d : α} (h : i < a.length) : (a ++ b).getD i d = a.getD i d := by
  rw [List.getD_eq_getElem?_getD, List.getD_eq_getElem?_getD, List.getElem?_append_left h]
theorem ob_zero {b : Nat} {w : World} {v : Value} {L : List Int} (h : Ob b w v L) : Ob 0 w v L := by
  refine ⟨h.1, ?_⟩
  rcases h.2 with h | ⟨p, cap, cur, h1, h2, h3⟩
  · exact .inl h
  · exact .inr ⟨p, cap, cur, h1, Nat.zero_le _, h3⟩
theorem ob_blk {b : Nat} {w : World} {v : Value} {L : List Int} (h : Ob b w v L) {p : Nat} (hp : v.ownBlock = some p) : b ≤ p ∧ ∃ cur, w.heap[p]? = some (.cells cur 5 (0, 0)) := by
  rcases h.2 with ⟨rfl, _⟩ | ⟨q, cap, cur, rfl, h2, h3, _⟩
  · simp [Value.ownBlock] at hp
  · have e : q = p := by simpa [Value.ownBlock] using hp
    subst e
    exact ⟨h2, cur, h3⟩
structure LgP (H : List Nat) (l gs : Nat) (L : List Int) (X : List (List Int)) (bk : Bool) (sa : Option Addr) (sn sc : Nat) (xa : Option Addr) (xc : Nat) (vs : List Value) (v : World) : Prop where
  cel : v.heap[l]? = some (.cells (lgv gs sa sn sc xa X.length xc bk) 69 (0, 0))
  snp : Ob 0 v (.slice sa sn sc) L
  snh : ∀ p, blkOf sa = some p → p ∈ H
  txs : Or_ 1 32 0 v (.slice xa X.length xc) (vs.map fun s => [s])
  txh : ∀ p, blkOf xa = some p → p ∈ H
  vl : vs.length = X.length
  ob : ∀ i, i < X.length → Ob 0 v (vs.getD i undef) (X.getD i [])
  obh : ∀ i, i < X.length → ∀ p, (vs.getD i undef).ownBlock = some p → p ∈ H
structure Lg (H : List Nat) (l gs : Nat) (L : List Int) (X : List (List Int)) (bk : Bool) (v : World) : Prop where
  lt : ∀ i ∈ H, i < v.heap.size
  mem : l ∈ H
  li : IsB L ∧ L.length ≤ 100000
  xi : ∀ x ∈ X, IsB x ∧ x.length ≤ 100000
  st : ∃ sa sn sc xa xc vs, LgP H l gs L X bk sa sn sc xa xc vs v
theorem LgP.keep {H : List Nat} {l gs : Nat} {L : List Int} {X : List (List Int)} {bk : Bool} {sa : Option Addr} {sn sc : Nat} {xa : Option Addr} {xc : Nat} {vs : List Value} {v u : World} (h : LgP H l gs L X bk sa sn sc xa xc vs v) (hm : l ∈ H) (k : ∀ i ∈ H, u.heap[i]? = v.heap[i]?) : LgP H l gs L X bk sa sn sc xa xc vs u :=
  ⟨(k l hm).trans h.cel, owns_keep h.snp (fun p e => k p (h.snh p ((own_blk _ _ _ _).1 e))), h.snh, or_keep h.txs (fun i hi => k i (h.txh i hi)), h.txh, h.vl, fun i hi => owns_keep (h.ob i hi) (fun p e => k p (h.obh i hi p e)), h.obh⟩
theorem Lg.keep {H : List Nat} {l gs : Nat} {L : List Int} {X : List (List Int)} {bk : Bool} {v u : World} (h : Lg H l gs L X bk v) (hs : v.heap.size ≤ u.heap.size) (k : ∀ i ∈ H, u.heap[i]? = v.heap[i]?) : Lg H l gs L X bk u := by
  obtain ⟨sa, sn, sc, xa, xc, vs, q⟩ := h.st
  exact ⟨fun i hi => Nat.lt_of_lt_of_le (h.lt i hi) hs, h.mem, h.li, h.xi, sa, sn, sc, xa, xc, vs, q.keep h.mem k⟩
theorem Lg.gr {H : List Nat} {l gs : Nat} {L : List Int} {X : List (List Int)} {bk : Bool} {v u : World} (h : Lg H l gs L X bk v) (k : Gr v u) : Lg H l gs L X bk u := h.keep k.size (fun i hi => k.block i (h.lt i hi))
theorem LgP.lq {H : List Nat} {l gs : Nat} {L : List Int} {X : List (List Int)} {bk : Bool} {sa : Option Addr} {sn sc : Nat} {xa : Option Addr} {xc : Nat} {vs : List Value} {v : World} (h : LgP H l gs L X bk sa sn sc xa xc vs v) (hx : ∀ x ∈ X, IsB x ∧ x.length ≤ 100000) : Lq v xa X.length xc X := by
  have ho : Ox 0 v (.slice xa X.length xc) X := ⟨⟨vs, h.txs, h.vl, h.ob⟩, fun x hx2 => ⟨(hx x hx2).1, by have := (hx x hx2).2; omega⟩⟩
  obtain ⟨a, c, e, hl⟩ := ho.lq
  injection e with e1 _ e3
  subst e1 e3
  exact hl
theorem LgP.lb {H : List Nat} {l gs : Nat} {L : List Int} {X : List (List Int)} {bk : Bool} {sa : Option Addr} {sn sc : Nat} {xa : Option Addr} {xc : Nat} {vs : List Value} {v : World} (h : LgP H l gs L X bk sa sn sc xa xc vs v) (hb : IsB L) : Lb v sa sn sc L := by
  obtain ⟨a, c, e, hl⟩ := ob_lb h.snp hb rfl
  injection e with e1 e2 e3
  subst e1 e2 e3
  exact hl
def App (F H : List Nat) (l gs gd : Nat) (D : Dk) (s : Sup) (L : List Int) (X : List (List Int)) (M : List Int) (w : World) (r : Ending) (w' : World) : Prop := ∃ F' H', r = .returned (.int .i64 (Dk.runD (appOps (lgo D.safe.length) s.turn X.length (usd X) M) D).2) ∧ Lies F' gd (Dk.runD (appOps (lgo D.safe.length) s.turn X.length (usd X) M) D).1 w' ∧ Lg H' l gs L (if (Dk.runD (appOps (lgo D.safe.length) s.turn X.length (usd X) M) D).2 = 0 then X ++ [M] else X) (decide (¬ (Dk.runD (appOps (lgo D.safe.length) s.turn X.length (usd X) M) D).2 = 0)) w' ∧ (∀ i ∈ F', i ∉ H') ∧ (∀ i ∈ H', i ∈ H ∨ w.heap.size ≤ i) ∧ (gs ∉ H') ∧ Chg (F ++ H) (F' ++ H') w w'
theorem lgv_set3 {v : World} {l gs : Nat} {sa : Option Addr} {sn sc : Nat} {xa : Option Addr} {xn xc : Nat} {bk : Bool} (h : v.heap[l]? = some (.cells (lgv gs sa sn sc xa xn xc bk) 69 (0, 0))) (b : Bool) : (v.setCell ⟨l, 3, none⟩ (.bool b)).heap[l]? = some (.cells (lgv gs sa sn sc xa xn xc b) 69 (0, 0)) :=
  setCells_heap [.bool b] v l 3 [.pointer (some ⟨gs, 0, none⟩), .slice sa sn sc, .slice xa xn xc, .bool bk] 69 h
theorem lgv_set2 {v : World} {l gs : Nat} {sa : Option Addr} {sn sc : Nat} {xa : Option Addr} {xn xc : Nat} {bk : Bool} (h : v.heap[l]? = some (.cells (lgv gs sa sn sc xa xn xc bk) 69 (0, 0))) (ya : Option Addr) (yn yc : Nat) : (v.setCell ⟨l, 2, none⟩ (.slice ya yn yc)).heap[l]? = some (.cells (lgv gs sa sn sc ya yn yc bk) 69 (0, 0)) :=
  setCells_heap [.slice ya yn yc] v l 2 [.pointer (some ⟨gs, 0, none⟩), .slice sa sn sc, .slice xa xn xc, .bool bk] 69 h
theorem lgv_set1 {v : World} {l gs : Nat} {sa : Option Addr} {sn sc : Nat} {xa : Option Addr} {xn xc : Nat} {bk : Bool} (h : v.heap[l]? = some (.cells (lgv gs sa sn sc xa xn xc bk) 69 (0, 0))) (ya : Option Addr) (yn yc : Nat) : (v.setCell ⟨l, 1, none⟩ (.slice ya yn yc)).heap[l]? = some (.cells (lgv gs ya yn yc xa xn xc bk) 69 (0, 0)) :=
  setCells_heap [.slice ya yn yc] v l 1 [.pointer (some ⟨gs, 0, none⟩), .slice sa sn sc, .slice xa xn xc, .bool bk] 69 h
theorem LgP.put {H : List Nat} {l gs : Nat} {L : List Int} {X : List (List Int)} {bk b2 : Bool} {sa : Option Addr} {sn sc : Nat} {xa : Option Addr} {xc : Nat} {vs : List Value} {v u : World} (h : LgP H l gs L X bk sa sn sc xa xc vs v) (k : Bt l v u) (hc : u.heap[l]? = some (.cells (lgv gs sa sn sc xa X.length xc b2) 69 (0, 0))) : LgP H l gs L X b2 sa sn sc xa xc vs u := by
  exact ⟨hc, owns_bt h.snp h.cel (by decide) k, h.snh, ⟨h.txs.1, owns_bt h.txs.2 h.cel (by decide) k⟩, h.txh, h.vl, fun i hi => owns_bt (h.ob i hi) h.cel (by decide) k, h.obh⟩
set_option maxHeartbeats 4000000 in
theorem lappend_ok (F G H : List Nat) (l gs gd m : Nat) (D : Dk) (s : Sup) (hD : D.Ok m) (hm : m ≤ 800000) (hd : D.dead = false) (hp : D.pend = []) (hcn : cntS (D.cur 0) (D.cur 1) = (s, true)) (hn64 : 64 ≤ D.safe.length) (hst : s.turn < 18446744073709551616) (L : List Int) (X : List (List Int)) (w : World) (hL : Lies F gd D w) (hs : Sto G gs gd D.safe.length s w) (hlg : Lg H l gs L X false w) (hFH : ∀ i ∈ F, i ∉ H) (hgH : gs ∉ H) (M : List Int) (a : Option Addr) (n c : Nat) (hM : Lb w a n c M) (hMa : M = [] ∨ ∀ i, i ∈ F ∨ i ∈ H → blkOf a ≠ some i) (hfit : usd X + ned M.length ≤ D.safe.length - lgo D.safe.length) (hf : Fst w) (h0 : 0 ∉ F) : Calls Tryd.prog 17 #[P0 l, .slice a n c] w (App F H l gs gd D s L X M w) := by
  obtain ⟨T, hT⟩ : ∃ T, T = App F H l gs gd D s L X M w := ⟨_, rfl⟩
  rw [← hT]
  replace hT := hide hT
  have h512 := hD.hi1
  have hMl := hM.len
  have hnb : n ≤ 100000 := by rw [← hMl]; unfold ned at hfit; omega
  obtain ⟨sa, sn, sc, xa, xc, vs, hq⟩ := hlg.st
  have hXb := hlg.xi
  have hlq := hq.lq hXb
  have hcel := hq.cel
  have hxu := usd_ge X
  have hfit0 := hfit
  have hfit2 : decide (0 ≤ (n : Int) ∧ nedI (n : Int) ≤ ((D.safe.length - 2 - 2 * ((D.safe.length - 2) / 4) - usd X : Nat) : Int)) = true := by
    rw [nedI_nat]
    rw [hMl] at hfit
    unfold lgo at hfit
    exact decide_eq_true ⟨by omega, by omega⟩
  obtain ⟨AP, hAP⟩ : ∃ A, A = (Dk.runD (appOps (lgo D.safe.length) s.turn X.length (usd X) M) D) := ⟨_, rfl⟩
  have hR0 : Hid (T = fun r w' => ∃ F' H', r = .returned (.int .i64 AP.2) ∧ Lies F' gd AP.1 w' ∧ Lg H' l gs L (if AP.2 = 0 then X ++ [M] else X) (decide (¬ AP.2 = 0)) w' ∧ (∀ i ∈ F', i ∉ H') ∧ (∀ i ∈ H', i ∈ H ∨ w.heap.size ≤ i) ∧ (gs ∉ H') ∧ Chg (F ++ H) (F' ++ H') w w') := by show T = _; rw [unhide hT, hAP]; rfl
  clear hT
  obtain ⟨e, he⟩ : ∃ e, e = AP.2 := ⟨_, rfl⟩
  have hul : usd X ≤ D.safe.length - 2 - 2 * ((D.safe.length - 2) / 4) := by unfold lgo at hfit; omega
  replace hD := hide hD; replace hL := hide hL; replace hs := hide hs; replace hlg := hide hlg; replace hq := hide hq; replace hlq := hide hlq; replace hcel := hide hcel; replace hM := hide hM; replace hMa := hide hMa; replace hf := hide hf; replace hAP := hide hAP; replace hcn := hide hcn; replace hp := hide hp; replace hd := hide hd; replace hMl := hide hMl; replace hXb := hide hXb; replace hFH := hide hFH; replace hfit2 := hide hfit2; replace hfit0 := hide hfit0; replace he := hide he; replace hul := hide hul; replace hxu := hide hxu
  clear hfit
  have hB := Bl.nil w
  go_enter Tryd.func17, Tryd.ntmps17
  go_upto_region 3 with fail
  refine wp_region_lit ?_
  refine list_val (.pointer (some ⟨l, 0, none⟩)) (by kernel_rfl) (by kernel_rfl) ?_
  simp only [nrm]
  refine list_val (.pointer (some ⟨l, 0, none⟩)) (by kernel_rfl) (by kernel_rfl) ?_
  simp only [nrm]
  refine list_val (.pointer (some ⟨l, 3, none⟩)) (by kernel_rfl) (by kernel_rfl) ?_
  simp only [nrm]
  refine list_val (.bool false) (by kernel_rfl) (exec_bool _ (.tmp 10) rfl l 3 (by kernel_rfl) false (cell_of (unhide hcel) (i := 3) rfl)) ?_
  simp only [nrm]
  refine wpList_nil ?_
  replace hB := hide hB
  go_upto_region 5 with fail
  replace hB := unhide hB
  refine wp_region_lit ?_
  refine list_val (.pointer (some ⟨l, 0, none⟩)) (by kernel_rfl) (by kernel_rfl) ?_
  simp only [nrm]
  refine list_val (.slice a n c) (by kernel_rfl) (by kernel_rfl) ?_
  simp only [nrm]
  refine list_val (.int .i64 (n : Int)) (by kernel_rfl) (by kernel_rfl) ?_
  simp only [nrm]
  refine list_call 16 #[P0 l, .int .i64 (n : Int)] (by kernel_rfl) (by kernel_rfl) ((lroom_ok l gs sa sn sc xa X.length xc false w (unhide hcel) X (unhide hlq) (by have := unhide hxu; have := unhide hul; omega) G gd D.safe.length s (by omega) (unhide hs) (n : Int) (by omega) (by omega) _ rfl (unhide hul)).mono ?_)
  rintro r u1 ⟨rfl, hg⟩
  rw [unhide hfit2]
  replace hB := hB.more hg
  clear hg
  refine ⟨_, rfl, ?_⟩
  simp only [nrm]
  refine list_val (.bool false) (by kernel_rfl) (by kernel_rfl) ?_
  simp only [nrm]
  refine wpList_nil ?_
  replace hB := hide hB
  go_upto_region 7 with fail
  replace hB := unhide hB
  refine wp_region_lit ?_
  refine list_val (.pointer (some ⟨l, 0, none⟩)) (by kernel_rfl) (by kernel_rfl) ?_
  simp only [nrm]
  refine list_val (.slice a n c) (by kernel_rfl) (by kernel_rfl) ?_
  simp only [nrm]
  have hG1 := hB.gr
  clear hB
  refine list_call 34 #[P0 l, .slice a n c] (by kernel_rfl) (by kernel_rfl) ((llay_ok F G l gs gd m D s (unhide hD) hm (unhide hd) (unhide hp) (unhide hcn) hn64 hst sa sn sc xa xc false X u1 ((unhide hL).gr hG1) ((unhide hs).gr hG1) (hG1.blk (unhide hcel)) ((unhide hlq).gr hG1) M a n c ((unhide hM).gr hG1) ((unhide hMa).imp id (fun h i hi => h i (.inl hi))) (unhide hfit0) ((unhide hf).gr hG1) h0).mono ?_)
  rintro r u2 ⟨F', rfl, hL2, hC2⟩
  rw [← unhide hAP] at hL2 ⊢
  rw [← unhide he]
  have hC3 := hide (hG1.chg hC2)
  have hsz2 : u1.heap.size ≤ u2.heap.size := hC2.size
  have hszw : w.heap.size ≤ u1.heap.size := hG1.size
  have hq2 : LgP H l gs L X false sa sn sc xa xc vs u2 := (unhide hq).keep (unhide hlg).mem (fun i hi => (unhide hC3).block i ((unhide hlg).lt i hi) (fun e => (unhide hFH) i e hi))
  replace hL2 := hide hL2; replace hq2 := hide hq2
  clear hC2 hG1
  refine ⟨_, rfl, ?_⟩
  simp only [nrm]
  (refine wpList_step fun K hK => ?_; replace hK := hide hK; go_simp; refine unhide hK _ _ ?_; clear hK K)
  refine wpList_nil ?_
  by_cases hez : e = 0
  · skip
    subst hez
    have hF'new : Hid (∀ i ∈ F', i ∈ F ∨ w.heap.size ≤ i) := (unhide hC3).new
    have hcel2 := (unhide hq2).cel
    have hM2 : Lb u2 a n c M := (unhide hM).chg (unhide hC3) (by
      rcases (unhide hM).sl with h | ⟨p, o, h, _⟩
      · exact .inl h
      · rcases unhide hMa with h2 | h2
        · exact .inl h2
        · exact .inr ⟨p, by rw [h]; rfl, fun e => h2 p (.inl e) (by rw [h]; rfl)⟩)
    replace hcel2 := hide hcel2; replace hM2 := hide hM2
    go_upto_region 11 with fail
    refine anyC_start 11 (fun (v : World) => v.heap[l]? = some (.cells (lgv gs sa sn sc xa X.length xc false) 69 (0, 0))) (by kernel_rfl) ?_
    have hG := (Gr.refl u2).drew
    generalize World.drew _ = x0 at *
    have hS : (fun (v : World) => v.heap[l]? = some (.cells (lgv gs sa sn sc xa X.length xc false) 69 (0, 0))) x0 := hG.blk (unhide hcel2)
    simp only [List.size_toArray, List.length_cons, List.length_nil, Array.replicate, List.replicate]
    refine anyC_take (i := 0) (v := (.pointer (some ⟨l, 0, none⟩))) (fun (v : World) => v.heap[l]? = some (.cells (lgv gs sa sn sc xa X.length xc false) 69 (0, 0))) (fun _ h_ => h_) (.inr (by kernel_rfl)) rfl (by kernel_rfl) (by kernel_rfl) (by kernel_rfl) (by decide) (by kernel_rfl) (by decide) (fun _ _ _ h => h) (.inl ⟨by kernel_rfl, fun x_ hu => by kernel_rfl⟩) hS ?_
    simp only [nrm]
    refine anyC_take (i := 1) (v := (.pointer (some ⟨l, 0, none⟩))) (fun (v : World) => v.heap[l]? = some (.cells (lgv gs sa sn sc xa X.length xc false) 69 (0, 0))) (fun _ h_ => h_) (.inr (by kernel_rfl)) rfl (by kernel_rfl) (by kernel_rfl) (by kernel_rfl) (by decide) (by kernel_rfl) (by decide) (fun _ _ _ h => h) (.inl ⟨by kernel_rfl, fun x_ hu => by kernel_rfl⟩) hS ?_
    simp only [nrm]
    refine anyC_take (i := 2) (v := (.pointer (some ⟨l, 0, none⟩))) (fun (v : World) => v.heap[l]? = some (.cells (lgv gs sa sn sc xa X.length xc false) 69 (0, 0))) (fun _ h_ => h_) (.inr (by kernel_rfl)) rfl (by kernel_rfl) (by kernel_rfl) (by kernel_rfl) (by decide) (by kernel_rfl) (by decide) (fun _ _ _ h => h) (.inl ⟨by kernel_rfl, fun x_ hu => by kernel_rfl⟩) hS ?_
    simp only [nrm]
    refine anyC_take (i := 3) (v := (.pointer (some ⟨l, 2, none⟩))) (fun (v : World) => v.heap[l]? = some (.cells (lgv gs sa sn sc xa X.length xc false) 69 (0, 0))) (fun _ h_ => h_) (.inr (by kernel_rfl)) rfl (by kernel_rfl) (by kernel_rfl) (by kernel_rfl) (by decide) (by kernel_rfl) (by decide) (fun _ _ _ h => h) (.inl ⟨by kernel_rfl, fun x_ hu => by kernel_rfl⟩) hS ?_
    simp only [nrm]
    refine anyC_take (i := 4) (v := (.slice xa X.length xc)) (fun (v : World) => v.heap[l]? = some (.cells (lgv gs sa sn sc xa X.length xc false) 69 (0, 0))) (fun _ h_ => h_) (.inr (by kernel_rfl)) rfl (by kernel_rfl) (by kernel_rfl) (by kernel_rfl) (by decide) (by kernel_rfl) (by decide) (fun _ _ _ h => h) (.inl ⟨by kernel_rfl, fun x_ hu => exec_sx _ (.tmp 29) rfl l 2 (by kernel_rfl) xa X.length xc (cell_of hu (i := 2) rfl)⟩) hS ?_
    simp only [nrm]
    refine anyC_take (i := 5) (v := (.slice a n c)) (fun (v : World) => v.heap[l]? = some (.cells (lgv gs sa sn sc xa X.length xc false) 69 (0, 0))) (fun _ h_ => h_) (.inr (by kernel_rfl)) rfl (by kernel_rfl) (by kernel_rfl) (by kernel_rfl) (by decide) (by kernel_rfl) (by decide) (fun _ _ _ h => h) (.inl ⟨by kernel_rfl, fun x_ hu => by kernel_rfl⟩) hS ?_
    simp only [nrm]
    refine anyC_one (i := 6) (by kernel_rfl) rfl (fun K_ hQ => ?_)
    refine step_callw (by kernel_rfl) 35 #[.slice a n c] (by kernel_rfl) ((clone_any M a n c x0 ((unhide hM2).gr hG) hnb).mono ?_)
    rintro r x1 ⟨vv, rfl, hob, hg⟩
    refine ⟨_, rfl, ?_⟩
    obtain ⟨ca, cc, rfl, -⟩ := ob_lb hob (unhide hM).isB (unhide hMl)
    replace hS : (fun (v : World) => v.heap[l]? = some (.cells (lgv gs sa sn sc xa X.length xc false) 69 (0, 0))) x1 := hg.blk hS
    have hxs : u2.heap.size ≤ x0.heap.size := hG.size
    have hob2 := ob_base hob hxs
    replace hG := hG.trans hg
    clear hg hob
    refine hQ.out _ _ hS (fun _ => ?_)
    clear hQ K_
    simp only [nrm]
    refine anyC_one (i := 7) (by kernel_rfl) rfl (fun K_ hQ => ?_)
    refine step_val (.slice (some ⟨x1.heap.size, 0, none⟩) 1 1) (x1.alloc (.cells #[.slice ca n cc] 32 (0, 0))) (by kernel_rfl) (by kernel_rfl) ?_
    have hga := (Gr.refl x1).alloc (.cells #[.slice ca n cc] 32 (0, 0))
    have hnb2 : (x1.alloc (.cells #[.slice ca n cc] 32 (0, 0))).heap[x1.heap.size]? = some (.cells #[.slice ca n cc] 32 (0, 0)) := blk_new _ _
    replace hS : (fun (v : World) => v.heap[l]? = some (.cells (lgv gs sa sn sc xa X.length xc false) 69 (0, 0))) _ := hga.blk hS
    replace hG := hG.trans hga
    replace hob2 := hob2.gr hga
    clear hga
    generalize World.alloc _ _ = x2 at *
    generalize x1.heap.size = gz at *
    refine hQ.out _ _ hS (fun _ => ?_)
    clear hQ K_
    simp only [nrm]
    refine anyC_one (i := 8) (by kernel_rfl) rfl (fun K_ hQ => ?_)
    rw [if_pos (by kernel_rfl)]
    refine app_row1 lt_s (.tmp 30) (.tmp 33) rfl (.slice xa X.length xc) (vs.map fun s => [s]) rfl ((unhide hq2).txs.gr hG) gz 0 1 [.slice ca n cc] rfl rfl (fun j x hj => cell_of hnb2 (by rw [Nat.zero_add, List.getElem?_toArray]; exact hj)) (by intro q hq; rw [List.mem_singleton] at hq; subst hq; rfl) (by rw [List.length_map, (unhide hq2).vl]; have := unhide hxu; have := unhide hul; omega) ?_
    intro v4_ x3 hOs hgr hwh
    have hno : ∀ (c : Array Value) (t : TypeId) (q : Nat), t ≠ 32 → x2.heap[q]? = some (.cells c t (0, 0)) → x3.heap[q]? = some (.cells c t (0, 0)) := fun c t q ht hq => grown_other ((unhide hq2).txs.gr hG) hgr hq (fun c2 e => by injection e with _ e2 _; exact ht e2)
    have hS3 := hno _ _ _ (by decide) hS
    have hob3 : Ob u2.heap.size x3 (.slice ca n cc) M := ob_grown2 hob2 ((unhide hq2).txs.gr hG) hgr
    obtain ⟨ya, yc, rfl, -⟩ := hOs.ls
    have hpl : (((vs.map fun s => [s]) ++ [[.slice ca n cc]]) : List (List Value)).length = X.length + 1 := by rw [List.length_append, List.length_map, (unhide hq2).vl]; rfl
    rw [hpl] at hOs hwh ⊢
    obtain ⟨yn, hyn⟩ : ∃ x, x = X.length + 1 := ⟨_, rfl⟩
    rw [← hyn] at hOs hwh ⊢
    have hwh2 : Hid (∀ p, blkOf ya = some p → p ∈ H ∨ u2.heap.size ≤ p) := by
      intro p hp9
      have h9 := (own_blk ya yn yc p).2 hp9
      rcases hwh with h | h
      · rw [h9] at h
        exact .inl ((unhide hq2).txh p ((own_blk _ _ _ _).1 h.symm))
      · rw [h9] at h
        have h8 := Option.some.inj h
        exact .inr (by have := hG.size; omega)
    have hch3 : Hid (Chg H H u2 x3) := by
      refine ⟨hgr.os.trans hG.os, hgr.tape.trans hG.tape, hgr.output.trans hG.output, Nat.le_trans hG.size hgr.size, fun i hi hn => ?_, fun i hi => .inl hi⟩
      rw [hgr.block i (Nat.lt_of_lt_of_le hi hG.size) (fun e => hn ((unhide hq2).txh i ((own_blk _ _ _ _).1 e.symm)))]
      exact hG.block i hi
    have hq3 : Hid (LgQ H l gs L X vs sa sn sc x3) := by
      refine ⟨?_, fun i hi => ob_grown2 (((unhide hq2).ob i hi).gr hG) ((unhide hq2).txs.gr hG) hgr⟩
      exact ob_grown2 ((unhide hq2).snp.gr hG) ((unhide hq2).txs.gr hG) hgr
    replace hyn := hide hyn; replace hob3 := hide hob3
    clear hS
    have hS := hS3
    clear hgr hwh hpl hno hG hnb2 hS3 hob2
    refine hQ.out _ _ hS (fun _ => ?_)
    clear hQ K_
    simp only [nrm]
    refine anyC_take (i := 9) (v := (.pointer (some ⟨l, 0, none⟩))) (fun _ => True) (fun _ _ => trivial) (.inl (fun _ => trivial)) rfl (by kernel_rfl) (by kernel_rfl) (by kernel_rfl) (by decide) (by kernel_rfl) (by decide) (fun _ _ _ h => h) (.inl ⟨by kernel_rfl, fun x_ hu => by kernel_rfl⟩) hS ?_
    simp only [nrm]
    refine anyC_take (i := 10) (v := (.pointer (some ⟨l, 2, none⟩))) (fun (v : World) => v.heap[l]? = some (.cells (lgv gs sa sn sc xa X.length xc false) 69 (0, 0))) (fun _ h_ => h_) (.inr (by kernel_rfl)) rfl (by kernel_rfl) (by kernel_rfl) (by kernel_rfl) (by decide) (by kernel_rfl) (by decide) (fun _ _ _ h => h) (.inl ⟨by kernel_rfl, fun x_ hu => by kernel_rfl⟩) hS ?_
    simp only [nrm]
    refine anyC_last (by kernel_rfl) rfl (fun K_ hQ => ?_)
    have c4 := cell_of hS (i := 2) rfl
    have fz := froz_of (i := 2) hS
    have hc5 := hide (lgv_set2 hS ya yn yc)
    have hbt := hide (Bt.setCell (g := l) x3 2 (.slice ya yn yc))
    have hS5 := hide hS
    have hOs5 := hide hOs
    clear hS hOs
    replace hQ := hide hQ
    go_simp
    refine (unhide hQ).out _ _ ?_
    clear hQ K_ c4 fz
    generalize World.setCell _ _ _ = x5 at *
    refine any_done (by kernel_rfl) ?_
    have hZ : Hid (T (.returned (.int .i64 0)) x5) := by
      show T _ _
      rw [unhide hR0]
      have hl5 := (unhide hlg).mem
      have hch := unhide hch3
      have hb5 := unhide hbt
      have hch5 : Chg H H u2 x5 := hch.bt2 hb5 (.inl hl5)
      obtain ⟨H', hH'⟩ : ∃ H', H' = H ++ List.range' u2.heap.size (x5.heap.size - u2.heap.size) := ⟨_, rfl⟩
      have hin : ∀ i, i ∈ H' ↔ i ∈ H ∨ (u2.heap.size ≤ i ∧ i < x5.heap.size) := by
        intro i
        have := hch5.size
        rw [hH', List.mem_append, List.mem_range'_1]
        exact or_congr Iff.rfl ⟨fun h => ⟨h.1, by omega⟩, fun h => ⟨h.1, by omega⟩⟩
      have hlt5 : ∀ {p : Nat} {o : Obj}, x3.heap[p]? = some o → p < x5.heap.size := fun h => Nat.lt_of_lt_of_le (lt_of_block h) hb5.size
      have hFl : ∀ i ∈ F', i < u2.heap.size := (unhide hL2).lt
      have hF'H : ∀ i ∈ F', i ∉ H' := by
        intro i hi hh
        rcases (hin i).1 hh with h9 | h9
        · rcases (unhide hF'new) i hi with h8 | h8
          · exact (unhide hFH) i h8 h9
          · have := (unhide hlg).lt i h9
            omega
        · have := hFl i hi
          omega
      refine ⟨F', H', by rw [← unhide he], ?_, ?_, hF'H, ?_, ?_, ?_⟩
      · exact (unhide hL2).keep hch5.size (fun i hi => hch5.block i (hFl i hi) (fun h9 => hF'H i hi ((hin i).2 (.inl h9))))
      · rw [if_pos (unhide he).symm, ← unhide he]
        refine ⟨?_, (hin l).2 (.inl hl5), (unhide hlg).li, ?_, ?_⟩
        · intro i hi
          rcases (hin i).1 hi with h9 | h9
          · exact Nat.lt_of_lt_of_le ((unhide hlg).lt i h9) (Nat.le_trans (unhide hC3).size hch5.size)
          · exact h9.2
        · intro x hx
          rcases List.mem_append.1 hx with hx | hx
          · exact (unhide hXb) x hx
          · rw [List.mem_singleton] at hx
            rw [hx]
            exact ⟨(unhide hM).isB, by rw [unhide hMl]; exact hnb⟩
        · have hq0 := unhide hq2
          have hS9 := unhide hS5
          refine ⟨sa, sn, sc, ya, yc, vs ++ [.slice ca n cc], ?_, ?_, fun p e => (hin p).2 (.inl (hq0.snh p e)), ?_, ?_, ?_, ?_, ?_⟩
          · rw [List.length_append, List.length_singleton, ← unhide hyn]
            exact unhide hc5
          · exact owns_bt (unhide hq3).1 hS9 (by decide) hb5
          · rw [List.map_append, List.length_append, List.length_singleton, ← unhide hyn]
            exact ⟨(unhide hOs5).1, owns_bt (unhide hOs5).2 hS9 (by decide) hb5⟩
          · intro p e9
            rcases (unhide hwh2) p e9 with h9 | h9
            · exact (hin p).2 (.inl h9)
            · refine (hin p).2 (.inr ⟨h9, ?_⟩)
              obtain ⟨cur, h8⟩ := or_blk_lt (unhide hOs5) e9
              exact hlt5 h8
          · rw [List.length_append, List.length_append, hq0.vl]
            rfl
          · intro i hi
            rw [List.length_append, List.length_singleton] at hi
            by_cases hil : i < X.length
            · rw [getD_app_left (by rw [hq0.vl]; exact hil), getD_app_left hil]
              exact owns_bt ((unhide hq3).2 i hil) hS9 (by decide) hb5
            · have e9 : i = X.length := by omega
              rw [e9, show (vs ++ [Value.slice ca n cc]).getD X.length undef = .slice ca n cc from by rw [← hq0.vl]; simp, show (X ++ [M]).getD X.length [] = M from by simp]
              exact owns_bt (ob_zero (unhide hob3)) hS9 (by decide) hb5
          · intro i hi p e9
            rw [List.length_append, List.length_singleton] at hi
            by_cases hil : i < X.length
            · rw [getD_app_left (by rw [hq0.vl]; exact hil)] at e9
              exact (hin p).2 (.inl (hq0.obh i hil p e9))
            · have e8 : i = X.length := by omega
              rw [e8, show (vs ++ [Value.slice ca n cc]).getD X.length undef = .slice ca n cc from by rw [← hq0.vl]; simp] at e9
              obtain ⟨h7, cur, h8⟩ := ob_blk (unhide hob3) e9
              exact (hin p).2 (.inr ⟨h7, hlt5 h8⟩)
      · intro i hi
        rcases (hin i).1 hi with h9 | h9
        · exact .inl h9
        · exact .inr (by omega)
      · intro h9
        rcases (hin gs).1 h9 with h9 | h9
        · exact hgH h9
        · have := lt_of_block (unhide hs).2
          omega
      · have hc3 := unhide hC3
        refine ⟨hch5.os.trans hc3.os, hch5.tape.trans hc3.tape, hch5.output.trans hc3.output, Nat.le_trans hc3.size hch5.size, fun i hi hn => ?_, fun i hi => ?_⟩
        · rw [List.mem_append, not_or] at hn
          rw [hch5.block i (Nat.lt_of_lt_of_le hi hc3.size) hn.2]
          exact hc3.block i hi hn.1
        · rw [List.mem_append]
          rcases List.mem_append.1 hi with h9 | h9
          · exact ((unhide hF'new) i h9).imp .inl id
          · rcases (hin i).1 h9 with h8 | h8
            · exact .inl (.inr h8)
            · exact .inr (by omega)
    clear hC3 hL2 hq2 hcel2 hM2 hob3 hc5 hbt hOs5 hS5 hq3 hch3 hwh2
    go_wp2_with fail
    exact unhide hZ
  · skip
    go_upto_region 9 with fail
    refine wp_region_lit ?_
    refine list_val (.pointer (some ⟨l, 0, none⟩)) (by kernel_rfl) (by kernel_rfl) ?_
    simp only [nrm]
    refine list_val (.pointer (some ⟨l, 0, none⟩)) (by kernel_rfl) (by kernel_rfl) ?_
    simp only [nrm]
    refine list_val (.pointer (some ⟨l, 3, none⟩)) (by kernel_rfl) (by kernel_rfl) ?_
    simp only [nrm]
    have c4 := cell_of (unhide hq2).cel (i := 3) rfl
    have fz := froz_of (i := 3) (unhide hq2).cel
    have hc5 := hide (lgv_set3 (unhide hq2).cel true)
    have hbt := hide (Bt.setCell (g := l) u2 3 (.bool true))
    (refine wpList_step fun K hK => ?_; replace hK := hide hK; go_simp; refine unhide hK _ _ ?_; clear hK K)
    clear c4 fz
    generalize World.setCell _ _ _ = x5 at *
    refine wpList_nil ?_
    have hZ : Hid (T (.returned (.int .i64 e)) x5) := by
      show T _ _
      rw [unhide hR0]
      have hl5 := (unhide hlg).mem
      have hb5 := unhide hbt
      have hlF' : ∀ i ∈ F', i ∉ H := fun i hi h9 => by
        rcases (unhide hC3).new i hi with h8 | h8
        · exact (unhide hFH) i h8 h9
        · have := (unhide hlg).lt i h9
          omega
      refine ⟨F', H, by rw [← unhide he], (unhide hL2).bt hb5 (fun h9 => hlF' l h9 hl5), ?_, hlF', fun i hi => .inl hi, hgH, ?_⟩
      · rw [if_neg (by rw [← unhide he]; exact hez), ← unhide he, decide_eq_true hez]
        exact ⟨fun i hi => Nat.lt_of_lt_of_le ((unhide hlg).lt i hi) (Nat.le_trans (unhide hC3).size hb5.size), hl5, (unhide hlg).li, (unhide hlg).xi, sa, sn, sc, xa, xc, vs, (unhide hq2).put hb5 (unhide hc5)⟩
      · have hc3 := unhide hC3
        refine ⟨hb5.os.trans hc3.os, hb5.tape.trans hc3.tape, hb5.output.trans hc3.output, Nat.le_trans hc3.size hb5.size, fun i hi hn => ?_, fun i hi => ?_⟩
        · rw [List.mem_append, not_or] at hn
          rw [hb5.block i (Nat.lt_of_lt_of_le hi hc3.size) (fun e9 => hn.2 (by rw [e9]; exact hl5))]
          exact hc3.block i hi hn.1
        · rw [List.mem_append]
          rcases List.mem_append.1 hi with h9 | h9
          · exact (hc3.new i h9).imp .inl id
          · exact .inl (.inr h9)
    clear hC3 hL2 hq2 hc5 hbt
    go_wp2_with fail
    exact unhide hZ
theorem or_zero {k : Nat} {e : TypeId} {b : Nat} {w : World} {v : Value} {R : List (List Value)} (h : Or_ k e b w v R) : Or_ k e 0 w v R := by
  refine ⟨h.1, h.2.1, ?_⟩
  rcases h.2.2 with h | ⟨p, cap, cur, h1, h2, h3⟩
  · exact .inl h
  · exact .inr ⟨p, cap, cur, h1, Nat.zero_le _, h3⟩
theorem or_blk2 {k : Nat} {e : TypeId} {b : Nat} {w : World} {a : Option Addr} {n c : Nat} {R : List (List Value)} (h : Or_ k e b w (.slice a n c) R) {i : Nat} (hi : blkOf a = some i) : b ≤ i ∧ ∃ cur, w.heap[i]? = some (.cells cur e (0, 0)) := by
  rcases h.2.2 with ⟨h1, _⟩ | ⟨g, cap, cur, h1, h2, h3, _⟩
  · injection h1 with h1 _ _
    rw [h1] at hi
    cases hi
  · injection h1 with h1 _ _
    rw [h1] at hi
    have : g = i := by simpa [blkOf] using hi
    subst this
    exact ⟨h2, cur, h3⟩
theorem usd_mem {X : List (List Int)} {x : List Int} (h : x ∈ X) : ned x.length ≤ usd X := by
  induction X with
  | nil => cases h
  | cons y r ih =>
    rw [usd]
    rcases List.mem_cons.1 h with e | e
    · rw [e]; omega
    · have := ih e
      omega
set_option maxHeartbeats 4000000 in
theorem lappend_full (G H : List Nat) (l gs gd N : Nat) (s : Sup) (L : List Int) (X : List (List Int)) (hN : N ≤ 100000) (a : Option Addr) (n c : Nat) (hn : n < 9223372036854775808) (w : World) (hlg : Lg H l gs L X false w) (hs : Sto G gs gd N s w) (hu : usd X ≤ N - 2 - 2 * ((N - 2) / 4)) (hno : ¬ usd X + ned n ≤ N - 2 - 2 * ((N - 2) / 4)) : Calls Tryd.prog 17 #[P0 l, .slice a n c] w (Vl (.int .i64 6) w) := by
  obtain ⟨T, hT⟩ : ∃ T, T = Vl (.int .i64 6) w := ⟨_, rfl⟩
  rw [← hT]
  replace hT := hide hT
  obtain ⟨sa, sn, sc, xa, xc, vs, hq⟩ := hlg.st
  have hlq := hq.lq hlg.xi
  have hcel := hq.cel
  have hxu := usd_ge X
  have hfit2 : decide (0 ≤ (n : Int) ∧ nedI (n : Int) ≤ ((N - 2 - 2 * ((N - 2) / 4) - usd X : Nat) : Int)) = false := by
    rw [nedI_nat]
    exact decide_eq_false (fun h => by omega)
  replace hcel := hide hcel; replace hlq := hide hlq; replace hfit2 := hide hfit2; replace hs := hide hs; replace hu := hide hu; replace hxu := hide hxu
  clear hq hlg hno
  have hB := Bl.nil w
  go_enter Tryd.func17, Tryd.ntmps17
  go_upto_region 3 with fail
  refine wp_region_lit ?_
  refine list_val (.pointer (some ⟨l, 0, none⟩)) (by kernel_rfl) (by kernel_rfl) ?_
  simp only [nrm]
  refine list_val (.pointer (some ⟨l, 0, none⟩)) (by kernel_rfl) (by kernel_rfl) ?_
  simp only [nrm]
  refine list_val (.pointer (some ⟨l, 3, none⟩)) (by kernel_rfl) (by kernel_rfl) ?_
  simp only [nrm]
  refine list_val (.bool false) (by kernel_rfl) (exec_bool _ (.tmp 10) rfl l 3 (by kernel_rfl) false (cell_of (unhide hcel) (i := 3) rfl)) ?_
  simp only [nrm]
  refine wpList_nil ?_
  replace hB := hide hB
  go_upto_region 5 with fail
  replace hB := unhide hB
  refine wp_region_lit ?_
  refine list_val (.pointer (some ⟨l, 0, none⟩)) (by kernel_rfl) (by kernel_rfl) ?_
  simp only [nrm]
  refine list_val (.slice a n c) (by kernel_rfl) (by kernel_rfl) ?_
  simp only [nrm]
  refine list_val (.int .i64 (n : Int)) (by kernel_rfl) (by kernel_rfl) ?_
  simp only [nrm]
  refine list_call 16 #[P0 l, .int .i64 (n : Int)] (by kernel_rfl) (by kernel_rfl) ((lroom_ok l gs sa sn sc xa X.length xc false w (unhide hcel) X (unhide hlq) (by have := unhide hxu; have := unhide hu; omega) G gd N s (by omega) (unhide hs) (n : Int) (by omega) (by omega) _ rfl (unhide hu)).mono ?_)
  rintro r u1 ⟨rfl, hg⟩
  rw [unhide hfit2]
  replace hB := hB.more hg
  clear hg
  refine ⟨_, rfl, ?_⟩
  simp only [nrm]
  refine list_val (.bool true) (by kernel_rfl) (by kernel_rfl) ?_
  simp only [nrm]
  refine wpList_nil ?_
  have hZ : Hid (Vl (.int .i64 6) w (.returned (.int .i64 6)) u1) := ⟨rfl, hB.gr⟩
  clear hB
  go_wp2_with fail
  rw [unhide hT]
  exact unhide hZ
def Cpd (F H : List Nat) (l gs gd : Nat) (D : Dk) (s : Sup) (L : List Int) (X : List (List Int)) (M : List Int) (w : World) (r : Ending) (w' : World) : Prop := ∃ F' H', r = .returned (.int .i64 (Dk.runD (takeOps s ((D.safe.length - 2) / 4) M) D).2) ∧ Lies F' gd (Dk.runD (takeOps s ((D.safe.length - 2) / 4) M) D).1 w' ∧ Sto [gs] gs gd D.safe.length (if (Dk.runD (takeOps s ((D.safe.length - 2) / 4) M) D).2 = 0 then s.next M else s) w' ∧ Lg H' l gs (if (Dk.runD (takeOps s ((D.safe.length - 2) / 4) M) D).2 = 0 then M else L) (if (Dk.runD (takeOps s ((D.safe.length - 2) / 4) M) D).2 = 0 then [] else X) (decide (¬ (Dk.runD (takeOps s ((D.safe.length - 2) / 4) M) D).2 = 0)) w' ∧ (∀ i ∈ F', i ∉ H') ∧ (∀ i ∈ H', i ∈ H ∨ w.heap.size ≤ i) ∧ (gs ∉ H') ∧ Chg (F ++ H) (F' ++ H') w w'
set_option maxHeartbeats 4000000 in
theorem lcheck_ok (F G H : List Nat) (l gs gd m : Nat) (D : Dk) (s : Sup) (L0 : List Int) (hD : D.Ok m) (hm : m ≤ 800000) (hd : D.dead = false) (hn64 : 64 ≤ D.safe.length) (ho : Os D ((D.safe.length - 2) / 4) s L0) (hst : s.turn + 1 < 18446744073709551616) (L : List Int) (X : List (List Int)) (w : World) (hL : Lies F gd D w) (hs : Sto G gs gd D.safe.length s w) (hlg : Lg H l gs L X false w) (hFH : ∀ i ∈ F, i ∉ H) (hgH : gs ∉ H) (M : List Int) (a : Option Addr) (n c : Nat) (hM : Lb w a n c M) (hMa : M = [] ∨ ∀ i, i ∈ F ∨ i ∈ G ∨ i ∈ H → blkOf a ≠ some i) (hfit : n ≤ 64 * ((D.safe.length - 2) / 4)) (hf : Fst w) (h0 : 0 ∉ F ∧ 0 ∉ G) (h3 : (Dk.runD (takeOps s ((D.safe.length - 2) / 4) M) D).2 ≠ 3) : Calls Tryd.prog 18 #[P0 l, .slice a n c] w (Cpd F H l gs gd D s L X M w) := by
  obtain ⟨T, hT⟩ : ∃ T, T = Cpd F H l gs gd D s L X M w := ⟨_, rfl⟩
  rw [← hT]
  replace hT := hide hT
  have h512 := hD.hi1
  have hMl := hM.len
  have hnb : n ≤ 100000 := by omega
  obtain ⟨sa, sn, sc, xa, xc, vs, hq⟩ := hlg.st
  have hcel := hq.cel
  have hFG : ∀ i ∈ F, i ∉ G := fun i hi hg => lies_no hL hs.2 (fun c t e => by injection e with _ e2 _; subst e2; decide) (by rw [hs.1, List.mem_singleton] at hg; rw [← hg]; exact hi)
  have hGe := hs.1
  obtain ⟨AP, hAP⟩ : ∃ A, A = (Dk.runD (takeOps s ((D.safe.length - 2) / 4) M) D) := ⟨_, rfl⟩
  rw [← hAP] at h3
  have hR0 : Hid (T = fun r w' => ∃ F' H', r = .returned (.int .i64 AP.2) ∧ Lies F' gd AP.1 w' ∧ Sto [gs] gs gd D.safe.length (if AP.2 = 0 then s.next M else s) w' ∧ Lg H' l gs (if AP.2 = 0 then M else L) (if AP.2 = 0 then [] else X) (decide (¬ AP.2 = 0)) w' ∧ (∀ i ∈ F', i ∉ H') ∧ (∀ i ∈ H', i ∈ H ∨ w.heap.size ≤ i) ∧ (gs ∉ H') ∧ Chg (F ++ H) (F' ++ H') w w') := by show T = _; rw [unhide hT, hAP]; rfl
  clear hT
  obtain ⟨e, he⟩ : ∃ e, e = AP.2 := ⟨_, rfl⟩
  rw [← he] at h3
  replace hD := hide hD; replace hL := hide hL; replace hs := hide hs; replace hlg := hide hlg; replace hq := hide hq; replace hcel := hide hcel; replace hM := hide hM; replace hMa := hide hMa; replace hf := hide hf; replace hAP := hide hAP; replace hd := hide hd; replace hMl := hide hMl; replace hFH := hide hFH; replace he := hide he; replace ho := hide ho; replace hFG := hide hFG; replace hGe := hide hGe
  go_enter Tryd.func18, Tryd.ntmps18
  go_upto_region 3 with fail
  refine wp_region_lit ?_
  refine list_val (.pointer (some ⟨l, 0, none⟩)) (by kernel_rfl) (by kernel_rfl) ?_
  simp only [nrm]
  refine list_val (.pointer (some ⟨l, 0, none⟩)) (by kernel_rfl) (by kernel_rfl) ?_
  simp only [nrm]
  refine list_val (.pointer (some ⟨l, 3, none⟩)) (by kernel_rfl) (by kernel_rfl) ?_
  simp only [nrm]
  refine list_val (.bool false) (by kernel_rfl) (exec_bool _ (.tmp 10) rfl l 3 (by kernel_rfl) false (cell_of (unhide hcel) (i := 3) rfl)) ?_
  simp only [nrm]
  refine wpList_nil ?_
  go_upto_region 5 with fail
  refine wp_region_lit ?_
  refine list_val (.pointer (some ⟨l, 0, none⟩)) (by kernel_rfl) (by kernel_rfl) ?_
  simp only [nrm]
  refine list_val (.pointer (some ⟨l, 0, none⟩)) (by kernel_rfl) (by kernel_rfl) ?_
  simp only [nrm]
  refine list_val (.pointer (some ⟨l, 0, none⟩)) (by kernel_rfl) (by kernel_rfl) ?_
  simp only [nrm]
  refine list_val (.pointer (some ⟨gs, 0, none⟩)) (by kernel_rfl) (exec_pst _ (.tmp 14) rfl l 0 (by kernel_rfl) _ (cell_of (unhide hcel) (i := 0) rfl)) ?_
  simp only [nrm]
  refine list_val (.slice a n c) (by kernel_rfl) (by kernel_rfl) ?_
  simp only [nrm]
  refine list_call 36 #[.pointer (some ⟨gs, 0, none⟩), .slice a n c] (by kernel_rfl) (by kernel_rfl) ((etake_ok F G gs gd m D s L0 (unhide hD) (by omega) (unhide hd) w (unhide hL) (unhide hs) hn64 (unhide ho) (unhide hFG) (unhide hf) h0 M a n c (unhide hM) ((unhide hMa).imp id (fun h i hi => h i (hi.imp id .inl))) hfit hst).mono ?_)
  rintro r u2 ⟨F', G', rfl, hL2, hS2, hap2, hC0⟩
  rw [← unhide hAP] at hL2 hS2 ⊢
  rw [← unhide he] at hS2 ⊢
  have hG'e := hS2.1
  subst hG'e
  have hC3 : Hid (Chg F F' w u2) := by
    have hg9 := unhide hGe
    refine ⟨hC0.os, hC0.tape, hC0.output, hC0.size, fun i hi hn => ?_, fun i hi => ?_⟩
    · by_cases hig : i ∈ G
      · have hi9 : i = gs := by rw [hg9, List.mem_singleton] at hig; exact hig
        rw [hi9, (unhide hs).2]
        exact hS2.2
      · exact hC0.block i hi (by rw [List.mem_append, not_or]; exact ⟨hn, hig⟩)
    · rcases hC0.new i (List.mem_append_left _ hi) with h9 | h9
      · rcases List.mem_append.1 h9 with h8 | h8
        · exact .inl h8
        · rw [hg9] at h8
          exact absurd h8 (hap2 i hi)
      · exact .inr h9
  have hszw : w.heap.size ≤ u2.heap.size := hC0.size
  have hq2 : LgP H l gs L X false sa sn sc xa xc vs u2 := (unhide hq).keep (unhide hlg).mem (fun i hi => (unhide hC3).block i ((unhide hlg).lt i hi) (fun e => (unhide hFH) i e hi))
  replace hL2 := hide hL2; replace hq2 := hide hq2; replace hS2 := hide hS2
  clear hC0 hap2
  refine ⟨_, rfl, ?_⟩
  simp only [nrm]
  (refine wpList_step fun K hK => ?_; replace hK := hide hK; go_simp; refine unhide hK _ _ ?_; clear hK K)
  refine wpList_nil ?_
  by_cases hez : e = 0
  · skip
    subst hez
    have hM2 : Lb u2 a n c M := (unhide hM).chg (unhide hC3) (by
      rcases (unhide hM).sl with h | ⟨p, o, h, _⟩
      · exact .inl h
      · rcases unhide hMa with h2 | h2
        · exact .inl h2
        · exact .inr ⟨p, by rw [h]; rfl, fun e => h2 p (.inl e) (by rw [h]; rfl)⟩)
    replace hM2 := hide hM2
    go_upto_region 9 with fail
    refine wp_region_lit ?_
    refine list_val (.pointer (some ⟨l, 0, none⟩)) (by kernel_rfl) (by kernel_rfl) ?_
    simp only [nrm]
    refine list_val (.pointer (some ⟨l, 0, none⟩)) (by kernel_rfl) (by kernel_rfl) ?_
    simp only [nrm]
    refine list_val (.slice a n c) (by kernel_rfl) (by kernel_rfl) ?_
    simp only [nrm]
    refine list_call 35 #[.slice a n c] (by kernel_rfl) (by kernel_rfl) ((clone_any M a n c u2 (unhide hM2) hnb).mono ?_)
    rintro r u3 ⟨vv, rfl, hob, hg⟩
    obtain ⟨ca, cc, rfl, -⟩ := ob_lb hob (unhide hM).isB (unhide hMl)
    have hc3 := hide (hg.blk (unhide hq2).cel)
    replace hob := hide hob
    have hg3 := hide hg
    clear hg
    refine ⟨_, rfl, ?_⟩
    simp only [nrm]
    refine list_val (.pointer (some ⟨l, 0, none⟩)) (by kernel_rfl) (by kernel_rfl) ?_
    simp only [nrm]
    refine list_val (.pointer (some ⟨l, 1, none⟩)) (by kernel_rfl) (by kernel_rfl) ?_
    simp only [nrm]
    have c4 := cell_of (unhide hc3) (i := 1) rfl
    have fz := froz_of (i := 1) (unhide hc3)
    have hc4 := hide (lgv_set1 (unhide hc3) ca n cc)
    have hbt4 := hide (Bt.setCell (g := l) u3 1 (.slice ca n cc))
    (refine wpList_step fun K hK => ?_; replace hK := hide hK; go_simp; refine unhide hK _ _ ?_; clear hK K)
    clear c4 fz
    generalize World.setCell _ _ _ = u4 at *
    refine list_val (.pointer (some ⟨l, 0, none⟩)) (by kernel_rfl) (by kernel_rfl) ?_
    simp only [nrm]
    refine list_val (.pointer (some ⟨l, 2, none⟩)) (by kernel_rfl) (by kernel_rfl) ?_
    simp only [nrm]
    have c4 := cell_of (unhide hc4) (i := 2) rfl
    have fz := froz_of (i := 2) (unhide hc4)
    have hc5 := hide (lgv_set2 (unhide hc4) none 0 0)
    have hbt5 := hide (Bt.setCell (g := l) u4 2 (.slice none 0 0))
    (refine wpList_step fun K hK => ?_; replace hK := hide hK; go_simp; refine unhide hK _ _ ?_; clear hK K)
    clear c4 fz
    generalize World.setCell _ _ _ = x5 at *
    refine wpList_nil ?_
    have hZ : Hid (T (.returned (.int .i64 0)) x5) := by
      show T _ _
      rw [unhide hR0]
      have hl5 := (unhide hlg).mem
      have hb5 : Bt l u3 x5 := (unhide hbt4).trans (unhide hbt5)
      have hch5 : Chg H H u2 x5 := ((unhide hg3).chg0 H).bt2 hb5 (.inl hl5)
      obtain ⟨H', hH'⟩ : ∃ H', H' = H ++ List.range' u2.heap.size (x5.heap.size - u2.heap.size) := ⟨_, rfl⟩
      have hin : ∀ i, i ∈ H' ↔ i ∈ H ∨ (u2.heap.size ≤ i ∧ i < x5.heap.size) := by
        intro i
        have := hch5.size
        rw [hH', List.mem_append, List.mem_range'_1]
        exact or_congr Iff.rfl ⟨fun h => ⟨h.1, by omega⟩, fun h => ⟨h.1, by omega⟩⟩
      have hFl : ∀ i ∈ F', i < u2.heap.size := (unhide hL2).lt
      have hF'H : ∀ i ∈ F', i ∉ H' := by
        intro i hi hh
        rcases (hin i).1 hh with h9 | h9
        · rcases (unhide hC3).new i hi with h8 | h8
          · exact (unhide hFH) i h8 h9
          · have := (unhide hlg).lt i h9
            omega
        · have := hFl i hi
          omega
      refine ⟨F', H', by rw [← unhide he], ?_, ?_, ?_, hF'H, ?_, ?_, ?_⟩
      · exact (unhide hL2).keep hch5.size (fun i hi => hch5.block i (hFl i hi) (fun h9 => hF'H i hi ((hin i).2 (.inl h9))))
      · rw [← unhide he]
        exact (unhide hS2).keep hch5.size (fun i hi => hch5.block i ((unhide hS2).lt i hi) (fun h9 => hgH (by rw [List.mem_singleton] at hi; rw [← hi]; exact h9)))
      · rw [if_pos (unhide he).symm, if_pos (unhide he).symm, ← unhide he]
        refine ⟨?_, (hin l).2 (.inl hl5), ⟨(unhide hM).isB, by rw [unhide hMl]; exact hnb⟩, (fun x hx => by cases hx), ?_⟩
        · intro i hi
          rcases (hin i).1 hi with h9 | h9
          · exact Nat.lt_of_lt_of_le ((unhide hlg).lt i h9) (Nat.le_trans hszw hch5.size)
          · exact h9.2
        · refine ⟨ca, n, cc, none, 0, [], unhide hc5, owns_bt (ob_zero (unhide hob)) (unhide hc3) (by decide) hb5, fun p e9 => ?_, ⟨(fun r hr => by cases hr), rfl, .inl ⟨rfl, rfl⟩⟩, (fun p e9 => by cases e9), rfl, (fun i hi => absurd hi (Nat.not_lt_zero i)), (fun i hi => absurd hi (Nat.not_lt_zero i))⟩
          obtain ⟨h7, cur, h8⟩ := ob_blk (unhide hob) ((own_blk _ _ _ _).2 e9)
          exact (hin p).2 (.inr ⟨h7, Nat.lt_of_lt_of_le (lt_of_block h8) hb5.size⟩)
      · intro i hi
        rcases (hin i).1 hi with h9 | h9
        · exact .inl h9
        · exact .inr (by omega)
      · intro h9
        rcases (hin gs).1 h9 with h9 | h9
        · exact hgH h9
        · have := lt_of_block (unhide hs).2
          omega
      · have hc3 := unhide hC3
        refine ⟨hch5.os.trans hc3.os, hch5.tape.trans hc3.tape, hch5.output.trans hc3.output, Nat.le_trans hc3.size hch5.size, fun i hi hn => ?_, fun i hi => ?_⟩
        · rw [List.mem_append, not_or] at hn
          rw [hch5.block i (Nat.lt_of_lt_of_le hi hc3.size) hn.2]
          exact hc3.block i hi hn.1
        · rw [List.mem_append]
          rcases List.mem_append.1 hi with h9 | h9
          · exact (hc3.new i h9).imp .inl id
          · rcases (hin i).1 h9 with h8 | h8
            · exact .inl (.inr h8)
            · exact .inr (by omega)
    clear hC3 hL2 hS2 hq2 hM2 hob hc3 hc4 hc5 hbt4 hbt5 hg3
    go_wp2_with fail
    exact unhide hZ
  · skip
    go_upto_region 7 with fail
    refine wp_region_lit ?_
    refine list_val (.pointer (some ⟨l, 0, none⟩)) (by kernel_rfl) (by kernel_rfl) ?_
    simp only [nrm]
    refine list_val (.int .i64 e) (by kernel_rfl) (by kernel_rfl) ?_
    simp only [nrm]
    refine list_val (.bool true) (by kernel_rfl) (by go_simp) ?_
    simp only [nrm]
    refine list_val (.pointer (some ⟨l, 0, none⟩)) (by kernel_rfl) (by kernel_rfl) ?_
    simp only [nrm]
    refine list_val (.pointer (some ⟨l, 3, none⟩)) (by kernel_rfl) (by kernel_rfl) ?_
    simp only [nrm]
    have c4 := cell_of (unhide hq2).cel (i := 3) rfl
    have fz := froz_of (i := 3) (unhide hq2).cel
    have hc5 := hide (lgv_set3 (unhide hq2).cel true)
    have hbt := hide (Bt.setCell (g := l) u2 3 (.bool true))
    (refine wpList_step fun K hK => ?_; replace hK := hide hK; go_simp; refine unhide hK _ _ ?_; clear hK K)
    clear c4 fz
    generalize World.setCell _ _ _ = x5 at *
    refine wpList_nil ?_
    have hZ : Hid (T (.returned (.int .i64 e)) x5) := by
      show T _ _
      rw [unhide hR0]
      have hl5 := (unhide hlg).mem
      have hb5 := unhide hbt
      have hlF' : ∀ i ∈ F', i ∉ H := fun i hi h9 => by
        rcases (unhide hC3).new i hi with h8 | h8
        · exact (unhide hFH) i h8 h9
        · have := (unhide hlg).lt i h9
          omega
      refine ⟨F', H, by rw [← unhide he], (unhide hL2).bt hb5 (fun h9 => hlF' l h9 hl5), ?_, ?_, hlF', fun i hi => .inl hi, hgH, ?_⟩
      · rw [← unhide he]
        exact (unhide hS2).keep hb5.size (fun i hi => hb5.block i ((unhide hS2).lt i hi) (fun h9 => hgH (by rw [List.mem_singleton] at hi; rw [← hi, h9]; exact hl5)))
      · rw [if_neg (by rw [← unhide he]; exact hez), if_neg (by rw [← unhide he]; exact hez), ← unhide he, decide_eq_true hez]
        exact ⟨fun i hi => Nat.lt_of_lt_of_le ((unhide hlg).lt i hi) (Nat.le_trans (unhide hC3).size hb5.size), hl5, (unhide hlg).li, (unhide hlg).xi, sa, sn, sc, xa, xc, vs, (unhide hq2).put hb5 (unhide hc5)⟩
      · have hc3 := unhide hC3
        refine ⟨hb5.os.trans hc3.os, hb5.tape.trans hc3.tape, hb5.output.trans hc3.output, Nat.le_trans hc3.size hb5.size, fun i hi hn => ?_, fun i hi => ?_⟩
        · rw [List.mem_append, not_or] at hn
          rw [hb5.block i (Nat.lt_of_lt_of_le hi hc3.size) (fun e9 => hn.2 (by rw [e9]; exact hl5))]
          exact hc3.block i hi hn.1
        · rw [List.mem_append]
          rcases List.mem_append.1 hi with h9 | h9
          · exact (hc3.new i h9).imp .inl id
          · exact .inl (.inr h9)
    clear hC3 hL2 hS2 hq2 hc5 hbt
    go_wp2_with fail
    exact unhide hZ
set_option maxHeartbeats 4000000 in
theorem lcheck_long (F G H : List Nat) (l gs gd m : Nat) (D : Dk) (s : Sup) (hD : D.Ok m) (hm : m ≤ 800000) (L : List Int) (X : List (List Int)) (w : World) (hL : Lies F gd D w) (hs : Sto G gs gd D.safe.length s w) (hlg : Lg H l gs L X false w) (a : Option Addr) (n c : Nat) (hbig : 64 * ((D.safe.length - 2) / 4) < n) (hn : n < 9223372036854775808) : Calls Tryd.prog 18 #[P0 l, .slice a n c] w (fun r w' => r = .returned (.int .i64 3) ∧ Lg H l gs L X false w' ∧ Chg H H w w') := by
  obtain ⟨T, hT⟩ : ∃ T : Ending → World → Prop, T = fun r w' => r = .returned (.int .i64 3) ∧ Lg H l gs L X false w' ∧ Chg H H w w' := ⟨_, rfl⟩
  rw [← hT]
  replace hT := hide hT
  obtain ⟨sa, sn, sc, xa, xc, vs, hq⟩ := hlg.st
  have hcel := hq.cel
  replace hD := hide hD; replace hL := hide hL; replace hs := hide hs; replace hlg := hide hlg; replace hq := hide hq; replace hcel := hide hcel
  go_enter Tryd.func18, Tryd.ntmps18
  go_upto_region 3 with fail
  refine wp_region_lit ?_
  refine list_val (.pointer (some ⟨l, 0, none⟩)) (by kernel_rfl) (by kernel_rfl) ?_
  simp only [nrm]
  refine list_val (.pointer (some ⟨l, 0, none⟩)) (by kernel_rfl) (by kernel_rfl) ?_
  simp only [nrm]
  refine list_val (.pointer (some ⟨l, 3, none⟩)) (by kernel_rfl) (by kernel_rfl) ?_
  simp only [nrm]
  refine list_val (.bool false) (by kernel_rfl) (exec_bool _ (.tmp 10) rfl l 3 (by kernel_rfl) false (cell_of (unhide hcel) (i := 3) rfl)) ?_
  simp only [nrm]
  refine wpList_nil ?_
  go_upto_region 5 with fail
  refine wp_region_lit ?_
  refine list_val (.pointer (some ⟨l, 0, none⟩)) (by kernel_rfl) (by kernel_rfl) ?_
  simp only [nrm]
  refine list_val (.pointer (some ⟨l, 0, none⟩)) (by kernel_rfl) (by kernel_rfl) ?_
  simp only [nrm]
  refine list_val (.pointer (some ⟨l, 0, none⟩)) (by kernel_rfl) (by kernel_rfl) ?_
  simp only [nrm]
  refine list_val (.pointer (some ⟨gs, 0, none⟩)) (by kernel_rfl) (exec_pst _ (.tmp 14) rfl l 0 (by kernel_rfl) _ (cell_of (unhide hcel) (i := 0) rfl)) ?_
  simp only [nrm]
  refine list_val (.slice a n c) (by kernel_rfl) (by kernel_rfl) ?_
  simp only [nrm]
  refine list_call 36 #[.pointer (some ⟨gs, 0, none⟩), .slice a n c] (by kernel_rfl) (by kernel_rfl) ((etake_long F G gs gd m D s (unhide hD) (by omega) w (unhide hL) (unhide hs) a n c hbig hn).mono ?_)
  rintro r u2 ⟨rfl, hg⟩
  refine ⟨_, rfl, ?_⟩
  have hq2 := hide ((unhide hlg).gr hg)
  have hcel2 := hide (hg.blk (unhide hcel))
  have hq3 := hide ((unhide hq).keep (unhide hlg).mem (fun i hi => hg.block i ((unhide hlg).lt i hi)))
  have hg2 := hide hg
  clear hg
  simp only [nrm]
  (refine wpList_step fun K hK => ?_; replace hK := hide hK; go_simp; refine unhide hK _ _ ?_; clear hK K)
  refine wpList_nil ?_
  go_upto_region 7 with fail
  refine wp_region_lit ?_
  refine list_val (.pointer (some ⟨l, 0, none⟩)) (by kernel_rfl) (by kernel_rfl) ?_
  simp only [nrm]
  refine list_val (.int .i64 3) (by kernel_rfl) (by kernel_rfl) ?_
  simp only [nrm]
  refine list_val (.bool false) (by kernel_rfl) (by kernel_rfl) ?_
  simp only [nrm]
  refine list_val (.pointer (some ⟨l, 0, none⟩)) (by kernel_rfl) (by kernel_rfl) ?_
  simp only [nrm]
  refine list_val (.pointer (some ⟨l, 3, none⟩)) (by kernel_rfl) (by kernel_rfl) ?_
  simp only [nrm]
  have c4 := cell_of (unhide hcel2) (i := 3) rfl
  have fz := froz_of (i := 3) (unhide hcel2)
  have hc5 := hide (lgv_set3 (unhide hcel2) false)
  have hbt := hide (Bt.setCell (g := l) u2 3 (.bool false))
  (refine wpList_step fun K hK => ?_; replace hK := hide hK; go_simp; refine unhide hK _ _ ?_; clear hK K)
  clear c4 fz
  generalize World.setCell _ _ _ = x5 at *
  refine wpList_nil ?_
  have hZ : Hid (T (.returned (.int .i64 3)) x5) := by
    show T _ _
    rw [unhide hT]
    have hl5 := (unhide hlg).mem
    have hb5 := unhide hbt
    refine ⟨rfl, ⟨fun i hi => Nat.lt_of_lt_of_le ((unhide hq2).lt i hi) hb5.size, hl5, (unhide hlg).li, (unhide hlg).xi, sa, sn, sc, xa, xc, vs, (unhide hq3).put hb5 (unhide hc5)⟩, ((unhide hg2).chg0 H).bt2 hb5 (.inl hl5)⟩
  clear hq2 hcel2 hq3 hg2 hc5 hbt
  go_wp2_with fail
  exact unhide hZ
def Opd2 (gs : Nat) (L : List Int) (X : List (List Int)) (w : World) (r : Ending) (w' : World) : Prop := ∃ l H, r = .returned (.tuple #[P0 l, .int .i64 0]) ∧ Lg H l gs L X false w' ∧ (∀ i ∈ H, w.heap.size ≤ i) ∧ Gr w w'
set_option maxHeartbeats 4000000 in
theorem wopen_ok (F G : List Nat) (gs gd m : Nat) (D : Dk) (s : Sup) (L : List Int) (X : List (List Int)) (hD : D.Ok m) (hm : m ≤ 800000) (hd : D.dead = false) (hn64 : 64 ≤ D.safe.length) (ho : Os D ((D.safe.length - 2) / 4) s L) (hLb : IsB L) (hLl : L.length ≤ 100000) (hst : s.turn < 18446744073709551616) (hX : Tl (fun i => D.cur (lgo D.safe.length + i)) (D.safe.length - lgo D.safe.length) s.turn X) (hXu : usd X ≤ D.safe.length - lgo D.safe.length) (w : World) (hL : Lies F gd D w) (hs : Sto G gs gd D.safe.length s w) (hf : Fst w) : Calls Tryd.prog 9 #[P0 gs] w (Opd2 gs L X w) := by
  obtain ⟨T, hT⟩ : ∃ T, T = Opd2 gs L X w := ⟨_, rfl⟩
  rw [← hT]
  replace hT := hide hT
  have h512 := hD.hi1
  obtain ⟨N, hN⟩ : ∃ N, N = D.safe.length := ⟨_, rfl⟩
  obtain ⟨sl, hsl⟩ : ∃ k, k = N - 2 - 2 * ((N - 2) / 4) := ⟨_, rfl⟩
  have hsl2 : D.safe.length - lgo D.safe.length = sl := by rw [hsl, hN]; unfold lgo; omega
  rw [hsl2] at hX hXu
  rw [← hN] at h512
  have hsb : ∀ i : Nat, i < sl → BB (D.cur (lgo D.safe.length + i)) := fun i hi => D.cur_bb hD _ (by rw [← hN]; have : lgo N = 2 + 2 * ((N - 2) / 4) := rfl; rw [this]; omega)
  have hslot : ∀ v, Gr w v → ∀ i : Nat, i < sl → Calls Tryd.prog 23 #[P0 gs, .int .i64 (i : Int)] v (Rrd (D.cur (lgo D.safe.length + i)) 0 v) := fun v hg i hi => by
    have h1 := eslot_ok F G gs gd m D s hD (by omega) (i : Int) (by rw [← hN]; constructor <;> omega) v (hL.gr hg) (hs.gr hg)
    rw [show ((((2 + 2 * ((D.safe.length - 2) / 4) : Nat) : Int)) + (i : Int)) = ((lgo D.safe.length + i : Nat) : Int) from by unfold lgo; omega] at h1
    have hil : lgo D.safe.length + i < D.safe.length := by rw [← hN]; have : lgo N = 2 + 2 * ((N - 2) / 4) := rfl; rw [this]; omega
    rw [read_cur hd _ hil] at h1
    rw [show D.readE ((lgo D.safe.length + i : Nat) : Int) = 0 from by unfold Dk.readE; rw [hd, if_neg (by decide), if_pos ⟨by omega, by omega⟩]] at h1
    exact h1
  replace hD := hide hD; replace hd := hide hd; replace ho := hide ho; replace hX := hide hX; replace hXu := hide hXu; replace hL := hide hL; replace hs := hide hs; replace hf := hide hf; replace hN := hide hN; replace hsl := hide hsl; replace hsb := hide hsb; replace hslot := hide hslot; replace hLb := hide hLb
  have hB := Bl.nil w
  go_enter Tryd.func9, Tryd.ntmps9
  go_upto_region 3 with fail
  refine wp_region_lit ?_
  refine list_val (.pointer (some ⟨gs, 0, none⟩)) (by kernel_rfl) (by kernel_rfl) ?_
  simp only [nrm]
  refine list_call 31 #[.pointer (some ⟨gs, 0, none⟩)] (by kernel_rfl) (by kernel_rfl) ((esnap_ok F G gs gd m D s L (unhide hD) (by omega) (unhide hd) hn64 w (unhide hL) (unhide hs) (unhide ho) (unhide hf)).mono ?_)
  rintro r u1 ⟨vs_, rfl, hob, hg⟩
  obtain ⟨sa, sc, rfl, -⟩ := ob_lb hob (unhide hLb) rfl
  obtain ⟨sn, hsn⟩ : ∃ n, n = L.length := ⟨_, rfl⟩
  rw [← hsn] at hob ⊢
  replace hB := hB.more hg
  replace hob := hide hob; replace hsn := hide hsn
  clear hg
  refine ⟨_, rfl, ?_⟩
  simp only [nrm]
  refine list_val (.tuple #[.slice sa sn sc, .int .i64 0]) (by kernel_rfl) (by kernel_rfl) ?_
  simp only [nrm]
  refine list_val (.slice sa sn sc) (by kernel_rfl) (by kernel_rfl) ?_
  simp only [nrm]
  refine list_val (.int .i64 0) (by kernel_rfl) (by kernel_rfl) ?_
  simp only [nrm]
  (refine wpList_step fun K hK => ?_; replace hK := hide hK; go_simp; refine unhide hK _ _ ?_; clear hK K)
  (refine wpList_step fun K hK => ?_; replace hK := hide hK; go_simp; refine unhide hK _ _ ?_; clear hK K)
  refine wpList_nil ?_
  replace hB := hide hB
  go_upto_region 6 with fail
  replace hB := unhide hB
  refine wp_region_lit ?_
  refine list_val (.pointer (some ⟨gs, 0, none⟩)) (by kernel_rfl) (by kernel_rfl) ?_
  simp only [nrm]
  refine list_call 22 #[.pointer (some ⟨gs, 0, none⟩)] (by kernel_rfl) (by kernel_rfl) ((turn_ok F G gs gd m D s (unhide hD) (by omega) (unhide hd) (by omega) _ ((unhide hL).gr hB.gr) ((unhide hs).gr hB.gr) (unhide ho).cnt ((unhide hf).gr hB.gr)).mono ?_)
  rintro r u2 ⟨rfl, hg⟩
  refine ⟨_, rfl, ?_⟩
  replace hB := hB.more hg
  replace hob := hide ((unhide hob).gr hg)
  clear hg
  simp only [nrm]
  refine list_val (.pointer (some ⟨gs, 0, none⟩)) (by kernel_rfl) (by kernel_rfl) ?_
  simp only [nrm]
  refine list_call 15 #[.pointer (some ⟨gs, 0, none⟩)] (by kernel_rfl) (by kernel_rfl) ((slots_ok G gs gd D.safe.length s (by have := unhide hN; omega) _ ((unhide hs).gr hB.gr)).mono ?_)
  rintro r u3 ⟨rfl, hg⟩
  refine ⟨_, rfl, ?_⟩
  rw [← unhide hN, ← unhide hsl]
  replace hB := hB.more hg
  replace hob := hide ((unhide hob).gr hg)
  clear hg
  simp only [nrm]
  refine list_val (.pointer (some ⟨gs, 0, none⟩)) (by kernel_rfl) (by kernel_rfl) ?_
  simp only [nrm]
  refine list_val (.func (.func 23) #[P0 gs] #[]) (by kernel_rfl) (by kernel_rfl) ?_
  simp only [nrm]
  refine list_call 32 #[.int .u64 (s.turn : Int), .int .i64 (sl : Int), .func (.func 23) #[P0 gs] #[]] (by kernel_rfl) (by kernel_rfl) ((wfind_ok s.turn sl gs hst (fun i => D.cur (lgo D.safe.length + i)) (unhide hsb) (by have := unhide hsl; omega) u3 (fun v hv i hi => (unhide hslot) v (hB.gr.trans hv) i hi) ((unhide hf).gr hB.gr)).mono ?_)
  rintro r u4 ⟨vx, X2, rfl, hox, htl, hu9, hg⟩
  have hXe : X2 = X := htl.uniq (by have := unhide hsl; omega) (unhide hX)
  subst hXe
  have hb4 := hB.gr.size
  obtain ⟨xa, xc, rfl, -⟩ := hox.lq
  obtain ⟨xn, hxn⟩ : ∃ n, n = X2.length := ⟨_, rfl⟩
  rw [← hxn] at hox ⊢
  replace hB := hB.more hg
  replace hob := hide ((unhide hob).gr hg)
  replace hox := hide hox; replace hxn := hide hxn
  clear hg htl hu9
  refine ⟨_, rfl, ?_⟩
  simp only [nrm]
  refine list_val (.tuple #[.slice xa xn xc, .int .i64 0]) (by kernel_rfl) (by kernel_rfl) ?_
  simp only [nrm]
  refine list_val (.slice xa xn xc) (by kernel_rfl) (by kernel_rfl) ?_
  simp only [nrm]
  refine list_val (.int .i64 0) (by kernel_rfl) (by kernel_rfl) ?_
  simp only [nrm]
  (refine wpList_step fun K hK => ?_; replace hK := hide hK; go_simp; refine unhide hK _ _ ?_; clear hK K)
  (refine wpList_step fun K hK => ?_; replace hK := hide hK; go_simp; refine unhide hK _ _ ?_; clear hK K)
  refine wpList_nil ?_
  replace hB := hide hB
  go_upto_region 9 with fail
  replace hB := unhide hB
  have hl4 : w.heap.size ≤ u4.heap.size := hB.gr.size
  replace hl4 := hide hl4
  refine wp_region_lit ?_
  refine list_val (.pointer (some ⟨gs, 0, none⟩)) (by kernel_rfl) (by kernel_rfl) ?_
  simp only [nrm]
  refine list_val (.slice sa sn sc) (by kernel_rfl) (by kernel_rfl) ?_
  simp only [nrm]
  refine list_val (.slice xa xn xc) (by kernel_rfl) (by kernel_rfl) ?_
  simp only [nrm]
  refine list_val (.agg (lgv gs sa sn sc xa xn xc false)) (by kernel_rfl) (by kernel_rfl) ?_
  simp only [nrm]
  refine list_valw (.pointer (some ⟨u4.heap.size, 0, none⟩)) (u4.alloc (.cells (lgv gs sa sn sc xa xn xc false) 69 (0, 0))) (by kernel_rfl) (by kernel_rfl) ?_
  have hg := (Gr.refl u4).alloc (.cells (lgv gs sa sn sc xa xn xc false) 69 (0, 0))
  have hcel : (u4.alloc (.cells (lgv gs sa sn sc xa xn xc false) 69 (0, 0))).heap[u4.heap.size]? = some (.cells (lgv gs sa sn sc xa xn xc false) 69 (0, 0)) := blk_new _ _
  replace hB := hB.more hg
  replace hob := hide ((unhide hob).gr hg)
  replace hox := hide ((unhide hox).gr hg)
  clear hg
  generalize World.alloc _ _ = u5 at *
  generalize u4.heap.size = l at *
  replace hcel := hide hcel
  simp only [nrm]
  (refine wpList_step fun K hK => ?_; replace hK := hide hK; go_simp; refine unhide hK _ _ ?_; clear hK K)
  (refine wpList_step fun K hK => ?_; replace hK := hide hK; go_simp; refine unhide hK _ _ ?_; clear hK K)
  refine wpList_nil ?_
  have hZ : Hid (T (.returned (.tuple #[.pointer (some ⟨l, 0, none⟩), .int .i64 0])) u5) := by
    show T _ _
    rw [unhide hT]
    have hgr := hB.gr
    have hin : ∀ i, i ∈ List.range' w.heap.size (u5.heap.size - w.heap.size) ↔ w.heap.size ≤ i ∧ i < u5.heap.size := by
      intro i
      have := hgr.size
      rw [List.mem_range'_1]
      exact ⟨fun h => ⟨h.1, by omega⟩, fun h => ⟨h.1, by omega⟩⟩
    obtain ⟨vs, v1, v2, v3⟩ := (unhide hox).own
    have hxi : ∀ x ∈ X2, IsB x ∧ x.length ≤ 100000 := fun x hx => ⟨((unhide hox).isB x hx).1, by
      have h8 := usd_mem hx
      have h9 := unhide hXu
      have := unhide hsl
      unfold ned at h8
      omega⟩
    have hob9 := ob_zero (unhide hob)
    refine ⟨l, _, rfl, ⟨fun i hi => ((hin i).1 hi).2, (hin l).2 ⟨unhide hl4, lt_of_block (unhide hcel)⟩, ⟨unhide hLb, hLl⟩, hxi, sa, sn, sc, xa, xc, vs, ?_⟩, fun i hi => ((hin i).1 hi).1, hgr⟩
    refine ⟨by rw [← unhide hxn]; exact unhide hcel, hob9, ?_, ?_, ?_, v2, fun i hi => ob_zero (v3 i hi), ?_⟩
    · intro p hp
      obtain ⟨h7, cur, h8⟩ := ob_blk (unhide hob) ((own_blk _ _ _ _).2 hp)
      exact (hin p).2 ⟨h7, lt_of_block h8⟩
    · rw [← unhide hxn]
      exact or_zero v1
    · intro p hp
      obtain ⟨h7, cur, h8⟩ := or_blk2 v1 hp
      exact (hin p).2 ⟨by omega, lt_of_block h8⟩
    · intro i hi p hp
      obtain ⟨h7, cur, h8⟩ := ob_blk (v3 i hi) hp
      exact (hin p).2 ⟨by omega, lt_of_block h8⟩
  clear hB hob hox hcel
  go_wp2_with fail
  exact unhide hZ
structure Xl (w : World) (F G H : List Nat) (l gs gd : Nat) (D : Dk) (m : Nat) (s : Sup) (L : List Int) (X : List (List Int)) (v : World) : Prop where
  xs : Xs w F G gs gd D s v
  lg : Lg H l gs L X false v
  oH : ∀ i ∈ H, w.heap.size ≤ i
  fh : ∀ i ∈ F, i ∉ H
  gh : gs ∉ H
  wd : Wd D m s L X
theorem Xl.more {w : World} {F G H : List Nat} {l gs gd : Nat} {D : Dk} {m : Nat} {s : Sup} {L : List Int} {X : List (List Int)} {v u : World} (h : Xl w F G H l gs gd D m s L X v) (k : Gr v u) : Xl w F G H l gs gd D m s L X u := ⟨h.xs.more k, h.lg.gr k, h.oH, h.fh, h.gh, h.wd⟩
theorem Xl.zero {w : World} {F G H : List Nat} {l gs gd : Nat} {D : Dk} {m : Nat} {s : Sup} {L : List Int} {X : List (List Int)} {v : World} (h : Xl w F G H l gs gd D m s L X v) (hf : Fst w) : 0 ∉ F ∧ 0 ∉ G := h.xs.none_ hf
theorem Xl.fst {w : World} {F G H : List Nat} {l gs gd : Nat} {D : Dk} {m : Nat} {s : Sup} {L : List Int} {X : List (List Int)} {v : World} (h : Xl w F G H l gs gd D m s L X v) (hf : Fst w) : Fst v := hf.gr h.xs.gr
theorem Wd.turn {D : Dk} {m : Nat} {s : Sup} {L : List Int} {X : List (List Int)} (k : Wd D m s L X) : s.turn < 18446744073709551616 := k.fd.hs.ok.t
theorem Wd.bytes {D : Dk} {m : Nat} {s : Sup} {L : List Int} {X : List (List Int)} (k : Wd D m s L X) : IsB L ∧ L.length ≤ 100000 := by
  have h1 := k.fd.hs
  have h2 := k.fd.ok.hi1
  have h3 := h1.fit
  have h4 := h1.len
  exact ⟨h1.isB, by omega⟩
theorem Wd.os {D : Dk} {m : Nat} {s : Sup} {L : List Int} {X : List (List Int)} (k : Wd D m s L X) : Os D ((D.safe.length - 2) / 4) s L := k.fd.hs.os
theorem lgo_slots (N : Nat) : N - lgo N = N - 2 - 2 * ((N - 2) / 4) := by unfold lgo; omega
theorem x_open {w : World} {F G : List Nat} {gs gd : Nat} {D : Dk} {m : Nat} {s : Sup} {L : List Int} {X : List (List Int)} {v : World} (k : Xs w F G gs gd D s v) (wd : Wd D m s L X) (hm : m ≤ 800000) (hf : Fst w) : Calls Tryd.prog 9 #[P0 gs] v (fun r u => ∃ l H, r = .returned (.tuple #[P0 l, .int .i64 0]) ∧ Xl w F G H l gs gd D m s L X u ∧ (∀ i ∈ H, v.heap.size ≤ i) ∧ Gr v u) := by
  have hb := wd.bytes
  refine (wopen_ok F G gs gd m D s L X wd.fd.ok hm wd.fd.dead wd.fd.len wd.os hb.1 hb.2 wd.turn (wd.wl.tl wd.turn) wd.wl.le v k.ls k.st (hf.gr k.gr)).mono ?_
  rintro r u ⟨l, H, rfl, h1, h2, h3⟩
  refine ⟨l, H, rfl, ⟨k.more h3, h1, fun i hi => Nat.le_trans k.gr.size (h2 i hi), fun i hi hh => ?_, fun hh => ?_, wd⟩, h2, h3⟩
  · have := h2 i hh
    have := k.ls.lt i hi
    omega
  · have := h2 gs hh
    have := lt_of_block k.st.2
    omega
theorem x_append {w : World} {F G H : List Nat} {l gs gd : Nat} {D : Dk} {m : Nat} {s : Sup} {L : List Int} {X : List (List Int)} {v : World} (k : Xl w F G H l gs gd D m s L X v) (hm : m ≤ 800000) (hf : Fst w) (M : List Int) (a : Option Addr) (n c : Nat) (hM : Lb v a n c M) (hMa : M = [] ∨ ∀ i, i ∈ F ∨ i ∈ G ∨ i ∈ H → blkOf a ≠ some i) (hfit : usd X + ned M.length ≤ D.safe.length - lgo D.safe.length) : Calls Tryd.prog 17 #[P0 l, .slice a n c] v (fun r u => ∃ F' H' E, r = .returned (.int .i64 0) ∧ Xl w F' G H' l gs gd E (m + ((M.length + 62) / 63 + 3)) s L (X ++ [M]) u ∧ E.safe.length = D.safe.length ∧ Chg (F ++ H) (F' ++ H') v u ∧ (∀ i ∈ H', i ∈ H ∨ v.heap.size ≤ i)) := by
  obtain ⟨h1, h2, h3⟩ := wd_app k.wd hM.isB hfit k.wd.turn
  refine (lappend_ok F G H l gs gd m D s k.wd.fd.ok hm k.wd.fd.dead k.wd.pn k.wd.os.cnt k.wd.fd.len k.wd.turn L X v k.xs.ls k.xs.st k.lg k.fh k.gh M a n c hM (hMa.imp id (fun h i hi => h i (hi.imp id .inr))) hfit (k.fst hf) (k.zero hf).1).mono ?_
  rintro r u ⟨F', H', rfl, a1, a2, a3, a4, a5, a6⟩
  rw [h1, if_pos rfl] at a2
  rw [h1]
  generalize (Dk.runD (appOps (lgo D.safe.length) s.turn X.length (usd X) M) D).1 = E at *
  have hown : ∀ i ∈ F ++ H, w.heap.size ≤ i := fun i hi => (List.mem_append.1 hi).elim (k.xs.oF i) (k.oH i)
  have hnew : ∀ i ∈ F' ++ H', w.heap.size ≤ i := fun i hi => (a6.new i hi).elim (hown i) (fun e => Nat.le_trans k.xs.gr.size e)
  have hGe := k.xs.st.1
  have hgF : gs ∉ F := fun e => k.xs.ap gs e (by rw [hGe]; exact List.mem_singleton.2 rfl)
  have hst : Sto G gs gd D.safe.length s u := k.xs.st.chg a6 (fun i hi hg => by
    rw [hGe, List.mem_singleton] at hg
    subst hg
    rcases List.mem_append.1 hi with e | e
    · exact hgF e
    · exact k.gh e)
  have hgF' : ∀ i ∈ F', i ∉ G := fun i hi hg => by
    rw [hGe, List.mem_singleton] at hg
    subst hg
    exact lies_no a1 hst.2 (fun c t e => by injection e with _ e2 _; subst e2; decide) hi
  exact ⟨F', H', E, rfl, ⟨⟨Chg.own k.xs.gr a6 hown, a1, by rw [h3]; exact hst, fun i hi => hnew i (List.mem_append_left _ hi), k.xs.oG, hgF'⟩, a2, fun i hi => hnew i (List.mem_append_right _ hi), a3, a5, h2⟩, h3, a6, a4⟩
theorem x_full {w : World} {F G H : List Nat} {l gs gd : Nat} {D : Dk} {m : Nat} {s : Sup} {L : List Int} {X : List (List Int)} {v : World} (k : Xl w F G H l gs gd D m s L X v) (a : Option Addr) (n c : Nat) (hn : n < 9223372036854775808) (hno : ¬ usd X + ned n ≤ D.safe.length - lgo D.safe.length) : Calls Tryd.prog 17 #[P0 l, .slice a n c] v (Vl (.int .i64 6) v) :=
  lappend_full G H l gs gd D.safe.length s L X (by have := k.wd.fd.ok.hi1; omega) a n c hn v k.lg k.xs.st (by rw [← lgo_slots]; exact k.wd.wl.le) (by rw [← lgo_slots]; exact hno)
theorem x_check {w : World} {F G H : List Nat} {l gs gd : Nat} {D : Dk} {m : Nat} {s : Sup} {L : List Int} {X : List (List Int)} {v : World} (k : Xl w F G H l gs gd D m s L X v) (hm : m ≤ 800000) (hf : Fst w) (ht : s.turn + 1 < 18446744073709551616) (M : List Int) (a : Option Addr) (n c : Nat) (hM : Lb v a n c M) (hMa : M = [] ∨ ∀ i, i ∈ F ∨ i ∈ G ∨ i ∈ H → blkOf a ≠ some i) (hfit : n ≤ 64 * ((D.safe.length - 2) / 4)) : Calls Tryd.prog 18 #[P0 l, .slice a n c] v (fun r u => ∃ F' H' E, r = .returned (.int .i64 0) ∧ Xl w F' G H' l gs gd E (m + ((M.length + 63) / 64 + 3)) (s.next M) M [] u ∧ E.safe.length = D.safe.length ∧ Chg (F ++ H) (F' ++ H') v u ∧ (∀ i ∈ H', i ∈ H ∨ v.heap.size ≤ i)) := by
  obtain ⟨h1, h2, h3⟩ := wd_take k.wd hM.isB (by rw [hM.len]; exact hfit) ht
  refine (lcheck_ok F G H l gs gd m D s L k.wd.fd.ok hm k.wd.fd.dead k.wd.fd.len k.wd.os ht L X v k.xs.ls k.xs.st k.lg k.fh k.gh M a n c hM hMa hfit (k.fst hf) (k.zero hf) (by rw [h1]; decide)).mono ?_
  rintro r u ⟨F', H', rfl, a1, a0, a2, a3, a4, a5, a6⟩
  rw [h1, if_pos rfl, if_pos rfl] at a2
  rw [h1, if_pos rfl] at a0
  rw [h1]
  generalize (Dk.runD (takeOps s ((D.safe.length - 2) / 4) M) D).1 = E at *
  have hown : ∀ i ∈ F ++ H, w.heap.size ≤ i := fun i hi => (List.mem_append.1 hi).elim (k.xs.oF i) (k.oH i)
  have hnew : ∀ i ∈ F' ++ H', w.heap.size ≤ i := fun i hi => (a6.new i hi).elim (hown i) (fun e => Nat.le_trans k.xs.gr.size e)
  have hGe := k.xs.st.1
  have hgF' : ∀ i ∈ F', i ∉ G := fun i hi hg => by
    rw [hGe, List.mem_singleton] at hg
    subst hg
    exact lies_no a1 a0.2 (fun c t e => by injection e with _ e2 _; subst e2; decide) hi
  exact ⟨F', H', E, rfl, ⟨⟨Chg.own k.xs.gr a6 hown, a1, by rw [h3, hGe]; exact a0, fun i hi => hnew i (List.mem_append_left _ hi), k.xs.oG, hgF'⟩, a2, fun i hi => hnew i (List.mem_append_right _ hi), a3, a5, h2⟩, h3, a6, a4⟩
theorem x_long {w : World} {F G H : List Nat} {l gs gd : Nat} {D : Dk} {m : Nat} {s : Sup} {L : List Int} {X : List (List Int)} {v : World} (k : Xl w F G H l gs gd D m s L X v) (hm : m ≤ 800000) (a : Option Addr) (n c : Nat) (hn : n < 9223372036854775808) (hbig : 64 * ((D.safe.length - 2) / 4) < n) : Calls Tryd.prog 18 #[P0 l, .slice a n c] v (fun r u => r = .returned (.int .i64 3) ∧ Xl w F G H l gs gd D m s L X u ∧ Chg H H v u) := by
  refine (lcheck_long F G H l gs gd m D s k.wd.fd.ok hm L X v k.xs.ls k.xs.st k.lg a n c hbig hn).mono ?_
  rintro r u ⟨rfl, h1, h2⟩
  refine ⟨rfl, ⟨⟨Chg.own k.xs.gr h2 k.oH, k.xs.ls.keep h2.size (fun i hi => h2.block i (k.xs.ls.lt i hi) (k.fh i hi)), k.xs.st.chg h2 (fun i hi hg => ?_), k.xs.oF, k.xs.oG, k.xs.ap⟩, h1, k.oH, k.fh, k.gh, k.wd⟩, h2⟩
  rw [k.xs.st.1, List.mem_singleton] at hg
  subst hg
  exact k.gh hi
theorem Xl.parts {w : World} {F G H : List Nat} {l gs gd : Nat} {D : Dk} {m : Nat} {s : Sup} {L : List Int} {X : List (List Int)} {v : World} (k : Xl w F G H l gs gd D m s L X v) : ∃ sa sn sc xa xc, v.heap[l]? = some (.cells (lgv gs sa sn sc xa X.length xc false) 69 (0, 0)) ∧ Lb v sa sn sc L ∧ sn ≤ 100000 ∧ Lq v xa X.length xc X ∧ X.length ≤ 512 ∧ usd X ≤ 512 := by
  obtain ⟨sa, sn, sc, xa, xc, vs, q⟩ := k.lg.st
  have h1 := k.wd.wl.le
  have h2 := usd_ge X
  have h3 := k.wd.fd.ok.hi1
  have hl := q.lb k.lg.li.1
  exact ⟨sa, sn, sc, xa, xc, q.cel, hl, by rw [← hl.len]; exact k.lg.li.2, q.lq k.lg.xi, by omega, by omega⟩
theorem x_txs {w : World} {F G H : List Nat} {l gs gd : Nat} {D : Dk} {m : Nat} {s : Sup} {L : List Int} {X : List (List Int)} {v : World} (k : Xl w F G H l gs gd D m s L X v) : Calls Tryd.prog 28 #[P0 l] v (Txd X v) := by
  obtain ⟨sa, sn, sc, xa, xc, h1, h2, h3, h4, h5, h6⟩ := k.parts
  exact txs_ok l gs sa sn sc xa X.length xc false v h1 X (fun x hx => (k.lg.xi x hx).2) (by omega) h4
theorem x_used {w : World} {F G H : List Nat} {l gs gd : Nat} {D : Dk} {m : Nat} {s : Sup} {L : List Int} {X : List (List Int)} {v : World} (k : Xl w F G H l gs gd D m s L X v) : Calls Tryd.prog 24 #[P0 l] v (Vl (.int .i64 ((usd X : Nat) : Int)) v) := by
  obtain ⟨sa, sn, sc, xa, xc, h1, h2, h3, h4, h5, h6⟩ := k.parts
  exact lused_ok l gs sa sn sc xa X.length xc false v h1 X h4 (by omega) (by omega)
theorem x_room {w : World} {F G H : List Nat} {l gs gd : Nat} {D : Dk} {m : Nat} {s : Sup} {L : List Int} {X : List (List Int)} {v : World} (k : Xl w F G H l gs gd D m s L X v) (n : Int) (h1 : -9223372036854775808 ≤ n) (h2 : n < 9223372036854775808) : Calls Tryd.prog 16 #[P0 l, .int .i64 n] v (Vl (.bool (decide (0 ≤ n ∧ nedI n ≤ ((D.safe.length - lgo D.safe.length - usd X : Nat) : Int)))) v) := by
  obtain ⟨sa, sn, sc, xa, xc, c1, c2, c3, c4, c5, c6⟩ := k.parts
  have h512 := k.wd.fd.ok.hi1
  exact lroom_ok l gs sa sn sc xa X.length xc false v c1 X c4 (by omega) G gd D.safe.length s (by omega) k.xs.st n h1 h2 _ (lgo_slots _) k.wd.wl.le
theorem usd_two : usd [[120]] = 2 := by decide
set_option maxHeartbeats 4000000 in
theorem wakes12_ok (w : World) (hf : Fst w) : Calls Tryd.prog 7 #[] w (Vl (.bool true) w) := by
  obtain ⟨T, hT⟩ : ∃ T, T = Vl (.bool true) w := ⟨_, rfl⟩
  rw [← hT]
  replace hT := hide hT
  replace hf := hide hf
  go_enter Tryd.func7, Tryd.ntmps7
  go_upto_region 1 with fail
  refine wp_region_lit ?_
  refine list_call 8 #[.int .i64 0] (by kernel_rfl) (by kernel_rfl) ((store_ok 0 w (unhide hf)).mono ?_)
  rintro r u1 ⟨F, G, gs, gd, D, rfl, hXs, hwd, hDz⟩
  obtain ⟨s1, s2, s3, s4⟩ := sup0_is
  have hz := stz_bd 0
  generalize stz 0 = zz at *
  generalize sup0 = S0 at *
  have hs0 : S0.turn = 0 := by omega
  clear s1 s2 s3 s4
  refine ⟨_, rfl, ?_⟩
  replace hXs := hide hXs; replace hwd := hide hwd; replace hDz := hide hDz
  simp only [nrm]
  refine list_val (.tuple #[.pointer (some ⟨gd, 0, none⟩), .pointer (some ⟨gs, 0, none⟩)]) (by kernel_rfl) (by kernel_rfl) ?_
  simp only [nrm]
  refine list_val (.pointer (some ⟨gd, 0, none⟩)) (by kernel_rfl) (by kernel_rfl) ?_
  simp only [nrm]
  refine list_val (.pointer (some ⟨gs, 0, none⟩)) (by kernel_rfl) (by kernel_rfl) ?_
  simp only [nrm]
  (refine wpList_step fun K hK => ?_; replace hK := hide hK; go_simp; refine unhide hK _ _ ?_; clear hK K)
  (refine wpList_step fun K hK => ?_; replace hK := hide hK; go_simp; refine unhide hK _ _ ?_; clear hK K)
  refine wpList_nil ?_
  go_upto_region 4 with fail
  refine wp_region_lit ?_
  refine list_val (.pointer (some ⟨gs, 0, none⟩)) (by kernel_rfl) (by kernel_rfl) ?_
  simp only [nrm]
  skip
  refine list_call 9 #[P0 gs] (by kernel_rfl) (by kernel_rfl) ((x_open (unhide hXs) (unhide hwd) (by omega) (unhide hf)).mono ?_)
  rintro r u2 ⟨l, H, rfl, hlx, hln, hg⟩
  refine ⟨_, rfl, ?_⟩
  have hX := hide hlx
  clear hlx hln
  clear hg
  simp only [nrm]
  refine list_val (.tuple #[.pointer (some ⟨l, 0, none⟩), .int .i64 0]) (by kernel_rfl) (by kernel_rfl) ?_
  simp only [nrm]
  refine list_val (.pointer (some ⟨l, 0, none⟩)) (by kernel_rfl) (by kernel_rfl) ?_
  simp only [nrm]
  refine list_val (.int .i64 0) (by kernel_rfl) (by kernel_rfl) ?_
  simp only [nrm]
  (refine wpList_step fun K hK => ?_; replace hK := hide hK; go_simp; refine unhide hK _ _ ?_; clear hK K)
  (refine wpList_step fun K hK => ?_; replace hK := hide hK; go_simp; refine unhide hK _ _ ?_; clear hK K)
  refine wpList_nil ?_
  go_upto_region 5 with fail
  refine wp_region_lit ?_
  refine list_val (.int .i64 0) (by kernel_rfl) (by kernel_rfl) ?_
  simp only [nrm]
  refine list_val (.bool false) (by kernel_rfl) (by kernel_rfl) ?_
  simp only [nrm]
  refine list_val (.bool false) (by kernel_rfl) (by kernel_rfl) ?_
  simp only [nrm]
  refine list_val (.pointer (some ⟨l, 0, none⟩)) (by kernel_rfl) (by kernel_rfl) ?_
  simp only [nrm]
  refine list_val (.bool false) (by kernel_rfl) (by kernel_rfl) ?_
  simp only [nrm]
  refine list_val (.bool false) (by kernel_rfl) (by kernel_rfl) ?_
  simp only [nrm]
  refine list_val (.bool false) (by kernel_rfl) (by kernel_rfl) ?_
  simp only [nrm]
  refine list_val (.pointer (some ⟨l, 0, none⟩)) (by kernel_rfl) (by kernel_rfl) ?_
  simp only [nrm]
  refine list_valw (.slice (some ⟨u2.heap.size, 0, none⟩) 1 1) (u2.alloc (.cells (kc [120]) 5 (0, 0))) (by kernel_rfl) (by kernel_rfl) ?_
  simp only [nrm]
  refine list_valw (.slice (some ⟨u2.heap.size, 0, none⟩) 1 1) (u2.alloc (.cells (kc [120]) 5 ((kc [120]).size, (kc [120]).size + 1))) (by kernel_rfl) (exec_const u2 (.tmp 25) rfl (kc [120]) 1 1 (by kernel_rfl)) ?_
  simp only [nrm]
  have hg := (Gr.refl u2).alloc (.cells (kc [120]) 5 ((kc [120]).size, (kc [120]).size + 1))
  have hxb : IsB [120] := by intro x hx; simp at hx; omega
  have l1 : Lb (u2.alloc (.cells (kc [120]) 5 ((kc [120]).size, (kc [120]).size + 1))) (some ⟨u2.heap.size, 0, none⟩) 1 1 [120] := ⟨rfl, hxb, .inr ⟨_, 0, rfl, fun j hj => by rw [Nat.zero_add]; exact cell_of (blk_new _ _) (kc_get [120] j hj)⟩, by omega, by omega⟩
  have hfar : ([120] : List Int) = [] ∨ ∀ i, i ∈ F ∨ i ∈ G ∨ i ∈ H → blkOf (some ⟨u2.heap.size, 0, none⟩) ≠ some i := by
    right
    intro i hi e
    have e2 : u2.heap.size = i := Option.some.inj e
    rcases hi with hi | hi | hi
    · have := (unhide hX).xs.ls.lt i hi; omega
    · have := (unhide hX).xs.st.lt i hi; omega
    · have := (unhide hX).lg.lt i hi; omega
  replace hX := hide ((unhide hX).more hg)
  clear hg
  generalize World.alloc _ _ = u3 at *
  generalize u2.heap.size = h1 at *
  replace l1 := hide l1; replace hfar := hide hfar
  have hlg := lgo_slots D.safe.length
  refine list_call 17 #[P0 l, .slice (some ⟨h1, 0, none⟩) 1 1] (by kernel_rfl) (by kernel_rfl) ((x_append (unhide hX) (by omega) (unhide hf) [120] (some ⟨h1, 0, none⟩) 1 1 (unhide l1) (unhide hfar) (by rw [hlg, unhide hDz]; show 0 + 2 ≤ _; omega)).mono ?_)
  rintro r u4 ⟨F2, H2, E, rfl, hX2, hEl, hC, -⟩
  refine ⟨_, rfl, ?_⟩
  have hXs2 := hide hX2.xs
  have hwd2 := hide hX2.wd
  clear hX hX2 hC l1 hfar hlg
  simp only [nrm]
  refine list_val (.bool false) (by kernel_rfl) (by kernel_rfl) ?_
  simp only [nrm]
  refine list_val (.bool false) (by kernel_rfl) (by kernel_rfl) ?_
  simp only [nrm]
  refine wpList_nil ?_
  go_upto_region 7 with fail
  refine wp_region_lit ?_
  refine list_val (.pointer (some ⟨gs, 0, none⟩)) (by kernel_rfl) (by kernel_rfl) ?_
  simp only [nrm]
  skip
  refine list_call 9 #[P0 gs] (by kernel_rfl) (by kernel_rfl) ((x_open (unhide hXs2) (unhide hwd2) (by decide) (unhide hf)).mono ?_)
  rintro r u5 ⟨l2, H3, rfl, hl2x, hl2n, hg⟩
  refine ⟨_, rfl, ?_⟩
  have hX3 := hide hl2x
  clear hl2x hl2n
  clear hg
  simp only [nrm]
  refine list_val (.tuple #[.pointer (some ⟨l2, 0, none⟩), .int .i64 0]) (by kernel_rfl) (by kernel_rfl) ?_
  simp only [nrm]
  refine list_val (.pointer (some ⟨l2, 0, none⟩)) (by kernel_rfl) (by kernel_rfl) ?_
  simp only [nrm]
  refine list_val (.int .i64 0) (by kernel_rfl) (by kernel_rfl) ?_
  simp only [nrm]
  (refine wpList_step fun K hK => ?_; replace hK := hide hK; go_simp; refine unhide hK _ _ ?_; clear hK K)
  (refine wpList_step fun K hK => ?_; replace hK := hide hK; go_simp; refine unhide hK _ _ ?_; clear hK K)
  refine wpList_nil ?_
  go_upto_region 8 with fail
  refine wp_region_lit ?_
  refine list_val (.int .i64 0) (by kernel_rfl) (by kernel_rfl) ?_
  simp only [nrm]
  refine list_val (.bool true) (by kernel_rfl) (by kernel_rfl) ?_
  simp only [nrm]
  refine list_val (.bool true) (by kernel_rfl) (by kernel_rfl) ?_
  simp only [nrm]
  refine list_val (.pointer (some ⟨l2, 0, none⟩)) (by kernel_rfl) (by kernel_rfl) ?_
  simp only [nrm]
  refine list_val (.bool true) (by kernel_rfl) (by kernel_rfl) ?_
  simp only [nrm]
  refine list_val (.bool true) (by kernel_rfl) (by kernel_rfl) ?_
  simp only [nrm]
  refine list_val (.bool true) (by kernel_rfl) (by kernel_rfl) ?_
  simp only [nrm]
  refine list_val (.pointer (some ⟨l2, 0, none⟩)) (by kernel_rfl) (by kernel_rfl) ?_
  simp only [nrm]
  refine list_call 28 #[P0 l2] (by kernel_rfl) (by kernel_rfl) ((x_txs (unhide hX3)).mono ?_)
  rintro r u6 ⟨vx, rfl, hox, hg⟩
  obtain ⟨xa, xc, rfl, -⟩ := hox.lq
  refine ⟨_, rfl, ?_⟩
  replace hX3 := hide ((unhide hX3).more hg)
  clear hox hg
  simp only [nrm]
  refine list_val (.int .i64 1) (by kernel_rfl) (by kernel_rfl) ?_
  simp only [nrm]
  refine list_val (.bool true) (by kernel_rfl) (by kernel_rfl) ?_
  simp only [nrm]
  refine list_val (.bool true) (by kernel_rfl) (by kernel_rfl) ?_
  simp only [nrm]
  refine list_val (.bool true) (by kernel_rfl) (by kernel_rfl) ?_
  simp only [nrm]
  refine list_val (.pointer (some ⟨l2, 0, none⟩)) (by kernel_rfl) (by kernel_rfl) ?_
  simp only [nrm]
  refine list_call 24 #[.pointer (some ⟨l2, 0, none⟩)] (by kernel_rfl) (by kernel_rfl) ((x_used (unhide hX3)).mono ?_)
  rintro r u7 ⟨rfl, hg⟩
  refine ⟨_, rfl, ?_⟩
  replace hX3 := hide ((unhide hX3).more hg)
  rw [show usd ([] ++ [[120]]) = 2 from usd_two]
  clear hg
  simp only [nrm]
  refine list_val (.bool true) (by kernel_rfl) (by kernel_rfl) ?_
  simp only [nrm]
  refine list_val (.bool true) (by kernel_rfl) (by kernel_rfl) ?_
  simp only [nrm]
  refine list_val (.bool true) (by kernel_rfl) (by kernel_rfl) ?_
  simp only [nrm]
  refine list_call 25 #[.int .i64 64] (by kernel_rfl) (by kernel_rfl) ((wneed_ok 64 (by omega) (by omega) _).mono ?_)
  rintro r u8 ⟨rfl, hg⟩
  refine ⟨_, rfl, ?_⟩
  replace hX3 := hide ((unhide hX3).more hg)
  rw [show nedI 64 = 3 from by decide]
  clear hg
  simp only [nrm]
  refine list_val (.bool true) (by kernel_rfl) (by kernel_rfl) ?_
  simp only [nrm]
  refine list_val (.bool true) (by kernel_rfl) (by kernel_rfl) ?_
  simp only [nrm]
  (refine wpList_step fun K hK => ?_; replace hK := hide hK; go_simp; refine unhide hK _ _ ?_; clear hK K)
  refine wpList_nil ?_
  have hZ : Hid (Vl (.bool true) w (.returned (.bool true)) u8) := ⟨rfl, (unhide hX3).xs.gr⟩
  clear hX3
  go_wp2_with fail
  rw [unhide hT]
  exact unhide hZ
def fromReg (r : Nat) : Code → Option Code
  | .seq (.region i ops d) b => if i = r then some (.seq (.region i ops d) b) else fromReg r b
  | .seq a b => (fromReg r a).orElse fun _ => fromReg r b
  | .cond _ a b => (fromReg r a).orElse fun _ => fromReg r b
  | .loop c => fromReg r c
  | .block _ c => fromReg r c
  | .scope c => fromReg r c
  | _ => none
theorem wp_code_eq {P : Program} {c c' : Code} {Q : Exit → Act → World → Prop} {a : Act} {w : World} (h : c' = c) (k : c.wp P Q a w) : c'.wp P Q a w := h ▸ k
def Hb (b : Nat) (w : World) (s : Value) : Prop := (∃ a c, s = .slice a 0 c) ∨ ∃ p n c cur, s = .slice (some ⟨p, 0, none⟩) n c ∧ b ≤ p ∧ w.heap[p]? = some (.cells cur 5 (0, 0)) ∧ n ≤ c ∧ c < 9223372036854775808 ∧ ∀ i, i < n → ∃ y, cur[i]? = some (.int .u8 y)
structure Gt (b : Nat) (w : World) (p : Nat) (C : Array Value) (n : Nat) : Prop where
  hd : w.heap[p]? = some (.cells C 32 (0, 0))
  at_ : ∀ i, i < n → ∃ s, C[i]? = some s ∧ Hb b w s
theorem set_cells {w : World} {g i : Nat} {c : Array Value} {t : TypeId} (h : w.heap[g]? = some (.cells c t (0, 0))) (x : Value) : (w.setCell ⟨g, i, none⟩ x).heap[g]? = some (.cells (c.setIfInBounds i x) t (0, 0)) := by
  have h1 := (((Bc.nil [g] w).add ⟨g, c, t⟩ h (.inl (by simp)) (fun y hy => by cases hy)).cell 0 (x := ⟨g, c, t⟩) rfl i x).get 0 (x := ⟨g, c.setIfInBounds i x, t⟩) rfl
  exact h1
theorem Gt.sto {b : Nat} {w : World} {p : Nat} {C : Array Value} {n : Nat} (h : Gt b w p C n) {q i : Nat} {cur : Array Value} (hq : w.heap[q]? = some (.cells cur 5 (0, 0))) (y : Int) : Gt b (w.setCell ⟨q, i, none⟩ (.int .u8 y)) p C n := by
  have hb := Bt.setCell (g := q) w i (.int .u8 y)
  refine ⟨hb.blk h.hd (ty_ne h.hd hq (by decide)), fun j hj => ?_⟩
  obtain ⟨s, h1, h2⟩ := h.at_ j hj
  refine ⟨s, h1, ?_⟩
  rcases h2 with ⟨a, c, e⟩ | ⟨p2, n2, c2, cur2, e, k1, k2, k3, k4, k5⟩
  · exact .inl ⟨a, c, e⟩
  · right
    by_cases hpq : p2 = q
    · subst hpq
      rw [hq] at k2
      injection k2 with k2
      injection k2 with k2
      subst k2
      refine ⟨p2, n2, c2, _, e, k1, set_cells hq _, k3, k4, fun r hr => ?_⟩
      obtain ⟨z, hz⟩ := k5 r hr
      by_cases hri : i = r
      · subst hri
        have hlt : i < cur.size := by
          rcases Nat.lt_or_ge i cur.size with h | h
          · exact h
          · rw [Array.getElem?_eq_none h] at hz; cases hz
        exact ⟨y, by simp [Array.getElem?_setIfInBounds, hlt]⟩
      · exact ⟨z, by simp [Array.getElem?_setIfInBounds, hri, hz]⟩
    · exact ⟨p2, n2, c2, cur2, e, k1, hb.blk k2 hpq, k3, k4, k5⟩
theorem Ox.gt {b : Nat} {w : World} {a : Option Addr} {n c : Nat} {X : List (List Int)} (h : Ox b w (.slice a n c) X) : n = 0 ∨ ∃ p C, a = some ⟨p, 0, none⟩ ∧ Gt b w p C n := by
  obtain ⟨vs, h1, h2, h3⟩ := h.own
  rcases h1.2.2 with ⟨e, e2⟩ | ⟨g, cap, cur, e, k1, k2, k3, k4, k5, k6⟩
  · injection e with _ e3 _
    exact .inl e3
  · right
    injection e with e1 e2 e3
    refine ⟨g, cur, e1, k2, fun i hi => ?_⟩
    have hl : vs.length = n := by rw [e2, List.length_map]
    have hf : ((vs.map fun s => [s]).flatten) = vs := by
      have : ∀ l : List Value, ((l.map fun s => [s]).flatten) = l := by
        intro l
        induction l with
        | nil => rfl
        | cons x l ih => simp only [List.map_cons, List.flatten_cons, List.singleton_append, ih]
      exact this vs
    rw [hf, Nat.mul_one] at k6
    have hg : cur[i]? = some (vs.getD i undef) := by
      have h9 : cur.toList[i]? = vs[i]? := by rw [← k6, List.getElem?_take_of_lt (by rw [List.length_map]; omega)]
      rw [← Array.getElem?_toList, h9, List.getD_eq_getElem?_getD, List.getElem?_eq_getElem (by omega)]
      rfl
    refine ⟨_, hg, ?_⟩
    have ho := h3 i (by omega)
    rcases ho.2 with ⟨q1, q2⟩ | ⟨g2, cap2, cur2, q1, q2, q3, q4, q5, q6, q7⟩
    · exact .inl ⟨_, _, q1⟩
    · refine .inr ⟨g2, _, cap2, cur2, q1, q2, q3, q4, by unfold maxLen at q5; omega, fun r hr => ?_⟩
      have h8 : cur2.toList[r]? = ((X.getD i []).map (Value.int .u8))[r]? := by
        rw [← q7, List.getElem?_take_of_lt (by omega)]
      rw [Array.getElem?_toList] at h8
      rw [h8, List.getElem?_map, List.getElem?_eq_getElem hr]
      exact ⟨_, rfl⟩
theorem exec_iby {a : Act} {o : Oper} (w : World) (x y : Operand) (ho : o.op = .indexAddr 32 x y) (g q len cap i : Nat) (hx : a.eval x = .slice (some ⟨g, q, none⟩) len cap) (hy : a.eval y = .int .i64 i) (hi : i < len) :
    (execOp a.eval o).run Tryd.prog w = .ok (.value (.pointer (some ⟨g, q + i, none⟩))) w := by
  have h1 : (i : Int) < (len : Int) := by omega
  unfold execOp
  simp only [ho, hx, hy]
  go_simp
noncomputable def eeC : Code := ((Tryd.f20.body).bind (fromReg 9)).getD .skip
set_option maxHeartbeats 4000000 in
theorem ee_ok (b : World) (Q : Exit → Act → World → Prop) (d : List Deferred) (a : Option Addr) (n c : Nat) (w : World) (hG : Gr b w) (hg : n = 0 ∨ ∃ p C, a = some ⟨p, 0, none⟩ ∧ Gt b.heap.size w p C n) (hn : n ≤ 1000000) (k0 k1 k2 k3 k4 k5 k6 k7 k9 k10 k11 k12 k13 k14 k15 k16 k17 k18 k19 k20 k21 k22 k23 k24 k25 k26 k27 k28 k29 k30 k31 k32 k33 k34 k35 k36 k37 k38 k39 k40 k41 k42 k43 k44 k45 k46 k47 k48 k49 k50 k51 k52 k53 k54 k55 k56 k57 k58 k59 k60 k61 k62 k63 k64 k65 k66 k67 k68 k69 k70 k71 k72 k73 k74 k75 k76 k77 k78 k79 k80 k81 k82 k83 k84 k85 k86 k87 k88 k89 k90 k91 : Value) (hQ : ∀ (u10 u11 u42 u43 u44 u45 u46 u47 u48 u49 u50 u51 u52 u53 u54 u55 u56 u57 : Value) (w' : World), Gr b w' → Q .normal ⟨#[k0, k1, k2, k3, k4, k5, k6, k7, .slice a n c, k9, u10, u11, k12, k13, k14, k15, k16, k17, k18, k19, k20, k21, k22, k23, k24, k25, k26, k27, k28, k29, k30, k31, k32, k33, k34, k35, k36, k37, k38, k39, k40, k41, u42, u43, u44, u45, u46, u47, u48, u49, u50, u51, u52, u53, u54, u55, u56, u57, k58, k59, k60, k61, k62, k63, k64, k65, k66, k67, k68, k69, k70, k71, k72, k73, k74, k75, k76, k77, k78, k79, k80, k81, k82, k83, k84, k85, k86, k87, k88, k89, k90, k91], d⟩ w') : Code.wp Tryd.prog eeC Q ⟨#[k0, k1, k2, k3, k4, k5, k6, k7, .slice a n c, k9, k10, k11, k12, k13, k14, k15, k16, k17, k18, k19, k20, k21, k22, k23, k24, k25, k26, k27, k28, k29, k30, k31, k32, k33, k34, k35, k36, k37, k38, k39, k40, k41, k42, k43, k44, k45, k46, k47, k48, k49, k50, k51, k52, k53, k54, k55, k56, k57, k58, k59, k60, k61, k62, k63, k64, k65, k66, k67, k68, k69, k70, k71, k72, k73, k74, k75, k76, k77, k78, k79, k80, k81, k82, k83, k84, k85, k86, k87, k88, k89, k90, k91], d⟩ w := by
  conv => arg 2; whnf
  dsimp only
  replace hQ := hide hQ; replace hG := hide hG; replace hg := hide hg
  go_upto_region 9 with fail
  refine wp_region_lit ?_
  refine list_val (.slice a n c) (by kernel_rfl) (by kernel_rfl) ?_
  simp only [nrm]
  refine list_val (.int .i64 (n : Int)) (by kernel_rfl) (by kernel_rfl) ?_
  simp only [nrm]
  refine list_val (.int .i64 0) (by kernel_rfl) (by kernel_rfl) ?_
  simp only [nrm]
  refine wpList_nil ?_
  go_wp2_with fail
  go_loopw [44] (fun i wr => ∃ j : Nat, j ≤ n ∧ i = .int .i64 (j : Int) ∧ Hid (Gr b wr) ∧ Hid (n = 0 ∨ ∃ p C, a = some ⟨p, 0, none⟩ ∧ Gt b.heap.size wr p C n)) (fun i _ => n - (intOf i).toNat)
  case atStart => exact ⟨0, by omega, rfl, hG, hg⟩
  case round =>
  clear hG hg
  obtain ⟨j, hj, rfl, hG, hg⟩ := hrel
  by_cases hlt : j < n
  · skip
    have jI : (j : Int) < (n : Int) := by omega
    have ej : IntKind.i64.wrap ((j : Int) + 1) = ((j + 1 : Nat) : Int) := by rw [IntKind.wrap_i64]; omega
    obtain ⟨p, C, rfl, hgt⟩ := (unhide hg).resolve_left (by omega)
    obtain ⟨s, hs, hb⟩ := hgt.at_ j hlt
    have hcell := hide (cell_of hgt.hd hs)
    have hgt := hide hgt
    clear hg
    obtain ⟨sa, sn, sc, rfl, hsn, hsc⟩ : ∃ sa sn sc, s = .slice sa sn sc ∧ sn ≤ sc ∧ True := by
      rcases hb with ⟨a9, c9, e⟩ | ⟨p2, n2, c2, cur2, e, k1, k2, k3, k4, k5⟩
      · exact ⟨a9, 0, c9, e, Nat.zero_le _, trivial⟩
      · exact ⟨_, n2, c2, e, k3, trivial⟩
    have hsn2 : sn < 9223372036854775808 := by
      rcases hb with ⟨a9, c9, e⟩ | ⟨p2, n2, c2, cur2, e, k1, k2, k3, k4, k5⟩
      · injection e with _ e2 _; omega
      · injection e with _ e2 e3; omega
    clear hb hsc
    replace hs := hide hs
    go_upto_region 11 with fail
    refine wp_region_lit ?_
    refine list_val (.pointer (some ⟨p, 0 + j, none⟩)) (by kernel_rfl) (exec_ils _ (.tmp 42) (.tmp 44) rfl p 0 n c j (by kernel_rfl) (by kernel_rfl) hlt) ?_
    simp only [nrm]
    refine list_val (.slice sa sn sc) (by kernel_rfl) (exec_sby _ (.tmp 46) rfl p (0 + j) (by kernel_rfl) sa sn sc (by rw [Nat.zero_add]; exact unhide hcell)) ?_
    simp only [nrm]
    (refine wpList_step fun K hK => ?_; replace hK := hide hK; go_simp; refine unhide hK _ _ ?_; clear hK K)
    refine wpList_nil ?_
    clear hcell
    go_upto_region 12 with fail
    refine wp_region_lit ?_
    refine list_val (.slice sa sn sc) (by kernel_rfl) (by kernel_rfl) ?_
    simp only [nrm]
    refine list_val (.int .i64 (sn : Int)) (by kernel_rfl) (by kernel_rfl) ?_
    simp only [nrm]
    refine list_val (.int .i64 0) (by kernel_rfl) (by kernel_rfl) ?_
    simp only [nrm]
    refine wpList_nil ?_
    generalize wr = wo at *
    go_wp2_with fail
    go_loopw [50] (fun i wr => ∃ q : Nat, q ≤ sn ∧ i = .int .i64 (q : Int) ∧ Hid (Gr b wr) ∧ Hid (Gt b.heap.size wr p C n)) (fun i _ => sn - (intOf i).toNat)
    case atStart => exact ⟨0, by omega, rfl, hG, hgt⟩
    case round =>
    clear hG hgt
    obtain ⟨q, hq, rfl, hG, hgt⟩ := hrel
    by_cases hlt2 : q < sn
    · skip
      have qI : (q : Int) < (sn : Int) := by omega
      have eq : IntKind.i64.wrap ((q : Int) + 1) = ((q + 1 : Nat) : Int) := by rw [IntKind.wrap_i64]; omega
      obtain ⟨s9, hs9, hb9⟩ := (unhide hgt).at_ j hlt
      obtain rfl := Option.some.inj ((unhide hs).symm.trans hs9)
      obtain ⟨p2, cur2, rfl, k1, k2, k5⟩ : ∃ p2 cur2, sa = some ⟨p2, 0, none⟩ ∧ b.heap.size ≤ p2 ∧ wr.heap[p2]? = some (.cells cur2 5 (0, 0)) ∧ ∀ i, i < sn → ∃ y, cur2[i]? = some (.int .u8 y) := by
        rcases hb9 with ⟨a9, c9, e⟩ | ⟨p2, n2, c2, cur2, e, k1, k2, k3, k4, k5⟩
        · injection e with _ e2 _; omega
        · injection e with e1 e2 e3
          subst e1 e2 e3
          exact ⟨p2, cur2, rfl, k1, k2, k5⟩
      obtain ⟨y, hy⟩ := k5 q hlt2
      have c4 := cell_of k2 hy
      have fz := froz_of (i := q) k2
      have hgt2 := hide ((unhide hgt).sto (i := q) k2 238)
      have hG2 := hide ((Bt.setCell (g := p2) wr q (.int .u8 238)).gr (unhide hG) k1)
      clear k2 k5 hy hs9 hb9 hgt hG
      replace c4 := hide c4; replace fz := hide fz
      go_upto_region 14 with fail
      refine wp_region_lit ?_
      refine list_val (.int .i64 (q : Int)) (by kernel_rfl) (by kernel_rfl) ?_
      simp only [nrm]
      (refine wpList_step fun K hK => ?_; replace hK := hide hK; go_simp; refine unhide hK _ _ ?_; clear hK K)
      refine wpList_nil ?_
      go_upto_region 15 with fail
      refine wp_region_lit ?_
      refine list_val (.slice (some ⟨p2, 0, none⟩) sn sc) (by kernel_rfl) (by kernel_rfl) ?_
      simp only [nrm]
      refine list_val (.int .i64 (q : Int)) (by kernel_rfl) (by kernel_rfl) ?_
      simp only [nrm]
      refine list_val (.pointer (some ⟨p2, 0 + q, none⟩)) (by kernel_rfl) (exec_iby _ (.tmp 53) (.tmp 54) rfl p2 0 sn sc q (by kernel_rfl) (by kernel_rfl) hlt2) ?_
      simp only [nrm]
      replace c4 := unhide c4; replace fz := unhide fz
      (refine wpList_step fun K hK => ?_; replace hK := hide hK; go_simp; refine unhide hK _ _ ?_; clear hK K)
      clear c4 fz
      generalize World.setCell _ _ _ = z6 at *
      refine wpList_nil ?_
      go_wp2_with fail
      go_roundw
      case rel => exact ⟨q + 1, by omega, by go_num, hG2, hgt2⟩
      case measure => simp [intOf]; omega
    have qI : ¬ (q : Int) < (sn : Int) := by omega
    go_wp2_with fail
    go_roundw
    case rel => exact ⟨j + 1, by omega, by go_num, hG, .inr ⟨p, C, rfl, unhide hgt⟩⟩
    case measure => simp [intOf]; omega
  have jI : ¬ (j : Int) < (n : Int) := by omega
  go_wp2_with fail
  exact unhide hQ _ _ _ _ _ _ _ _ _ _ _ _ _ _ _ _ _ _ _ (unhide hG)
structure TJ (l D : Nat) (rc : Loop) (b : World) (Bx gn : Nat) (xa : Option Addr) (xn xc : Nat) (i : Nat) (W : World) : Prop where
  rc : Rcd l D rc W
  gr : Gr b W
  bx : W.heap[Bx]? = some (.cells #[.slice xa xn xc] 33 (0, 0))
  bn : W.heap[gn]? = some (.cells #[.int .i64 (i : Int)] 3 (0, 0))
theorem TJ.gro {l D : Nat} {rc : Loop} {b : World} {Bx gn : Nat} {xa : Option Addr} {xn xc i : Nat} {W W' : World} (h : TJ l D rc b Bx gn xa xn xc i W) (k : Gr W W') : TJ l D rc b Bx gn xa xn xc i W' := ⟨h.rc.gr k, h.gr.trans k, k.blk h.bx, k.blk h.bn⟩
theorem TJ.put {l D : Nat} {rc rc' : Loop} {b : World} {Bx gn : Nat} {xa : Option Addr} {xn xc i : Nat} {W : World} (h : TJ l D rc b Bx gn xa xn xc i W) (hl : b.heap.size ≤ l) (hne : l ≠ D) : TJ l D rc' b Bx gn xa xn xc i (W.putObj l (.loop rc')) := by
  have k := put_nk h.rc.lo rfl (.loop rc')
  exact ⟨⟨put_get h.rc.lo _, by rw [(put_bt W l _).block D (lt_of_block h.rc.de) (fun e => hne e.symm)]; exact h.rc.de⟩, gr_put h.gr hl _, k.blk h.bx, k.blk h.bn⟩
theorem TJ.put' {l D : Nat} {rc rc' : Loop} {b : World} {Bx gn : Nat} {xa : Option Addr} {xn xc i : Nat} {W W' : World} (h : TJ l D rc b Bx gn xa xn xc i W) (e : W' = W.putObj l (.loop rc')) (hl : b.heap.size ≤ l) (hne : l ≠ D) : TJ l D rc' b Bx gn xa xn xc i W' := by rw [e]; exact h.put hl hne
theorem exec_i64c {op : Oper} {a : Act} (w : World) (x : Operand) (ho : op.op = .load 3 x) (g i : Nat) (hx : a.eval x = .pointer (some ⟨g, i, none⟩)) (z : Int) (hc : w.cell? ⟨g, i, none⟩ = some (.int .i64 z)) : (execOp a.eval op).run Tryd.prog w = .ok (.value (.int .i64 z)) w := by
  unfold execOp
  simp only [ho, hx, Instr.loadAt, Instr.sureAddr, Sem.run_bind, Sem.run_pure, Result.andThen_ok]
  go_simp
noncomputable def rg1C : Code := ((Tryd.f20.body).bind (fromReg 22)).getD .skip
noncomputable def rg2C : Code := ((Tryd.f20.body).bind (fromReg 28)).getD .skip
set_option maxHeartbeats 4000000 in
theorem rg1_ok (b : World) (Q : Exit → Act → World → Prop) (d : List Deferred) (Bx gn Bq : Nat) (xa ta : Option Addr) (xn xc tc : Nat) (X : List (List Int)) (hX : ∀ x ∈ X, x.length ≤ 100000) (hxn : xn ≤ 1000000) (w : World) (hG : Gr b w) (hq : Lq b xa xn xc X) (ht : Lq b ta xn tc X) (hbq : b.heap[Bq]? = some (.cells #[.slice ta xn tc] 33 (0, 0))) (hbx : w.heap[Bx]? = some (.cells #[.slice xa xn xc] 33 (0, 0))) (hn : w.heap[gn]? = some (.cells #[.int .i64 0] 3 (0, 0))) (hgn : b.heap.size ≤ gn) (k0 k1 k2 k3 k4 k6 k7 k8 k9 k10 k11 k14 k15 k16 k17 k18 k19 k20 k21 k22 k23 k24 k25 k26 k27 k28 k29 k30 k31 k32 k33 k34 k35 k36 k37 k38 k39 k40 k41 k42 k43 k44 k45 k46 k47 k48 k49 k50 k51 k52 k53 k54 k55 k56 k57 k58 k59 k60 k61 k62 k63 k64 k65 k66 k67 k68 k69 k70 k71 k72 k73 k74 k75 k76 k77 k78 k79 k80 k81 k82 k83 k84 k85 k86 k87 k88 k89 k90 k91 : Value) (hQ : ∀ (u62 : Value) (D : Nat) (W : World), b.heap.size ≤ D → W.heap[D]? = some (.deferred (some [])) → Gr b W → W.heap[Bx]? = some (.cells #[.slice xa xn xc] 33 (0, 0)) → W.heap[gn]? = some (.cells #[.int .i64 (xn : Int)] 3 (0, 0)) → Q .normal ⟨#[k0, k1, k2, k3, k4, P0 Bq, k6, k7, k8, k9, k10, k11, .func (.func 47) #[] #[.pointer (some ⟨Bx, 0, none⟩)], P0 gn, k14, k15, k16, k17, k18, k19, k20, k21, k22, k23, k24, k25, k26, k27, k28, k29, k30, k31, k32, k33, k34, k35, k36, k37, k38, k39, k40, k41, k42, k43, k44, k45, k46, k47, k48, k49, k50, k51, k52, k53, k54, k55, k56, k57, k58, k59, k60, k61, u62, k63, k64, k65, k66, k67, k68, k69, k70, k71, k72, k73, k74, k75, k76, k77, k78, k79, k80, k81, k82, k83, k84, k85, k86, k87, k88, k89, k90, k91], { target := .collected D, args := #[] } :: d⟩ W) : Code.wp Tryd.prog rg1C Q ⟨#[k0, k1, k2, k3, k4, P0 Bq, k6, k7, k8, k9, k10, k11, .func (.func 47) #[] #[.pointer (some ⟨Bx, 0, none⟩)], P0 gn, k14, k15, k16, k17, k18, k19, k20, k21, k22, k23, k24, k25, k26, k27, k28, k29, k30, k31, k32, k33, k34, k35, k36, k37, k38, k39, k40, k41, k42, k43, k44, k45, k46, k47, k48, k49, k50, k51, k52, k53, k54, k55, k56, k57, k58, k59, k60, k61, k62, k63, k64, k65, k66, k67, k68, k69, k70, k71, k72, k73, k74, k75, k76, k77, k78, k79, k80, k81, k82, k83, k84, k85, k86, k87, k88, k89, k90, k91], d⟩ w := by
  conv => arg 2; whnf
  dsimp only
  have hxl := hq.len
  replace hQ := hide hQ; replace hG := hide hG; replace hq := hide hq; replace ht := hide ht; replace hbq := hide hbq; replace hbx := hide hbx; replace hn := hide hn; replace hX := hide hX; replace hxl := hide hxl
  go_upto_region 22 with fail
  refine wp_region_lit ?_
  refine list_val (.func (.func 47) #[] #[.pointer (some ⟨Bx, 0, none⟩)]) (by kernel_rfl) (by kernel_rfl) ?_
  simp only [nrm]
  refine wpList_nil ?_
  go_wp2_with fail
  refine range_law (lb := #[.pointer (some ⟨Bx, 0, none⟩)]) 8 (by kernel_rfl) (enters_of Tryd.func47 (by kernel_rfl) rfl) ?_
  intro fn W1 hG1 hR1
  have hgu : b.heap.size ≤ w.heap.size := (unhide hG).size
  have hJ0 : TJ (w.heap.size + 1) w.heap.size _ b Bx gn xa xn xc 0 W1 := ⟨hR1, (unhide hG).trans hG1, hG1.blk (unhide hbx), hG1.blk (unhide hn)⟩
  clear hR1
  have hbolt : gn < w.heap.size := lt_of_block (unhide hn)
  have hbne : Bx ≠ gn := ty_ne (unhide hbx) (unhide hn) (by decide)
  refine callsIn_wide.2 ((all2_ok (w.heap.size + 1) Bx xa xn xc X (unhide hX) hxn (fun i W => TJ (w.heap.size + 1) w.heap.size _ b Bx gn xa xn xc i W) (fun _ _ => False) (fun i W hJ => ⟨hJ.bx, (unhide hq).gr hJ.gr⟩) ?hY W1 hJ0).mono ?hD)
  case hD =>
    clear hJ0 hG1
    rintro e W2 ⟨rfl, hJ | ⟨c, hf⟩⟩
    · refine ⟨⟨_, rfl⟩, none, hJ.rc, ?_⟩
      intro W3 hW3
      have hJ3 := hJ.put' hW3 (by omega) (by omega)
      clear hJ hW3
      simp only [dact]
      exact unhide hQ _ _ _ hgu hJ3.rc.de hJ3.gr hJ3.bx hJ3.bn
    · exact hf.elim
  case hY =>
    clear hJ0 hG1
    intro i W0 W v hi hJ hg hob
    have hJ2 := hJ.gro hg
    have hob2 : Ob b.heap.size W v (X.getD i []) := ob_base hob hJ.gr.size
    clear hJ hg hob
    refine yield_law 8 hJ2.rc (by omega) rfl ?a1 ?hassign ?hbody
    case hassign =>
      intro K hK
      refine wpIn_seq ?_
      refine region_round _ _ (by kernel_rfl) (fun ⟨_, _, h⟩ => h) ?_
      (refine wpList_step fun K hK => ?_; replace hK := hide hK; go_simp; refine unhide hK _ _ ?_; clear hK K)
      refine wpList_nil ?_
      show Code.wpIn _ _ _ _ _ _ _
      refine region_round _ _ (by kernel_rfl) (fun ⟨_, _, h⟩ => h) ?_
      (refine wpList_step fun K hK => ?_; replace hK := hide hK; go_simp; refine unhide hK _ _ ?_; clear hK K)
      refine wpList_nil ?_
      exact hK
    case hbody =>
      intro W' hW' hR'
      have hJ3 := hJ2.put' hW' (by omega) (by omega)
      have hob3 : Ob b.heap.size W' v (X.getD i []) := by rw [hW']; exact hob2.nk (put_nk hJ2.rc.lo rfl _)
      clear hW' hR' hJ2 hob2
      refine wpIn_block ?_
      have hrc := hJ3.rc
      have hgr := hJ3.gr
      have hbn := hJ3.bn
      have hbx3 := hJ3.bx
      have hi2 : i < X.length := by rw [unhide hxl]; exact hi
      have iI : (i : Int) < (xn : Int) := by omega
      obtain ⟨ii, hii⟩ : ∃ q : Int, q = ((i + 1 : Nat) : Int) := ⟨_, rfl⟩
      have ei : IntKind.i64.wrap ((i : Int) + 1) = ii := by rw [IntKind.wrap_i64]; omega
      replace hii := hide hii
      obtain ⟨p, o, ai, ni, ci, rfl, hcel, hlb, hni⟩ := (unhide ht).at_ i hi
      have hxb : IsB (X.getD i []) := hlb.isB
      replace hcel := hide (hgr.cell hcel); replace hlb := hide (hlb.gr hgr)
      have hbq3 := hide (hgr.blk (unhide hbq))
      generalize X.getD i [] = x at *
      obtain ⟨va, vc, rfl, hlv⟩ := ob_lb hob3 hxb rfl
      obtain ⟨vn, hvn⟩ : ∃ n, n = x.length := ⟨_, rfl⟩
      rw [← hvn] at hlv ⊢
      replace hlv := hide hlv
      clear hJ3 hob3
      replace hrc := hide hrc; replace hgr := hide hgr; replace hbx3 := hide hbx3
      refine wpIn_seq ?_
      refine wpIn_seq ?_
      refine region_round _ _ (by kernel_rfl) (fun ⟨_, _, h⟩ => h) ?_
      refine list_val (.int .i64 (i : Int)) (by kernel_rfl) (by kernel_rfl) ?_
      simp only [nrm]
      refine list_val (.int .i64 (i : Int)) (by kernel_rfl) (exec_i64c _ (.tmp 13) rfl gn 0 (by kernel_rfl) (i : Int) (cell_of hbn (i := 0) rfl)) ?_
      simp only [nrm]
      refine list_val (.bool false) (by kernel_rfl) (by go_simp) ?_
      simp only [nrm]
      refine list_val (.bool false) (by kernel_rfl) (by kernel_rfl) ?_
      simp only [nrm]
      refine list_val (.int .i64 (i : Int)) (by kernel_rfl) (exec_i64c _ (.tmp 13) rfl gn 0 (by kernel_rfl) (i : Int) (cell_of hbn (i := 0) rfl)) ?_
      simp only [nrm]
      refine list_val (.slice (some ⟨p, o, none⟩) xn tc) (by kernel_rfl) (exec_sx _ (.tmp 5) rfl Bq 0 (by kernel_rfl) (some ⟨p, o, none⟩) xn tc (cell_of (unhide hbq3) (i := 0) rfl)) ?_
      simp only [nrm]
      refine list_val (.int .i64 xn) (by kernel_rfl) (by kernel_rfl) ?_
      simp only [nrm]
      refine list_val (.bool false) (by kernel_rfl) (by go_simp) ?_
      simp only [nrm]
      refine list_val (.bool false) (by kernel_rfl) (by kernel_rfl) ?_
      simp only [nrm]
      refine list_val (.bool false) (by kernel_rfl) (by kernel_rfl) ?_
      simp only [nrm]
      refine list_val (.slice va vn vc) (by kernel_rfl) (by kernel_rfl) ?_
      simp only [nrm]
      refine list_val (.slice (some ⟨p, o, none⟩) xn tc) (by kernel_rfl) (exec_sx _ (.tmp 5) rfl Bq 0 (by kernel_rfl) (some ⟨p, o, none⟩) xn tc (cell_of (unhide hbq3) (i := 0) rfl)) ?_
      simp only [nrm]
      refine list_val (.int .i64 (i : Int)) (by kernel_rfl) (exec_i64c _ (.tmp 13) rfl gn 0 (by kernel_rfl) (i : Int) (cell_of hbn (i := 0) rfl)) ?_
      simp only [nrm]
      refine list_val (.pointer (some ⟨p, o + i, none⟩)) (by kernel_rfl) (exec_ils _ (.tmp 76) (.tmp 77) rfl p o xn tc i (by kernel_rfl) (by kernel_rfl) hi) ?_
      simp only [nrm]
      refine list_val (.slice ai ni ci) (by kernel_rfl) (exec_sby _ (.tmp 78) rfl p (o + i) (by kernel_rfl) ai ni ci (unhide hcel)) ?_
      simp only [nrm]
      refine list_call 37 #[.slice va vn vc, .slice ai ni ci] (by kernel_rfl) (by kernel_rfl) ((beq_ok x x va ai vn ni vc ci _ (unhide hlv) (unhide hlb)).mono ?_)
      rintro r z1 ⟨rfl, hg⟩
      refine ⟨_, rfl, ?_⟩
      rw [decide_eq_true rfl]
      replace hrc := hide ((unhide hrc).gr hg); replace hgr := hide ((unhide hgr).trans hg); replace hbx3 := hide (hg.blk (unhide hbx3)); replace hbn := hg.blk hbn
      clear hg hlv hlb
      simp only [nrm]
      refine list_val (.bool false) (by kernel_rfl) (by kernel_rfl) ?_
      simp only [nrm]
      refine list_val (.bool false) (by kernel_rfl) (by kernel_rfl) ?_
      simp only [nrm]
      refine wpList_nil ?_
      show Code.wpIn _ _ _ _ _ _ _
      refine wpIn_cond_false rfl ?_
      refine wpIn_skip ?_
      show Code.wpIn _ _ _ _ _ _ _
      refine region_round _ _ (by kernel_rfl) (fun ⟨_, _, h⟩ => h) ?_
      refine list_val (.int .i64 (i : Int)) (by kernel_rfl) (exec_i64c _ (.tmp 13) rfl gn 0 (by kernel_rfl) (i : Int) (cell_of hbn (i := 0) rfl)) ?_
      simp only [nrm]
      refine list_val (.int .i64 ii) (by kernel_rfl) (by go_simp) ?_
      simp only [nrm]
      have c4 := cell_of hbn (i := 0) rfl
      have fz := froz_of (i := 0) hbn
      have hbn6 := hide (own_cell (v' := .int .i64 ii) hbn)
      have hbt := hide (Bt.setCell (g := gn) z1 0 (.int .i64 ii))
      clear hbn
      (refine wpList_step fun K hK => ?_; replace hK := hide hK; go_simp; refine unhide hK _ _ ?_; clear hK K)
      clear c4 fz
      generalize World.setCell _ _ _ = z6 at *
      refine wpList_nil ?_
      have hR6 : Rcd (w.heap.size + 1) w.heap.size _ z6 := ⟨by rw [(unhide hbt).block _ (lt_of_block (unhide hrc).lo) (by omega)]; exact (unhide hrc).lo, by rw [(unhide hbt).block _ (lt_of_block (unhide hrc).de) (by omega)]; exact (unhide hrc).de⟩
      refine ⟨hR6, ?_⟩
      refine (if_pos rfl).mpr ?_
      have hJ6 : TJ (w.heap.size + 1) w.heap.size _ b Bx gn xa xn xc (i + 1) z6 := ⟨hR6, (unhide hbt).gr (unhide hgr) hgn, (unhide hbt).blk (unhide hbx3) hbne, by rw [← unhide hii]; exact unhide hbn6⟩
      exact hJ6.put (by omega) (by omega)
set_option maxHeartbeats 4000000 in
theorem rg2_ok (b : World) (Q : Exit → Act → World → Prop) (d : List Deferred) (Bx : Nat) (xa : Option Addr) (xn xc : Nat) (X : List (List Int)) (hX : ∀ x ∈ X, x.length ≤ 100000) (hxn : xn ≤ 1000000) (hq : Lq b xa xn xc X) (hbx : b.heap[Bx]? = some (.cells #[.slice xa xn xc] 33 (0, 0))) (k0 k1 k2 k3 k4 k5 k6 k7 k8 k9 k10 k11 k13 k14 k15 k16 k17 k18 k19 k20 k21 k22 k23 k24 k25 k26 k27 k28 k29 k30 k31 k32 k33 k34 k35 k36 k37 k38 k39 k40 k41 k42 k43 k44 k45 k46 k47 k48 k49 k50 k51 k52 k53 k54 k55 k56 k57 k58 k59 k60 k61 k62 k63 k64 k65 k66 k67 k68 k69 k70 k71 k72 k73 k74 k75 k76 k77 k78 k79 k80 k81 k82 k83 k84 k85 k86 k87 k88 k89 k90 k91 : Value) (hQ : ∀ (u85 : Value) (D : Nat) (W : World), b.heap.size ≤ D → W.heap[D]? = some (.deferred (some [])) → Gr b W → Q .normal ⟨#[k0, k1, k2, k3, k4, k5, k6, k7, k8, k9, k10, k11, .func (.func 47) #[] #[.pointer (some ⟨Bx, 0, none⟩)], k13, k14, k15, k16, k17, k18, k19, k20, k21, k22, k23, k24, k25, k26, k27, k28, k29, k30, k31, k32, k33, k34, k35, k36, k37, k38, k39, k40, k41, k42, k43, k44, k45, k46, k47, k48, k49, k50, k51, k52, k53, k54, k55, k56, k57, k58, k59, k60, k61, k62, k63, k64, k65, k66, k67, k68, k69, k70, k71, k72, k73, k74, k75, k76, k77, k78, k79, k80, k81, k82, k83, k84, u85, k86, k87, k88, k89, k90, k91], { target := .collected D, args := #[] } :: d⟩ W) : Code.wp Tryd.prog rg2C Q ⟨#[k0, k1, k2, k3, k4, k5, k6, k7, k8, k9, k10, k11, .func (.func 47) #[] #[.pointer (some ⟨Bx, 0, none⟩)], k13, k14, k15, k16, k17, k18, k19, k20, k21, k22, k23, k24, k25, k26, k27, k28, k29, k30, k31, k32, k33, k34, k35, k36, k37, k38, k39, k40, k41, k42, k43, k44, k45, k46, k47, k48, k49, k50, k51, k52, k53, k54, k55, k56, k57, k58, k59, k60, k61, k62, k63, k64, k65, k66, k67, k68, k69, k70, k71, k72, k73, k74, k75, k76, k77, k78, k79, k80, k81, k82, k83, k84, k85, k86, k87, k88, k89, k90, k91], d⟩ b := by
  conv => arg 2; whnf
  dsimp only
  replace hQ := hide hQ; replace hq := hide hq; replace hbx := hide hbx; replace hX := hide hX
  go_upto_region 28 with fail
  refine wp_region_lit ?_
  refine list_val (.func (.func 47) #[] #[.pointer (some ⟨Bx, 0, none⟩)]) (by kernel_rfl) (by kernel_rfl) ?_
  simp only [nrm]
  refine wpList_nil ?_
  go_wp2_with fail
  refine range_law (lb := #[.pointer (some ⟨Bx, 0, none⟩)]) 8 (by kernel_rfl) (enters_of Tryd.func47 (by kernel_rfl) rfl) ?_
  intro fn W1 hG1 hR1
  obtain ⟨r0, hr0, hR1⟩ : ∃ r, r = lrc _ _ _ _ _ fn .ready none ∧ Rcd (b.heap.size + 1) b.heap.size r W1 := ⟨_, rfl, hR1⟩
  refine callsIn_wide.2 ((all2_ok (b.heap.size + 1) Bx xa xn xc X (unhide hX) hxn (fun i W => Gr b W ∧ Rcd (b.heap.size + 1) b.heap.size r0 W) (fun c W => c = some (.exit 8) ∧ Gr b W ∧ Rcd (b.heap.size + 1) b.heap.size { r0 with state := .done, pending := some (.exit 8) } W) (fun i W hJ => ⟨hJ.1.blk (unhide hbx), (unhide hq).gr hJ.1⟩) ?hY W1 ⟨hG1, hR1⟩).mono ?hD)
  case hD =>
    clear hG1 hR1
    subst hr0
    rintro e W2 ⟨rfl, ⟨hg, hr⟩ | ⟨c, rfl, hg, hr⟩⟩
    · refine ⟨⟨_, rfl⟩, none, hr, ?_⟩
      intro W3 hW3
      have hg3 : Gr b W3 := by rw [hW3]; exact gr_put hg (by omega) _
      have hd3 : W3.heap[b.heap.size]? = some (.deferred (some [])) := by rw [hW3, (put_bt W2 _ _).block _ (lt_of_block hr.de) (by omega)]; exact hr.de
      simp only [dact]
      exact unhide hQ _ _ _ (Nat.le_refl _) hd3 hg3
    · refine ⟨⟨_, rfl⟩, some (.exit 8), hr, ?_⟩
      intro W3 hW3
      have hg3 : Gr b W3 := by rw [hW3]; exact gr_put hg (by omega) _
      have hd3 : W3.heap[b.heap.size]? = some (.deferred (some [])) := by rw [hW3, (put_bt W2 _ _).block _ (lt_of_block hr.de) (by omega)]; exact hr.de
      simp only [dact]
      refine wp_exit ?_
      exact unhide hQ _ _ _ (Nat.le_refl _) hd3 hg3
  case hY =>
    clear hG1 hR1
    subst hr0
    intro i W0 W v hi hJ hg hob
    refine yield_law 8 (hJ.2.gr hg) (by omega) rfl ?a1 ?hassign ?hbody
    case hassign =>
      intro K hK
      refine wpIn_skip ?_
      exact hK
    case hbody =>
      intro W' hW' hR'
      refine wpIn_block ?_
      refine wpIn_exit ?_
      have hg4 : Gr b W' := by rw [hW']; exact gr_put (hJ.1.trans hg) (by omega) _
      refine ⟨hR', ?_⟩
      refine (if_neg (by decide)).mpr ?_
      refine ⟨rfl, gr_put hg4 (by omega) _, ?_⟩
      exact ⟨put_get hR'.lo _, by rw [(put_bt W' _ _).block _ (lt_of_block hR'.de) (by omega)]; exact hR'.de⟩
end Go.Proofs.YtaoiejgjdmakjaaDoor
