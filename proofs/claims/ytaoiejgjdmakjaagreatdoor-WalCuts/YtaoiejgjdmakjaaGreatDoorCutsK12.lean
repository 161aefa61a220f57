/-
  Of layer 12: what the proof leans on.
-/
import Derived.Test.YtaoiejgjdmakjaaGreatDoorCutsK11
namespace Go.Proofs.YtaoiejgjdmakjaaGreatDoor
open Go.RowKit
set_option maxRecDepth 100000
set_option linter.unusedSimpArgs false
set_option linter.unusedVariables false
theorem or_zero {k : Nat} {e : TypeId} {b : Nat} {w : World} {v : Value} {R : List (List Value)} (h : Or_ k e b w v R) : Or_ k e 0 w v R := by
  refine ⟨h.1, h.2.1, ?_⟩
  rcases h.2.2 with h | ⟨p, cap, cur, h1, h2, h3⟩
  · exact .inl h
  · exact .inr ⟨p, cap, cur, h1, Nat.zero_le _, h3⟩
theorem or_blk2 {k : Nat} {e : TypeId} {b : Nat} {w : World} {a : Option Addr} {n c : Nat} {R : List (List Value)} (h : Or_ k e b w (.slice a n c) R) {i : Nat} (hi : blkOf a = some i) : b ≤ i ∧ ∃ cur, w.heap[i]? = some (.cells cur e (0, 0)) := by
  rcases h.2.2 with ⟨h1, _⟩ | ⟨g, cap, cur, h1, h2, h3, _⟩
  · injection h1 with h1 _ _
    rw [h1] at hi
    cases hi
  · injection h1 with h1 _ _
    rw [h1] at hi
    have : g = i := by simpa [blkOf] using hi
    subst this
    exact ⟨h2, cur, h3⟩
theorem usd_mem {X : List (List Int)} {x : List Int} (h : x ∈ X) : ned x.length ≤ usd X := by
  induction X with
  | nil => cases h
  | cons y r ih =>
    rw [usd]
    rcases List.mem_cons.1 h with e | e
    · rw [e]; omega
    · have := ih e
      omega
set_option maxHeartbeats 4000000 in
theorem lappend_dead (H : List Nat) (l gs : Nat) (L : List Int) (X : List (List Int)) (a : Option Addr) (n c : Nat) (w : World) (hlg : Lg H l gs L X true w) : Calls Tryz.prog 17 #[P0 l, .slice a n c] w (Vl (.int .i64 7) w) := by
  obtain ⟨T, hT⟩ : ∃ T, T = Vl (.int .i64 7) w := ⟨_, rfl⟩
  rw [← hT]
  replace hT := hide hT
  obtain ⟨sa, sn, sc, xa, xc, vs, hq⟩ := hlg.st
  have hcel := hq.cel
  replace hcel := hide hcel
  clear hq hlg
  have hZ : Hid (Vl (.int .i64 7) w (.returned (.int .i64 7)) w) := ⟨rfl, Gr.refl w⟩
  go_enter Tryz.func17, Tryz.ntmps17
  go_upto_region 3 with fail
  refine wp_region_lit ?_
  refine list_val (.pointer (some ⟨l, 0, none⟩)) (by kernel_rfl) (by kernel_rfl) ?_
  simp only [nrm]
  refine list_val (.pointer (some ⟨l, 0, none⟩)) (by kernel_rfl) (by kernel_rfl) ?_
  simp only [nrm]
  refine list_val (.pointer (some ⟨l, 3, none⟩)) (by kernel_rfl) (by kernel_rfl) ?_
  simp only [nrm]
  refine list_val (.bool true) (by kernel_rfl) (exec_bool _ (.tmp 10) rfl l 3 (by kernel_rfl) true (cell_of (unhide hcel) (i := 3) rfl)) ?_
  simp only [nrm]
  refine wpList_nil ?_
  go_wp2_with fail
  rw [unhide hT]
  exact unhide hZ
set_option maxHeartbeats 4000000 in
theorem lcheck_dead (H : List Nat) (l gs : Nat) (L : List Int) (X : List (List Int)) (a : Option Addr) (n c : Nat) (w : World) (hlg : Lg H l gs L X true w) : Calls Tryz.prog 8 #[P0 l, .slice a n c] w (Vl (.int .i64 7) w) := by
  obtain ⟨T, hT⟩ : ∃ T, T = Vl (.int .i64 7) w := ⟨_, rfl⟩
  rw [← hT]
  replace hT := hide hT
  obtain ⟨sa, sn, sc, xa, xc, vs, hq⟩ := hlg.st
  have hcel := hq.cel
  replace hcel := hide hcel
  clear hq hlg
  have hZ : Hid (Vl (.int .i64 7) w (.returned (.int .i64 7)) w) := ⟨rfl, Gr.refl w⟩
  go_enter Tryz.func8, Tryz.ntmps8
  go_upto_region 3 with fail
  refine wp_region_lit ?_
  refine list_val (.pointer (some ⟨l, 0, none⟩)) (by kernel_rfl) (by kernel_rfl) ?_
  simp only [nrm]
  refine list_val (.pointer (some ⟨l, 0, none⟩)) (by kernel_rfl) (by kernel_rfl) ?_
  simp only [nrm]
  refine list_val (.pointer (some ⟨l, 3, none⟩)) (by kernel_rfl) (by kernel_rfl) ?_
  simp only [nrm]
  refine list_val (.bool true) (by kernel_rfl) (exec_bool _ (.tmp 10) rfl l 3 (by kernel_rfl) true (cell_of (unhide hcel) (i := 3) rfl)) ?_
  simp only [nrm]
  refine wpList_nil ?_
  go_wp2_with fail
  rw [unhide hT]
  exact unhide hZ
set_option maxHeartbeats 4000000 in
theorem lappend_full (G H : List Nat) (l gs gd N : Nat) (s : Sup) (L : List Int) (X : List (List Int)) (hN : N ≤ 100000) (a : Option Addr) (n c : Nat) (hn : n < 9223372036854775808) (w : World) (hlg : Lg H l gs L X false w) (hs : Sto G gs gd N s w) (hu : usd X ≤ N - 2 - 2 * ((N - 2) / 4)) (hno : ¬ usd X + ned n ≤ N - 2 - 2 * ((N - 2) / 4)) : Calls Tryz.prog 17 #[P0 l, .slice a n c] w (Vl (.int .i64 6) w) := by
  obtain ⟨T, hT⟩ : ∃ T, T = Vl (.int .i64 6) w := ⟨_, rfl⟩
  rw [← hT]
  replace hT := hide hT
  obtain ⟨sa, sn, sc, xa, xc, vs, hq⟩ := hlg.st
  have hlq := hq.lq hlg.xi
  have hcel := hq.cel
  have hxu := usd_ge X
  have hfit2 : decide (0 ≤ (n : Int) ∧ nedI (n : Int) ≤ ((N - 2 - 2 * ((N - 2) / 4) - usd X : Nat) : Int)) = false := by
    rw [nedI_nat]
    exact decide_eq_false (fun h => by omega)
  replace hcel := hide hcel; replace hlq := hide hlq; replace hfit2 := hide hfit2; replace hs := hide hs; replace hu := hide hu; replace hxu := hide hxu
  clear hq hlg hno
  have hB := Bl.nil w
  go_enter Tryz.func17, Tryz.ntmps17
  go_upto_region 3 with fail
  refine wp_region_lit ?_
  refine list_val (.pointer (some ⟨l, 0, none⟩)) (by kernel_rfl) (by kernel_rfl) ?_
  simp only [nrm]
  refine list_val (.pointer (some ⟨l, 0, none⟩)) (by kernel_rfl) (by kernel_rfl) ?_
  simp only [nrm]
  refine list_val (.pointer (some ⟨l, 3, none⟩)) (by kernel_rfl) (by kernel_rfl) ?_
  simp only [nrm]
  refine list_val (.bool false) (by kernel_rfl) (exec_bool _ (.tmp 10) rfl l 3 (by kernel_rfl) false (cell_of (unhide hcel) (i := 3) rfl)) ?_
  simp only [nrm]
  refine wpList_nil ?_
  replace hB := hide hB
  go_upto_region 5 with fail
  replace hB := unhide hB
  refine wp_region_lit ?_
  refine list_val (.pointer (some ⟨l, 0, none⟩)) (by kernel_rfl) (by kernel_rfl) ?_
  simp only [nrm]
  refine list_val (.slice a n c) (by kernel_rfl) (by kernel_rfl) ?_
  simp only [nrm]
  refine list_val (.int .i64 (n : Int)) (by kernel_rfl) (by kernel_rfl) ?_
  simp only [nrm]
  refine list_call 25 #[P0 l, .int .i64 (n : Int)] (by kernel_rfl) (by kernel_rfl) ((lroom_ok l gs sa sn sc xa X.length xc false w (unhide hcel) X (unhide hlq) (by have := unhide hxu; have := unhide hu; omega) G gd N s (by omega) (unhide hs) (n : Int) (by omega) (by omega) _ rfl (unhide hu)).mono ?_)
  rintro r u1 ⟨rfl, hg⟩
  rw [unhide hfit2]
  replace hB := hB.more hg
  clear hg
  refine ⟨_, rfl, ?_⟩
  simp only [nrm]
  refine list_val (.bool true) (by kernel_rfl) (by kernel_rfl) ?_
  simp only [nrm]
  refine wpList_nil ?_
  have hZ : Hid (Vl (.int .i64 6) w (.returned (.int .i64 6)) u1) := ⟨rfl, hB.gr⟩
  clear hB
  go_wp2_with fail
  rw [unhide hT]
  exact unhide hZ
def Cpd (F H : List Nat) (l gs gd : Nat) (D : Dk) (s : Sup) (L : List Int) (X : List (List Int)) (M : List Int) (w : World) (r : Ending) (w' : World) : Prop := ∃ F' H', r = .returned (.int .i64 (Dk.runD (takeOps s ((D.safe.length - 2) / 4) M) D).2) ∧ Lies F' gd (Dk.runD (takeOps s ((D.safe.length - 2) / 4) M) D).1 w' ∧ Sto [gs] gs gd D.safe.length (if (Dk.runD (takeOps s ((D.safe.length - 2) / 4) M) D).2 = 0 then s.next M else s) w' ∧ Lg H' l gs (if (Dk.runD (takeOps s ((D.safe.length - 2) / 4) M) D).2 = 0 then M else L) (if (Dk.runD (takeOps s ((D.safe.length - 2) / 4) M) D).2 = 0 then [] else X) (decide (¬ (Dk.runD (takeOps s ((D.safe.length - 2) / 4) M) D).2 = 0)) w' ∧ (∀ i ∈ F', i ∉ H') ∧ (∀ i ∈ H', i ∈ H ∨ w.heap.size ≤ i) ∧ (gs ∉ H') ∧ Chg (F ++ H) (F' ++ H') w w'
set_option maxHeartbeats 4000000 in
theorem lcheck_ok (F G H : List Nat) (l gs gd m : Nat) (D : Dk) (s : Sup) (L0 : List Int) (hD : D.Ok m) (hm : m ≤ 800000) (hd : D.dead = false) (hn64 : 64 ≤ D.safe.length) (ho : Os D ((D.safe.length - 2) / 4) s L0) (hst : s.turn + 1 < 18446744073709551616) (L : List Int) (X : List (List Int)) (w : World) (hL : Lies F gd D w) (hs : Sto G gs gd D.safe.length s w) (hlg : Lg H l gs L X false w) (hFH : ∀ i ∈ F, i ∉ H) (hgH : gs ∉ H) (M : List Int) (a : Option Addr) (n c : Nat) (hM : Lb w a n c M) (hMa : M = [] ∨ ∀ i, i ∈ F ∨ i ∈ G ∨ i ∈ H → blkOf a ≠ some i) (hfit : n ≤ 64 * ((D.safe.length - 2) / 4)) (hf : Fst w) (h0 : 0 ∉ F ∧ 0 ∉ G) (h3 : (Dk.runD (takeOps s ((D.safe.length - 2) / 4) M) D).2 ≠ 3) : Calls Tryz.prog 8 #[P0 l, .slice a n c] w (Cpd F H l gs gd D s L X M w) := by
  obtain ⟨T, hT⟩ : ∃ T, T = Cpd F H l gs gd D s L X M w := ⟨_, rfl⟩
  rw [← hT]
  replace hT := hide hT
  have h512 := hD.hi1
  have hMl := hM.len
  have hnb : n ≤ 100000 := by omega
  obtain ⟨sa, sn, sc, xa, xc, vs, hq⟩ := hlg.st
  have hcel := hq.cel
  have hFG : ∀ i ∈ F, i ∉ G := fun i hi hg => lies_no hL hs.2 (fun c t e => by injection e with _ e2 _; subst e2; decide) (by rw [hs.1, List.mem_singleton] at hg; rw [← hg]; exact hi)
  have hGe := hs.1
  obtain ⟨AP, hAP⟩ : ∃ A, A = (Dk.runD (takeOps s ((D.safe.length - 2) / 4) M) D) := ⟨_, rfl⟩
  rw [← hAP] at h3
  have hR0 : Hid (T = fun r w' => ∃ F' H', r = .returned (.int .i64 AP.2) ∧ Lies F' gd AP.1 w' ∧ Sto [gs] gs gd D.safe.length (if AP.2 = 0 then s.next M else s) w' ∧ Lg H' l gs (if AP.2 = 0 then M else L) (if AP.2 = 0 then [] else X) (decide (¬ AP.2 = 0)) w' ∧ (∀ i ∈ F', i ∉ H') ∧ (∀ i ∈ H', i ∈ H ∨ w.heap.size ≤ i) ∧ (gs ∉ H') ∧ Chg (F ++ H) (F' ++ H') w w') := by show T = _; rw [unhide hT, hAP]; rfl
  clear hT
  obtain ⟨e, he⟩ : ∃ e, e = AP.2 := ⟨_, rfl⟩
  rw [← he] at h3
  replace hD := hide hD; replace hL := hide hL; replace hs := hide hs; replace hlg := hide hlg; replace hq := hide hq; replace hcel := hide hcel; replace hM := hide hM; replace hMa := hide hMa; replace hf := hide hf; replace hAP := hide hAP; replace hd := hide hd; replace hMl := hide hMl; replace hFH := hide hFH; replace he := hide he; replace ho := hide ho; replace hFG := hide hFG; replace hGe := hide hGe
  go_enter Tryz.func8, Tryz.ntmps8
  go_upto_region 3 with fail
  refine wp_region_lit ?_
  refine list_val (.pointer (some ⟨l, 0, none⟩)) (by kernel_rfl) (by kernel_rfl) ?_
  simp only [nrm]
  refine list_val (.pointer (some ⟨l, 0, none⟩)) (by kernel_rfl) (by kernel_rfl) ?_
  simp only [nrm]
  refine list_val (.pointer (some ⟨l, 3, none⟩)) (by kernel_rfl) (by kernel_rfl) ?_
  simp only [nrm]
  refine list_val (.bool false) (by kernel_rfl) (exec_bool _ (.tmp 10) rfl l 3 (by kernel_rfl) false (cell_of (unhide hcel) (i := 3) rfl)) ?_
  simp only [nrm]
  refine wpList_nil ?_
  go_upto_region 5 with fail
  refine wp_region_lit ?_
  refine list_val (.pointer (some ⟨l, 0, none⟩)) (by kernel_rfl) (by kernel_rfl) ?_
  simp only [nrm]
  refine list_val (.pointer (some ⟨l, 0, none⟩)) (by kernel_rfl) (by kernel_rfl) ?_
  simp only [nrm]
  refine list_val (.pointer (some ⟨l, 0, none⟩)) (by kernel_rfl) (by kernel_rfl) ?_
  simp only [nrm]
  refine list_val (.pointer (some ⟨gs, 0, none⟩)) (by kernel_rfl) (exec_pst _ (.tmp 14) rfl l 0 (by kernel_rfl) _ (cell_of (unhide hcel) (i := 0) rfl)) ?_
  simp only [nrm]
  refine list_val (.slice a n c) (by kernel_rfl) (by kernel_rfl) ?_
  simp only [nrm]
  refine list_call 32 #[.pointer (some ⟨gs, 0, none⟩), .slice a n c] (by kernel_rfl) (by kernel_rfl) ((etake_ok F G gs gd m D s L0 (unhide hD) (by omega) (unhide hd) w (unhide hL) (unhide hs) hn64 (unhide ho) (unhide hFG) (unhide hf) h0 M a n c (unhide hM) ((unhide hMa).imp id (fun h i hi => h i (hi.imp id .inl))) hfit hst).mono ?_)
  rintro r u2 ⟨F', G', rfl, hL2, hS2, hap2, hC0⟩
  rw [← unhide hAP] at hL2 hS2 ⊢
  rw [← unhide he] at hS2 ⊢
  have hG'e := hS2.1
  subst hG'e
  have hC3 : Hid (Chg F F' w u2) := by
    have hg9 := unhide hGe
    refine ⟨hC0.os, hC0.tape, hC0.output, hC0.size, fun i hi hn => ?_, fun i hi => ?_⟩
    · by_cases hig : i ∈ G
      · have hi9 : i = gs := by rw [hg9, List.mem_singleton] at hig; exact hig
        rw [hi9, (unhide hs).2]
        exact hS2.2
      · exact hC0.block i hi (by rw [List.mem_append, not_or]; exact ⟨hn, hig⟩)
    · rcases hC0.new i (List.mem_append_left _ hi) with h9 | h9
      · rcases List.mem_append.1 h9 with h8 | h8
        · exact .inl h8
        · rw [hg9] at h8
          exact absurd h8 (hap2 i hi)
      · exact .inr h9
  have hszw : w.heap.size ≤ u2.heap.size := hC0.size
  have hq2 : LgP H l gs L X false sa sn sc xa xc vs u2 := (unhide hq).keep (unhide hlg).mem (fun i hi => (unhide hC3).block i ((unhide hlg).lt i hi) (fun e => (unhide hFH) i e hi))
  replace hL2 := hide hL2; replace hq2 := hide hq2; replace hS2 := hide hS2
  clear hC0 hap2
  refine ⟨_, rfl, ?_⟩
  simp only [nrm]
  (refine wpList_step fun K hK => ?_; replace hK := hide hK; go_simp; refine unhide hK _ _ ?_; clear hK K)
  refine wpList_nil ?_
  by_cases hez : e = 0
  · skip
    subst hez
    have hM2 : Lb u2 a n c M := (unhide hM).chg (unhide hC3) (by
      rcases (unhide hM).sl with h | ⟨p, o, h, _⟩
      · exact .inl h
      · rcases unhide hMa with h2 | h2
        · exact .inl h2
        · exact .inr ⟨p, by rw [h]; rfl, fun e => h2 p (.inl e) (by rw [h]; rfl)⟩)
    replace hM2 := hide hM2
    go_upto_region 9 with fail
    refine wp_region_lit ?_
    refine list_val (.pointer (some ⟨l, 0, none⟩)) (by kernel_rfl) (by kernel_rfl) ?_
    simp only [nrm]
    refine list_val (.pointer (some ⟨l, 0, none⟩)) (by kernel_rfl) (by kernel_rfl) ?_
    simp only [nrm]
    refine list_val (.slice a n c) (by kernel_rfl) (by kernel_rfl) ?_
    simp only [nrm]
    refine list_call 33 #[.slice a n c] (by kernel_rfl) (by kernel_rfl) ((clone_any M a n c u2 (unhide hM2) hnb).mono ?_)
    rintro r u3 ⟨vv, rfl, hob, hg⟩
    obtain ⟨ca, cc, rfl, -⟩ := ob_lb hob (unhide hM).isB (unhide hMl)
    have hc3 := hide (hg.blk (unhide hq2).cel)
    replace hob := hide hob
    have hg3 := hide hg
    clear hg
    refine ⟨_, rfl, ?_⟩
    simp only [nrm]
    refine list_val (.pointer (some ⟨l, 0, none⟩)) (by kernel_rfl) (by kernel_rfl) ?_
    simp only [nrm]
    refine list_val (.pointer (some ⟨l, 1, none⟩)) (by kernel_rfl) (by kernel_rfl) ?_
    simp only [nrm]
    have c4 := cell_of (unhide hc3) (i := 1) rfl
    have fz := froz_of (i := 1) (unhide hc3)
    have hc4 := hide (lgv_set1 (unhide hc3) ca n cc)
    have hbt4 := hide (Bt.setCell (g := l) u3 1 (.slice ca n cc))
    (refine wpList_step fun K hK => ?_; replace hK := hide hK; go_simp; refine unhide hK _ _ ?_; clear hK K)
    clear c4 fz
    generalize World.setCell _ _ _ = u4 at *
    refine list_val (.pointer (some ⟨l, 0, none⟩)) (by kernel_rfl) (by kernel_rfl) ?_
    simp only [nrm]
    refine list_val (.pointer (some ⟨l, 2, none⟩)) (by kernel_rfl) (by kernel_rfl) ?_
    simp only [nrm]
    have c4 := cell_of (unhide hc4) (i := 2) rfl
    have fz := froz_of (i := 2) (unhide hc4)
    have hc5 := hide (lgv_set2 (unhide hc4) none 0 0)
    have hbt5 := hide (Bt.setCell (g := l) u4 2 (.slice none 0 0))
    (refine wpList_step fun K hK => ?_; replace hK := hide hK; go_simp; refine unhide hK _ _ ?_; clear hK K)
    clear c4 fz
    generalize World.setCell _ _ _ = x5 at *
    refine wpList_nil ?_
    have hZ : Hid (T (.returned (.int .i64 0)) x5) := by
      show T _ _
      rw [unhide hR0]
      have hl5 := (unhide hlg).mem
      have hb5 : Bt l u3 x5 := (unhide hbt4).trans (unhide hbt5)
      have hch5 : Chg H H u2 x5 := ((unhide hg3).chg0 H).bt2 hb5 (.inl hl5)
      obtain ⟨H', hH'⟩ : ∃ H', H' = H ++ List.range' u2.heap.size (x5.heap.size - u2.heap.size) := ⟨_, rfl⟩
      have hin : ∀ i, i ∈ H' ↔ i ∈ H ∨ (u2.heap.size ≤ i ∧ i < x5.heap.size) := by
        intro i
        have := hch5.size
        rw [hH', List.mem_append, List.mem_range'_1]
        exact or_congr Iff.rfl ⟨fun h => ⟨h.1, by omega⟩, fun h => ⟨h.1, by omega⟩⟩
      have hFl : ∀ i ∈ F', i < u2.heap.size := (unhide hL2).lt
      have hF'H : ∀ i ∈ F', i ∉ H' := by
        intro i hi hh
        rcases (hin i).1 hh with h9 | h9
        · rcases (unhide hC3).new i hi with h8 | h8
          · exact (unhide hFH) i h8 h9
          · have := (unhide hlg).lt i h9
            omega
        · have := hFl i hi
          omega
      refine ⟨F', H', by rw [← unhide he], ?_, ?_, ?_, hF'H, ?_, ?_, ?_⟩
      · exact (unhide hL2).keep hch5.size (fun i hi => hch5.block i (hFl i hi) (fun h9 => hF'H i hi ((hin i).2 (.inl h9))))
      · rw [← unhide he]
        exact (unhide hS2).keep hch5.size (fun i hi => hch5.block i ((unhide hS2).lt i hi) (fun h9 => hgH (by rw [List.mem_singleton] at hi; rw [← hi]; exact h9)))
      · rw [if_pos (unhide he).symm, if_pos (unhide he).symm, ← unhide he]
        refine ⟨?_, (hin l).2 (.inl hl5), ⟨(unhide hM).isB, by rw [unhide hMl]; exact hnb⟩, (fun x hx => by cases hx), ?_⟩
        · intro i hi
          rcases (hin i).1 hi with h9 | h9
          · exact Nat.lt_of_lt_of_le ((unhide hlg).lt i h9) (Nat.le_trans hszw hch5.size)
          · exact h9.2
        · refine ⟨ca, n, cc, none, 0, [], unhide hc5, owns_bt (ob_zero (unhide hob)) (unhide hc3) (by decide) hb5, fun p e9 => ?_, ⟨(fun r hr => by cases hr), rfl, .inl ⟨rfl, rfl⟩⟩, (fun p e9 => by cases e9), rfl, (fun i hi => absurd hi (Nat.not_lt_zero i)), (fun i hi => absurd hi (Nat.not_lt_zero i))⟩
          obtain ⟨h7, cur, h8⟩ := ob_blk (unhide hob) ((own_blk _ _ _ _).2 e9)
          exact (hin p).2 (.inr ⟨h7, Nat.lt_of_lt_of_le (lt_of_block h8) hb5.size⟩)
      · intro i hi
        rcases (hin i).1 hi with h9 | h9
        · exact .inl h9
        · exact .inr (by omega)
      · intro h9
        rcases (hin gs).1 h9 with h9 | h9
        · exact hgH h9
        · have := lt_of_block (unhide hs).2
          omega
      · have hc3 := unhide hC3
        refine ⟨hch5.os.trans hc3.os, hch5.tape.trans hc3.tape, hch5.output.trans hc3.output, Nat.le_trans hc3.size hch5.size, fun i hi hn => ?_, fun i hi => ?_⟩
        · rw [List.mem_append, not_or] at hn
          rw [hch5.block i (Nat.lt_of_lt_of_le hi hc3.size) hn.2]
          exact hc3.block i hi hn.1
        · rw [List.mem_append]
          rcases List.mem_append.1 hi with h9 | h9
          · exact (hc3.new i h9).imp .inl id
          · rcases (hin i).1 h9 with h8 | h8
            · exact .inl (.inr h8)
            · exact .inr (by omega)
    clear hC3 hL2 hS2 hq2 hM2 hob hc3 hc4 hc5 hbt4 hbt5 hg3
    go_wp2_with fail
    exact unhide hZ
  · skip
    go_upto_region 7 with fail
    refine wp_region_lit ?_
    refine list_val (.pointer (some ⟨l, 0, none⟩)) (by kernel_rfl) (by kernel_rfl) ?_
    simp only [nrm]
    refine list_val (.int .i64 e) (by kernel_rfl) (by kernel_rfl) ?_
    simp only [nrm]
    refine list_val (.bool true) (by kernel_rfl) (by go_simp) ?_
    simp only [nrm]
    refine list_val (.pointer (some ⟨l, 0, none⟩)) (by kernel_rfl) (by kernel_rfl) ?_
    simp only [nrm]
    refine list_val (.pointer (some ⟨l, 3, none⟩)) (by kernel_rfl) (by kernel_rfl) ?_
    simp only [nrm]
    have c4 := cell_of (unhide hq2).cel (i := 3) rfl
    have fz := froz_of (i := 3) (unhide hq2).cel
    have hc5 := hide (lgv_set3 (unhide hq2).cel true)
    have hbt := hide (Bt.setCell (g := l) u2 3 (.bool true))
    (refine wpList_step fun K hK => ?_; replace hK := hide hK; go_simp; refine unhide hK _ _ ?_; clear hK K)
    clear c4 fz
    generalize World.setCell _ _ _ = x5 at *
    refine wpList_nil ?_
    have hZ : Hid (T (.returned (.int .i64 e)) x5) := by
      show T _ _
      rw [unhide hR0]
      have hl5 := (unhide hlg).mem
      have hb5 := unhide hbt
      have hlF' : ∀ i ∈ F', i ∉ H := fun i hi h9 => by
        rcases (unhide hC3).new i hi with h8 | h8
        · exact (unhide hFH) i h8 h9
        · have := (unhide hlg).lt i h9
          omega
      refine ⟨F', H, by rw [← unhide he], (unhide hL2).bt hb5 (fun h9 => hlF' l h9 hl5), ?_, ?_, hlF', fun i hi => .inl hi, hgH, ?_⟩
      · rw [← unhide he]
        exact (unhide hS2).keep hb5.size (fun i hi => hb5.block i ((unhide hS2).lt i hi) (fun h9 => hgH (by rw [List.mem_singleton] at hi; rw [← hi, h9]; exact hl5)))
      · rw [if_neg (by rw [← unhide he]; exact hez), if_neg (by rw [← unhide he]; exact hez), ← unhide he, decide_eq_true hez]
        exact ⟨fun i hi => Nat.lt_of_lt_of_le ((unhide hlg).lt i hi) (Nat.le_trans (unhide hC3).size hb5.size), hl5, (unhide hlg).li, (unhide hlg).xi, sa, sn, sc, xa, xc, vs, (unhide hq2).put hb5 (unhide hc5)⟩
      · have hc3 := unhide hC3
        refine ⟨hb5.os.trans hc3.os, hb5.tape.trans hc3.tape, hb5.output.trans hc3.output, Nat.le_trans hc3.size hb5.size, fun i hi hn => ?_, fun i hi => ?_⟩
        · rw [List.mem_append, not_or] at hn
          rw [hb5.block i (Nat.lt_of_lt_of_le hi hc3.size) (fun e9 => hn.2 (by rw [e9]; exact hl5))]
          exact hc3.block i hi hn.1
        · rw [List.mem_append]
          rcases List.mem_append.1 hi with h9 | h9
          · exact (hc3.new i h9).imp .inl id
          · exact .inl (.inr h9)
    clear hC3 hL2 hS2 hq2 hc5 hbt
    go_wp2_with fail
    exact unhide hZ
set_option maxHeartbeats 4000000 in
theorem lcheck_long (F G H : List Nat) (l gs gd m : Nat) (D : Dk) (s : Sup) (hD : D.Ok m) (hm : m ≤ 800000) (L : List Int) (X : List (List Int)) (w : World) (hL : Lies F gd D w) (hs : Sto G gs gd D.safe.length s w) (hlg : Lg H l gs L X false w) (a : Option Addr) (n c : Nat) (hbig : 64 * ((D.safe.length - 2) / 4) < n) (hn : n < 9223372036854775808) : Calls Tryz.prog 8 #[P0 l, .slice a n c] w (fun r w' => r = .returned (.int .i64 3) ∧ Lg H l gs L X false w' ∧ Chg H H w w') := by
  obtain ⟨T, hT⟩ : ∃ T : Ending → World → Prop, T = fun r w' => r = .returned (.int .i64 3) ∧ Lg H l gs L X false w' ∧ Chg H H w w' := ⟨_, rfl⟩
  rw [← hT]
  replace hT := hide hT
  obtain ⟨sa, sn, sc, xa, xc, vs, hq⟩ := hlg.st
  have hcel := hq.cel
  replace hD := hide hD; replace hL := hide hL; replace hs := hide hs; replace hlg := hide hlg; replace hq := hide hq; replace hcel := hide hcel
  go_enter Tryz.func8, Tryz.ntmps8
  go_upto_region 3 with fail
  refine wp_region_lit ?_
  refine list_val (.pointer (some ⟨l, 0, none⟩)) (by kernel_rfl) (by kernel_rfl) ?_
  simp only [nrm]
  refine list_val (.pointer (some ⟨l, 0, none⟩)) (by kernel_rfl) (by kernel_rfl) ?_
  simp only [nrm]
  refine list_val (.pointer (some ⟨l, 3, none⟩)) (by kernel_rfl) (by kernel_rfl) ?_
  simp only [nrm]
  refine list_val (.bool false) (by kernel_rfl) (exec_bool _ (.tmp 10) rfl l 3 (by kernel_rfl) false (cell_of (unhide hcel) (i := 3) rfl)) ?_
  simp only [nrm]
  refine wpList_nil ?_
  go_upto_region 5 with fail
  refine wp_region_lit ?_
  refine list_val (.pointer (some ⟨l, 0, none⟩)) (by kernel_rfl) (by kernel_rfl) ?_
  simp only [nrm]
  refine list_val (.pointer (some ⟨l, 0, none⟩)) (by kernel_rfl) (by kernel_rfl) ?_
  simp only [nrm]
  refine list_val (.pointer (some ⟨l, 0, none⟩)) (by kernel_rfl) (by kernel_rfl) ?_
  simp only [nrm]
  refine list_val (.pointer (some ⟨gs, 0, none⟩)) (by kernel_rfl) (exec_pst _ (.tmp 14) rfl l 0 (by kernel_rfl) _ (cell_of (unhide hcel) (i := 0) rfl)) ?_
  simp only [nrm]
  refine list_val (.slice a n c) (by kernel_rfl) (by kernel_rfl) ?_
  simp only [nrm]
  refine list_call 32 #[.pointer (some ⟨gs, 0, none⟩), .slice a n c] (by kernel_rfl) (by kernel_rfl) ((etake_long F G gs gd m D s (unhide hD) (by omega) w (unhide hL) (unhide hs) a n c hbig hn).mono ?_)
  rintro r u2 ⟨rfl, hg⟩
  refine ⟨_, rfl, ?_⟩
  have hq2 := hide ((unhide hlg).gr hg)
  have hcel2 := hide (hg.blk (unhide hcel))
  have hq3 := hide ((unhide hq).keep (unhide hlg).mem (fun i hi => hg.block i ((unhide hlg).lt i hi)))
  have hg2 := hide hg
  clear hg
  simp only [nrm]
  (refine wpList_step fun K hK => ?_; replace hK := hide hK; go_simp; refine unhide hK _ _ ?_; clear hK K)
  refine wpList_nil ?_
  go_upto_region 7 with fail
  refine wp_region_lit ?_
  refine list_val (.pointer (some ⟨l, 0, none⟩)) (by kernel_rfl) (by kernel_rfl) ?_
  simp only [nrm]
  refine list_val (.int .i64 3) (by kernel_rfl) (by kernel_rfl) ?_
  simp only [nrm]
  refine list_val (.bool false) (by kernel_rfl) (by kernel_rfl) ?_
  simp only [nrm]
  refine list_val (.pointer (some ⟨l, 0, none⟩)) (by kernel_rfl) (by kernel_rfl) ?_
  simp only [nrm]
  refine list_val (.pointer (some ⟨l, 3, none⟩)) (by kernel_rfl) (by kernel_rfl) ?_
  simp only [nrm]
  have c4 := cell_of (unhide hcel2) (i := 3) rfl
  have fz := froz_of (i := 3) (unhide hcel2)
  have hc5 := hide (lgv_set3 (unhide hcel2) false)
  have hbt := hide (Bt.setCell (g := l) u2 3 (.bool false))
  (refine wpList_step fun K hK => ?_; replace hK := hide hK; go_simp; refine unhide hK _ _ ?_; clear hK K)
  clear c4 fz
  generalize World.setCell _ _ _ = x5 at *
  refine wpList_nil ?_
  have hZ : Hid (T (.returned (.int .i64 3)) x5) := by
    show T _ _
    rw [unhide hT]
    have hl5 := (unhide hlg).mem
    have hb5 := unhide hbt
    refine ⟨rfl, ⟨fun i hi => Nat.lt_of_lt_of_le ((unhide hq2).lt i hi) hb5.size, hl5, (unhide hlg).li, (unhide hlg).xi, sa, sn, sc, xa, xc, vs, (unhide hq3).put hb5 (unhide hc5)⟩, ((unhide hg2).chg0 H).bt2 hb5 (.inl hl5)⟩
  clear hq2 hcel2 hq3 hg2 hc5 hbt
  go_wp2_with fail
  exact unhide hZ
def Opd2 (gs : Nat) (L : List Int) (X : List (List Int)) (w : World) (r : Ending) (w' : World) : Prop := ∃ l H, r = .returned (.tuple #[P0 l, .int .i64 0]) ∧ Lg H l gs L X false w' ∧ (∀ i ∈ H, w.heap.size ≤ i) ∧ Gr w w'
set_option maxHeartbeats 4000000 in
theorem wopen_ok (F G : List Nat) (gs gd m : Nat) (D : Dk) (s : Sup) (L : List Int) (X : List (List Int)) (hD : D.Ok m) (hm : m ≤ 800000) (hd : D.dead = false) (hn64 : 64 ≤ D.safe.length) (ho : Os D ((D.safe.length - 2) / 4) s L) (hLb : IsB L) (hLl : L.length ≤ 100000) (hst : s.turn < 18446744073709551616) (hX : Tl (fun i => D.cur (lgo D.safe.length + i)) (D.safe.length - lgo D.safe.length) s.turn X) (hXu : usd X ≤ D.safe.length - lgo D.safe.length) (w : World) (hL : Lies F gd D w) (hs : Sto G gs gd D.safe.length s w) (hf : Fst w) : Calls Tryz.prog 7 #[P0 gs] w (Opd2 gs L X w) := by
  obtain ⟨T, hT⟩ : ∃ T, T = Opd2 gs L X w := ⟨_, rfl⟩
  rw [← hT]
  replace hT := hide hT
  have h512 := hD.hi1
  obtain ⟨N, hN⟩ : ∃ N, N = D.safe.length := ⟨_, rfl⟩
  obtain ⟨sl, hsl⟩ : ∃ k, k = N - 2 - 2 * ((N - 2) / 4) := ⟨_, rfl⟩
  have hsl2 : D.safe.length - lgo D.safe.length = sl := by rw [hsl, hN]; unfold lgo; omega
  rw [hsl2] at hX hXu
  rw [← hN] at h512
  have hsb : ∀ i : Nat, i < sl → BB (D.cur (lgo D.safe.length + i)) := fun i hi => D.cur_bb hD _ (by rw [← hN]; have : lgo N = 2 + 2 * ((N - 2) / 4) := rfl; rw [this]; omega)
  have hslot : ∀ v, Gr w v → ∀ i : Nat, i < sl → Calls Tryz.prog 31 #[P0 gs, .int .i64 (i : Int)] v (Rrd (D.cur (lgo D.safe.length + i)) 0 v) := fun v hg i hi => by
    have h1 := eslot_ok F G gs gd m D s hD (by omega) (i : Int) (by rw [← hN]; constructor <;> omega) v (hL.gr hg) (hs.gr hg)
    rw [show ((((2 + 2 * ((D.safe.length - 2) / 4) : Nat) : Int)) + (i : Int)) = ((lgo D.safe.length + i : Nat) : Int) from by unfold lgo; omega] at h1
    have hil : lgo D.safe.length + i < D.safe.length := by rw [← hN]; have : lgo N = 2 + 2 * ((N - 2) / 4) := rfl; rw [this]; omega
    rw [read_cur hd _ hil] at h1
    rw [show D.readE ((lgo D.safe.length + i : Nat) : Int) = 0 from by unfold Dk.readE; rw [hd, if_neg (by decide), if_pos ⟨by omega, by omega⟩]] at h1
    exact h1
  replace hD := hide hD; replace hd := hide hd; replace ho := hide ho; replace hX := hide hX; replace hXu := hide hXu; replace hL := hide hL; replace hs := hide hs; replace hf := hide hf; replace hN := hide hN; replace hsl := hide hsl; replace hsb := hide hsb; replace hslot := hide hslot; replace hLb := hide hLb
  have hB := Bl.nil w
  go_enter Tryz.func7, Tryz.ntmps7
  go_upto_region 3 with fail
  refine wp_region_lit ?_
  refine list_val (.pointer (some ⟨gs, 0, none⟩)) (by kernel_rfl) (by kernel_rfl) ?_
  simp only [nrm]
  refine list_call 11 #[.pointer (some ⟨gs, 0, none⟩)] (by kernel_rfl) (by kernel_rfl) ((esnap_ok F G gs gd m D s L (unhide hD) (by omega) (unhide hd) hn64 w (unhide hL) (unhide hs) (unhide ho) (unhide hf)).mono ?_)
  rintro r u1 ⟨vs_, rfl, hob, hg⟩
  obtain ⟨sa, sc, rfl, -⟩ := ob_lb hob (unhide hLb) rfl
  obtain ⟨sn, hsn⟩ : ∃ n, n = L.length := ⟨_, rfl⟩
  rw [← hsn] at hob ⊢
  replace hB := hB.more hg
  replace hob := hide hob; replace hsn := hide hsn
  clear hg
  refine ⟨_, rfl, ?_⟩
  simp only [nrm]
  refine list_val (.tuple #[.slice sa sn sc, .int .i64 0]) (by kernel_rfl) (by kernel_rfl) ?_
  simp only [nrm]
  refine list_val (.slice sa sn sc) (by kernel_rfl) (by kernel_rfl) ?_
  simp only [nrm]
  refine list_val (.int .i64 0) (by kernel_rfl) (by kernel_rfl) ?_
  simp only [nrm]
  (refine wpList_step fun K hK => ?_; replace hK := hide hK; go_simp; refine unhide hK _ _ ?_; clear hK K)
  (refine wpList_step fun K hK => ?_; replace hK := hide hK; go_simp; refine unhide hK _ _ ?_; clear hK K)
  refine wpList_nil ?_
  replace hB := hide hB
  go_upto_region 6 with fail
  replace hB := unhide hB
  refine wp_region_lit ?_
  refine list_val (.pointer (some ⟨gs, 0, none⟩)) (by kernel_rfl) (by kernel_rfl) ?_
  simp only [nrm]
  refine list_call 14 #[.pointer (some ⟨gs, 0, none⟩)] (by kernel_rfl) (by kernel_rfl) ((turn_ok F G gs gd m D s (unhide hD) (by omega) (unhide hd) (by omega) _ ((unhide hL).gr hB.gr) ((unhide hs).gr hB.gr) (unhide ho).cnt ((unhide hf).gr hB.gr)).mono ?_)
  rintro r u2 ⟨rfl, hg⟩
  refine ⟨_, rfl, ?_⟩
  replace hB := hB.more hg
  replace hob := hide ((unhide hob).gr hg)
  clear hg
  simp only [nrm]
  refine list_val (.pointer (some ⟨gs, 0, none⟩)) (by kernel_rfl) (by kernel_rfl) ?_
  simp only [nrm]
  refine list_call 9 #[.pointer (some ⟨gs, 0, none⟩)] (by kernel_rfl) (by kernel_rfl) ((slots_ok G gs gd D.safe.length s (by have := unhide hN; omega) _ ((unhide hs).gr hB.gr)).mono ?_)
  rintro r u3 ⟨rfl, hg⟩
  refine ⟨_, rfl, ?_⟩
  rw [← unhide hN, ← unhide hsl]
  replace hB := hB.more hg
  replace hob := hide ((unhide hob).gr hg)
  clear hg
  simp only [nrm]
  refine list_val (.pointer (some ⟨gs, 0, none⟩)) (by kernel_rfl) (by kernel_rfl) ?_
  simp only [nrm]
  refine list_val (.func (.func 31) #[P0 gs] #[]) (by kernel_rfl) (by kernel_rfl) ?_
  simp only [nrm]
  refine list_call 30 #[.int .u64 (s.turn : Int), .int .i64 (sl : Int), .func (.func 31) #[P0 gs] #[]] (by kernel_rfl) (by kernel_rfl) ((wfind_ok s.turn sl gs hst (fun i => D.cur (lgo D.safe.length + i)) (unhide hsb) (by have := unhide hsl; omega) u3 (fun v hv i hi => (unhide hslot) v (hB.gr.trans hv) i hi) ((unhide hf).gr hB.gr)).mono ?_)
  rintro r u4 ⟨vx, X2, rfl, hox, htl, hu9, hg⟩
  have hXe : X2 = X := htl.uniq (by have := unhide hsl; omega) (unhide hX)
  subst hXe
  have hb4 := hB.gr.size
  obtain ⟨xa, xc, rfl, -⟩ := hox.lq
  obtain ⟨xn, hxn⟩ : ∃ n, n = X2.length := ⟨_, rfl⟩
  rw [← hxn] at hox ⊢
  replace hB := hB.more hg
  replace hob := hide ((unhide hob).gr hg)
  replace hox := hide hox; replace hxn := hide hxn
  clear hg htl hu9
  refine ⟨_, rfl, ?_⟩
  simp only [nrm]
  refine list_val (.tuple #[.slice xa xn xc, .int .i64 0]) (by kernel_rfl) (by kernel_rfl) ?_
  simp only [nrm]
  refine list_val (.slice xa xn xc) (by kernel_rfl) (by kernel_rfl) ?_
  simp only [nrm]
  refine list_val (.int .i64 0) (by kernel_rfl) (by kernel_rfl) ?_
  simp only [nrm]
  (refine wpList_step fun K hK => ?_; replace hK := hide hK; go_simp; refine unhide hK _ _ ?_; clear hK K)
  (refine wpList_step fun K hK => ?_; replace hK := hide hK; go_simp; refine unhide hK _ _ ?_; clear hK K)
  refine wpList_nil ?_
  replace hB := hide hB
  go_upto_region 9 with fail
  replace hB := unhide hB
  have hl4 : w.heap.size ≤ u4.heap.size := hB.gr.size
  replace hl4 := hide hl4
  refine wp_region_lit ?_
  refine list_val (.pointer (some ⟨gs, 0, none⟩)) (by kernel_rfl) (by kernel_rfl) ?_
  simp only [nrm]
  refine list_val (.slice sa sn sc) (by kernel_rfl) (by kernel_rfl) ?_
  simp only [nrm]
  refine list_val (.slice xa xn xc) (by kernel_rfl) (by kernel_rfl) ?_
  simp only [nrm]
  refine list_val (.agg (lgv gs sa sn sc xa xn xc false)) (by kernel_rfl) (by kernel_rfl) ?_
  simp only [nrm]
  refine list_valw (.pointer (some ⟨u4.heap.size, 0, none⟩)) (u4.alloc (.cells (lgv gs sa sn sc xa xn xc false) 75 (0, 0))) (by kernel_rfl) (by kernel_rfl) ?_
  have hg := (Gr.refl u4).alloc (.cells (lgv gs sa sn sc xa xn xc false) 75 (0, 0))
  have hcel : (u4.alloc (.cells (lgv gs sa sn sc xa xn xc false) 75 (0, 0))).heap[u4.heap.size]? = some (.cells (lgv gs sa sn sc xa xn xc false) 75 (0, 0)) := blk_new _ _
  replace hB := hB.more hg
  replace hob := hide ((unhide hob).gr hg)
  replace hox := hide ((unhide hox).gr hg)
  clear hg
  generalize World.alloc _ _ = u5 at *
  generalize u4.heap.size = l at *
  replace hcel := hide hcel
  simp only [nrm]
  (refine wpList_step fun K hK => ?_; replace hK := hide hK; go_simp; refine unhide hK _ _ ?_; clear hK K)
  (refine wpList_step fun K hK => ?_; replace hK := hide hK; go_simp; refine unhide hK _ _ ?_; clear hK K)
  refine wpList_nil ?_
  have hZ : Hid (T (.returned (.tuple #[.pointer (some ⟨l, 0, none⟩), .int .i64 0])) u5) := by
    show T _ _
    rw [unhide hT]
    have hgr := hB.gr
    have hin : ∀ i, i ∈ List.range' w.heap.size (u5.heap.size - w.heap.size) ↔ w.heap.size ≤ i ∧ i < u5.heap.size := by
      intro i
      have := hgr.size
      rw [List.mem_range'_1]
      exact ⟨fun h => ⟨h.1, by omega⟩, fun h => ⟨h.1, by omega⟩⟩
    obtain ⟨vs, v1, v2, v3⟩ := (unhide hox).own
    have hxi : ∀ x ∈ X2, IsB x ∧ x.length ≤ 100000 := fun x hx => ⟨((unhide hox).isB x hx).1, by
      have h8 := usd_mem hx
      have h9 := unhide hXu
      have := unhide hsl
      unfold ned at h8
      omega⟩
    have hob9 := ob_zero (unhide hob)
    refine ⟨l, _, rfl, ⟨fun i hi => ((hin i).1 hi).2, (hin l).2 ⟨unhide hl4, lt_of_block (unhide hcel)⟩, ⟨unhide hLb, hLl⟩, hxi, sa, sn, sc, xa, xc, vs, ?_⟩, fun i hi => ((hin i).1 hi).1, hgr⟩
    refine ⟨by rw [← unhide hxn]; exact unhide hcel, hob9, ?_, ?_, ?_, v2, fun i hi => ob_zero (v3 i hi), ?_⟩
    · intro p hp
      obtain ⟨h7, cur, h8⟩ := ob_blk (unhide hob) ((own_blk _ _ _ _).2 hp)
      exact (hin p).2 ⟨h7, lt_of_block h8⟩
    · rw [← unhide hxn]
      exact or_zero v1
    · intro p hp
      obtain ⟨h7, cur, h8⟩ := or_blk2 v1 hp
      exact (hin p).2 ⟨by omega, lt_of_block h8⟩
    · intro i hi p hp
      obtain ⟨h7, cur, h8⟩ := ob_blk (v3 i hi) hp
      exact (hin p).2 ⟨by omega, lt_of_block h8⟩
  clear hB hob hox hcel
  go_wp2_with fail
  exact unhide hZ
structure Xl (w : World) (F G H : List Nat) (l gs gd : Nat) (D : Dk) (m : Nat) (s : Sup) (L : List Int) (X : List (List Int)) (v : World) : Prop where
  xs : Xs w F G gs gd D s v
  lg : Lg H l gs L X false v
  oH : ∀ i ∈ H, w.heap.size ≤ i
  fh : ∀ i ∈ F, i ∉ H
  gh : gs ∉ H
  wd : Wd D m s L X
theorem Xl.more {w : World} {F G H : List Nat} {l gs gd : Nat} {D : Dk} {m : Nat} {s : Sup} {L : List Int} {X : List (List Int)} {v u : World} (h : Xl w F G H l gs gd D m s L X v) (k : Gr v u) : Xl w F G H l gs gd D m s L X u := ⟨h.xs.more k, h.lg.gr k, h.oH, h.fh, h.gh, h.wd⟩
theorem Xl.zero {w : World} {F G H : List Nat} {l gs gd : Nat} {D : Dk} {m : Nat} {s : Sup} {L : List Int} {X : List (List Int)} {v : World} (h : Xl w F G H l gs gd D m s L X v) (hf : Fst w) : 0 ∉ F ∧ 0 ∉ G := h.xs.none_ hf
theorem Xl.far {w : World} {F G H : List Nat} {l gs gd : Nat} {D : Dk} {m : Nat} {s : Sup} {L : List Int} {X : List (List Int)} {v : World} (h : Xl w F G H l gs gd D m s L X v) {a : Option Addr} {n c : Nat} {A : List Int} (hA : Lb w a n c A) : A = [] ∨ ∀ i, i ∈ F ∨ i ∈ G ∨ i ∈ H → blkOf a ≠ some i := by
  rcases hA.sl with e | ⟨p, o, rfl, h2⟩
  · exact .inl e
  · by_cases he : A = []
    · exact .inl he
    · right
      have hp := lt_of_cell (h2 0 (List.length_pos_iff.2 he))
      intro i hi e
      have e2 : p = i := Option.some.inj e
      subst e2
      rcases hi with hi | hi | hi
      · have := h.xs.oF p hi; omega
      · have := h.xs.oG p hi; omega
      · have := h.oH p hi; omega
theorem Xl.fst {w : World} {F G H : List Nat} {l gs gd : Nat} {D : Dk} {m : Nat} {s : Sup} {L : List Int} {X : List (List Int)} {v : World} (h : Xl w F G H l gs gd D m s L X v) (hf : Fst w) : Fst v := hf.gr h.xs.gr
theorem Wd.turn {D : Dk} {m : Nat} {s : Sup} {L : List Int} {X : List (List Int)} (k : Wd D m s L X) : s.turn < 18446744073709551616 := k.fd.hs.ok.t
theorem Wd.bytes {D : Dk} {m : Nat} {s : Sup} {L : List Int} {X : List (List Int)} (k : Wd D m s L X) : IsB L ∧ L.length ≤ 100000 := by
  have h1 := k.fd.hs
  have h2 := k.fd.ok.hi1
  have h3 := h1.fit
  have h4 := h1.len
  exact ⟨h1.isB, by omega⟩
theorem Wd.os {D : Dk} {m : Nat} {s : Sup} {L : List Int} {X : List (List Int)} (k : Wd D m s L X) : Os D ((D.safe.length - 2) / 4) s L := k.fd.hs.os
theorem lgo_slots (N : Nat) : N - lgo N = N - 2 - 2 * ((N - 2) / 4) := by unfold lgo; omega
theorem x_open {w : World} {F G : List Nat} {gs gd : Nat} {D : Dk} {m : Nat} {s : Sup} {L : List Int} {X : List (List Int)} {v : World} (k : Xs w F G gs gd D s v) (wd : Wd D m s L X) (hm : m ≤ 800000) (hf : Fst w) : Calls Tryz.prog 7 #[P0 gs] v (fun r u => ∃ l H, r = .returned (.tuple #[P0 l, .int .i64 0]) ∧ Xl w F G H l gs gd D m s L X u ∧ (∀ i ∈ H, v.heap.size ≤ i) ∧ Gr v u) := by
  have hb := wd.bytes
  refine (wopen_ok F G gs gd m D s L X wd.fd.ok hm wd.fd.dead wd.fd.len wd.os hb.1 hb.2 wd.turn (wd.wl.tl wd.turn) wd.wl.le v k.ls k.st (hf.gr k.gr)).mono ?_
  rintro r u ⟨l, H, rfl, h1, h2, h3⟩
  refine ⟨l, H, rfl, ⟨k.more h3, h1, fun i hi => Nat.le_trans k.gr.size (h2 i hi), fun i hi hh => ?_, fun hh => ?_, wd⟩, h2, h3⟩
  · have := h2 i hh
    have := k.ls.lt i hi
    omega
  · have := h2 gs hh
    have := lt_of_block k.st.2
    omega
theorem x_append {w : World} {F G H : List Nat} {l gs gd : Nat} {D : Dk} {m : Nat} {s : Sup} {L : List Int} {X : List (List Int)} {v : World} (k : Xl w F G H l gs gd D m s L X v) (hm : m ≤ 800000) (hf : Fst w) (M : List Int) (a : Option Addr) (n c : Nat) (hM : Lb v a n c M) (hMa : M = [] ∨ ∀ i, i ∈ F ∨ i ∈ G ∨ i ∈ H → blkOf a ≠ some i) (hfit : usd X + ned M.length ≤ D.safe.length - lgo D.safe.length) : Calls Tryz.prog 17 #[P0 l, .slice a n c] v (fun r u => ∃ F' H' E, r = .returned (.int .i64 0) ∧ Xl w F' G H' l gs gd E (m + ((M.length + 62) / 63 + 3)) s L (X ++ [M]) u ∧ E.safe.length = D.safe.length ∧ Chg (F ++ H) (F' ++ H') v u ∧ (∀ i ∈ H', i ∈ H ∨ v.heap.size ≤ i)) := by
  obtain ⟨h1, h2, h3⟩ := wd_app k.wd hM.isB hfit k.wd.turn
  refine (lappend_ok F G H l gs gd m D s k.wd.fd.ok hm k.wd.fd.dead k.wd.pn k.wd.os.cnt k.wd.fd.len k.wd.turn L X v k.xs.ls k.xs.st k.lg k.fh k.gh M a n c hM (hMa.imp id (fun h i hi => h i (hi.imp id .inr))) hfit (k.fst hf) (k.zero hf).1).mono ?_
  rintro r u ⟨F', H', rfl, a1, a2, a3, a4, a5, a6⟩
  rw [h1, if_pos rfl] at a2
  rw [h1]
  generalize (Dk.runD (appOps (lgo D.safe.length) s.turn X.length (usd X) M) D).1 = E at *
  have hown : ∀ i ∈ F ++ H, w.heap.size ≤ i := fun i hi => (List.mem_append.1 hi).elim (k.xs.oF i) (k.oH i)
  have hnew : ∀ i ∈ F' ++ H', w.heap.size ≤ i := fun i hi => (a6.new i hi).elim (hown i) (fun e => Nat.le_trans k.xs.gr.size e)
  have hGe := k.xs.st.1
  have hgF : gs ∉ F := fun e => k.xs.ap gs e (by rw [hGe]; exact List.mem_singleton.2 rfl)
  have hst : Sto G gs gd D.safe.length s u := k.xs.st.chg a6 (fun i hi hg => by
    rw [hGe, List.mem_singleton] at hg
    subst hg
    rcases List.mem_append.1 hi with e | e
    · exact hgF e
    · exact k.gh e)
  have hgF' : ∀ i ∈ F', i ∉ G := fun i hi hg => by
    rw [hGe, List.mem_singleton] at hg
    subst hg
    exact lies_no a1 hst.2 (fun c t e => by injection e with _ e2 _; subst e2; decide) hi
  exact ⟨F', H', E, rfl, ⟨⟨Chg.own k.xs.gr a6 hown, a1, by rw [h3]; exact hst, fun i hi => hnew i (List.mem_append_left _ hi), k.xs.oG, hgF'⟩, a2, fun i hi => hnew i (List.mem_append_right _ hi), a3, a5, h2⟩, h3, a6, a4⟩
theorem x_full {w : World} {F G H : List Nat} {l gs gd : Nat} {D : Dk} {m : Nat} {s : Sup} {L : List Int} {X : List (List Int)} {v : World} (k : Xl w F G H l gs gd D m s L X v) (a : Option Addr) (n c : Nat) (hn : n < 9223372036854775808) (hno : ¬ usd X + ned n ≤ D.safe.length - lgo D.safe.length) : Calls Tryz.prog 17 #[P0 l, .slice a n c] v (Vl (.int .i64 6) v) :=
  lappend_full G H l gs gd D.safe.length s L X (by have := k.wd.fd.ok.hi1; omega) a n c hn v k.lg k.xs.st (by rw [← lgo_slots]; exact k.wd.wl.le) (by rw [← lgo_slots]; exact hno)
theorem x_check {w : World} {F G H : List Nat} {l gs gd : Nat} {D : Dk} {m : Nat} {s : Sup} {L : List Int} {X : List (List Int)} {v : World} (k : Xl w F G H l gs gd D m s L X v) (hm : m ≤ 800000) (hf : Fst w) (ht : s.turn + 1 < 18446744073709551616) (M : List Int) (a : Option Addr) (n c : Nat) (hM : Lb v a n c M) (hMa : M = [] ∨ ∀ i, i ∈ F ∨ i ∈ G ∨ i ∈ H → blkOf a ≠ some i) (hfit : n ≤ 64 * ((D.safe.length - 2) / 4)) : Calls Tryz.prog 8 #[P0 l, .slice a n c] v (fun r u => ∃ F' H' E, r = .returned (.int .i64 0) ∧ Xl w F' G H' l gs gd E (m + ((M.length + 63) / 64 + 3)) (s.next M) M [] u ∧ E.safe.length = D.safe.length ∧ Chg (F ++ H) (F' ++ H') v u ∧ (∀ i ∈ H', i ∈ H ∨ v.heap.size ≤ i)) := by
  obtain ⟨h1, h2, h3⟩ := wd_take k.wd hM.isB (by rw [hM.len]; exact hfit) ht
  refine (lcheck_ok F G H l gs gd m D s L k.wd.fd.ok hm k.wd.fd.dead k.wd.fd.len k.wd.os ht L X v k.xs.ls k.xs.st k.lg k.fh k.gh M a n c hM hMa hfit (k.fst hf) (k.zero hf) (by rw [h1]; decide)).mono ?_
  rintro r u ⟨F', H', rfl, a1, a0, a2, a3, a4, a5, a6⟩
  rw [h1, if_pos rfl, if_pos rfl] at a2
  rw [h1, if_pos rfl] at a0
  rw [h1]
  generalize (Dk.runD (takeOps s ((D.safe.length - 2) / 4) M) D).1 = E at *
  have hown : ∀ i ∈ F ++ H, w.heap.size ≤ i := fun i hi => (List.mem_append.1 hi).elim (k.xs.oF i) (k.oH i)
  have hnew : ∀ i ∈ F' ++ H', w.heap.size ≤ i := fun i hi => (a6.new i hi).elim (hown i) (fun e => Nat.le_trans k.xs.gr.size e)
  have hGe := k.xs.st.1
  have hgF' : ∀ i ∈ F', i ∉ G := fun i hi hg => by
    rw [hGe, List.mem_singleton] at hg
    subst hg
    exact lies_no a1 a0.2 (fun c t e => by injection e with _ e2 _; subst e2; decide) hi
  exact ⟨F', H', E, rfl, ⟨⟨Chg.own k.xs.gr a6 hown, a1, by rw [h3, hGe]; exact a0, fun i hi => hnew i (List.mem_append_left _ hi), k.xs.oG, hgF'⟩, a2, fun i hi => hnew i (List.mem_append_right _ hi), a3, a5, h2⟩, h3, a6, a4⟩
theorem x_long {w : World} {F G H : List Nat} {l gs gd : Nat} {D : Dk} {m : Nat} {s : Sup} {L : List Int} {X : List (List Int)} {v : World} (k : Xl w F G H l gs gd D m s L X v) (hm : m ≤ 800000) (a : Option Addr) (n c : Nat) (hn : n < 9223372036854775808) (hbig : 64 * ((D.safe.length - 2) / 4) < n) : Calls Tryz.prog 8 #[P0 l, .slice a n c] v (fun r u => r = .returned (.int .i64 3) ∧ Xl w F G H l gs gd D m s L X u ∧ Chg H H v u) := by
  refine (lcheck_long F G H l gs gd m D s k.wd.fd.ok hm L X v k.xs.ls k.xs.st k.lg a n c hbig hn).mono ?_
  rintro r u ⟨rfl, h1, h2⟩
  refine ⟨rfl, ⟨⟨Chg.own k.xs.gr h2 k.oH, k.xs.ls.keep h2.size (fun i hi => h2.block i (k.xs.ls.lt i hi) (k.fh i hi)), k.xs.st.chg h2 (fun i hi hg => ?_), k.xs.oF, k.xs.oG, k.xs.ap⟩, h1, k.oH, k.fh, k.gh, k.wd⟩, h2⟩
  rw [k.xs.st.1, List.mem_singleton] at hg
  subst hg
  exact k.gh hi
theorem Xl.parts {w : World} {F G H : List Nat} {l gs gd : Nat} {D : Dk} {m : Nat} {s : Sup} {L : List Int} {X : List (List Int)} {v : World} (k : Xl w F G H l gs gd D m s L X v) : ∃ sa sn sc xa xc, v.heap[l]? = some (.cells (lgv gs sa sn sc xa X.length xc false) 75 (0, 0)) ∧ Lb v sa sn sc L ∧ sn ≤ 100000 ∧ Lq v xa X.length xc X ∧ X.length ≤ 512 ∧ usd X ≤ 512 := by
  obtain ⟨sa, sn, sc, xa, xc, vs, q⟩ := k.lg.st
  have h1 := k.wd.wl.le
  have h2 := usd_ge X
  have h3 := k.wd.fd.ok.hi1
  have hl := q.lb k.lg.li.1
  exact ⟨sa, sn, sc, xa, xc, q.cel, hl, by rw [← hl.len]; exact k.lg.li.2, q.lq k.lg.xi, by omega, by omega⟩
theorem x_txs {w : World} {F G H : List Nat} {l gs gd : Nat} {D : Dk} {m : Nat} {s : Sup} {L : List Int} {X : List (List Int)} {v : World} (k : Xl w F G H l gs gd D m s L X v) : Calls Tryz.prog 24 #[P0 l] v (Txd X v) := by
  obtain ⟨sa, sn, sc, xa, xc, h1, h2, h3, h4, h5, h6⟩ := k.parts
  exact txs_ok l gs sa sn sc xa X.length xc false v h1 X (fun x hx => (k.lg.xi x hx).2) (by omega) h4
theorem x_used {w : World} {F G H : List Nat} {l gs gd : Nat} {D : Dk} {m : Nat} {s : Sup} {L : List Int} {X : List (List Int)} {v : World} (k : Xl w F G H l gs gd D m s L X v) : Calls Tryz.prog 26 #[P0 l] v (Vl (.int .i64 ((usd X : Nat) : Int)) v) := by
  obtain ⟨sa, sn, sc, xa, xc, h1, h2, h3, h4, h5, h6⟩ := k.parts
  exact lused_ok l gs sa sn sc xa X.length xc false v h1 X h4 (by omega) (by omega)
theorem x_room {w : World} {F G H : List Nat} {l gs gd : Nat} {D : Dk} {m : Nat} {s : Sup} {L : List Int} {X : List (List Int)} {v : World} (k : Xl w F G H l gs gd D m s L X v) (n : Int) (h1 : -9223372036854775808 ≤ n) (h2 : n < 9223372036854775808) : Calls Tryz.prog 25 #[P0 l, .int .i64 n] v (Vl (.bool (decide (0 ≤ n ∧ nedI n ≤ ((D.safe.length - lgo D.safe.length - usd X : Nat) : Int)))) v) := by
  obtain ⟨sa, sn, sc, xa, xc, c1, c2, c3, c4, c5, c6⟩ := k.parts
  have h512 := k.wd.fd.ok.hi1
  exact lroom_ok l gs sa sn sc xa X.length xc false v c1 X c4 (by omega) G gd D.safe.length s (by omega) k.xs.st n h1 h2 _ (lgo_slots _) k.wd.wl.le
theorem usd_two : usd [[120]] = 2 := by decide
set_option maxHeartbeats 4000000 in
theorem wakes12_ok (w : World) (hf : Fst w) : Calls Tryz.prog 5 #[] w (Vl (.bool true) w) := by
  obtain ⟨T, hT⟩ : ∃ T, T = Vl (.bool true) w := ⟨_, rfl⟩
  rw [← hT]
  replace hT := hide hT
  replace hf := hide hf
  go_enter Tryz.func5, Tryz.ntmps5
  go_upto_region 1 with fail
  refine wp_region_lit ?_
  refine list_call 6 #[.int .i64 0] (by kernel_rfl) (by kernel_rfl) ((store_ok 0 w (unhide hf)).mono ?_)
  rintro r u1 ⟨F, G, gs, gd, D, rfl, hXs, hwd, hDz⟩
  obtain ⟨s1, s2, s3, s4⟩ := sup0_is
  have hz := stz_bd 0
  generalize stz 0 = zz at *
  generalize sup0 = S0 at *
  have hs0 : S0.turn = 0 := by omega
  clear s1 s2 s3 s4
  refine ⟨_, rfl, ?_⟩
  replace hXs := hide hXs; replace hwd := hide hwd; replace hDz := hide hDz
  simp only [nrm]
  refine list_val (.tuple #[.pointer (some ⟨gd, 0, none⟩), .pointer (some ⟨gs, 0, none⟩)]) (by kernel_rfl) (by kernel_rfl) ?_
  simp only [nrm]
  refine list_val (.pointer (some ⟨gd, 0, none⟩)) (by kernel_rfl) (by kernel_rfl) ?_
  simp only [nrm]
  refine list_val (.pointer (some ⟨gs, 0, none⟩)) (by kernel_rfl) (by kernel_rfl) ?_
  simp only [nrm]
  (refine wpList_step fun K hK => ?_; replace hK := hide hK; go_simp; refine unhide hK _ _ ?_; clear hK K)
  (refine wpList_step fun K hK => ?_; replace hK := hide hK; go_simp; refine unhide hK _ _ ?_; clear hK K)
  refine wpList_nil ?_
  go_upto_region 4 with fail
  refine wp_region_lit ?_
  refine list_val (.pointer (some ⟨gs, 0, none⟩)) (by kernel_rfl) (by kernel_rfl) ?_
  simp only [nrm]
  skip
  refine list_call 7 #[P0 gs] (by kernel_rfl) (by kernel_rfl) ((x_open (unhide hXs) (unhide hwd) (by omega) (unhide hf)).mono ?_)
  rintro r u2 ⟨l, H, rfl, hlx, hln, hg⟩
  refine ⟨_, rfl, ?_⟩
  have hX := hide hlx
  clear hlx hln
  clear hg
  simp only [nrm]
  refine list_val (.tuple #[.pointer (some ⟨l, 0, none⟩), .int .i64 0]) (by kernel_rfl) (by kernel_rfl) ?_
  simp only [nrm]
  refine list_val (.pointer (some ⟨l, 0, none⟩)) (by kernel_rfl) (by kernel_rfl) ?_
  simp only [nrm]
  refine list_val (.int .i64 0) (by kernel_rfl) (by kernel_rfl) ?_
  simp only [nrm]
  (refine wpList_step fun K hK => ?_; replace hK := hide hK; go_simp; refine unhide hK _ _ ?_; clear hK K)
  (refine wpList_step fun K hK => ?_; replace hK := hide hK; go_simp; refine unhide hK _ _ ?_; clear hK K)
  refine wpList_nil ?_
  go_upto_region 5 with fail
  refine wp_region_lit ?_
  refine list_val (.int .i64 0) (by kernel_rfl) (by kernel_rfl) ?_
  simp only [nrm]
  refine list_val (.bool false) (by kernel_rfl) (by kernel_rfl) ?_
  simp only [nrm]
  refine list_val (.bool false) (by kernel_rfl) (by kernel_rfl) ?_
  simp only [nrm]
  refine list_val (.pointer (some ⟨l, 0, none⟩)) (by kernel_rfl) (by kernel_rfl) ?_
  simp only [nrm]
  refine list_val (.bool false) (by kernel_rfl) (by kernel_rfl) ?_
  simp only [nrm]
  refine list_val (.bool false) (by kernel_rfl) (by kernel_rfl) ?_
  simp only [nrm]
  refine list_val (.bool false) (by kernel_rfl) (by kernel_rfl) ?_
  simp only [nrm]
  refine list_val (.pointer (some ⟨l, 0, none⟩)) (by kernel_rfl) (by kernel_rfl) ?_
  simp only [nrm]
  refine list_valw (.slice (some ⟨u2.heap.size, 0, none⟩) 1 1) (u2.alloc (.cells (kc [120]) 5 (0, 0))) (by kernel_rfl) (by kernel_rfl) ?_
  simp only [nrm]
  refine list_valw (.slice (some ⟨u2.heap.size, 0, none⟩) 1 1) (u2.alloc (.cells (kc [120]) 5 ((kc [120]).size, (kc [120]).size + 1))) (by kernel_rfl) (exec_const u2 (.tmp 25) rfl (kc [120]) 1 1 (by kernel_rfl)) ?_
  simp only [nrm]
  have hg := (Gr.refl u2).alloc (.cells (kc [120]) 5 ((kc [120]).size, (kc [120]).size + 1))
  have hxb : IsB [120] := by intro x hx; simp at hx; omega
  have l1 : Lb (u2.alloc (.cells (kc [120]) 5 ((kc [120]).size, (kc [120]).size + 1))) (some ⟨u2.heap.size, 0, none⟩) 1 1 [120] := ⟨rfl, hxb, .inr ⟨_, 0, rfl, fun j hj => by rw [Nat.zero_add]; exact cell_of (blk_new _ _) (kc_get [120] j hj)⟩, by omega, by omega⟩
  have hfar : ([120] : List Int) = [] ∨ ∀ i, i ∈ F ∨ i ∈ G ∨ i ∈ H → blkOf (some ⟨u2.heap.size, 0, none⟩) ≠ some i := by
    right
    intro i hi e
    have e2 : u2.heap.size = i := Option.some.inj e
    rcases hi with hi | hi | hi
    · have := (unhide hX).xs.ls.lt i hi; omega
    · have := (unhide hX).xs.st.lt i hi; omega
    · have := (unhide hX).lg.lt i hi; omega
  replace hX := hide ((unhide hX).more hg)
  clear hg
  generalize World.alloc _ _ = u3 at *
  generalize u2.heap.size = h1 at *
  replace l1 := hide l1; replace hfar := hide hfar
  have hlg := lgo_slots D.safe.length
  refine list_call 17 #[P0 l, .slice (some ⟨h1, 0, none⟩) 1 1] (by kernel_rfl) (by kernel_rfl) ((x_append (unhide hX) (by omega) (unhide hf) [120] (some ⟨h1, 0, none⟩) 1 1 (unhide l1) (unhide hfar) (by rw [hlg, unhide hDz]; show 0 + 2 ≤ _; omega)).mono ?_)
  rintro r u4 ⟨F2, H2, E, rfl, hX2, hEl, hC, -⟩
  refine ⟨_, rfl, ?_⟩
  have hXs2 := hide hX2.xs
  have hwd2 := hide hX2.wd
  clear hX hX2 hC l1 hfar hlg
  simp only [nrm]
  refine list_val (.bool false) (by kernel_rfl) (by kernel_rfl) ?_
  simp only [nrm]
  refine list_val (.bool false) (by kernel_rfl) (by kernel_rfl) ?_
  simp only [nrm]
  refine wpList_nil ?_
  go_upto_region 7 with fail
  refine wp_region_lit ?_
  refine list_val (.pointer (some ⟨gs, 0, none⟩)) (by kernel_rfl) (by kernel_rfl) ?_
  simp only [nrm]
  skip
  refine list_call 7 #[P0 gs] (by kernel_rfl) (by kernel_rfl) ((x_open (unhide hXs2) (unhide hwd2) (by decide) (unhide hf)).mono ?_)
  rintro r u5 ⟨l2, H3, rfl, hl2x, hl2n, hg⟩
  refine ⟨_, rfl, ?_⟩
  have hX3 := hide hl2x
  clear hl2x hl2n
  clear hg
  simp only [nrm]
  refine list_val (.tuple #[.pointer (some ⟨l2, 0, none⟩), .int .i64 0]) (by kernel_rfl) (by kernel_rfl) ?_
  simp only [nrm]
  refine list_val (.pointer (some ⟨l2, 0, none⟩)) (by kernel_rfl) (by kernel_rfl) ?_
  simp only [nrm]
  refine list_val (.int .i64 0) (by kernel_rfl) (by kernel_rfl) ?_
  simp only [nrm]
  (refine wpList_step fun K hK => ?_; replace hK := hide hK; go_simp; refine unhide hK _ _ ?_; clear hK K)
  (refine wpList_step fun K hK => ?_; replace hK := hide hK; go_simp; refine unhide hK _ _ ?_; clear hK K)
  refine wpList_nil ?_
  go_upto_region 8 with fail
  refine wp_region_lit ?_
  refine list_val (.int .i64 0) (by kernel_rfl) (by kernel_rfl) ?_
  simp only [nrm]
  refine list_val (.bool true) (by kernel_rfl) (by kernel_rfl) ?_
  simp only [nrm]
  refine list_val (.bool true) (by kernel_rfl) (by kernel_rfl) ?_
  simp only [nrm]
  refine list_val (.pointer (some ⟨l2, 0, none⟩)) (by kernel_rfl) (by kernel_rfl) ?_
  simp only [nrm]
  refine list_val (.bool true) (by kernel_rfl) (by kernel_rfl) ?_
  simp only [nrm]
  refine list_val (.bool true) (by kernel_rfl) (by kernel_rfl) ?_
  simp only [nrm]
  refine list_val (.bool true) (by kernel_rfl) (by kernel_rfl) ?_
  simp only [nrm]
  refine list_val (.pointer (some ⟨l2, 0, none⟩)) (by kernel_rfl) (by kernel_rfl) ?_
  simp only [nrm]
  refine list_call 24 #[P0 l2] (by kernel_rfl) (by kernel_rfl) ((x_txs (unhide hX3)).mono ?_)
  rintro r u6 ⟨vx, rfl, hox, hg⟩
  obtain ⟨xa, xc, rfl, -⟩ := hox.lq
  refine ⟨_, rfl, ?_⟩
  replace hX3 := hide ((unhide hX3).more hg)
  clear hox hg
  simp only [nrm]
  refine list_val (.int .i64 1) (by kernel_rfl) (by kernel_rfl) ?_
  simp only [nrm]
  refine list_val (.bool true) (by kernel_rfl) (by kernel_rfl) ?_
  simp only [nrm]
  refine list_val (.bool true) (by kernel_rfl) (by kernel_rfl) ?_
  simp only [nrm]
  refine list_val (.bool true) (by kernel_rfl) (by kernel_rfl) ?_
  simp only [nrm]
  refine list_val (.pointer (some ⟨l2, 0, none⟩)) (by kernel_rfl) (by kernel_rfl) ?_
  simp only [nrm]
  refine list_call 26 #[.pointer (some ⟨l2, 0, none⟩)] (by kernel_rfl) (by kernel_rfl) ((x_used (unhide hX3)).mono ?_)
  rintro r u7 ⟨rfl, hg⟩
  refine ⟨_, rfl, ?_⟩
  replace hX3 := hide ((unhide hX3).more hg)
  rw [show usd ([] ++ [[120]]) = 2 from usd_two]
  clear hg
  simp only [nrm]
  refine list_val (.bool true) (by kernel_rfl) (by kernel_rfl) ?_
  simp only [nrm]
  refine list_val (.bool true) (by kernel_rfl) (by kernel_rfl) ?_
  simp only [nrm]
  refine list_val (.bool true) (by kernel_rfl) (by kernel_rfl) ?_
  simp only [nrm]
  refine list_call 27 #[.int .i64 64] (by kernel_rfl) (by kernel_rfl) ((wneed_ok 64 (by omega) (by omega) _).mono ?_)
  rintro r u8 ⟨rfl, hg⟩
  refine ⟨_, rfl, ?_⟩
  replace hX3 := hide ((unhide hX3).more hg)
  rw [show nedI 64 = 3 from by decide]
  clear hg
  simp only [nrm]
  refine list_val (.bool true) (by kernel_rfl) (by kernel_rfl) ?_
  simp only [nrm]
  refine list_val (.bool true) (by kernel_rfl) (by kernel_rfl) ?_
  simp only [nrm]
  (refine wpList_step fun K hK => ?_; replace hK := hide hK; go_simp; refine unhide hK _ _ ?_; clear hK K)
  refine wpList_nil ?_
  have hZ : Hid (Vl (.bool true) w (.returned (.bool true)) u8) := ⟨rfl, (unhide hX3).xs.gr⟩
  clear hX3
  go_wp2_with fail
  rw [unhide hT]
  exact unhide hZ
structure Xr (w : World) (F G H : List Nat) (l gs gd : Nat) (A : Dk) (s : Sup) (L : List Int) (X : List (List Int)) (bk : Bool) (v : World) : Prop where
  gr : Gr w v
  ls : Lies F gd A v
  st : Sto G gs gd A.safe.length s v
  lg : Lg H l gs L X bk v
  oF : ∀ i ∈ F, w.heap.size ≤ i
  oG : ∀ i ∈ G, w.heap.size ≤ i
  oH : ∀ i ∈ H, w.heap.size ≤ i
  fg : ∀ i ∈ F, i ∉ G
  fh : ∀ i ∈ F, i ∉ H
  gh : gs ∉ H
theorem Xl.xr {w : World} {F G H : List Nat} {l gs gd : Nat} {D : Dk} {m : Nat} {s : Sup} {L : List Int} {X : List (List Int)} {v : World} (h : Xl w F G H l gs gd D m s L X v) : Xr w F G H l gs gd D s L X false v := ⟨h.xs.gr, h.xs.ls, h.xs.st, h.lg, h.xs.oF, h.xs.oG, h.oH, h.xs.ap, h.fh, h.gh⟩
theorem Xr.more {w : World} {F G H : List Nat} {l gs gd : Nat} {A : Dk} {s : Sup} {L : List Int} {X : List (List Int)} {bk : Bool} {v u : World} (h : Xr w F G H l gs gd A s L X bk v) (k : Gr v u) : Xr w F G H l gs gd A s L X bk u := ⟨h.gr.trans k, h.ls.keep k.size (fun i hi => k.block i (h.ls.lt i hi)), h.st.gr k, h.lg.gr k, h.oF, h.oG, h.oH, h.fg, h.fh, h.gh⟩
theorem Xr.turn {w : World} {F F' G H : List Nat} {l gs gd : Nat} {A B : Dk} {s : Sup} {L : List Int} {X : List (List Int)} {bk : Bool} {v u : World} (h : Xr w F G H l gs gd A s L X bk v) (hB : Lies F' gd B u) (hs : B.safe.length = A.safe.length) (k : Chg F F' v u) : Xr w F' G H l gs gd B s L X bk u :=
  ⟨Chg.own h.gr k h.oF, hB, by rw [hs]; exact h.st.chg k h.fg, h.lg.chg k h.fh, fun i hi => (k.new i hi).elim (h.oF i) (fun e => Nat.le_trans h.gr.size e), h.oG, h.oH,
   fun i hi hg => (k.new i hi).elim (fun e => h.fg i e hg) (fun e => by have := h.st.lt i hg; omega),
   fun i hi hg => (k.new i hi).elim (fun e => h.fh i e hg) (fun e => by have := h.lg.lt i hg; omega), h.gh⟩
theorem Xr.zero {w : World} {F G H : List Nat} {l gs gd : Nat} {A : Dk} {s : Sup} {L : List Int} {X : List (List Int)} {bk : Bool} {v : World} (h : Xr w F G H l gs gd A s L X bk v) (hf : Fst w) : 0 ∉ F ∧ 0 ∉ G := ⟨fun e => by have := h.oF 0 e; have := fst_size hf; omega, fun e => by have := h.oG 0 e; have := fst_size hf; omega⟩
theorem Xr.far {w : World} {F G H : List Nat} {l gs gd : Nat} {A : Dk} {s : Sup} {L : List Int} {X : List (List Int)} {bk : Bool} {v : World} (h : Xr w F G H l gs gd A s L X bk v) {a : Option Addr} {n c : Nat} {M : List Int} (hA : Lb w a n c M) : M = [] ∨ ∀ i, i ∈ F ∨ i ∈ G ∨ i ∈ H → blkOf a ≠ some i := by
  rcases hA.sl with e | ⟨p, o, rfl, h2⟩
  · exact .inl e
  · by_cases he : M = []
    · exact .inl he
    · right
      have hp := lt_of_cell (h2 0 (List.length_pos_iff.2 he))
      intro i hi e
      have e2 : p = i := Option.some.inj e
      subst e2
      rcases hi with hi | hi | hi
      · have := h.oF p hi; omega
      · have := h.oG p hi; omega
      · have := h.oH p hi; omega
theorem x_arm {w : World} {F G H : List Nat} {l gs gd : Nat} {D : Dk} {m : Nat} {s : Sup} {L : List Int} {X : List (List Int)} {v : World} (k : Xl w F G H l gs gd D m s L X v) (hm : m ≤ 800000) (a : Int) (ha : 0 ≤ a) (ha2 : a < 9223372036854775808) : Calls Tryz.prog 20 #[P0 gd, .int .i64 a] v (fun r u => ∃ F', r = .returned (.int .i64 0) ∧ Xr w F' G H l gs gd (D.armD a) s L X false u ∧ Chg F F' v u) := by
  refine (darm_ok F gd m D k.wd.fd.ok (by omega) a (by omega) ha2 v k.xs.ls).mono ?_
  rintro r u ⟨F', rfl, h1, h2⟩
  refine ⟨F', by unfold Dk.armE; rw [k.wd.fd.dead]; rfl, k.xr.turn h1 ?_ h2, h2⟩
  rw [(arm_parts k.wd.fd.dead ha).2.2.1]
theorem x_app_armed {w : World} {F G H : List Nat} {l gs gd : Nat} {D : Dk} {m : Nat} {s : Sup} {L : List Int} {X : List (List Int)} {v : World} (a : Int) (ha : 0 ≤ a) (ha2 : a < 9223372036854775808) (k : Xr w F G H l gs gd (D.armD a) s L X false v) (wd : Wd D m s L X) (hm : m ≤ 800000) (hf : Fst w) (M : List Int) (b : Option Addr) (n c : Nat) (hM : Lb v b n c M) (hMa : M = [] ∨ ∀ i, i ∈ F ∨ i ∈ G ∨ i ∈ H → blkOf b ≠ some i) (hfit : usd X + ned M.length ≤ D.safe.length - lgo D.safe.length) : Calls Tryz.prog 17 #[P0 l, .slice b n c] v (fun r u => ∃ F' H', r = .returned (.int .i64 (Dk.runD (appOps (lgo D.safe.length) s.turn X.length (usd X) M) (D.armD a)).2) ∧ Xr w F' G H' l gs gd (Dk.runD (appOps (lgo D.safe.length) s.turn X.length (usd X) M) (D.armD a)).1 s L (if (Dk.runD (appOps (lgo D.safe.length) s.turn X.length (usd X) M) (D.armD a)).2 = 0 then X ++ [M] else X) (decide (¬ (Dk.runD (appOps (lgo D.safe.length) s.turn X.length (usd X) M) (D.armD a)).2 = 0)) u ∧ Chg (F ++ H) (F' ++ H') v u) := by
  obtain ⟨a1, a2, a3, a4, a5⟩ := arm_parts wd.fd.dead ha
  have e : (D.armD a).safe.length = D.safe.length := by rw [a3]
  have hl := lappend_ok F G H l gs gd m (D.armD a) s (wd.fd.ok.arm a ha2) hm a1 (by rw [a4]; exact wd.pn) (by rw [a5]; exact wd.os.cnt) (by rw [e]; exact wd.fd.len) wd.turn L X v k.ls k.st k.lg k.fh k.gh M b n c hM (hMa.imp id (fun h i hi => h i (hi.imp id .inr))) (by rw [e]; exact hfit) (hf.gr k.gr) (k.zero hf).1
  unfold App at hl
  rw [e] at hl
  refine hl.mono ?_
  rintro r u ⟨F', H', rfl, b1, b2, b3, b4, b5, b6⟩
  have hsz := run_len (appOps (lgo D.safe.length) s.turn X.length (usd X) M) (D.armD a)
  rw [e] at hsz
  have hown : ∀ i ∈ F ++ H, w.heap.size ≤ i := fun i hi => (List.mem_append.1 hi).elim (k.oF i) (k.oH i)
  have hnew : ∀ i ∈ F' ++ H', w.heap.size ≤ i := fun i hi => (b6.new i hi).elim (hown i) (fun e => Nat.le_trans k.gr.size e)
  have hGe := k.st.1
  have hgF : gs ∉ F := fun e => k.fg gs e (by rw [hGe]; exact List.mem_singleton.2 rfl)
  have hst : Sto G gs gd (D.armD a).safe.length s u := k.st.chg b6 (fun i hi hg => by
    rw [hGe, List.mem_singleton] at hg
    subst hg
    rcases List.mem_append.1 hi with e | e
    · exact hgF e
    · exact k.gh e)
  have hgF' : ∀ i ∈ F', i ∉ G := fun i hi hg => by
    rw [hGe, List.mem_singleton] at hg
    subst hg
    exact lies_no b1 hst.2 (fun c t e => by injection e with _ e2 _; subst e2; decide) hi
  rw [e] at hst
  exact ⟨F', H', rfl, ⟨Chg.own k.gr b6 hown, b1, by rw [hsz]; exact hst, b2, fun i hi => hnew i (List.mem_append_left _ hi), k.oG, fun i hi => hnew i (List.mem_append_right _ hi), hgF', b3, b5⟩, b6⟩
theorem x_crash {w : World} {F G H : List Nat} {l gs gd : Nat} {A : Dk} {m : Nat} {s : Sup} {L : List Int} {X : List (List Int)} {bk : Bool} {v : World} (k : Xr w F G H l gs gd A s L X bk v) (hA : A.Ok m) (hm : m ≤ 1000000) (keep : List Bool) (ka : Option Addr) (kn kp : Nat) (hK : Kp v ka kn kp keep) (hn : keep = [] ∨ ∀ i ∈ F, blkOf ka ≠ some i) : Calls Tryz.prog 22 #[P0 gd, .slice ka kn kp] v (fun r u => ∃ F', r = .returned (.int .i64 0) ∧ Xr w F' G H l gs gd (A.crashD keep) s L X bk u ∧ Chg F F' v u) := by
  refine (dcrash_ok2 F gd m A hA hm keep ka kn kp v k.ls hK hn).mono ?_
  rintro r u ⟨F', rfl, h1, h2⟩
  exact ⟨F', rfl, k.turn h1 (crash_size A keep) h2, h2⟩
def Agn (w : World) (F : List Nat) (gd : Nat) (D : Dk) (m : Nat) (s : Sup) (L : List Int) (X : List (List Int)) (v : World) (r : Ending) (u : World) : Prop := ∃ l gs G H, r = .returned (.tuple #[P0 l, .bool true]) ∧ Xl w F G H l gs gd D m s L X u ∧ Gr v u ∧ ∀ i ∈ H, v.heap.size ≤ i
set_option maxHeartbeats 4000000 in
theorem again_ok (w : World) (F : List Nat) (gd : Nat) (D : Dk) (m : Nat) (s : Sup) (L : List Int) (X : List (List Int)) (hf : Fst w) (v : World) (hg0 : Gr w v) (hL : Lies F gd D v) (hF : ∀ i ∈ F, w.heap.size ≤ i) (wd : Wd D m s L X) (hm : m ≤ 800000) : Calls Tryz.prog 23 #[P0 gd] v (Agn w F gd D m s L X v) := by
  obtain ⟨T, hT⟩ : ∃ T, T = Agn w F gd D m s L X v := ⟨_, rfl⟩
  rw [← hT]
  replace hT := hide hT
  replace hf := hide hf; replace hg0 := hide hg0; replace hL := hide hL; replace hF := hide hF; replace wd := hide wd
  go_enter Tryz.func23, Tryz.ntmps23
  go_upto_region 1 with fail
  refine wp_region_lit ?_
  refine list_val (.pointer (some ⟨gd, 0, none⟩)) (by kernel_rfl) (by kernel_rfl) ?_
  simp only [nrm]
  refine list_call 54 #[P0 gd] (by kernel_rfl) (by kernel_rfl) ((eopen_ok F gd m D s L (unhide wd).fd.ok (by omega) (unhide wd).fd.dead (unhide wd).fd.len v (unhide hL) (unhide wd).os ((unhide hf).gr (unhide hg0))).mono ?_)
  rintro r u1 ⟨gs, G, rfl, hS, hG, hg1⟩
  have hXs : Xs w F G gs gd D s u1 := ⟨(unhide hg0).trans hg1, (unhide hL).keep hg1.size (fun i hi => hg1.block i ((unhide hL).lt i hi)), hS, unhide hF, fun i hi => Nat.le_trans (unhide hg0).size (hG i hi), fun i hi h2 => by have h3 := (unhide hL).lt i hi; have h4 := hG i h2; omega⟩
  replace hXs := hide hXs; replace hg1 := hide hg1
  clear hS hG
  refine ⟨_, rfl, ?_⟩
  simp only [nrm]
  refine list_val (.tuple #[.pointer (some ⟨gs, 0, none⟩), .int .i64 0]) (by kernel_rfl) (by kernel_rfl) ?_
  simp only [nrm]
  refine list_val (.pointer (some ⟨gs, 0, none⟩)) (by kernel_rfl) (by kernel_rfl) ?_
  simp only [nrm]
  refine list_val (.int .i64 0) (by kernel_rfl) (by kernel_rfl) ?_
  simp only [nrm]
  (refine wpList_step fun K hK => ?_; replace hK := hide hK; go_simp; refine unhide hK _ _ ?_; clear hK K)
  (refine wpList_step fun K hK => ?_; replace hK := hide hK; go_simp; refine unhide hK _ _ ?_; clear hK K)
  refine wpList_nil ?_
  go_upto_region 2 with fail
  refine wp_region_lit ?_
  refine list_val (.int .i64 0) (by kernel_rfl) (by kernel_rfl) ?_
  simp only [nrm]
  refine list_val (.bool false) (by kernel_rfl) (by kernel_rfl) ?_
  simp only [nrm]
  refine wpList_nil ?_
  go_upto_region 4 with fail
  refine wp_region_lit ?_
  refine list_val (.pointer (some ⟨gs, 0, none⟩)) (by kernel_rfl) (by kernel_rfl) ?_
  simp only [nrm]
  skip
  refine list_call 7 #[P0 gs] (by kernel_rfl) (by kernel_rfl) ((x_open (unhide hXs) (unhide wd) hm (unhide hf)).mono ?_)
  rintro r u2 ⟨l, H, rfl, hlx, hln, hg⟩
  refine ⟨_, rfl, ?_⟩
  have hX := hide hlx
  have hln9 := hide hln; clear hlx hln
  have hg2 := hide ((unhide hg1).trans hg)
  clear hg
  simp only [nrm]
  refine list_val (.tuple #[.pointer (some ⟨l, 0, none⟩), .int .i64 0]) (by kernel_rfl) (by kernel_rfl) ?_
  simp only [nrm]
  refine list_val (.pointer (some ⟨l, 0, none⟩)) (by kernel_rfl) (by kernel_rfl) ?_
  simp only [nrm]
  refine list_val (.int .i64 0) (by kernel_rfl) (by kernel_rfl) ?_
  simp only [nrm]
  (refine wpList_step fun K hK => ?_; replace hK := hide hK; go_simp; refine unhide hK _ _ ?_; clear hK K)
  (refine wpList_step fun K hK => ?_; replace hK := hide hK; go_simp; refine unhide hK _ _ ?_; clear hK K)
  refine wpList_nil ?_
  go_upto_region 5 with fail
  refine wp_region_lit ?_
  refine list_val (.pointer (some ⟨l, 0, none⟩)) (by kernel_rfl) (by kernel_rfl) ?_
  simp only [nrm]
  refine list_val (.int .i64 0) (by kernel_rfl) (by kernel_rfl) ?_
  simp only [nrm]
  refine list_val (.bool true) (by kernel_rfl) (by kernel_rfl) ?_
  simp only [nrm]
  refine list_val (.bool true) (by kernel_rfl) (by kernel_rfl) ?_
  simp only [nrm]
  refine list_val (.pointer (some ⟨l, 0, none⟩)) (by kernel_rfl) (by kernel_rfl) ?_
  simp only [nrm]
  refine list_val (.bool true) (by kernel_rfl) (by kernel_rfl) ?_
  simp only [nrm]
  refine list_val (.bool true) (by kernel_rfl) (by kernel_rfl) ?_
  simp only [nrm]
  (refine wpList_step fun K hK => ?_; replace hK := hide hK; go_simp; refine unhide hK _ _ ?_; clear hK K)
  (refine wpList_step fun K hK => ?_; replace hK := hide hK; go_simp; refine unhide hK _ _ ?_; clear hK K)
  refine wpList_nil ?_
  have hZ : Hid (Agn w F gd D m s L X v (.returned (.tuple #[P0 l, .bool true])) u2) := ⟨l, gs, G, H, rfl, unhide hX, unhide hg2, fun i hi => Nat.le_trans (unhide hg1).size ((unhide hln9) i hi)⟩
  clear hX hXs
  go_wp2_with fail
  rw [unhide hT]
  exact unhide hZ
theorem Tryz.infoTl : (Tryz.prog.info? 55).map (·.size) = some 2 := by kernel_rfl
def Ofd (L : List Int) (X : List (List Int)) (w : World) (r : Ending) (w' : World) : Prop := ∃ sa sn sc xa xn xc, r = .returned (.agg #[.slice sa sn sc, .slice xa xn xc]) ∧ Ob w.heap.size w' (.slice sa sn sc) L ∧ Ox w.heap.size w' (.slice xa xn xc) X ∧ Gr w w'
theorem own_lt {b : Nat} {e : TypeId} {k n : Nat} {W : World} {v : Value} {xs : List Value} (h : W.ownsRow b e k v n xs) {p : Nat} (hp : v.ownBlock = some p) : b ≤ p ∧ p < W.heap.size := by
  have := World.ownsRow.lt h p hp
  omega
def Btw (lo hi : Nat) (w v : World) : Prop := ∀ i, lo ≤ i → i < hi → v.heap[i]? = w.heap[i]?
theorem Ob.btw {b : Nat} {w v : World} {x : Value} {L : List Int} (h : Ob b w x L) (k : Btw b w.heap.size w v) : Ob b v x L := owns_keep h (fun p e => k p (own_lt h e).1 (own_lt h e).2)
theorem Ox.btw {b : Nat} {w v : World} {x : Value} {X : List (List Int)} (h : Ox b w x X) (k : Btw b w.heap.size w v) : Ox b v x X := by
  obtain ⟨vs, h1, h2, h3⟩ := h.own
  exact ⟨⟨vs, ⟨h1.1, owns_keep h1.2 (fun p e => k p (own_lt h1.2 e).1 (own_lt h1.2 e).2)⟩, h2, fun i hi => (h3 i hi).btw k⟩, h.isB⟩
theorem own_down {b b' : Nat} {e : TypeId} {k n : Nat} {W : World} {v : Value} {xs : List Value} (h : W.ownsRow b e k v n xs) (hb : b' ≤ b) : W.ownsRow b' e k v n xs := by
  refine ⟨h.1, ?_⟩
  rcases h.2 with h | ⟨p, cap, cur, h1, h2, h3⟩
  · exact .inl h
  · exact .inr ⟨p, cap, cur, h1, Nat.le_trans hb h2, h3⟩
theorem ob_down {b b' : Nat} {w : World} {x : Value} {L : List Int} (h : Ob b w x L) (hb : b' ≤ b) : Ob b' w x L := own_down h hb
theorem ox_down {b b' : Nat} {w : World} {x : Value} {X : List (List Int)} (h : Ox b w x X) (hb : b' ≤ b) : Ox b' w x X := by
  obtain ⟨vs, h1, h2, h3⟩ := h.own
  exact ⟨⟨vs, ⟨h1.1, own_down h1.2 hb⟩, h2, fun i hi => ob_down (h3 i hi) hb⟩, h.isB⟩
theorem ox_bt {b g : Nat} {t : TypeId} {w u : World} {x : Value} {X : List (List Int)} {c : Array Value} (h : Ox b w x X) (hg : w.heap[g]? = some (.cells c t (0, 0))) (h1 : 33 ≠ t) (h2 : 5 ≠ t) (q : Bt g w u) : Ox b u x X := by
  obtain ⟨vs, a1, a2, a3⟩ := h.own
  exact ⟨⟨vs, ⟨a1.1, owns_bt a1.2 hg h1 q⟩, a2, fun i hi => owns_bt (a3 i hi) hg h2 q⟩, h.isB⟩
theorem Btw.refl (lo hi : Nat) (w : World) : Btw lo hi w w := fun _ _ _ => rfl
theorem Btw.chg {lo hi : Nat} {w v u : World} {F F' : List Nat} (h : Btw lo hi w v) (k : Chg F F' v u) (hs : hi ≤ v.heap.size) (hF : ∀ i ∈ F, i < lo ∨ hi ≤ i) : Btw lo hi w u := fun i h1 h2 => (k.block i (by omega) (fun e => by have := hF i e; omega)).trans (h i h1 h2)
theorem Btw.gr {lo hi : Nat} {w v u : World} (h : Btw lo hi w v) (k : Gr v u) (hs : hi ≤ v.heap.size) : Btw lo hi w u := fun i h1 h2 => (k.block i (by omega)).trans (h i h1 h2)
theorem out_chg {lo hi : Nat} {v u : World} {F F' : List Nat} (k : Chg F F' v u) (hs : hi ≤ v.heap.size) (hF : ∀ i ∈ F, i < lo ∨ hi ≤ i) : ∀ i ∈ F', i < lo ∨ hi ≤ i := fun i hi_ => (k.new i hi_).elim (hF i) (fun e => .inr (by omega))
theorem Xr.parts {w : World} {F G H : List Nat} {l gs gd : Nat} {A : Dk} {s : Sup} {L : List Int} {X : List (List Int)} {bk : Bool} {v : World} (k : Xr w F G H l gs gd A s L X bk v) : ∃ sa sn sc xa xc, v.heap[l]? = some (.cells (lgv gs sa sn sc xa X.length xc bk) 75 (0, 0)) ∧ Lb v sa sn sc L ∧ sn ≤ 100000 ∧ Lq v xa X.length xc X := by
  obtain ⟨sa, sn, sc, xa, xc, vs, q⟩ := k.lg.st
  have hl := q.lb k.lg.li.1
  exact ⟨sa, sn, sc, xa, xc, q.cel, hl, by rw [← hl.len]; exact k.lg.li.2, q.lq k.lg.xi⟩
theorem r_snap {w : World} {F G H : List Nat} {l gs gd : Nat} {A : Dk} {s : Sup} {L : List Int} {X : List (List Int)} {bk : Bool} {v : World} (k : Xr w F G H l gs gd A s L X bk v) : Calls Tryz.prog 42 #[P0 l] v (Infd L v) := by
  obtain ⟨sa, sn, sc, xa, xc, h1, h2, h3, h4⟩ := k.parts
  exact lsnap_ok l gs sa sn sc xa X.length xc bk v h1 L h2 h3
theorem r_txs {w : World} {F G H : List Nat} {l gs gd : Nat} {A : Dk} {s : Sup} {L : List Int} {X : List (List Int)} {bk : Bool} {v : World} (k : Xr w F G H l gs gd A s L X bk v) (hx : X.length ≤ 512) : Calls Tryz.prog 24 #[P0 l] v (Txd X v) := by
  obtain ⟨sa, sn, sc, xa, xc, h1, h2, h3, h4⟩ := k.parts
  exact txs_ok l gs sa sn sc xa X.length xc bk v h1 X (fun x hx => (k.lg.xi x hx).2) (by omega) h4
set_option maxHeartbeats 4000000 in
theorem of12_ok {F G H : List Nat} {l gs gd : Nat} {D : Dk} {s : Sup} {L : List Int} {X : List (List Int)} {bk : Bool} {v0 : World} (w : World) (k : Xr v0 F G H l gs gd D s L X bk w) (hx : X.length ≤ 512) : Calls Tryz.prog 19 #[P0 l] w (Ofd L X w) := by
  obtain ⟨T, hT⟩ : ∃ T, T = Ofd L X w := ⟨_, rfl⟩
  rw [← hT]
  replace hT := hide hT
  replace k := hide k
  go_enter Tryz.func19, Tryz.ntmps19
  go_upto_region 1 with fail
  have hB := ((Bl.nil w).new #[.slice none 0 0, .slice none 0 0] 55)
  simp only [size_alloc, List.nil_append, List.cons_append] at hB
  generalize World.alloc _ _ = u at *
  replace hB : Bl w [⟨w.heap.size, #[.slice none 0 0, .slice none 0 0], 55⟩] u := hB
  refine wp_region_lit ?_
  refine list_val (.pointer (some ⟨l, 0, none⟩)) (by kernel_rfl) (by kernel_rfl) ?_
  simp only [nrm]
  refine list_call 42 #[P0 l] (by kernel_rfl) (by kernel_rfl) ((r_snap ((unhide k).more hB.gr)).mono ?_)
  rintro r u1 ⟨vs, rfl, hob, hg⟩
  obtain ⟨sa, sc, rfl, -⟩ := hob.slice
  have hO1 : Hid (Ob w.heap.size u1 (.slice sa L.length sc) L) := ob_down hob hB.gr.size
  generalize L.length = sn at *
  replace hB := hB.more hg
  clear hg hob
  refine ⟨_, rfl, ?_⟩
  simp only [nrm]
  refine list_val (.pointer (some ⟨l, 0, none⟩)) (by kernel_rfl) (by kernel_rfl) ?_
  simp only [nrm]
  refine list_call 24 #[P0 l] (by kernel_rfl) (by kernel_rfl) ((r_txs ((unhide k).more hB.gr) hx).mono ?_)
  rintro r u2 ⟨vx, rfl, hox, hg⟩
  obtain ⟨xa, xc, rfl, -⟩ := hox.lq
  have hO2 : Hid (Ox w.heap.size u2 (.slice xa X.length xc) X) := ox_down hox hB.gr.size
  generalize X.length = xn at hO2 ⊢
  replace hB := hB.more hg
  replace hO1 := hide ((unhide hO1).gr hg)
  clear hg hox
  refine ⟨_, rfl, ?_⟩
  simp only [nrm]
  refine list_val (.agg #[.slice sa sn sc, .slice xa xn xc]) (by kernel_rfl) (by kernel_rfl) ?_
  simp only [nrm]
  refine list_store 55 (.tmp 2) (.tmp 7) (w.heap.size) (#[.slice sa sn sc, .slice xa xn xc]) 55 (#[.slice none 0 0, .slice none 0 0]) (by kernel_rfl) rfl (by kernel_rfl) (by kernel_rfl) (hB.get 0 (x := ⟨w.heap.size, #[.slice none 0 0, .slice none 0 0], 55⟩) rfl) (by rw [Tryz.infoTl]; rfl) rfl (by kernel_rfl) ?_
  have hO1 : Hid (Ob w.heap.size (u2.setRow (w.heap.size) #[.slice sa sn sc, .slice xa xn xc]) (.slice sa sn sc) L) := owns_bt (t := 55) (unhide hO1) (hB.get 0 (x := ⟨w.heap.size, #[.slice none 0 0, .slice none 0 0], 55⟩) rfl) (by decide) ((Bt.refl _ _).row_self _)
  have hO2 : Hid (Ox w.heap.size (u2.setRow (w.heap.size) #[.slice sa sn sc, .slice xa xn xc]) (.slice xa xn xc) X) := ox_bt (t := 55) (unhide hO2) (hB.get 0 (x := ⟨w.heap.size, #[.slice none 0 0, .slice none 0 0], 55⟩) rfl) (by decide) (by decide) ((Bt.refl _ _).row_self _)
  replace hB := hB.set 0 (x := ⟨w.heap.size, #[.slice none 0 0, .slice none 0 0], 55⟩) rfl (#[.slice sa sn sc, .slice xa xn xc])
  simp only [List.set_cons_zero, List.set_cons_succ] at hB
  generalize World.setRow _ _ _ = u3 at *
  replace hB : Bl w [⟨w.heap.size, #[.slice sa sn sc, .slice xa xn xc], 55⟩] u3 := hB
  simp only [nrm]
  refine wpList_nil ?_
  replace hB := hide hB
  go_wp2_with fail
  replace hB := unhide hB
  rw [unhide hT]
  exact bodyPost_ret (v := .agg #[.slice sa sn sc, .slice xa xn xc]) (results_cell_row Tryz.results19 _ _ (w.heap.size) 55 (#[.slice sa sn sc, .slice xa xn xc]) (0, 0) _ rfl (hB.get 0 (x := ⟨w.heap.size, #[.slice sa sn sc, .slice xa xn xc], 55⟩) rfl) Tryz.underlying55 rfl (by rw [Tryz.infoTl]; rfl)) rfl ⟨sa, sn, sc, xa, xn, xc, rfl, unhide hO1, unhide hO2, hB.gr⟩
set_option maxHeartbeats 4000000 in
theorem same12_ok (L M : List Int) (X Y : List (List Int)) (sa ta xa ya : Option Addr) (sn sc tn tc xn xc yn yc : Nat) (w : World) (h1 : Lb w sa sn sc L) (h2 : Lb w ta tn tc M) (h3 : Lq w xa xn xc X) (h4 : Lq w ya yn yc Y) (hb : xn ≤ 1000000) : Calls Tryz.prog 21 #[.agg #[.slice sa sn sc, .slice xa xn xc], .agg #[.slice ta tn tc, .slice ya yn yc]] w (Vl (.bool (decide (L = M ∧ X = Y))) w) := by
  obtain ⟨T, hT⟩ : ∃ T, T = Vl (.bool (decide (L = M ∧ X = Y))) w := ⟨_, rfl⟩
  rw [← hT]
  replace hT := hide hT
  replace h1 := hide h1; replace h2 := hide h2; replace h3 := hide h3; replace h4 := hide h4
  go_enter Tryz.func21, Tryz.ntmps21
  go_upto_region 1 with fail
  have hB := (((Bl.nil w).new #[.slice sa sn sc, .slice xa xn xc] 55).new #[.slice ta tn tc, .slice ya yn yc] 55)
  simp only [size_alloc, List.nil_append, List.cons_append] at hB
  generalize World.alloc _ _ = u at *
  replace hB : Bl w [⟨w.heap.size, #[.slice sa sn sc, .slice xa xn xc], 55⟩, ⟨w.heap.size + 1, #[.slice ta tn tc, .slice ya yn yc], 55⟩] u := hB
  by_cases hLM : L = M
  · skip
    obtain ⟨q, hq⟩ : ∃ q, q = decide (X = Y) := ⟨_, rfl⟩
    replace hq := hide hq
    refine wp_region_lit ?_
    refine list_val (.pointer (some ⟨w.heap.size, 0, none⟩)) (by kernel_rfl) (by kernel_rfl) ?_
    simp only [nrm]
    refine list_val (.slice sa sn sc) (by kernel_rfl) (exec_sby _ (.tmp 5) rfl (w.heap.size) 0 (by kernel_rfl) sa sn sc (cell_of (hB.get 0 (x := ⟨w.heap.size, #[.slice sa sn sc, .slice xa xn xc], 55⟩) rfl) (i := 0) rfl)) ?_
    simp only [nrm]
    refine list_val (.pointer (some ⟨w.heap.size + 1, 0, none⟩)) (by kernel_rfl) (by kernel_rfl) ?_
    simp only [nrm]
    refine list_val (.slice ta tn tc) (by kernel_rfl) (exec_sby _ (.tmp 7) rfl (w.heap.size + 1) 0 (by kernel_rfl) ta tn tc (cell_of (hB.get 1 (x := ⟨w.heap.size + 1, #[.slice ta tn tc, .slice ya yn yc], 55⟩) rfl) (i := 0) rfl)) ?_
    simp only [nrm]
    refine list_call 41 #[.slice sa sn sc, .slice ta tn tc] (by kernel_rfl) (by kernel_rfl) ((beq_ok L M sa ta sn tn sc tc _ ((unhide h1).gr hB.gr) ((unhide h2).gr hB.gr)).mono ?_)
    rintro r u1 ⟨rfl, hg⟩
    refine ⟨_, rfl, ?_⟩
    rw [decide_eq_true hLM]
    replace hB := hB.more hg
    clear hg
    simp only [nrm]
    refine list_val (.bool true) (by kernel_rfl) (by kernel_rfl) ?_
    simp only [nrm]
    refine list_val (.pointer (some ⟨w.heap.size, 1, none⟩)) (by kernel_rfl) (by kernel_rfl) ?_
    simp only [nrm]
    refine list_val (.slice xa xn xc) (by kernel_rfl) (exec_sx _ (.tmp 11) rfl (w.heap.size) 1 (by kernel_rfl) xa xn xc (cell_of (hB.get 0 (x := ⟨w.heap.size, #[.slice sa sn sc, .slice xa xn xc], 55⟩) rfl) (i := 1) rfl)) ?_
    simp only [nrm]
    refine list_val (.pointer (some ⟨w.heap.size + 1, 1, none⟩)) (by kernel_rfl) (by kernel_rfl) ?_
    simp only [nrm]
    refine list_val (.slice ya yn yc) (by kernel_rfl) (exec_sx _ (.tmp 13) rfl (w.heap.size + 1) 1 (by kernel_rfl) ya yn yc (cell_of (hB.get 1 (x := ⟨w.heap.size + 1, #[.slice ta tn tc, .slice ya yn yc], 55⟩) rfl) (i := 1) rfl)) ?_
    simp only [nrm]
    refine list_call 44 #[.slice xa xn xc, .slice ya yn yc] (by kernel_rfl) (by kernel_rfl) ((lists_ok X Y xa ya xn xc yn yc _ ((unhide h3).gr hB.gr) ((unhide h4).gr hB.gr) hb).mono ?_)
    rintro r u2 ⟨rfl, hg⟩
    refine ⟨_, rfl, ?_⟩
    rw [← unhide hq]
    replace hB := hB.more hg
    clear hg
    simp only [nrm]
    refine list_val (.bool q) (by kernel_rfl) (by kernel_rfl) ?_
    simp only [nrm]
    (refine wpList_step fun K hK => ?_; replace hK := hide hK; go_simp; refine unhide hK _ _ ?_; clear hK K)
    refine wpList_nil ?_
    have hZ : Hid (Vl (.bool (decide (L = M ∧ X = Y))) w (.returned (.bool q)) u2) := ⟨by congr 2; rw [unhide hq]; simp [hLM], hB.gr⟩
    replace hB := hide hB
    go_wp2_with fail
    rw [unhide hT]
    exact unhide hZ
  · skip
    refine wp_region_lit ?_
    refine list_val (.pointer (some ⟨w.heap.size, 0, none⟩)) (by kernel_rfl) (by kernel_rfl) ?_
    simp only [nrm]
    refine list_val (.slice sa sn sc) (by kernel_rfl) (exec_sby _ (.tmp 5) rfl (w.heap.size) 0 (by kernel_rfl) sa sn sc (cell_of (hB.get 0 (x := ⟨w.heap.size, #[.slice sa sn sc, .slice xa xn xc], 55⟩) rfl) (i := 0) rfl)) ?_
    simp only [nrm]
    refine list_val (.pointer (some ⟨w.heap.size + 1, 0, none⟩)) (by kernel_rfl) (by kernel_rfl) ?_
    simp only [nrm]
    refine list_val (.slice ta tn tc) (by kernel_rfl) (exec_sby _ (.tmp 7) rfl (w.heap.size + 1) 0 (by kernel_rfl) ta tn tc (cell_of (hB.get 1 (x := ⟨w.heap.size + 1, #[.slice ta tn tc, .slice ya yn yc], 55⟩) rfl) (i := 0) rfl)) ?_
    simp only [nrm]
    refine list_call 41 #[.slice sa sn sc, .slice ta tn tc] (by kernel_rfl) (by kernel_rfl) ((beq_ok L M sa ta sn tn sc tc _ ((unhide h1).gr hB.gr) ((unhide h2).gr hB.gr)).mono ?_)
    rintro r u1 ⟨rfl, hg⟩
    refine ⟨_, rfl, ?_⟩
    rw [decide_eq_false hLM]
    replace hB := hB.more hg
    clear hg
    simp only [nrm]
    refine list_val (.bool false) (by kernel_rfl) (by kernel_rfl) ?_
    simp only [nrm]
    refine wpList_step fun K hK => ?_
    rw [if_neg (ne_true_of_eq_false (by kernel_rfl))]
    refine hK _ _ ?_
    clear hK K
    simp only [nrm]
    refine wpList_step fun K hK => ?_
    rw [if_neg (ne_true_of_eq_false (by kernel_rfl))]
    refine hK _ _ ?_
    clear hK K
    simp only [nrm]
    refine wpList_step fun K hK => ?_
    rw [if_neg (ne_true_of_eq_false (by kernel_rfl))]
    refine hK _ _ ?_
    clear hK K
    simp only [nrm]
    refine wpList_step fun K hK => ?_
    rw [if_neg (ne_true_of_eq_false (by kernel_rfl))]
    refine hK _ _ ?_
    clear hK K
    simp only [nrm]
    refine wpList_step fun K hK => ?_
    rw [if_neg (ne_true_of_eq_false (by kernel_rfl))]
    refine hK _ _ ?_
    clear hK K
    simp only [nrm]
    refine list_val (.bool false) (by kernel_rfl) (by kernel_rfl) ?_
    simp only [nrm]
    (refine wpList_step fun K hK => ?_; replace hK := hide hK; go_simp; refine unhide hK _ _ ?_; clear hK K)
    refine wpList_nil ?_
    have hZ : Hid (Vl (.bool (decide (L = M ∧ X = Y))) w (.returned (.bool false)) u1) := ⟨by congr 2; simp [hLM], hB.gr⟩
    replace hB := hide hB
    go_wp2_with fail
    rw [unhide hT]
    exact unhide hZ
theorem x_chk_armed {w : World} {F G H : List Nat} {l gs gd : Nat} {D : Dk} {m : Nat} {s : Sup} {L : List Int} {X : List (List Int)} {v : World} (a : Int) (ha : 0 ≤ a) (ha2 : a < 9223372036854775808) (k : Xr w F G H l gs gd (D.armD a) s L X false v) (wd : Wd D m s L X) (hm : m ≤ 800000) (hf : Fst w) (ht : s.turn + 1 < 18446744073709551616) (M : List Int) (b : Option Addr) (n c : Nat) (hM : Lb v b n c M) (hMa : M = [] ∨ ∀ i, i ∈ F ∨ i ∈ G ∨ i ∈ H → blkOf b ≠ some i) (hfit : n ≤ 64 * ((D.safe.length - 2) / 4)) : Calls Tryz.prog 8 #[P0 l, .slice b n c] v (fun r u => ∃ F' H', r = .returned (.int .i64 (Dk.runD (takeOps s ((D.safe.length - 2) / 4) M) (D.armD a)).2) ∧ Xr w F' G H' l gs gd (Dk.runD (takeOps s ((D.safe.length - 2) / 4) M) (D.armD a)).1 (if (Dk.runD (takeOps s ((D.safe.length - 2) / 4) M) (D.armD a)).2 = 0 then s.next M else s) (if (Dk.runD (takeOps s ((D.safe.length - 2) / 4) M) (D.armD a)).2 = 0 then M else L) (if (Dk.runD (takeOps s ((D.safe.length - 2) / 4) M) (D.armD a)).2 = 0 then [] else X) (decide (¬ (Dk.runD (takeOps s ((D.safe.length - 2) / 4) M) (D.armD a)).2 = 0)) u ∧ Chg (F ++ H) (F' ++ H') v u) := by
  obtain ⟨a1, a2, a3, a4, a5⟩ := arm_parts wd.fd.dead ha
  have e : (D.armD a).safe.length = D.safe.length := by rw [a3]
  have hos : Os (D.armD a) ((D.safe.length - 2) / 4) s L := by
    have h1 := wd.fd.hs
    rw [← a5] at h1
    exact h1.os
  have h3 : (Dk.runD (takeOps s ((D.safe.length - 2) / 4) M) (D.armD a)).2 ≠ 3 := by
    rcases wd_take_cut wd a ha ha2 [] hM.isB (by rw [hM.len]; exact hfit) ht with ⟨h, -⟩ | ⟨h, -⟩ <;> rw [h] <;> decide
  have hl := lcheck_ok F G H l gs gd m (D.armD a) s L (wd.fd.ok.arm a ha2) hm a1 (by rw [e]; exact wd.fd.len) (by rw [e]; exact hos) ht L X v k.ls k.st k.lg k.fh k.gh M b n c hM hMa (by rw [e]; exact hfit) (hf.gr k.gr) (k.zero hf) (by rw [e]; exact h3)
  unfold Cpd at hl
  rw [e] at hl
  refine hl.mono ?_
  rintro r u ⟨F', H', rfl, b1, b0, b2, b3, b4, b5, b6⟩
  have hsz := run_len (takeOps s ((D.safe.length - 2) / 4) M) (D.armD a)
  rw [e] at hsz
  have hown : ∀ i ∈ F ++ H, w.heap.size ≤ i := fun i hi => (List.mem_append.1 hi).elim (k.oF i) (k.oH i)
  have hnew : ∀ i ∈ F' ++ H', w.heap.size ≤ i := fun i hi => (b6.new i hi).elim (hown i) (fun e => Nat.le_trans k.gr.size e)
  have hGe := k.st.1
  have hgF' : ∀ i ∈ F', i ∉ G := fun i hi hg => by
    rw [hGe, List.mem_singleton] at hg
    subst hg
    exact lies_no b1 b0.2 (fun c t e => by injection e with _ e2 _; subst e2; decide) hi
  exact ⟨F', H', rfl, ⟨Chg.own k.gr b6 hown, b1, by rw [hsz, hGe]; exact b0, b2, fun i hi => hnew i (List.mem_append_left _ hi), k.oG, fun i hi => hnew i (List.mem_append_right _ hi), hgF', b3, b5⟩, b6⟩
theorem r_full {w : World} {F G H : List Nat} {l gs gd : Nat} {D A : Dk} {m : Nat} {s : Sup} {L : List Int} {X : List (List Int)} {v : World} (k : Xr w F G H l gs gd A s L X false v) (wd : Wd D m s L X) (e : A.safe.length = D.safe.length) (a : Option Addr) (n c : Nat) (hn : n < 9223372036854775808) (hno : ¬ usd X + ned n ≤ D.safe.length - lgo D.safe.length) : Calls Tryz.prog 17 #[P0 l, .slice a n c] v (Vl (.int .i64 6) v) := by
  have hs := k.st
  rw [e] at hs
  exact lappend_full G H l gs gd D.safe.length s L X (by have := wd.fd.ok.hi1; omega) a n c hn v k.lg hs (by rw [← lgo_slots]; exact wd.wl.le) (by rw [← lgo_slots]; exact hno)
theorem r_long {w : World} {F G H : List Nat} {l gs gd : Nat} {A : Dk} {m : Nat} {s : Sup} {L : List Int} {X : List (List Int)} {v : World} (k : Xr w F G H l gs gd A s L X false v) (hA : A.Ok m) (hm : m ≤ 800000) (a : Option Addr) (n c : Nat) (hn : n < 9223372036854775808) (hbig : 64 * ((A.safe.length - 2) / 4) < n) : Calls Tryz.prog 8 #[P0 l, .slice a n c] v (fun r u => r = .returned (.int .i64 3) ∧ Xr w F G H l gs gd A s L X false u ∧ Chg H H v u) := by
  refine (lcheck_long F G H l gs gd m A s hA hm L X v k.ls k.st k.lg a n c hbig hn).mono ?_
  rintro r u ⟨rfl, h1, h2⟩
  refine ⟨rfl, ⟨Chg.own k.gr h2 k.oH, k.ls.keep h2.size (fun i hi => h2.block i (k.ls.lt i hi) (k.fh i hi)), k.st.chg h2 (fun i hi hg => ?_), h1, k.oF, k.oG, k.oH, k.fg, k.fh, k.gh⟩, h2⟩
  rw [k.st.1, List.mem_singleton] at hg
  subst hg
  exact k.gh hi
def fromReg (r : Nat) : Code → Option Code
  | .seq (.region i ops d) b => if i = r then some (.seq (.region i ops d) b) else fromReg r b
  | .seq a b => (fromReg r a).orElse fun _ => fromReg r b
  | .cond _ a b => (fromReg r a).orElse fun _ => fromReg r b
  | .loop c => fromReg r c
  | .block _ c => fromReg r c
  | .scope c => fromReg r c
  | _ => none
noncomputable def tailC : Code := ((Tryz.f4.body).bind (fromReg 40)).getD .skip
theorem wp_code_eq {P : Program} {c c' : Code} {Q : Exit → Act → World → Prop} {a : Act} {w : World} (h : c' = c) (k : c.wp P Q a w) : c'.wp P Q a w := h ▸ k
set_option maxHeartbeats 4000000 in
theorem cuts_tail (v0 : World) (hf : Fst v0) (Q : Exit → Act → World → Prop) (hQ : ∀ (t : Array Value) (w' : World), Gr v0 w' → t.getD 6 undef = .bool true → Q .ret ⟨t, []⟩ w') (hpan : ∀ c t t' d w, Q (.panic c) ⟨t, d⟩ w → Q (.panic c) ⟨t', d⟩ w) (F : List Nat) (gd gg m : Nat) (E : Dk) (s : Sup) (L : List Int) (X : List (List Int)) (v : World) (hg0 : Gr v0 v) (hL : Lies F gd E v) (hF : ∀ i ∈ F, v0.heap.size ≤ i) (wd : Wd E m s L X) (hm : m ≤ 700000) (pa qa : Option Addr) (pn pc qn qc : Nat) (hgg : v.heap[gg]? = some (.cells #[.slice pa pn pc, .slice qa qn qc] 55 (0, 0))) (h1 : Lb v pa pn pc L) (h2 : Lq v qa qn qc X) (k0 k1 k2 k3 k4 k5 k6 k8 k9 k10 k11 k12 k13 k14 k15 k16 k17 k19 k20 k21 k22 k23 k24 k25 k26 k27 k28 k29 k30 k31 k32 k33 k34 k35 k36 k37 k38 k39 k40 k41 k42 k43 k44 k45 k46 k47 k48 k49 k50 k51 k52 k53 k54 k55 k56 k57 k58 k59 k60 k61 k62 k63 k64 k65 k66 k67 k68 k69 k70 k71 k72 k73 k74 k75 k76 k77 k78 k79 k80 k81 k82 k83 k84 k85 k86 k87 k88 k89 k90 k91 k92 k93 k94 k95 k96 k97 k98 k99 k100 k101 k102 k103 k104 k105 k106 k107 k108 k109 k110 k111 k112 k113 k114 k115 k116 k117 k118 k119 k120 k121 k122 k123 k124 k125 k126 k127 k128 k129 k130 k131 k132 k133 k134 k135 k136 k137 k138 k139 k140 k141 k142 k143 k144 k145 k146 k147 k148 k149 k150 k151 k152 k153 k154 k155 k156 k157 k158 k159 k160 k161 k162 k163 k164 k165 k166 k167 k168 k169 k170 k171 k172 k173 k174 k175 k176 k177 k178 k179 k180 k181 k182 k183 k184 k185 k186 k187 k188 k189 k190 k191 k192 k193 k194 k195 k196 k197 k198 k199 k200 k201 k202 k203 k204 k205 k206 k207 k208 k209 k210 : Value) : Code.wp Tryz.prog tailC Q ⟨#[k0, k1, k2, k3, k4, k5, k6, P0 gd, k8, k9, k10, k11, k12, k13, k14, k15, k16, k17, P0 gg, k19, k20, k21, k22, k23, k24, k25, k26, k27, k28, k29, k30, k31, k32, k33, k34, k35, k36, k37, k38, k39, k40, k41, k42, k43, k44, k45, k46, k47, k48, k49, k50, k51, k52, k53, k54, k55, k56, k57, k58, k59, k60, k61, k62, k63, k64, k65, k66, k67, k68, k69, k70, k71, k72, k73, k74, k75, k76, k77, k78, k79, k80, k81, k82, k83, k84, k85, k86, k87, k88, k89, k90, k91, k92, k93, k94, k95, k96, k97, k98, k99, k100, k101, k102, k103, k104, k105, k106, k107, k108, k109, k110, k111, k112, k113, k114, k115, k116, k117, k118, k119, k120, k121, k122, k123, k124, k125, k126, k127, k128, k129, k130, k131, k132, k133, k134, k135, k136, k137, k138, k139, k140, k141, k142, k143, k144, k145, k146, k147, k148, k149, k150, k151, k152, k153, k154, k155, k156, k157, k158, k159, k160, k161, k162, k163, k164, k165, k166, k167, k168, k169, k170, k171, k172, k173, k174, k175, k176, k177, k178, k179, k180, k181, k182, k183, k184, k185, k186, k187, k188, k189, k190, k191, k192, k193, k194, k195, k196, k197, k198, k199, k200, k201, k202, k203, k204, k205, k206, k207, k208, k209, k210], []⟩ v := by
  conv => arg 2; whnf
  dsimp only
  have hx512 : X.length ≤ 512 := by have a1 := usd_ge X; have a2 := wd.wl.le; have a3 := wd.fd.ok.hi1; omega
  have hqn : qn = X.length := h2.len.symm
  subst hqn
  replace hQ := hide hQ; replace hpan := hide hpan; replace hf := hide hf; replace hg0 := hide hg0; replace hL := hide hL; replace hF := hide hF; replace wd := hide wd; replace hgg := hide hgg; replace h1 := hide h1; replace h2 := hide h2
  obtain ⟨xn, hxn⟩ : ∃ k, k = X.length := ⟨_, rfl⟩
  rw [← hxn] at hx512 hgg h2
  replace hxn := hide hxn
  go_upto_region 40 with fail
  refine wp_region_lit ?_
  refine list_val (.pointer (some ⟨gd, 0, none⟩)) (by kernel_rfl) (by kernel_rfl) ?_
  simp only [nrm]
  refine list_call 23 #[P0 gd] (by kernel_rfl) (by kernel_rfl) ((again_ok v0 F gd E m s L X (unhide hf) v (unhide hg0) (unhide hL) (unhide hF) (unhide wd) (by omega)).mono ?_)
  rintro r u1 ⟨l, gs, G, H, rfl, hX, hg, hHn⟩
  have hgH : Hid (gg ∉ H) := fun e => by have h8 := hHn gg e; have h9 := lt_of_block (unhide hgg); omega
  clear hHn
  refine ⟨_, rfl, ?_⟩
  have hX := hide hX
  replace hgg := hide (hg.blk (unhide hgg)); replace h1 := hide ((unhide h1).gr hg); replace h2 := hide ((unhide h2).gr hg)
  have hlt : Hid (gg < u1.heap.size) := lt_of_block (unhide hgg)
  clear hg hL hg0 hF
  simp only [nrm]
  refine list_val (.tuple #[.pointer (some ⟨l, 0, none⟩), .bool true]) (by kernel_rfl) (by kernel_rfl) ?_
  simp only [nrm]
  refine list_val (.pointer (some ⟨l, 0, none⟩)) (by kernel_rfl) (by kernel_rfl) ?_
  simp only [nrm]
  refine list_val (.bool true) (by kernel_rfl) (by kernel_rfl) ?_
  simp only [nrm]
  (refine wpList_step fun K hK => ?_; replace hK := hide hK; go_simp; refine unhide hK _ _ ?_; clear hK K)
  (refine wpList_step fun K hK => ?_; replace hK := hide hK; go_simp; refine unhide hK _ _ ?_; clear hK K)
  refine wpList_nil ?_
  go_upto_region 41 with fail
  refine any_start (S := fun (v : World) => v.heap[gg]? = some (.cells #[.slice pa pn pc, .slice qa xn qc] 55 (0, 0))) (by kernel_rfl) ?_
  replace hX := hide ((unhide hX).more (Gr.refl _).drew)
  replace h1 := hide ((unhide h1).gr (Gr.refl _).drew); replace h2 := hide ((unhide h2).gr (Gr.refl _).drew)
  have hS : (fun (v : World) => v.heap[gg]? = some (.cells #[.slice pa pn pc, .slice qa xn qc] 55 (0, 0))) (World.drew _) := (Gr.refl _).drew.blk (unhide hgg)
  replace hgg := hide hS
  generalize World.drew _ = x1 at *
  simp only [List.size_toArray, List.length_cons, List.length_nil, Array.replicate, List.replicate]
  refine any_take (i := 0) (v := (.bool true)) #[false, false, false, false, false, false, false, false, false] rfl (by kernel_rfl) (by kernel_rfl) (by kernel_rfl) (by kernel_rfl) (fun _ _ _ h => (unhide hpan) _ _ _ _ _ h) (.inl ⟨by kernel_rfl, fun x_ hu => by kernel_rfl⟩) hS ?_
  simp only [nrm]
  refine any_take (i := 1) (v := (.bool false)) #[true, false, false, false, false, false, false, false, false] rfl (by kernel_rfl) (by kernel_rfl) (by kernel_rfl) (by kernel_rfl) (fun _ _ _ h => (unhide hpan) _ _ _ _ _ h) (.inl ⟨by kernel_rfl, fun x_ hu => by kernel_rfl⟩) hS ?_
  simp only [nrm]
  refine any_take (i := 2) (v := (.bool false)) #[true, true, false, false, false, false, false, false, false] rfl (by kernel_rfl) (by kernel_rfl) (by kernel_rfl) (by kernel_rfl) (fun _ _ _ h => (unhide hpan) _ _ _ _ _ h) (.inl ⟨by kernel_rfl, fun x_ hu => by kernel_rfl⟩) hS ?_
  simp only [nrm]
  refine any_take (i := 3) (v := (.pointer (some ⟨l, 0, none⟩))) #[true, true, true, false, false, false, false, false, false] rfl (by kernel_rfl) (by kernel_rfl) (by kernel_rfl) (by kernel_rfl) (fun _ _ _ h => (unhide hpan) _ _ _ _ _ h) (.inl ⟨by kernel_rfl, fun x_ hu => by kernel_rfl⟩) hS ?_
  simp only [nrm]
  refine any_take (i := 5) (v := (.agg #[.slice pa pn pc, .slice qa xn qc])) #[true, true, true, true, false, false, false, false, false] rfl (by kernel_rfl) (by kernel_rfl) (by kernel_rfl) (by kernel_rfl) (fun _ _ _ h => (unhide hpan) _ _ _ _ _ h) (.inl ⟨by kernel_rfl, fun x_ hu => exec_arr _ 55 (.tmp 18) rfl gg (by kernel_rfl) #[.slice pa pn pc, .slice qa xn qc] 55 _ hu Tryz.underlying55 rfl (by rw [Tryz.infoTl]; rfl)⟩) hS ?_
  simp only [nrm]
  refine any_one (i := 4) (by kernel_rfl) rfl (fun K_ hQ => ?_)
  refine step_callw (by kernel_rfl) 19 #[P0 l] (by kernel_rfl) ((of12_ok x1 (unhide hX).xr (by rw [← unhide hxn]; exact hx512)).mono ?_)
  rintro r u2 ⟨ra, rn, rc, ta, tn, tc, rfl, hO1, hO2, hg⟩
  refine ⟨_, rfl, ?_⟩
  have hbb := (unhide hX).wd.bytes.1
  obtain ⟨ra2, rc2, er, hl1⟩ := hO1.lb hbb
  obtain ⟨ta2, tc2, et, hl2⟩ := hO2.lq
  injection er with er1 er2 er3
  injection et with et1 et2 et3
  subst er1 er2 er3 et1 et2 et3
  have hl1 := hide hl1
  have hl2 := hide hl2
  replace hX := hide ((unhide hX).more hg)
  replace h1 := hide ((unhide h1).gr hg)
  replace h2 := hide ((unhide h2).gr hg)
  replace hgg := hide (hg.blk (unhide hgg))
  replace hS : (fun (v : World) => v.heap[gg]? = some (.cells #[.slice pa pn pc, .slice qa xn qc] 55 (0, 0))) u2 := unhide hgg
  clear hg hO1 hO2 hbb
  refine hQ.out _ _ hS (fun _ => ?_)
  clear hQ K_
  simp only [nrm]
  refine any_one (i := 6) (by kernel_rfl) rfl (fun K_ hQ => ?_)
  refine step_callw (by kernel_rfl) 21 #[.agg #[.slice ra L.length rc, .slice ta X.length tc], .agg #[.slice pa pn pc, .slice qa xn qc]] (by kernel_rfl) ((same12_ok L L X X ra pa ta qa L.length rc pn pc X.length tc xn qc u2 (unhide hl1) (unhide h1) (unhide hl2) (unhide h2) (by rw [← unhide hxn]; omega)).mono ?_)
  rintro r u3 ⟨rfl, hg⟩
  refine ⟨_, rfl, ?_⟩
  rw [decide_eq_true (⟨rfl, rfl⟩ : L = L ∧ X = X)]
  replace hX := hide ((unhide hX).more hg)
  replace hgg := hide (hg.blk (unhide hgg))
  replace hS : (fun (v : World) => v.heap[gg]? = some (.cells #[.slice pa pn pc, .slice qa xn qc] 55 (0, 0))) u3 := unhide hgg
  clear hg hl1 hl2 h1 h2
  refine hQ.out _ _ hS (fun _ => ?_)
  clear hQ K_
  simp only [nrm]
  refine any_take (i := 7) (v := (.bool false)) #[true, true, true, true, true, true, true, false, false] rfl (by kernel_rfl) (by kernel_rfl) (by kernel_rfl) (by kernel_rfl) (fun _ _ _ h => (unhide hpan) _ _ _ _ _ h) (.inl ⟨by kernel_rfl, fun x_ hu => by kernel_rfl⟩) hS ?_
  simp only [nrm]
  refine any_take (i := 8) (v := (.bool false)) #[true, true, true, true, true, true, true, true, false] rfl (by kernel_rfl) (by kernel_rfl) (by kernel_rfl) (by kernel_rfl) (fun _ _ _ h => (unhide hpan) _ _ _ _ _ h) (.inl ⟨by kernel_rfl, fun x_ hu => by kernel_rfl⟩) hS ?_
  simp only [nrm]
  refine any_done (by kernel_rfl) ?_
  clear hS
  have hgl := hide (lt_of_block (unhide hgg))
  go_upto_region 43 with fail
  by_cases hfit : usd X + 2 ≤ E.safe.length - lgo E.safe.length
  · skip
    refine wp_region_lit ?_
    refine list_val (.pointer (some ⟨l, 0, none⟩)) (by kernel_rfl) (by kernel_rfl) ?_
    simp only [nrm]
    refine list_valw (.slice (some ⟨u3.heap.size, 0, none⟩) 4 4) (u3.alloc (.cells (kc [109, 111, 114, 101]) 5 (0, 0))) (by kernel_rfl) (by kernel_rfl) ?_
    simp only [nrm]
    refine list_valw (.slice (some ⟨u3.heap.size, 0, none⟩) 4 4) (u3.alloc (.cells (kc [109, 111, 114, 101]) 5 ((kc [109, 111, 114, 101]).size, (kc [109, 111, 114, 101]).size + 1))) (by kernel_rfl) (exec_const u3 (.tmp 188) rfl (kc [109, 111, 114, 101]) 4 4 (by kernel_rfl)) ?_
    simp only [nrm]
    have hg := (Gr.refl u3).alloc (.cells (kc [109, 111, 114, 101]) 5 ((kc [109, 111, 114, 101]).size, (kc [109, 111, 114, 101]).size + 1))
    have hxb : IsB [109, 111, 114, 101] := by intro x hx; simp at hx; omega
    have l1 : Lb (u3.alloc (.cells (kc [109, 111, 114, 101]) 5 ((kc [109, 111, 114, 101]).size, (kc [109, 111, 114, 101]).size + 1))) (some ⟨u3.heap.size, 0, none⟩) 4 4 [109, 111, 114, 101] := ⟨rfl, hxb, .inr ⟨_, 0, rfl, fun j hj => by rw [Nat.zero_add]; exact cell_of (blk_new _ _) (kc_get [109, 111, 114, 101] j hj)⟩, by omega, by omega⟩
    have hfar : ([109, 111, 114, 101] : List Int) = [] ∨ ∀ i, i ∈ F ∨ i ∈ G ∨ i ∈ H → blkOf (some ⟨u3.heap.size, 0, none⟩) ≠ some i := by
      right
      intro i hi e
      have e2 : u3.heap.size = i := Option.some.inj e
      rcases hi with hi | hi | hi
      · have := (unhide hX).xs.ls.lt i hi; omega
      · have := (unhide hX).xs.st.lt i hi; omega
      · have := (unhide hX).lg.lt i hi; omega
    replace hX := hide ((unhide hX).more hg)
    replace hgg := hide (hg.blk (unhide hgg))
    clear hg
    generalize World.alloc _ _ = u4 at *
    generalize u3.heap.size = h9 at *
    replace l1 := hide l1; replace hfar := hide hfar
    have hnF : ∀ i ∈ F ++ H, gg ≠ i := fun i hi e => by
      subst e
      rcases List.mem_append.1 hi with h | h
      · exact lies_no (unhide hX).xs.ls (unhide hgg) (fun c t e => by injection e with _ e2 _; subst e2; decide) h
      · exact unhide hgH h
    obtain ⟨MM, hMM⟩ : ∃ M : List Int, M = [109, 111, 114, 101] := ⟨_, rfl⟩
    have hMl : MM.length = 4 := by rw [hMM]; rfl
    rw [← hMM] at l1 hfar
    refine list_call 17 #[P0 l, .slice (some ⟨h9, 0, none⟩) 4 4] (by kernel_rfl) (by kernel_rfl) ((x_append (unhide hX) (by omega) (unhide hf) MM (some ⟨h9, 0, none⟩) 4 4 (unhide l1) (unhide hfar) (by rw [hMl]; exact hfit)).mono ?_)
    rintro r u5 ⟨F5, H5, E5, rfl, hX5, hE5, hC, -⟩
    have hm5 : m + ((MM.length + 62) / 63 + 3) ≤ 700004 := by rw [hMl]; omega
    generalize m + ((MM.length + 62) / 63 + 3) = m5 at *
    refine ⟨_, rfl, ?_⟩
    replace hgg := hide (hC.blk (unhide hgg) (fun e => hnF gg e rfl))
    have hX5 := hide hX5
    have hxl : Hid ((X ++ [MM]).length = xn + 1) := by show _ = _; rw [List.length_append, unhide hxn]; rfl
    generalize X ++ [MM] = X5 at *
    clear hX l1 hfar hC hE5 hnF hMM hMl
    simp only [nrm]
    refine list_val (.bool true) (by kernel_rfl) (by kernel_rfl) ?_
    simp only [nrm]
    refine wpList_nil ?_
    go_upto_region 44 with fail
    refine wp_region_lit ?_
    refine list_val (.pointer (some ⟨gd, 0, none⟩)) (by kernel_rfl) (by kernel_rfl) ?_
    simp only [nrm]
    refine list_call 23 #[P0 gd] (by kernel_rfl) (by kernel_rfl) ((again_ok v0 F5 gd E5 m5 s L X5 (unhide hf) u5 (unhide hX5).xs.gr (unhide hX5).xs.ls (unhide hX5).xs.oF (unhide hX5).wd (by omega)).mono ?_)
    rintro r u6 ⟨l6, gs6, G6, H6, rfl, hX6, hg, -⟩
    refine ⟨_, rfl, ?_⟩
    have hX6 := hide hX6
    replace hgg := hide (hg.blk (unhide hgg))
    clear hg hX5
    simp only [nrm]
    refine list_val (.tuple #[.pointer (some ⟨l6, 0, none⟩), .bool true]) (by kernel_rfl) (by kernel_rfl) ?_
    simp only [nrm]
    refine list_val (.pointer (some ⟨l6, 0, none⟩)) (by kernel_rfl) (by kernel_rfl) ?_
    simp only [nrm]
    refine list_val (.bool true) (by kernel_rfl) (by kernel_rfl) ?_
    simp only [nrm]
    (refine wpList_step fun K hK => ?_; replace hK := hide hK; go_simp; refine unhide hK _ _ ?_; clear hK K)
    (refine wpList_step fun K hK => ?_; replace hK := hide hK; go_simp; refine unhide hK _ _ ?_; clear hK K)
    refine wpList_nil ?_
    go_upto_region 45 with fail
    have wx1 : IntKind.i64.wrap ((xn : Int) + 1) = ((xn + 1 : Nat) : Int) := by rw [IntKind.wrap_i64]; omega
    refine any_start (S := fun (v : World) => v.heap[gg]? = some (.cells #[.slice pa pn pc, .slice qa xn qc] 55 (0, 0))) (by kernel_rfl) ?_
    replace hX6 := hide ((unhide hX6).more (Gr.refl _).drew)
    have hS : (fun (v : World) => v.heap[gg]? = some (.cells #[.slice pa pn pc, .slice qa xn qc] 55 (0, 0))) (World.drew _) := (Gr.refl _).drew.blk (unhide hgg)
    replace hgg := hide hS
    generalize World.drew _ = x6 at *
    simp only [List.size_toArray, List.length_cons, List.length_nil, Array.replicate, List.replicate]
    refine any_take (i := 0) (v := (.bool true)) #[false, false, false, false, false, false, false, false, false, false, false, false] rfl (by kernel_rfl) (by kernel_rfl) (by kernel_rfl) (by kernel_rfl) (fun _ _ _ h => (unhide hpan) _ _ _ _ _ h) (.inl ⟨by kernel_rfl, fun x_ hu => by kernel_rfl⟩) hS ?_
    simp only [nrm]
    refine any_take (i := 1) (v := (.bool true)) #[true, false, false, false, false, false, false, false, false, false, false, false] rfl (by kernel_rfl) (by kernel_rfl) (by kernel_rfl) (by kernel_rfl) (fun _ _ _ h => (unhide hpan) _ _ _ _ _ h) (.inl ⟨by kernel_rfl, fun x_ hu => by kernel_rfl⟩) hS ?_
    simp only [nrm]
    refine any_take (i := 2) (v := (.pointer (some ⟨l6, 0, none⟩))) #[true, true, false, false, false, false, false, false, false, false, false, false] rfl (by kernel_rfl) (by kernel_rfl) (by kernel_rfl) (by kernel_rfl) (fun _ _ _ h => (unhide hpan) _ _ _ _ _ h) (.inl ⟨by kernel_rfl, fun x_ hu => by kernel_rfl⟩) hS ?_
    simp only [nrm]
    refine any_take (i := 5) (v := (.pointer (some ⟨gg, 1, none⟩))) #[true, true, true, false, false, false, false, false, false, false, false, false] rfl (by kernel_rfl) (by kernel_rfl) (by kernel_rfl) (by kernel_rfl) (fun _ _ _ h => (unhide hpan) _ _ _ _ _ h) (.inl ⟨by kernel_rfl, fun x_ hu => by kernel_rfl⟩) hS ?_
    simp only [nrm]
    refine any_take (i := 6) (v := (.slice qa xn qc)) #[true, true, true, false, false, true, false, false, false, false, false, false] rfl (by kernel_rfl) (by kernel_rfl) (by kernel_rfl) (by kernel_rfl) (fun _ _ _ h => (unhide hpan) _ _ _ _ _ h) (.inl ⟨by kernel_rfl, fun x_ hu => exec_sx _ (.tmp 202) rfl gg 1 (by kernel_rfl) qa xn qc (cell_of hu (i := 1) rfl)⟩) hS ?_
    simp only [nrm]
    refine any_take (i := 7) (v := (.int .i64 (xn : Int))) #[true, true, true, false, false, true, true, false, false, false, false, false] rfl (by kernel_rfl) (by kernel_rfl) (by kernel_rfl) (by kernel_rfl) (fun _ _ _ h => (unhide hpan) _ _ _ _ _ h) (.inl ⟨by kernel_rfl, fun x_ hu => by kernel_rfl⟩) hS ?_
    simp only [nrm]
    refine any_take (i := 8) (v := (.int .i64 ((xn + 1 : Nat) : Int))) #[true, true, true, false, false, true, true, true, false, false, false, false] rfl (by kernel_rfl) (by kernel_rfl) (by kernel_rfl) (by kernel_rfl) (fun _ _ _ h => (unhide hpan) _ _ _ _ _ h) (.inl ⟨by kernel_rfl, fun x_ hu => by go_simp⟩) hS ?_
    simp only [nrm]
    refine any_one (i := 3) (by kernel_rfl) rfl (fun K_ hQ => ?_)
    refine step_callw (by kernel_rfl) 24 #[P0 l6] (by kernel_rfl) ((x_txs (unhide hX6)).mono ?_)
    rintro r u7 ⟨vx, rfl, hox, hg⟩
    refine ⟨_, rfl, ?_⟩
    obtain ⟨ta, tc, rfl, -⟩ := hox.lq
    rw [unhide hxl]
    replace hX6 := hide ((unhide hX6).more hg)
    replace hgg := hide (hg.blk (unhide hgg))
    replace hS : (fun (v : World) => v.heap[gg]? = some (.cells #[.slice pa pn pc, .slice qa xn qc] 55 (0, 0))) u7 := unhide hgg
    clear hg hox
    refine hQ.out _ _ hS (fun _ => ?_)
    clear hQ K_
    simp only [nrm]
    refine any_take (i := 4) (v := (.int .i64 ((xn + 1 : Nat) : Int))) #[true, true, true, true, false, true, true, true, true, false, false, false] rfl (by kernel_rfl) (by kernel_rfl) (by kernel_rfl) (by kernel_rfl) (fun _ _ _ h => (unhide hpan) _ _ _ _ _ h) (.inl ⟨by kernel_rfl, fun x_ hu => by kernel_rfl⟩) hS ?_
    simp only [nrm]
    refine any_take (i := 9) (v := (.bool true)) #[true, true, true, true, true, true, true, true, true, false, false, false] rfl (by kernel_rfl) (by kernel_rfl) (by kernel_rfl) (by kernel_rfl) (fun _ _ _ h => (unhide hpan) _ _ _ _ _ h) (.inl ⟨by kernel_rfl, fun x_ hu => by go_simp⟩) hS ?_
    simp only [nrm]
    refine any_take (i := 10) (v := (.bool true)) #[true, true, true, true, true, true, true, true, true, true, false, false] rfl (by kernel_rfl) (by kernel_rfl) (by kernel_rfl) (by kernel_rfl) (fun _ _ _ h => (unhide hpan) _ _ _ _ _ h) (.inl ⟨by kernel_rfl, fun x_ hu => by kernel_rfl⟩) hS ?_
    simp only [nrm]
    refine any_one (i := 11) (by kernel_rfl) rfl (fun K_ hQ => ?_)
    replace hQ := hide hQ
    go_simp
    refine (unhide hQ).out _ _ hS (fun _ => ?_)
    clear hQ K_
    refine any_done (by kernel_rfl) ?_
    clear hS
    have hZ : Hid (Gr v0 u7) := (unhide hX6).xs.gr
    clear hX6
    go_wp2_with fail
    exact unhide hQ _ _ (unhide hZ) rfl
  · skip
    refine wp_region_lit ?_
    refine list_val (.pointer (some ⟨l, 0, none⟩)) (by kernel_rfl) (by kernel_rfl) ?_
    simp only [nrm]
    refine list_valw (.slice (some ⟨u3.heap.size, 0, none⟩) 4 4) (u3.alloc (.cells (kc [109, 111, 114, 101]) 5 (0, 0))) (by kernel_rfl) (by kernel_rfl) ?_
    simp only [nrm]
    refine list_valw (.slice (some ⟨u3.heap.size, 0, none⟩) 4 4) (u3.alloc (.cells (kc [109, 111, 114, 101]) 5 ((kc [109, 111, 114, 101]).size, (kc [109, 111, 114, 101]).size + 1))) (by kernel_rfl) (exec_const u3 (.tmp 188) rfl (kc [109, 111, 114, 101]) 4 4 (by kernel_rfl)) ?_
    simp only [nrm]
    have hg := (Gr.refl u3).alloc (.cells (kc [109, 111, 114, 101]) 5 ((kc [109, 111, 114, 101]).size, (kc [109, 111, 114, 101]).size + 1))
    have hxb : IsB [109, 111, 114, 101] := by intro x hx; simp at hx; omega
    have l1 : Lb (u3.alloc (.cells (kc [109, 111, 114, 101]) 5 ((kc [109, 111, 114, 101]).size, (kc [109, 111, 114, 101]).size + 1))) (some ⟨u3.heap.size, 0, none⟩) 4 4 [109, 111, 114, 101] := ⟨rfl, hxb, .inr ⟨_, 0, rfl, fun j hj => by rw [Nat.zero_add]; exact cell_of (blk_new _ _) (kc_get [109, 111, 114, 101] j hj)⟩, by omega, by omega⟩
    have hfar : ([109, 111, 114, 101] : List Int) = [] ∨ ∀ i, i ∈ F ∨ i ∈ G ∨ i ∈ H → blkOf (some ⟨u3.heap.size, 0, none⟩) ≠ some i := by
      right
      intro i hi e
      have e2 : u3.heap.size = i := Option.some.inj e
      rcases hi with hi | hi | hi
      · have := (unhide hX).xs.ls.lt i hi; omega
      · have := (unhide hX).xs.st.lt i hi; omega
      · have := (unhide hX).lg.lt i hi; omega
    replace hX := hide ((unhide hX).more hg)
    replace hgg := hide (hg.blk (unhide hgg))
    clear hg
    generalize World.alloc _ _ = u4 at *
    generalize u3.heap.size = h9 at *
    replace l1 := hide l1; replace hfar := hide hfar
    refine list_call 17 #[.pointer (some ⟨l, 0, none⟩), .slice (some ⟨h9, 0, none⟩) 4 4] (by kernel_rfl) (by kernel_rfl) ((x_full (unhide hX) (some ⟨h9, 0, none⟩) 4 4 (by omega) hfit).mono ?_)
    rintro r u5 ⟨rfl, hg⟩
    refine ⟨_, rfl, ?_⟩
    replace hX := hide ((unhide hX).more hg)
    clear hg
    simp only [nrm]
    refine list_val (.bool false) (by kernel_rfl) (by kernel_rfl) ?_
    simp only [nrm]
    refine wpList_nil ?_
    go_upto_region 46 with fail
    refine wp_region_lit ?_
    refine list_val (.pointer (some ⟨l, 0, none⟩)) (by kernel_rfl) (by kernel_rfl) ?_
    simp only [nrm]
    refine list_call 25 #[.pointer (some ⟨l, 0, none⟩), .int .i64 4] (by kernel_rfl) (by kernel_rfl) ((x_room (unhide hX) 4 (by omega) (by omega)).mono ?_)
    rintro r u6 ⟨rfl, hg⟩
    refine ⟨_, rfl, ?_⟩
    rw [show decide ((0 : Int) ≤ 4 ∧ nedI 4 ≤ ((E.safe.length - lgo E.safe.length - usd X : Nat) : Int)) = false from by rw [show nedI 4 = 2 from by decide]; exact decide_eq_false (fun h => by have := (unhide hX).wd.wl.le; omega)]
    replace hX := hide ((unhide hX).more hg)
    clear hg
    simp only [nrm]
    refine list_val (.bool true) (by kernel_rfl) (by kernel_rfl) ?_
    simp only [nrm]
    (refine wpList_step fun K hK => ?_; replace hK := hide hK; go_simp; refine unhide hK _ _ ?_; clear hK K)
    refine wpList_nil ?_
    have hZ : Hid (Gr v0 u6) := (unhide hX).xs.gr
    clear hX
    go_wp2_with fail
    exact unhide hQ _ _ (unhide hZ) rfl
end Go.Proofs.YtaoiejgjdmakjaaGreatDoor
