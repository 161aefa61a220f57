/-
  Of layer 12: what the proof leans on.
-/
import Derived.Deep.DeepAppendWide
import Derived.Laws.BytesArg
import Derived.Test.YtaoiejgjdmakjaaDoorRows
import Derived.ChangeOld
import Derived.SizedLaws
import Derived.LaidMore
import Derived.Stop.Joined
import Derived.ProofKit
import Derived.OpenShut
import Derived.WalkMore
import Derived.Deep.Cut
import Derived.StillTailTactics
import Derived.OwnWalk
import Derived.Deep.QuietTactic
import Derived.BigQuiet
import Derived.Deep.MidRow
import Derived.Laws.IdiomCopy
import Derived.Deep.Strs
import Derived.Great.BuildSlice
import Derived.ChangeKeysEq
import Derived.WideShapes
import Derived.Test.YtaoiejgjdmakjaaDoorDoesK1
namespace Go.Proofs.YtaoiejgjdmakjaaDoor
open Go.RowKit
set_option maxRecDepth 100000
set_option linter.unusedSimpArgs false
set_option linter.unusedVariables false
def Wrote (g : Nat) (B : List Int) (w : World) (r : Ending) (w' : World) : Prop := r = .returned (.int .i64 0) ∧ H g B w' ∧ Bt g w w'
theorem cnt_cell {w : World} {g : Nat} {s l : List Int} {n : Int} {t : TypeId} (h : w.heap[g]? = some (.cells (hc s l n) t (0, 0))) (hs : s.length = 8) (hl : l.length = 64) : w.cell? ⟨g, 72, none⟩ = some (.int .i64 n) := by
  refine cell_of h ?_
  unfold hc hcl
  simp [List.getElem?_append, hs, hl]
theorem cnt_set {w : World} {g : Nat} {s l : List Int} {n m : Int} {t : TypeId} (h : w.heap[g]? = some (.cells (hc s l n) t (0, 0))) (hs : s.length = 8) (hl : l.length = 64) : (w.setCell ⟨g, 72, none⟩ (.int .i64 m)).heap[g]? = some (.cells (hc s l m) t (0, 0)) := by
  rw [heap_setCell_same w g 72 _ t _ h]
  unfold hc
  rw [List.setIfInBounds_toArray, hcl_count s l n m hs hl]
theorem isB_left {l B : List Int} (hl : IsB l) (hB : IsB B) (k : Nat) : IsB (l.take k ++ (B ++ l.drop (k + B.length))) := isB_append (isB_take hl _) (isB_append hB (isB_drop hl _))
theorem take_len_append (B l : List Int) : (B ++ l).take B.length = B := by simp
set_option maxHeartbeats 2000000 in
theorem write_whole (g : Nat) (B C : List Int) (hC : IsB C) (h64 : B.length % 64 = 0) (hbig : B.length + C.length < 1152921504606846976) (a : Option Addr) (cap : Nat) (hcap : C.length ≤ cap) (hcb : cap < 9223372036854775808) (w : World)
    (hB : H g B w) (hX : SlX g w a C) : Calls Tryd.prog 94 #[.pointer (some ⟨g, 0, none⟩), .slice a C.length cap] w (Wrote g (B ++ C) w) := by
  obtain ⟨T, hT⟩ : ∃ T, T = Wrote g (B ++ C) w := ⟨_, rfl⟩
  rw [← hT]
  obtain ⟨l, hl, hlB, hH, hlt⟩ := hB
  obtain ⟨S, hS⟩ : ∃ S, S = hbk (B.length / 64) F0 B := ⟨_, rfl⟩
  have hSl : S.length = 8 := by rw [hS]; exact hbk_len _ _ rfl _
  rw [← hS] at hH
  have cc := cnt_cell hH hSl hl
  have cf := froz_of (i := 72) hH
  have hH2 := cnt_set (m := (B.length : Int) + C.length) hH hSl hl
  have hBt := (Bt.trans (Bt.refl g w) (setCells_bt [.int .i64 ((B.length : Int) + C.length)] w g 72))
  replace hX := hX.bt hBt
  replace hBt : Hid (Bt g w (w.setCell ⟨g, 72, none⟩ (.int .i64 ((B.length : Int) + C.length)))) := hBt
  replace hX : Hid (SlX g (w.setCell ⟨g, 72, none⟩ (.int .i64 ((B.length : Int) + C.length))) a C) := hX
  have e1 : Int.tmod (B.length : Int) 64 = 0 := by rw [Int.tmod_eq_emod_of_nonneg (by omega)]; omega
  have e2 : IntKind.i64.wrap ((B.length : Int) + C.length) = (B.length : Int) + C.length := by rw [IntKind.wrap_i64]; omega
  have hbD := hC
  have hcD1 := hcap
  have hcD2 := hcb
  replace hH2 := hide hH2
  replace hT := hide hT
  replace hS := hide hS
  replace hlt := hide hlt
  clear hH
  generalize hm : C.length = m at *
  generalize hn : B.length = n at *
  go_enter Tryd.func94, Tryd.ntmps94
  go_upto_region 11 with fail
  replace hBt := unhide hBt
  replace hX := unhide hX
  have hH := unhide hH2
  clear hH2
  generalize World.setCell _ _ _ = x3 at *
  subst hm hn
  refine any_start (S := fun _ => True) (by kernel_rfl) ?_
  replace hBt := hBt.trans ((Gr.refl _).drew.bt g)
  replace hH := (Gr.refl _).drew.blk hH
  replace hX := hX.gr (Gr.refl _).drew
  generalize World.drew _ = x0 at *
  simp only [List.size_toArray, List.length_cons, List.length_nil, Array.replicate, List.replicate]
  refine any_take (i := 0) (v := (.pointer (some ⟨g, 0, none⟩))) #[false, false, false, false, false, false, false, false] rfl (by kernel_rfl) (by kernel_rfl) (by kernel_rfl) (by kernel_rfl) (fun _ _ _ h => h) (.inl ⟨by kernel_rfl, fun x_ hu => by kernel_rfl⟩) trivial ?_
  simp only [nrm]
  refine any_take (i := 1) (v := (.pointer (some ⟨g, 0, none⟩))) #[true, false, false, false, false, false, false, false] rfl (by kernel_rfl) (by kernel_rfl) (by kernel_rfl) (by kernel_rfl) (fun _ _ _ h => h) (.inl ⟨by kernel_rfl, fun x_ hu => by kernel_rfl⟩) trivial ?_
  simp only [nrm]
  refine any_take (i := 2) (v := (.pointer (some ⟨g, 8, none⟩))) #[true, true, false, false, false, false, false, false] rfl (by kernel_rfl) (by kernel_rfl) (by kernel_rfl) (by kernel_rfl) (fun _ _ _ h => h) (.inl ⟨by kernel_rfl, fun x_ hu => by kernel_rfl⟩) trivial ?_
  simp only [nrm]
  refine any_take (i := 3) (v := (.slice (some ⟨g, 8, none⟩) 64 64)) #[true, true, true, false, false, false, false, false] rfl (by kernel_rfl) (by kernel_rfl) (by kernel_rfl) (by kernel_rfl) (fun _ _ _ h => h) (.inl ⟨by kernel_rfl, fun x_ hu => by go_simp⟩) trivial ?_
  simp only [nrm]
  refine any_take (i := 4) (v := (.pointer (some ⟨g, 0, none⟩))) #[true, true, true, true, false, false, false, false] rfl (by kernel_rfl) (by kernel_rfl) (by kernel_rfl) (by kernel_rfl) (fun _ _ _ h => h) (.inl ⟨by kernel_rfl, fun x_ hu => by kernel_rfl⟩) trivial ?_
  simp only [nrm]
  refine any_take (i := 5) (v := (.slice a C.length cap)) #[true, true, true, true, true, false, false, false] rfl (by kernel_rfl) (by kernel_rfl) (by kernel_rfl) (by kernel_rfl) (fun _ _ _ h => h) (.inl ⟨by kernel_rfl, fun x_ hu => by kernel_rfl⟩) trivial ?_
  simp only [nrm]
  refine any_one (i := 6) (by kernel_rfl) rfl (fun K hK => ?_)
  refine step_callw (by kernel_rfl) 103 #[.pointer (some ⟨g, 0, none⟩), .slice a C.length cap] (by kernel_rfl) ((take_ok S l ((B.length : Int) + C.length) hSl g C hbD a cap hcD1 hcD2 _ hH hX.out).mono ?_)
  rintro r x1 ⟨a2, c2, rfl, hc3, hc4, hsl, hH2, hBt2⟩
  refine ⟨_, rfl, ?_⟩
  replace hBt := hBt.trans hBt2
  refine hK.out _ _ trivial (fun _ => ?_)
  clear hK K hBt2 hH hX
  simp only [nrm]
  refine any_one (i := 7) (by kernel_rfl) rfl (fun K hK => ?_)
  rw [if_pos (by kernel_rfl)]
  have hdl : (C.drop (64 * (C.length / 64))).length = C.length % 64 := by rw [List.length_drop]; omega
  refine copy_wp (.tmp 48) (.tmp 51) rfl g 8 64 64 a2 (C.length % 64) c2 (by kernel_rfl) (by kernel_rfl) (hcl (hbk (C.length / 64) S C) l ((B.length : Int) + C.length)) 152 hH2 (C.drop (64 * (C.length / 64))) (by rw [hdl]; exact (Nat.min_eq_left (by omega)).symm) (by rcases hsl with h | ⟨p, o, h1, h2, _⟩; exact .inl h; exact .inr ⟨p, o, h1, h2⟩) (by rw [hcl_len _ _ _ (hbk_len _ _ hSl _) hl, hdl]; omega) ?_
  have hH3 := setCells_heap ((C.drop (64 * (C.length / 64))).map (Value.int .u8)) x1 g 8 _ _ hH2
  have hcp := hcl_copy (hbk (C.length / 64) S C) l (C.drop (64 * (C.length / 64))) ((B.length : Int) + C.length) 0 (hbk_len _ _ hSl _) (by rw [hdl, hl]; omega)
  rw [Nat.add_zero] at hcp
  rw [hcp] at hH3
  simp only [List.take_zero, List.nil_append, Nat.zero_add] at hH3
  replace hBt := hBt.trans (setCells_bt ((C.drop (64 * (C.length / 64))).map (Value.int .u8)) x1 g 8)
  refine hK.out _ _ trivial (fun _ => ?_)
  refine any_done (by kernel_rfl) ?_
  clear hK K hH2 hsl hcp
  simp only [nrm]
  generalize World.setCells _ _ _ _ = x2 at *
  have hW : Hid (Wrote g (B ++ C) w (.returned (.int .i64 0)) x2) := by
    refine ⟨rfl, H.whole h64 ?_ ?_ (l := C.drop (64 * (C.length / 64)) ++ l.drop (C.drop (64 * (C.length / 64))).length) (by rw [← unhide hS]; exact hH3) (by rw [← hdl]; exact take_len_append _ _), hBt⟩
    · rw [List.length_append, List.length_drop (l := l), hdl, hl]
      omega
    · have := isB_left hlB (isB_drop hC (64 * (C.length / 64))) 0
      simpa using this
  clear hH3 hBt
  go_wp2_with fail
  rw [unhide hT]
  exact unhide hW
theorem left_at {w : World} {g : Nat} {s l : List Int} {n : Int} {t : TypeId} (h : w.heap[g]? = some (.cells (hc s l n) t (0, 0))) (hs : s.length = 8) : At w g 8 l := by
  intro j hj
  refine cell_of h ?_
  unfold hc hcl
  simp [List.getElem?_append, hs, hj]
theorem H.part {g : Nat} {B C l : List Int} {v : World} (hk : B.length % 64 + C.length < 64) (hl : l.length = 64) (hlB : IsB l) (hC : IsB C) (hlt : l.take (B.length % 64) = B.drop (64 * (B.length / 64)))
    (h : v.heap[g]? = some (.cells (hc (hbk (B.length / 64) F0 B) (l.take (B.length % 64) ++ (C ++ l.drop (B.length % 64 + C.length))) ((B.length : Int) + C.length)) 152 (0, 0))) : H g (B ++ C) v := by
  have e1 : (B ++ C).length / 64 = B.length / 64 := by rw [List.length_append]; omega
  have e2 : (B ++ C).length % 64 = B.length % 64 + C.length := by rw [List.length_append]; omega
  have e3 : ((B ++ C).length : Int) = (B.length : Int) + C.length := by rw [List.length_append]; omega
  refine ⟨_, ?_, isB_left hlB hC (B.length % 64), ?_, ?_⟩
  · simp only [List.length_append, List.length_take, List.length_drop, hl]
    omega
  · rw [e1, e3, bk_left F0 C (B.length / 64) (by omega)]
    exact h
  · have e4 : (l.take (B.length % 64) ++ C).length = B.length % 64 + C.length := by simp only [List.length_append, List.length_take, hl]; omega
    rw [e2, e1, ← e4, ← List.append_assoc, take_len_append, hlt, List.drop_append_of_le_length (by omega)]
theorem bk_fill {B C l : List Int} (hk : 0 < B.length % 64) (hC : C.length = 64 - B.length % 64) (hlt : l.take (B.length % 64) = B.drop (64 * (B.length / 64))) : hbk 1 (hbk (B.length / 64) F0 B) (l.take (B.length % 64) ++ C) = hbk ((B ++ C).length / 64) F0 (B ++ C) := by
  have e1 : (B ++ C).length / 64 = B.length / 64 + 1 := by rw [List.length_append]; omega
  rw [e1, hbk, hbk, hbk, bk_left F0 C (B.length / 64) (by omega), hlt, Nat.mul_zero, List.drop_zero, List.drop_append_of_le_length (by omega)]
theorem take_n (s l : List Int) (n : Int) (hs : s.length = 8) (g : Nat) (B : List Int) (hb : IsB B) (N : Nat) (hN : B.length = N) (a : Option Addr) (cap : Nat) (hcap : N ≤ cap) (hbig : cap < 9223372036854775808) (w : World)
    (hg : w.heap[g]? = some (.cells (hc s l n) 152 (0, 0))) (hA : SlO g w a B) : Calls Tryd.prog 103 #[.pointer (some ⟨g, 0, none⟩), .slice a N cap] w (Took g s l n B w) := by
  subst hN
  exact take_ok s l n hs g B hb a cap hcap hbig w hg hA
set_option maxHeartbeats 2000000 in
theorem write_some (g : Nat) (B C : List Int) (hC : IsB C) (h64 : 0 < B.length % 64) (hbig : B.length + C.length < 1152921504606846976) (a : Option Addr) (cap : Nat) (hcap : C.length ≤ cap) (hcb : cap < 9223372036854775808) (w : World)
    (hB : H g B w) (hX : SlX g w a C) : Calls Tryd.prog 94 #[.pointer (some ⟨g, 0, none⟩), .slice a C.length cap] w (Wrote g (B ++ C) w) := by
  obtain ⟨T, hT⟩ : ∃ T, T = Wrote g (B ++ C) w := ⟨_, rfl⟩
  rw [← hT]
  obtain ⟨l, hl, hlB, hH, hlt⟩ := hB
  obtain ⟨S, hS⟩ : ∃ S, S = hbk (B.length / 64) F0 B := ⟨_, rfl⟩
  have hSl : S.length = 8 := by rw [hS]; exact hbk_len _ _ rfl _
  rw [← hS] at hH
  have cc := cnt_cell hH hSl hl
  have cf := froz_of (i := 72) hH
  have hH2 := cnt_set (m := (B.length : Int) + C.length) hH hSl hl
  have hBt := (Bt.trans (Bt.refl g w) (setCells_bt [.int .i64 ((B.length : Int) + C.length)] w g 72))
  replace hX := hX.bt hBt
  replace hBt : Hid (Bt g w (w.setCell ⟨g, 72, none⟩ (.int .i64 ((B.length : Int) + C.length)))) := hBt
  replace hX : Hid (SlX g (w.setCell ⟨g, 72, none⟩ (.int .i64 ((B.length : Int) + C.length))) a C) := hX
  obtain ⟨k, hk⟩ : ∃ k, k = B.length % 64 := ⟨_, rfl⟩
  rw [← hk] at h64 hlt
  have e1 : Int.tmod (B.length : Int) 64 = (k : Int) := by rw [Int.tmod_eq_emod_of_nonneg (by omega)]; omega
  have e2 : IntKind.i64.wrap ((B.length : Int) + C.length) = (B.length : Int) + C.length := by rw [IntKind.wrap_i64]; omega
  have e3 : IntKind.i64.wrap (k : Int) = (k : Int) := by rw [IntKind.wrap_i64]; omega
  have k0 : 0 < (k : Int) := by omega
  have k1 : (k : Int) ≤ 64 := by omega
  have k2 : (k : Int) < 64 := by omega
  have k3 : ¬ 64 = k := by omega
  have k4 : k < 64 := by omega
  replace hH2 := hide hH2
  replace hT := hide hT
  replace hS := hide hS
  replace hlt := hide hlt
  replace hk := hide hk
  clear hH
  generalize hm : C.length = m at *
  generalize hn : B.length = n at *
  go_enter Tryd.func94, Tryd.ntmps94
  go_upto_region 6 with fail
  replace hBt := unhide hBt
  replace hX := unhide hX
  have hH := unhide hH2
  clear hH2
  generalize World.setCell _ _ _ = x3 at *
  refine wp_region_lit ?_
  iterate 6 (refine wpList_step fun K hK => ?_; replace hK := hide hK; go_simp; refine unhide hK _ _ ?_; clear hK K)
  obtain ⟨m2, hm2⟩ : ∃ m2, m2 = min m (64 - k) := ⟨_, rfl⟩
  obtain ⟨E, hE⟩ : ∃ E, E = C.take m2 := ⟨_, rfl⟩
  have hEl : E.length = m2 := by rw [hE, List.length_take]; omega
  have hEB : IsB E := by rw [hE]; exact isB_take hC _
  have hsrc : E = [] ∨ ∃ p q, a = some ⟨p, q, none⟩ ∧ At x3 p q E := by
    rcases hX with h | ⟨p, q, h1, h2, _⟩
    · left; rw [hE, h]; simp
    · right; exact ⟨p, q, h1, by rw [hE]; exact h2.take m2⟩
  refine wpList_plain rfl fun K hK => ?_
  refine copy_wp (.tmp 29) (.tmp 30) rfl g (8 + k) (64 - k) (64 - k) a m cap (by kernel_rfl) (by kernel_rfl) (hcl S l ((n : Int) + m)) 152 hH E (by rw [hEl]; exact hm2) hsrc (by rw [hcl_len _ _ _ hSl hl, hEl]; omega) ?_
  have hH3 := setCells_heap (E.map (Value.int .u8)) x3 g (8 + k) _ _ hH
  rw [hcl_copy S l E _ k hSl (by rw [hEl, hl]; omega)] at hH3
  have hbt2 := setCells_bt (E.map (Value.int .u8)) x3 g (8 + k)
  replace hBt := hBt.trans hbt2
  replace hX := hX.bt hbt2
  refine hK _ _ ?_
  clear hK K hH hsrc hbt2
  simp only [nrm]
  generalize World.setCells _ _ _ _ = x4 at *
  rw [hEl]
  replace hm2 := hide hm2
  iterate 1 (refine wpList_step fun K hK => ?_; replace hK := hide hK; go_simp; refine unhide hK _ _ ?_; clear hK K)
  refine wpList_nil ?_
  obtain ⟨l2, hl2⟩ : ∃ l2, l2 = l.take k ++ (E ++ l.drop (k + E.length)) := ⟨_, rfl⟩
  have hH : x4.heap[g]? = some (.cells (hc S l2 ((n : Int) + m)) 152 (0, 0)) := by rw [hl2]; exact hH3
  clear hH3
  by_cases hpart : k + m < 64
  · have hmm : m2 = m := by have := unhide hm2; omega
    have hEC : E = C := by rw [hE, hmm, ← hm, List.take_length]
    have q1 : (k : Int) + (m2 : Int) < 64 := by omega
    have q2 : IntKind.i64.wrap ((k : Int) + (m2 : Int)) = (k : Int) + (m2 : Int) := by rw [IntKind.wrap_i64]; omega
    replace hmm := hide hmm
    have hW : Hid (Wrote g (B ++ C) w (.returned (.int .i64 0)) x4) := by
      refine ⟨rfl, H.part (l := l) ?_ hl hlB hC ?_ ?_, hBt⟩
      · rw [hn, hm]; have := unhide hk; omega
      · rw [hn, ← unhide hk]; exact unhide hlt
      · rw [hn, hm, ← unhide hk, ← unhide hS]
        rw [hl2, hEC, hm] at hH
        exact hH
    clear hH hBt hX
    replace hl2 := hide hl2
    go_wp2_with fail
    rw [unhide hT]
    exact unhide hW
  · have hmm : m2 = 64 - k := by have := unhide hm2; omega
    have hl2a : l2 = l.take k ++ E := by
      rw [hl2, hEl, List.drop_eq_nil_of_le (by omega), List.append_nil]
    have hl2l : l2.length = 64 := by rw [hl2a, List.length_append, List.length_take, hEl]; omega
    have hl2B : IsB l2 := by rw [hl2a]; exact isB_append (isB_take hlB _) hEB
    obtain ⟨D, hD⟩ : ∃ D, D = C.drop m2 := ⟨_, rfl⟩
    have hDl : D.length = m - m2 := by rw [hD, List.length_drop, hm]
    have hbD : IsB D := by rw [hD]; exact isB_drop hC _
    have q1 : ¬ (k : Int) + (m2 : Int) < 64 := by omega
    have q2 : IntKind.i64.wrap ((k : Int) + (m2 : Int)) = (k : Int) + (m2 : Int) := by rw [IntKind.wrap_i64]; omega
    have q4 : 0 ≤ (m2 : Int) := by omega
    have q5 : (m2 : Int) ≤ (m : Int) := by omega
    obtain ⟨S2, hS2⟩ : ∃ S2, S2 = hbk 1 S l2 := ⟨_, rfl⟩
    have hS2l : S2.length = 8 := by rw [hS2]; exact hbk_len _ _ hSl _
    replace hS2 := hide hS2
    replace hmm := hide hmm
    replace hDl := hide hDl
    replace hEl := hide hEl
    replace hl2 := hide hl2
    replace hl2a := hide hl2a
    replace hBt := hide hBt
    replace hX := hide hX
    replace hH := hide hH
    replace hE := hide hE
    replace hD := hide hD
    go_upto_region 9 with fail
    refine wp_region_lit ?_
    iterate 5 (refine wpList_step fun K hK => ?_; replace hK := hide hK; go_simp; refine unhide hK _ _ ?_; clear hK K)
    refine list_call 103 #[.pointer (some ⟨g, 0, none⟩), .slice (some ⟨g, 8, none⟩) 64 64] (by kernel_rfl) (by kernel_rfl) ((take_n S l2 ((n : Int) + m) hSl g l2 hl2B 64 hl2l (some ⟨g, 8, none⟩) 64 (by omega) (by omega) _ (unhide hH) (.inr ⟨g, 8, rfl, left_at (unhide hH) hSl, .inr (Nat.le_refl _)⟩)).mono ?_)
    rintro r x5 ⟨a5, c5, rfl, _, _, _, hH5, hBt5⟩
    refine ⟨_, rfl, ?_⟩
    simp only [nrm]
    refine wpList_nil ?_
    replace hBt := (unhide hBt).trans hBt5
    replace hX := (unhide hX).bt hBt5
    have hH6 : x5.heap[g]? = some (.cells (hc S2 l2 ((n : Int) + m)) 152 (0, 0)) := by
      rw [unhide hS2]
      have e : l2.length / 64 = 1 := by rw [hl2l]
      rw [e] at hH5
      exact hH5
    clear hBt5 hH5 hH
    have hXD : SlX g x5 (if cap = m2 then a else Option.map (fun x => x.add m2) a) D := by
      rw [unhide hD]
      rcases hX with h | ⟨p, q, h1, h2, h3⟩
      · left
        rw [h]
        simp
      · split
        · left
          exact List.drop_eq_nil_of_le (by omega)
        · right
          exact ⟨p, q + m2, by rw [h1]; simp [Addr.add_mid], h2.drop m2, h3⟩
    replace hBt := hide hBt
    clear hX
    replace hXD := hide hXD
    replace hH6 := hide hH6
    go_upto_region 11 with fail
    replace hBt := unhide hBt
    have hX := unhide hXD
    have hH := unhide hH6
    clear hXD hH6
    have hcD1 : m - m2 ≤ cap - m2 := by omega
    have hcD2 : cap - m2 < 9223372036854775808 := by omega
    generalize cap - m2 = c2 at *
    generalize (if cap = m2 then a else Option.map (fun x => x.add m2) a) = a2 at *
    replace hDl := unhide hDl
    replace hl0 := hl
    clear hl
    have hl := hl2l
    refine any_start (S := fun _ => True) (by kernel_rfl) ?_
    replace hBt := hBt.trans ((Gr.refl _).drew.bt g)
    replace hH := (Gr.refl _).drew.blk hH
    replace hX := hX.gr (Gr.refl _).drew
    generalize World.drew _ = x0 at *
    simp only [List.size_toArray, List.length_cons, List.length_nil, Array.replicate, List.replicate]
    refine any_take (i := 0) (v := (.pointer (some ⟨g, 0, none⟩))) #[false, false, false, false, false, false, false, false] rfl (by kernel_rfl) (by kernel_rfl) (by kernel_rfl) (by kernel_rfl) (fun _ _ _ h => h) (.inl ⟨by kernel_rfl, fun x_ hu => by kernel_rfl⟩) trivial ?_
    simp only [nrm]
    refine any_take (i := 1) (v := (.pointer (some ⟨g, 0, none⟩))) #[true, false, false, false, false, false, false, false] rfl (by kernel_rfl) (by kernel_rfl) (by kernel_rfl) (by kernel_rfl) (fun _ _ _ h => h) (.inl ⟨by kernel_rfl, fun x_ hu => by kernel_rfl⟩) trivial ?_
    simp only [nrm]
    refine any_take (i := 2) (v := (.pointer (some ⟨g, 8, none⟩))) #[true, true, false, false, false, false, false, false] rfl (by kernel_rfl) (by kernel_rfl) (by kernel_rfl) (by kernel_rfl) (fun _ _ _ h => h) (.inl ⟨by kernel_rfl, fun x_ hu => by kernel_rfl⟩) trivial ?_
    simp only [nrm]
    refine any_take (i := 3) (v := (.slice (some ⟨g, 8, none⟩) 64 64)) #[true, true, true, false, false, false, false, false] rfl (by kernel_rfl) (by kernel_rfl) (by kernel_rfl) (by kernel_rfl) (fun _ _ _ h => h) (.inl ⟨by kernel_rfl, fun x_ hu => by go_simp⟩) trivial ?_
    simp only [nrm]
    refine any_take (i := 4) (v := (.pointer (some ⟨g, 0, none⟩))) #[true, true, true, true, false, false, false, false] rfl (by kernel_rfl) (by kernel_rfl) (by kernel_rfl) (by kernel_rfl) (fun _ _ _ h => h) (.inl ⟨by kernel_rfl, fun x_ hu => by kernel_rfl⟩) trivial ?_
    simp only [nrm]
    refine any_take (i := 5) (v := (.slice a2 (m - m2) c2)) #[true, true, true, true, true, false, false, false] rfl (by kernel_rfl) (by kernel_rfl) (by kernel_rfl) (by kernel_rfl) (fun _ _ _ h => h) (.inl ⟨by kernel_rfl, fun x_ hu => by kernel_rfl⟩) trivial ?_
    simp only [nrm]
    refine any_one (i := 6) (by kernel_rfl) rfl (fun K hK => ?_)
    refine step_callw (by kernel_rfl) 103 #[.pointer (some ⟨g, 0, none⟩), .slice a2 (m - m2) c2] (by kernel_rfl) ((take_n S2 l2 ((n : Int) + m) hS2l g D hbD (m - m2) hDl a2 c2 hcD1 hcD2 _ hH hX.out).mono ?_)
    rintro r x1 ⟨a9, c9, rfl, hc3, hc4, hsl, hH2, hBt2⟩
    refine ⟨_, rfl, ?_⟩
    replace hBt := hBt.trans hBt2
    refine hK.out _ _ trivial (fun _ => ?_)
    clear hK K hBt2 hH hX
    simp only [nrm]
    refine any_one (i := 7) (by kernel_rfl) rfl (fun K hK => ?_)
    rw [if_pos (by kernel_rfl)]
    have hdl : (D.drop (64 * (D.length / 64))).length = D.length % 64 := by rw [List.length_drop]; omega
    refine copy_wp (.tmp 48) (.tmp 51) rfl g 8 64 64 a9 (D.length % 64) c9 (by kernel_rfl) (by kernel_rfl) (hcl (hbk (D.length / 64) S2 D) l2 ((n : Int) + m)) 152 hH2 (D.drop (64 * (D.length / 64))) (by rw [hdl]; exact (Nat.min_eq_left (by omega)).symm) (by rcases hsl with h | ⟨p, o, h1, h2, _⟩; exact .inl h; exact .inr ⟨p, o, h1, h2⟩) (by rw [hcl_len _ _ _ (hbk_len _ _ hS2l _) hl, hdl]; omega) ?_
    have hH3 := setCells_heap ((D.drop (64 * (D.length / 64))).map (Value.int .u8)) x1 g 8 _ _ hH2
    have hcp := hcl_copy (hbk (D.length / 64) S2 D) l2 (D.drop (64 * (D.length / 64))) ((n : Int) + m) 0 (hbk_len _ _ hS2l _) (by rw [hdl, hl]; omega)
    rw [Nat.add_zero] at hcp
    rw [hcp] at hH3
    simp only [List.take_zero, List.nil_append, Nat.zero_add] at hH3
    replace hBt := hBt.trans (setCells_bt ((D.drop (64 * (D.length / 64))).map (Value.int .u8)) x1 g 8)
    refine hK.out _ _ trivial (fun _ => ?_)
    refine any_done (by kernel_rfl) ?_
    clear hK K hH2 hsl hcp
    simp only [nrm]
    generalize World.setCells _ _ _ _ = x2 at *
    have hB1 : (B ++ E).length % 64 = 0 := by
      rw [List.length_append, unhide hEl, hn]
      have h1 := unhide hk
      have h2 := unhide hmm
      omega
    have hBE : B ++ C = (B ++ E) ++ D := by rw [unhide hE, unhide hD, List.append_assoc, List.take_append_drop]
    have hW : Hid (Wrote g (B ++ C) w (.returned (.int .i64 0)) x2) := by
      rw [hBE]
      refine ⟨rfl, H.whole hB1 ?_ ?_ (l := D.drop (64 * (D.length / 64)) ++ l2.drop (D.drop (64 * (D.length / 64))).length) ?_ (by rw [← hdl]; exact take_len_append _ _), hBt⟩
      · rw [List.length_append, List.length_drop (l := l2), hdl, hl]
        omega
      · have := isB_left hl2B (isB_drop hbD (64 * (D.length / 64))) 0
        simpa using this
      · have e4 : hbk 1 (hbk (B.length / 64) F0 B) (l.take (B.length % 64) ++ E) = hbk ((B ++ E).length / 64) F0 (B ++ E) := by
          refine bk_fill ?_ ?_ ?_
          · rw [hn, ← unhide hk]; exact h64
          · rw [unhide hEl, hn, ← unhide hk]; exact unhide hmm
          · rw [hn, ← unhide hk]; exact unhide hlt
        rw [← e4, hn, ← unhide hk, ← unhide hS, ← unhide hl2a, ← unhide hS2, List.length_append, unhide hEl, hDl, hn]
        have e5 : (((n + m2 : Nat) : Int) + ((m - m2 : Nat) : Int)) = (n : Int) + m := by omega
        rw [e5]
        rw [hDl] at hH3
        exact hH3
    clear hH3 hBt
    go_wp2_with fail
    rw [unhide hT]
    exact unhide hW
theorem write_ok (g : Nat) (B C : List Int) (hC : IsB C) (hbig : B.length + C.length < 1152921504606846976) (a : Option Addr) (n cap : Nat) (hn : C.length = n) (hcap : n ≤ cap) (hcb : cap < 9223372036854775808) (w : World)
    (hB : H g B w) (hX : SlX g w a C) : Calls Tryd.prog 94 #[.pointer (some ⟨g, 0, none⟩), .slice a n cap] w (Wrote g (B ++ C) w) := by
  subst hn
  rcases Nat.eq_zero_or_pos (B.length % 64) with h | h
  · exact write_whole g B C hC h hbig a cap hcap hcb w hB hX
  · exact write_some g B C hC h hbig a cap hcap hcb w hB hX
def Zl64 : List Int := List.replicate 64 0
theorem list_valw {P : Program} {ops : Array Oper} {Q : Exit → Act → World → Prop} {a : Act} {w : World} {o : Oper} {rest : List Oper} (v : Value) (w' : World) (hw : Region.wanted o (yielded ops a.tmps) = true) (hx : (execOp a.eval o).run P w = .ok (.value v) w') (h : wpList P ops Q rest (a.put o.dst v) w') : wpList P ops Q (o :: rest) a w := by
  refine wpList_step fun K hK => ?_
  rw [if_pos hw]
  unfold Oper.wp
  rw [hx]
  exact hK _ _ h
def ZH : Array Value := hc Z8 Zl64 0
def sumL (B : List Int) : List Int := keyL (hbk ((B ++ padL B.length).length / 64) F0 (B ++ padL B.length))
theorem sumL_len (B : List Int) : (sumL B).length = 32 := keyL_len _
def Fst (w : World) : Prop := w.rangeAt 0 0 (F0.map (Value.int .u32))
theorem Fst.gr {w v : World} (h : Fst w) (k : Gr w v) : Fst v := fun j x hj => k.cell (h j x hj)
def News (w : World) (r : Ending) (w' : World) : Prop := ∃ g, r = .returned (.pointer (some ⟨g, 0, none⟩)) ∧ w.heap.size ≤ g ∧ H g [] w' ∧ Gr w w'
theorem Tryd.infoH : (Tryd.prog.info? 152).map (·.size) = some 73 := by kernel_rfl
theorem new_ok (w : World) (hF : Fst w) : Calls Tryd.prog 93 #[] w (News w) := by
  obtain ⟨T, hT⟩ : ∃ T, T = News w := ⟨_, rfl⟩
  rw [← hT]
  replace hT := hide hT
  go_enter Tryd.func93, Tryd.ntmps93
  go_upto_region 1 with fail
  refine wp_region_lit ?_
  refine list_val (.agg (uc F0)) (by kernel_rfl) (exec_row _ 148 (.global 0) rfl 0 0 (by kernel_rfl) (F0.map (Value.int .u32)) _ hF Tryd.underlying148 rfl (by rw [Tryd.infoS]; rfl)) ?_
  simp only [nrm]
  refine list_val (.agg (hc F0 Zl64 0)) (by kernel_rfl) (by kernel_rfl) ?_
  simp only [nrm]
  iterate 2 (refine wpList_step fun K hK => ?_; replace hK := hide hK; go_simp; refine unhide hK _ _ ?_; clear hK K)
  refine wpList_nil ?_
  have hP : Hid (News w (.returned (.pointer (some ⟨w.heap.size, 0, none⟩))) (w.alloc (.cells (hc F0 Zl64 0) 152 (0, 0)))) :=
    ⟨w.heap.size, rfl, Nat.le_refl _, ⟨Zl64, rfl, (by intro x hx; have := List.eq_of_mem_replicate hx; omega), blk_new _ _, rfl⟩, (Gr.refl w).alloc _⟩
  go_wp2_with fail
  rw [unhide hT]
  exact unhide hP
def Summed (B : List Int) (w : World) (r : Ending) (w' : World) : Prop := r = .returned (.agg (kc (sumL B))) ∧ Gr w w'
set_option maxHeartbeats 2000000 in
theorem hsum_ok (g : Nat) (B : List Int) (hbig : B.length < 1152921504606846000) (w : World) (hB : H g B w) : Calls Tryd.prog 95 #[.pointer (some ⟨g, 0, none⟩)] w (Summed B w) := by
  obtain ⟨T, hT⟩ : ∃ T, T = Summed B w := ⟨_, rfl⟩
  rw [← hT]
  replace hT := hide hT
  replace hB := hide hB
  go_enter Tryd.func95, Tryd.ntmps95
  go_upto_region 3 with fail
  have hL := (Bl.nil w).new #[.int .u8 0, .int .u8 0, .int .u8 0, .int .u8 0, .int .u8 0, .int .u8 0, .int .u8 0, .int .u8 0, .int .u8 0, .int .u8 0, .int .u8 0, .int .u8 0, .int .u8 0, .int .u8 0, .int .u8 0, .int .u8 0, .int .u8 0, .int .u8 0, .int .u8 0, .int .u8 0, .int .u8 0, .int .u8 0, .int .u8 0, .int .u8 0, .int .u8 0, .int .u8 0, .int .u8 0, .int .u8 0, .int .u8 0, .int .u8 0, .int .u8 0, .int .u8 0] 128
  replace hB := (unhide hB).gr ((Gr.refl w).alloc (.cells #[.int .u8 0, .int .u8 0, .int .u8 0, .int .u8 0, .int .u8 0, .int .u8 0, .int .u8 0, .int .u8 0, .int .u8 0, .int .u8 0, .int .u8 0, .int .u8 0, .int .u8 0, .int .u8 0, .int .u8 0, .int .u8 0, .int .u8 0, .int .u8 0, .int .u8 0, .int .u8 0, .int .u8 0, .int .u8 0, .int .u8 0, .int .u8 0, .int .u8 0, .int .u8 0, .int .u8 0, .int .u8 0, .int .u8 0, .int .u8 0, .int .u8 0, .int .u8 0] 128))
  simp only [List.nil_append] at hL
  generalize World.alloc _ _ = u1 at *
  replace hL : Bl w [⟨w.heap.size, kc Z32, 128⟩] u1 := hL
  obtain ⟨l, hl, hlB, hH, hlt⟩ := hB
  have hSl : (hbk (B.length / 64) F0 B).length = 8 := hbk_len _ _ rfl _
  obtain ⟨c, hc0⟩ : ∃ c, c = hc (hbk (B.length / 64) F0 B) l B.length := ⟨_, rfl⟩
  have hcs : c.size = 73 := by rw [hc0]; unfold hc; rw [List.size_toArray, hcl_len _ _ _ hSl hl]
  have hc1 : c.all (·.oneCell') = true := by rw [hc0]; unfold hc hcl; simp [Value.oneCell']
  have hB : Hid (∀ v, v.heap[u1.heap.size]? = some (.cells c 152 (0, 0)) → H u1.heap.size B v) := fun v hv => ⟨l, hl, hlB, by rw [← hc0]; exact hv, hlt⟩
  rw [← hc0] at hH
  clear hlt
  refine wp_region_lit ?_
  iterate 2 (refine wpList_step fun K hK => ?_; replace hK := hide hK; go_simp; refine unhide hK _ _ ?_; clear hK K)
  refine list_val (.agg c) (by kernel_rfl) (exec_arr _ 152 (.tmp 8) rfl g (by kernel_rfl) c 152 _ hH Tryd.underlying152 rfl (by rw [Tryd.infoH, hcs])) ?_
  simp only [nrm]
  refine list_valw (.pointer (some ⟨u1.heap.size, 0, none⟩)) (u1.alloc (.cells ZH 152 (0, 0))) (by kernel_rfl) (by kernel_rfl) ?_
  simp only [nrm]
  replace hL := hL.new ZH 152
  have hne : u1.heap.size ≠ g := by have := lt_of_block hH; omega
  replace hH := ((Gr.refl u1).alloc (.cells ZH 152)).blk hH
  simp only [List.cons_append, List.nil_append] at hL
  generalize u1.heap.size = ge at *
  generalize World.alloc _ _ = u2 at *
  refine list_store 152 (.tmp 3) (.tmp 9) ge c 152 ZH (by kernel_rfl) rfl (by kernel_rfl) (by kernel_rfl) (hL.get 1 (x := ⟨ge, ZH, 152⟩) rfl) (by rw [Tryd.infoH, hcs]) (by rw [hcs]; rfl) hc1 ?_
  replace hL := hL.set 1 (x := ⟨ge, ZH, 152⟩) rfl c
  simp only [List.set_cons_zero, List.set_cons_succ] at hL
  replace hH := (setRow_other u2 ge g c (fun e => hne e.symm)).trans hH
  generalize World.setRow _ _ _ = u3 at *
  simp only [nrm]
  refine wpList_nil ?_
  have hE := (unhide hB) u3 (hL.get 1 (x := ⟨ge, c, 152⟩) rfl)
  clear hB
  have hcc : u3.cell? ⟨g, 72, none⟩ = some (.int .i64 B.length) := cnt_cell (by rw [← hc0]; exact hH) hSl hl
  clear hH hc0
  replace hL := hide hL
  replace hE := hide hE
  go_upto_region 4 with fail
  refine wp_region_lit ?_
  iterate 4 (refine wpList_step fun K hK => ?_; replace hK := hide hK; go_simp; refine unhide hK _ _ ?_; clear hK K)
  refine list_call 104 #[.int .i64 B.length] (by kernel_rfl) (by kernel_rfl) ((pad_ok B.length (by omega) _).mono ?_)
  rintro r u4 ⟨gp, rfl, hgp, hP, hg⟩
  refine ⟨_, rfl, ?_⟩
  simp only [nrm]
  have hgp2 : gp ≠ ge := by have := lt_of_block ((unhide hL).get 1 (x := ⟨ge, c, 152⟩) rfl); have h2 : u3.heap.size ≤ gp := hgp; dsimp only at this; omega
  replace hL := (unhide hL).more hg
  replace hE := (unhide hE).gr hg
  clear hg hcc
  refine list_call 94 #[.pointer (some ⟨ge, 0, none⟩), .slice (some ⟨gp, 0, none⟩) (nz B.length + 9) (nz B.length + 9)] (by kernel_rfl) (by kernel_rfl) ((write_ok ge B (padL B.length) (padL_isB _) (by rw [padL_len]; unfold nz; omega) (some ⟨gp, 0, none⟩) (nz B.length + 9) (nz B.length + 9) (padL_len _) (Nat.le_refl _) (by unfold nz; omega) _ hE (.inr ⟨gp, 0, rfl, fun j hj => by rw [Nat.zero_add]; exact kc_cell hP j hj, hgp2⟩)).mono ?_)
  rintro r u5 ⟨rfl, hE2, hbt⟩
  refine ⟨_, rfl, ?_⟩
  simp only [nrm]
  refine wpList_nil ?_
  obtain ⟨l2, hl2, _, hH2, _⟩ := hE2
  replace hL := hL.but hbt 1 (x := ⟨ge, c, 152⟩) rfl rfl hH2
  simp only [List.set_cons_zero, List.set_cons_succ] at hL
  clear hbt hE
  replace hL := hide hL
  go_upto_region 5 with fail
  refine wp_region_lit ?_
  iterate 1 (refine wpList_step fun K hK => ?_; replace hK := hide hK; go_simp; refine unhide hK _ _ ?_; clear hK K)
  obtain ⟨s, hs⟩ : ∃ s, s = hbk ((B ++ padL B.length).length / 64) F0 (B ++ padL B.length) := ⟨_, rfl⟩
  have hsl : s.length = 8 := by rw [hs]; exact hbk_len _ _ rfl _
  rw [← hs] at hH2
  refine list_val (.agg (uc s)) (by kernel_rfl) (exec_row _ 148 (.tmp 16) rfl ge 0 (by kernel_rfl) (s.map (Value.int .u32)) _ (range_st hH2) Tryd.underlying148 rfl (by rw [Tryd.infoS, List.length_map, hsl])) ?_
  simp only [nrm]
  refine list_call 105 #[.agg (uc s)] (by kernel_rfl) (by kernel_rfl) ((key_ok s hsl _).mono ?_)
  rintro r u6 ⟨rfl, hg⟩
  refine ⟨_, rfl, ?_⟩
  simp only [nrm]
  replace hL := (unhide hL).more hg
  have hkl : (keyL s).length = 32 := keyL_len s
  have hks : keyL s = sumL B := by rw [hs]; rfl
  clear hH2 hg hs
  generalize keyL s = m at *
  generalize hc _ _ _ = ce at *
  refine list_store 128 (.tmp 2) (.tmp 18) w.heap.size (kc m) 128 (kc Z32) (by kernel_rfl) rfl (by kernel_rfl) (by kernel_rfl) (hL.get 0 (x := ⟨w.heap.size, kc Z32, 128⟩) rfl) (by rw [Tryd.infoKey, kc_size, hkl]) ((show (kc Z32).size = 32 from rfl).trans ((kc_size _).trans hkl).symm) (kc_one _) ?_
  replace hL := hL.set 0 (x := ⟨w.heap.size, kc Z32, 128⟩) rfl (kc m)
  simp only [List.set_cons_zero, List.set_cons_succ] at hL
  generalize World.setRow _ _ _ = u7 at *
  simp only [nrm]
  refine wpList_nil ?_
  go_wp2_with fail
  rw [unhide hT]
  exact bodyPost_ret (v := .agg (kc m)) (results_cell_row Tryd.results95 _ _ w.heap.size 128 (kc m) (0, 0) _ rfl (hL.get 0 (x := ⟨w.heap.size, kc m, 128⟩) rfl) Tryd.underlying128 rfl (by rw [Tryd.infoKey, kc_size, hkl])) rfl ⟨by rw [hks], hL.gr⟩
def Sl (w : World) (a : Option Addr) (B : List Int) : Prop := B = [] ∨ ∃ p o, a = some ⟨p, o, none⟩ ∧ At w p o B
theorem Sl.gr {w v : World} {a : Option Addr} {B : List Int} (h : Sl w a B) (k : Gr w v) : Sl v a B := by
  rcases h with h | ⟨p, o, h1, h2⟩
  · exact .inl h
  · exact .inr ⟨p, o, h1, h2.gr k⟩
theorem Sl.far {w v : World} {a : Option Addr} {B : List Int} (h : Sl w a B) (k : Gr w v) {g : Nat} (hg : w.heap.size ≤ g) : SlX g v a B := by
  rcases h with h | ⟨p, o, h1, h2⟩
  · exact .inl h
  · rcases Nat.eq_zero_or_pos B.length with h0 | h0
    · exact .inl (List.eq_nil_of_length_eq_zero h0)
    · exact .inr ⟨p, o, h1, h2.gr k, by have := lt_of_cell (h2 0 h0); omega⟩
set_option maxHeartbeats 2000000 in
theorem sum_ok (B : List Int) (hb : IsB B) (n : Nat) (hn : B.length = n) (hbig : n < 1152921504606846000) (a : Option Addr) (cap : Nat) (hcap : n ≤ cap) (hcb : cap < 9223372036854775808) (w : World) (hF : Fst w) (hA : Sl w a B) :
    Calls Tryd.prog 79 #[.slice a n cap] w (Summed B w) := by
  obtain ⟨T, hT⟩ : ∃ T, T = Summed B w := ⟨_, rfl⟩
  rw [← hT]
  replace hT := hide hT
  replace hF := hide hF
  replace hA := hide hA
  replace hb := hide hb
  go_enter Tryd.func79, Tryd.ntmps79
  go_upto_region 1 with fail
  have hL := (Bl.nil w).new #[.int .u8 0, .int .u8 0, .int .u8 0, .int .u8 0, .int .u8 0, .int .u8 0, .int .u8 0, .int .u8 0, .int .u8 0, .int .u8 0, .int .u8 0, .int .u8 0, .int .u8 0, .int .u8 0, .int .u8 0, .int .u8 0, .int .u8 0, .int .u8 0, .int .u8 0, .int .u8 0, .int .u8 0, .int .u8 0, .int .u8 0, .int .u8 0, .int .u8 0, .int .u8 0, .int .u8 0, .int .u8 0, .int .u8 0, .int .u8 0, .int .u8 0, .int .u8 0] 128
  simp only [List.nil_append] at hL
  generalize World.alloc _ _ = u1 at *
  replace hL : Bl w [⟨w.heap.size, kc Z32, 128⟩] u1 := hL
  replace hF := (unhide hF).gr hL.gr
  refine wp_region_lit ?_
  refine list_call 93 #[] (by kernel_rfl) (by kernel_rfl) ((new_ok _ hF).mono ?_)
  rintro r u2 ⟨g, rfl, hg0, hH, hg⟩
  refine ⟨_, rfl, ?_⟩
  simp only [nrm]
  have hne : w.heap.size ≠ g := by have := lt_of_block (hL.get 0 (x := ⟨w.heap.size, kc Z32, 128⟩) rfl); dsimp only at this; omega
  have hgw : w.heap.size ≤ g := Nat.le_trans hL.gr.size hg0
  replace hL := hL.more hg
  clear hg hF
  iterate 1 (refine wpList_step fun K hK => ?_; replace hK := hide hK; go_simp; refine unhide hK _ _ ?_; clear hK K)
  refine wpList_nil ?_
  have hX := (unhide hA).far hL.gr hgw
  replace hL := hide hL
  replace hX := hide hX
  replace hH := hide hH
  go_upto_region 2 with fail
  refine wp_region_lit ?_
  iterate 2 (refine wpList_step fun K hK => ?_; replace hK := hide hK; go_simp; refine unhide hK _ _ ?_; clear hK K)
  refine list_call 94 #[.pointer (some ⟨g, 0, none⟩), .slice a n cap] (by kernel_rfl) (by kernel_rfl) ((write_ok g [] B (unhide hb) (by rw [hn]; simp; omega) a n cap hn hcap hcb _ (unhide hH) (unhide hX)).mono ?_)
  rintro r u3 ⟨rfl, hE2, hbt⟩
  refine ⟨_, rfl, ?_⟩
  simp only [nrm]
  refine wpList_nil ?_
  rw [List.nil_append] at hE2
  have hL3 : Bl w [⟨w.heap.size, kc Z32, 128⟩] u3 := ⟨hbt.gr (unhide hL).gr hgw, (fun x hx => by
    have hx2 : x = ⟨w.heap.size, kc Z32, 128⟩ := by simpa using hx
    subst hx2
    exact ⟨hbt.blk ((unhide hL).get 0 (x := ⟨w.heap.size, kc Z32, 128⟩) rfl) hne, Nat.le_refl _⟩), List.pairwise_singleton _ _⟩
  clear hL hX hH hbt
  have hL := hide hL3
  clear hL3
  replace hE2 := hide hE2
  go_upto_region 3 with fail
  refine wp_region_lit ?_
  iterate 1 (refine wpList_step fun K hK => ?_; replace hK := hide hK; go_simp; refine unhide hK _ _ ?_; clear hK K)
  refine list_call 95 #[.pointer (some ⟨g, 0, none⟩)] (by kernel_rfl) (by kernel_rfl) ((hsum_ok g B (by omega) _ (unhide hE2)).mono ?_)
  rintro r u6 ⟨rfl, hg⟩
  refine ⟨_, rfl, ?_⟩
  simp only [nrm]
  replace hL := (unhide hL).more hg
  have hkl : (sumL B).length = 32 := sumL_len B
  clear hg hE2
  obtain ⟨m, hm⟩ : ∃ m, m = sumL B := ⟨_, rfl⟩
  rw [← hm] at hkl
  rw [← hm]
  refine list_store 128 (.tmp 2) (.tmp 9) w.heap.size (kc m) 128 (kc Z32) (by kernel_rfl) rfl (by kernel_rfl) (by kernel_rfl) (hL.get 0 (x := ⟨w.heap.size, kc Z32, 128⟩) rfl) (by rw [Tryd.infoKey, kc_size, hkl]) ((show (kc Z32).size = 32 from rfl).trans ((kc_size _).trans hkl).symm) (kc_one _) ?_
  replace hL := hL.set 0 (x := ⟨w.heap.size, kc Z32, 128⟩) rfl (kc m)
  simp only [List.set_cons_zero, List.set_cons_succ] at hL
  generalize World.setRow _ _ _ = u7 at *
  simp only [nrm]
  refine wpList_nil ?_
  replace hm := hide hm
  go_wp2_with fail
  rw [unhide hT]
  exact bodyPost_ret (v := .agg (kc m)) (results_cell_row Tryd.results79 _ _ w.heap.size 128 (kc m) (0, 0) _ rfl (hL.get 0 (x := ⟨w.heap.size, kc m, 128⟩) rfl) Tryd.underlying128 rfl (by rw [Tryd.infoKey, kc_size, hkl])) rfl ⟨by rw [unhide hm], hL.gr⟩
def yn (x : Int) (n : Nat) : Int := x / 2 ^ (24 - 8 * n) % 256
theorem Sl.text {w : World} {a : Option Addr} {B : List Int} (h : Sl w a B) (n c : Nat) (hn : B.length = n) : (convert 32 9 (.slice a n c)).run Tryd.prog w = .ok (.string (strOfNums B)) w := by
  subst hn
  rcases h with rfl | ⟨p, o, rfl, h2⟩
  · rw [run_convert_bytes_string w 32 9 5 _ _ c Tryd.underlying32 Tryd.underlying5 Tryd.underlying9]
    cases a <;> simp [Conv.bytesToString, loadCells]
    all_goals rfl
  · exact run_convert_bytes_arg (P := Tryd.prog) w 32 5 Tryd.underlying32 Tryd.underlying5 p o _ c B rfl (fun i hi => h2 i hi) 9 Tryd.underlying9
def Ob (b : Nat) (w : World) (v : Value) (L : List Int) : Prop := w.ownsRow b 5 1 v L.length (L.map (Value.int .u8))
theorem Ob.gr {b : Nat} {w u : World} {v : Value} {L : List Int} (h : Ob b w v L) (k : Gr w u) : Ob b u v L := own_gr h k
theorem Ob.slice {b : Nat} {w : World} {v : Value} {L : List Int} (h : Ob b w v L) : ∃ a c, v = .slice a L.length c ∧ L.length ≤ c ∧ c ≤ maxLen ∧ Sl w a L := by
  rcases h.2 with ⟨h1, h2⟩ | ⟨g, cap, cur, h1, h2, h3, h4, h5, h6, h7⟩
  · have : L = [] := List.eq_nil_of_length_eq_zero h2
    subst this
    exact ⟨none, 0, h1, Nat.le_refl _, Nat.zero_le _, .inl rfl⟩
  · refine ⟨_, cap, h1, h4, h5, .inr ⟨g, 0, rfl, fun j hj => ?_⟩⟩
    rw [Nat.zero_add]
    refine cell_of h3 ?_
    rw [← Array.getElem?_toList]
    have e : (L.map (Value.int .u8))[j]? = some (.int .u8 (L.getD j 0)) := by simp [hj]
    rw [← h7, Nat.mul_one, List.getElem?_take, if_pos hj] at e
    exact e
theorem Ob.grown {b : Nat} {w u u' : World} {v : Value} {L : List Int} (h : Ob b u v L) (hb : w.heap.size ≤ b) (k : Gr w u) (g : u.grownBy u' v.ownBlock) : Gr w u' := by
  refine ⟨g.os.trans k.os, g.tape.trans k.tape, g.output.trans k.output, Nat.le_trans k.size g.size, fun i hi => (g.block i (Nat.lt_of_lt_of_le hi k.size) ?_).trans (k.block i hi)⟩
  intro e
  have := (World.ownsRow.lt h i e.symm).1
  omega
theorem app_bs {w : World} {ops : Array Oper} {rest : List Oper} {o : Oper} {a : Act} {Q : Exit → Act → World → Prop} (hw : Region.wanted o (yielded ops a.tmps) = true) (s x : Operand)
    (ho : o.op = .call { callee := .builtin .append, args := #[s, x], argTypes := #[32, 32] }) (b : Nat) (v : Value) (L : List Int) (hs : a.eval s = v) (hown : Ob b w v L)
    (sp : Option Addr) (n sc : Nat) (l : List Int) (hx : a.eval x = .slice sp n sc) (hn : l.length = n) (hsl : Sl w sp l) (hbig : L.length + n ≤ 180000000000000) (hB : b ≤ w.heap.size)
    (h : ∀ v' w', Ob b w' v' (L ++ l) → w.grownBy w' v.ownBlock → wpList Tryd.prog ops Q rest (a.put o.dst v') w') :
    wpList Tryd.prog ops Q (o :: rest) a w := by
  subst hn
  obtain ⟨i0, hi, hz0, hz1, hz2⟩ := info_parts Tryd.info5
  rw [wpList, if_pos hw]
  refine Or.inl ?_
  rcases hsl with rfl | ⟨p, q, rfl, hat⟩
  · obtain ⟨a', c', rfl, hc, _, _⟩ := hown.slice
    have hrun : (Builtin.append_ #[32, 32] o.type #[.slice a' L.length c', .slice sp 0 sc]).run Tryd.prog w = .ok (.slice a' L.length c') w := by
      cases a' <;> cases sp <;> simp [Builtin.append_, run_underlying Tryd.underlying32, sizeOf, typeInfo, hi, Builtin.lenOf, Builtin.firstCells, loadCells, loadCellsFrom, storeCells, hc]
    unfold Oper.wp
    simp [execOp, ho, resolve, invoke, builtin, hs, hx, hrun, Result.andThen]
    exact h _ _ (by rw [List.append_nil]; exact hown) (World.grownBy.refl _ _)
  · refine wp_append_own_wide w s x 32 ho b 5 i0 (.int .u8 0) 1 1 Tryd.underlying32 hi hz0 hz1 hz2 rfl (by decide) v L.length _ hs hown ⟨p, q, none⟩ l.length sc (l.map (Value.int .u8)) hx (by simp) ?_ ?_ (by unfold maxLen; omega) (by omega) hB ?_
    · intro j u hj
      have hjl : j < l.length := by have := (List.getElem?_eq_some_iff.1 hj).1; simpa using this
      rw [Addr.add_mid, hat j hjl]
      simp [hjl] at hj ⊢
      exact hj
    · intro u hu
      obtain ⟨y, _, rfl⟩ := List.mem_map.1 hu
      rfl
    · intro v' w' h1 h2 _
      refine h v' w' ?_ h2
      unfold Ob
      rw [List.length_append, List.map_append]
      exact h1
theorem blk_bytes {w : World} {b : Nat} (l : List Int) (hb : b ≤ w.heap.size) (h1 : l.length ≤ maxLen) : Ob b (w.alloc (.cells (kc l) 5 (0, 0))) (.slice (some ⟨w.heap.size, 0, none⟩) l.length l.length) l :=
  ⟨by simp, .inr ⟨w.heap.size, l.length, kc l, rfl, hb, blk_new _ _, Nat.le_refl _, h1, by rw [kc_size, Nat.mul_one], by unfold kc; rw [Nat.mul_one]; exact List.take_of_length_le (by simp)⟩⟩
end Go.Proofs.YtaoiejgjdmakjaaDoor

namespace Go.Proofs.YtaoiejgjdmakjaaDoor
open Go.RowKit
set_option maxRecDepth 1000000
set_option linter.unusedSimpArgs false
set_option linter.unusedVariables false
theorem Bl.left {w v : World} {L M : List Blk} (h : Bl w (L ++ M) v) : Bl w L v := ⟨h.gr, fun x hx => h.at_ x (List.mem_append_left _ hx), (List.pairwise_append.1 h.ne).1⟩
end Go.Proofs.YtaoiejgjdmakjaaDoor

namespace Go.Proofs.YtaoiejgjdmakjaaDoor
open Go.ChangeShapes Go.WideShapes Go.ChangeAt Go.RowKit
set_option maxRecDepth 100000
theorem own : ownKnob Tryd.prog.godebug = none := by kernel_rfl
theorem laidOut : laidOutB Tryd.prog = true := by kernel_rfl
theorem wf_byte {x : Int} (h : (Lit.int .u8 x).wf = true) : 0 ≤ x ∧ x < 256 := by
  have := bounds_u8 h
  omega
theorem gFirst : Tryd.prog.globalNamed "hollowtree/sha.first" = some 0 := by kernel_rfl
theorem tFirst : (Tryd.prog.globals[0]?).map (·.type) = some 148 := by kernel_rfl
def ud (l : List Int) : DataW Unit := .agg (l.map fun z => .lit (.int .u32 z))
theorem ud_inj {k l : List Int} (h : ud k = ud l) : k = l := by
  unfold ud at h
  have h1 : k.map (fun z => (DataW.lit (.int .u32 z) : DataW Unit)) = l.map (fun z => (DataW.lit (.int .u32 z) : DataW Unit)) := by simpa using h
  exact List.map_inj_right (fun x y e => by simpa using e) |>.1 h1
theorem laid_eq : (Rows.laid_hollowtree_sha_first : DataW Unit) = ud F0 := by kernel_rfl
theorem Tryd.cellsS : Tryd.prog.cellsOf 148 = 8 := by kernel_rfl
theorem Tryd.cellsU : Tryd.prog.cellsOf 81 = 1 := by kernel_rfl
theorem first_cells {enc : TypeId × Value → Unit} {W : World} {base fuel : Nat} {sp : TypeId → Bool} {held : Bool} {cs : List Value} {x : DataW Unit × List MemPlace} (h : DataW.trod enc Tryd.prog W base sp held fuel 148 cs = some x) :
    ∃ zs : List Int, cs = zs.map (Value.int .u32) ∧ x.1 = ud zs := by
  obtain ⟨xs, m, _, hx, hl, hxl, hh⟩ := DataW.trod_array Tryd.underlying148 h
  rw [Tryd.cellsS] at hl
  have hc : ∀ i, i < 8 → ∃ z, cs[i]? = some (.int .u32 z) ∧ xs[i]? = some (.lit (.int .u32 z), []) := by
    intro i hi
    have h1 := hh i hi
    rw [Tryd.cellsU, Nat.mul_one, List.getElem?_eq_getElem (by omega)] at h1
    obtain ⟨z, e, e2, _⟩ := DataW.trod_int Tryd.underlying81 h1
    refine ⟨z, ?_, ?_⟩
    · have h2 : ((cs.drop i).take 1)[0]? = some (.int .u32 z) := by rw [e]; rfl
      simpa using h2
    · rw [List.getElem?_eq_getElem (by omega), e2]
  refine ⟨cs.map (fun v => match v with | .int _ z => z | _ => 0), ?_, ?_⟩
  · apply List.ext_getElem?
    intro i
    rcases Nat.lt_or_ge i 8 with hi | hi
    · obtain ⟨z, h1, _⟩ := hc i hi
      simp [h1]
    · rw [List.getElem?_eq_none (by omega), List.getElem?_eq_none (by simp; omega)]
  · rw [hx]
    unfold ud
    show DataW.agg _ = DataW.agg _
    congr 1
    apply List.ext_getElem?
    intro i
    rcases Nat.lt_or_ge i 8 with hi | hi
    · obtain ⟨z, h1, h2⟩ := hc i hi
      simp [h1, h2]
    · rw [List.getElem?_eq_none (by simp; omega), List.getElem?_eq_none (by simp; omega)]
theorem first_laid {W : World} (h : laidMetH Tryd.prog [("hollowtree/sha.first", Rows.laid_hollowtree_sha_first)] W) : Fst W := by
  rw [MakeChecks.laidMetH_plain _ _ _ (by kernel_rfl)] at h
  obtain ⟨ps, ⟨g0, t0, cs0, f0, p0, q0, hg0, ht0, hv0, hd0, _, _⟩, _, _⟩ := h
  obtain rfl := Option.some.inj (gFirst.symm.trans hg0)
  obtain rfl := Option.some.inj (tFirst.symm.trans ht0)
  rw [laid_eq] at hd0
  obtain ⟨zs, e1, e2⟩ := first_cells hd0
  have e3 : F0 = zs := ud_inj e2
  subst e3
  intro j v hj
  rw [World.var?_cell hg0 hv0, Nat.zero_add, ← Array.getElem?_toList, e1]
  exact hj
theorem open_word {W : World} {base : Nat} {v : Value} {H : Type} {enc : TypeId × Value → H} {d : DataW H} {p : List MemPlace} (hv : Value.okWide Tryd.prog W .any base 3 v) (h : DataW.Trod enc Tryd.prog W 0 (fun _ => true) true 3 v d p) : ∃ n, v = .int .i64 n ∧ -9223372036854775808 ≤ n ∧ n < 9223372036854775808 := by
  obtain ⟨n, h1, _, _, h4⟩ := open_int Tryd.underlying3 hv h
  have := bounds_i64 h4
  exact ⟨n, h1, by omega⟩
theorem Tryd.bytes5 : Tryd.prog.bytesOf 5 = 1 := by kernel_rfl
theorem open_bytes {H : Type} {enc : TypeId × Value → H} {W : World} {a : Option Addr} {len cap : Nat} {d : DataW H} {p : List MemPlace}
    (h : DataW.Trod enc Tryd.prog W 0 (fun _ => true) true 32 (.slice a len cap) d p) (hw : ∀ elems spare, d = .slice elems spare → (elems.length + spare.length) * Tryd.prog.bytesOf 5 ≤ reachBytes) :
    ∃ l, IsB l ∧ l.length = len ∧ Sl W a l ∧ len ≤ cap ∧ cap ≤ 140737488351232 := by
  obtain ⟨fuel, hf⟩ := h
  rcases open_ints Tryd.underlying32 Tryd.underlying5 (by kernel_rfl) hf with ⟨hcs, _⟩ | ⟨x, l, c, zs, hcs, _, hl, hm, hz, hx, hcell, hwz⟩
  · simp [Value.cells] at hcs
    obtain ⟨rfl, rfl, rfl⟩ := hcs
    exact ⟨[], (by intro x hx; cases hx), rfl, .inl rfl, by omega, by omega⟩
  · simp [Value.cells] at hcs
    obtain ⟨rfl, rfl, rfl⟩ := hcs
    simp only [Prod.mk.injEq] at hx
    simp only [if_true] at hz
    have := hw _ _ hx.1
    rw [Tryd.bytes5] at this
    simp only [lits, List.length_map, List.length_take, List.length_drop, reachBytes] at this
    refine ⟨zs.take len, fun y hy => wf_byte (hwz y (List.mem_of_mem_take hy)), by simp; omega, ?_, by omega, by omega⟩
    rcases Nat.eq_zero_or_pos len with h0 | h0
    · left
      subst h0
      rfl
    · right
      obtain ⟨b, off, spot⟩ := x
      have hspot : spot = none := by simpa [Addr.add] using World.cell?_spot (hcell 0 (by omega))
      subst hspot
      refine ⟨b, off, rfl, fun i hi => ?_⟩
      have hi2 : i < len := by rw [List.length_take] at hi; omega
      have := hcell i (by omega)
      rw [Addr.add_mid] at this
      rw [this, List.getD_eq_getElem?_getD, List.getD_eq_getElem?_getD, List.getElem?_take, if_pos hi2]
end Go.Proofs.YtaoiejgjdmakjaaDoor

namespace Go.Proofs.YtaoiejgjdmakjaaDoor
open Go.RowKit
set_option maxRecDepth 100000
section
variable {P : Program} {md : Region.Mode} {ops : Array Oper} {Q : Exit → Act → World → Prop} {S : World → Prop}
theorem float1 (W : World) (T : Value → World → Prop) (A : Value → Act) (F : Bool → Array Bool) (i1 c : Nat) (all : Bool)
    (hS : ∀ v, Gr W v → S v) (hchk : chkM1 md ops F i1 c all = true) (hF : ∀ b1, (F b1).setIfInBounds i1 true = F true)
    (new1 : ∀ q w, Gr W w → ∀ K : Act → World → Prop, (∀ v w', Gr w w' → T v w' → K (A v) w') → wpOp P ops Q i1 K (A q) w)
    (next : ∀ b q w, Gr W w → (b = true → T q w) → (all = true → b = true) → wpOp P ops Q c (fun a' w' => S w' ∧ Any P md ops Q S ((F b).setIfInBounds c true) a' w') (A q) w)
    {l : Array Bool} {a : Act} {w : World} (h : ∃ b q, l = F b ∧ a = A q ∧ Gr W w ∧ (b = true → T q w)) : Any P md ops Q S l a w := by
  refine any_stage (fun l a w => ∃ b q, l = F b ∧ a = A q ∧ Gr W w ∧ (b = true → T q w)) ?_ h
  rintro l a w ⟨b, q, rfl, rfl, gr, hT⟩
  obtain ⟨hne, hr⟩ := chkM1_spec hchk b
  refine ⟨hne, fun i hi => ?_⟩
  rcases hr i hi with ⟨rfl, e⟩ | ⟨rfl, e⟩
  · exact new1 q w gr _ (fun v w' g t => ⟨hS _ (gr.trans g), .inl ⟨true, v, hF b, rfl, gr.trans g, fun _ => t⟩⟩)
  · exact wpOp_mono (fun a' w' k => ⟨k.1, .inr k.2⟩) (next b q w gr hT e)
theorem float_first (T : Value → World → Prop) (p : Nat) (F : Bool → Array Bool) (i1 c : Nat) (all : Bool) {l : Array Bool} {a : Act} {W : World} (hl : l = F false) (ha : fw1 a p (a.tmps.getD p undef) = a)
    (hS : ∀ v, Gr W v → S v) (hchk : chkM1 md ops F i1 c all = true) (hF : ∀ b1, (F b1).setIfInBounds i1 true = F true)
    (new1 : ∀ q w, Gr W w → ∀ K : Act → World → Prop, (∀ v w', Gr w w' → T v w' → K (fw1 a p v) w') → wpOp P ops Q i1 K (fw1 a p q) w)
    (next : ∀ b q w, Gr W w → (b = true → T q w) → (all = true → b = true) → wpOp P ops Q c (fun a' w' => S w' ∧ Any P md ops Q S ((F b).setIfInBounds c true) a' w') (fw1 a p q) w) : Any P md ops Q S l a W :=
  float1 W T (fw1 a p) F i1 c all hS hchk hF new1 next ⟨false, _, hl, ha.symm, Gr.refl W, fun e => by cases e⟩
theorem float_again (T : Value → World → Prop) (p : Nat) (F : Bool → Array Bool) (i1 c : Nat) (all : Bool) {b : Bool} {q : Value} {l : Array Bool} {a : Act} {W : World} (hl : l = F b) (ha : fw1 a p q = a) (hT : b = true → T q W)
    (hS : ∀ v, Gr W v → S v) (hchk : chkM1 md ops F i1 c all = true) (hF : ∀ b1, (F b1).setIfInBounds i1 true = F true)
    (new1 : ∀ q w, Gr W w → ∀ K : Act → World → Prop, (∀ v w', Gr w w' → T v w' → K (fw1 a p v) w') → wpOp P ops Q i1 K (fw1 a p q) w)
    (next : ∀ b q w, Gr W w → (b = true → T q w) → (all = true → b = true) → wpOp P ops Q c (fun a' w' => S w' ∧ Any P md ops Q S ((F b).setIfInBounds c true) a' w') (fw1 a p q) w) : Any P md ops Q S l a W :=
  float1 W T (fw1 a p) F i1 c all hS hchk hF new1 next ⟨b, q, hl, ha.symm, Gr.refl W, hT⟩
theorem step_val {o : Oper} {a : Act} {w : World} {K : Act → World → Prop} (v : Value) (w' : World) (hw : Region.wanted o (yielded ops a.tmps) = true) (hx : (execOp a.eval o).run P w = .ok (.value v) w') (h : K (a.put o.dst v) w') :
    if Region.wanted o (yielded ops a.tmps) = true then Oper.wp P o a w K Q else K (a.put o.dst undef) w := by
  rw [if_pos hw]
  unfold Oper.wp
  rw [hx]
  exact h
end
end Go.Proofs.YtaoiejgjdmakjaaDoor

namespace Go.Proofs.YtaoiejgjdmakjaaDoor
open Go.RowKit
set_option maxRecDepth 100000
set_option linter.unusedSimpArgs false
set_option linter.unusedVariables false
theorem kc_at {w : World} {g : Nat} {l : List Int} {t : TypeId} (h : w.heap[g]? = some (.cells (kc l) t (0, 0))) : At w g 0 l := fun j hj => by rw [Nat.zero_add]; exact kc_cell h j hj
theorem results_cell_tmp {P : Program} {fn : Func} {p q : Tmp} {ty : TypeId} (h : fn.results = #[.cell p ty, .tmp q]) (tmps : Array Value) (w : World) (g : Nat) (t : TypeId) (cs : Array Value) (fr : Nat × Nat) (d : TypeDesc)
    (hp : tmps.getD p undef = .pointer (some ⟨g, 0, none⟩)) (v : Value) (hq : tmps.getD q undef = v) (hg : w.heap[g]? = some (.cells cs t fr))
    (hu : P.underlying ty = some d) (hd : (match d with | .struct _ | .array _ _ => true | _ => false) = true) (hi : (P.info? ty).map (·.size) = some cs.size) :
    (results fn tmps).run P w = .ok (.tuple #[.agg cs, v]) w := by
  have hp' : tmps[p]?.getD undef = .pointer (some ⟨g, 0, none⟩) := by simpa using hp
  have hq' : tmps[q]?.getD undef = v := by simpa using hq
  simp [results, h, hp', hq', asAddr, run_loadVar_row w g t ty cs fr d hg hu hd hi]
theorem exec_i64 {op : Oper} {a : Act} (w : World) (x : Operand) (ho : op.op = .load 3 x) (g i : Nat) (hx : a.eval x = .pointer (some ⟨g, i, none⟩)) (v : Int) (hc : w.cell? ⟨g, i, none⟩ = some (.int .i64 v)) : (execOp a.eval op).run Tryd.prog w = .ok (.value (.int .i64 v)) w := by
  unfold execOp
  simp only [ho, hx, Instr.loadAt, Instr.sureAddr, Sem.run_bind, Sem.run_pure, Result.andThen_ok]
  go_simp
theorem exec_b {op : Oper} {a : Act} (w : World) (x : Operand) (ho : op.op = .load 5 x) (g i : Nat) (hx : a.eval x = .pointer (some ⟨g, i, none⟩)) (v : Int) (hc : w.cell? ⟨g, i, none⟩ = some (.int .u8 v)) : (execOp a.eval op).run Tryd.prog w = .ok (.value (.int .u8 v)) w := by
  unfold execOp
  simp only [ho, hx, Instr.loadAt, Instr.sureAddr, Sem.run_bind, Sem.run_pure, Result.andThen_ok]
  go_simp
theorem list_ext {A B : List Int} (hl : A.length = B.length) (h : ∀ i, i < A.length → A.getD i 0 = B.getD i 0) : A = B := by
  apply List.ext_getElem hl
  intro i h1 h2
  have := h i h1
  simpa [List.getD_eq_getElem?_getD, List.getElem?_eq_getElem h1, List.getElem?_eq_getElem h2] using this
theorem Bt.setCell {g : Nat} (w : World) (o : Nat) (x : Value) : Bt g w (w.setCell ⟨g, o, none⟩ x) := setCells_bt [x] w g o
theorem Bt.row_self {b : Nat} {w u : World} (h : Bt b w u) (cs : Array Value) : Bt b w (u.setRow b cs) :=
  h.trans ⟨rfl, rfl, rfl, by simp, fun i _ hn => setRow_other u b i cs hn⟩
theorem Bl.add {w v : World} {L : List Blk} (h : Bl w L v) (x : Blk) (hx : v.heap[x.g]? = some x.obj) (hw : w.heap.size ≤ x.g) (hn : ∀ y ∈ L, y.g ≠ x.g) : Bl w (L ++ [x]) v := by
  refine ⟨h.gr, fun y hy => ?_, List.pairwise_append.2 ⟨h.ne, List.pairwise_singleton _ _, fun y hy z hz => ?_⟩⟩
  · rcases List.mem_append.1 hy with hy | hy
    · exact h.at_ y hy
    · rw [List.mem_singleton] at hy
      subst hy
      exact ⟨hx, hw⟩
  · rw [List.mem_singleton] at hz
    subst hz
    exact hn y hy
end Go.Proofs.YtaoiejgjdmakjaaDoor

namespace Go.Proofs.YtaoiejgjdmakjaaDoor
open Go.RowKit
section
variable {P : Program} {md : Region.Mode} {ops : Array Oper} {Q : Exit → Act → World → Prop} {S : World → Prop} {c : Nat}
def wpAnyC (P : Program) (md : Region.Mode) (ops : Array Oper) (Q : Exit → Act → World → Prop) (S : World → Prop) (c : Nat) : Nat → Array Bool → Act → World → Prop
  | 0, l, a, w => Region.ready md ops l = [] ∧ Q .normal a w
  | f + 1, l, a, w => (Region.ready md ops l = [] → Q .normal a w) ∧
      ∀ i ∈ Region.ready md ops l, wpOp P ops Q i (fun a' w' => ((l.setIfInBounds i true).getD c false = false → S w') ∧ wpAnyC P md ops Q S c f (l.setIfInBounds i true) a' w') a w
theorem wpAny_of_C : ∀ (f : Nat) (l : Array Bool) (a : Act) (w : World), wpAnyC P md ops Q S c f l a w → wpAny P md ops Q f l a w
  | 0, _, _, _, h => h
  | f + 1, _, _, _, h => ⟨h.1, fun i hi => wpOp_mono (fun a' w' h' => wpAny_of_C f _ a' w' h'.2) (h.2 i hi)⟩
theorem wpAnyC_free : ∀ (f : Nat) (l : Array Bool) (a : Act) (w : World), l.getD c false = true → wpAnyH P md ops Q (fun _ => True) f l a w → wpAnyC P md ops Q S c f l a w
  | 0, _, _, _, _, h => h
  | f + 1, l, _, _, hl, h => ⟨h.1, fun i hi => wpOp_mono (fun a' w' h' => ⟨fun e => (by rw [getD_set_true hl] at e; cases e), wpAnyC_free f _ a' w' (getD_set_true hl) h'.2⟩) (h.2 i hi)⟩
theorem wpAnyC_first {i : Nat} {oi oc : Oper} {v : Value} (hi : ops[i]? = some oi) (hsel : ∀ (j : Nat) (o : Oper) cs b, ops[j]? = some o → o.op ≠ .select cs b)
    (hQ : ∀ c a w, Q (.panic c) (a.put oi.dst v) w → Q (.panic c) a w) (hci : i ≠ c) (T : World → Prop) (hTS : ∀ w, S w → T w) (hoc : ops[c]? = some oc) (hT : (∀ w, T w) ∨ ∃ e ∈ oc.after, Region.binds md e = true ∧ e.on = i) :
    ∀ (fuel : Nat) (listed : Array Bool) (a : Act) (w : World),
      (∀ j oj, ops[j]? = some oj → j ≠ i → listed.getD j true = false → (∀ e ∈ oj.after, Region.binds md e = true → e.on ≠ i) → oi.apart ops oj = true) →
      i ∈ Region.ready md ops listed → YieldsIf P ops T oi v a → (listed.getD c false = false → S w) → ((∀ w, T w) ∨ listed.getD c false = false) →
      wpAnyC P md ops Q S c fuel (listed.setIfInBounds i true) (a.put oi.dst v) w → wpAnyC P md ops Q S c (fuel + 1) listed a w := by
  intro fuel
  have now : ∀ (l : Array Bool) (w : World), (l.getD c false = false → S w) → ((∀ w, T w) ∨ l.getD c false = false) → T w := fun l w hS hB => by
    rcases hB with h | h
    · exact h w
    · exact hTS w (hS h)
  induction fuel with
  | zero =>
    intro listed a w _ hr hy hS hB H
    refine ⟨fun h => (by rw [h] at hr; cases hr), fun j hj => ?_⟩
    by_cases hji : j = i
    · subst hji
      exact hy.wpOp hi (now _ _ hS hB) ⟨fun e => hS (by rw [getD_set_ne false hci] at e; exact e), H⟩
    · have := ready_mono hj hji
      rw [H.1] at this
      cases this
  | succ fuel ih =>
    intro listed a w hfree hr hy hS hB H
    refine ⟨fun h => (by rw [h] at hr; cases hr), fun j hj => ?_⟩
    by_cases hji : j = i
    · subst hji
      exact hy.wpOp hi (now _ _ hS hB) ⟨fun e => hS (by rw [getD_set_ne false hci] at e; exact e), H⟩
    · have h1 := H.2 j (ready_mono hj hji)
      obtain ⟨hjun, oj, hoj, hall⟩ := mem_ready.1 hj
      have hnot : ∀ e ∈ oj.after, Region.binds md e = true → e.on ≠ i := fun e he hb heq => by
        have h1 := hall e he hb
        have h0 := (mem_ready.1 hr).1
        rw [heq] at h1
        rcases Nat.lt_or_ge i listed.size with h' | h'
        · simp [h'] at h0 h1; rw [h0] at h1; cases h1
        · simp [Array.getElem?_eq_none h'] at h1
      have h2 := wpOp_putIf hoj (hfree j oj hoj hji hjun hnot) (fun cs b => hsel i oi cs b hi) (fun cs b => hsel j oj cs b hoj) hQ hy h1
      have hfree' : ∀ k ok, ops[k]? = some ok → k ≠ i → (listed.setIfInBounds j true).getD k true = false →
          (∀ e ∈ ok.after, Region.binds md e = true → e.on ≠ i) → oi.apart ops ok = true := fun k ok hk hki hun hno => by
        refine hfree k ok hk hki ?_ hno
        by_cases hjk : j = k
        · subst hjk; exact hjun
        · rw [getD_set_ne true hjk] at hun; exact hun
      refine wpOp_mono (fun a' w' h3 => ?_) h2
      have hS' : (listed.setIfInBounds j true).getD c false = false → S w' := fun e => by
        refine h3.2.1 ?_
        rw [Array.setIfInBounds_comm _ _ (Ne.symm hji), getD_set_ne false hci]
        exact e
      have hB' : (∀ w, T w) ∨ (listed.setIfInBounds j true).getD c false = false := by
        rcases hB with h | h
        · exact .inl h
        · rcases hT with h' | ⟨e, he, hb, heq⟩
          · exact .inl h'
          · refine .inr ?_
            have hjc : j ≠ c := by
              rintro rfl
              rw [hoj] at hoc
              cases hoc
              exact hnot e he hb heq
            rw [getD_set_ne false hjc]
            exact h
      refine ⟨hS', ih (listed.setIfInBounds j true) a' w' hfree' (ready_mono hr (Ne.symm hji)) h3.1 hS' hB' ?_⟩
      rw [Array.setIfInBounds_comm _ _ hji]
      exact h3.2.2
def AnyC (P : Program) (md : Region.Mode) (ops : Array Oper) (Q : Exit → Act → World → Prop) (S : World → Prop) (c : Nat) (l : Array Bool) (a : Act) (w : World) : Prop :=
  ∀ fuel, (l.toList.filter (!·)).length ≤ fuel → wpAnyC P md ops Q S c fuel l a w
theorem anyC_start {id : Nat} {a : Act} {w : World} (c : Nat) (S : World → Prop) (hm : P.follows .mixedOrders = true) (h : AnyC P .any ops Q S c (Array.replicate ops.size false) a w.drew) : (Code.region id ops true).wp P Q a w := by
  refine wp_region_any hm (wpAny_of_C _ _ _ _ (h ops.size ?_))
  simp
def depB (md : Region.Mode) (ops : Array Oper) (c i : Nat) : Bool := ((ops[c]?).map (·.after.any fun e => Region.binds md e && e.on == i)).getD false
theorem anyC_take {i : Nat} {oi : Oper} {v : Value} {l : Array Bool} {a : Act} {w : World} (T : World → Prop) (hTS : ∀ w, S w → T w) (hT : (∀ w, T w) ∨ depB md ops c i = true) (hi : ops[i]? = some oi)
    (hs : Region.noSelect ops = true) (hf : Region.free md ops l i = true) (hr : rdB md ops l i = true) (hci : i ≠ c) (hl : l.getD c true = false) (hc : c < ops.size)
    (hQ : ∀ c a w, Q (.panic c) (a.put oi.dst v) w → Q (.panic c) a w) (hy : YieldsIf P ops T oi v a) (hS : S w)
    (h : AnyC P md ops Q S c (l.setIfInBounds i true) (a.put oi.dst v) w) : AnyC P md ops Q S c l a w := by
  intro fuel hfu
  have hm := rdB_mem hr
  have h1 := left_of (mem_ready.1 hm).1
  obtain ⟨f, rfl⟩ : ∃ f, fuel = f + 1 := ⟨fuel - 1, by omega⟩
  have hlc : l.getD c false = false := by
    rcases Nat.lt_or_ge c l.size with h' | h'
    · simp [h'] at hl ⊢
      exact hl
    · simp [Array.getElem?_eq_none h']
  refine wpAnyC_first hi (Region.noSelect_spec hs) hQ hci T hTS (Array.getElem?_eq_getElem hc) ?_ f l a w (Region.free_spec hi hf) hm hy (fun _ => hS) (.inr hlc) (h f (by omega))
  rcases hT with h | h
  · exact .inl h
  · refine .inr ?_
    unfold depB at h
    rw [Array.getElem?_eq_getElem hc] at h
    simp only [Option.map_some, Option.getD_some, Array.any_eq_true'] at h
    obtain ⟨e, he, h⟩ := h
    rw [Bool.and_eq_true] at h
    exact ⟨e, he, h.1, by simpa using h.2⟩
theorem anyC_last {o : Oper} {l : Array Bool} {a : Act} {w : World} (hr : Region.ready md ops l = [c]) (ho : ops[c]? = some o)
    (h : ∀ K' : Act → World → Prop, Shut (∀ a w, Any P md ops Q (fun _ => True) (l.setIfInBounds c true) a w → K' a w) → if Region.wanted o (yielded ops a.tmps) = true then Oper.wp P o a w K' Q else K' (a.put o.dst undef) w) : AnyC P md ops Q S c l a w := by
  intro fuel hfu
  have hm : c ∈ Region.ready md ops l := by rw [hr]; exact List.mem_cons_self
  have h1 := left_of (mem_ready.1 hm).1
  obtain ⟨f, rfl⟩ : ∃ f, fuel = f + 1 := ⟨fuel - 1, by omega⟩
  have hsz : c < l.size := by
    rcases Nat.lt_or_ge c l.size with h' | h'
    · exact h'
    · have := (mem_ready.1 hm).1
      simp [Array.getElem?_eq_none h'] at this
  have hlc : (l.setIfInBounds c true).getD c false = true := by simp [hsz]
  refine ⟨fun h => (by rw [h] at hr; cases hr), fun j hj => ?_⟩
  rw [hr] at hj
  obtain rfl : j = c := by simpa using hj
  refine wpOp_step ho (fun K' hK => h K' (fun a w hA => hK a w ⟨fun e => ?_, ?_⟩))
  · rw [hlc] at e
    cases e
  · exact wpAnyC_free f _ a w hlc (hA f (by omega))
end
section
variable {P : Program} {md : Region.Mode} {ops : Array Oper} {Q : Exit → Act → World → Prop} {S : World → Prop} {c : Nat}
theorem anyC_one {i : Nat} {o : Oper} {l : Array Bool} {a : Act} {w : World} (hr : Region.ready md ops l = [i]) (ho : ops[i]? = some o)
    (h : ∀ K' : Act → World → Prop, Shut (∀ a w, S w → (S w → AnyC P md ops Q S c (l.setIfInBounds i true) a w) → K' a w) → if Region.wanted o (yielded ops a.tmps) = true then Oper.wp P o a w K' Q else K' (a.put o.dst undef) w) : AnyC P md ops Q S c l a w := by
  intro fuel hfu
  have hm : i ∈ Region.ready md ops l := by rw [hr]; exact List.mem_cons_self
  have h1 := left_of (mem_ready.1 hm).1
  obtain ⟨f, rfl⟩ : ∃ f, fuel = f + 1 := ⟨fuel - 1, by omega⟩
  refine ⟨fun h => (by rw [h] at hr; cases hr), fun j hj => ?_⟩
  rw [hr] at hj
  obtain rfl : j = i := by simpa using hj
  exact wpOp_step ho (fun K' hK => h K' (fun a w hS hA => hK a w ⟨fun _ => hS, hA hS f (by omega)⟩))
end
end Go.Proofs.YtaoiejgjdmakjaaDoor

namespace Go.Proofs.YtaoiejgjdmakjaaDoor
open Go.RowKit
set_option maxRecDepth 100000
set_option linter.unusedSimpArgs false
set_option linter.unusedVariables false
structure Dk where
  safe : List (List Int)
  pend : List (Nat × List Int)
  dead : Bool
  left : Int
  ops : Nat
def BB (b : List Int) : Prop := b.length = 64 ∧ IsB b
structure Dk.Ok (D : Dk) (m : Nat) : Prop where
  blk : ∀ b ∈ D.safe, BB b
  pnd : ∀ x ∈ D.pend, x.1 < D.safe.length ∧ BB x.2
  lo1 : 1 ≤ D.safe.length
  hi1 : D.safe.length ≤ 512
  lo : -1 ≤ D.left
  hi : D.left < 9223372036854775808
  ops : D.ops ≤ m
  num : D.pend.length ≤ m
theorem Dk.Ok.up {D : Dk} {m k : Nat} (h : D.Ok m) (hk : m ≤ k) : D.Ok k := ⟨h.blk, h.pnd, h.lo1, h.hi1, h.lo, h.hi, Nat.le_trans h.ops hk, Nat.le_trans h.num hk⟩
def ZB : List Int := List.replicate 64 0
theorem ZB_bb : BB ZB := ⟨rfl, fun x hx => by have := List.eq_of_mem_replicate hx; omega⟩
def curL (S : List (List Int)) (P : List (Nat × List Int)) (i : Nat) : Nat → List Int
  | 0 => S.getD i []
  | k + 1 => if (P.getD k (0, [])).1 = i then (P.getD k (0, [])).2 else curL S P i k
def Dk.cur (D : Dk) (i : Nat) : List Int := curL D.safe D.pend i D.pend.length
def Dk.has (D : Dk) (i : Int) : Prop := 0 ≤ i ∧ i < (D.safe.length : Int)
instance (D : Dk) (i : Int) : Decidable (D.has i) := by unfold Dk.has; exact inferInstance
def Dk.readB (D : Dk) (i : Int) : List Int := if D.dead then ZB else if D.has i then D.cur i.toNat else ZB
def Dk.readE (D : Dk) (i : Int) : Int := if D.dead then 7 else if D.has i then 0 else 2
def Dk.doneD (D : Dk) : Dk := if D.left = 0 then { D with dead := true } else { D with left := if 0 < D.left then D.left - 1 else D.left, ops := D.ops + 1 }
def liv (S : List (List Int)) (P : List (Nat × List Int)) (keep : List Bool) : Nat → List (List Int)
  | 0 => S
  | k + 1 => if keep.getD k false then (liv S P keep k).set (P.getD k (0, [])).1 (P.getD k (0, [])).2 else liv S P keep k
def Dk.live (D : Dk) (keep : List Bool) : Dk := { D with safe := liv D.safe D.pend keep D.pend.length, pend := [] }
def Dk.all (D : Dk) : List Bool := List.replicate D.pend.length true
def Dk.writeD (D : Dk) (i : Int) (b : List Int) : Dk := if D.dead then D else if D.has i then (if D.left = 0 then D.doneD else { D.doneD with pend := D.doneD.pend ++ [(i.toNat, b)] }) else D
def Dk.writeE (D : Dk) (i : Int) : Int := if D.dead then 7 else if D.has i then (if D.left = 0 then 7 else 0) else 2
def Dk.syncD (D : Dk) : Dk := if D.dead then D else if D.left = 0 then D.doneD else D.doneD.live D.doneD.all
def Dk.syncE (D : Dk) : Int := if D.dead then 7 else if D.left = 0 then 7 else 0
def Dk.crashD (D : Dk) (keep : List Bool) : Dk := { D.live keep with dead := false, left := -1 }
def dk0 (n : Nat) : Dk := ⟨List.replicate n ZB, [], false, -1, 0⟩
theorem mem_of_getD {α : Type} {l : List α} {d : α} {i : Nat} (h : i < l.length) : l.getD i d ∈ l := by
  rw [List.getD_eq_getElem?_getD, List.getElem?_eq_getElem h]
  exact List.getElem_mem h
theorem curL_bb {D : Dk} {m : Nat} (h : D.Ok m) (i : Nat) (hi : i < D.safe.length) : ∀ k, k ≤ D.pend.length → BB (curL D.safe D.pend i k)
  | 0, _ => h.blk _ (mem_of_getD hi)
  | k + 1, hk => by
    unfold curL
    split
    · exact (h.pnd _ (mem_of_getD (by omega))).2
    · exact curL_bb h i hi k (by omega)
theorem Dk.cur_bb {D : Dk} {m : Nat} (h : D.Ok m) (i : Nat) (hi : i < D.safe.length) : BB (D.cur i) := curL_bb h i hi _ (Nat.le_refl _)
theorem Dk.readB_bb {D : Dk} {m : Nat} (h : D.Ok m) (i : Int) : BB (D.readB i) := by
  unfold Dk.readB
  split
  · exact ZB_bb
  · split
    · rename_i h2
      exact Dk.cur_bb h _ (by unfold Dk.has at h2; omega)
    · exact ZB_bb
theorem liv_len (S : List (List Int)) (P : List (Nat × List Int)) (keep : List Bool) : ∀ k, (liv S P keep k).length = S.length
  | 0 => rfl
  | k + 1 => by
    unfold liv
    split
    · rw [List.length_set, liv_len S P keep k]
    · exact liv_len S P keep k
theorem mem_set_or {α : Type} {l : List α} {i : Nat} {x y : α} (h : y ∈ l.set i x) : y = x ∨ y ∈ l := by
  rcases List.mem_or_eq_of_mem_set h with h | h
  · exact .inr h
  · exact .inl h
theorem liv_bb {S : List (List Int)} {P : List (Nat × List Int)} (hS : ∀ b ∈ S, BB b) (hP : ∀ x ∈ P, BB x.2) (keep : List Bool) : ∀ k, k ≤ P.length → ∀ b ∈ liv S P keep k, BB b
  | 0, _ => hS
  | k + 1, hk => by
    intro b hb
    unfold liv at hb
    split at hb
    · rcases mem_set_or hb with rfl | h
      · exact hP _ (mem_of_getD (by omega))
      · exact liv_bb hS hP keep k (by omega) b h
    · exact liv_bb hS hP keep k (by omega) b hb
theorem Dk.Ok.done {D : Dk} {m : Nat} (h : D.Ok m) : D.doneD.Ok (m + 1) := by
  unfold Dk.doneD
  split
  · exact ⟨h.blk, h.pnd, h.lo1, h.hi1, h.lo, h.hi, by have := h.ops; show D.ops ≤ m + 1; omega, by have := h.num; show D.pend.length ≤ m + 1; omega⟩
  · refine ⟨h.blk, h.pnd, h.lo1, h.hi1, ?_, ?_, by have := h.ops; show D.ops + 1 ≤ m + 1; omega, by have := h.num; show D.pend.length ≤ m + 1; omega⟩
    · have h1 := h.lo
      dsimp only
      split <;> omega
    · have h1 := h.hi
      dsimp only
      split <;> omega
theorem Dk.Ok.live {D : Dk} {m : Nat} (h : D.Ok m) (keep : List Bool) : (D.live keep).Ok m := by
  unfold Dk.live
  refine ⟨?_, (fun x hx => by cases hx), ?_, ?_, h.lo, h.hi, h.ops, Nat.zero_le _⟩
  · exact liv_bb h.blk (fun x hx => (h.pnd x hx).2) keep _ (Nat.le_refl _)
  · show 1 ≤ (liv _ _ _ _).length
    rw [liv_len]; exact h.lo1
  · show (liv _ _ _ _).length ≤ 512
    rw [liv_len]; exact h.hi1
theorem Dk.Ok.write {D : Dk} {m : Nat} (h : D.Ok m) (i : Int) (b : List Int) (hb : BB b) : (D.writeD i b).Ok (m + 1) := by
  unfold Dk.writeD
  split
  · exact h.up (by omega)
  · split
    · rename_i h2
      split
      · exact h.done
      · rename_i h3
        have k := h.done
        have e : D.doneD.safe = D.safe ∧ D.doneD.pend = D.pend := by unfold Dk.doneD; split <;> exact ⟨rfl, rfl⟩
        refine ⟨k.blk, ?_, k.lo1, k.hi1, k.lo, k.hi, k.ops, ?_⟩
        · intro x hx
          rcases List.mem_append.1 hx with hx | hx
          · exact k.pnd x hx
          · rw [List.mem_singleton] at hx
            subst hx
            refine ⟨?_, hb⟩
            show i.toNat < D.doneD.safe.length
            rw [e.1]
            unfold Dk.has at h2
            omega
        · show (D.doneD.pend ++ [(i.toNat, b)]).length ≤ m + 1
          rw [List.length_append, e.2]
          have := h.num
          simp
          omega
    · exact h.up (by omega)
theorem Dk.Ok.sync {D : Dk} {m : Nat} (h : D.Ok m) : D.syncD.Ok (m + 1) := by
  unfold Dk.syncD
  split
  · exact h.up (by omega)
  · split
    · exact h.done
    · exact h.done.live _
theorem dk0_ok (n : Nat) (h1 : 1 ≤ n) (h2 : n ≤ 512) : (dk0 n).Ok 0 := by
  refine ⟨?_, (fun x hx => by cases hx), ?_, ?_, by show (-1 : Int) ≤ -1; omega, by show (-1 : Int) < _; omega, Nat.le_refl _, Nat.le_refl _⟩
  · intro b hb
    rw [List.eq_of_mem_replicate hb]
    exact ZB_bb
  · show 1 ≤ (List.replicate n ZB).length
    rw [List.length_replicate]; exact h1
  · show (List.replicate n ZB).length ≤ 512
    rw [List.length_replicate]; exact h2
def bv (b : List Int) : List Value := b.map (Value.int .u8)
def wv (x : Nat × List Int) : List Value := Value.int .i64 (x.1 : Int) :: bv x.2
theorem bv_len (b : List Int) : (bv b).length = b.length := by unfold bv; simp
theorem wv_len (x : Nat × List Int) : (wv x).length = x.2.length + 1 := by unfold wv; simp [bv_len]
theorem wv_one (x : Nat × List Int) : (wv x).toArray.all (·.oneCell') = true := by unfold wv bv; simp [Value.oneCell']
structure Ls (k : Nat) (w : World) (a : Option Addr) (n c : Nat) (R : List (List Value)) : Prop where
  len : R.length = n
  row : ∀ r ∈ R, r.length = k
  sl : R = [] ∨ ∃ p o, a = some ⟨p, o, none⟩ ∧ w.rangeAt p o R.flatten
  cap : n ≤ c
  max : c < 9223372036854775808
  low : ∀ p, a.map (·.block) = some p → p < w.heap.size
theorem range_gr {w v : World} {p o : Nat} {L : List Value} (h : w.rangeAt p o L) (g : Gr w v) : v.rangeAt p o L := fun j x hj => g.cell (h j x hj)
theorem flat_row : ∀ (R : List (List Value)) (k : Nat), (∀ r ∈ R, r.length = k) → ∀ (i j : Nat), i < R.length → j < k → R.flatten[k * i + j]? = (R.getD i [])[j]?
  | [], _, _, i, _, hi, _ => absurd hi (Nat.not_lt_zero i)
  | r :: R, k, h, 0, j, _, hj => by
    have hr := h r List.mem_cons_self
    rw [List.flatten_cons, Nat.mul_zero, Nat.zero_add, List.getElem?_append_left (by omega)]
    rfl
  | r :: R, k, h, i + 1, j, hi, hj => by
    have hr := h r List.mem_cons_self
    have ih := flat_row R k (fun x hx => h x (List.mem_cons_of_mem _ hx)) i j (by simpa using hi) hj
    rw [List.flatten_cons, List.getElem?_append_right (by rw [hr, Nat.mul_succ]; omega), hr, show k * (i + 1) + j - k = k * i + j from by rw [Nat.mul_succ]; omega, ih]
    rfl
theorem Ls.at_ {k : Nat} {w : World} {a : Option Addr} {n c : Nat} {R : List (List Value)} (h : Ls k w a n c R) (i : Nat) (hi : i < n) : ∃ p o, a = some ⟨p, o, none⟩ ∧ w.rangeAt p (o + k * i) (R.getD i []) := by
  have hl := h.len
  rcases h.sl with h0 | ⟨p, o, h1, h2⟩
  · rw [h0] at hl
    simp at hl
    omega
  · refine ⟨p, o, h1, fun j x hj => ?_⟩
    have hrl := h.row _ (mem_of_getD (d := []) (show i < R.length by omega))
    have hj2 : j < k := by have := (List.getElem?_eq_some_iff.1 hj).1; omega
    rw [Nat.add_assoc]
    exact h2 _ _ (by rw [flat_row R k h.row i j (by omega) hj2]; exact hj)
theorem getD_map {α β : Type} (f : α → β) (l : List α) (i : Nat) (d : α) (e : β) (h : i < l.length) : (l.map f).getD i e = f (l.getD i d) := by
  rw [List.getD_eq_getElem?_getD, List.getD_eq_getElem?_getD, List.getElem?_map, List.getElem?_eq_getElem h]
  rfl
def blkOf (a : Option Addr) : Option Nat := a.map (·.block)
theorem exec_sb {op : Oper} {a : Act} (w : World) (x : Operand) (ho : op.op = .load 45 x) (g i : Nat) (hx : a.eval x = .pointer (some ⟨g, i, none⟩)) (s : Option Addr) (n c : Nat) (hc : w.cell? ⟨g, i, none⟩ = some (.slice s n c)) : (execOp a.eval op).run Tryd.prog w = .ok (.value (.slice s n c)) w := by
  unfold execOp
  simp only [ho, hx, Instr.loadAt, Instr.sureAddr, Sem.run_bind, Sem.run_pure, Result.andThen_ok]
  go_simp
theorem exec_ib {a : Act} {o : Oper} (w : World) (x y : Operand) (ho : o.op = .indexAddr 45 x y) (g q len cap i : Nat) (hx : a.eval x = .slice (some ⟨g, q, none⟩) len cap) (hy : a.eval y = .int .i64 i) (hi : i < len) :
    (execOp a.eval o).run Tryd.prog w = .ok (.value (.pointer (some ⟨g, q + 64 * i, none⟩))) w := by
  have h1 : (i : Int) < (len : Int) := by omega
  unfold execOp
  simp only [ho, hx, hy]
  go_simp
theorem exec_bool {op : Oper} {a : Act} (w : World) (x : Operand) (ho : op.op = .load 4 x) (g i : Nat) (hx : a.eval x = .pointer (some ⟨g, i, none⟩)) (v : Bool) (hc : w.cell? ⟨g, i, none⟩ = some (.bool v)) : (execOp a.eval op).run Tryd.prog w = .ok (.value (.bool v)) w := by
  unfold execOp
  simp only [ho, hx, Instr.loadAt, Instr.sureAddr, Sem.run_bind, Sem.run_pure, Result.andThen_ok]
  go_simp
theorem Tryd.infoB : (Tryd.prog.info? 50).map (·.size) = some 64 := by kernel_rfl
def Rrd (b : List Int) (e : Int) (w : World) (r : Ending) (w' : World) : Prop := r = .returned (.tuple #[.agg (kc b), .int .i64 e]) ∧ Gr w w'
theorem ZB_len : ZB.length = 64 := rfl
theorem Tryd.infoBz : (Tryd.prog.info? 50).map (fun i => (i.zero, i.size, i.bytes)) = some (some (.agg (kc ZB)), 64, 64) := by kernel_rfl
theorem make_blocks (w : World) {ops : Array Oper} {rest : List Oper} {o : Oper} {a : Act} {Q : Exit → Act → World → Prop} (hgd : o.guard = none) (l c : Operand) (hop : o.op = Op.makeSlice 45 l c) (n : Nat) (hl : a.eval l = .int .i64 n) (hc : a.eval c = .int .i64 n) (hn : n ≤ 100000)
    (h : wpList Tryd.prog ops Q rest (a.put o.dst (.slice (some ⟨w.heap.size, 0, none⟩) n n)) (w.alloc (.cells (kc (List.replicate (n * 64) 0)) 50 (0, 0)))) : wpList Tryd.prog ops Q (o :: rest) a w := by
  obtain ⟨i, h2, h3, h4, h5⟩ := info_parts Tryd.infoBz
  have hrun := run_make (P := Tryd.prog) w 45 50 i (.agg (kc ZB)) Tryd.underlying45 h2 h3 .i64 .i64 (n : Int) (n : Int) (by omega) (by omega) (by rw [h5]; omega) (by omega)
  rw [h4] at hrun
  have e : madeCells (Value.agg (kc ZB)).cells (n * 64) = kc (List.replicate (n * 64) 0) := by
    apply Array.ext
    · simp [size_madeCells, kc]
    · intro i h1 h2
      have h6 : i % 64 < 64 := Nat.mod_lt _ (by omega)
      have h7 : (kc ZB)[i % 64]! = Value.int .u8 0 := by
        have h10 : ZB.getD (i % 64) 0 = 0 := by
          unfold ZB
          rw [List.getD_eq_getElem?_getD, List.getElem?_replicate, if_pos h6]
          rfl
        rw [getElem!_def, kc_get ZB (i % 64) h6, h10]
      have h8 : (Value.agg (kc ZB)).cells = kc ZB := rfl
      have h9 : (kc ZB).size = 64 := rfl
      simp only [madeCells, h8, h9, Array.getElem_map, Array.getElem_range, h7]
      unfold kc
      simp
  simp only [Int.toNat_natCast, e] at hrun
  rw [wpList, if_pos (by simp [Region.wanted, hgd])]
  refine Or.inl ?_
  unfold Oper.wp
  simp [execOp, hop, hl, hc, hrun, Result.andThen]
  exact h
def Or_ (k : Nat) (e : TypeId) (b : Nat) (w : World) (v : Value) (R : List (List Value)) : Prop := (∀ r ∈ R, r.length = k) ∧ w.ownsRow b e k v R.length R.flatten
theorem flat_len : ∀ (R : List (List Value)) (k : Nat), (∀ r ∈ R, r.length = k) → R.flatten.length = R.length * k
  | [], _, _ => by simp
  | r :: R, k, h => by
    have h1 := h r List.mem_cons_self
    have ih := flat_len R k (fun x hx => h x (List.mem_cons_of_mem _ hx))
    rw [List.flatten_cons, List.length_append, ih, h1, List.length_cons, Nat.add_mul]
    omega
theorem ownsRow_gr {k : Nat} {e : TypeId} {b : Nat} {w u : World} {v : Value} {n : Nat} {xs : List Value} (h : w.ownsRow b e k v n xs) (g : Gr w u) : u.ownsRow b e k v n xs := by
  obtain ⟨h1, h2 | ⟨p, cap, cur, h2, h3, h4, h5⟩⟩ := h
  · exact ⟨h1, .inl h2⟩
  · exact ⟨h1, .inr ⟨p, cap, cur, h2, h3, g.blk h4, h5⟩⟩
theorem Or_.gr {k : Nat} {e : TypeId} {b : Nat} {w u : World} {v : Value} {R : List (List Value)} (h : Or_ k e b w v R) (g : Gr w u) : Or_ k e b u v R := ⟨h.1, ownsRow_gr h.2 g⟩
theorem Or_.ls {k : Nat} {e : TypeId} {b : Nat} {w : World} {v : Value} {R : List (List Value)} (h : Or_ k e b w v R) : ∃ a c, v = .slice a R.length c ∧ Ls k w a R.length c R := by
  rcases h.2.2 with ⟨h1, h2⟩ | ⟨g, cap, cur, h1, h2, h3, h4, h5, h6, h7⟩
  · have e : R = [] := List.eq_nil_of_length_eq_zero h2
    subst e
    exact ⟨none, 0, h1, rfl, (fun r hr => by cases hr), .inl rfl, Nat.le_refl _, by omega, (fun p e => by cases e)⟩
  · refine ⟨_, cap, h1, rfl, h.1, .inr ⟨g, 0, rfl, fun j x hj => ?_⟩, h4, by unfold maxLen at h5; omega, fun p e => by have e3 := Option.some.inj e; rw [← e3]; exact lt_of_block h3⟩
    rw [Nat.zero_add]
    refine cell_of h3 ?_
    rw [← Array.getElem?_toList]
    have hjl := (List.getElem?_eq_some_iff.1 hj).1
    rw [h.2.1] at hjl
    rw [← h7, List.getElem?_take, if_pos hjl] at hj
    exact hj
theorem grown_owned {k : Nat} {e : TypeId} {b : Nat} {w u u' : World} {v : Value} {n : Nat} {xs : List Value} (h : u.ownsRow b e k v n xs) (hb : w.heap.size ≤ b) (g : Gr w u) (k : u.grownBy u' v.ownBlock) : Gr w u' := by
  refine ⟨k.os.trans g.os, k.tape.trans g.tape, k.output.trans g.output, Nat.le_trans g.size k.size, fun i hi => (k.block i (Nat.lt_of_lt_of_le hi g.size) ?_).trans (g.block i hi)⟩
  intro e
  have := (World.ownsRow.lt h i e.symm).1
  omega
structure Lt (t e : TypeId) (k n : Nat) : Prop where
  ht : Tryd.prog.underlying t = some (.slice e)
  hi : ∃ i z, Tryd.prog.info? e = some i ∧ i.zero = some z ∧ i.size = k ∧ i.bytes = n ∧ z.cells.size = k
  hk : 0 < k
  hn : n ≤ 100
theorem app_rows0 {t e : TypeId} {k nb : Nat} (L : Lt t e k nb) {w : World} {o : Oper} {a : Act} {K : Act → World → Prop} {Q : Exit → Act → World → Prop} (s x : Operand)
    (ho : o.op = .call { callee := .builtin .append, args := #[s, x], argTypes := #[t, t] }) (b : Nat) (v : Value) (R : List (List Value)) (hs : a.eval s = v) (hown : Or_ k e b w v R)
    (sp : Option Addr) (n sc : Nat) (l : List (List Value)) (hx : a.eval x = .slice sp n sc) (hn : l.length = n) (hrow : ∀ r ∈ l, r.length = k) (hsl : l = [] ∨ ∃ p o, sp = some ⟨p, o, none⟩ ∧ w.rangeAt p o l.flatten) (h1 : ∀ r ∈ l, ∀ u ∈ r, u.oneCell' = true) (hbig : ((R.length + n) + (R.length + n) / 4 + 192) * nb ≤ 281474976710656 ∧ R.length + n ≤ 4611686018427387904) (hB : b ≤ w.heap.size)
    (h : ∀ v' w', Or_ k e b w' v' (R ++ l) → w.grownBy w' v.ownBlock → K (a.put o.dst v') w') : o.wp Tryd.prog a w K Q := by
  obtain ⟨i0, z0, hi, hz0, hz1, hz2, hz3⟩ := L.hi
  have hnb := L.hn
  rcases hsl with rfl | ⟨p, q, rfl, hat⟩
  · obtain rfl : 0 = n := hn
    obtain ⟨a', c', rfl, hls⟩ := hown.ls
    have hc := hls.cap
    have hrun : (Builtin.append_ #[t, t] o.type #[.slice a' R.length c', .slice sp 0 sc]).run Tryd.prog w = .ok (.slice a' R.length c') w := by
      cases a' <;> cases sp <;> simp [Builtin.append_, run_underlying L.ht, sizeOf, typeInfo, hi, Builtin.lenOf, Builtin.firstCells, loadCells, loadCellsFrom, storeCells, hc]
    unfold Oper.wp
    simp [execOp, ho, resolve, invoke, builtin, hs, hx, hrun, Result.andThen]
    exact h _ _ (by rw [List.append_nil]; exact hown) (World.grownBy.refl _ _)
  · have hfl := flat_len l k hrow
    refine wp_append_own_wide w s x t ho b e i0 z0 k nb L.ht hi hz0 hz1 hz2 hz3 L.hk v R.length _ hs hown.2 ⟨p, q, none⟩ n sc l.flatten hx (by rw [hfl, hn]) ?_ ?_ (by unfold maxLen; omega) hbig.1 hB ?_
    · intro j u hj
      rw [Addr.add_mid]
      exact hat j u hj
    · intro u hu
      obtain ⟨r, hr, hu⟩ := List.mem_flatten.1 hu
      exact h1 r hr u hu
    · intro v' w' h1 h2 _
      refine h v' w' ⟨?_, ?_⟩ h2
      · intro r hr
        rcases List.mem_append.1 hr with hr | hr
        · exact hown.1 r hr
        · exact hrow r hr
      · rw [List.length_append, List.flatten_append, hn]
        exact h1
theorem app_rows {t e : TypeId} {k nb : Nat} (L : Lt t e k nb) {w : World} {o : Oper} {a : Act} {K : Act → World → Prop} {Q : Exit → Act → World → Prop} (s x : Operand)
    (ho : o.op = .call { callee := .builtin .append, args := #[s, x], argTypes := #[t, t] }) (b : Nat) (v : Value) (R : List (List Value)) (hs : a.eval s = v) (hown : Or_ k e b w v R)
    (sp : Option Addr) (n sc : Nat) (l : List (List Value)) (hx : a.eval x = .slice sp n sc) (hl : Ls k w sp n sc l) (h1 : ∀ r ∈ l, ∀ u ∈ r, u.oneCell' = true) (hbig : ((R.length + n) + (R.length + n) / 4 + 192) * nb ≤ 281474976710656 ∧ R.length + n ≤ 4611686018427387904) (hB : b ≤ w.heap.size)
    (h : ∀ v' w', Or_ k e b w' v' (R ++ l) → w.grownBy w' v.ownBlock → K (a.put o.dst v') w') : o.wp Tryd.prog a w K Q :=
  app_rows0 L s x ho b v R hs hown sp n sc l hx hl.len hl.row hl.sl h1 hbig hB h
def Cov (C L : List Value) : Prop := ∀ (q : Nat) (x : Value), L[q]? = some x → C[q]? = some x
theorem sp_get : ∀ (vs C : List Value) (o p : Nat), o + vs.length ≤ C.length → (sp C o vs)[p]? = if o ≤ p ∧ p < o + vs.length then vs[p - o]? else C[p]?
  | [], C, o, p, _ => by rw [if_neg (by simp; try omega)]; rfl
  | v :: vs, C, o, p, h => by
    have ih := sp_get vs (C.set o v) (o + 1) p (by rw [List.length_set]; simp at h; omega)
    show (sp (C.set o v) (o + 1) vs)[p]? = _
    rw [ih]
    simp only [List.length_cons] at h ⊢
    by_cases hp : p = o
    · subst hp
      rw [if_neg (by omega), if_pos (by omega), Nat.sub_self, List.getElem?_set_self (by omega)]
      rfl
    · by_cases h2 : o + 1 ≤ p ∧ p < o + 1 + vs.length
      · rw [if_pos h2, if_pos (by omega)]
        obtain ⟨d, hd⟩ : ∃ d, p - o = d + 1 := ⟨p - o - 1, by omega⟩
        rw [hd, List.getElem?_cons_succ]
        congr 1
        omega
      · rw [if_neg h2, if_neg (by omega), List.getElem?_set_ne (by omega)]
theorem sp_length : ∀ (vs C : List Value) (o : Nat), (sp C o vs).length = C.length
  | [], C, o => rfl
  | v :: vs, C, o => by
    show (sp (C.set o v) (o + 1) vs).length = _
    rw [sp_length, List.length_set]
theorem cov_set (k : Nat) (hk : 0 < k) (C : List Value) (R : List (List Value)) (hR : ∀ r ∈ R, r.length = k) (i : Nat) (hi : i < R.length) (r : List Value) (hr : r.length = k) (hC : R.length * k ≤ C.length) (h : Cov C R.flatten) : Cov (sp C (k * i) r) (R.set i r).flatten := by
  have hR2 : ∀ x ∈ R.set i r, x.length = k := by
    intro x hx
    rcases mem_set_or hx with rfl | hx
    · exact hr
    · exact hR x hx
  have hki : k * i + k ≤ R.length * k := by
    have : (i + 1) * k ≤ R.length * k := Nat.mul_le_mul_right _ (by omega)
    rw [Nat.add_mul, Nat.one_mul, Nat.mul_comm i k] at this
    omega
  intro q x hq
  have hql := (List.getElem?_eq_some_iff.1 hq).1
  rw [flat_len _ k hR2, List.length_set] at hql
  have hqd : q = k * (q / k) + q % k := (Nat.div_add_mod q k).symm
  have hm : q % k < k := Nat.mod_lt _ hk
  have hd : q / k < R.length := Nat.div_lt_of_lt_mul (by rw [Nat.mul_comm]; exact hql)
  rw [hqd, flat_row _ k hR2 (q / k) (q % k) (by rw [List.length_set]; exact hd) hm] at hq
  rw [sp_get r C (k * i) q (by omega)]
  by_cases hqi : q / k = i
  · rw [hqi] at hq hqd
    rw [if_pos (by rw [hr]; omega), show q - k * i = q % k from by omega]
    rw [List.getD_eq_getElem?_getD, List.getElem?_set_self hi] at hq
    exact hq
  · rw [if_neg ?_]
    · apply h
      rw [hqd, flat_row _ k hR (q / k) (q % k) hd hm]
      rw [List.getD_eq_getElem?_getD, List.getElem?_set_ne (fun e => hqi e.symm), ← List.getD_eq_getElem?_getD] at hq
      exact hq
    · rintro ⟨h1, h2⟩
      rw [hr] at h2
      apply hqi
      have h3 : q / k < i + 1 := Nat.div_lt_of_lt_mul (by rw [Nat.mul_add, Nat.mul_one]; exact h2)
      have h4 : i ≤ q / k := (Nat.le_div_iff_mul_le hk).2 (by rw [Nat.mul_comm]; exact h1)
      omega
theorem cov_range {w : World} {g : Nat} {C L : List Value} {t : TypeId} (h : w.heap[g]? = some (.cells C.toArray t (0, 0))) (hc : Cov C L) : w.rangeAt g 0 L := fun j x hj => by
  rw [Nat.zero_add]
  exact cell_of h (by rw [List.getElem?_toArray]; exact hc j x hj)
theorem bv_one' (b : List Int) : ∀ u ∈ bv b, u.oneCell' = true := by
  intro u hu
  obtain ⟨x, _, rfl⟩ := List.mem_map.1 hu
  rfl
theorem wv_one' (x : Nat × List Int) : ∀ u ∈ wv x, u.oneCell' = true := by
  intro u hu
  unfold wv at hu
  rcases List.mem_cons.1 hu with rfl | hu
  · rfl
  · exact bv_one' _ u hu
theorem bv_rows {S : List (List Int)} (h : ∀ b ∈ S, BB b) : ∀ r ∈ S.map bv, r.length = 64 := by
  intro r hr
  obtain ⟨b, hb, rfl⟩ := List.mem_map.1 hr
  rw [bv_len]
  exact (h b hb).1
theorem done_form (S : List (List Int)) (P : List (Nat × List Int)) (dd : Bool) (lf : Int) (os : Nat) : ∃ dd2 lf2 os2, (Dk.mk S P dd lf os).doneD = Dk.mk S P dd2 lf2 os2 := by
  unfold Dk.doneD
  split
  · exact ⟨_, _, _, rfl⟩
  · exact ⟨_, _, _, rfl⟩
theorem list32 : ∀ (M : List Int), M.length = 32 → ∃ x0 x1 x2 x3 x4 x5 x6 x7 x8 x9 x10 x11 x12 x13 x14 x15 x16 x17 x18 x19 x20 x21 x22 x23 x24 x25 x26 x27 x28 x29 x30 x31, M = [x0, x1, x2, x3, x4, x5, x6, x7, x8, x9, x10, x11, x12, x13, x14, x15, x16, x17, x18, x19, x20, x21, x22, x23, x24, x25, x26, x27, x28, x29, x30, x31]
  | [x0, x1, x2, x3, x4, x5, x6, x7, x8, x9, x10, x11, x12, x13, x14, x15, x16, x17, x18, x19, x20, x21, x22, x23, x24, x25, x26, x27, x28, x29, x30, x31], _ => ⟨_, _, _, _, _, _, _, _, _, _, _, _, _, _, _, _, _, _, _, _, _, _, _, _, _, _, _, _, _, _, _, _, rfl⟩
theorem list64 (M : List Int) (h : M.length = 64) : ∃ p0 p1 p2 p3 p4 p5 p6 p7 p8 p9 p10 p11 p12 p13 p14 p15 p16 p17 p18 p19 p20 p21 p22 p23 p24 p25 p26 p27 p28 p29 p30 p31 q0 q1 q2 q3 q4 q5 q6 q7 q8 q9 q10 q11 q12 q13 q14 q15 q16 q17 q18 q19 q20 q21 q22 q23 q24 q25 q26 q27 q28 q29 q30 q31, M = ([p0, p1, p2, p3, p4, p5, p6, p7, p8, p9, p10, p11, p12, p13, p14, p15, p16, p17, p18, p19, p20, p21, p22, p23, p24, p25, p26, p27, p28, p29, p30, p31] ++ [q0, q1, q2, q3, q4, q5, q6, q7, q8, q9, q10, q11, q12, q13, q14, q15, q16, q17, q18, q19, q20, q21, q22, q23, q24, q25, q26, q27, q28, q29, q30, q31]) := by
  obtain ⟨p0, p1, p2, p3, p4, p5, p6, p7, p8, p9, p10, p11, p12, p13, p14, p15, p16, p17, p18, p19, p20, p21, p22, p23, p24, p25, p26, p27, p28, p29, p30, p31, hA⟩ := list32 (M.take 32) (by rw [List.length_take]; omega)
  obtain ⟨q0, q1, q2, q3, q4, q5, q6, q7, q8, q9, q10, q11, q12, q13, q14, q15, q16, q17, q18, q19, q20, q21, q22, q23, q24, q25, q26, q27, q28, q29, q30, q31, hB⟩ := list32 (M.drop 32) (by rw [List.length_drop]; omega)
  exact ⟨p0, p1, p2, p3, p4, p5, p6, p7, p8, p9, p10, p11, p12, p13, p14, p15, p16, p17, p18, p19, p20, p21, p22, p23, p24, p25, p26, p27, p28, p29, p30, p31, q0, q1, q2, q3, q4, q5, q6, q7, q8, q9, q10, q11, q12, q13, q14, q15, q16, q17, q18, q19, q20, q21, q22, q23, q24, q25, q26, q27, q28, q29, q30, q31, by rw [← hA, ← hB, List.take_append_drop]⟩
theorem Tryd.cells_b : Tryd.prog.cellsOf 5 = 1 := by kernel_rfl
theorem Tryd.info_b : (Tryd.prog.info? 5).map (fun i => (i.zero, i.size, i.bytes)) = some (some (.int .u8 0), 1, 1) := by kernel_rfl
theorem Tryd.plain_b : Tryd.prog.plainKey 5 = true := by kernel_rfl
theorem eqs_b (k m : List Int) (hl : k.length = m.length) (d : Nat) (is : List Nat) (h : ∀ i ∈ is, i < k.length) (w : World) : (Op.eqItems (d + 1) 5 1 (kc k) (kc m) is).run Tryd.prog w = .ok (decide (∀ i ∈ is, k.getD i 0 = m.getD i 0)) w := by
  induction is with
  | nil => simp [Op.eqItems]
  | cons i is ih =>
    have hi : i < k.length := h i (by simp)
    have hp : ∀ m : List Int, i < m.length → (part 5 (kc m) (i * 1)).run Tryd.prog w = .ok (.int .u8 (m.getD i 0)) w := by
      intro m hm
      refine run_part_plain w Tryd.plain_b ?_
      simp [kc, List.getD, List.getElem?_eq_getElem hm]
    have he := run_equalIn_int (P := Tryd.prog) w d 5 .u8 .u8 (k.getD i 0) (m.getD i 0) Tryd.underlying5
    simp only [Op.eqItems, Sem.run_bind, hp k hi, hp m (by omega), he, Result.andThen_ok]
    have ih := ih (fun j hj => h j (List.mem_cons_of_mem _ hj))
    by_cases hq : k.getD i 0 = m.getD i 0
    · simp only [hq, beq_self_eq_true, if_true, List.mem_cons, forall_eq_or_imp, true_and]
      exact ih
    · have hq2 : (k.getD i 0 == m.getD i 0) = false := by simpa using hq
      simp only [hq2, List.mem_cons, forall_eq_or_imp, hq, false_and, decide_false]
      rfl
theorem eq_B (k m : List Int) (hk : k.length = 64) (hm : m.length = 64) (w : World) : Sem.run Tryd.prog (Op.equalIn 10000 50 (.agg (kc k)) (.agg (kc m))) w = .ok (decide (k = m)) w := by
  obtain ⟨i0, hi0, _⟩ := info_parts Tryd.info_b
  rw [run_equalIn_array (P := Tryd.prog) w 9999 (kc k) (kc m) Tryd.underlying50 hi0, Tryd.cells_b]
  refine (eqs_b k m (by omega) 9998 _ (by intro i hi; simp at hi; omega) w).trans ?_
  congr 1
  rw [decide_eq_decide]
  constructor
  · intro h
    exact list_ext (by omega) fun i hi => h i (by simp; omega)
  · rintro rfl i _
    rfl
structure Chg (F F' : List Nat) (w v : World) : Prop where
  os : v.os = w.os
  tape : v.tape = w.tape
  output : v.output = w.output
  size : w.heap.size ≤ v.heap.size
  block : ∀ i, i < w.heap.size → i ∉ F → v.heap[i]? = w.heap[i]?
  new : ∀ i ∈ F', i ∈ F ∨ w.heap.size ≤ i
theorem Gr.chg0 {w v : World} (h : Gr w v) (F : List Nat) : Chg F F w v := ⟨h.os, h.tape, h.output, h.size, fun i hi _ => h.block i hi, fun i hi => .inl hi⟩
theorem Gr.chg {F F' : List Nat} {w u v : World} (h : Gr w u) (k : Chg F F' u v) : Chg F F' w v :=
  ⟨k.os.trans h.os, k.tape.trans h.tape, k.output.trans h.output, Nat.le_trans h.size k.size, fun i hi hn => (k.block i (Nat.lt_of_lt_of_le hi h.size) hn).trans (h.block i hi), fun i hi => (k.new i hi).imp id (Nat.le_trans h.size)⟩
theorem Chg.gr {F F' : List Nat} {w u v : World} (h : Chg F F' w u) (k : Gr u v) : Chg F F' w v :=
  ⟨k.os.trans h.os, k.tape.trans h.tape, k.output.trans h.output, Nat.le_trans h.size k.size, fun i hi hn => (k.block i (Nat.lt_of_lt_of_le hi h.size)).trans (h.block i hi hn), h.new⟩
theorem Chg.bt {F F' : List Nat} {w u v : World} {b : Nat} (h : Chg F F' w u) (k : Bt b u v) (hb : w.heap.size ≤ b) : Chg F F' w v :=
  ⟨k.os.trans h.os, k.tape.trans h.tape, k.output.trans h.output, Nat.le_trans h.size k.size, fun i hi hn => (k.block i (Nat.lt_of_lt_of_le hi h.size) (by omega)).trans (h.block i hi hn), h.new⟩
theorem Chg.blk {F F' : List Nat} {w v : World} (h : Chg F F' w v) {b : Nat} {o : Obj} (hp : w.heap[b]? = some o) (hb : b ∉ F) : v.heap[b]? = some o := by rw [h.block b (lt_of_block hp) hb]; exact hp
theorem Chg.own {F F' : List Nat} {w u v : World} (h : Gr w u) (k : Chg F F' u v) (hF : ∀ i ∈ F, w.heap.size ≤ i) : Gr w v :=
  ⟨k.os.trans h.os, k.tape.trans h.tape, k.output.trans h.output, Nat.le_trans h.size k.size, fun i hi => (k.block i (Nat.lt_of_lt_of_le hi h.size) (fun hm => by have := hF i hm; omega)).trans (h.block i hi)⟩
theorem Chg.bt2 {F : List Nat} {w u v : World} {b : Nat} (h : Chg F F w u) (k : Bt b u v) (hb : b ∈ F ∨ w.heap.size ≤ b) : Chg F F w v :=
  ⟨k.os.trans h.os, k.tape.trans h.tape, k.output.trans h.output, Nat.le_trans h.size k.size, fun i hi hn => (k.block i (Nat.lt_of_lt_of_le hi h.size) (by
    rintro rfl
    rcases hb with hb | hb
    · exact hn hb
    · omega)).trans (h.block i hi hn), fun i hi => .inl hi⟩
theorem Chg.trans {F : List Nat} {w u v : World} (h : Chg F F w u) (k : Chg F F u v) : Chg F F w v :=
  ⟨k.os.trans h.os, k.tape.trans h.tape, k.output.trans h.output, Nat.le_trans h.size k.size, fun i hi hn => (k.block i (Nat.lt_of_lt_of_le hi h.size) hn).trans (h.block i hi hn), fun i hi => .inl hi⟩
theorem Chg.wide {F G F' : List Nat} {w v : World} (h : Chg F F w v) (hs : ∀ i ∈ F, i ∈ G) (hn : ∀ i ∈ F', i ∈ G ∨ w.heap.size ≤ i) : Chg G F' w v :=
  ⟨h.os, h.tape, h.output, h.size, fun i hi hm => h.block i hi (fun e => hm (hs i e)), hn⟩
theorem Chg.cell {F F' : List Nat} {w v : World} (h : Chg F F' w v) {p o : Nat} {x : Value} (hp : w.cell? ⟨p, o, none⟩ = some x) (hb : p ∉ F) : v.cell? ⟨p, o, none⟩ = some x := by
  rw [cell_heap (h.block p (lt_of_cell hp) hb)]; exact hp
def bare (w : World) : World := { w with heap := #[] }
structure Bc (F : List Nat) (w : World) (L : List Blk) (v : World) : Prop where
  bl : Bl (bare w) L v
  chg : Chg F F w v
  fo : ∀ x ∈ L, x.g ∈ F ∨ w.heap.size ≤ x.g
theorem fo_set {P : Nat → Prop} {L : List Blk} (h : ∀ x ∈ L, P x.g) (i : Nat) {x : Blk} (hi : L[i]? = some x) (c : Array Value) (t : TypeId) : ∀ y ∈ L.set i ⟨x.g, c, t⟩, P y.g := fun y hy =>
  (List.mem_or_eq_of_mem_set hy).elim (h y) (fun e => by rw [e]; exact h x (List.mem_of_getElem? hi))
theorem Bc.get {F : List Nat} {w v : World} {L : List Blk} (h : Bc F w L v) (i : Nat) {x : Blk} (hi : L[i]? = some x) : v.heap[x.g]? = some (.cells x.c x.t (0, 0)) := h.bl.get i hi
theorem Bc.own {F : List Nat} {w v : World} {L : List Blk} (h : Bc F w L v) (i : Nat) {x : Blk} (hi : L[i]? = some x) : x.g ∈ F ∨ w.heap.size ≤ x.g := h.fo x (List.mem_of_getElem? hi)
theorem Bc.more {F : List Nat} {w u v : World} {L : List Blk} (h : Bc F w L u) (k : Gr u v) : Bc F w L v := ⟨h.bl.more k, h.chg.gr k, h.fo⟩
theorem Bc.drew {F : List Nat} {w v : World} {L : List Blk} (h : Bc F w L v) : Bc F w L v.drew := h.more (Gr.refl v).drew
theorem Bc.cell {F : List Nat} {w v : World} {L : List Blk} (h : Bc F w L v) (k : Nat) {x : Blk} (hk : L[k]? = some x) (i : Nat) (y : Value) : Bc F w (L.set k ⟨x.g, x.c.setIfInBounds i y, x.t⟩) (v.setCell ⟨x.g, i, none⟩ y) :=
  ⟨h.bl.cell k hk i y, h.chg.bt2 (Bt.setCell v i y) (h.own k hk), fo_set (P := fun g => g ∈ F ∨ w.heap.size ≤ g) h.fo k hk _ _⟩
theorem Bc.set {F : List Nat} {w v : World} {L : List Blk} (h : Bc F w L v) (k : Nat) {x : Blk} (hk : L[k]? = some x) (c : Array Value) : Bc F w (L.set k ⟨x.g, c, x.t⟩) (v.setRow x.g c) :=
  ⟨h.bl.set k hk c, h.chg.bt2 ((Bt.refl x.g v).row_self c) (h.own k hk), fo_set (P := fun g => g ∈ F ∨ w.heap.size ≤ g) h.fo k hk _ _⟩
theorem Bc.but {F : List Nat} {w u v : World} {L : List Blk} (h : Bc F w L u) {g : Nat} (k : Bt g u v) (i : Nat) {x : Blk} (hi : L[i]? = some x) (hx : x.g = g) {c : Array Value} (hc : v.heap[g]? = some (.cells c x.t (0, 0))) : Bc F w (L.set i ⟨g, c, x.t⟩) v := by
  subst hx
  exact ⟨h.bl.but k i hi rfl hc, h.chg.bt2 k (h.own i hi), fo_set (P := fun g => g ∈ F ∨ w.heap.size ≤ g) h.fo i hi _ _⟩
theorem Bc.new {F : List Nat} {w v : World} {L : List Blk} (h : Bc F w L v) (c : Array Value) (t : TypeId) : Bc F w (L ++ [⟨v.heap.size, c, t⟩]) (v.alloc (.cells c t (0, 0))) :=
  ⟨h.bl.new c t, h.chg.gr ((Gr.refl v).alloc _), fun x hx => (List.mem_append.1 hx).elim (h.fo x) (fun e => by rw [List.mem_singleton] at e; rw [e]; exact .inr h.chg.size)⟩
theorem Bc.left {F : List Nat} {w v : World} {L M : List Blk} (h : Bc F w (L ++ M) v) : Bc F w L v := ⟨h.bl.left, h.chg, fun x hx => h.fo x (List.mem_append_left _ hx)⟩
theorem Bc.nil (F : List Nat) (w : World) : Bc F w [] w := ⟨⟨⟨rfl, rfl, rfl, Nat.zero_le _, fun i hi => absurd hi (Nat.not_lt_zero i)⟩, (fun _ h => by cases h), List.Pairwise.nil⟩, (Gr.refl w).chg0 F, fun _ h => by cases h⟩
theorem Bc.add {F : List Nat} {w v : World} {L : List Blk} (h : Bc F w L v) (x : Blk) (hx : v.heap[x.g]? = some x.obj) (hw : x.g ∈ F ∨ w.heap.size ≤ x.g) (hn : ∀ y ∈ L, y.g ≠ x.g) : Bc F w (L ++ [x]) v :=
  ⟨h.bl.add x hx (Nat.zero_le _) hn, h.chg, fun y hy => (List.mem_append.1 hy).elim (h.fo y) (fun e => by rw [List.mem_singleton] at e; rw [e]; exact hw)⟩
theorem ty_ne {v : World} {a b : Nat} {c d : Array Value} {s t : TypeId} (ha : v.heap[a]? = some (.cells c s (0, 0))) (hb : v.heap[b]? = some (.cells d t (0, 0))) (hn : s ≠ t) : a ≠ b := by
  rintro rfl
  rw [ha] at hb
  have := Option.some.inj hb
  injection this with _ h6 _
  exact hn h6
def pdv (sa : Option Addr) (sn sc : Nat) (pa : Option Addr) (pn pc : Nat) (l : Int) (o : Nat) (d : Bool) : Array Value := #[.slice sa sn sc, .slice pa pn pc, .int .i64 l, .int .i64 (o : Int), .bool d]
def Lf (x l : Int) : Prop := (x < 0 → l < 0 ∧ -9223372036854775808 ≤ l) ∧ (0 ≤ x → l = x)
theorem Lf.refl (x : Int) (h : -9223372036854775808 ≤ x) : Lf x x := ⟨fun e => ⟨e, h⟩, fun _ => rfl⟩
structure Pd (g : Nat) (D : Dk) (v : World) (sg sc : Nat) (C : List Value) (pa : Option Addr) (pc : Nat) (l : Int) : Prop where
  cel : v.heap[g]? = some (.cells (pdv (some ⟨sg, 0, none⟩) D.safe.length sc pa D.pend.length pc l D.ops D.dead) 92 (0, 0))
  saf : v.heap[sg]? = some (.cells C.toArray 50 (0, 0))
  cov : Cov C (D.safe.map bv).flatten
  len : C.length = sc * 64
  cap : D.safe.length ≤ sc
  max : sc ≤ maxLen
  pnd : Or_ 65 117 0 v (.slice pa D.pend.length pc) (D.pend.map wv)
  lf : Lf D.left l
def pdF (g sg : Nat) (pa : Option Addr) : List Nat := g :: sg :: (blkOf pa).toList
def Lies (F : List Nat) (g : Nat) (D : Dk) (v : World) : Prop := ∃ sg sc C pa pc l, Pd g D v sg sc C pa pc l ∧ F = pdF g sg pa
theorem mem_pdF {g sg i : Nat} {pa : Option Addr} : i ∈ pdF g sg pa ↔ i = g ∨ i = sg ∨ blkOf pa = some i := by
  unfold pdF
  simp [Option.mem_toList]
theorem or_blk_lt {k : Nat} {e : TypeId} {b : Nat} {w : World} {a : Option Addr} {n c : Nat} {R : List (List Value)} (h : Or_ k e b w (.slice a n c) R) {i : Nat} (hi : blkOf a = some i) : ∃ cur, w.heap[i]? = some (.cells cur e (0, 0)) := by
  rcases h.2.2 with ⟨h1, _⟩ | ⟨g, cap, cur, h1, _, h3, _⟩
  · injection h1 with h1 _ _
    rw [h1] at hi
    cases hi
  · injection h1 with h1 _ _
    rw [h1] at hi
    have : g = i := by simpa [blkOf] using hi
    subst this
    exact ⟨cur, h3⟩
theorem or_keep {k : Nat} {e : TypeId} {b : Nat} {w u : World} {a : Option Addr} {n c : Nat} {R : List (List Value)} (h : Or_ k e b w (.slice a n c) R) (hk : ∀ i, blkOf a = some i → u.heap[i]? = w.heap[i]?) : Or_ k e b u (.slice a n c) R := by
  refine ⟨h.1, h.2.1, ?_⟩
  rcases h.2.2 with ⟨h1, h2⟩ | ⟨g, cap, cur, h1, h2, h3, h4⟩
  · exact .inl ⟨h1, h2⟩
  · refine .inr ⟨g, cap, cur, h1, h2, ?_, h4⟩
    injection h1 with h1 _ _
    rw [hk g (by rw [h1]; rfl)]
    exact h3
theorem Pd.keep {g : Nat} {D : Dk} {v u : World} {sg sc : Nat} {C : List Value} {pa : Option Addr} {pc : Nat} {l : Int} (h : Pd g D v sg sc C pa pc l) (k : ∀ i ∈ pdF g sg pa, u.heap[i]? = v.heap[i]?) : Pd g D u sg sc C pa pc l :=
  ⟨(k g (mem_pdF.2 (.inl rfl))).trans h.cel, (k sg (mem_pdF.2 (.inr (.inl rfl)))).trans h.saf, h.cov, h.len, h.cap, h.max, or_keep h.pnd (fun i hi => k i (mem_pdF.2 (.inr (.inr hi)))), h.lf⟩
theorem Pd.lt {g : Nat} {D : Dk} {v : World} {sg sc : Nat} {C : List Value} {pa : Option Addr} {pc : Nat} {l : Int} (h : Pd g D v sg sc C pa pc l) : ∀ i ∈ pdF g sg pa, i < v.heap.size := by
  intro i hi
  rcases mem_pdF.1 hi with rfl | rfl | hi
  · exact lt_of_block h.cel
  · exact lt_of_block h.saf
  · obtain ⟨cur, hc⟩ := or_blk_lt h.pnd hi
    exact lt_of_block hc
theorem Pd.gr {g : Nat} {D : Dk} {v u : World} {sg sc : Nat} {C : List Value} {pa : Option Addr} {pc : Nat} {l : Int} (h : Pd g D v sg sc C pa pc l) (k : Gr v u) : Pd g D u sg sc C pa pc l :=
  h.keep (fun i hi => k.block i (h.lt i hi))
theorem Lies.lt {F : List Nat} {g : Nat} {D : Dk} {v : World} (h : Lies F g D v) : ∀ i ∈ F, i < v.heap.size := by
  obtain ⟨sg, sc, C, pa, pc, l, h, rfl⟩ := h
  exact h.lt
theorem Lies.keep {F : List Nat} {g : Nat} {D : Dk} {v u : World} (h : Lies F g D v) (hs : v.heap.size ≤ u.heap.size) (k : ∀ i ∈ F, u.heap[i]? = v.heap[i]?) : Lies F g D u := by
  obtain ⟨sg, sc, C, pa, pc, l, h, rfl⟩ := h
  exact ⟨sg, sc, C, pa, pc, l, h.keep k, rfl⟩
theorem Pd.sg_ne {g : Nat} {D : Dk} {v : World} {sg sc : Nat} {C : List Value} {pa : Option Addr} {pc : Nat} {l : Int} (h : Pd g D v sg sc C pa pc l) : g ≠ sg := ty_ne h.cel h.saf (by decide)
theorem Pd.pg_ne {g : Nat} {D : Dk} {v : World} {sg sc : Nat} {C : List Value} {pa : Option Addr} {pc : Nat} {l : Int} (h : Pd g D v sg sc C pa pc l) {i : Nat} (hi : blkOf pa = some i) : i ≠ g ∧ i ≠ sg := by
  obtain ⟨cur, hc⟩ := or_blk_lt h.pnd hi
  exact ⟨ty_ne hc h.cel (by decide), ty_ne hc h.saf (by decide)⟩
theorem Pd.sls {g : Nat} {D : Dk} {v : World} {sg sc : Nat} {C : List Value} {pa : Option Addr} {pc : Nat} {l : Int} (h : Pd g D v sg sc C pa pc l) {m : Nat} (hD : D.Ok m) : Ls 64 v (some ⟨sg, 0, none⟩) D.safe.length sc (D.safe.map bv) :=
  ⟨List.length_map .., bv_rows hD.blk, .inr ⟨sg, 0, rfl, cov_range h.saf h.cov⟩, h.cap, by have := h.max; unfold maxLen at this; omega, fun p e => by have e3 := Option.some.inj e; rw [← e3]; exact lt_of_block h.saf⟩
theorem Pd.pls {g : Nat} {D : Dk} {v : World} {sg sc : Nat} {C : List Value} {pa : Option Addr} {pc : Nat} {l : Int} (h : Pd g D v sg sc C pa pc l) : Ls 65 v pa D.pend.length pc (D.pend.map wv) := by
  obtain ⟨a, c, e, hl⟩ := h.pnd.ls
  rw [List.length_map] at e hl
  injection e with e1 _ e3
  rw [e1, e3]
  exact hl
theorem Pd.two {g : Nat} {D : Dk} {v : World} {sg sc : Nat} {C : List Value} {pa : Option Addr} {pc : Nat} {l : Int} (h : Pd g D v sg sc C pa pc l) {F : List Nat} (hg : g ∈ F) (hs : sg ∈ F) :
    Bc F v [⟨g, pdv (some ⟨sg, 0, none⟩) D.safe.length sc pa D.pend.length pc l D.ops D.dead, 92⟩, ⟨sg, C.toArray, 50⟩] v := by
  have h1 := (Bc.nil F v).add ⟨g, pdv (some ⟨sg, 0, none⟩) D.safe.length sc pa D.pend.length pc l D.ops D.dead, 92⟩ h.cel (.inl hg) (fun y hy => by cases hy)
  exact h1.add ⟨sg, C.toArray, 50⟩ h.saf (.inl hs) (fun y hy => by
    simp only [List.nil_append, List.mem_singleton] at hy
    rw [hy]
    exact h.sg_ne)
abbrev P0 (g : Nat) : Value := .pointer (some ⟨g, 0, none⟩)
def Vl (v : Value) (w : World) (r : Ending) (w' : World) : Prop := r = .returned v ∧ Gr w w'
def Ch (F : List Nat) (g : Nat) (D : Dk) (e : Int) (w : World) (r : Ending) (w' : World) : Prop := ∃ F', r = .returned (.int .i64 e) ∧ Lies F' g D w' ∧ Chg F F' w w'
theorem Tryd.infoPW : (Tryd.prog.info? 117).map (·.size) = some 65 := by kernel_rfl
theorem Tryd.infoPWz : (Tryd.prog.info? 117).map (fun i => (i.zero, i.size, i.bytes)) = some (some (.agg (wv (0, ZB)).toArray), 65, 72) := by kernel_rfl
theorem lt_pw : Lt 90 117 65 72 := by
  obtain ⟨i, h1, h2, h3, h4⟩ := info_parts Tryd.infoPWz
  exact ⟨Tryd.underlying90, ⟨i, _, h1, h2, h3, h4, rfl⟩, by decide, by decide⟩
theorem exec_spw {op : Oper} {a : Act} (w : World) (x : Operand) (ho : op.op = .load 90 x) (g i : Nat) (hx : a.eval x = .pointer (some ⟨g, i, none⟩)) (s : Option Addr) (n c : Nat) (hc : w.cell? ⟨g, i, none⟩ = some (.slice s n c)) : (execOp a.eval op).run Tryd.prog w = .ok (.value (.slice s n c)) w := by
  unfold execOp
  simp only [ho, hx, Instr.loadAt, Instr.sureAddr, Sem.run_bind, Sem.run_pure, Result.andThen_ok]
  go_simp
theorem exec_ipw {a : Act} {o : Oper} (w : World) (x y : Operand) (ho : o.op = .indexAddr 90 x y) (g q len cap i : Nat) (hx : a.eval x = .slice (some ⟨g, q, none⟩) len cap) (hy : a.eval y = .int .i64 i) (hi : i < len) :
    (execOp a.eval o).run Tryd.prog w = .ok (.value (.pointer (some ⟨g, q + 65 * i, none⟩))) w := by
  have h1 : (i : Int) < (len : Int) := by omega
  unfold execOp
  simp only [ho, hx, hy]
  go_simp
set_option maxHeartbeats 4000000 in
theorem power_ok (g : Nat) (D : Dk) (sg sc : Nat) (C : List Value) (pa : Option Addr) (pc : Nat) (l : Int) (w : World) (hP : Pd g D w sg sc C pa pc l) : Calls Tryd.prog 87 #[P0 g] w (Vl (.int .i64 (if D.dead then 7 else 0)) w) := by
  obtain ⟨T, hT⟩ : ∃ T, T = Vl (.int .i64 (if D.dead then 7 else 0)) w := ⟨_, rfl⟩
  rw [← hT]
  replace hT := hide hT
  obtain ⟨dd, hdd⟩ : ∃ x, x = D.dead := ⟨_, rfl⟩
  obtain ⟨sn, hsn⟩ : ∃ n, n = D.safe.length := ⟨_, rfl⟩
  obtain ⟨pn, hpn⟩ : ∃ n, n = D.pend.length := ⟨_, rfl⟩
  obtain ⟨os, hos⟩ : ∃ n, n = D.ops := ⟨_, rfl⟩
  have hcl := hP.cel
  rw [← hdd, ← hsn, ← hpn, ← hos] at hcl
  replace hdd := hide hdd; replace hsn := hide hsn; replace hpn := hide hpn; replace hos := hide hos; replace hcl := hide hcl; replace hP := hide hP
  go_enter Tryd.func87, Tryd.ntmps87
  go_upto_region 1 with fail
  refine wp_region_lit ?_
  refine list_val (.pointer (some ⟨g, 0, none⟩)) (by kernel_rfl) (by kernel_rfl) ?_
  simp only [nrm]
  refine list_val (.bool false) (by kernel_rfl) (by kernel_rfl) ?_
  simp only [nrm]
  refine wpList_nil ?_
  go_upto_region 3 with fail
  refine wp_region_lit ?_
  refine list_val (.pointer (some ⟨g, 0, none⟩)) (by kernel_rfl) (by kernel_rfl) ?_
  simp only [nrm]
  refine list_val (.pointer (some ⟨g, 0, none⟩)) (by kernel_rfl) (by kernel_rfl) ?_
  simp only [nrm]
  refine list_val (.pointer (some ⟨g, 4, none⟩)) (by kernel_rfl) (by kernel_rfl) ?_
  simp only [nrm]
  refine list_val (.bool dd) (by kernel_rfl) (exec_bool _ (.tmp 7) rfl g 4 (by kernel_rfl) dd (cell_of (unhide hcl) (i := 4) rfl)) ?_
  simp only [nrm]
  refine wpList_nil ?_
  cases dd
  case true =>
    have hZ : Hid (Vl (.int .i64 (if D.dead then 7 else 0)) w (.returned (.int .i64 7)) w) := ⟨by rw [← unhide hdd]; rfl, Gr.refl w⟩
    go_wp2_with fail
    rw [unhide hT]
    exact unhide hZ
  case false =>
    have hZ : Hid (Vl (.int .i64 (if D.dead then 7 else 0)) w (.returned (.int .i64 0)) w) := ⟨by rw [← unhide hdd]; rfl, Gr.refl w⟩
    go_wp2_with fail
    rw [unhide hT]
    exact unhide hZ
set_option maxHeartbeats 4000000 in
theorem dlen_p (g : Nat) (D : Dk) (sg sc : Nat) (C : List Value) (pa : Option Addr) (pc : Nat) (l : Int) (w : World) (hP : Pd g D w sg sc C pa pc l) : Calls Tryd.prog 72 #[P0 g] w (Vl (.int .i64 (D.safe.length : Int)) w) := by
  obtain ⟨T, hT⟩ : ∃ T, T = Vl (.int .i64 (D.safe.length : Int)) w := ⟨_, rfl⟩
  rw [← hT]
  replace hT := hide hT
  obtain ⟨dd, hdd⟩ : ∃ x, x = D.dead := ⟨_, rfl⟩
  obtain ⟨sn, hsn⟩ : ∃ n, n = D.safe.length := ⟨_, rfl⟩
  obtain ⟨pn, hpn⟩ : ∃ n, n = D.pend.length := ⟨_, rfl⟩
  obtain ⟨os, hos⟩ : ∃ n, n = D.ops := ⟨_, rfl⟩
  have hcl := hP.cel
  rw [← hdd, ← hsn, ← hpn, ← hos] at hcl
  replace hdd := hide hdd; replace hsn := hide hsn; replace hpn := hide hpn; replace hos := hide hos; replace hcl := hide hcl; replace hP := hide hP
  go_enter Tryd.func72, Tryd.ntmps72
  go_upto_region 1 with fail
  refine wp_region_lit ?_
  refine list_val (.pointer (some ⟨g, 0, none⟩)) (by kernel_rfl) (by kernel_rfl) ?_
  simp only [nrm]
  refine list_val (.bool false) (by kernel_rfl) (by kernel_rfl) ?_
  simp only [nrm]
  refine wpList_nil ?_
  go_upto_region 3 with fail
  refine wp_region_lit ?_
  refine list_val (.pointer (some ⟨g, 0, none⟩)) (by kernel_rfl) (by kernel_rfl) ?_
  simp only [nrm]
  refine list_val (.pointer (some ⟨g, 0, none⟩)) (by kernel_rfl) (by kernel_rfl) ?_
  simp only [nrm]
  refine list_val (.pointer (some ⟨g, 0, none⟩)) (by kernel_rfl) (by kernel_rfl) ?_
  simp only [nrm]
  refine list_val (.slice (some ⟨sg, 0, none⟩) sn sc) (by kernel_rfl) (exec_sb _ (.tmp 7) rfl g 0 (by kernel_rfl) (some ⟨sg, 0, none⟩) sn sc (cell_of (unhide hcl) (i := 0) rfl)) ?_
  simp only [nrm]
  refine list_val (.int .i64 sn) (by kernel_rfl) (by kernel_rfl) ?_
  simp only [nrm]
  (refine wpList_step fun K hK => ?_; replace hK := hide hK; go_simp; refine unhide hK _ _ ?_; clear hK K)
  refine wpList_nil ?_
  have hZ : Hid (Vl (.int .i64 (D.safe.length : Int)) w (.returned (.int .i64 (sn : Int))) w) := ⟨by rw [unhide hsn], Gr.refl w⟩
  go_wp2_with fail
  rw [unhide hT]
  exact unhide hZ
theorem dlen_ok (F : List Nat) (g m : Nat) (D : Dk) (hD : D.Ok m) (hm : m ≤ 1000000) (w : World) (h : Lies F g D w) : Calls Tryd.prog 72 #[P0 g] w (Vl (.int .i64 (D.safe.length : Int)) w) := by
  obtain ⟨sg, sc, C, pa, pc, l, h, rfl⟩ := h
  exact dlen_p g D sg sc C pa pc l w h
set_option maxHeartbeats 4000000 in
theorem ddead_p (g : Nat) (D : Dk) (sg sc : Nat) (C : List Value) (pa : Option Addr) (pc : Nat) (l : Int) (w : World) (hP : Pd g D w sg sc C pa pc l) : Calls Tryd.prog 40 #[P0 g] w (Vl (.bool D.dead) w) := by
  obtain ⟨T, hT⟩ : ∃ T, T = Vl (.bool D.dead) w := ⟨_, rfl⟩
  rw [← hT]
  replace hT := hide hT
  obtain ⟨dd, hdd⟩ : ∃ x, x = D.dead := ⟨_, rfl⟩
  obtain ⟨sn, hsn⟩ : ∃ n, n = D.safe.length := ⟨_, rfl⟩
  obtain ⟨pn, hpn⟩ : ∃ n, n = D.pend.length := ⟨_, rfl⟩
  obtain ⟨os, hos⟩ : ∃ n, n = D.ops := ⟨_, rfl⟩
  have hcl := hP.cel
  rw [← hdd, ← hsn, ← hpn, ← hos] at hcl
  replace hdd := hide hdd; replace hsn := hide hsn; replace hpn := hide hpn; replace hos := hide hos; replace hcl := hide hcl; replace hP := hide hP
  go_enter Tryd.func40, Tryd.ntmps40
  go_upto_region 1 with fail
  refine wp_region_lit ?_
  refine list_val (.pointer (some ⟨g, 0, none⟩)) (by kernel_rfl) (by kernel_rfl) ?_
  simp only [nrm]
  refine list_val (.bool true) (by kernel_rfl) (by kernel_rfl) ?_
  simp only [nrm]
  refine list_val (.bool true) (by kernel_rfl) (by kernel_rfl) ?_
  simp only [nrm]
  refine list_val (.pointer (some ⟨g, 0, none⟩)) (by kernel_rfl) (by kernel_rfl) ?_
  simp only [nrm]
  refine list_val (.pointer (some ⟨g, 0, none⟩)) (by kernel_rfl) (by kernel_rfl) ?_
  simp only [nrm]
  refine list_val (.pointer (some ⟨g, 4, none⟩)) (by kernel_rfl) (by kernel_rfl) ?_
  simp only [nrm]
  refine list_val (.bool dd) (by kernel_rfl) (exec_bool _ (.tmp 8) rfl g 4 (by kernel_rfl) dd (cell_of (unhide hcl) (i := 4) rfl)) ?_
  simp only [nrm]
  refine list_val (.bool dd) (by kernel_rfl) (by kernel_rfl) ?_
  simp only [nrm]
  (refine wpList_step fun K hK => ?_; replace hK := hide hK; go_simp; refine unhide hK _ _ ?_; clear hK K)
  refine wpList_nil ?_
  have hZ : Hid (Vl (.bool D.dead) w (.returned (.bool dd)) w) := ⟨by rw [unhide hdd], Gr.refl w⟩
  go_wp2_with fail
  rw [unhide hT]
  exact unhide hZ
theorem ddead_ok (F : List Nat) (g m : Nat) (D : Dk) (hD : D.Ok m) (hm : m ≤ 1000000) (w : World) (h : Lies F g D w) : Calls Tryd.prog 40 #[P0 g] w (Vl (.bool D.dead) w) := by
  obtain ⟨sg, sc, C, pa, pc, l, h, rfl⟩ := h
  exact ddead_p g D sg sc C pa pc l w h
set_option maxHeartbeats 4000000 in
theorem reach_ok (g : Nat) (D : Dk) (sg sc : Nat) (C : List Value) (pa : Option Addr) (pc : Nat) (l : Int) (i : Int) (w : World) (hP : Pd g D w sg sc C pa pc l) : Calls Tryd.prog 71 #[P0 g, .int .i64 i] w (Vl (.int .i64 (D.readE i)) w) := by
  obtain ⟨T, hT⟩ : ∃ T, T = Vl (.int .i64 (D.readE i)) w := ⟨_, rfl⟩
  rw [← hT]
  replace hT := hide hT
  obtain ⟨dd, hdd⟩ : ∃ x, x = D.dead := ⟨_, rfl⟩
  obtain ⟨sn, hsn⟩ : ∃ n, n = D.safe.length := ⟨_, rfl⟩
  obtain ⟨pn, hpn⟩ : ∃ n, n = D.pend.length := ⟨_, rfl⟩
  obtain ⟨os, hos⟩ : ∃ n, n = D.ops := ⟨_, rfl⟩
  have hcl := hP.cel
  rw [← hdd, ← hsn, ← hpn, ← hos] at hcl
  replace hdd := hide hdd; replace hsn := hide hsn; replace hpn := hide hpn; replace hos := hide hos; replace hcl := hide hcl; replace hP := hide hP
  go_enter Tryd.func71, Tryd.ntmps71
  go_upto_region 1 with fail
  refine wp_region_lit ?_
  refine list_val (.pointer (some ⟨g, 0, none⟩)) (by kernel_rfl) (by kernel_rfl) ?_
  simp only [nrm]
  refine list_call 87 #[.pointer (some ⟨g, 0, none⟩)] (by kernel_rfl) (by kernel_rfl) ((power_ok g D sg sc C pa pc l _ (unhide hP)).mono ?_)
  rintro r u1 ⟨rfl, hG⟩
  refine ⟨_, rfl, ?_⟩
  obtain ⟨pe, hpe⟩ : ∃ x : Int, x = if D.dead then 7 else 0 := ⟨_, rfl⟩
  rw [← hpe]
  replace hpe := hide hpe
  replace hcl := hide (hG.blk (unhide hcl))
  simp only [nrm]
  (refine wpList_step fun K hK => ?_; replace hK := hide hK; go_simp; refine unhide hK _ _ ?_; clear hK K)
  refine wpList_nil ?_
  cases hd2 : dd
  case true =>
    have hd3 : D.dead = true := by rw [← unhide hdd, hd2]
    have e7 : pe = 7 := by rw [unhide hpe, hd3]; rfl
    subst e7
    have hZ : Hid (Vl (.int .i64 (D.readE i)) w (.returned (.int .i64 (7))) u1) := ⟨by unfold Dk.readE; rw [hd3]; rfl, hG⟩
    replace hG := hide hG
    go_wp2_with fail
    rw [unhide hT]
    exact unhide hZ
  case false =>
    have hd3 : D.dead = false := by rw [← unhide hdd, hd2]
    have e7 : pe = 0 := by rw [unhide hpe, hd3]; rfl
    subst e7
    replace hd3 := hide hd3
    go_upto_region 4 with fail
    by_cases hi0 : i < 0
    · skip
      refine wp_region_lit ?_
      refine list_val (.int .i64 i) (by kernel_rfl) (by kernel_rfl) ?_
      simp only [nrm]
      refine list_val (.bool true) (by kernel_rfl) (by go_simp) ?_
      simp only [nrm]
      refine list_val (.bool true) (by kernel_rfl) (by kernel_rfl) ?_
      simp only [nrm]
      refine wpList_step fun K hK => ?_
      rw [if_neg (ne_true_of_eq_false (by kernel_rfl))]
      refine hK _ _ ?_
      clear hK K
      simp only [nrm]
      refine wpList_step fun K hK => ?_
      rw [if_neg (ne_true_of_eq_false (by kernel_rfl))]
      refine hK _ _ ?_
      clear hK K
      simp only [nrm]
      refine wpList_step fun K hK => ?_
      rw [if_neg (ne_true_of_eq_false (by kernel_rfl))]
      refine hK _ _ ?_
      clear hK K
      simp only [nrm]
      refine wpList_step fun K hK => ?_
      rw [if_neg (ne_true_of_eq_false (by kernel_rfl))]
      refine hK _ _ ?_
      clear hK K
      simp only [nrm]
      refine wpList_step fun K hK => ?_
      rw [if_neg (ne_true_of_eq_false (by kernel_rfl))]
      refine hK _ _ ?_
      clear hK K
      simp only [nrm]
      refine wpList_step fun K hK => ?_
      rw [if_neg (ne_true_of_eq_false (by kernel_rfl))]
      refine hK _ _ ?_
      clear hK K
      simp only [nrm]
      refine wpList_step fun K hK => ?_
      rw [if_neg (ne_true_of_eq_false (by kernel_rfl))]
      refine hK _ _ ?_
      clear hK K
      simp only [nrm]
      refine list_val (.bool true) (by kernel_rfl) (by kernel_rfl) ?_
      simp only [nrm]
      refine wpList_nil ?_
      have hZ : Hid (Vl (.int .i64 (D.readE i)) w (.returned (.int .i64 (2))) u1) := ⟨by have h : ¬ D.has i := (by unfold Dk.has; rw [← unhide hsn]; omega); unfold Dk.readE; rw [unhide hd3]; simp [h], hG⟩
      replace hG := hide hG
      go_wp2_with fail
      rw [unhide hT]
      exact unhide hZ
    by_cases hi1 : (sn : Int) ≤ i
    · skip
      refine wp_region_lit ?_
      refine list_val (.int .i64 i) (by kernel_rfl) (by kernel_rfl) ?_
      simp only [nrm]
      refine list_val (.bool false) (by kernel_rfl) (by go_simp) ?_
      simp only [nrm]
      refine list_val (.bool false) (by kernel_rfl) (by kernel_rfl) ?_
      simp only [nrm]
      refine list_val (.int .i64 i) (by kernel_rfl) (by kernel_rfl) ?_
      simp only [nrm]
      refine list_val (.pointer (some ⟨g, 0, none⟩)) (by kernel_rfl) (by kernel_rfl) ?_
      simp only [nrm]
      refine list_val (.pointer (some ⟨g, 0, none⟩)) (by kernel_rfl) (by kernel_rfl) ?_
      simp only [nrm]
      refine list_val (.pointer (some ⟨g, 0, none⟩)) (by kernel_rfl) (by kernel_rfl) ?_
      simp only [nrm]
      refine list_val (.slice (some ⟨sg, 0, none⟩) sn sc) (by kernel_rfl) (exec_sb _ (.tmp 17) rfl g 0 (by kernel_rfl) (some ⟨sg, 0, none⟩) sn sc (cell_of (unhide hcl) (i := 0) rfl)) ?_
      simp only [nrm]
      refine list_val (.int .i64 sn) (by kernel_rfl) (by kernel_rfl) ?_
      simp only [nrm]
      refine list_val (.bool true) (by kernel_rfl) (by go_simp) ?_
      simp only [nrm]
      refine list_val (.bool true) (by kernel_rfl) (by kernel_rfl) ?_
      simp only [nrm]
      refine wpList_nil ?_
      have hZ : Hid (Vl (.int .i64 (D.readE i)) w (.returned (.int .i64 (2))) u1) := ⟨by have h : ¬ D.has i := (by unfold Dk.has; rw [← unhide hsn]; omega); unfold Dk.readE; rw [unhide hd3]; simp [h], hG⟩
      replace hG := hide hG
      go_wp2_with fail
      rw [unhide hT]
      exact unhide hZ
    refine wp_region_lit ?_
    refine list_val (.int .i64 i) (by kernel_rfl) (by kernel_rfl) ?_
    simp only [nrm]
    refine list_val (.bool false) (by kernel_rfl) (by go_simp) ?_
    simp only [nrm]
    refine list_val (.bool false) (by kernel_rfl) (by kernel_rfl) ?_
    simp only [nrm]
    refine list_val (.int .i64 i) (by kernel_rfl) (by kernel_rfl) ?_
    simp only [nrm]
    refine list_val (.pointer (some ⟨g, 0, none⟩)) (by kernel_rfl) (by kernel_rfl) ?_
    simp only [nrm]
    refine list_val (.pointer (some ⟨g, 0, none⟩)) (by kernel_rfl) (by kernel_rfl) ?_
    simp only [nrm]
    refine list_val (.pointer (some ⟨g, 0, none⟩)) (by kernel_rfl) (by kernel_rfl) ?_
    simp only [nrm]
    refine list_val (.slice (some ⟨sg, 0, none⟩) sn sc) (by kernel_rfl) (exec_sb _ (.tmp 17) rfl g 0 (by kernel_rfl) (some ⟨sg, 0, none⟩) sn sc (cell_of (unhide hcl) (i := 0) rfl)) ?_
    simp only [nrm]
    refine list_val (.int .i64 sn) (by kernel_rfl) (by kernel_rfl) ?_
    simp only [nrm]
    refine list_val (.bool false) (by kernel_rfl) (by go_simp) ?_
    simp only [nrm]
    refine list_val (.bool false) (by kernel_rfl) (by kernel_rfl) ?_
    simp only [nrm]
    refine wpList_nil ?_
    have hZ : Hid (Vl (.int .i64 (D.readE i)) w (.returned (.int .i64 (0))) u1) := ⟨by have h :  D.has i := (by unfold Dk.has; rw [← unhide hsn]; omega); unfold Dk.readE; rw [unhide hd3]; simp [h], hG⟩
    replace hG := hide hG
    go_wp2_with fail
    rw [unhide hT]
    exact unhide hZ
end Go.Proofs.YtaoiejgjdmakjaaDoor
