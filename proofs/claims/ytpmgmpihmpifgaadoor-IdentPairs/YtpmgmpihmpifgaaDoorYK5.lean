/-
  Of layer 16: what the proof leans on.
-/
import Derived.ChangeMaps5
import Derived.Test.YtpmgmpihmpifgaaDoorYK4
namespace Go.Proofs.YtpmgmpihmpifgaaDoor
open Go.RowKit
set_option maxRecDepth 100000
set_option linter.unusedSimpArgs false
set_option linter.unusedVariables false
theorem results_2 {P : Program} {fn : Func} {p q : Tmp} {ty ty2 : TypeId} (h : fn.results = #[.cell p ty, .cell q ty2]) (tmps : Array Value) (w : World) (g g2 : Nat) (t t2 : TypeId) (cs cs2 : Array Value) (fr fr2 : Nat × Nat) (d d2 : TypeDesc)
    (hp : tmps.getD p undef = .pointer (some ⟨g, 0, none⟩)) (hq : tmps.getD q undef = .pointer (some ⟨g2, 0, none⟩)) (hg : w.heap[g]? = some (.cells cs t fr)) (hg2 : w.heap[g2]? = some (.cells cs2 t2 fr2))
    (hu : P.underlying ty = some d) (hd : (match d with | .struct _ | .array _ _ => true | _ => false) = true) (hu2 : P.underlying ty2 = some d2) (hd2 : (match d2 with | .struct _ | .array _ _ => true | _ => false) = true) (hi : (P.info? ty).map (·.size) = some cs.size) (hi2 : (P.info? ty2).map (·.size) = some cs2.size) :
    (results fn tmps).run P w = .ok (.tuple #[.agg cs, .agg cs2]) w := by
  have hp' : tmps[p]?.getD undef = .pointer (some ⟨g, 0, none⟩) := by simpa using hp
  have hq' : tmps[q]?.getD undef = .pointer (some ⟨g2, 0, none⟩) := by simpa using hq
  simp [results, h, hp', hq', asAddr, run_loadVar_row w g t ty cs fr d hg hu hd hi, run_loadVar_row w g2 t2 ty2 cs2 fr2 d2 hg2 hu2 hd2 hi2]
theorem nm_bad {L : List Int} {n : Nat} (h : n < L.length) (hn : isN (L.getD n 0) = false) : nmL L = false := by
  unfold nmL
  have : L.all isN = false := by
    rw [List.all_eq_false]
    refine ⟨L.getD n 0, ?_, by rw [hn]; decide⟩
    have e : L.getD n 0 = L[n] := by simp [h]
    rw [e]
    exact List.getElem_mem h
  rw [this, Bool.and_false]
theorem nm_good {L : List Int} (h : 1 ≤ L.length) (h2 : L.length ≤ 16) (hn : ∀ i, i < L.length → isN (L.getD i 0) = true) : nmL L = true := by
  unfold nmL
  have : L.all isN = true := by
    rw [List.all_eq_true]
    intro x hx
    obtain ⟨i, hi, rfl⟩ := List.getElem_of_mem hx
    have := hn i hi
    simpa [hi] using this
  rw [this]
  simp [h, h2]
theorem isN_low {c : Int} (h : isN c = true) : c < 128 := by
  unfold isN at h
  simp at h
  omega
set_option maxHeartbeats 4000000 in
theorem name_ok (L : List Int) (hL : IsB L) (w : World) : Calls Tryd.prog 10 #[.string (strOfNums L)] w (Bod (nmL L) w) := by
  obtain ⟨T, hT⟩ : ∃ T, T = Bod (nmL L) w := ⟨_, rfl⟩
  rw [← hT]
  replace hT := hide hT
  replace hL := hide hL
  obtain ⟨SS, hSS⟩ : ∃ S, S = strOfNums L := ⟨_, rfl⟩
  obtain ⟨m, hm⟩ : ∃ m, m = L.length := ⟨_, rfl⟩
  rw [← hSS]
  replace hSS := hide hSS
  replace hm := hide hm
  go_enter Tryd.func10, Tryd.ntmps10
  go_upto_region 1 with fail
  by_cases h0 : L = []
  · replace h0 := hide h0
    refine wp_region_lit ?_
    refine list_val (.string SS) (by kernel_rfl) (by kernel_rfl) ?_
    simp only [nrm]
    refine list_val (.bool true) (by kernel_rfl) (exec_seq _ (.tmp 4) (.const (.string ⟨#[]⟩)) rfl L [] (unhide hL) (by intro x hx; cases hx) (by rw [← unhide hSS]; kernel_rfl) rfl true (by rw [unhide h0]; rfl)) ?_
    simp only [nrm]
    refine list_val (.bool true) (by kernel_rfl) (by kernel_rfl) ?_
    simp only [nrm]
    refine wpList_step fun K hK => ?_
    rw [if_neg (ne_true_of_eq_false (by kernel_rfl))]
    refine hK _ _ ?_
    clear hK K
    simp only [nrm]
    refine wpList_step fun K hK => ?_
    rw [if_neg (ne_true_of_eq_false (by kernel_rfl))]
    refine hK _ _ ?_
    clear hK K
    simp only [nrm]
    refine wpList_step fun K hK => ?_
    rw [if_neg (ne_true_of_eq_false (by kernel_rfl))]
    refine hK _ _ ?_
    clear hK K
    simp only [nrm]
    refine list_val (.bool true) (by kernel_rfl) (by kernel_rfl) ?_
    simp only [nrm]
    refine wpList_nil ?_
    have hZ : Hid (T (.returned (.bool false)) w) := by
      rw [unhide hT]
      exact ⟨by rw [unhide h0, show nmL [] = false from rfl], Gr.refl _⟩
    go_wp2_with fail
    exact unhide hZ
  have h1 : 1 ≤ L.length := by cases L with | nil => exact absurd rfl h0 | cons a l => simp
  replace h0 := hide h0
  refine wp_region_lit ?_
  refine list_val (.string SS) (by kernel_rfl) (by kernel_rfl) ?_
  simp only [nrm]
  refine list_val (.bool false) (by kernel_rfl) (exec_seq _ (.tmp 4) (.const (.string ⟨#[]⟩)) rfl L [] (unhide hL) (by intro x hx; cases hx) (by rw [← unhide hSS]; kernel_rfl) rfl false (by simpa using unhide h0)) ?_
  simp only [nrm]
  refine list_val (.bool false) (by kernel_rfl) (by kernel_rfl) ?_
  simp only [nrm]
  refine list_val (.string SS) (by kernel_rfl) (by kernel_rfl) ?_
  simp only [nrm]
  refine list_val (.int .i64 (m : Int)) (by kernel_rfl) (exec_slen _ (.tmp 7) rfl L m (unhide hm).symm (by rw [← unhide hSS]; kernel_rfl)) ?_
  simp only [nrm]
  by_cases h2 : 16 < L.length
  · have h3 : (16 : Int) < (m : Int) := by rw [unhide hm]; omega
    replace h3 := hide h3
    refine list_val (.bool true) (by kernel_rfl) (by have h := unhide h3; go_simp) ?_
    simp only [nrm]
    refine list_val (.bool true) (by kernel_rfl) (by kernel_rfl) ?_
    simp only [nrm]
    refine wpList_nil ?_
    have hZ : Hid (T (.returned (.bool false)) w) := by
      rw [unhide hT]
      exact ⟨by rw [show nmL L = false from by unfold nmL; simp; omega], Gr.refl _⟩
    go_wp2_with fail
    exact unhide hZ
  have h3 : ¬ (16 : Int) < (m : Int) := by rw [unhide hm]; omega
  replace h3 := hide h3
  refine list_val (.bool false) (by kernel_rfl) (by have h := unhide h3; go_simp) ?_
  simp only [nrm]
  refine list_val (.bool false) (by kernel_rfl) (by kernel_rfl) ?_
  simp only [nrm]
  refine wpList_nil ?_
  go_upto_region 3 with fail
  refine wp_region_lit ?_
  refine list_val (.string SS) (by kernel_rfl) (by kernel_rfl) ?_
  simp only [nrm]
  refine list_valw (.pointer (some ⟨w.heap.size, 0, none⟩)) (w.iter SS 0) (by kernel_rfl) (by kernel_rfl) ?_
  have hI0 : Hid ((w.iter SS 0).heap[w.heap.size]? = some (.stringIter SS 0)) := World.iter_heap w SS 0
  have hG0 : Gr w (w.iter SS 0) := (Gr.refl w).alloc _
  generalize World.iter _ _ _ = u1 at *
  simp only [nrm]
  refine wpList_nil ?_
  have hR0 : Hid ((∀ i, i < 0 → isN (L.getD i 0) = true) ∧ Gr w u1) := ⟨fun i hi => absurd hi (by omega), hG0⟩
  clear hG0
  go_wp2_with fail
  go_loopw [] (fun wr => ∃ n : Nat, n ≤ L.length ∧ Hid (wr.heap[w.heap.size]? = some (.stringIter SS n)) ∧ Hid ((∀ i, i < n → isN (L.getD i 0) = true) ∧ Gr w wr)) (fun wr => L.length - wr.iterPos w.heap.size)
  case atStart => exact ⟨0, by omega, hI0, hR0⟩
  case round =>
  clear hI0 hR0
  obtain ⟨n, hn, hI, hR⟩ := hrel
  by_cases hil : n < L.length
  · have hIx := hide (iterPos_of (unhide hI))
    obtain ⟨rn, n', hnx, hn'⟩ := next_any (unhide hL) wr w.heap.size n (by rw [← unhide hSS]; exact unhide hI) hil
    rw [← unhide hSS] at hnx
    have hI2 : Hid ((itr wr w.heap.size SS n').heap[w.heap.size]? = some (.stringIter SS n')) := itr_self SS n' (lt_of_block (unhide hI))
    have hG : Gr w (itr wr w.heap.size SS n') := Gr.itr (unhide hR).2 _ (Nat.le_refl _) SS n'
    generalize itr wr w.heap.size SS n' = v at *
    obtain ⟨c, hc⟩ : ∃ c, c = L.getD n 0 := ⟨_, rfl⟩
    rw [← hc] at hn'
    replace hc := hide hc
    have hZf : Hid (isN c = false → T (.returned (.bool false)) v) := hide (fun h => by
      rw [unhide hT]
      exact ⟨by rw [nm_bad hil (by rw [← unhide hc]; exact h)], hG⟩)
    have hRt : Hid (isN c = true → n' = n + 1 ∧ (∀ i, i < n + 1 → isN (L.getD i 0) = true) ∧ Gr w v) := hide (fun h => ⟨hn' (isN_low h), fun i hi => by
      by_cases e : i = n
      · rw [e, ← unhide hc]; exact h
      · exact (unhide hR).1 i (by omega), hG⟩)
    clear hn' hG hR
    go_upto_region 6 with fail
    by_cases hN : isN c = true
    · have hN2 := hide hN
      clear hN
      refine wp_region_lit ?_
      refine list_val (.string SS) (by kernel_rfl) (by kernel_rfl) ?_
      simp only [nrm]
      refine list_val (.int .i64 (n : Int)) (by kernel_rfl) (by kernel_rfl) ?_
      simp only [nrm]
      refine list_val (.int .u8 c) (by kernel_rfl) (by rw [unhide hc]; exact exec_six _ (.tmp 16) (.tmp 17) rfl L (unhide hL) .i64 n (by rw [← unhide hSS]; kernel_rfl) (by kernel_rfl) hil) ?_
      simp only [nrm]
      refine list_call 27 #[.int .u8 c] (by kernel_rfl) (by kernel_rfl) ((innames_t c (unhide hN2) _).mono ?_)
      rintro r_ w_ ⟨rfl, rfl⟩
      refine ⟨_, rfl, ?_⟩
      simp only [nrm]
      refine list_val (.bool false) (by kernel_rfl) (by kernel_rfl) ?_
      simp only [nrm]
      refine wpList_nil ?_
      obtain ⟨e1, hR2⟩ := unhide hRt (unhide hN2)
      subst e1
      replace hR2 := hide hR2
      clear hRt hZf
      go_wp2_with fail
      go_roundw
      case rel => exact ⟨n + 1, by omega, hI2, hR2⟩
      case measure =>
        have e2 := iterPos_of (unhide hI2)
        have e3 := unhide hIx
        rw [e2, e3]
        omega
    · have hN2 : Hid (isN c = false) := hide (by simpa using hN)
      clear hN
      refine wp_region_lit ?_
      refine list_val (.string SS) (by kernel_rfl) (by kernel_rfl) ?_
      simp only [nrm]
      refine list_val (.int .i64 (n : Int)) (by kernel_rfl) (by kernel_rfl) ?_
      simp only [nrm]
      refine list_val (.int .u8 c) (by kernel_rfl) (by rw [unhide hc]; exact exec_six _ (.tmp 16) (.tmp 17) rfl L (unhide hL) .i64 n (by rw [← unhide hSS]; kernel_rfl) (by kernel_rfl) hil) ?_
      simp only [nrm]
      refine list_call 27 #[.int .u8 c] (by kernel_rfl) (by kernel_rfl) ((innames_f c (unhide hN2) _).mono ?_)
      rintro r_ w_ ⟨rfl, rfl⟩
      refine ⟨_, rfl, ?_⟩
      simp only [nrm]
      refine list_val (.bool true) (by kernel_rfl) (by kernel_rfl) ?_
      simp only [nrm]
      refine wpList_nil ?_
      have hZ := hide (unhide hZf (unhide hN2))
      clear hZf hRt
      go_wp2_with fail
      exact unhide hZ
  · have e : n = L.length := by omega
    have hnx : ∀ ty, (Instr.next (.pointer (some ⟨w.heap.size, 0, none⟩)) true ty).run Tryd.prog wr = .ok (.tuple #[.bool false]) wr := fun ty => next_end (L := L) wr w.heap.size n ty (by rw [← unhide hSS]; exact unhide hI) hil
    have hnm : nmL L = true := nm_good h1 (by omega) (fun i hi => (unhide hR).1 i (by omega))
    have hG := (unhide hR).2
    clear hil e
    have hZ : Hid (T (.returned (.bool true)) wr) := by
      rw [unhide hT]
      exact ⟨by rw [hnm], hG⟩
    go_wp2_with fail
    exact unhide hZ
def kyG (L : List Int) : Prop := kf L = 64 ∧ L.length = 64
instance (L : List Int) : Decidable (kyG L) := by unfold kyG; exact inferInstance
def kyK (L : List Int) : List Int := if kyG L then kyS L 64 else Z32
def kyE (L : List Int) : Int := if kyG L then 0 else 261
def kyP (L : List Int) : Int := if kyG L then 0 else (kf L : Int)
def Kyd (L : List Int) (w : World) (r : Ending) (w' : World) : Prop := r = .returned (.tuple #[.agg (kc (kyK L)), .agg (spv (kyE L) (kyP L))]) ∧ Gr w w'
theorem kyd_no {L : List Int} {n : Nat} (h1 : ∀ i, i < n → isD (L.getD i 0) = true) (h2 : n ≤ 64) (h3 : n ≤ L.length) (h4 : n = 64 ∨ n = L.length ∨ isD (L.getD n 0) = false) (h5 : ¬ (n = 64 ∧ L.length = 64)) : kyK L = Z32 ∧ kyE L = 261 ∧ kyP L = (n : Int) := by
  have e := kf_eq h1 h2 h3 h4
  have hg : ¬ kyG L := by unfold kyG; rw [e]; exact h5
  unfold kyK kyE kyP
  rw [if_neg hg, if_neg hg, if_neg hg, e]
  exact ⟨rfl, rfl, rfl⟩
theorem kyd_yes {L : List Int} (h1 : ∀ i, i < 64 → isD (L.getD i 0) = true) (h2 : L.length = 64) : kyK L = kyS L 64 ∧ kyE L = 0 ∧ kyP L = 0 := by
  have e := kf_eq h1 (Nat.le_refl _) (by omega) (.inl rfl)
  have hg : kyG L := ⟨e, h2⟩
  unfold kyK kyE kyP
  rw [if_pos hg, if_pos hg, if_pos hg]
  exact ⟨rfl, rfl, rfl⟩
theorem Z32_len : Z32.length = 32 := rfl
set_option maxHeartbeats 4000000 in
theorem ikey_ok (L : List Int) (hL : IsB L) (w : World) : Calls Tryd.prog 12 #[.string (strOfNums L)] w (Kyd L w) := by
  obtain ⟨T, hT⟩ : ∃ T, T = Kyd L w := ⟨_, rfl⟩
  rw [← hT]
  replace hT := hide hT
  replace hL := hide hL
  obtain ⟨SS, hSS⟩ : ∃ S, S = strOfNums L := ⟨_, rfl⟩
  obtain ⟨m, hm⟩ : ∃ m, m = L.length := ⟨_, rfl⟩
  rw [← hSS]
  replace hSS := hide hSS
  replace hm := hide hm
  go_enter Tryd.func12, Tryd.ntmps12
  go_upto_region 2 with fail
  have hB := (((Bl.nil w).new #[.int .u8 0, .int .u8 0, .int .u8 0, .int .u8 0, .int .u8 0, .int .u8 0, .int .u8 0, .int .u8 0, .int .u8 0, .int .u8 0, .int .u8 0, .int .u8 0, .int .u8 0, .int .u8 0, .int .u8 0, .int .u8 0, .int .u8 0, .int .u8 0, .int .u8 0, .int .u8 0, .int .u8 0, .int .u8 0, .int .u8 0, .int .u8 0, .int .u8 0, .int .u8 0, .int .u8 0, .int .u8 0, .int .u8 0, .int .u8 0, .int .u8 0, .int .u8 0] 25).new #[.int .i64 0, .int .i64 0] 28).new #[.int .u8 0, .int .u8 0, .int .u8 0, .int .u8 0, .int .u8 0, .int .u8 0, .int .u8 0, .int .u8 0, .int .u8 0, .int .u8 0, .int .u8 0, .int .u8 0, .int .u8 0, .int .u8 0, .int .u8 0, .int .u8 0, .int .u8 0, .int .u8 0, .int .u8 0, .int .u8 0, .int .u8 0, .int .u8 0, .int .u8 0, .int .u8 0, .int .u8 0, .int .u8 0, .int .u8 0, .int .u8 0, .int .u8 0, .int .u8 0, .int .u8 0, .int .u8 0] 25
  simp only [List.nil_append, List.cons_append, size_alloc] at hB
  have hsz : (((w.alloc (.cells #[.int .u8 0, .int .u8 0, .int .u8 0, .int .u8 0, .int .u8 0, .int .u8 0, .int .u8 0, .int .u8 0, .int .u8 0, .int .u8 0, .int .u8 0, .int .u8 0, .int .u8 0, .int .u8 0, .int .u8 0, .int .u8 0, .int .u8 0, .int .u8 0, .int .u8 0, .int .u8 0, .int .u8 0, .int .u8 0, .int .u8 0, .int .u8 0, .int .u8 0, .int .u8 0, .int .u8 0, .int .u8 0, .int .u8 0, .int .u8 0, .int .u8 0, .int .u8 0] 25 (0, 0))).alloc (.cells #[.int .i64 0, .int .i64 0] 28 (0, 0))).alloc (.cells #[.int .u8 0, .int .u8 0, .int .u8 0, .int .u8 0, .int .u8 0, .int .u8 0, .int .u8 0, .int .u8 0, .int .u8 0, .int .u8 0, .int .u8 0, .int .u8 0, .int .u8 0, .int .u8 0, .int .u8 0, .int .u8 0, .int .u8 0, .int .u8 0, .int .u8 0, .int .u8 0, .int .u8 0, .int .u8 0, .int .u8 0, .int .u8 0, .int .u8 0, .int .u8 0, .int .u8 0, .int .u8 0, .int .u8 0, .int .u8 0, .int .u8 0, .int .u8 0] 25 (0, 0))).heap.size = w.heap.size + 1 + 1 + 1 := by simp only [size_alloc]
  generalize World.alloc _ _ = u at *
  replace hB : Bl w [⟨w.heap.size, kc Z32, 25⟩, ⟨w.heap.size + 1, spv 0 0, 28⟩, ⟨w.heap.size + 1 + 1, kc (kyS L 0), 25⟩] u := hB
  refine wp_region_lit ?_
  refine list_val (.string SS) (by kernel_rfl) (by kernel_rfl) ?_
  simp only [nrm]
  refine list_valw (.pointer (some ⟨u.heap.size, 0, none⟩)) (u.iter SS 0) (by kernel_rfl) (by kernel_rfl) ?_
  have hI0 : Hid ((u.iter SS 0).heap[u.heap.size]? = some (.stringIter SS 0)) := World.iter_heap u SS 0
  replace hB : Hid (Bl w [⟨w.heap.size, kc Z32, 25⟩, ⟨w.heap.size + 1, spv 0 0, 28⟩, ⟨w.heap.size + 1 + 1, kc (kyS L 0), 25⟩] (u.iter SS 0)) := hide (hB.more ((Gr.refl u).alloc _))
  generalize World.iter _ _ _ = u1 at *
  rw [hsz] at hI0 ⊢
  clear hsz
  simp only [nrm]
  refine wpList_nil ?_
  go_wp2_with fail
  go_loopw [] (fun wr => ∃ (n : Nat) (M : List Int), n ≤ 64 ∧ n ≤ L.length ∧ Hid (M = kyS L n) ∧ Hid (∀ i, i < n → isD (L.getD i 0) = true) ∧ Hid (wr.heap[w.heap.size + 1 + 1 + 1]? = some (.stringIter SS n)) ∧ Hid (Bl w [⟨w.heap.size, kc Z32, 25⟩, ⟨w.heap.size + 1, spv 0 0, 28⟩, ⟨w.heap.size + 1 + 1, kc M, 25⟩] wr)) (fun wr => L.length - wr.iterPos (w.heap.size + 1 + 1 + 1))
  case atStart => exact ⟨0, _, by omega, by omega, rfl, hide (fun i hi => absurd hi (by omega)), hI0, hB⟩
  case round =>
  clear hI0 hB
  obtain ⟨n, M, hn6, hnl, hM, hD, hI, hB⟩ := hrel
  have hMl : M.length = 32 := by rw [unhide hM]; exact kyS_len L n
  by_cases hil : n < L.length
  · have hIx := hide (iterPos_of (unhide hI))
    obtain ⟨rn, n', hnx, hn'⟩ := next_any (unhide hL) wr (w.heap.size + 1 + 1 + 1) n (by rw [← unhide hSS]; exact unhide hI) hil
    rw [← unhide hSS] at hnx
    have hI2 : Hid ((itr wr (w.heap.size + 1 + 1 + 1) SS n').heap[w.heap.size + 1 + 1 + 1]? = some (.stringIter SS n')) := itr_self SS n' (lt_of_block (unhide hI))
    replace hB : Hid (Bl w [⟨w.heap.size, kc Z32, 25⟩, ⟨w.heap.size + 1, spv 0 0, 28⟩, ⟨w.heap.size + 1 + 1, kc M, 25⟩] (itr wr (w.heap.size + 1 + 1 + 1) SS n')) := hide ((unhide hB).itr _ (by omega) (by intro x hx; simp only [List.mem_cons, List.not_mem_nil, or_false] at hx; rcases hx with rfl | rfl | rfl <;> dsimp only <;> omega) SS n')
    generalize itr wr (w.heap.size + 1 + 1 + 1) SS n' = v at *
    obtain ⟨c, hc⟩ : ∃ c, c = L.getD n 0 := ⟨_, rfl⟩
    rw [← hc] at hn'
    replace hc := hide hc; replace hn' := hide hn'
    go_upto_region 5 with fail
    by_cases hV : isD c = true
    · have hV2 := hide hV
      clear hV
      refine wp_region_lit ?_
      refine list_val (.string SS) (by kernel_rfl) (by kernel_rfl) ?_
      simp only [nrm]
      refine list_val (.int .i64 (n : Int)) (by kernel_rfl) (by kernel_rfl) ?_
      simp only [nrm]
      refine list_val (.int .u8 c) (by kernel_rfl) (by rw [unhide hc]; exact exec_six _ (.tmp 14) (.tmp 15) rfl L (unhide hL) .i64 n (by rw [← unhide hSS]; kernel_rfl) (by kernel_rfl) hil) ?_
      simp only [nrm]
      refine list_call 28 #[.int .u8 c] (by kernel_rfl) (by kernel_rfl) ((valueof_t c (unhide hV2) _).mono ?_)
      rintro r_ w_ ⟨rfl, rfl⟩
      refine ⟨_, rfl, ?_⟩
      simp only [nrm]
      refine list_val (.tuple #[.int .u8 (dv c), .bool true]) (by kernel_rfl) (by kernel_rfl) ?_
      simp only [nrm]
      refine list_val (.int .u8 (dv c)) (by kernel_rfl) (by kernel_rfl) ?_
      simp only [nrm]
      refine list_val (.bool true) (by kernel_rfl) (by kernel_rfl) ?_
      simp only [nrm]
      (refine wpList_step fun K hK => ?_; replace hK := hide hK; go_simp; refine unhide hK _ _ ?_; clear hK K)
      (refine wpList_step fun K hK => ?_; replace hK := hide hK; go_simp; refine unhide hK _ _ ?_; clear hK K)
      refine wpList_nil ?_
      go_upto_region 6 with fail
      by_cases h64 : n = 64
      · have h64h := hide h64
        subst h64
        clear h64h
        refine wp_region_lit ?_
        refine list_val (.bool true) (by kernel_rfl) (by kernel_rfl) ?_
        simp only [nrm]
        refine list_val (.bool false) (by kernel_rfl) (by kernel_rfl) ?_
        simp only [nrm]
        refine list_val (.bool false) (by kernel_rfl) (by kernel_rfl) ?_
        simp only [nrm]
        refine list_val (.int .i64 ((64 : Nat) : Int)) (by kernel_rfl) (by kernel_rfl) ?_
        simp only [nrm]
        refine list_val (.bool true) (by kernel_rfl) (by kernel_rfl) ?_
        simp only [nrm]
        refine list_val (.bool true) (by kernel_rfl) (by kernel_rfl) ?_
        simp only [nrm]
        refine wpList_nil ?_
        go_upto_region 7 with fail
        refine wp_region_lit ?_
        refine list_val (.agg (kc Z32)) (by kernel_rfl) (by kernel_rfl) ?_
        simp only [nrm]
        refine list_val (.int .i64 ((64 : Nat) : Int)) (by kernel_rfl) (by kernel_rfl) ?_
        simp only [nrm]
        refine list_call 29 #[.int .i64 ((64 : Nat) : Int)] (by kernel_rfl) (by kernel_rfl) ((nokey_ok ((64 : Nat) : Int) _).mono ?_)
        rintro r_ y1 ⟨rfl, hg⟩
        replace hB := hide ((unhide hB).more hg)
        clear hg
        refine ⟨_, rfl, ?_⟩
        simp only [nrm]
        replace hB := unhide hB
        refine list_store 25 (.tmp 2) (.tmp 26) w.heap.size (kc Z32) 25 (kc Z32) (by kernel_rfl) rfl (by kernel_rfl) (by kernel_rfl) (hB.get 0 (x := ⟨w.heap.size, kc Z32, 25⟩) rfl) (by rw [Tryd.infoKey, kc_size]; rfl) rfl (kc_one _) ?_
        replace hB := hB.set 0 (x := ⟨w.heap.size, kc Z32, 25⟩) rfl (kc Z32)
        simp only [List.set_cons_zero, List.set_cons_succ] at hB
        generalize World.setRow _ _ _ = y2 at *
        simp only [nrm]
        refine list_store 28 (.tmp 3) (.tmp 28) (w.heap.size + 1) (spv 261 ((64 : Nat) : Int)) 28 (spv 0 0) (by kernel_rfl) rfl (by kernel_rfl) (by kernel_rfl) (hB.get 1 (x := ⟨w.heap.size + 1, spv 0 0, 28⟩) rfl) (by rw [Tryd.infoSpot]; rfl) rfl (spv_one _ _) ?_
        replace hB := hB.set 1 (x := ⟨w.heap.size + 1, spv 0 0, 28⟩) rfl (spv 261 ((64 : Nat) : Int))
        simp only [List.set_cons_zero, List.set_cons_succ] at hB
        generalize World.setRow _ _ _ = y3 at *
        simp only [nrm]
        refine wpList_nil ?_
        obtain ⟨e1, e2, e3⟩ := kyd_no (L := L) (n := 64) (unhide hD) (by omega) (by omega) (.inl rfl) (by omega)
        replace hB := hide hB
        go_wp2_with fail
        replace hB := unhide hB
        rw [unhide hT]
        exact bodyPost_ret (v := .tuple #[.agg (kc Z32), .agg (spv 261 ((64 : Nat) : Int))]) (results_2 Tryd.results12 _ _ w.heap.size (w.heap.size + 1) 25 28 (kc Z32) (spv 261 ((64 : Nat) : Int)) (0, 0) (0, 0) _ _ rfl rfl (hB.get 0 (x := ⟨w.heap.size, kc Z32, 25⟩) rfl) (hB.get 1 (x := ⟨w.heap.size + 1, spv 261 ((64 : Nat) : Int), 28⟩) rfl) Tryd.underlying25 rfl Tryd.underlying28 rfl (by rw [Tryd.infoKey, kc_size]; rfl) (by rw [Tryd.infoSpot]; rfl)) rfl ⟨by rw [e1, e2, e3], hB.gr⟩
      · have h64i : ¬ (n : Int) = 64 := by omega
        replace h64 := hide h64
        replace h64i := hide h64i
        refine wp_region_lit ?_
        refine list_val (.bool true) (by kernel_rfl) (by kernel_rfl) ?_
        simp only [nrm]
        refine list_val (.bool false) (by kernel_rfl) (by kernel_rfl) ?_
        simp only [nrm]
        refine list_val (.bool false) (by kernel_rfl) (by kernel_rfl) ?_
        simp only [nrm]
        refine list_val (.int .i64 (n : Int)) (by kernel_rfl) (by kernel_rfl) ?_
        simp only [nrm]
        refine list_val (.bool false) (by kernel_rfl) (by have h := unhide h64i; go_simp) ?_
        simp only [nrm]
        refine list_val (.bool false) (by kernel_rfl) (by kernel_rfl) ?_
        simp only [nrm]
        refine wpList_nil ?_
        have hn4 : n < 64 := by have := unhide h64; omega
        obtain ⟨q, hq⟩ : ∃ q, q = n / 2 := ⟨_, rfl⟩
        have hq2 : q < 32 := by omega
        have eq0 : Int.tdiv (n : Int) 2 = (q : Int) := by rw [Int.tdiv_eq_ediv_of_nonneg (by omega)]; omega
        have eq1 : IntKind.i64.wrap (q : Int) = (q : Int) := by rw [IntKind.wrap_i64]; omega
        obtain ⟨x, hx⟩ : ∃ x, x = M.getD q 0 := ⟨_, rfl⟩
        have hcx := kc_cell ((unhide hB).get 2 (x := ⟨w.heap.size + 1 + 1, kc M, 25⟩) rfl) q (by omega)
        have hfz := froz_of (i := q) ((unhide hB).get 2 (x := ⟨w.heap.size + 1 + 1, kc M, 25⟩) rfl)
        rw [← hx] at hcx
        replace eq0 := hide eq0; replace eq1 := hide eq1; replace hx := hide hx; replace hcx := hide hcx; replace hfz := hide hfz; replace hq := hide hq; replace hn4 := hide hn4
        go_upto_region 8 with fail
        refine wp_region_lit ?_
        refine list_val (.int .i64 (n : Int)) (by kernel_rfl) (by kernel_rfl) ?_
        simp only [nrm]
        refine list_val (.int .i64 (q : Int)) (by kernel_rfl) (by have h0 := unhide eq0; have h1 := unhide eq1; go_simp) ?_
        simp only [nrm]
        refine list_val (.int .i64 (n : Int)) (by kernel_rfl) (by kernel_rfl) ?_
        simp only [nrm]
        refine list_val (.int .i64 (q : Int)) (by kernel_rfl) (by have h0 := unhide eq0; have h1 := unhide eq1; go_simp) ?_
        simp only [nrm]
        refine list_val (.pointer (some ⟨w.heap.size + 1 + 1, q, none⟩)) (by kernel_rfl) (exec_kat _ (.tmp 4) (.tmp 32) rfl (w.heap.size + 1 + 1) q (by kernel_rfl) (by kernel_rfl) hq2) ?_
        simp only [nrm]
        refine list_val (.int .u8 x) (by kernel_rfl) (exec_u8 _ (.tmp 33) rfl (w.heap.size + 1 + 1) q (by kernel_rfl) x (unhide hcx)) ?_
        simp only [nrm]
        refine list_val (.int .u8 (IntKind.u8.wrap (x * 16))) (by kernel_rfl) (by kernel_rfl) ?_
        simp only [nrm]
        refine list_val (.int .u8 (dv c)) (by kernel_rfl) (by kernel_rfl) ?_
        simp only [nrm]
        refine list_val (.int .u8 (bits .or .u8 (IntKind.u8.wrap (x * 16)) (dv c))) (by kernel_rfl) (by kernel_rfl) ?_
        simp only [nrm]
        refine list_val (.pointer (some ⟨w.heap.size + 1 + 1, q, none⟩)) (by kernel_rfl) (exec_kat _ (.tmp 4) (.tmp 30) rfl (w.heap.size + 1 + 1) q (by kernel_rfl) (by kernel_rfl) hq2) ?_
        simp only [nrm]
        refine wpList_step fun K_ hQ => ?_
        rw [if_pos (by kernel_rfl)]
        refine store_u8 (.tmp 38) (.tmp 37) rfl (w.heap.size + 1 + 1) q (by kernel_rfl) (bits .or .u8 (IntKind.u8.wrap (x * 16)) (dv c)) (by kernel_rfl) (.int .u8 x) (unhide hcx) (unhide hfz) ?_
        refine hQ _ _ ?_
        clear hQ K_
        have hB2 := (unhide hB).cell 2 (x := ⟨w.heap.size + 1 + 1, kc M, 25⟩) rfl q (.int .u8 (bits .or .u8 (IntKind.u8.wrap (x * 16)) (dv c)))
        simp only [List.set_cons_zero, List.set_cons_succ, kc_set] at hB2
        have hI3 := hide ((Below.heap_setCell _ ⟨w.heap.size + 1 + 1, q, none⟩ (.int .u8 (bits .or .u8 (IntKind.u8.wrap (x * 16)) (dv c))) (w.heap.size + 1 + 1 + 1) (by dsimp only; omega)).trans (unhide hI2))
        generalize World.setCell _ _ _ = v2 at *
        simp only [nrm]
        refine wpList_nil ?_
        have e1 : n' = n + 1 := unhide hn' (by have := isD_cases (unhide hV2); omega)
        subst e1
        have hM2 : Hid (M.set q (bits .or .u8 (IntKind.u8.wrap (x * 16)) (dv c)) = kyS L (n + 1)) := hide (by
          rw [kyS, ← unhide hM, ← unhide hq, ← unhide hx, ← unhide hc])
        have hD2 : Hid (∀ i, i < n + 1 → isD (L.getD i 0) = true) := hide (fun i hi => by
          by_cases e : i = n
          · rw [e, ← unhide hc]; exact unhide hV2
          · exact unhide hD i (by omega))
        replace hB2 := hide hB2
        clear hB hD hM
        go_wp2_with fail
        go_roundw
        case rel => exact ⟨n + 1, _, by have := unhide hn4; omega, by omega, hM2, hD2, hI3, hB2⟩
        case measure =>
          have e2 := iterPos_of (unhide hI3)
          have e3 := unhide hIx
          rw [e2, e3]
          omega
    · have hV2 : Hid (isD c = false) := hide (by simpa using hV)
      clear hV
      refine wp_region_lit ?_
      refine list_val (.string SS) (by kernel_rfl) (by kernel_rfl) ?_
      simp only [nrm]
      refine list_val (.int .i64 (n : Int)) (by kernel_rfl) (by kernel_rfl) ?_
      simp only [nrm]
      refine list_val (.int .u8 c) (by kernel_rfl) (by rw [unhide hc]; exact exec_six _ (.tmp 14) (.tmp 15) rfl L (unhide hL) .i64 n (by rw [← unhide hSS]; kernel_rfl) (by kernel_rfl) hil) ?_
      simp only [nrm]
      refine list_call 28 #[.int .u8 c] (by kernel_rfl) (by kernel_rfl) ((valueof_f c (unhide hV2) _).mono ?_)
      rintro r_ w_ ⟨rfl, rfl⟩
      refine ⟨_, rfl, ?_⟩
      simp only [nrm]
      refine list_val (.tuple #[.int .u8 0, .bool false]) (by kernel_rfl) (by kernel_rfl) ?_
      simp only [nrm]
      refine list_val (.int .u8 0) (by kernel_rfl) (by kernel_rfl) ?_
      simp only [nrm]
      refine list_val (.bool false) (by kernel_rfl) (by kernel_rfl) ?_
      simp only [nrm]
      (refine wpList_step fun K hK => ?_; replace hK := hide hK; go_simp; refine unhide hK _ _ ?_; clear hK K)
      (refine wpList_step fun K hK => ?_; replace hK := hide hK; go_simp; refine unhide hK _ _ ?_; clear hK K)
      refine wpList_nil ?_
      go_upto_region 6 with fail
      refine wp_region_lit ?_
      refine list_val (.bool false) (by kernel_rfl) (by kernel_rfl) ?_
      simp only [nrm]
      refine list_val (.bool true) (by kernel_rfl) (by kernel_rfl) ?_
      simp only [nrm]
      refine list_val (.bool true) (by kernel_rfl) (by kernel_rfl) ?_
      simp only [nrm]
      refine wpList_step fun K hK => ?_
      rw [if_neg (ne_true_of_eq_false (by kernel_rfl))]
      refine hK _ _ ?_
      clear hK K
      simp only [nrm]
      refine wpList_step fun K hK => ?_
      rw [if_neg (ne_true_of_eq_false (by kernel_rfl))]
      refine hK _ _ ?_
      clear hK K
      simp only [nrm]
      refine list_val (.bool true) (by kernel_rfl) (by kernel_rfl) ?_
      simp only [nrm]
      refine wpList_nil ?_
      go_upto_region 7 with fail
      refine wp_region_lit ?_
      refine list_val (.agg (kc Z32)) (by kernel_rfl) (by kernel_rfl) ?_
      simp only [nrm]
      refine list_val (.int .i64 (n : Int)) (by kernel_rfl) (by kernel_rfl) ?_
      simp only [nrm]
      refine list_call 29 #[.int .i64 (n : Int)] (by kernel_rfl) (by kernel_rfl) ((nokey_ok (n : Int) _).mono ?_)
      rintro r_ y1 ⟨rfl, hg⟩
      replace hB := hide ((unhide hB).more hg)
      clear hg
      refine ⟨_, rfl, ?_⟩
      simp only [nrm]
      replace hB := unhide hB
      refine list_store 25 (.tmp 2) (.tmp 26) w.heap.size (kc Z32) 25 (kc Z32) (by kernel_rfl) rfl (by kernel_rfl) (by kernel_rfl) (hB.get 0 (x := ⟨w.heap.size, kc Z32, 25⟩) rfl) (by rw [Tryd.infoKey, kc_size]; rfl) rfl (kc_one _) ?_
      replace hB := hB.set 0 (x := ⟨w.heap.size, kc Z32, 25⟩) rfl (kc Z32)
      simp only [List.set_cons_zero, List.set_cons_succ] at hB
      generalize World.setRow _ _ _ = y2 at *
      simp only [nrm]
      refine list_store 28 (.tmp 3) (.tmp 28) (w.heap.size + 1) (spv 261 (n : Int)) 28 (spv 0 0) (by kernel_rfl) rfl (by kernel_rfl) (by kernel_rfl) (hB.get 1 (x := ⟨w.heap.size + 1, spv 0 0, 28⟩) rfl) (by rw [Tryd.infoSpot]; rfl) rfl (spv_one _ _) ?_
      replace hB := hB.set 1 (x := ⟨w.heap.size + 1, spv 0 0, 28⟩) rfl (spv 261 (n : Int))
      simp only [List.set_cons_zero, List.set_cons_succ] at hB
      generalize World.setRow _ _ _ = y3 at *
      simp only [nrm]
      refine wpList_nil ?_
      obtain ⟨e1, e2, e3⟩ := kyd_no (L := L) (n := n) (unhide hD) hn6 hnl (.inr (.inr (by rw [← unhide hc]; exact unhide hV2))) (by omega)
      replace hB := hide hB
      go_wp2_with fail
      replace hB := unhide hB
      rw [unhide hT]
      exact bodyPost_ret (v := .tuple #[.agg (kc Z32), .agg (spv 261 (n : Int))]) (results_2 Tryd.results12 _ _ w.heap.size (w.heap.size + 1) 25 28 (kc Z32) (spv 261 (n : Int)) (0, 0) (0, 0) _ _ rfl rfl (hB.get 0 (x := ⟨w.heap.size, kc Z32, 25⟩) rfl) (hB.get 1 (x := ⟨w.heap.size + 1, spv 261 (n : Int), 28⟩) rfl) Tryd.underlying25 rfl Tryd.underlying28 rfl (by rw [Tryd.infoKey, kc_size]; rfl) (by rw [Tryd.infoSpot]; rfl)) rfl ⟨by rw [e1, e2, e3], hB.gr⟩
  · have e : n = m := by rw [unhide hm]; omega
    have hnx : ∀ ty, (Instr.next (.pointer (some ⟨w.heap.size + 1 + 1 + 1, 0, none⟩)) true ty).run Tryd.prog wr = .ok (.tuple #[.bool false]) wr := fun ty => next_end (L := L) wr (w.heap.size + 1 + 1 + 1) n ty (by rw [← unhide hSS]; exact unhide hI) hil
    subst e
    have hln := unhide hm
    replace hln := hide hln
    go_upto_region 9 with fail
    by_cases h64 : n < 64
    · have h6i : (n : Int) < 64 := by omega
      replace h64 := hide h64
      replace h6i := hide h6i
      refine wp_region_lit ?_
      refine list_val (.string SS) (by kernel_rfl) (by kernel_rfl) ?_
      simp only [nrm]
      refine list_val (.int .i64 (n : Int)) (by kernel_rfl) (exec_slen _ (.tmp 39) rfl L n (unhide hm).symm (by rw [← unhide hSS]; kernel_rfl)) ?_
      simp only [nrm]
      refine list_val (.bool true) (by kernel_rfl) (by have h := unhide h6i; go_simp) ?_
      simp only [nrm]
      refine wpList_nil ?_
      go_upto_region 10 with fail
      refine wp_region_lit ?_
      refine list_val (.agg (kc Z32)) (by kernel_rfl) (by kernel_rfl) ?_
      simp only [nrm]
      refine list_val (.string SS) (by kernel_rfl) (by kernel_rfl) ?_
      simp only [nrm]
      refine list_val (.int .i64 (n : Int)) (by kernel_rfl) (exec_slen _ (.tmp 43) rfl L n (unhide hm).symm (by rw [← unhide hSS]; kernel_rfl)) ?_
      simp only [nrm]
      refine list_call 29 #[.int .i64 (n : Int)] (by kernel_rfl) (by kernel_rfl) ((nokey_ok (n : Int) _).mono ?_)
      rintro r_ y1 ⟨rfl, hg⟩
      replace hB := hide ((unhide hB).more hg)
      clear hg
      refine ⟨_, rfl, ?_⟩
      simp only [nrm]
      replace hB := unhide hB
      refine list_store 25 (.tmp 2) (.tmp 42) w.heap.size (kc Z32) 25 (kc Z32) (by kernel_rfl) rfl (by kernel_rfl) (by kernel_rfl) (hB.get 0 (x := ⟨w.heap.size, kc Z32, 25⟩) rfl) (by rw [Tryd.infoKey, kc_size]; rfl) rfl (kc_one _) ?_
      replace hB := hB.set 0 (x := ⟨w.heap.size, kc Z32, 25⟩) rfl (kc Z32)
      simp only [List.set_cons_zero, List.set_cons_succ] at hB
      generalize World.setRow _ _ _ = y2 at *
      simp only [nrm]
      refine list_store 28 (.tmp 3) (.tmp 45) (w.heap.size + 1) (spv 261 (n : Int)) 28 (spv 0 0) (by kernel_rfl) rfl (by kernel_rfl) (by kernel_rfl) (hB.get 1 (x := ⟨w.heap.size + 1, spv 0 0, 28⟩) rfl) (by rw [Tryd.infoSpot]; rfl) rfl (spv_one _ _) ?_
      replace hB := hB.set 1 (x := ⟨w.heap.size + 1, spv 0 0, 28⟩) rfl (spv 261 (n : Int))
      simp only [List.set_cons_zero, List.set_cons_succ] at hB
      generalize World.setRow _ _ _ = y3 at *
      simp only [nrm]
      refine wpList_nil ?_
      obtain ⟨e1, e2, e3⟩ := kyd_no (L := L) (n := n) (unhide hD) hn6 hnl (.inr (.inl (unhide hln))) (by have := unhide h64; omega)
      replace hB := hide hB
      go_wp2_with fail
      replace hB := unhide hB
      rw [unhide hT]
      exact bodyPost_ret (v := .tuple #[.agg (kc Z32), .agg (spv 261 (n : Int))]) (results_2 Tryd.results12 _ _ w.heap.size (w.heap.size + 1) 25 28 (kc Z32) (spv 261 (n : Int)) (0, 0) (0, 0) _ _ rfl rfl (hB.get 0 (x := ⟨w.heap.size, kc Z32, 25⟩) rfl) (hB.get 1 (x := ⟨w.heap.size + 1, spv 261 (n : Int), 28⟩) rfl) Tryd.underlying25 rfl Tryd.underlying28 rfl (by rw [Tryd.infoKey, kc_size]; rfl) (by rw [Tryd.infoSpot]; rfl)) rfl ⟨by rw [e1, e2, e3], hB.gr⟩
    · have e6 : n = 64 := by omega
      subst e6
      clear h64
      refine wp_region_lit ?_
      refine list_val (.string SS) (by kernel_rfl) (by kernel_rfl) ?_
      simp only [nrm]
      refine list_val (.int .i64 ((64 : Nat) : Int)) (by kernel_rfl) (exec_slen _ (.tmp 39) rfl L 64 (unhide hm).symm (by rw [← unhide hSS]; kernel_rfl)) ?_
      simp only [nrm]
      refine list_val (.bool false) (by kernel_rfl) (by kernel_rfl) ?_
      simp only [nrm]
      refine wpList_nil ?_
      go_upto_region 11 with fail
      replace hB := unhide hB
      refine wp_region_lit ?_
      refine list_val (.agg (kc M)) (by kernel_rfl) (exec_arr _ 25 (.tmp 4) rfl (w.heap.size + 1 + 1) (by kernel_rfl) (kc M) 25 _ (hB.get 2 (x := ⟨w.heap.size + 1 + 1, kc M, 25⟩) rfl) Tryd.underlying25 rfl (by rw [Tryd.infoKey, kc_size, hMl])) ?_
      simp only [nrm]
      refine list_val (.agg (spv 0 0)) (by kernel_rfl) (by kernel_rfl) ?_
      simp only [nrm]
      refine list_store 25 (.tmp 2) (.tmp 46) w.heap.size (kc M) 25 (kc Z32) (by kernel_rfl) rfl (by kernel_rfl) (by kernel_rfl) (hB.get 0 (x := ⟨w.heap.size, kc Z32, 25⟩) rfl) (by rw [Tryd.infoKey, kc_size, hMl]) (by rw [kc_size, kc_size, hMl]; rfl) (kc_one _) ?_
      replace hB := hB.set 0 (x := ⟨w.heap.size, kc Z32, 25⟩) rfl (kc M)
      simp only [List.set_cons_zero, List.set_cons_succ] at hB
      generalize World.setRow _ _ _ = y2 at *
      simp only [nrm]
      refine list_store 28 (.tmp 3) (.tmp 47) (w.heap.size + 1) (spv 0 0) 28 (spv 0 0) (by kernel_rfl) rfl (by kernel_rfl) (by kernel_rfl) (hB.get 1 (x := ⟨w.heap.size + 1, spv 0 0, 28⟩) rfl) (by rw [Tryd.infoSpot]; rfl) rfl (spv_one _ _) ?_
      replace hB := hB.set 1 (x := ⟨w.heap.size + 1, spv 0 0, 28⟩) rfl (spv 0 0)
      simp only [List.set_cons_zero, List.set_cons_succ] at hB
      generalize World.setRow _ _ _ = y3 at *
      simp only [nrm]
      refine wpList_nil ?_
      obtain ⟨e1, e2, e3⟩ := kyd_yes (L := L) (unhide hD) (unhide hln).symm
      have e4 := unhide hM
      replace hB := hide hB; replace e4 := hide e4
      go_wp2_with fail
      replace hB := unhide hB
      rw [unhide hT]
      exact bodyPost_ret (v := .tuple #[.agg (kc M), .agg (spv 0 0)]) (results_2 Tryd.results12 _ _ w.heap.size (w.heap.size + 1) 25 28 (kc M) (spv 0 0) (0, 0) (0, 0) _ _ rfl rfl (hB.get 0 (x := ⟨w.heap.size, kc M, 25⟩) rfl) (hB.get 1 (x := ⟨w.heap.size + 1, spv 0 0, 28⟩) rfl) Tryd.underlying25 rfl Tryd.underlying28 rfl (by rw [Tryd.infoKey, kc_size, hMl]) (by rw [Tryd.infoSpot]; rfl)) rfl ⟨by rw [e1, e2, e3, unhide e4], hB.gr⟩
set_option maxHeartbeats 4000000 in
theorem finger_ok (K : List Int) (hK : K.length = 32) (hKb : IsB K) (w : World) (hF : Fst w) : Calls Tryd.prog 16 #[.agg (kc K)] w (Txd (fpL (sumL K) 8) w) := by
  obtain ⟨T, hT⟩ : ∃ T, T = Txd (fpL (sumL K) 8) w := ⟨_, rfl⟩
  rw [← hT]
  replace hT := hide hT
  replace hKb := hide hKb
  replace hF := hide hF
  obtain ⟨KK, hKK⟩ : ∃ KK, KK = kc K := ⟨_, rfl⟩
  rw [← hKK]
  replace hKK := hide hKK
  go_enter Tryd.func16, Tryd.ntmps16
  go_upto_region 2 with fail
  have hB := (Bl.nil w).new KK 25
  simp only [List.nil_append] at hB
  generalize World.alloc _ _ = u at *
  rw [unhide hKK] at hB
  replace hB : Bl w [⟨w.heap.size, kc K, 25⟩] u := hB
  refine wp_region_lit ?_
  refine list_val (.slice (some ⟨w.heap.size, 0, none⟩) 32 32) (by kernel_rfl) (by kernel_rfl) ?_
  simp only [nrm]
  refine list_call 32 #[.slice (some ⟨w.heap.size, 0, none⟩) 32 32] (by kernel_rfl) (by kernel_rfl) ((sum_ok K (unhide hKb) 32 hK (by omega) (some ⟨w.heap.size, 0, none⟩) 32 (by omega) (by omega) u ((unhide hF).gr hB.gr) (.inr ⟨w.heap.size, 0, rfl, kc_at (hB.get 0 (x := ⟨w.heap.size, kc K, 25⟩) rfl)⟩)).mono ?_)
  rintro r_ u1 ⟨rfl, hg⟩
  replace hB := hB.more hg
  clear hg
  obtain ⟨D, hD⟩ : ∃ D, D = sumL K := ⟨_, rfl⟩
  have hDl : D.length = 32 := by rw [hD]; exact sumL_len K
  have hDb : IsB D := by rw [hD]; exact sumL_isB K
  rw [← hD] at hT ⊢
  clear hD
  replace hDb := hide hDb
  refine ⟨_, rfl, ?_⟩
  simp only [nrm]
  refine list_valw (.pointer (some ⟨u1.heap.size, 0, none⟩)) (u1.alloc (.cells (kc Z32) 25 (0, 0))) (by kernel_rfl) (by kernel_rfl) ?_
  replace hB := hB.new (kc Z32) 25
  simp only [List.nil_append, List.cons_append] at hB
  generalize World.alloc _ _ = u2 at *
  generalize u1.heap.size = gs at *
  replace hB : Bl w [⟨w.heap.size, kc K, 25⟩, ⟨gs, kc Z32, 25⟩] u2 := hB
  simp only [nrm]
  refine list_store 25 (.tmp 4) (.tmp 8) gs (kc D) 25 (kc Z32) (by kernel_rfl) rfl (by kernel_rfl) (by kernel_rfl) (hB.get 1 (x := ⟨gs, kc Z32, 25⟩) rfl) (by rw [Tryd.infoKey, kc_size, hDl]) (by rw [kc_size, kc_size, hDl]; rfl) (kc_one _) ?_
  replace hB := hB.set 1 (x := ⟨gs, kc Z32, 25⟩) rfl (kc D)
  simp only [List.set_cons_zero, List.set_cons_succ] at hB
  generalize World.setRow _ _ _ = u3 at *
  simp only [nrm]
  refine wpList_nil ?_
  replace hB := hide hB
  go_upto_region 3 with fail
  replace hB := unhide hB
  refine wp_region_lit ?_
  refine list_val (.slice (some ⟨gs, 0, none⟩) 8 32) (by kernel_rfl) (by kernel_rfl) ?_
  simp only [nrm]
  refine list_val (.int .i64 8) (by kernel_rfl) (by kernel_rfl) ?_
  simp only [nrm]
  refine list_val (.int .i64 0) (by kernel_rfl) (by kernel_rfl) ?_
  simp only [nrm]
  refine wpList_nil ?_
  have hI0 : Hid (Ob w.heap.size u3 (.slice none 0 0) (fpL D 0) ∧ Bl w [⟨w.heap.size, kc K, 25⟩, ⟨gs, kc D, 25⟩] u3) := ⟨World.ownsRow_nil _ _ _ _, hB⟩
  clear hB
  go_wp2_with fail
  go_loopw [3, 11] (fun v i wr => ∃ (j : Nat) (v' : Value), j ≤ 8 ∧ v' = v ∧ i = .int .i64 (j : Int) ∧ Hid (Ob w.heap.size wr v' (fpL D j) ∧ Bl w [⟨w.heap.size, kc K, 25⟩, ⟨gs, kc D, 25⟩] wr)) (fun _ i _ => 8 - (intOf i).toNat)
  case atStart => exact ⟨0, _, by omega, rfl, rfl, hI0⟩
  case round =>
  clear hI0
  obtain ⟨j, v', hj, rfl, rfl, hA⟩ := hrel
  by_cases hlt : j < 8
  · have jI : (j : Int) < 8 := by omega
    obtain ⟨c, hc⟩ : ∃ c, c = D.getD j 0 := ⟨_, rfl⟩
    have hcb : 0 ≤ c ∧ c < 256 := by rw [hc]; exact (unhide hDb).at_ j
    have hcc := kc_cell ((unhide hA).2.get 1 (x := ⟨gs, kc D, 25⟩) rfl) j (by omega)
    rw [← hc] at hcc
    have hfl : ∀ n : Nat, (fpL D n).length ≤ 3 * n := fun n => by
      induction n with
      | zero => exact Nat.le_refl _
      | succ n ih =>
        rw [fpL]
        split <;> simp only [List.length_append, List.length_cons, List.length_nil] <;> omega
    replace hfl := hide (hfl j)
    replace hc := hide hc; replace hcb := hide hcb; replace hcc := hide hcc
    go_upto_region 5 with fail
    refine wp_region_lit ?_
    refine list_val (.int .i64 (j : Int)) (by kernel_rfl) (by kernel_rfl) ?_
    simp only [nrm]
    refine list_val (.pointer (some ⟨gs, 0 + j, none⟩)) (by kernel_rfl) (exec_at _ (.tmp 9) (.tmp 11) rfl gs 0 8 32 j (by kernel_rfl) (by kernel_rfl) hlt) ?_
    simp only [nrm]
    refine list_val (.int .u8 c) (by kernel_rfl) (exec_u8 _ (.tmp 14) rfl gs (0 + j) (by kernel_rfl) c (by rw [Nat.zero_add]; exact unhide hcc)) ?_
    simp only [nrm]
    (refine wpList_step fun K hK => ?_; replace hK := hide hK; go_simp; refine unhide hK _ _ ?_; clear hK K)
    (refine wpList_step fun K hK => ?_; replace hK := hide hK; go_simp; refine unhide hK _ _ ?_; clear hK K)
    refine wpList_nil ?_
    go_upto_region 6 with fail
    by_cases hmin : 0 < j ∧ j % 2 = 0
    · have m1 : (0 : Int) < (j : Int) := by omega
      have m2 : Int.tmod (j : Int) 2 = 0 := by rw [Int.tmod_eq_emod_of_nonneg (by omega)]; omega
      replace m1 := hide m1; replace m2 := hide m2; replace hmin := hide hmin
      refine wp_region_lit ?_
      refine list_val (.int .i64 (j : Int)) (by kernel_rfl) (by kernel_rfl) ?_
      simp only [nrm]
      refine list_val (.bool true) (by kernel_rfl) (by have h := unhide m1; go_simp; omega) ?_
      simp only [nrm]
      refine list_val (.bool true) (by kernel_rfl) (by kernel_rfl) ?_
      simp only [nrm]
      refine list_val (.int .i64 (j : Int)) (by kernel_rfl) (by kernel_rfl) ?_
      simp only [nrm]
      refine list_val (.int .i64 0) (by kernel_rfl) (by have h := unhide m2; go_simp) ?_
      simp only [nrm]
      refine list_val (.bool true) (by kernel_rfl) (by kernel_rfl) ?_
      simp only [nrm]
      refine list_val (.bool true) (by kernel_rfl) (by kernel_rfl) ?_
      simp only [nrm]
      refine wpList_nil ?_
      go_upto_region 7 with fail
      refine wp_region_lit ?_
      refine list_val v' (by kernel_rfl) (by kernel_rfl) ?_
      simp only [nrm]
      refine list_valw (.slice (some ⟨wr.heap.size, 0, none⟩) 1 1) (wr.alloc (.cells (kc [45]) 5 (0, 0))) (by kernel_rfl) (by kernel_rfl) ?_
      have hn := kc_at (blk_new wr (.cells (kc [45]) 5 (0, 0)))
      have hO1 := (unhide hA).1.gr ((Gr.refl wr).alloc (.cells (kc [45]) 5 (0, 0)))
      have hB1 := (unhide hA).2.more ((Gr.refl wr).alloc (.cells (kc [45]) 5 (0, 0)))
      clear hA
      generalize World.alloc _ _ = y1 at *
      generalize wr.heap.size = gb at *
      simp only [nrm]
      refine app_bs (by kernel_rfl) (.tmp 23) (.tmp 24) rfl w.heap.size v' (fpL D j) (by kernel_rfl) hO1 (some ⟨gb, 0, none⟩) 1 1 [45] (by kernel_rfl) rfl (.inr ⟨gb, 0, rfl, hn⟩) (by have := unhide hfl; omega) hB1.gr.size ?_
      intro v2 y2 hO2 hg2
      replace hB1 := hB1.grown hO1 (Nat.le_refl _) hg2 (by intro y hy; simp only [List.mem_cons, List.not_mem_nil, or_false] at hy; rcases hy with rfl | rfl <;> (dsimp only; decide))
      clear hO1 hg2 hn
      simp only [nrm]
      (refine wpList_step fun K hK => ?_; replace hK := hide hK; go_simp; refine unhide hK _ _ ?_; clear hK K)
      refine wpList_nil ?_
      replace hO2 := hide hO2; replace hB1 := hide hB1
      go_upto_region 8 with fail
      replace hO2 := unhide hO2; replace hB1 := unhide hB1
      refine wp_region_lit ?_
      refine list_val v2 (by kernel_rfl) (by kernel_rfl) ?_
      simp only [nrm]
      refine list_val (.int .u8 c) (by kernel_rfl) (by kernel_rfl) ?_
      simp only [nrm]
      refine list_call 31 #[v2, .int .u8 c] (by kernel_rfl) (by kernel_rfl) ((putdig_ok w.heap.size v2 (fpL D j ++ [45]) c (unhide hcb) _ (hB1).gr.size (hO2) (by simp only [List.length_append, List.length_cons, List.length_nil]; have := unhide hfl; omega)).mono ?_)
      rintro r_ y3 ⟨v3, rfl, hO3, hg3⟩
      have hA2 : Hid (Ob w.heap.size y3 v3 (fpL D (j + 1)) ∧ Bl w [⟨w.heap.size, kc K, 25⟩, ⟨gs, kc D, 25⟩] y3) := ⟨by rw [fpL, if_pos (unhide hmin), ← unhide hc]; exact hO3, (hB1).grown (hO2) (Nat.le_refl _) hg3 (by intro y hy; simp only [List.mem_cons, List.not_mem_nil, or_false] at hy; rcases hy with rfl | rfl <;> (dsimp only; decide))⟩
      clear hO3 hg3
      refine ⟨_, rfl, ?_⟩
      simp only [nrm]
      (refine wpList_step fun K hK => ?_; replace hK := hide hK; go_simp; refine unhide hK _ _ ?_; clear hK K)
      refine wpList_nil ?_
      go_wp2_with fail
      go_roundw
      case rel => exact ⟨j + 1, v3, by omega, rfl, by simp, hA2⟩
      case measure => simp [intOf]; omega
    · by_cases hz : 0 < j
      · have m1 : (0 : Int) < (j : Int) := by omega
        have m2 : Int.tmod (j : Int) 2 = 1 := by rw [Int.tmod_eq_emod_of_nonneg (by omega)]; omega
        replace m1 := hide m1; replace m2 := hide m2; replace hmin := hide hmin; replace hz := hide hz
        refine wp_region_lit ?_
        refine list_val (.int .i64 (j : Int)) (by kernel_rfl) (by kernel_rfl) ?_
        simp only [nrm]
        refine list_val (.bool true) (by kernel_rfl) (by have h := unhide m1; go_simp; omega) ?_
        simp only [nrm]
        refine list_val (.bool true) (by kernel_rfl) (by kernel_rfl) ?_
        simp only [nrm]
        refine list_val (.int .i64 (j : Int)) (by kernel_rfl) (by kernel_rfl) ?_
        simp only [nrm]
        refine list_val (.int .i64 1) (by kernel_rfl) (by have h := unhide m2; go_simp) ?_
        simp only [nrm]
        refine list_val (.bool false) (by kernel_rfl) (by kernel_rfl) ?_
        simp only [nrm]
        refine list_val (.bool false) (by kernel_rfl) (by kernel_rfl) ?_
        simp only [nrm]
        refine wpList_nil ?_
        go_upto_region 8 with fail
        refine wp_region_lit ?_
        refine list_val v' (by kernel_rfl) (by kernel_rfl) ?_
        simp only [nrm]
        refine list_val (.int .u8 c) (by kernel_rfl) (by kernel_rfl) ?_
        simp only [nrm]
        refine list_call 31 #[v', .int .u8 c] (by kernel_rfl) (by kernel_rfl) ((putdig_ok w.heap.size v' (fpL D j) c (unhide hcb) wr ((unhide hA).2).gr.size ((unhide hA).1) (by have := unhide hfl; omega)).mono ?_)
        rintro r_ y3 ⟨v3, rfl, hO3, hg3⟩
        have hA2 : Hid (Ob w.heap.size y3 v3 (fpL D (j + 1)) ∧ Bl w [⟨w.heap.size, kc K, 25⟩, ⟨gs, kc D, 25⟩] y3) := ⟨by rw [fpL, if_neg (unhide hmin), ← unhide hc]; exact hO3, ((unhide hA).2).grown ((unhide hA).1) (Nat.le_refl _) hg3 (by intro y hy; simp only [List.mem_cons, List.not_mem_nil, or_false] at hy; rcases hy with rfl | rfl <;> (dsimp only; decide))⟩
        clear hO3 hg3
        refine ⟨_, rfl, ?_⟩
        simp only [nrm]
        (refine wpList_step fun K hK => ?_; replace hK := hide hK; go_simp; refine unhide hK _ _ ?_; clear hK K)
        refine wpList_nil ?_
        go_wp2_with fail
        go_roundw
        case rel => exact ⟨j + 1, v3, by omega, rfl, by simp, hA2⟩
        case measure => simp [intOf]; omega
      · have m1 : ¬ (0 : Int) < (j : Int) := by omega
        replace m1 := hide m1; replace hmin := hide hmin; replace hz := hide hz
        refine wp_region_lit ?_
        refine list_val (.int .i64 (j : Int)) (by kernel_rfl) (by kernel_rfl) ?_
        simp only [nrm]
        refine list_val (.bool false) (by kernel_rfl) (by have h := unhide m1; go_simp; omega) ?_
        simp only [nrm]
        refine list_val (.bool false) (by kernel_rfl) (by kernel_rfl) ?_
        simp only [nrm]
        refine wpList_step fun K hK => ?_
        rw [if_neg (ne_true_of_eq_false (by kernel_rfl))]
        refine hK _ _ ?_
        clear hK K
        simp only [nrm]
        refine wpList_step fun K hK => ?_
        rw [if_neg (ne_true_of_eq_false (by kernel_rfl))]
        refine hK _ _ ?_
        clear hK K
        simp only [nrm]
        refine wpList_step fun K hK => ?_
        rw [if_neg (ne_true_of_eq_false (by kernel_rfl))]
        refine hK _ _ ?_
        clear hK K
        simp only [nrm]
        refine list_val (.bool false) (by kernel_rfl) (by kernel_rfl) ?_
        simp only [nrm]
        refine wpList_nil ?_
        go_upto_region 8 with fail
        refine wp_region_lit ?_
        refine list_val v' (by kernel_rfl) (by kernel_rfl) ?_
        simp only [nrm]
        refine list_val (.int .u8 c) (by kernel_rfl) (by kernel_rfl) ?_
        simp only [nrm]
        refine list_call 31 #[v', .int .u8 c] (by kernel_rfl) (by kernel_rfl) ((putdig_ok w.heap.size v' (fpL D j) c (unhide hcb) wr ((unhide hA).2).gr.size ((unhide hA).1) (by have := unhide hfl; omega)).mono ?_)
        rintro r_ y3 ⟨v3, rfl, hO3, hg3⟩
        have hA2 : Hid (Ob w.heap.size y3 v3 (fpL D (j + 1)) ∧ Bl w [⟨w.heap.size, kc K, 25⟩, ⟨gs, kc D, 25⟩] y3) := ⟨by rw [fpL, if_neg (unhide hmin), ← unhide hc]; exact hO3, ((unhide hA).2).grown ((unhide hA).1) (Nat.le_refl _) hg3 (by intro y hy; simp only [List.mem_cons, List.not_mem_nil, or_false] at hy; rcases hy with rfl | rfl <;> (dsimp only; decide))⟩
        clear hO3 hg3
        refine ⟨_, rfl, ?_⟩
        simp only [nrm]
        (refine wpList_step fun K hK => ?_; replace hK := hide hK; go_simp; refine unhide hK _ _ ?_; clear hK K)
        refine wpList_nil ?_
        go_wp2_with fail
        go_roundw
        case rel => exact ⟨j + 1, v3, by omega, rfl, by simp, hA2⟩
        case measure => simp [intOf]; omega
  · have e : j = 8 := by omega
    subst e
    clear hlt
    obtain ⟨hO, hG⟩ := unhide hA
    obtain ⟨av, cv, hv, _, _, hsl⟩ := hO.slice
    have hl2 : (fpL D 8).length = 19 := fpL_len D
    rw [hl2] at hv
    subst hv
    obtain ⟨FP, hFP⟩ : ∃ F, F = fpL D 8 := ⟨_, rfl⟩
    rw [← hFP] at hsl hl2 hT
    replace hsl := hide hsl
    clear hO hA hFP
    replace hG := hide hG.gr
    go_upto_region 10 with fail
    refine wp_region_lit ?_
    refine list_val (.slice av 19 cv) (by kernel_rfl) (by kernel_rfl) ?_
    simp only [nrm]
    refine list_val (.string (strOfNums FP)) (by kernel_rfl) (exec_text _ (.tmp 30) rfl av 19 cv FP hl2 (by kernel_rfl) (unhide hsl)) ?_
    simp only [nrm]
    (refine wpList_step fun K hK => ?_; replace hK := hide hK; go_simp; refine unhide hK _ _ ?_; clear hK K)
    refine wpList_nil ?_
    have hZ : Hid (T (.returned (.string (strOfNums FP))) wr) := by
      rw [unhide hT]
      exact ⟨rfl, unhide hG⟩
    go_wp2_with fail
    exact unhide hZ
def KW1 : List Int := 1 :: List.replicate 31 0
theorem KW1_isB : IsB KW1 := by unfold IsB KW1; decide
theorem Z32_isB' : IsB Z32 := by unfold IsB Z32; decide
def WT : List Int := [48, 49] ++ (txL Z32).drop 2
theorem WT_isB : IsB WT := by unfold IsB WT; decide
theorem WT_K : kyK WT = KW1 ∧ kyE WT = 0 ∧ kyP WT = 0 := by decide +kernel
set_option maxHeartbeats 4000000 in
theorem wakes16_ok (w : World) (hF : Fst w) : Calls Tryd.prog 9 #[] w (Bod true w) := by
  obtain ⟨T, hT⟩ : ∃ T, T = Bod true w := ⟨_, rfl⟩
  rw [← hT]
  replace hT := hide hT
  replace hF := hide hF
  go_enter Tryd.func9, Tryd.ntmps9
  go_upto_region 1 with fail
  obtain ⟨u, hu0⟩ : ∃ u, u = w := ⟨_, rfl⟩
  rw [← hu0]
  have hG : Gr w u := hu0 ▸ Gr.refl w
  clear hu0
  refine wp_region_lit ?_
  refine list_val (.agg (kc Z32)) (by kernel_rfl) (by kernel_rfl) ?_
  simp only [nrm]
  refine list_call 14 #[.agg (kc Z32)] (by kernel_rfl) (by kernel_rfl) ((text_ok Z32 rfl Z32_isB' u).mono ?_)
  rintro r_ u1 ⟨rfl, hg⟩
  replace hG := hG.trans hg
  clear hg
  obtain ⟨TL, hTL⟩ : ∃ t, t = txL Z32 := ⟨_, rfl⟩
  rw [← hTL]
  have hTn : TL.length = 64 := by rw [hTL]; rfl
  replace hTL := hide hTL
  refine ⟨_, rfl, ?_⟩
  simp only [nrm]
  (refine wpList_step fun K hK => ?_; replace hK := hide hK; go_simp; refine unhide hK _ _ ?_; clear hK K)
  refine wpList_nil ?_
  replace hG := hide hG
  go_upto_region 2 with fail
  replace hG := unhide hG
  refine wp_region_lit ?_
  refine list_val (.string (strOfNums TL)) (by kernel_rfl) (by kernel_rfl) ?_
  simp only [nrm]
  refine list_val (.int .i64 ((64 : Nat) : Int)) (by kernel_rfl) (exec_slen _ (.tmp 6) rfl TL 64 hTn (by kernel_rfl)) ?_
  simp only [nrm]
  refine list_val (.bool false) (by kernel_rfl) (by kernel_rfl) ?_
  simp only [nrm]
  refine wpList_nil ?_
  replace hG := hide hG
  go_upto_region 4 with fail
  replace hG := unhide hG
  refine wp_region_lit ?_
  refine list_val (.string (strOfNums TL)) (by kernel_rfl) (by kernel_rfl) ?_
  simp only [nrm]
  refine list_val (.string (strOfNums (TL.drop 2))) (by kernel_rfl) (exec_sfrom _ (.tmp 10) (.const (.int .i64 2)) rfl TL .i64 2 (by kernel_rfl) rfl (by omega)) ?_
  simp only [nrm]
  refine list_val (.string (strOfNums ([48, 49] ++ TL.drop 2))) (by kernel_rfl) (exec_sadd _ (.const (.string ⟨#[48, 49]⟩)) (.tmp 11) rfl [48, 49] (TL.drop 2) rfl (by kernel_rfl) (by rw [List.length_drop]; simp only [List.length_cons, List.length_nil]; omega)) ?_
  simp only [nrm]
  refine list_call 12 #[.string (strOfNums ([48, 49] ++ TL.drop 2))] (by kernel_rfl) (by kernel_rfl) ((show Calls Tryd.prog 12 #[.string (strOfNums ([48, 49] ++ TL.drop 2))] u1 (Kyd ([48, 49] ++ TL.drop 2) u1) from by rw [unhide hTL]; exact ikey_ok WT WT_isB u1).mono ?_)
  rintro r_ u2 ⟨hr, hg⟩
  rw [show [48, 49] ++ TL.drop 2 = WT from by rw [unhide hTL]; rfl, WT_K.1, WT_K.2.1, WT_K.2.2] at hr
  subst hr
  replace hG := hG.trans hg
  clear hg
  have hB := Bl.nil u2
  refine ⟨_, rfl, ?_⟩
  simp only [nrm]
  refine list_val (.tuple #[.agg (kc KW1), .agg (spv 0 0)]) (by kernel_rfl) (by kernel_rfl) ?_
  simp only [nrm]
  refine list_val (.agg (kc KW1)) (by kernel_rfl) (by kernel_rfl) ?_
  simp only [nrm]
  refine list_val (.agg (spv 0 0)) (by kernel_rfl) (by kernel_rfl) ?_
  simp only [nrm]
  refine list_valw (.pointer (some ⟨u2.heap.size, 0, none⟩)) (u2.alloc (.cells (kc Z32) 25 (0, 0))) (by kernel_rfl) (by kernel_rfl) ?_
  replace hB := hB.new (kc Z32) 25
  simp only [List.nil_append, List.cons_append] at hB
  generalize World.alloc _ _ = u3 at *
  generalize u2.heap.size = gk at *
  replace hB : Bl _ [⟨gk, kc Z32, 25⟩] u3 := hB
  simp only [nrm]
  refine list_valw (.pointer (some ⟨u3.heap.size, 0, none⟩)) (u3.alloc (.cells (spv 0 0) 28 (0, 0))) (by kernel_rfl) (by kernel_rfl) ?_
  replace hB := hB.new (spv 0 0) 28
  simp only [List.nil_append, List.cons_append] at hB
  generalize World.alloc _ _ = u4 at *
  generalize u3.heap.size = gp at *
  replace hB : Bl _ [⟨gk, kc Z32, 25⟩, ⟨gp, spv 0 0, 28⟩] u4 := hB
  simp only [nrm]
  refine list_store 25 (.tmp 2) (.tmp 14) gk (kc KW1) 25 (kc Z32) (by kernel_rfl) rfl (by kernel_rfl) (by kernel_rfl) (hB.get 0 (x := ⟨gk, kc Z32, 25⟩) rfl) (by rw [Tryd.infoKey]; rfl) rfl (kc_one _) ?_
  replace hB := hB.set 0 (x := ⟨gk, kc Z32, 25⟩) rfl (kc KW1)
  simp only [List.set_cons_zero, List.set_cons_succ] at hB
  generalize World.setRow _ _ _ = u5 at *
  simp only [nrm]
  refine list_store 28 (.tmp 3) (.tmp 15) gp (spv 0 0) 28 (spv 0 0) (by kernel_rfl) rfl (by kernel_rfl) (by kernel_rfl) (hB.get 1 (x := ⟨gp, spv 0 0, 28⟩) rfl) (by rw [Tryd.infoSpot]; rfl) rfl (spv_one _ _) ?_
  replace hB := hB.set 1 (x := ⟨gp, spv 0 0, 28⟩) rfl (spv 0 0)
  simp only [List.set_cons_zero, List.set_cons_succ] at hB
  generalize World.setRow _ _ _ = u6 at *
  simp only [nrm]
  refine wpList_nil ?_
  replace hG := hG.trans hB.gr
  have hk := hide (hB.get 0 (x := ⟨gk, kc KW1, 25⟩) rfl)
  have hp := hide (hB.get 1 (x := ⟨gp, spv 0 0, 28⟩) rfl)
  dsimp only at hk hp
  clear hB
  replace hG := hide hG
  go_upto_region 5 with fail
  replace hG := unhide hG
  refine wp_region_lit ?_
  refine list_call 10 #[.string (strOfNums [97, 45, 49])] (by kernel_rfl) (by kernel_rfl) ((name_ok [97, 45, 49] (by unfold IsB; decide) u6).mono ?_)
  rintro r_ u7 ⟨hr, hg⟩
  rw [show nmL [97, 45, 49] = true from rfl] at hr
  subst hr
  replace hG := hG.trans hg
  replace hk := hide (hg.blk (unhide hk))
  replace hp := hide (hg.blk (unhide hp))
  clear hg
  refine ⟨_, rfl, ?_⟩
  simp only [nrm]
  refine list_val (.bool true) (by kernel_rfl) (by kernel_rfl) ?_
  simp only [nrm]
  refine list_call 10 #[.string (strOfNums [])] (by kernel_rfl) (by kernel_rfl) ((name_ok [] (by unfold IsB; decide) u7).mono ?_)
  rintro r_ u8 ⟨hr, hg⟩
  rw [show nmL [] = false from rfl] at hr
  subst hr
  replace hG := hG.trans hg
  replace hk := hide (hg.blk (unhide hk))
  replace hp := hide (hg.blk (unhide hp))
  clear hg
  refine ⟨_, rfl, ?_⟩
  simp only [nrm]
  refine list_val (.bool true) (by kernel_rfl) (by kernel_rfl) ?_
  simp only [nrm]
  refine list_val (.bool true) (by kernel_rfl) (by kernel_rfl) ?_
  simp only [nrm]
  refine list_val (.bool true) (by kernel_rfl) (by kernel_rfl) ?_
  simp only [nrm]
  refine list_val (.agg (spv 0 0)) (by kernel_rfl) (exec_arr _ 28 (.tmp 3) rfl gp (by kernel_rfl) (spv 0 0) 28 _ (unhide hp) Tryd.underlying28 rfl (by rw [Tryd.infoSpot]; rfl)) ?_
  simp only [nrm]
  refine list_val (.agg (spv 0 0)) (by kernel_rfl) (by kernel_rfl) ?_
  simp only [nrm]
  refine list_val (.bool true) (by kernel_rfl) (by kernel_rfl) ?_
  simp only [nrm]
  refine list_val (.bool true) (by kernel_rfl) (by kernel_rfl) ?_
  simp only [nrm]
  refine list_val (.bool true) (by kernel_rfl) (by kernel_rfl) ?_
  simp only [nrm]
  refine list_val (.agg (kc KW1)) (by kernel_rfl) (exec_arr _ 25 (.tmp 2) rfl gk (by kernel_rfl) (kc KW1) 25 _ (unhide hk) Tryd.underlying25 rfl (by rw [Tryd.infoKey]; rfl)) ?_
  simp only [nrm]
  refine list_val (.agg (kc KW1)) (by kernel_rfl) (by kernel_rfl) ?_
  simp only [nrm]
  refine list_val (.bool true) (by kernel_rfl) (by kernel_rfl) ?_
  simp only [nrm]
  refine list_val (.bool true) (by kernel_rfl) (by kernel_rfl) ?_
  simp only [nrm]
  refine list_val (.bool true) (by kernel_rfl) (by kernel_rfl) ?_
  simp only [nrm]
  refine list_val (.agg (kc KW1)) (by kernel_rfl) (exec_arr _ 25 (.tmp 2) rfl gk (by kernel_rfl) (kc KW1) 25 _ (unhide hk) Tryd.underlying25 rfl (by rw [Tryd.infoKey]; rfl)) ?_
  simp only [nrm]
  refine list_call 16 #[.agg (kc KW1)] (by kernel_rfl) (by kernel_rfl) ((finger_ok KW1 rfl KW1_isB u8 ((unhide hF).gr hG)).mono ?_)
  rintro r_ u9 ⟨rfl, hg⟩
  replace hG := hG.trans hg
  clear hg
  have hfl := fpL_len (sumL KW1)
  obtain ⟨FP, hFP⟩ : ∃ t, t = fpL (sumL KW1) 8 := ⟨_, rfl⟩
  rw [← hFP] at hfl ⊢
  clear hFP
  refine ⟨_, rfl, ?_⟩
  simp only [nrm]
  refine list_val (.int .i64 ((19 : Nat) : Int)) (by kernel_rfl) (exec_slen _ (.tmp 33) rfl FP 19 hfl (by kernel_rfl)) ?_
  simp only [nrm]
  refine list_val (.bool true) (by kernel_rfl) (by kernel_rfl) ?_
  simp only [nrm]
  refine list_val (.bool true) (by kernel_rfl) (by kernel_rfl) ?_
  simp only [nrm]
  (refine wpList_step fun K hK => ?_; replace hK := hide hK; go_simp; refine unhide hK _ _ ?_; clear hK K)
  refine wpList_nil ?_
  have hZ : Hid (T (.returned (.bool true)) u9) := by
    rw [unhide hT]
    exact ⟨rfl, hG⟩
  go_wp2_with fail
  exact unhide hZ
theorem eqItems_self (d : Nat) (e : TypeId) (c : Nat) (xs : Array Value) (w : World) : ∀ (is : List Nat), (∀ i ∈ is, ∃ v, (part e xs (i * c)).run Tryd.prog w = .ok v w ∧ (Op.equalIn d e v v).run Tryd.prog w = .ok true w) → (Op.eqItems d e c xs xs is).run Tryd.prog w = .ok true w
  | [], _ => by simp [Op.eqItems]
  | i :: is, h => by
    obtain ⟨v, h1, h2⟩ := h i (by simp)
    have h3 := eqItems_self d e c xs w is (fun j hj => h j (by simp [hj]))
    simp only [Op.eqItems, Sem.run_bind, h1, h2, Result.andThen_ok]
    simpa using h3
theorem eqFields_self (d : Nat) (xs : Array Value) (w : World) : ∀ (fs : List Field), (∀ f ∈ fs, f.name ≠ "_" ∧ ∃ v, (part f.type xs f.offset).run Tryd.prog w = .ok v w ∧ (Op.equalIn d f.type v v).run Tryd.prog w = .ok true w) → (Op.eqFields d xs xs fs).run Tryd.prog w = .ok true w
  | [], _ => by simp [Op.eqFields]
  | f :: fs, h => by
    obtain ⟨hn, v, h1, h2⟩ := h f (by simp)
    have h3 := eqFields_self d xs w fs (fun j hj => h j (by simp [hj]))
    simp only [Op.eqFields, hn, ne_eq, not_false_eq_true, if_true, Sem.run_bind, h1, h2, Result.andThen_ok]
    simpa using h3
theorem eq_int {t : TypeId} {q : IntKind} (hu : Tryd.prog.underlying t = some (.int q)) (d : Nat) (k : IntKind) (x : Int) (w : World) : (Op.equalIn (d + 1) t (.int k x) (.int k x)).run Tryd.prog w = .ok true w := by
  simp [Op.equalIn, Sem.run_bind, run_underlying hu]
theorem part_cell {t : TypeId} {q : IntKind} (hu : Tryd.prog.underlying t = some (.int q)) {xs : Array Value} {o : Nat} {v : Value} (h : xs[o]? = some v) (w : World) : (part t xs o).run Tryd.prog w = .ok v w := by
  simp [part, isAgg, Sem.run_bind, run_underlying hu, h]
theorem eq_bytes {t : TypeId} {n : Nat} (hu : Tryd.prog.underlying t = some (.array n 5)) (d : Nat) (xs : Array Value) (h : ∀ i, i < n → ∃ x, xs[i]? = some (.int .u8 x)) (w : World) : (Op.equalIn (d + 2) t (.agg xs) (.agg xs)).run Tryd.prog w = .ok true w := by
  obtain ⟨i5, hi5⟩ := info_of_underlying Tryd.underlying5
  rw [run_equalIn_array w (d + 1) xs xs hu hi5]
  refine eqItems_self _ _ _ _ _ _ (fun i hi => ?_)
  obtain ⟨x, hx⟩ := h i (List.mem_range.1 hi)
  have hc : Tryd.prog.cellsOf 5 = 1 := Tryd.cells_b
  rw [hc, Nat.mul_one]
  exact ⟨_, part_cell Tryd.underlying5 hx w, eq_int Tryd.underlying5 d _ _ w⟩
theorem part_row {t : TypeId} {n : Nat} {e : TypeId} (hu : Tryd.prog.underlying t = some (.array n e)) {m : Nat} (hi : (Tryd.prog.info? t).map (·.size) = some m) (xs : Array Value) (o : Nat) (w : World) : (part t xs o).run Tryd.prog w = .ok (.agg (xs.extract o (o + m))) w := by
  obtain ⟨i, h1, h2⟩ := Option.map_eq_some_iff.1 hi
  simp [part, isAgg, Sem.run_bind, run_underlying hu, sizeOf, typeInfo, h1, h2]
theorem ext_at (xs : Array Value) (o m i : Nat) (hi : i < m) (hs : o + m ≤ xs.size) : (xs.extract o (o + m))[i]? = xs[o + i]? := by
  rw [Array.getElem?_extract, if_pos (by omega)]
theorem results_two {P : Program} {fn : Func} {p q : Tmp} {ty : TypeId} (h : fn.results = #[.cell p ty, .cell q ty]) (tmps : Array Value) (w : World) (g g2 : Nat) (t t2 : TypeId) (cs cs2 : Array Value) (fr fr2 : Nat × Nat) (d : TypeDesc)
    (hp : tmps.getD p undef = .pointer (some ⟨g, 0, none⟩)) (hq : tmps.getD q undef = .pointer (some ⟨g2, 0, none⟩)) (hg : w.heap[g]? = some (.cells cs t fr)) (hg2 : w.heap[g2]? = some (.cells cs2 t2 fr2))
    (hu : P.underlying ty = some d) (hd : (match d with | .struct _ | .array _ _ => true | _ => false) = true) (hi : (P.info? ty).map (·.size) = some cs.size) (hi2 : (P.info? ty).map (·.size) = some cs2.size) :
    (results fn tmps).run P w = .ok (.tuple #[.agg cs, .agg cs2]) w := by
  have hp' : tmps[p]?.getD undef = .pointer (some ⟨g, 0, none⟩) := by simpa using hp
  have hq' : tmps[q]?.getD undef = .pointer (some ⟨g2, 0, none⟩) := by simpa using hq
  simp [results, h, hp', hq', asAddr, run_loadVar_row w g t ty cs fr d hg hu hd hi, run_loadVar_row w g2 t2 ty cs2 fr2 d hg2 hu hd hi2]
theorem infoL_isB {l : List Int} {ps : List (List Int)} (hl : IsB l) (hp : ∀ p ∈ ps, IsB p) : IsB (infoL l ps) := by
  unfold infoL infL
  refine isB_append (tpart_isB hl) ?_
  intro x hx
  obtain ⟨q, hq, hx⟩ := List.mem_flatten.1 hx
  obtain ⟨p, hp2, rfl⟩ := List.mem_map.1 hq
  exact tpart_isB (hp p (List.mem_of_mem_take hp2)) x hx
theorem Pr.isB {w : World} {a : Option Addr} {ps : List (List Int)} (h : Pr w a ps) : ∀ p ∈ ps, IsB p := by
  intro p hp
  rcases h with h | ⟨q, o, _, h2⟩
  · rw [h] at hp; cases hp
  · obtain ⟨j, hj⟩ := List.getElem?_of_mem hp
    have hj2 := (List.getElem?_eq_some_iff.1 hj).1
    obtain ⟨_, _, _, _, _, h3, _⟩ := h2 j hj2
    have e : ps.getD j [] = p := by rw [List.getD_eq_getElem?_getD, hj]; rfl
    rw [e] at h3
    exact h3
theorem Bl.copy {w v : World} {L : List Blk} (h : Bl w L v) (k : Nat) {g : Nat} {Z D : List Int} (hk : L[k]? = some ⟨g, kc Z, 25⟩) (hZ : Z.length = 32) (hD : D.length = 32) : Bl w (L.set k ⟨g, kc D, 25⟩) (v.setCells g 0 (D.map (Value.int .u8))) := by
  have hv := setCells_heap (D.map (Value.int .u8)) v g 0 (Z.map (Value.int .u8)) 25 (h.get k hk)
  rw [sp_kc D Z (by omega), List.drop_eq_nil_of_le (by omega), List.append_nil] at hv
  exact h.but (setCells_bt (D.map (Value.int .u8)) v g 0) k hk rfl hv
theorem add_block (x : Addr) (k : Nat) : (x.add k).block = x.block := by
  unfold Addr.add
  split <;> rfl
def Derd (D : List Int) (w : World) (r : Ending) (w' : World) : Prop := r = .returned (.agg (kc D)) ∧ Gr w w'
def Twod (D E : List Int) (w : World) (r : Ending) (w' : World) : Prop := r = .returned (.tuple #[.agg (kc D), .agg (kc E)]) ∧ Gr w w'
set_option maxHeartbeats 2000000 in
theorem derive_ok (Ky : List Int) (hKl : Ky.length = 32) (hKb : IsB Ky) (t : ByteArray) (ht : t.size ≤ 1000) (ps : List (List Int)) (ap : Option Addr) (m cp : Nat) (hm : ps.length = m) (hp : small4 ps) (w : World) (hF : Fst w) (hP : Pr w ap ps) :
    Calls Tryd.prog 35 #[.agg (kc Ky), .string t, .slice ap m cp] w (Derd (spL Ky (infoL (tb t) ps) 32) w) := by
  obtain ⟨T, hT⟩ : ∃ T, T = Derd (spL Ky (infoL (tb t) ps) 32) w := ⟨_, rfl⟩
  rw [← hT]
  obtain ⟨KK, hKK⟩ : ∃ KK, KK = kc Ky := ⟨_, rfl⟩
  rw [← hKK]
  have hKs : KK.size = 32 := by rw [hKK, kc_size, hKl]
  have hIb : IsB (infoL (tb t) ps) := infoL_isB (tb_isB t) hP.isB
  have hIl : (infoL (tb t) ps).length ≤ 1004 + 4100 * ps.length := infL_len (tb t) ps (by rw [tb_len]; exact ht) hp ps.length (Nat.le_refl _)
  have hm100 := hp.1
  replace hT := hide hT
  replace hF := hide hF
  replace hP := hide hP
  replace hp := hide hp
  replace hm := hide hm
  replace hKK := hide hKK
  replace hKb := hide hKb
  replace hIb := hide hIb
  go_enter Tryd.func35, Tryd.ntmps35
  go_upto_region 2 with fail
  have hB := (((Bl.nil w).new KK 25).new #[.int .u8 0, .int .u8 0, .int .u8 0, .int .u8 0, .int .u8 0, .int .u8 0, .int .u8 0, .int .u8 0, .int .u8 0, .int .u8 0, .int .u8 0, .int .u8 0, .int .u8 0, .int .u8 0, .int .u8 0, .int .u8 0, .int .u8 0, .int .u8 0, .int .u8 0, .int .u8 0, .int .u8 0, .int .u8 0, .int .u8 0, .int .u8 0, .int .u8 0, .int .u8 0, .int .u8 0, .int .u8 0, .int .u8 0, .int .u8 0, .int .u8 0, .int .u8 0] 25).new #[.int .u8 0, .int .u8 0, .int .u8 0, .int .u8 0, .int .u8 0, .int .u8 0, .int .u8 0, .int .u8 0, .int .u8 0, .int .u8 0, .int .u8 0, .int .u8 0, .int .u8 0, .int .u8 0, .int .u8 0, .int .u8 0, .int .u8 0, .int .u8 0, .int .u8 0, .int .u8 0, .int .u8 0, .int .u8 0, .int .u8 0, .int .u8 0, .int .u8 0, .int .u8 0, .int .u8 0, .int .u8 0, .int .u8 0, .int .u8 0, .int .u8 0, .int .u8 0] 25
  simp only [List.nil_append, List.cons_append, size_alloc] at hB
  generalize World.alloc _ _ = u1 at *
  replace hB : Bl w [⟨w.heap.size, KK, 25⟩, ⟨w.heap.size + 1, kc Z32, 25⟩, ⟨w.heap.size + 1 + 1, kc Z32, 25⟩] u1 := hB
  refine any_start (S := fun v => v.heap[w.heap.size]? = some (.cells KK 25 (0, 0))) (by kernel_rfl) ?_
  replace hB := hB.drew
  generalize World.drew _ = u2 at *
  simp only [List.size_toArray, List.length_cons, List.length_nil, Array.replicate, List.replicate]
  refine any_take (i := 0) (v := (.slice (some ⟨w.heap.size + 1 + 1, 0, none⟩) 32 32)) #[false, false, false, false, false, false, false] rfl (by kernel_rfl) (by kernel_rfl) (by kernel_rfl) (by kernel_rfl) (fun _ _ _ h => h) (.inl ⟨by kernel_rfl, fun x_ hu => by go_simp⟩) (hB.get 0 (x := ⟨w.heap.size, KK, 25⟩) rfl) ?_
  simp only [nrm]
  refine any_take (i := 1) (v := (.agg KK)) #[true, false, false, false, false, false, false] rfl (by kernel_rfl) (by kernel_rfl) (by kernel_rfl) (by kernel_rfl) (fun _ _ _ h => h) (.inl ⟨by kernel_rfl, fun x_ hu => exec_arr x_ 25 (.tmp 3) rfl w.heap.size (by kernel_rfl) KK 25 _ hu Tryd.underlying25 rfl (by rw [Tryd.infoKey, hKs])⟩) (hB.get 0 (x := ⟨w.heap.size, KK, 25⟩) rfl) ?_
  simp only [nrm]
  refine any_take (i := 2) (v := (.string t)) #[true, true, false, false, false, false, false] rfl (by kernel_rfl) (by kernel_rfl) (by kernel_rfl) (by kernel_rfl) (fun _ _ _ h => h) (.inl ⟨by kernel_rfl, fun x_ hu => by kernel_rfl⟩) (hB.get 0 (x := ⟨w.heap.size, KK, 25⟩) rfl) ?_
  simp only [nrm]
  refine any_take (i := 3) (v := (.slice ap m cp)) #[true, true, true, false, false, false, false] rfl (by kernel_rfl) (by kernel_rfl) (by kernel_rfl) (by kernel_rfl) (fun _ _ _ h => h) (.inl ⟨by kernel_rfl, fun x_ hu => by kernel_rfl⟩) (hB.get 0 (x := ⟨w.heap.size, KK, 25⟩) rfl) ?_
  simp only [nrm]
  refine any_one (i := 4) (by kernel_rfl) rfl (fun K hK => ?_)
  refine step_callw (by kernel_rfl) 50 #[.string t, .slice ap m cp] (by kernel_rfl) ((infoOf_ok t ht ps ap m cp (unhide hm) (unhide hp) _ ((unhide hP).gr hB.gr)).mono ?_)
  rintro r y1 ⟨v1, rfl, hO, hg⟩
  refine ⟨_, rfl, ?_⟩
  obtain ⟨a1, c1, rfl, l1⟩ := hO.lb (unhide hIb)
  clear hO
  obtain ⟨n1, hn1⟩ : ∃ n1, n1 = (infoL (tb t) ps).length := ⟨_, rfl⟩
  rw [← hn1] at hIl l1
  rw [← hn1]
  replace hn1 := hide hn1
  replace hB := hB.more hg
  clear hg
  refine hK.out _ _ (hB.get 0 (x := ⟨w.heap.size, KK, 25⟩) rfl) (fun _ => ?_)
  clear hK K
  simp only [nrm]
  refine any_one (i := 5) (by kernel_rfl) rfl (fun K hK => ?_)
  rw [unhide hKK]
  refine step_callw (by kernel_rfl) 49 #[.agg (kc Ky), .slice a1 n1 c1, .int .i64 32] (by kernel_rfl) ((spread_ok Ky hKl (unhide hKb) (infoL (tb t) ps) a1 n1 c1 32 (by omega) (by omega) _ ((unhide hF).gr hB.gr) l1).mono ?_)
  rintro r y2 ⟨a2, rfl, l2, hfr, hg⟩
  refine ⟨_, rfl, ?_⟩
  rw [← unhide hKK]
  replace hB := hB.more hg
  clear hg l1
  refine hK.out _ _ (hB.get 0 (x := ⟨w.heap.size, KK, 25⟩) rfl) (fun _ => ?_)
  clear hK K
  simp only [nrm]
  refine any_one (i := 6) (by kernel_rfl) rfl (fun K hK => ?_)
  obtain ⟨D, hD⟩ : ∃ D, D = spL Ky (infoL (tb t) ps) 32 := ⟨_, rfl⟩
  have hDl : D.length = 32 := by rw [hD]; exact spL_len _ _ _
  rw [← hD] at l2
  replace hD := hide hD
  rw [if_pos (by kernel_rfl)]
  refine copy_wp (.tmp 8) (.tmp 13) rfl (w.heap.size + 1 + 1) 0 32 32 a2 32 32 (by kernel_rfl) (by kernel_rfl) (Z32.map (Value.int .u8)) 25 (hB.get 2 (x := ⟨w.heap.size + 1 + 1, kc Z32, 25⟩) rfl) D (by rw [hDl]; rfl) (by rcases l2.sl with h | ⟨p, o, h1, h2⟩; exact .inl h; exact .inr ⟨p, o, h1, h2⟩) (by rw [hDl]; decide) ?_
  replace hB := hB.copy 2 (Z := Z32) (D := D) rfl rfl hDl
  simp only [List.set_cons_zero, List.set_cons_succ] at hB
  refine hK.out _ _ (hB.get 0 (x := ⟨w.heap.size, KK, 25⟩) rfl) (fun _ => ?_)
  clear hK K l2
  generalize World.setCells _ _ _ _ = y3 at *
  try simp only [nrm]
  refine any_done (by kernel_rfl) ?_
  replace hB := hide hB
  go_upto_region 3 with fail
  replace hB := unhide hB
  refine wp_region_lit ?_
  refine list_val (.agg (kc D)) (by kernel_rfl) (exec_arr _ 25 (.tmp 7) rfl (w.heap.size + 1 + 1) (by kernel_rfl) (kc D) 25 _ (hB.get 2 (x := ⟨w.heap.size + 1 + 1, kc D, 25⟩) rfl) Tryd.underlying25 rfl (by rw [Tryd.infoKey, kc_size, hDl])) ?_
  simp only [nrm]
  refine list_store 25 (.tmp 6) (.tmp 15) (w.heap.size + 1) (kc D) 25 (kc Z32) (by kernel_rfl) rfl (by kernel_rfl) (by kernel_rfl) (hB.get 1 (x := ⟨w.heap.size + 1, kc Z32, 25⟩) rfl) (by rw [Tryd.infoKey, kc_size, hDl]) ((show (kc Z32).size = 32 from rfl).trans ((kc_size _).trans hDl).symm) (kc_one _) ?_
  replace hB := hB.set 1 (x := ⟨w.heap.size + 1, kc Z32, 25⟩) rfl (kc D)
  simp only [List.set_cons_zero, List.set_cons_succ] at hB
  generalize World.setRow _ _ _ = y4 at *
  simp only [nrm]
  refine wpList_nil ?_
  go_wp2_with fail
  rw [unhide hT]
  exact bodyPost_ret (v := .agg (kc D)) (results_cell_row Tryd.results35 _ _ (w.heap.size + 1) 25 (kc D) (0, 0) _ rfl (hB.get 1 (x := ⟨w.heap.size + 1, kc D, 25⟩) rfl) Tryd.underlying25 rfl (by rw [Tryd.infoKey, kc_size, hDl])) rfl ⟨by rw [unhide hD], hB.gr⟩
end Go.Proofs.YtpmgmpihmpifgaaDoor

namespace Go.Proofs.YtpmgmpihmpifgaaDoor
open Go.ChangeShapes Go.WideShapes Go.ChangeAt Go.RowKit
set_option maxRecDepth 100000
set_option linter.unusedVariables false
set_option linter.unusedSimpArgs false
theorem Tryd.cellsK : Tryd.prog.cellsOf 25 = 32 := by kernel_rfl
theorem Tryd.cells5k : Tryd.prog.cellsOf 5 = 1 := by kernel_rfl
theorem open_row {H : Type} {enc : TypeId × Value → H} {W : World} {t e : TypeId} {k : IntKind} {n fuel : Nat} {cs : List Value} {x : DataW H × List MemPlace} (ht : Tryd.prog.underlying t = some (.array n e)) (he : Tryd.prog.underlying e = some (.int k)) (hc : Tryd.prog.cellsOf e = 1) (hn : Tryd.prog.cellsOf t = n)
    (h : DataW.trod enc Tryd.prog W 0 (fun _ => true) true fuel t cs = some x) : ∃ zs : List Int, cs = zs.map (Value.int k) ∧ zs.length = n ∧ ∀ z ∈ zs, (Lit.int k z).wf = true := by
  obtain ⟨xs, m, _, hx, hl, hxl, hh⟩ := DataW.trod_array ht h
  rw [hn] at hl
  have hce : ∀ i, i < n → ∃ z, cs[i]? = some (.int k z) ∧ (Lit.int k z).wf = true := by
    intro i hi
    have h1 := hh i hi
    rw [hc, Nat.mul_one, List.getElem?_eq_getElem (by omega)] at h1
    obtain ⟨z, e, _, hw⟩ := DataW.trod_int he h1
    refine ⟨z, ?_, hw⟩
    have h2 : ((cs.drop i).take 1)[0]? = some (.int k z) := by rw [e]; rfl
    simpa using h2
  refine ⟨cs.map (fun v => match v with | .int _ z => z | _ => 0), ?_, by simp [hl], ?_⟩
  · apply List.ext_getElem?
    intro i
    rcases Nat.lt_or_ge i n with hi | hi
    · obtain ⟨z, h1, _⟩ := hce i hi
      simp [h1]
    · rw [List.getElem?_eq_none (by omega), List.getElem?_eq_none (by simp; omega)]
  · intro z hz
    obtain ⟨v, hv, rfl⟩ := List.mem_map.1 hz
    obtain ⟨i, hi⟩ := List.getElem?_of_mem hv
    have hi2 : i < n := by have := (List.getElem?_eq_some_iff.1 hi).1; omega
    obtain ⟨z, h1, h2⟩ := hce i hi2
    rw [hi] at h1
    obtain rfl := Option.some.inj h1
    exact h2
theorem cells_agg_eq {v : Value} {k : IntKind} {zs : List Int} (hz : 1 < zs.length) (h : v.cells.toList = zs.map (Value.int k)) : v = .agg (zs.map (Value.int k)).toArray := by
  cases v with
  | agg cs =>
    have h2 : cs.toList = zs.map (Value.int k) := by simpa [Value.cells] using h
    rw [← h2]
  | _ =>
    have h3 := congrArg List.length h
    simp [Value.cells] at h3
    omega
theorem open_key {H : Type} {enc : TypeId × Value → H} {W : World} {v : Value} {d : DataW H} {p : List MemPlace} (h : DataW.Trod enc Tryd.prog W 0 (fun _ => true) true 25 v d p) : ∃ l : List Int, v = .agg (kc l) ∧ IsB l ∧ l.length = 32 := by
  obtain ⟨fuel, hf⟩ := h
  obtain ⟨zs, h1, h2, h3⟩ := open_row Tryd.underlying25 Tryd.underlying5 Tryd.cells5k Tryd.cellsK hf
  exact ⟨zs, cells_agg_eq (by omega) h1, fun z hz => wf_byte (h3 z hz), h2⟩
end Go.Proofs.YtpmgmpihmpifgaaDoor

namespace Go.Proofs.YtpmgmpihmpifgaaDoor
open Go.RowKit
set_option maxRecDepth 100000
set_option linter.unusedSimpArgs false
set_option linter.unusedVariables false
theorem Lb.cellAt {w : World} {a : Option Addr} {n c : Nat} {B : List Int} (h : Lb w a n c B) {k : Nat} (hk : k < n) : ∃ p o, a = some ⟨p, o, none⟩ ∧ w.cell? ⟨p, o + k, none⟩ = some (.int .u8 (B.getD k 0)) := by
  have hl := h.len
  rcases h.sl with h1 | ⟨p, o, h1, h2⟩
  · rw [h1] at hl; simp at hl; omega
  · exact ⟨p, o, h1, h2 k (by omega)⟩
theorem take_next (B : List Int) (k : Nat) (h : k < B.length) : B.take (k + 1) = B.take k ++ [B.getD k 0] := by
  rw [List.take_add_one, List.getElem?_eq_getElem h]
  simp [h]
set_option maxHeartbeats 2000000 in
theorem both_ok (A B : List Int) (a b : Option Addr) (n c m d : Nat) (hb : n + m ≤ 140737488355328) (w : World) (hA : Lb w a n c A) (hB : Lb w b m d B) : Calls Tryd.prog 93 #[.slice a n c, .slice b m d] w (Infd (A ++ B) w) := by
  obtain ⟨T, hT⟩ : ∃ T, T = Infd (A ++ B) w := ⟨_, rfl⟩
  rw [← hT]
  have la := hide hA.len
  have lb := hide hB.len
  replace hT := hide hT
  replace hA := hide hA
  replace hB := hide hB
  have w1 : IntKind.i64.wrap ((n : Int) + (m : Int)) = (n : Int) + (m : Int) := by rw [IntKind.wrap_i64]; omega
  have w2 : (0 : Int) ≤ (n : Int) + (m : Int) := by omega
  go_enter Tryd.func93, Tryd.ntmps93
  go_upto_region 1 with fail
  refine wp_region_lit ?_
  iterate 5 (refine wpList_step fun K hK => ?_; replace hK := hide hK; go_simp; refine unhide hK _ _ ?_; clear hK K)
  refine wpList_make_room w rfl (.const (.int .i64 0)) (.tmp 12) rfl 0 ((n : Int) + (m : Int)) 0 (n + m) (by kernel_rfl) (by kernel_rfl) (by omega) (by omega) (by omega) (by omega) ?_
  have hO : Ob w.heap.size (w.alloc (.cells (kc (List.replicate (n + m) 0)) 5 (0, 0))) (.slice (some ⟨w.heap.size, 0, none⟩) 0 (n + m)) (A.take 0) :=
    ⟨rfl, .inr ⟨w.heap.size, n + m, _, rfl, Nat.le_refl _, blk_new _ _, by simp, by unfold maxLen; omega, by rw [kc_size]; simp, by simp⟩⟩
  have hG := (Gr.refl w).alloc (.cells (kc (List.replicate (n + m) 0)) 5 (0, 0))
  generalize World.alloc _ _ = u at *
  simp only [nrm]
  replace hO := hide hO
  replace hG := hide hG
  iterate 1 (refine wpList_step fun K hK => ?_; replace hK := hide hK; go_simp; refine unhide hK _ _ ?_; clear hK K)
  refine wpList_nil ?_
  go_wp2_with fail
  go_loopw [6, 5] (fun i x wr => ∃ (k : Nat) (a5 : Option Addr) (c5 : Nat), k ≤ n ∧ i = .int .i64 k ∧ x = .slice a5 k c5 ∧ Hid (Ob w.heap.size wr (.slice a5 k c5) (A.take k)) ∧ Hid (Gr w wr)) (fun i _ _ => n - (intOf i).toNat)
  case atStart => exact ⟨0, _, n + m, by omega, rfl, rfl, hO, hG⟩
  case round =>
  clear hO hG
  obtain ⟨k, a5, c5, hk, rfl, rfl, hO, hG⟩ := hrel
  by_cases hl : k < n
  · have kI : (k : Int) < (n : Int) := by omega
    have kJ : 0 ≤ (k : Int) ∧ (k : Int) < (n : Int) := by omega
    have kw : IntKind.i64.wrap ((k : Int) + 1) = (k : Int) + 1 := by rw [IntKind.wrap_i64]; omega
    obtain ⟨p, o, rfl, cc⟩ := ((unhide hA).gr (unhide hG)).cellAt hl
    have hnx := hide (take_next A k (by rw [unhide la]; exact hl))
    have htl : Hid ((A.take k).length = k) := by rw [List.length_take, unhide la]; exact Nat.min_eq_left (by omega)
    generalize A.getD k 0 = x at *
    go_upto_region 5 with fail
    refine wp_region_lit ?_
    iterate 6 (refine wpList_step fun K hK => ?_; replace hK := hide hK; go_simp; refine unhide hK _ _ ?_; clear hK K)
    have hO2 := (unhide hO).gr ((Gr.refl wr).alloc (.cells #[.int .u8 x] 5))
    refine app_bs (by kernel_rfl) (.tmp 20) (.tmp 25) rfl w.heap.size (.slice a5 k c5) (A.take k) (by kernel_rfl) hO2 (some ⟨wr.heap.size, 0, none⟩) 1 1 [x] (by kernel_rfl) rfl (.inr ⟨_, 0, rfl, kc_at (l := [x]) (blk_new _ _)⟩) (by rw [unhide htl]; omega) (by have := (unhide hG).size; simp only [size_alloc]; omega) ?_
    intro v' w2 hO3 hgb
    have hG4 := hO2.grown (Nat.le_refl _) ((unhide hG).alloc _) hgb
    rw [← unhide hnx] at hO3
    obtain ⟨a6, c6, hv', _, _, _⟩ := hO3.slice
    have hl2 : (A.take (k + 1)).length = k + 1 := by rw [List.length_take, unhide la]; omega
    rw [hl2] at hv'
    subst hv'
    clear hO hG hO2 hgb hl2 htl hnx
    replace hO3 := hide hO3
    replace hG4 := hide hG4
    simp only [nrm]
    iterate 1 (refine wpList_step fun K hK => ?_; replace hK := hide hK; go_simp; refine unhide hK _ _ ?_; clear hK K)
    refine wpList_nil ?_
    go_wp2_with fail
    exact ⟨⟨k + 1, a6, c6, by omega, by congr 1, rfl, hO3, hG4⟩, by show n - ((k : Int) + 1).toNat < n - (k : Int).toNat; omega⟩
  · have e : k = n := by omega
    subst e
    have hO2 : Hid (Ob w.heap.size wr (.slice a5 (k + 0) c5) (A ++ B.take 0)) := by
      have h := unhide hO
      rw [List.take_of_length_le (by rw [unhide la]; omega)] at h
      rw [List.take_zero, List.append_nil]
      exact h
    clear hO hl
    go_wp2_with fail
    go_loopw [7, 5] (fun i x wr => ∃ (j : Nat) (a5 : Option Addr) (c5 : Nat), j ≤ m ∧ i = .int .i64 j ∧ x = .slice a5 (k + j) c5 ∧ Hid (Ob w.heap.size wr (.slice a5 (k + j) c5) (A ++ B.take j)) ∧ Hid (Gr w wr)) (fun i _ _ => m - (intOf i).toNat)
    case atStart => exact ⟨0, a5, c5, by omega, rfl, rfl, hO2, hG⟩
    case round =>
    clear hO2 hG
    obtain ⟨j, a5, c5, hj, rfl, rfl, hO, hG⟩ := hrel
    by_cases hl : j < m
    · have kI : (j : Int) < (m : Int) := by omega
      have kJ : 0 ≤ (j : Int) ∧ (j : Int) < (m : Int) := by omega
      have kw : IntKind.i64.wrap ((j : Int) + 1) = (j : Int) + 1 := by rw [IntKind.wrap_i64]; omega
      obtain ⟨p, o, rfl, cc⟩ := ((unhide hB).gr (unhide hG)).cellAt hl
      have hnx := hide (take_next B j (by rw [unhide lb]; exact hl))
      have htl : Hid ((A ++ B.take j).length = k + j) := by rw [List.length_append, List.length_take, unhide la, unhide lb, Nat.min_eq_left (by omega)]; exact rfl
      generalize B.getD j 0 = x at *
      go_upto_region 9 with fail
      refine wp_region_lit ?_
      iterate 6 (refine wpList_step fun K hK => ?_; replace hK := hide hK; go_simp; refine unhide hK _ _ ?_; clear hK K)
      have hO2 := (unhide hO).gr ((Gr.refl wr).alloc (.cells #[.int .u8 x] 5))
      refine app_bs (by kernel_rfl) (.tmp 33) (.tmp 38) rfl w.heap.size (.slice a5 (k + j) c5) (A ++ B.take j) (by kernel_rfl) hO2 (some ⟨wr.heap.size, 0, none⟩) 1 1 [x] (by kernel_rfl) rfl (.inr ⟨_, 0, rfl, kc_at (l := [x]) (blk_new _ _)⟩) (by rw [unhide htl]; omega) (by have := (unhide hG).size; simp only [size_alloc]; omega) ?_
      intro v' w2 hO3 hgb
      have hG4 := hO2.grown (Nat.le_refl _) ((unhide hG).alloc _) hgb
      rw [List.append_assoc, ← unhide hnx] at hO3
      obtain ⟨a6, c6, hv', _, _, _⟩ := hO3.slice
      have hl2 : (A ++ B.take (j + 1)).length = k + (j + 1) := by rw [List.length_append, List.length_take, unhide la, unhide lb]; omega
      rw [hl2] at hv'
      subst hv'
      clear hO hG hO2 hgb hl2 htl hnx
      replace hO3 := hide hO3
      replace hG4 := hide hG4
      simp only [nrm]
      iterate 1 (refine wpList_step fun K hK => ?_; replace hK := hide hK; go_simp; refine unhide hK _ _ ?_; clear hK K)
      refine wpList_nil ?_
      go_wp2_with fail
      exact ⟨⟨j + 1, a6, c6, by omega, by congr 1, rfl, hO3, hG4⟩, by show m - ((j : Int) + 1).toNat < m - (j : Int).toNat; omega⟩
    · have e : j = m := by omega
      subst e
      have hP : Hid (Infd (A ++ B) w (.returned (.slice a5 (k + j) c5)) wr) := by
        have h := unhide hO
        rw [List.take_of_length_le (by rw [unhide lb]; omega)] at h
        exact ⟨_, rfl, h, unhide hG⟩
      clear hO hG hl
      go_wp2_with fail
      rw [unhide hT]
      exact unhide hP
end Go.Proofs.YtpmgmpihmpifgaaDoor
