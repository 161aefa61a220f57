/-
  Which texts are names, and which are keys.
-/
import Derived.Test.YtpmgmpihmpifgaaDoorID
namespace Go.Proofs.YtpmgmpihmpifgaaDoor
open Go.RowKit
set_option maxRecDepth 100000
set_option linter.unusedSimpArgs false
set_option linter.unusedVariables false
theorem results_2 {P : Program} {fn : Func} {p q : Tmp} {ty ty2 : TypeId} (h : fn.results = #[.cell p ty, .cell q ty2]) (tmps : Array Value) (w : World) (g g2 : Nat) (t t2 : TypeId) (cs cs2 : Array Value) (fr fr2 : Nat × Nat) (d d2 : TypeDesc)
    (hp : tmps.getD p undef = .pointer (some ⟨g, 0, none⟩)) (hq : tmps.getD q undef = .pointer (some ⟨g2, 0, none⟩)) (hg : w.heap[g]? = some (.cells cs t fr)) (hg2 : w.heap[g2]? = some (.cells cs2 t2 fr2))
    (hu : P.underlying ty = some d) (hd : (match d with | .struct _ | .array _ _ => true | _ => false) = true) (hu2 : P.underlying ty2 = some d2) (hd2 : (match d2 with | .struct _ | .array _ _ => true | _ => false) = true) (hi : (P.info? ty).map (·.size) = some cs.size) (hi2 : (P.info? ty2).map (·.size) = some cs2.size) :
    (results fn tmps).run P w = .ok (.tuple #[.agg cs, .agg cs2]) w := by
  have hp' : tmps[p]?.getD undef = .pointer (some ⟨g, 0, none⟩) := by simpa using hp
  have hq' : tmps[q]?.getD undef = .pointer (some ⟨g2, 0, none⟩) := by simpa using hq
  simp [results, h, hp', hq', asAddr, run_loadVar_row w g t ty cs fr d hg hu hd hi, run_loadVar_row w g2 t2 ty2 cs2 fr2 d2 hg2 hu2 hd2 hi2]
theorem nm_bad {L : List Int} {n : Nat} (h : n < L.length) (hn : isN (L.getD n 0) = false) : nmL L = false := by
  unfold nmL
  have : L.all isN = false := by
    rw [List.all_eq_false]
    refine ⟨L.getD n 0, ?_, by rw [hn]; decide⟩
    have e : L.getD n 0 = L[n] := by simp [h]
    rw [e]
    exact List.getElem_mem h
  rw [this, Bool.and_false]
theorem nm_good {L : List Int} (h : 1 ≤ L.length) (h2 : L.length ≤ 16) (hn : ∀ i, i < L.length → isN (L.getD i 0) = true) : nmL L = true := by
  unfold nmL
  have : L.all isN = true := by
    rw [List.all_eq_true]
    intro x hx
    obtain ⟨i, hi, rfl⟩ := List.getElem_of_mem hx
    have := hn i hi
    simpa [hi] using this
  rw [this]
  simp [h, h2]
theorem isN_low {c : Int} (h : isN c = true) : c < 128 := by
  unfold isN at h
  simp at h
  omega
set_option maxHeartbeats 4000000 in
theorem name_ok (L : List Int) (hL : IsB L) (w : World) : Calls Tryd.prog 10 #[.string (strOfNums L)] w (Bod (nmL L) w) := by
  obtain ⟨T, hT⟩ : ∃ T, T = Bod (nmL L) w := ⟨_, rfl⟩
  rw [← hT]
  replace hT := hide hT
  replace hL := hide hL
  obtain ⟨SS, hSS⟩ : ∃ S, S = strOfNums L := ⟨_, rfl⟩
  obtain ⟨m, hm⟩ : ∃ m, m = L.length := ⟨_, rfl⟩
  rw [← hSS]
  replace hSS := hide hSS
  replace hm := hide hm
  go_enter Tryd.func10, Tryd.ntmps10
  go_upto_region 1 with fail
  by_cases h0 : L = []
  · replace h0 := hide h0
    refine wp_region_lit ?_
    refine list_val (.string SS) (by kernel_rfl) (by kernel_rfl) ?_
    simp only [Act.put, List.setIfInBounds_toArray, List.set_cons_zero, List.set_cons_succ, List.getElem_toArray, List.getElem_cons_zero, List.getElem_cons_succ]
    refine list_val (.bool true) (by kernel_rfl) (exec_seq _ (.tmp 4) (.const (.string ⟨#[]⟩)) rfl L [] (unhide hL) (by intro x hx; cases hx) (by rw [← unhide hSS]; kernel_rfl) rfl true (by rw [unhide h0]; rfl)) ?_
    simp only [Act.put, List.setIfInBounds_toArray, List.set_cons_zero, List.set_cons_succ, List.getElem_toArray, List.getElem_cons_zero, List.getElem_cons_succ]
    refine list_val (.bool true) (by kernel_rfl) (by kernel_rfl) ?_
    simp only [Act.put, List.setIfInBounds_toArray, List.set_cons_zero, List.set_cons_succ, List.getElem_toArray, List.getElem_cons_zero, List.getElem_cons_succ]
    refine wpList_step fun K hK => ?_
    rw [if_neg (ne_true_of_eq_false (by kernel_rfl))]
    refine hK _ _ ?_
    clear hK K
    simp only [Act.put, List.setIfInBounds_toArray, List.set_cons_zero, List.set_cons_succ, List.getElem_toArray, List.getElem_cons_zero, List.getElem_cons_succ]
    refine wpList_step fun K hK => ?_
    rw [if_neg (ne_true_of_eq_false (by kernel_rfl))]
    refine hK _ _ ?_
    clear hK K
    simp only [Act.put, List.setIfInBounds_toArray, List.set_cons_zero, List.set_cons_succ, List.getElem_toArray, List.getElem_cons_zero, List.getElem_cons_succ]
    refine wpList_step fun K hK => ?_
    rw [if_neg (ne_true_of_eq_false (by kernel_rfl))]
    refine hK _ _ ?_
    clear hK K
    simp only [Act.put, List.setIfInBounds_toArray, List.set_cons_zero, List.set_cons_succ, List.getElem_toArray, List.getElem_cons_zero, List.getElem_cons_succ]
    refine list_val (.bool true) (by kernel_rfl) (by kernel_rfl) ?_
    simp only [Act.put, List.setIfInBounds_toArray, List.set_cons_zero, List.set_cons_succ, List.getElem_toArray, List.getElem_cons_zero, List.getElem_cons_succ]
    refine wpList_nil ?_
    have hZ : Hid (T (.returned (.bool false)) w) := by
      rw [unhide hT]
      exact ⟨by rw [unhide h0, show nmL [] = false from rfl], Gr.refl _⟩
    go_wp2_with fail
    exact unhide hZ
  have h1 : 1 ≤ L.length := by cases L with | nil => exact absurd rfl h0 | cons a l => simp
  replace h0 := hide h0
  refine wp_region_lit ?_
  refine list_val (.string SS) (by kernel_rfl) (by kernel_rfl) ?_
  simp only [Act.put, List.setIfInBounds_toArray, List.set_cons_zero, List.set_cons_succ, List.getElem_toArray, List.getElem_cons_zero, List.getElem_cons_succ]
  refine list_val (.bool false) (by kernel_rfl) (exec_seq _ (.tmp 4) (.const (.string ⟨#[]⟩)) rfl L [] (unhide hL) (by intro x hx; cases hx) (by rw [← unhide hSS]; kernel_rfl) rfl false (by simpa using unhide h0)) ?_
  simp only [Act.put, List.setIfInBounds_toArray, List.set_cons_zero, List.set_cons_succ, List.getElem_toArray, List.getElem_cons_zero, List.getElem_cons_succ]
  refine list_val (.bool false) (by kernel_rfl) (by kernel_rfl) ?_
  simp only [Act.put, List.setIfInBounds_toArray, List.set_cons_zero, List.set_cons_succ, List.getElem_toArray, List.getElem_cons_zero, List.getElem_cons_succ]
  refine list_val (.string SS) (by kernel_rfl) (by kernel_rfl) ?_
  simp only [Act.put, List.setIfInBounds_toArray, List.set_cons_zero, List.set_cons_succ, List.getElem_toArray, List.getElem_cons_zero, List.getElem_cons_succ]
  refine list_val (.int .i64 (m : Int)) (by kernel_rfl) (exec_slen _ (.tmp 7) rfl L m (unhide hm).symm (by rw [← unhide hSS]; kernel_rfl)) ?_
  simp only [Act.put, List.setIfInBounds_toArray, List.set_cons_zero, List.set_cons_succ, List.getElem_toArray, List.getElem_cons_zero, List.getElem_cons_succ]
  by_cases h2 : 16 < L.length
  · have h3 : (16 : Int) < (m : Int) := by rw [unhide hm]; omega
    replace h3 := hide h3
    refine list_val (.bool true) (by kernel_rfl) (by have h := unhide h3; go_simp) ?_
    simp only [Act.put, List.setIfInBounds_toArray, List.set_cons_zero, List.set_cons_succ, List.getElem_toArray, List.getElem_cons_zero, List.getElem_cons_succ]
    refine list_val (.bool true) (by kernel_rfl) (by kernel_rfl) ?_
    simp only [Act.put, List.setIfInBounds_toArray, List.set_cons_zero, List.set_cons_succ, List.getElem_toArray, List.getElem_cons_zero, List.getElem_cons_succ]
    refine wpList_nil ?_
    have hZ : Hid (T (.returned (.bool false)) w) := by
      rw [unhide hT]
      exact ⟨by rw [show nmL L = false from by unfold nmL; simp; omega], Gr.refl _⟩
    go_wp2_with fail
    exact unhide hZ
  have h3 : ¬ (16 : Int) < (m : Int) := by rw [unhide hm]; omega
  replace h3 := hide h3
  refine list_val (.bool false) (by kernel_rfl) (by have h := unhide h3; go_simp) ?_
  simp only [Act.put, List.setIfInBounds_toArray, List.set_cons_zero, List.set_cons_succ, List.getElem_toArray, List.getElem_cons_zero, List.getElem_cons_succ]
  refine list_val (.bool false) (by kernel_rfl) (by kernel_rfl) ?_
  simp only [Act.put, List.setIfInBounds_toArray, List.set_cons_zero, List.set_cons_succ, List.getElem_toArray, List.getElem_cons_zero, List.getElem_cons_succ]
  refine wpList_nil ?_
  go_upto_region 3 with fail
  refine wp_region_lit ?_
  refine list_val (.string SS) (by kernel_rfl) (by kernel_rfl) ?_
  simp only [Act.put, List.setIfInBounds_toArray, List.set_cons_zero, List.set_cons_succ, List.getElem_toArray, List.getElem_cons_zero, List.getElem_cons_succ]
  refine list_valw (.pointer (some ⟨w.heap.size, 0, none⟩)) (w.iter SS 0) (by kernel_rfl) (by kernel_rfl) ?_
  have hI0 : Hid ((w.iter SS 0).heap[w.heap.size]? = some (.stringIter SS 0)) := World.iter_heap w SS 0
  have hG0 : Gr w (w.iter SS 0) := (Gr.refl w).alloc _
  generalize World.iter _ _ _ = u1 at *
  simp only [Act.put, List.setIfInBounds_toArray, List.set_cons_zero, List.set_cons_succ, List.getElem_toArray, List.getElem_cons_zero, List.getElem_cons_succ]
  refine wpList_nil ?_
  have hR0 : Hid ((∀ i, i < 0 → isN (L.getD i 0) = true) ∧ Gr w u1) := ⟨fun i hi => absurd hi (by omega), hG0⟩
  clear hG0
  go_wp2_with fail
  go_loopw [] (fun wr => ∃ n : Nat, n ≤ L.length ∧ Hid (wr.heap[w.heap.size]? = some (.stringIter SS n)) ∧ Hid ((∀ i, i < n → isN (L.getD i 0) = true) ∧ Gr w wr)) (fun wr => L.length - wr.iterPos w.heap.size)
  case atStart => exact ⟨0, by omega, hI0, hR0⟩
  case round =>
  clear hI0 hR0
  obtain ⟨n, hn, hI, hR⟩ := hrel
  by_cases hil : n < L.length
  · have hIx := hide (iterPos_of (unhide hI))
    obtain ⟨rn, n', hnx, hn'⟩ := next_any (unhide hL) wr w.heap.size n (by rw [← unhide hSS]; exact unhide hI) hil
    rw [← unhide hSS] at hnx
    have hI2 : Hid ((itr wr w.heap.size SS n').heap[w.heap.size]? = some (.stringIter SS n')) := itr_self SS n' (lt_of_block (unhide hI))
    have hG : Gr w (itr wr w.heap.size SS n') := Gr.itr (unhide hR).2 _ (Nat.le_refl _) SS n'
    generalize itr wr w.heap.size SS n' = v at *
    obtain ⟨c, hc⟩ : ∃ c, c = L.getD n 0 := ⟨_, rfl⟩
    rw [← hc] at hn'
    replace hc := hide hc
    have hZf : Hid (isN c = false → T (.returned (.bool false)) v) := hide (fun h => by
      rw [unhide hT]
      exact ⟨by rw [nm_bad hil (by rw [← unhide hc]; exact h)], hG⟩)
    have hRt : Hid (isN c = true → n' = n + 1 ∧ (∀ i, i < n + 1 → isN (L.getD i 0) = true) ∧ Gr w v) := hide (fun h => ⟨hn' (isN_low h), fun i hi => by
      by_cases e : i = n
      · rw [e, ← unhide hc]; exact h
      · exact (unhide hR).1 i (by omega), hG⟩)
    clear hn' hG hR
    go_upto_region 6 with fail
    by_cases hN : isN c = true
    · have hN2 := hide hN
      clear hN
      refine wp_region_lit ?_
      refine list_val (.string SS) (by kernel_rfl) (by kernel_rfl) ?_
      simp only [Act.put, List.setIfInBounds_toArray, List.set_cons_zero, List.set_cons_succ, List.getElem_toArray, List.getElem_cons_zero, List.getElem_cons_succ]
      refine list_val (.int .i64 (n : Int)) (by kernel_rfl) (by kernel_rfl) ?_
      simp only [Act.put, List.setIfInBounds_toArray, List.set_cons_zero, List.set_cons_succ, List.getElem_toArray, List.getElem_cons_zero, List.getElem_cons_succ]
      refine list_val (.int .u8 c) (by kernel_rfl) (by rw [unhide hc]; exact exec_six _ (.tmp 16) (.tmp 17) rfl L (unhide hL) .i64 n (by rw [← unhide hSS]; kernel_rfl) (by kernel_rfl) hil) ?_
      simp only [Act.put, List.setIfInBounds_toArray, List.set_cons_zero, List.set_cons_succ, List.getElem_toArray, List.getElem_cons_zero, List.getElem_cons_succ]
      refine list_call 27 #[.int .u8 c] (by kernel_rfl) (by kernel_rfl) ((innames_t c (unhide hN2) _).mono ?_)
      rintro r_ w_ ⟨rfl, rfl⟩
      refine ⟨_, rfl, ?_⟩
      simp only [Act.put, List.setIfInBounds_toArray, List.set_cons_zero, List.set_cons_succ, List.getElem_toArray, List.getElem_cons_zero, List.getElem_cons_succ]
      refine list_val (.bool false) (by kernel_rfl) (by kernel_rfl) ?_
      simp only [Act.put, List.setIfInBounds_toArray, List.set_cons_zero, List.set_cons_succ, List.getElem_toArray, List.getElem_cons_zero, List.getElem_cons_succ]
      refine wpList_nil ?_
      obtain ⟨e1, hR2⟩ := unhide hRt (unhide hN2)
      subst e1
      replace hR2 := hide hR2
      clear hRt hZf
      go_wp2_with fail
      go_roundw
      case rel => exact ⟨n + 1, by omega, hI2, hR2⟩
      case measure =>
        have e2 := iterPos_of (unhide hI2)
        have e3 := unhide hIx
        rw [e2, e3]
        omega
    · have hN2 : Hid (isN c = false) := hide (by simpa using hN)
      clear hN
      refine wp_region_lit ?_
      refine list_val (.string SS) (by kernel_rfl) (by kernel_rfl) ?_
      simp only [Act.put, List.setIfInBounds_toArray, List.set_cons_zero, List.set_cons_succ, List.getElem_toArray, List.getElem_cons_zero, List.getElem_cons_succ]
      refine list_val (.int .i64 (n : Int)) (by kernel_rfl) (by kernel_rfl) ?_
      simp only [Act.put, List.setIfInBounds_toArray, List.set_cons_zero, List.set_cons_succ, List.getElem_toArray, List.getElem_cons_zero, List.getElem_cons_succ]
      refine list_val (.int .u8 c) (by kernel_rfl) (by rw [unhide hc]; exact exec_six _ (.tmp 16) (.tmp 17) rfl L (unhide hL) .i64 n (by rw [← unhide hSS]; kernel_rfl) (by kernel_rfl) hil) ?_
      simp only [Act.put, List.setIfInBounds_toArray, List.set_cons_zero, List.set_cons_succ, List.getElem_toArray, List.getElem_cons_zero, List.getElem_cons_succ]
      refine list_call 27 #[.int .u8 c] (by kernel_rfl) (by kernel_rfl) ((innames_f c (unhide hN2) _).mono ?_)
      rintro r_ w_ ⟨rfl, rfl⟩
      refine ⟨_, rfl, ?_⟩
      simp only [Act.put, List.setIfInBounds_toArray, List.set_cons_zero, List.set_cons_succ, List.getElem_toArray, List.getElem_cons_zero, List.getElem_cons_succ]
      refine list_val (.bool true) (by kernel_rfl) (by kernel_rfl) ?_
      simp only [Act.put, List.setIfInBounds_toArray, List.set_cons_zero, List.set_cons_succ, List.getElem_toArray, List.getElem_cons_zero, List.getElem_cons_succ]
      refine wpList_nil ?_
      have hZ := hide (unhide hZf (unhide hN2))
      clear hZf hRt
      go_wp2_with fail
      exact unhide hZ
  · have e : n = L.length := by omega
    have hnx : ∀ ty, (Instr.next (.pointer (some ⟨w.heap.size, 0, none⟩)) true ty).run Tryd.prog wr = .ok (.tuple #[.bool false]) wr := fun ty => next_end (L := L) wr w.heap.size n ty (by rw [← unhide hSS]; exact unhide hI) hil
    have hnm : nmL L = true := nm_good h1 (by omega) (fun i hi => (unhide hR).1 i (by omega))
    have hG := (unhide hR).2
    clear hil e
    have hZ : Hid (T (.returned (.bool true)) wr) := by
      rw [unhide hT]
      exact ⟨by rw [hnm], hG⟩
    go_wp2_with fail
    exact unhide hZ
/-- the key of a text; or what is wrong -/
def kyG (L : List Int) : Prop := kf L = 64 ∧ L.length = 64
instance (L : List Int) : Decidable (kyG L) := by unfold kyG; exact inferInstance
def kyK (L : List Int) : List Int := if kyG L then kyS L 64 else Z32
def kyE (L : List Int) : Int := if kyG L then 0 else 261
def kyP (L : List Int) : Int := if kyG L then 0 else (kf L : Int)
def Kyd (L : List Int) (w : World) (r : Ending) (w' : World) : Prop := r = .returned (.tuple #[.agg (kc (kyK L)), .agg (spv (kyE L) (kyP L))]) ∧ Gr w w'
theorem kyd_no {L : List Int} {n : Nat} (h1 : ∀ i, i < n → isD (L.getD i 0) = true) (h2 : n ≤ 64) (h3 : n ≤ L.length) (h4 : n = 64 ∨ n = L.length ∨ isD (L.getD n 0) = false) (h5 : ¬ (n = 64 ∧ L.length = 64)) : kyK L = Z32 ∧ kyE L = 261 ∧ kyP L = (n : Int) := by
  have e := kf_eq h1 h2 h3 h4
  have hg : ¬ kyG L := by unfold kyG; rw [e]; exact h5
  unfold kyK kyE kyP
  rw [if_neg hg, if_neg hg, if_neg hg, e]
  exact ⟨rfl, rfl, rfl⟩
theorem kyd_yes {L : List Int} (h1 : ∀ i, i < 64 → isD (L.getD i 0) = true) (h2 : L.length = 64) : kyK L = kyS L 64 ∧ kyE L = 0 ∧ kyP L = 0 := by
  have e := kf_eq h1 (Nat.le_refl _) (by omega) (.inl rfl)
  have hg : kyG L := ⟨e, h2⟩
  unfold kyK kyE kyP
  rw [if_pos hg, if_pos hg, if_pos hg]
  exact ⟨rfl, rfl, rfl⟩
theorem Z32_len : Z32.length = 32 := rfl
set_option maxHeartbeats 4000000 in
theorem ikey_ok (L : List Int) (hL : IsB L) (w : World) : Calls Tryd.prog 12 #[.string (strOfNums L)] w (Kyd L w) := by
  obtain ⟨T, hT⟩ : ∃ T, T = Kyd L w := ⟨_, rfl⟩
  rw [← hT]
  replace hT := hide hT
  replace hL := hide hL
  obtain ⟨SS, hSS⟩ : ∃ S, S = strOfNums L := ⟨_, rfl⟩
  obtain ⟨m, hm⟩ : ∃ m, m = L.length := ⟨_, rfl⟩
  rw [← hSS]
  replace hSS := hide hSS
  replace hm := hide hm
  go_enter Tryd.func12, Tryd.ntmps12
  go_upto_region 2 with fail
  have hB := (((Bl.nil w).new #[.int .u8 0, .int .u8 0, .int .u8 0, .int .u8 0, .int .u8 0, .int .u8 0, .int .u8 0, .int .u8 0, .int .u8 0, .int .u8 0, .int .u8 0, .int .u8 0, .int .u8 0, .int .u8 0, .int .u8 0, .int .u8 0, .int .u8 0, .int .u8 0, .int .u8 0, .int .u8 0, .int .u8 0, .int .u8 0, .int .u8 0, .int .u8 0, .int .u8 0, .int .u8 0, .int .u8 0, .int .u8 0, .int .u8 0, .int .u8 0, .int .u8 0, .int .u8 0] 25).new #[.int .i64 0, .int .i64 0] 28).new #[.int .u8 0, .int .u8 0, .int .u8 0, .int .u8 0, .int .u8 0, .int .u8 0, .int .u8 0, .int .u8 0, .int .u8 0, .int .u8 0, .int .u8 0, .int .u8 0, .int .u8 0, .int .u8 0, .int .u8 0, .int .u8 0, .int .u8 0, .int .u8 0, .int .u8 0, .int .u8 0, .int .u8 0, .int .u8 0, .int .u8 0, .int .u8 0, .int .u8 0, .int .u8 0, .int .u8 0, .int .u8 0, .int .u8 0, .int .u8 0, .int .u8 0, .int .u8 0] 25
  simp only [List.nil_append, List.cons_append, size_alloc] at hB
  have hsz : (((w.alloc (.cells #[.int .u8 0, .int .u8 0, .int .u8 0, .int .u8 0, .int .u8 0, .int .u8 0, .int .u8 0, .int .u8 0, .int .u8 0, .int .u8 0, .int .u8 0, .int .u8 0, .int .u8 0, .int .u8 0, .int .u8 0, .int .u8 0, .int .u8 0, .int .u8 0, .int .u8 0, .int .u8 0, .int .u8 0, .int .u8 0, .int .u8 0, .int .u8 0, .int .u8 0, .int .u8 0, .int .u8 0, .int .u8 0, .int .u8 0, .int .u8 0, .int .u8 0, .int .u8 0] 25 (0, 0))).alloc (.cells #[.int .i64 0, .int .i64 0] 28 (0, 0))).alloc (.cells #[.int .u8 0, .int .u8 0, .int .u8 0, .int .u8 0, .int .u8 0, .int .u8 0, .int .u8 0, .int .u8 0, .int .u8 0, .int .u8 0, .int .u8 0, .int .u8 0, .int .u8 0, .int .u8 0, .int .u8 0, .int .u8 0, .int .u8 0, .int .u8 0, .int .u8 0, .int .u8 0, .int .u8 0, .int .u8 0, .int .u8 0, .int .u8 0, .int .u8 0, .int .u8 0, .int .u8 0, .int .u8 0, .int .u8 0, .int .u8 0, .int .u8 0, .int .u8 0] 25 (0, 0))).heap.size = w.heap.size + 1 + 1 + 1 := by simp only [size_alloc]
  generalize World.alloc _ _ = u at *
  replace hB : Bl w [⟨w.heap.size, kc Z32, 25⟩, ⟨w.heap.size + 1, spv 0 0, 28⟩, ⟨w.heap.size + 1 + 1, kc (kyS L 0), 25⟩] u := hB
  refine wp_region_lit ?_
  refine list_val (.string SS) (by kernel_rfl) (by kernel_rfl) ?_
  simp only [Act.put, List.setIfInBounds_toArray, List.set_cons_zero, List.set_cons_succ, List.getElem_toArray, List.getElem_cons_zero, List.getElem_cons_succ]
  refine list_valw (.pointer (some ⟨u.heap.size, 0, none⟩)) (u.iter SS 0) (by kernel_rfl) (by kernel_rfl) ?_
  have hI0 : Hid ((u.iter SS 0).heap[u.heap.size]? = some (.stringIter SS 0)) := World.iter_heap u SS 0
  replace hB : Hid (Bl w [⟨w.heap.size, kc Z32, 25⟩, ⟨w.heap.size + 1, spv 0 0, 28⟩, ⟨w.heap.size + 1 + 1, kc (kyS L 0), 25⟩] (u.iter SS 0)) := hide (hB.more ((Gr.refl u).alloc _))
  generalize World.iter _ _ _ = u1 at *
  rw [hsz] at hI0 ⊢
  clear hsz
  simp only [Act.put, List.setIfInBounds_toArray, List.set_cons_zero, List.set_cons_succ, List.getElem_toArray, List.getElem_cons_zero, List.getElem_cons_succ]
  refine wpList_nil ?_
  go_wp2_with fail
  go_loopw [] (fun wr => ∃ (n : Nat) (M : List Int), n ≤ 64 ∧ n ≤ L.length ∧ Hid (M = kyS L n) ∧ Hid (∀ i, i < n → isD (L.getD i 0) = true) ∧ Hid (wr.heap[w.heap.size + 1 + 1 + 1]? = some (.stringIter SS n)) ∧ Hid (Bl w [⟨w.heap.size, kc Z32, 25⟩, ⟨w.heap.size + 1, spv 0 0, 28⟩, ⟨w.heap.size + 1 + 1, kc M, 25⟩] wr)) (fun wr => L.length - wr.iterPos (w.heap.size + 1 + 1 + 1))
  case atStart => exact ⟨0, _, by omega, by omega, rfl, hide (fun i hi => absurd hi (by omega)), hI0, hB⟩
  case round =>
  clear hI0 hB
  obtain ⟨n, M, hn6, hnl, hM, hD, hI, hB⟩ := hrel
  have hMl : M.length = 32 := by rw [unhide hM]; exact kyS_len L n
  by_cases hil : n < L.length
  · have hIx := hide (iterPos_of (unhide hI))
    obtain ⟨rn, n', hnx, hn'⟩ := next_any (unhide hL) wr (w.heap.size + 1 + 1 + 1) n (by rw [← unhide hSS]; exact unhide hI) hil
    rw [← unhide hSS] at hnx
    have hI2 : Hid ((itr wr (w.heap.size + 1 + 1 + 1) SS n').heap[w.heap.size + 1 + 1 + 1]? = some (.stringIter SS n')) := itr_self SS n' (lt_of_block (unhide hI))
    replace hB : Hid (Bl w [⟨w.heap.size, kc Z32, 25⟩, ⟨w.heap.size + 1, spv 0 0, 28⟩, ⟨w.heap.size + 1 + 1, kc M, 25⟩] (itr wr (w.heap.size + 1 + 1 + 1) SS n')) := hide ((unhide hB).itr _ (by omega) (by intro x hx; simp only [List.mem_cons, List.not_mem_nil, or_false] at hx; rcases hx with rfl | rfl | rfl <;> dsimp only <;> omega) SS n')
    generalize itr wr (w.heap.size + 1 + 1 + 1) SS n' = v at *
    obtain ⟨c, hc⟩ : ∃ c, c = L.getD n 0 := ⟨_, rfl⟩
    rw [← hc] at hn'
    replace hc := hide hc; replace hn' := hide hn'
    go_upto_region 5 with fail
    by_cases hV : isD c = true
    · have hV2 := hide hV
      clear hV
      refine wp_region_lit ?_
      refine list_val (.string SS) (by kernel_rfl) (by kernel_rfl) ?_
      simp only [Act.put, List.setIfInBounds_toArray, List.set_cons_zero, List.set_cons_succ, List.getElem_toArray, List.getElem_cons_zero, List.getElem_cons_succ]
      refine list_val (.int .i64 (n : Int)) (by kernel_rfl) (by kernel_rfl) ?_
      simp only [Act.put, List.setIfInBounds_toArray, List.set_cons_zero, List.set_cons_succ, List.getElem_toArray, List.getElem_cons_zero, List.getElem_cons_succ]
      refine list_val (.int .u8 c) (by kernel_rfl) (by rw [unhide hc]; exact exec_six _ (.tmp 14) (.tmp 15) rfl L (unhide hL) .i64 n (by rw [← unhide hSS]; kernel_rfl) (by kernel_rfl) hil) ?_
      simp only [Act.put, List.setIfInBounds_toArray, List.set_cons_zero, List.set_cons_succ, List.getElem_toArray, List.getElem_cons_zero, List.getElem_cons_succ]
      refine list_call 28 #[.int .u8 c] (by kernel_rfl) (by kernel_rfl) ((valueof_t c (unhide hV2) _).mono ?_)
      rintro r_ w_ ⟨rfl, rfl⟩
      refine ⟨_, rfl, ?_⟩
      simp only [Act.put, List.setIfInBounds_toArray, List.set_cons_zero, List.set_cons_succ, List.getElem_toArray, List.getElem_cons_zero, List.getElem_cons_succ]
      refine list_val (.tuple #[.int .u8 (dv c), .bool true]) (by kernel_rfl) (by kernel_rfl) ?_
      simp only [Act.put, List.setIfInBounds_toArray, List.set_cons_zero, List.set_cons_succ, List.getElem_toArray, List.getElem_cons_zero, List.getElem_cons_succ]
      refine list_val (.int .u8 (dv c)) (by kernel_rfl) (by kernel_rfl) ?_
      simp only [Act.put, List.setIfInBounds_toArray, List.set_cons_zero, List.set_cons_succ, List.getElem_toArray, List.getElem_cons_zero, List.getElem_cons_succ]
      refine list_val (.bool true) (by kernel_rfl) (by kernel_rfl) ?_
      simp only [Act.put, List.setIfInBounds_toArray, List.set_cons_zero, List.set_cons_succ, List.getElem_toArray, List.getElem_cons_zero, List.getElem_cons_succ]
      (refine wpList_step fun K hK => ?_; replace hK := hide hK; go_simp; refine unhide hK _ _ ?_; clear hK K)
      (refine wpList_step fun K hK => ?_; replace hK := hide hK; go_simp; refine unhide hK _ _ ?_; clear hK K)
      refine wpList_nil ?_
      go_upto_region 6 with fail
      by_cases h64 : n = 64
      · have h64h := hide h64
        subst h64
        clear h64h
        refine wp_region_lit ?_
        refine list_val (.bool true) (by kernel_rfl) (by kernel_rfl) ?_
        simp only [Act.put, List.setIfInBounds_toArray, List.set_cons_zero, List.set_cons_succ, List.getElem_toArray, List.getElem_cons_zero, List.getElem_cons_succ]
        refine list_val (.bool false) (by kernel_rfl) (by kernel_rfl) ?_
        simp only [Act.put, List.setIfInBounds_toArray, List.set_cons_zero, List.set_cons_succ, List.getElem_toArray, List.getElem_cons_zero, List.getElem_cons_succ]
        refine list_val (.bool false) (by kernel_rfl) (by kernel_rfl) ?_
        simp only [Act.put, List.setIfInBounds_toArray, List.set_cons_zero, List.set_cons_succ, List.getElem_toArray, List.getElem_cons_zero, List.getElem_cons_succ]
        refine list_val (.int .i64 ((64 : Nat) : Int)) (by kernel_rfl) (by kernel_rfl) ?_
        simp only [Act.put, List.setIfInBounds_toArray, List.set_cons_zero, List.set_cons_succ, List.getElem_toArray, List.getElem_cons_zero, List.getElem_cons_succ]
        refine list_val (.bool true) (by kernel_rfl) (by kernel_rfl) ?_
        simp only [Act.put, List.setIfInBounds_toArray, List.set_cons_zero, List.set_cons_succ, List.getElem_toArray, List.getElem_cons_zero, List.getElem_cons_succ]
        refine list_val (.bool true) (by kernel_rfl) (by kernel_rfl) ?_
        simp only [Act.put, List.setIfInBounds_toArray, List.set_cons_zero, List.set_cons_succ, List.getElem_toArray, List.getElem_cons_zero, List.getElem_cons_succ]
        refine wpList_nil ?_
        go_upto_region 7 with fail
        refine wp_region_lit ?_
        refine list_val (.agg (kc Z32)) (by kernel_rfl) (by kernel_rfl) ?_
        simp only [Act.put, List.setIfInBounds_toArray, List.set_cons_zero, List.set_cons_succ, List.getElem_toArray, List.getElem_cons_zero, List.getElem_cons_succ]
        refine list_val (.int .i64 ((64 : Nat) : Int)) (by kernel_rfl) (by kernel_rfl) ?_
        simp only [Act.put, List.setIfInBounds_toArray, List.set_cons_zero, List.set_cons_succ, List.getElem_toArray, List.getElem_cons_zero, List.getElem_cons_succ]
        refine list_call 29 #[.int .i64 ((64 : Nat) : Int)] (by kernel_rfl) (by kernel_rfl) ((nokey_ok ((64 : Nat) : Int) _).mono ?_)
        rintro r_ y1 ⟨rfl, hg⟩
        replace hB := hide ((unhide hB).more hg)
        clear hg
        refine ⟨_, rfl, ?_⟩
        simp only [Act.put, List.setIfInBounds_toArray, List.set_cons_zero, List.set_cons_succ, List.getElem_toArray, List.getElem_cons_zero, List.getElem_cons_succ]
        replace hB := unhide hB
        refine list_store 25 (.tmp 2) (.tmp 26) w.heap.size (kc Z32) 25 (kc Z32) (by kernel_rfl) rfl (by kernel_rfl) (by kernel_rfl) (hB.get 0 (x := ⟨w.heap.size, kc Z32, 25⟩) rfl) (by rw [Tryd.infoKey, kc_size]; rfl) rfl (kc_one _) ?_
        replace hB := hB.set 0 (x := ⟨w.heap.size, kc Z32, 25⟩) rfl (kc Z32)
        simp only [List.set_cons_zero, List.set_cons_succ] at hB
        generalize World.setRow _ _ _ = y2 at *
        simp only [Act.put, List.setIfInBounds_toArray, List.set_cons_zero, List.set_cons_succ, List.getElem_toArray, List.getElem_cons_zero, List.getElem_cons_succ]
        refine list_store 28 (.tmp 3) (.tmp 28) (w.heap.size + 1) (spv 261 ((64 : Nat) : Int)) 28 (spv 0 0) (by kernel_rfl) rfl (by kernel_rfl) (by kernel_rfl) (hB.get 1 (x := ⟨w.heap.size + 1, spv 0 0, 28⟩) rfl) (by rw [Tryd.infoSpot]; rfl) rfl (spv_one _ _) ?_
        replace hB := hB.set 1 (x := ⟨w.heap.size + 1, spv 0 0, 28⟩) rfl (spv 261 ((64 : Nat) : Int))
        simp only [List.set_cons_zero, List.set_cons_succ] at hB
        generalize World.setRow _ _ _ = y3 at *
        simp only [Act.put, List.setIfInBounds_toArray, List.set_cons_zero, List.set_cons_succ, List.getElem_toArray, List.getElem_cons_zero, List.getElem_cons_succ]
        refine wpList_nil ?_
        obtain ⟨e1, e2, e3⟩ := kyd_no (L := L) (n := 64) (unhide hD) (by omega) (by omega) (.inl rfl) (by omega)
        replace hB := hide hB
        go_wp2_with fail
        replace hB := unhide hB
        rw [unhide hT]
        exact bodyPost_ret (v := .tuple #[.agg (kc Z32), .agg (spv 261 ((64 : Nat) : Int))]) (results_2 Tryd.results12 _ _ w.heap.size (w.heap.size + 1) 25 28 (kc Z32) (spv 261 ((64 : Nat) : Int)) (0, 0) (0, 0) _ _ rfl rfl (hB.get 0 (x := ⟨w.heap.size, kc Z32, 25⟩) rfl) (hB.get 1 (x := ⟨w.heap.size + 1, spv 261 ((64 : Nat) : Int), 28⟩) rfl) Tryd.underlying25 rfl Tryd.underlying28 rfl (by rw [Tryd.infoKey, kc_size]; rfl) (by rw [Tryd.infoSpot]; rfl)) rfl ⟨by rw [e1, e2, e3], hB.gr⟩
      · have h64i : ¬ (n : Int) = 64 := by omega
        replace h64 := hide h64
        replace h64i := hide h64i
        refine wp_region_lit ?_
        refine list_val (.bool true) (by kernel_rfl) (by kernel_rfl) ?_
        simp only [Act.put, List.setIfInBounds_toArray, List.set_cons_zero, List.set_cons_succ, List.getElem_toArray, List.getElem_cons_zero, List.getElem_cons_succ]
        refine list_val (.bool false) (by kernel_rfl) (by kernel_rfl) ?_
        simp only [Act.put, List.setIfInBounds_toArray, List.set_cons_zero, List.set_cons_succ, List.getElem_toArray, List.getElem_cons_zero, List.getElem_cons_succ]
        refine list_val (.bool false) (by kernel_rfl) (by kernel_rfl) ?_
        simp only [Act.put, List.setIfInBounds_toArray, List.set_cons_zero, List.set_cons_succ, List.getElem_toArray, List.getElem_cons_zero, List.getElem_cons_succ]
        refine list_val (.int .i64 (n : Int)) (by kernel_rfl) (by kernel_rfl) ?_
        simp only [Act.put, List.setIfInBounds_toArray, List.set_cons_zero, List.set_cons_succ, List.getElem_toArray, List.getElem_cons_zero, List.getElem_cons_succ]
        refine list_val (.bool false) (by kernel_rfl) (by have h := unhide h64i; go_simp) ?_
        simp only [Act.put, List.setIfInBounds_toArray, List.set_cons_zero, List.set_cons_succ, List.getElem_toArray, List.getElem_cons_zero, List.getElem_cons_succ]
        refine list_val (.bool false) (by kernel_rfl) (by kernel_rfl) ?_
        simp only [Act.put, List.setIfInBounds_toArray, List.set_cons_zero, List.set_cons_succ, List.getElem_toArray, List.getElem_cons_zero, List.getElem_cons_succ]
        refine wpList_nil ?_
        have hn4 : n < 64 := by have := unhide h64; omega
        obtain ⟨q, hq⟩ : ∃ q, q = n / 2 := ⟨_, rfl⟩
        have hq2 : q < 32 := by omega
        have eq0 : Int.tdiv (n : Int) 2 = (q : Int) := by rw [Int.tdiv_eq_ediv_of_nonneg (by omega)]; omega
        have eq1 : IntKind.i64.wrap (q : Int) = (q : Int) := by rw [IntKind.wrap_i64]; omega
        obtain ⟨x, hx⟩ : ∃ x, x = M.getD q 0 := ⟨_, rfl⟩
        have hcx := kc_cell ((unhide hB).get 2 (x := ⟨w.heap.size + 1 + 1, kc M, 25⟩) rfl) q (by omega)
        have hfz := froz_of (i := q) ((unhide hB).get 2 (x := ⟨w.heap.size + 1 + 1, kc M, 25⟩) rfl)
        rw [← hx] at hcx
        replace eq0 := hide eq0; replace eq1 := hide eq1; replace hx := hide hx; replace hcx := hide hcx; replace hfz := hide hfz; replace hq := hide hq; replace hn4 := hide hn4
        go_upto_region 8 with fail
        refine wp_region_lit ?_
        refine list_val (.int .i64 (n : Int)) (by kernel_rfl) (by kernel_rfl) ?_
        simp only [Act.put, List.setIfInBounds_toArray, List.set_cons_zero, List.set_cons_succ, List.getElem_toArray, List.getElem_cons_zero, List.getElem_cons_succ]
        refine list_val (.int .i64 (q : Int)) (by kernel_rfl) (by have h0 := unhide eq0; have h1 := unhide eq1; go_simp) ?_
        simp only [Act.put, List.setIfInBounds_toArray, List.set_cons_zero, List.set_cons_succ, List.getElem_toArray, List.getElem_cons_zero, List.getElem_cons_succ]
        refine list_val (.int .i64 (n : Int)) (by kernel_rfl) (by kernel_rfl) ?_
        simp only [Act.put, List.setIfInBounds_toArray, List.set_cons_zero, List.set_cons_succ, List.getElem_toArray, List.getElem_cons_zero, List.getElem_cons_succ]
        refine list_val (.int .i64 (q : Int)) (by kernel_rfl) (by have h0 := unhide eq0; have h1 := unhide eq1; go_simp) ?_
        simp only [Act.put, List.setIfInBounds_toArray, List.set_cons_zero, List.set_cons_succ, List.getElem_toArray, List.getElem_cons_zero, List.getElem_cons_succ]
        refine list_val (.pointer (some ⟨w.heap.size + 1 + 1, q, none⟩)) (by kernel_rfl) (exec_kat _ (.tmp 4) (.tmp 32) rfl (w.heap.size + 1 + 1) q (by kernel_rfl) (by kernel_rfl) hq2) ?_
        simp only [Act.put, List.setIfInBounds_toArray, List.set_cons_zero, List.set_cons_succ, List.getElem_toArray, List.getElem_cons_zero, List.getElem_cons_succ]
        refine list_val (.int .u8 x) (by kernel_rfl) (exec_u8 _ (.tmp 33) rfl (w.heap.size + 1 + 1) q (by kernel_rfl) x (unhide hcx)) ?_
        simp only [Act.put, List.setIfInBounds_toArray, List.set_cons_zero, List.set_cons_succ, List.getElem_toArray, List.getElem_cons_zero, List.getElem_cons_succ]
        refine list_val (.int .u8 (IntKind.u8.wrap (x * 16))) (by kernel_rfl) (by kernel_rfl) ?_
        simp only [Act.put, List.setIfInBounds_toArray, List.set_cons_zero, List.set_cons_succ, List.getElem_toArray, List.getElem_cons_zero, List.getElem_cons_succ]
        refine list_val (.int .u8 (dv c)) (by kernel_rfl) (by kernel_rfl) ?_
        simp only [Act.put, List.setIfInBounds_toArray, List.set_cons_zero, List.set_cons_succ, List.getElem_toArray, List.getElem_cons_zero, List.getElem_cons_succ]
        refine list_val (.int .u8 (bits .or .u8 (IntKind.u8.wrap (x * 16)) (dv c))) (by kernel_rfl) (by kernel_rfl) ?_
        simp only [Act.put, List.setIfInBounds_toArray, List.set_cons_zero, List.set_cons_succ, List.getElem_toArray, List.getElem_cons_zero, List.getElem_cons_succ]
        refine list_val (.pointer (some ⟨w.heap.size + 1 + 1, q, none⟩)) (by kernel_rfl) (exec_kat _ (.tmp 4) (.tmp 30) rfl (w.heap.size + 1 + 1) q (by kernel_rfl) (by kernel_rfl) hq2) ?_
        simp only [Act.put, List.setIfInBounds_toArray, List.set_cons_zero, List.set_cons_succ, List.getElem_toArray, List.getElem_cons_zero, List.getElem_cons_succ]
        refine wpList_step fun K_ hQ => ?_
        rw [if_pos (by kernel_rfl)]
        refine store_u8 (.tmp 38) (.tmp 37) rfl (w.heap.size + 1 + 1) q (by kernel_rfl) (bits .or .u8 (IntKind.u8.wrap (x * 16)) (dv c)) (by kernel_rfl) (.int .u8 x) (unhide hcx) (unhide hfz) ?_
        refine hQ _ _ ?_
        clear hQ K_
        have hB2 := (unhide hB).cell 2 (x := ⟨w.heap.size + 1 + 1, kc M, 25⟩) rfl q (.int .u8 (bits .or .u8 (IntKind.u8.wrap (x * 16)) (dv c)))
        simp only [List.set_cons_zero, List.set_cons_succ, kc_set] at hB2
        have hI3 := hide ((Below.heap_setCell _ ⟨w.heap.size + 1 + 1, q, none⟩ (.int .u8 (bits .or .u8 (IntKind.u8.wrap (x * 16)) (dv c))) (w.heap.size + 1 + 1 + 1) (by dsimp only; omega)).trans (unhide hI2))
        generalize World.setCell _ _ _ = v2 at *
        simp only [Act.put, List.setIfInBounds_toArray, List.set_cons_zero, List.set_cons_succ, List.getElem_toArray, List.getElem_cons_zero, List.getElem_cons_succ]
        refine wpList_nil ?_
        have e1 : n' = n + 1 := unhide hn' (by have := isD_cases (unhide hV2); omega)
        subst e1
        have hM2 : Hid (M.set q (bits .or .u8 (IntKind.u8.wrap (x * 16)) (dv c)) = kyS L (n + 1)) := hide (by
          rw [kyS, ← unhide hM, ← unhide hq, ← unhide hx, ← unhide hc])
        have hD2 : Hid (∀ i, i < n + 1 → isD (L.getD i 0) = true) := hide (fun i hi => by
          by_cases e : i = n
          · rw [e, ← unhide hc]; exact unhide hV2
          · exact unhide hD i (by omega))
        replace hB2 := hide hB2
        clear hB hD hM
        go_wp2_with fail
        go_roundw
        case rel => exact ⟨n + 1, _, by have := unhide hn4; omega, by omega, hM2, hD2, hI3, hB2⟩
        case measure =>
          have e2 := iterPos_of (unhide hI3)
          have e3 := unhide hIx
          rw [e2, e3]
          omega
    · have hV2 : Hid (isD c = false) := hide (by simpa using hV)
      clear hV
      refine wp_region_lit ?_
      refine list_val (.string SS) (by kernel_rfl) (by kernel_rfl) ?_
      simp only [Act.put, List.setIfInBounds_toArray, List.set_cons_zero, List.set_cons_succ, List.getElem_toArray, List.getElem_cons_zero, List.getElem_cons_succ]
      refine list_val (.int .i64 (n : Int)) (by kernel_rfl) (by kernel_rfl) ?_
      simp only [Act.put, List.setIfInBounds_toArray, List.set_cons_zero, List.set_cons_succ, List.getElem_toArray, List.getElem_cons_zero, List.getElem_cons_succ]
      refine list_val (.int .u8 c) (by kernel_rfl) (by rw [unhide hc]; exact exec_six _ (.tmp 14) (.tmp 15) rfl L (unhide hL) .i64 n (by rw [← unhide hSS]; kernel_rfl) (by kernel_rfl) hil) ?_
      simp only [Act.put, List.setIfInBounds_toArray, List.set_cons_zero, List.set_cons_succ, List.getElem_toArray, List.getElem_cons_zero, List.getElem_cons_succ]
      refine list_call 28 #[.int .u8 c] (by kernel_rfl) (by kernel_rfl) ((valueof_f c (unhide hV2) _).mono ?_)
      rintro r_ w_ ⟨rfl, rfl⟩
      refine ⟨_, rfl, ?_⟩
      simp only [Act.put, List.setIfInBounds_toArray, List.set_cons_zero, List.set_cons_succ, List.getElem_toArray, List.getElem_cons_zero, List.getElem_cons_succ]
      refine list_val (.tuple #[.int .u8 0, .bool false]) (by kernel_rfl) (by kernel_rfl) ?_
      simp only [Act.put, List.setIfInBounds_toArray, List.set_cons_zero, List.set_cons_succ, List.getElem_toArray, List.getElem_cons_zero, List.getElem_cons_succ]
      refine list_val (.int .u8 0) (by kernel_rfl) (by kernel_rfl) ?_
      simp only [Act.put, List.setIfInBounds_toArray, List.set_cons_zero, List.set_cons_succ, List.getElem_toArray, List.getElem_cons_zero, List.getElem_cons_succ]
      refine list_val (.bool false) (by kernel_rfl) (by kernel_rfl) ?_
      simp only [Act.put, List.setIfInBounds_toArray, List.set_cons_zero, List.set_cons_succ, List.getElem_toArray, List.getElem_cons_zero, List.getElem_cons_succ]
      (refine wpList_step fun K hK => ?_; replace hK := hide hK; go_simp; refine unhide hK _ _ ?_; clear hK K)
      (refine wpList_step fun K hK => ?_; replace hK := hide hK; go_simp; refine unhide hK _ _ ?_; clear hK K)
      refine wpList_nil ?_
      go_upto_region 6 with fail
      refine wp_region_lit ?_
      refine list_val (.bool false) (by kernel_rfl) (by kernel_rfl) ?_
      simp only [Act.put, List.setIfInBounds_toArray, List.set_cons_zero, List.set_cons_succ, List.getElem_toArray, List.getElem_cons_zero, List.getElem_cons_succ]
      refine list_val (.bool true) (by kernel_rfl) (by kernel_rfl) ?_
      simp only [Act.put, List.setIfInBounds_toArray, List.set_cons_zero, List.set_cons_succ, List.getElem_toArray, List.getElem_cons_zero, List.getElem_cons_succ]
      refine list_val (.bool true) (by kernel_rfl) (by kernel_rfl) ?_
      simp only [Act.put, List.setIfInBounds_toArray, List.set_cons_zero, List.set_cons_succ, List.getElem_toArray, List.getElem_cons_zero, List.getElem_cons_succ]
      refine wpList_step fun K hK => ?_
      rw [if_neg (ne_true_of_eq_false (by kernel_rfl))]
      refine hK _ _ ?_
      clear hK K
      simp only [Act.put, List.setIfInBounds_toArray, List.set_cons_zero, List.set_cons_succ, List.getElem_toArray, List.getElem_cons_zero, List.getElem_cons_succ]
      refine wpList_step fun K hK => ?_
      rw [if_neg (ne_true_of_eq_false (by kernel_rfl))]
      refine hK _ _ ?_
      clear hK K
      simp only [Act.put, List.setIfInBounds_toArray, List.set_cons_zero, List.set_cons_succ, List.getElem_toArray, List.getElem_cons_zero, List.getElem_cons_succ]
      refine list_val (.bool true) (by kernel_rfl) (by kernel_rfl) ?_
      simp only [Act.put, List.setIfInBounds_toArray, List.set_cons_zero, List.set_cons_succ, List.getElem_toArray, List.getElem_cons_zero, List.getElem_cons_succ]
      refine wpList_nil ?_
      go_upto_region 7 with fail
      refine wp_region_lit ?_
      refine list_val (.agg (kc Z32)) (by kernel_rfl) (by kernel_rfl) ?_
      simp only [Act.put, List.setIfInBounds_toArray, List.set_cons_zero, List.set_cons_succ, List.getElem_toArray, List.getElem_cons_zero, List.getElem_cons_succ]
      refine list_val (.int .i64 (n : Int)) (by kernel_rfl) (by kernel_rfl) ?_
      simp only [Act.put, List.setIfInBounds_toArray, List.set_cons_zero, List.set_cons_succ, List.getElem_toArray, List.getElem_cons_zero, List.getElem_cons_succ]
      refine list_call 29 #[.int .i64 (n : Int)] (by kernel_rfl) (by kernel_rfl) ((nokey_ok (n : Int) _).mono ?_)
      rintro r_ y1 ⟨rfl, hg⟩
      replace hB := hide ((unhide hB).more hg)
      clear hg
      refine ⟨_, rfl, ?_⟩
      simp only [Act.put, List.setIfInBounds_toArray, List.set_cons_zero, List.set_cons_succ, List.getElem_toArray, List.getElem_cons_zero, List.getElem_cons_succ]
      replace hB := unhide hB
      refine list_store 25 (.tmp 2) (.tmp 26) w.heap.size (kc Z32) 25 (kc Z32) (by kernel_rfl) rfl (by kernel_rfl) (by kernel_rfl) (hB.get 0 (x := ⟨w.heap.size, kc Z32, 25⟩) rfl) (by rw [Tryd.infoKey, kc_size]; rfl) rfl (kc_one _) ?_
      replace hB := hB.set 0 (x := ⟨w.heap.size, kc Z32, 25⟩) rfl (kc Z32)
      simp only [List.set_cons_zero, List.set_cons_succ] at hB
      generalize World.setRow _ _ _ = y2 at *
      simp only [Act.put, List.setIfInBounds_toArray, List.set_cons_zero, List.set_cons_succ, List.getElem_toArray, List.getElem_cons_zero, List.getElem_cons_succ]
      refine list_store 28 (.tmp 3) (.tmp 28) (w.heap.size + 1) (spv 261 (n : Int)) 28 (spv 0 0) (by kernel_rfl) rfl (by kernel_rfl) (by kernel_rfl) (hB.get 1 (x := ⟨w.heap.size + 1, spv 0 0, 28⟩) rfl) (by rw [Tryd.infoSpot]; rfl) rfl (spv_one _ _) ?_
      replace hB := hB.set 1 (x := ⟨w.heap.size + 1, spv 0 0, 28⟩) rfl (spv 261 (n : Int))
      simp only [List.set_cons_zero, List.set_cons_succ] at hB
      generalize World.setRow _ _ _ = y3 at *
      simp only [Act.put, List.setIfInBounds_toArray, List.set_cons_zero, List.set_cons_succ, List.getElem_toArray, List.getElem_cons_zero, List.getElem_cons_succ]
      refine wpList_nil ?_
      obtain ⟨e1, e2, e3⟩ := kyd_no (L := L) (n := n) (unhide hD) hn6 hnl (.inr (.inr (by rw [← unhide hc]; exact unhide hV2))) (by omega)
      replace hB := hide hB
      go_wp2_with fail
      replace hB := unhide hB
      rw [unhide hT]
      exact bodyPost_ret (v := .tuple #[.agg (kc Z32), .agg (spv 261 (n : Int))]) (results_2 Tryd.results12 _ _ w.heap.size (w.heap.size + 1) 25 28 (kc Z32) (spv 261 (n : Int)) (0, 0) (0, 0) _ _ rfl rfl (hB.get 0 (x := ⟨w.heap.size, kc Z32, 25⟩) rfl) (hB.get 1 (x := ⟨w.heap.size + 1, spv 261 (n : Int), 28⟩) rfl) Tryd.underlying25 rfl Tryd.underlying28 rfl (by rw [Tryd.infoKey, kc_size]; rfl) (by rw [Tryd.infoSpot]; rfl)) rfl ⟨by rw [e1, e2, e3], hB.gr⟩
  · have e : n = m := by rw [unhide hm]; omega
    have hnx : ∀ ty, (Instr.next (.pointer (some ⟨w.heap.size + 1 + 1 + 1, 0, none⟩)) true ty).run Tryd.prog wr = .ok (.tuple #[.bool false]) wr := fun ty => next_end (L := L) wr (w.heap.size + 1 + 1 + 1) n ty (by rw [← unhide hSS]; exact unhide hI) hil
    subst e
    have hln := unhide hm
    replace hln := hide hln
    go_upto_region 9 with fail
    by_cases h64 : n < 64
    · have h6i : (n : Int) < 64 := by omega
      replace h64 := hide h64
      replace h6i := hide h6i
      refine wp_region_lit ?_
      refine list_val (.string SS) (by kernel_rfl) (by kernel_rfl) ?_
      simp only [Act.put, List.setIfInBounds_toArray, List.set_cons_zero, List.set_cons_succ, List.getElem_toArray, List.getElem_cons_zero, List.getElem_cons_succ]
      refine list_val (.int .i64 (n : Int)) (by kernel_rfl) (exec_slen _ (.tmp 39) rfl L n (unhide hm).symm (by rw [← unhide hSS]; kernel_rfl)) ?_
      simp only [Act.put, List.setIfInBounds_toArray, List.set_cons_zero, List.set_cons_succ, List.getElem_toArray, List.getElem_cons_zero, List.getElem_cons_succ]
      refine list_val (.bool true) (by kernel_rfl) (by have h := unhide h6i; go_simp) ?_
      simp only [Act.put, List.setIfInBounds_toArray, List.set_cons_zero, List.set_cons_succ, List.getElem_toArray, List.getElem_cons_zero, List.getElem_cons_succ]
      refine wpList_nil ?_
      go_upto_region 10 with fail
      refine wp_region_lit ?_
      refine list_val (.agg (kc Z32)) (by kernel_rfl) (by kernel_rfl) ?_
      simp only [Act.put, List.setIfInBounds_toArray, List.set_cons_zero, List.set_cons_succ, List.getElem_toArray, List.getElem_cons_zero, List.getElem_cons_succ]
      refine list_val (.string SS) (by kernel_rfl) (by kernel_rfl) ?_
      simp only [Act.put, List.setIfInBounds_toArray, List.set_cons_zero, List.set_cons_succ, List.getElem_toArray, List.getElem_cons_zero, List.getElem_cons_succ]
      refine list_val (.int .i64 (n : Int)) (by kernel_rfl) (exec_slen _ (.tmp 43) rfl L n (unhide hm).symm (by rw [← unhide hSS]; kernel_rfl)) ?_
      simp only [Act.put, List.setIfInBounds_toArray, List.set_cons_zero, List.set_cons_succ, List.getElem_toArray, List.getElem_cons_zero, List.getElem_cons_succ]
      refine list_call 29 #[.int .i64 (n : Int)] (by kernel_rfl) (by kernel_rfl) ((nokey_ok (n : Int) _).mono ?_)
      rintro r_ y1 ⟨rfl, hg⟩
      replace hB := hide ((unhide hB).more hg)
      clear hg
      refine ⟨_, rfl, ?_⟩
      simp only [Act.put, List.setIfInBounds_toArray, List.set_cons_zero, List.set_cons_succ, List.getElem_toArray, List.getElem_cons_zero, List.getElem_cons_succ]
      replace hB := unhide hB
      refine list_store 25 (.tmp 2) (.tmp 42) w.heap.size (kc Z32) 25 (kc Z32) (by kernel_rfl) rfl (by kernel_rfl) (by kernel_rfl) (hB.get 0 (x := ⟨w.heap.size, kc Z32, 25⟩) rfl) (by rw [Tryd.infoKey, kc_size]; rfl) rfl (kc_one _) ?_
      replace hB := hB.set 0 (x := ⟨w.heap.size, kc Z32, 25⟩) rfl (kc Z32)
      simp only [List.set_cons_zero, List.set_cons_succ] at hB
      generalize World.setRow _ _ _ = y2 at *
      simp only [Act.put, List.setIfInBounds_toArray, List.set_cons_zero, List.set_cons_succ, List.getElem_toArray, List.getElem_cons_zero, List.getElem_cons_succ]
      refine list_store 28 (.tmp 3) (.tmp 45) (w.heap.size + 1) (spv 261 (n : Int)) 28 (spv 0 0) (by kernel_rfl) rfl (by kernel_rfl) (by kernel_rfl) (hB.get 1 (x := ⟨w.heap.size + 1, spv 0 0, 28⟩) rfl) (by rw [Tryd.infoSpot]; rfl) rfl (spv_one _ _) ?_
      replace hB := hB.set 1 (x := ⟨w.heap.size + 1, spv 0 0, 28⟩) rfl (spv 261 (n : Int))
      simp only [List.set_cons_zero, List.set_cons_succ] at hB
      generalize World.setRow _ _ _ = y3 at *
      simp only [Act.put, List.setIfInBounds_toArray, List.set_cons_zero, List.set_cons_succ, List.getElem_toArray, List.getElem_cons_zero, List.getElem_cons_succ]
      refine wpList_nil ?_
      obtain ⟨e1, e2, e3⟩ := kyd_no (L := L) (n := n) (unhide hD) hn6 hnl (.inr (.inl (unhide hln))) (by have := unhide h64; omega)
      replace hB := hide hB
      go_wp2_with fail
      replace hB := unhide hB
      rw [unhide hT]
      exact bodyPost_ret (v := .tuple #[.agg (kc Z32), .agg (spv 261 (n : Int))]) (results_2 Tryd.results12 _ _ w.heap.size (w.heap.size + 1) 25 28 (kc Z32) (spv 261 (n : Int)) (0, 0) (0, 0) _ _ rfl rfl (hB.get 0 (x := ⟨w.heap.size, kc Z32, 25⟩) rfl) (hB.get 1 (x := ⟨w.heap.size + 1, spv 261 (n : Int), 28⟩) rfl) Tryd.underlying25 rfl Tryd.underlying28 rfl (by rw [Tryd.infoKey, kc_size]; rfl) (by rw [Tryd.infoSpot]; rfl)) rfl ⟨by rw [e1, e2, e3], hB.gr⟩
    · have e6 : n = 64 := by omega
      subst e6
      clear h64
      refine wp_region_lit ?_
      refine list_val (.string SS) (by kernel_rfl) (by kernel_rfl) ?_
      simp only [Act.put, List.setIfInBounds_toArray, List.set_cons_zero, List.set_cons_succ, List.getElem_toArray, List.getElem_cons_zero, List.getElem_cons_succ]
      refine list_val (.int .i64 ((64 : Nat) : Int)) (by kernel_rfl) (exec_slen _ (.tmp 39) rfl L 64 (unhide hm).symm (by rw [← unhide hSS]; kernel_rfl)) ?_
      simp only [Act.put, List.setIfInBounds_toArray, List.set_cons_zero, List.set_cons_succ, List.getElem_toArray, List.getElem_cons_zero, List.getElem_cons_succ]
      refine list_val (.bool false) (by kernel_rfl) (by kernel_rfl) ?_
      simp only [Act.put, List.setIfInBounds_toArray, List.set_cons_zero, List.set_cons_succ, List.getElem_toArray, List.getElem_cons_zero, List.getElem_cons_succ]
      refine wpList_nil ?_
      go_upto_region 11 with fail
      replace hB := unhide hB
      refine wp_region_lit ?_
      refine list_val (.agg (kc M)) (by kernel_rfl) (exec_arr _ 25 (.tmp 4) rfl (w.heap.size + 1 + 1) (by kernel_rfl) (kc M) 25 _ (hB.get 2 (x := ⟨w.heap.size + 1 + 1, kc M, 25⟩) rfl) Tryd.underlying25 rfl (by rw [Tryd.infoKey, kc_size, hMl])) ?_
      simp only [Act.put, List.setIfInBounds_toArray, List.set_cons_zero, List.set_cons_succ, List.getElem_toArray, List.getElem_cons_zero, List.getElem_cons_succ]
      refine list_val (.agg (spv 0 0)) (by kernel_rfl) (by kernel_rfl) ?_
      simp only [Act.put, List.setIfInBounds_toArray, List.set_cons_zero, List.set_cons_succ, List.getElem_toArray, List.getElem_cons_zero, List.getElem_cons_succ]
      refine list_store 25 (.tmp 2) (.tmp 46) w.heap.size (kc M) 25 (kc Z32) (by kernel_rfl) rfl (by kernel_rfl) (by kernel_rfl) (hB.get 0 (x := ⟨w.heap.size, kc Z32, 25⟩) rfl) (by rw [Tryd.infoKey, kc_size, hMl]) (by rw [kc_size, kc_size, hMl]; rfl) (kc_one _) ?_
      replace hB := hB.set 0 (x := ⟨w.heap.size, kc Z32, 25⟩) rfl (kc M)
      simp only [List.set_cons_zero, List.set_cons_succ] at hB
      generalize World.setRow _ _ _ = y2 at *
      simp only [Act.put, List.setIfInBounds_toArray, List.set_cons_zero, List.set_cons_succ, List.getElem_toArray, List.getElem_cons_zero, List.getElem_cons_succ]
      refine list_store 28 (.tmp 3) (.tmp 47) (w.heap.size + 1) (spv 0 0) 28 (spv 0 0) (by kernel_rfl) rfl (by kernel_rfl) (by kernel_rfl) (hB.get 1 (x := ⟨w.heap.size + 1, spv 0 0, 28⟩) rfl) (by rw [Tryd.infoSpot]; rfl) rfl (spv_one _ _) ?_
      replace hB := hB.set 1 (x := ⟨w.heap.size + 1, spv 0 0, 28⟩) rfl (spv 0 0)
      simp only [List.set_cons_zero, List.set_cons_succ] at hB
      generalize World.setRow _ _ _ = y3 at *
      simp only [Act.put, List.setIfInBounds_toArray, List.set_cons_zero, List.set_cons_succ, List.getElem_toArray, List.getElem_cons_zero, List.getElem_cons_succ]
      refine wpList_nil ?_
      obtain ⟨e1, e2, e3⟩ := kyd_yes (L := L) (unhide hD) (unhide hln).symm
      have e4 := unhide hM
      replace hB := hide hB; replace e4 := hide e4
      go_wp2_with fail
      replace hB := unhide hB
      rw [unhide hT]
      exact bodyPost_ret (v := .tuple #[.agg (kc M), .agg (spv 0 0)]) (results_2 Tryd.results12 _ _ w.heap.size (w.heap.size + 1) 25 28 (kc M) (spv 0 0) (0, 0) (0, 0) _ _ rfl rfl (hB.get 0 (x := ⟨w.heap.size, kc M, 25⟩) rfl) (hB.get 1 (x := ⟨w.heap.size + 1, spv 0 0, 28⟩) rfl) Tryd.underlying25 rfl Tryd.underlying28 rfl (by rw [Tryd.infoKey, kc_size, hMl]) (by rw [Tryd.infoSpot]; rfl)) rfl ⟨by rw [e1, e2, e3, unhide e4], hB.gr⟩
end Go.Proofs.YtpmgmpihmpifgaaDoor
