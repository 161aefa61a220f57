/-
  Same.
-/
import Derived.Test.YtcefkkoombmndaaUH
namespace Go.Proofs.Ytcefkkoombmndaa
open Go.RowKit
set_option maxRecDepth 100000
set_option linter.unusedSimpArgs false
set_option linter.unusedVariables false
theorem Gr.gr {w u v : World} (h : Gr w u) (k : Gr u v) : Gr w v := h.trans k
theorem take_all {α : Type} [DecidableEq α] {L M : List α} (hl : L.length = M.length) (j : Nat) (hj : j < L.length) (a b : α) (ha : L[j]? = some a) (hb : M[j]? = some b) : L.take (j + 1) = M.take (j + 1) ↔ L.take j = M.take j ∧ a = b := by
  rw [List.take_add_one, List.take_add_one, ha, hb]
  simp only [Option.toList_some]
  constructor
  · intro h
    have h1 := List.append_inj h (by simp [List.length_take]; omega)
    exact ⟨h1.1, by simpa using h1.2⟩
  · rintro ⟨h1, rfl⟩
    rw [h1]
set_option maxHeartbeats 4000000 in
theorem eq_o (L M : List Ot) (a a2 : Option Addr) (n m c c2 : Nat) (w : World) (h : OL w a n c L) (h2 : OL w a2 m c2 M) : Calls Try.prog 49 #[.slice a n c, .slice a2 m c2] w (Vl (.bool (decide (L = M))) w) := by
  obtain ⟨T, hT⟩ : ∃ T : Ending → World → Prop, T = (Vl (.bool (decide (L = M))) w) := ⟨_, rfl⟩
  rw [← hT]
  replace hT := hide hT
  have hl := h.len
  have hl2 := h2.len
  have hcp := h.2.cap
  have hmx := h.2.max
  replace h := hide h
  replace h2 := hide h2
  go_enter Try.func49, Try.ntmps49
  go_upto_region 1 with fail
  obtain ⟨u0, hu_⟩ : ∃ u, u = w := ⟨_, rfl⟩
  rw [← hu_]
  have hB : Bl w [] u0 := hu_ ▸ Bl.nil w
  clear hu_
  by_cases hnm : n = m
  rotate_left
  · have hv : decide (L = M) = false := decide_eq_false (fun e => hnm (by rw [← hl, ← hl2, e]))
    clear h h2
    refine wp_region_lit ?_
    refine lvk (.slice a n c) ?_
    simp only [nrm]
    refine lvk (.int .i64 (n : Int)) ?_
    simp only [nrm]
    refine lvk (.slice a2 m c2) ?_
    simp only [nrm]
    refine lvk (.int .i64 (m : Int)) ?_
    simp only [nrm]
    refine list_val (.bool true) (by kernel_rfl) (neq_i _ (.tmp 7) (.tmp 9) (n : Int) (m : Int) true rfl (by kernel_rfl) (by kernel_rfl) (decide_eq_true (by omega))) ?_
    simp only [nrm]
    refine wpList_nil ?_
    replace hB := hide hB
    go_wp2_with fail
    replace hB := unhide hB
    rw [unhide hT]
    exact (⟨by rw [hv] <;> rfl, hB.gr⟩)
  subst hnm
  refine wp_region_lit ?_
  refine lvk (.slice a n c) ?_
  simp only [nrm]
  refine lvk (.int .i64 (n : Int)) ?_
  simp only [nrm]
  refine lvk (.slice a2 n c2) ?_
  simp only [nrm]
  refine lvk (.int .i64 (n : Int)) ?_
  simp only [nrm]
  refine list_val (.bool false) (by kernel_rfl) (neq_i _ (.tmp 7) (.tmp 9) (n : Int) (n : Int) false rfl (by kernel_rfl) (by kernel_rfl) (by simp)) ?_
  simp only [nrm]
  refine wpList_nil ?_
  replace hB := hide hB
  go_upto_region 3 with fail
  replace hB := unhide hB
  refine wp_region_lit ?_
  refine lvk (.slice a n c) ?_
  simp only [nrm]
  refine lvk (.int .i64 (n : Int)) ?_
  simp only [nrm]
  refine lvk (.int .i64 0) ?_
  simp only [nrm]
  refine wpList_nil ?_
  have hI : Hid (L.take 0 = M.take 0) := hide (by simp)
  have hG := hide hB.gr
  clear hB
  go_wp2_with fail
  go_loopw [13] (fun i wr => ∃ j : Nat, j ≤ n ∧ i = .int .i64 (j : Int) ∧ Hid (L.take j = M.take j) ∧ Hid (Gr w wr)) (fun i _ => n - (intOf i).toNat)
  case atStart => exact ⟨0, by omega, rfl, hI, hG⟩
  case round =>
  clear hI hG
  obtain ⟨j, hj, rfl, hI, hG⟩ := hrel
  by_cases hlt : j < n
  · have jI : (j : Int) < (n : Int) := by omega
    obtain ⟨s, hsj⟩ : ∃ s, L[j]? = some s := ⟨_, List.getElem?_eq_getElem (by omega)⟩
    obtain ⟨t, htj⟩ : ∃ t, M[j]? = some t := ⟨_, List.getElem?_eq_getElem (by omega)⟩
    have hok := (unhide h).ok j s hsj
    have hok2 := (unhide h2).ok j t htj
    obtain ⟨p, o, ha, hr⟩ := (unhide h).at_ j s hsj
    obtain ⟨p2, o2, ha2, hr2⟩ := (unhide h2).at_ j t htj
    replace hok := hide hok; replace hok2 := hide hok2
    replace hr := hide hr; replace hr2 := hide hr2; replace hsj := hide hsj; replace htj := hide htj; replace ha := hide ha; replace ha2 := hide ha2
    have hB := Bl.nil wr
    replace hB := hide hB
    go_upto_region 5 with fail
    replace hB := unhide hB
    refine wp_region_lit ?_
    refine lvk (.int .i64 (j : Int)) ?_
    simp only [nrm]
    (refine wpList_step fun K hK => ?_; replace hK := hide hK; go_simp; refine unhide hK _ _ ?_; clear hK K)
    refine wpList_nil ?_
    obtain ⟨q, hq⟩ : ∃ q, q = decide (s = t) := ⟨_, rfl⟩
    replace hq := hide hq
    replace hB := hide hB
    go_upto_region 6 with fail
    replace hB := unhide hB
    refine any_start (S := fun v_ => Gr w v_) (by kernel_rfl) ?_
    replace hG := hide ((unhide hG).gr ((Gr.refl wr).drew))
    replace hB := hB.drew
    generalize World.drew _ = u1 at *
    simp only [List.size_toArray, List.length_cons, List.length_nil, Array.replicate, List.replicate]
    have hS_ := hide (show (fun v_ => Gr w v_) u1 from (unhide hG))
    refine any_tk 0 (.slice a n c) (tf 9 0) rfl (fun x_ hu => by kernel_rfl) (unhide hS_) ?_
    simp only [nrm]
    refine any_tk 1 (.int .i64 (j : Int)) (tf 9 1) rfl (fun x_ hu => by kernel_rfl) (unhide hS_) ?_
    simp only [nrm]
    refine any_tk 2 (.pointer (some ⟨p, o + 106 * j, none⟩)) (tf 9 2) rfl (fun x_ hu => exec_iso _ (.tmp 16) (.tmp 17) rfl p o n c j (by rw [← unhide ha]; kernel_rfl) (by kernel_rfl) hlt) (unhide hS_) ?_
    simp only [nrm]
    refine any_tk 3 (.agg (fl [[.int .u32 s.n], bw s.B])) (tf 9 3) rfl (fun x_ hu => exec_lo _ (.tmp 18) rfl p (o + 106 * j) (by kernel_rfl) s (unhide hok) (range_gr (unhide hr) hu)) (unhide hS_) ?_
    simp only [nrm]
    refine any_tk 4 (.slice a2 n c2) (tf 9 4) rfl (fun x_ hu => by kernel_rfl) (unhide hS_) ?_
    simp only [nrm]
    refine any_tk 5 (.int .i64 (j : Int)) (tf 9 5) rfl (fun x_ hu => by kernel_rfl) (unhide hS_) ?_
    simp only [nrm]
    refine any_tk 6 (.pointer (some ⟨p2, o2 + 106 * j, none⟩)) (tf 9 6) rfl (fun x_ hu => exec_iso _ (.tmp 20) (.tmp 21) rfl p2 o2 n c2 j (by rw [← unhide ha2]; kernel_rfl) (by kernel_rfl) hlt) (unhide hS_) ?_
    simp only [nrm]
    refine any_tk 7 (.agg (fl [[.int .u32 t.n], bw t.B])) (tf 9 7) rfl (fun x_ hu => exec_lo _ (.tmp 22) rfl p2 (o2 + 106 * j) (by kernel_rfl) t (unhide hok2) (range_gr (unhide hr2) hu)) (unhide hS_) ?_
    simp only [nrm]
    refine any_tk 8 (.bool (!q)) (tf 9 8) rfl (fun x_ hu => exec_neO _ (.tmp 19) (.tmp 23) rfl s t (unhide hok).2.1 (unhide hok2).2.1 (by kernel_rfl) (by kernel_rfl) q (unhide hq).symm) (unhide hS_) ?_
    simp only [nrm]
    refine any_done (by kernel_rfl) ?_
    clear hS_
    clear hB hr hr2
    cases q with
    | false =>
      have hne : ¬ s = t := of_decide_eq_false (unhide hq).symm
      have hv : decide (L = M) = false := decide_eq_false (fun e => hne (by
        have h1 := unhide hsj
        rw [e] at h1
        exact Option.some.inj (h1.symm.trans (unhide htj))))
      go_wp2_with fail
      rw [unhide hT]
      exact ⟨by rw [hv] <;> rfl, unhide hG⟩
    | true =>
      have he : s = t := of_decide_eq_true (unhide hq).symm
      have hI2 : Hid (L.take (j + 1) = M.take (j + 1)) := hide ((take_all (by omega) j (by omega) s t (unhide hsj) (unhide htj)).2 ⟨unhide hI, he⟩)
      clear hI hsj htj hok hok2 ha ha2 he hq
      have jw : IntKind.i64.wrap ((j : Int) + 1) = (j : Int) + 1 := by rw [IntKind.wrap_i64]; omega
      go_wp2_with fail
      go_roundw
      case rel => exact ⟨j + 1, by omega, by simp, hI2, hG⟩
      case measure => simp [intOf]; omega
  · have jI : ¬ (j : Int) < (n : Int) := by omega
    have hv : decide (L = M) = true := decide_eq_true (by
      have h1 := unhide hI
      rwa [List.take_of_length_le (by omega), List.take_of_length_le (by omega)] at h1)
    clear hI
    go_wp2_with fail
    rw [unhide hT]
    exact ⟨by rw [hv] <;> rfl, unhide hG⟩
set_option maxHeartbeats 4000000 in
theorem eq_i (L M : List It) (a a2 : Option Addr) (n m c c2 : Nat) (w : World) (h : IL w a n c L) (h2 : IL w a2 m c2 M) : Calls Try.prog 50 #[.slice a n c, .slice a2 m c2] w (Vl (.bool (decide (L = M))) w) := by
  obtain ⟨T, hT⟩ : ∃ T : Ending → World → Prop, T = (Vl (.bool (decide (L = M))) w) := ⟨_, rfl⟩
  rw [← hT]
  replace hT := hide hT
  have hl := h.len
  have hl2 := h2.len
  have hcp := h.2.cap
  have hmx := h.2.max
  replace h := hide h
  replace h2 := hide h2
  go_enter Try.func50, Try.ntmps50
  go_upto_region 1 with fail
  obtain ⟨u0, hu_⟩ : ∃ u, u = w := ⟨_, rfl⟩
  rw [← hu_]
  have hB : Bl w [] u0 := hu_ ▸ Bl.nil w
  clear hu_
  by_cases hnm : n = m
  rotate_left
  · have hv : decide (L = M) = false := decide_eq_false (fun e => hnm (by rw [← hl, ← hl2, e]))
    clear h h2
    refine wp_region_lit ?_
    refine lvk (.slice a n c) ?_
    simp only [nrm]
    refine lvk (.int .i64 (n : Int)) ?_
    simp only [nrm]
    refine lvk (.slice a2 m c2) ?_
    simp only [nrm]
    refine lvk (.int .i64 (m : Int)) ?_
    simp only [nrm]
    refine list_val (.bool true) (by kernel_rfl) (neq_i _ (.tmp 7) (.tmp 9) (n : Int) (m : Int) true rfl (by kernel_rfl) (by kernel_rfl) (decide_eq_true (by omega))) ?_
    simp only [nrm]
    refine wpList_nil ?_
    replace hB := hide hB
    go_wp2_with fail
    replace hB := unhide hB
    rw [unhide hT]
    exact (⟨by rw [hv] <;> rfl, hB.gr⟩)
  subst hnm
  refine wp_region_lit ?_
  refine lvk (.slice a n c) ?_
  simp only [nrm]
  refine lvk (.int .i64 (n : Int)) ?_
  simp only [nrm]
  refine lvk (.slice a2 n c2) ?_
  simp only [nrm]
  refine lvk (.int .i64 (n : Int)) ?_
  simp only [nrm]
  refine list_val (.bool false) (by kernel_rfl) (neq_i _ (.tmp 7) (.tmp 9) (n : Int) (n : Int) false rfl (by kernel_rfl) (by kernel_rfl) (by simp)) ?_
  simp only [nrm]
  refine wpList_nil ?_
  replace hB := hide hB
  go_upto_region 3 with fail
  replace hB := unhide hB
  refine wp_region_lit ?_
  refine lvk (.slice a n c) ?_
  simp only [nrm]
  refine lvk (.int .i64 (n : Int)) ?_
  simp only [nrm]
  refine lvk (.int .i64 0) ?_
  simp only [nrm]
  refine wpList_nil ?_
  have hI : Hid (L.take 0 = M.take 0) := hide (by simp)
  have hG := hide hB.gr
  clear hB
  go_wp2_with fail
  go_loopw [13] (fun i wr => ∃ j : Nat, j ≤ n ∧ i = .int .i64 (j : Int) ∧ Hid (L.take j = M.take j) ∧ Hid (Gr w wr)) (fun i _ => n - (intOf i).toNat)
  case atStart => exact ⟨0, by omega, rfl, hI, hG⟩
  case round =>
  clear hI hG
  obtain ⟨j, hj, rfl, hI, hG⟩ := hrel
  by_cases hlt : j < n
  · have jI : (j : Int) < (n : Int) := by omega
    obtain ⟨s, hsj⟩ : ∃ s, L[j]? = some s := ⟨_, List.getElem?_eq_getElem (by omega)⟩
    obtain ⟨t, htj⟩ : ∃ t, M[j]? = some t := ⟨_, List.getElem?_eq_getElem (by omega)⟩
    have hok := (unhide h).ok j s hsj
    have hok2 := (unhide h2).ok j t htj
    obtain ⟨p, o, ha, hr⟩ := (unhide h).at_ j s hsj
    obtain ⟨p2, o2, ha2, hr2⟩ := (unhide h2).at_ j t htj
    replace hok := hide hok; replace hok2 := hide hok2
    replace hr := hide hr; replace hr2 := hide hr2; replace hsj := hide hsj; replace htj := hide htj; replace ha := hide ha; replace ha2 := hide ha2
    have hB := Bl.nil wr
    replace hB := hide hB
    go_upto_region 5 with fail
    replace hB := unhide hB
    refine wp_region_lit ?_
    refine lvk (.int .i64 (j : Int)) ?_
    simp only [nrm]
    (refine wpList_step fun K hK => ?_; replace hK := hide hK; go_simp; refine unhide hK _ _ ?_; clear hK K)
    refine wpList_nil ?_
    obtain ⟨q, hq⟩ : ∃ q, q = decide (s = t) := ⟨_, rfl⟩
    replace hq := hide hq
    replace hB := hide hB
    go_upto_region 6 with fail
    replace hB := unhide hB
    refine any_start (S := fun v_ => Gr w v_) (by kernel_rfl) ?_
    replace hG := hide ((unhide hG).gr ((Gr.refl wr).drew))
    replace hB := hB.drew
    generalize World.drew _ = u1 at *
    simp only [List.size_toArray, List.length_cons, List.length_nil, Array.replicate, List.replicate]
    have hS_ := hide (show (fun v_ => Gr w v_) u1 from (unhide hG))
    refine any_tk 0 (.slice a n c) (tf 9 0) rfl (fun x_ hu => by kernel_rfl) (unhide hS_) ?_
    simp only [nrm]
    refine any_tk 1 (.int .i64 (j : Int)) (tf 9 1) rfl (fun x_ hu => by kernel_rfl) (unhide hS_) ?_
    simp only [nrm]
    refine any_tk 2 (.pointer (some ⟨p, o + 2 * j, none⟩)) (tf 9 2) rfl (fun x_ hu => exec_isi _ (.tmp 16) (.tmp 17) rfl p o n c j (by rw [← unhide ha]; kernel_rfl) (by kernel_rfl) hlt) (unhide hS_) ?_
    simp only [nrm]
    refine any_tk 3 (.agg (fl [[.int .u32 s.n], [.string s.s]])) (tf 9 3) rfl (fun x_ hu => exec_li _ (.tmp 18) rfl p (o + 2 * j) (by kernel_rfl) s (range_gr (unhide hr) hu)) (unhide hS_) ?_
    simp only [nrm]
    refine any_tk 4 (.slice a2 n c2) (tf 9 4) rfl (fun x_ hu => by kernel_rfl) (unhide hS_) ?_
    simp only [nrm]
    refine any_tk 5 (.int .i64 (j : Int)) (tf 9 5) rfl (fun x_ hu => by kernel_rfl) (unhide hS_) ?_
    simp only [nrm]
    refine any_tk 6 (.pointer (some ⟨p2, o2 + 2 * j, none⟩)) (tf 9 6) rfl (fun x_ hu => exec_isi _ (.tmp 20) (.tmp 21) rfl p2 o2 n c2 j (by rw [← unhide ha2]; kernel_rfl) (by kernel_rfl) hlt) (unhide hS_) ?_
    simp only [nrm]
    refine any_tk 7 (.agg (fl [[.int .u32 t.n], [.string t.s]])) (tf 9 7) rfl (fun x_ hu => exec_li _ (.tmp 22) rfl p2 (o2 + 2 * j) (by kernel_rfl) t (range_gr (unhide hr2) hu)) (unhide hS_) ?_
    simp only [nrm]
    refine any_tk 8 (.bool (!q)) (tf 9 8) rfl (fun x_ hu => exec_neI _ (.tmp 19) (.tmp 23) rfl s t (by kernel_rfl) (by kernel_rfl) q (unhide hq).symm) (unhide hS_) ?_
    simp only [nrm]
    refine any_done (by kernel_rfl) ?_
    clear hS_
    clear hB hr hr2
    cases q with
    | false =>
      have hne : ¬ s = t := of_decide_eq_false (unhide hq).symm
      have hv : decide (L = M) = false := decide_eq_false (fun e => hne (by
        have h1 := unhide hsj
        rw [e] at h1
        exact Option.some.inj (h1.symm.trans (unhide htj))))
      go_wp2_with fail
      rw [unhide hT]
      exact ⟨by rw [hv] <;> rfl, unhide hG⟩
    | true =>
      have he : s = t := of_decide_eq_true (unhide hq).symm
      have hI2 : Hid (L.take (j + 1) = M.take (j + 1)) := hide ((take_all (by omega) j (by omega) s t (unhide hsj) (unhide htj)).2 ⟨unhide hI, he⟩)
      clear hI hsj htj hok hok2 ha ha2 he hq
      have jw : IntKind.i64.wrap ((j : Int) + 1) = (j : Int) + 1 := by rw [IntKind.wrap_i64]; omega
      go_wp2_with fail
      go_roundw
      case rel => exact ⟨j + 1, by omega, by simp, hI2, hG⟩
      case measure => simp [intOf]; omega
  · have jI : ¬ (j : Int) < (n : Int) := by omega
    have hv : decide (L = M) = true := decide_eq_true (by
      have h1 := unhide hI
      rwa [List.take_of_length_le (by omega), List.take_of_length_le (by omega)] at h1)
    clear hI
    go_wp2_with fail
    rw [unhide hT]
    exact ⟨by rw [hv] <;> rfl, unhide hG⟩
end Go.Proofs.Ytcefkkoombmndaa
