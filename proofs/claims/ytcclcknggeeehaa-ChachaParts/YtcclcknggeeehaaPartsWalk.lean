/-
  Parts that are xored from their blocks on make the whole, and noughts make the stream: the walk.
-/
import Derived.Test.YtcclcknggeeehaaChaOb
import Derived.Deep.QuietTactic
import Derived.BigQuiet
namespace Go.Proofs.Ytcclcknggeeehaa
open Go.RowKit
set_option maxRecDepth 100000
set_option linter.unusedSimpArgs false
set_option linter.unusedVariables false
/-- what lies in memory while the bytes are gone through -/
def PI (w : World) (K : List Int) (c : Int) (N : List Int) (s1 : Option Addr) (n cap : Nat) (B : List Int) (g1 gs : Nat) (v : World) : Prop :=
  Bl w [⟨w.heap.size, usd K c N, 28⟩, ⟨gs, kc (xl K N c (List.replicate n 0)), 5⟩] v ∧ Lb v s1 n cap B ∧ Lb v (some ⟨g1, 0, none⟩) n n (xl K N c B)
theorem PI.gr {w : World} {K : List Int} {c : Int} {N : List Int} {s1 : Option Addr} {n cap : Nat} {B : List Int} {g1 gs : Nat} {u v : World} (h : PI w K c N s1 n cap B g1 gs u) (k : Gr u v) : PI w K c N s1 n cap B g1 gs v := ⟨h.1.more k, h.2.1.gr k, h.2.2.gr k⟩
theorem Lb.at0 {v : World} {g n m : Nat} {X : List Int} (h : Lb v (some ⟨g, 0, none⟩) n m X) (j : Nat) (hj : j < n) : v.cell? ⟨g, j, none⟩ = some (.int .u8 (X.getD j 0)) := by
  rcases h.sl with h0 | ⟨p, o, e, hat⟩
  · have := h.len
    rw [h0] at this
    simp at this
    omega
  · cases e
    have := hat j (by rw [h.len]; exact hj)
    rw [Nat.zero_add] at this
    exact this
set_option maxHeartbeats 4000000 in
theorem parts_ok (K : List Int) (c : Int) (N : List Int) (hu : Us K c N) (B0 : List Int) (s : Option Addr) (len cap : Nat) (nb : Int) (hnb0 : -9223372036854775808 ≤ nb ∧ nb < 9223372036854775808) (w : World) (lb : Lb w s len cap B0) : Calls Try.prog 8 #[.agg (usd K c N), .slice s len cap, .int .i64 nb] w (Woke w) := by
  obtain ⟨T, hT⟩ : ∃ T, T = Woke w := ⟨_, rfl⟩
  rw [← hT]
  replace hT := hide hT
  replace hu := hide hu
  replace lb := hide lb
  obtain ⟨SU, hSU⟩ : ∃ S, S = usd K c N := ⟨_, rfl⟩
  rw [← hSU]
  replace hSU := hide hSU
  go_enter Try.func8, Try.ntmps8
  go_upto_region 1 with fail
  have hB := (Bl.nil w).new SU 28
  simp only [List.nil_append] at hB
  generalize World.alloc _ _ = u at *
  rw [unhide hSU] at hB
  replace hB : Bl w [⟨w.heap.size, usd K c N, 28⟩] u := hB
  replace lb := hide ((unhide lb).gr hB.gr)
  refine wp_region_lit ?_
  refine list_call 9 #[] (by kernel_rfl) (by kernel_rfl) ((wakes_ok _).mono ?_)
  rintro r v ⟨rfl, hg⟩
  refine ⟨_, rfl, ?_⟩
  replace hB := hB.more hg
  replace lb := hide ((unhide lb).gr hg)
  clear hg
  simp only [Act.put, List.setIfInBounds_toArray, List.set_cons_zero, List.set_cons_succ, List.getElem_toArray, List.getElem_cons_zero, List.getElem_cons_succ]
  refine list_val (.bool false) (by kernel_rfl) (by kernel_rfl) ?_
  simp only [Act.put, List.setIfInBounds_toArray, List.set_cons_zero, List.set_cons_succ, List.getElem_toArray, List.getElem_cons_zero, List.getElem_cons_succ]
  refine wpList_nil ?_
  replace hB := hide hB
  go_upto_region 3 with fail
  replace hB := unhide hB
  obtain ⟨n, hn⟩ : ∃ n, n = min len 4000 := ⟨_, rfl⟩
  have i3 : (if (4000 : Int) < (len : Int) then (4000 : Int) else (len : Int)) = (n : Int) := by split <;> omega
  have i4 : (if 4000 < len then (4000 : Int) else (len : Int)) = (n : Int) := by split <;> omega
  have hnl : n ≤ len := by omega
  have hnb : n ≤ 4000 := by omega
  replace hn := hide hn
  refine wp_region_lit ?_
  refine list_val (.slice s len cap) (by kernel_rfl) (by kernel_rfl) ?_
  simp only [Act.put, List.setIfInBounds_toArray, List.set_cons_zero, List.set_cons_succ, List.getElem_toArray, List.getElem_cons_zero, List.getElem_cons_succ]
  refine list_val (.slice s len cap) (by kernel_rfl) (by kernel_rfl) ?_
  simp only [Act.put, List.setIfInBounds_toArray, List.set_cons_zero, List.set_cons_succ, List.getElem_toArray, List.getElem_cons_zero, List.getElem_cons_succ]
  refine list_val (.int .i64 len) (by kernel_rfl) (by kernel_rfl) ?_
  simp only [Act.put, List.setIfInBounds_toArray, List.set_cons_zero, List.set_cons_succ, List.getElem_toArray, List.getElem_cons_zero, List.getElem_cons_succ]
  refine list_val (.int .i64 n) (by kernel_rfl) (by go_simp) ?_
  simp only [Act.put, List.setIfInBounds_toArray, List.set_cons_zero, List.set_cons_succ, List.getElem_toArray, List.getElem_cons_zero, List.getElem_cons_succ]
  refine list_upto (.tmp 16) (.tmp 19) (by kernel_rfl) rfl s len cap n rfl rfl B0 (unhide lb) hnl ?_
  intro s1 hs1
  simp only [Act.put, List.setIfInBounds_toArray, List.set_cons_zero, List.set_cons_succ, List.getElem_toArray, List.getElem_cons_zero, List.getElem_cons_succ]
  replace lb : Hid (Lb _ s1 n cap (B0.take n)) := hs1 _ (unhide lb)
  clear hs1
  generalize B0.take n = B at *
  (refine wpList_step fun K hK => ?_; replace hK := hide hK; go_simp; refine unhide hK _ _ ?_; clear hK K)
  refine wpList_nil ?_
  have hBl : Hid (B.length = n) := (unhide lb).len
  have hcc : n ≤ cap := (unhide lb).cap
  obtain ⟨mb, hmb⟩ : ∃ x : Nat, (x : Int) = if nb < 0 then 0 else nb := ⟨(if nb < 0 then 0 else nb).toNat, by split <;> omega⟩
  obtain ⟨r70, hr70⟩ : ∃ x, x = mb % 70 := ⟨_, rfl⟩
  obtain ⟨q1, hq1⟩ : ∃ x, x = r70 * 64 := ⟨_, rfl⟩
  obtain ⟨d64, hd64⟩ : ∃ x, x = n / 64 := ⟨_, rfl⟩
  obtain ⟨q2, hq2⟩ : ∃ x, x = d64 * 64 := ⟨_, rfl⟩
  obtain ⟨m, hm⟩ : ∃ x, x = min q1 q2 := ⟨_, rfl⟩
  obtain ⟨kk, hkk⟩ : ∃ x, m = 64 * x := by
    rcases Nat.le_total q1 q2 with h | h
    · exact ⟨r70, by omega⟩
    · exact ⟨d64, by omega⟩
  have j1 : (if (0 : Int) > nb then (0 : Int) else nb) = (mb : Int) := by rw [hmb]
  have j2 : (if nb < 0 then (0 : Int) else nb) = (mb : Int) := by rw [hmb]
  have j3 : (mb : Int).tmod 70 = (r70 : Int) := by rw [Int.tmod_eq_emod_of_nonneg (by omega)]; omega
  have j4 : (r70 : Int) * 64 = (q1 : Int) := by omega
  have j5 : (n : Int).tdiv 64 = (d64 : Int) := by rw [Int.tdiv_eq_ediv_of_nonneg (by omega)]; omega
  have j6 : (d64 : Int) * 64 = (q2 : Int) := by omega
  have j7 : (if (q2 : Int) < (q1 : Int) then (q2 : Int) else (q1 : Int)) = (m : Int) := by split <;> omega
  have j8 : (if q2 < q1 then (q2 : Int) else (q1 : Int)) = (m : Int) := by split <;> omega
  have g1 : IntKind.i64.wrap (q1 : Int) = (q1 : Int) := by rw [IntKind.wrap_i64]; omega
  have g2 : IntKind.i64.wrap (q2 : Int) = (q2 : Int) := by rw [IntKind.wrap_i64]; omega
  have g3 : IntKind.i64.wrap (r70 : Int) = (r70 : Int) := by rw [IntKind.wrap_i64]; omega
  have g4 : IntKind.i64.wrap (d64 : Int) = (d64 : Int) := by rw [IntKind.wrap_i64]; omega
  have hmn : m ≤ n := by omega
  replace hr70 := hide hr70
  replace hq1 := hide hq1
  replace hd64 := hide hd64
  replace hq2 := hide hq2
  replace hm := hide hm
  replace hkk := hide hkk
  replace hmb := hide hmb
  replace hB := hide hB
  go_upto_region 4 with fail
  replace hB := unhide hB
  refine wp_region_lit ?_
  refine list_val (.int .i64 nb) (by kernel_rfl) (by kernel_rfl) ?_
  simp only [Act.put, List.setIfInBounds_toArray, List.set_cons_zero, List.set_cons_succ, List.getElem_toArray, List.getElem_cons_zero, List.getElem_cons_succ]
  refine list_val (.int .i64 mb) (by kernel_rfl) (by go_simp) ?_
  simp only [Act.put, List.setIfInBounds_toArray, List.set_cons_zero, List.set_cons_succ, List.getElem_toArray, List.getElem_cons_zero, List.getElem_cons_succ]
  refine list_val (.int .i64 r70) (by kernel_rfl) (by go_simp) ?_
  simp only [Act.put, List.setIfInBounds_toArray, List.set_cons_zero, List.set_cons_succ, List.getElem_toArray, List.getElem_cons_zero, List.getElem_cons_succ]
  refine list_val (.int .i64 q1) (by kernel_rfl) (by go_simp) ?_
  simp only [Act.put, List.setIfInBounds_toArray, List.set_cons_zero, List.set_cons_succ, List.getElem_toArray, List.getElem_cons_zero, List.getElem_cons_succ]
  refine list_val (.slice s1 n cap) (by kernel_rfl) (by kernel_rfl) ?_
  simp only [Act.put, List.setIfInBounds_toArray, List.set_cons_zero, List.set_cons_succ, List.getElem_toArray, List.getElem_cons_zero, List.getElem_cons_succ]
  refine list_val (.int .i64 n) (by kernel_rfl) (by kernel_rfl) ?_
  simp only [Act.put, List.setIfInBounds_toArray, List.set_cons_zero, List.set_cons_succ, List.getElem_toArray, List.getElem_cons_zero, List.getElem_cons_succ]
  refine list_val (.int .i64 d64) (by kernel_rfl) (by go_simp) ?_
  simp only [Act.put, List.setIfInBounds_toArray, List.set_cons_zero, List.set_cons_succ, List.getElem_toArray, List.getElem_cons_zero, List.getElem_cons_succ]
  refine list_val (.int .i64 q2) (by kernel_rfl) (by go_simp) ?_
  simp only [Act.put, List.setIfInBounds_toArray, List.set_cons_zero, List.set_cons_succ, List.getElem_toArray, List.getElem_cons_zero, List.getElem_cons_succ]
  refine list_val (.int .i64 m) (by kernel_rfl) (by go_simp) ?_
  simp only [Act.put, List.setIfInBounds_toArray, List.set_cons_zero, List.set_cons_succ, List.getElem_toArray, List.getElem_cons_zero, List.getElem_cons_succ]
  (refine wpList_step fun K hK => ?_; replace hK := hide hK; go_simp; refine unhide hK _ _ ?_; clear hK K)
  refine wpList_nil ?_
  clear j1 j2 j3 j4 j5 j6 j7 j8 g1 g2 g3 g4 i3 i4
  replace hB := hide hB
  go_upto_region 5 with fail
  replace hB := unhide hB
  refine wp_region_lit ?_
  refine list_val (.pointer (some ⟨w.heap.size, 0, none⟩)) (by kernel_rfl) (by kernel_rfl) ?_
  simp only [Act.put, List.setIfInBounds_toArray, List.set_cons_zero, List.set_cons_succ, List.getElem_toArray, List.getElem_cons_zero, List.getElem_cons_succ]
  refine list_val (.agg (kc K)) (by kernel_rfl) (exec_key _ (.tmp 30) rfl w.heap.size (by kernel_rfl) K N c (unhide hu) (hB.get 0 (x := ⟨w.heap.size, usd K c N, 28⟩) rfl)) ?_
  simp only [Act.put, List.setIfInBounds_toArray, List.set_cons_zero, List.set_cons_succ, List.getElem_toArray, List.getElem_cons_zero, List.getElem_cons_succ]
  refine list_val (.pointer (some ⟨w.heap.size, 32, none⟩)) (by kernel_rfl) (by kernel_rfl) ?_
  simp only [Act.put, List.setIfInBounds_toArray, List.set_cons_zero, List.set_cons_succ, List.getElem_toArray, List.getElem_cons_zero, List.getElem_cons_succ]
  refine list_val (.int .u32 c) (by kernel_rfl) (by have c0 := usd_count (unhide hu).kl (hB.get 0 (x := ⟨w.heap.size, usd K c N, 28⟩) rfl); go_simp) ?_
  simp only [Act.put, List.setIfInBounds_toArray, List.set_cons_zero, List.set_cons_succ, List.getElem_toArray, List.getElem_cons_zero, List.getElem_cons_succ]
  refine list_val (.pointer (some ⟨w.heap.size, 33, none⟩)) (by kernel_rfl) (by kernel_rfl) ?_
  simp only [Act.put, List.setIfInBounds_toArray, List.set_cons_zero, List.set_cons_succ, List.getElem_toArray, List.getElem_cons_zero, List.getElem_cons_succ]
  refine list_val (.agg (kc N)) (by kernel_rfl) (exec_nonce _ (.tmp 34) rfl w.heap.size (by kernel_rfl) K N c (unhide hu) (hB.get 0 (x := ⟨w.heap.size, usd K c N, 28⟩) rfl)) ?_
  simp only [Act.put, List.setIfInBounds_toArray, List.set_cons_zero, List.set_cons_succ, List.getElem_toArray, List.getElem_cons_zero, List.getElem_cons_succ]
  refine list_val (.slice s1 n cap) (by kernel_rfl) (by kernel_rfl) ?_
  simp only [Act.put, List.setIfInBounds_toArray, List.set_cons_zero, List.set_cons_succ, List.getElem_toArray, List.getElem_cons_zero, List.getElem_cons_succ]
  refine list_call 13 #[.agg (kc K), .int .u32 c, .agg (kc N), .slice s1 n cap] (by kernel_rfl) (by kernel_rfl) ((xor_ok K N (unhide hu).kl (unhide hu).nl (unhide hu).kb (unhide hu).nb c (unhide hu).cw B _ n cap (by omega) _ (unhide lb)).mono ?_)
  rintro r v1 ⟨g1, rfl, _, hm1, hg⟩
  refine ⟨_, rfl, ?_⟩
  rw [unhide hBl]
  replace hB := hB.more hg
  replace lb := hide ((unhide lb).gr hg)
  have lx : Hid (Lb v1 (some ⟨g1, 0, none⟩) n n (xl K N c B)) := kc_lb hm1 (by rw [xl_len, unhide hBl]) (xl_isB _ _ _ _) (by omega)
  clear hm1 hg
  simp only [Act.put, List.setIfInBounds_toArray, List.set_cons_zero, List.set_cons_succ, List.getElem_toArray, List.getElem_cons_zero, List.getElem_cons_succ]
  (refine wpList_step fun K hK => ?_; replace hK := hide hK; go_simp; refine unhide hK _ _ ?_; clear hK K)
  refine wpList_nil ?_
  obtain ⟨s2, hs2⟩ : ∃ x, x = if cap = 0 then s1 else s1.map (·.add 0) := ⟨_, rfl⟩
  replace hs2 := hide hs2
  replace hB := hide hB
  go_upto_region 6 with fail
  replace hB := unhide hB
  have hu0 := hu
  refine any_start (S := fun v => Bl w [⟨w.heap.size, usd K c N, 28⟩] v) (by kernel_rfl) ?_
  replace hB := hB.drew
  replace lb := hide ((unhide lb).gr (Gr.refl _).drew)
  replace lx := hide ((unhide lx).gr (Gr.refl _).drew)
  generalize World.drew _ = v2 at *
  have hB2 := hB
  have lb2 : Lb v2 s2 m cap (B.take m) := by rw [unhide hs2]; exact (unhide lb).upto m hmn
  have hTl := lb2.len
  simp only [List.size_toArray, List.length_cons, List.length_nil, Array.replicate, List.replicate]
  refine any_take (i := 0) (v := (.pointer (some ⟨w.heap.size, 0, none⟩))) #[false, false, false, false, false, false, false, false, false, false, false] rfl (by kernel_rfl) (by kernel_rfl) (by kernel_rfl) (by kernel_rfl) (fun _ _ _ h => h) (.inl ⟨by kernel_rfl, fun x_ hu => by kernel_rfl⟩) hB ?_
  simp only [Act.put, List.setIfInBounds_toArray, List.set_cons_zero, List.set_cons_succ, List.getElem_toArray, List.getElem_cons_zero, List.getElem_cons_succ]
  refine any_take (i := 1) (v := (.agg (kc K))) #[true, false, false, false, false, false, false, false, false, false, false] rfl (by kernel_rfl) (by kernel_rfl) (by kernel_rfl) (by kernel_rfl) (fun _ _ _ h => h) (.inl ⟨by kernel_rfl, fun x_ hu => exec_key _ (.tmp 38) rfl w.heap.size (by kernel_rfl) K N c (unhide hu0) (hu.get 0 (x := ⟨w.heap.size, usd K c N, 28⟩) rfl)⟩) hB ?_
  simp only [Act.put, List.setIfInBounds_toArray, List.set_cons_zero, List.set_cons_succ, List.getElem_toArray, List.getElem_cons_zero, List.getElem_cons_succ]
  refine any_take (i := 2) (v := (.pointer (some ⟨w.heap.size, 32, none⟩))) #[true, true, false, false, false, false, false, false, false, false, false] rfl (by kernel_rfl) (by kernel_rfl) (by kernel_rfl) (by kernel_rfl) (fun _ _ _ h => h) (.inl ⟨by kernel_rfl, fun x_ hu => by kernel_rfl⟩) hB ?_
  simp only [Act.put, List.setIfInBounds_toArray, List.set_cons_zero, List.set_cons_succ, List.getElem_toArray, List.getElem_cons_zero, List.getElem_cons_succ]
  refine any_take (i := 3) (v := (.int .u32 c)) #[true, true, true, false, false, false, false, false, false, false, false] rfl (by kernel_rfl) (by kernel_rfl) (by kernel_rfl) (by kernel_rfl) (fun _ _ _ h => h) (.inl ⟨by kernel_rfl, fun x_ hu => by have c0 := usd_count (unhide hu0).kl (hu.get 0 (x := ⟨w.heap.size, usd K c N, 28⟩) rfl); go_simp⟩) hB ?_
  simp only [Act.put, List.setIfInBounds_toArray, List.set_cons_zero, List.set_cons_succ, List.getElem_toArray, List.getElem_cons_zero, List.getElem_cons_succ]
  refine any_take (i := 4) (v := (.pointer (some ⟨w.heap.size, 33, none⟩))) #[true, true, true, true, false, false, false, false, false, false, false] rfl (by kernel_rfl) (by kernel_rfl) (by kernel_rfl) (by kernel_rfl) (fun _ _ _ h => h) (.inl ⟨by kernel_rfl, fun x_ hu => by kernel_rfl⟩) hB ?_
  simp only [Act.put, List.setIfInBounds_toArray, List.set_cons_zero, List.set_cons_succ, List.getElem_toArray, List.getElem_cons_zero, List.getElem_cons_succ]
  refine any_take (i := 5) (v := (.agg (kc N))) #[true, true, true, true, true, false, false, false, false, false, false] rfl (by kernel_rfl) (by kernel_rfl) (by kernel_rfl) (by kernel_rfl) (fun _ _ _ h => h) (.inl ⟨by kernel_rfl, fun x_ hu => exec_nonce _ (.tmp 42) rfl w.heap.size (by kernel_rfl) K N c (unhide hu0) (hu.get 0 (x := ⟨w.heap.size, usd K c N, 28⟩) rfl)⟩) hB ?_
  simp only [Act.put, List.setIfInBounds_toArray, List.set_cons_zero, List.set_cons_succ, List.getElem_toArray, List.getElem_cons_zero, List.getElem_cons_succ]
  refine any_take (i := 6) (v := (.slice s1 n cap)) #[true, true, true, true, true, true, false, false, false, false, false] rfl (by kernel_rfl) (by kernel_rfl) (by kernel_rfl) (by kernel_rfl) (fun _ _ _ h => h) (.inl ⟨by kernel_rfl, fun x_ hu => by kernel_rfl⟩) hB ?_
  simp only [Act.put, List.setIfInBounds_toArray, List.set_cons_zero, List.set_cons_succ, List.getElem_toArray, List.getElem_cons_zero, List.getElem_cons_succ]
  refine any_take (i := 7) (v := (.int .i64 m)) #[true, true, true, true, true, true, true, false, false, false, false] rfl (by kernel_rfl) (by kernel_rfl) (by kernel_rfl) (by kernel_rfl) (fun _ _ _ h => h) (.inl ⟨by kernel_rfl, fun x_ hu => by kernel_rfl⟩) hB ?_
  simp only [Act.put, List.setIfInBounds_toArray, List.set_cons_zero, List.set_cons_succ, List.getElem_toArray, List.getElem_cons_zero, List.getElem_cons_succ]
  refine any_take (i := 8) (v := (.slice s2 m cap)) #[true, true, true, true, true, true, true, true, false, false, false] rfl (by kernel_rfl) (by kernel_rfl) (by kernel_rfl) (by kernel_rfl) (fun _ _ _ h => h) (.inl ⟨by kernel_rfl, fun x_ hu => by rw [unhide hs2]; exact exec_upto _ (.tmp 44) (.tmp 45) rfl s1 n cap m rfl rfl hcc hmn⟩) hB ?_
  simp only [Act.put, List.setIfInBounds_toArray, List.set_cons_zero, List.set_cons_succ, List.getElem_toArray, List.getElem_cons_zero, List.getElem_cons_succ]
  refine any_one (i := 9) (by kernel_rfl) rfl (fun K_ hK => ?_)
  refine step_callw (by kernel_rfl) 13 #[.agg (kc K), .int .u32 c, .agg (kc N), .slice s2 m cap] (by kernel_rfl) ((xor_ok K N (unhide hu).kl (unhide hu).nl (unhide hu).kb (unhide hu).nb c (unhide hu).cw (B.take m) _ m cap (by omega) _ lb2).mono ?_)
  rintro r v3 ⟨g2, rfl, hge, hm2, hg⟩
  refine ⟨_, rfl, ?_⟩
  rw [hTl]
  replace hB := hB.more hg
  have hG : Hid (Gr v2 v3) := hg
  have ob : Hid (Ob v2.heap.size v3 (.slice (some ⟨g2, 0, none⟩) m m) (xl K N c (B.take m))) := ob_of hm2 (by rw [xl_len, hTl]) hge (by omega)
  clear hm2 hg hge lb2
  refine hK.out _ _ hB (fun _ => ?_)
  clear hK K_
  simp only [Act.put, List.setIfInBounds_toArray, List.set_cons_zero, List.set_cons_succ, List.getElem_toArray, List.getElem_cons_zero, List.getElem_cons_succ]
  refine any_one (i := 10) (by kernel_rfl) rfl (fun K_ hK => ?_)
  replace hK := hide hK
  go_simp
  refine (unhide hK).out _ _ hB (fun _ => ?_)
  clear hK K_
  refine any_done (by kernel_rfl) ?_
  obtain ⟨s3, hs3⟩ : ∃ x, x = if cap = m then s1 else s1.map (·.add m) := ⟨_, rfl⟩
  replace hs3 := hide hs3
  have j1 : (m : Int).tdiv 64 = (kk : Int) := by have := unhide hkk; rw [Int.tdiv_eq_ediv_of_nonneg (by omega)]; omega
  have j2 : IntKind.i64.wrap (kk : Int) = (kk : Int) := by have := unhide hkk; rw [IntKind.wrap_i64]; omega
  have j3 : (kk : Int) % 4294967296 = (kk : Int) := by have := unhide hkk; omega
  have j4 : IntKind.u32.wrap (kk : Int) = (kk : Int) := by rw [IntKind.wrap_u32]; exact j3
  have j5 : IntKind.u32.wrap (c + (kk : Int)) = cn c kk := by rw [IntKind.wrap_u32]; rfl
  have j6 : (c + (kk : Int)) % 4294967296 = cn c kk := rfl
  replace hB := hide hB
  go_upto_region 7 with fail
  replace hB := unhide hB
  refine any_start (S := fun v => Bl w [⟨w.heap.size, usd K c N, 28⟩] v) (by kernel_rfl) ?_
  replace hB := hB.drew
  replace hG := hide ((unhide hG).drew)
  replace ob := hide ((unhide ob).gr (Gr.refl _).drew)
  generalize World.drew _ = v4 at *
  have lb3 : Lb v4 s3 (n - m) (cap - m) (B.drop m) := by rw [unhide hs3]; exact ((unhide lb).gr (unhide hG)).rest m hmn
  simp only [List.size_toArray, List.length_cons, List.length_nil, Array.replicate, List.replicate]
  refine any_take (i := 0) (v := (.pointer (some ⟨w.heap.size, 0, none⟩))) #[false, false, false, false, false, false, false, false, false, false, false, false, false, false, false] rfl (by kernel_rfl) (by kernel_rfl) (by kernel_rfl) (by kernel_rfl) (fun _ _ _ h => h) (.inl ⟨by kernel_rfl, fun x_ hu => by kernel_rfl⟩) hB ?_
  simp only [Act.put, List.setIfInBounds_toArray, List.set_cons_zero, List.set_cons_succ, List.getElem_toArray, List.getElem_cons_zero, List.getElem_cons_succ]
  refine any_take (i := 1) (v := (.agg (kc K))) #[true, false, false, false, false, false, false, false, false, false, false, false, false, false, false] rfl (by kernel_rfl) (by kernel_rfl) (by kernel_rfl) (by kernel_rfl) (fun _ _ _ h => h) (.inl ⟨by kernel_rfl, fun x_ hu => exec_key _ (.tmp 48) rfl w.heap.size (by kernel_rfl) K N c (unhide hu0) (hu.get 0 (x := ⟨w.heap.size, usd K c N, 28⟩) rfl)⟩) hB ?_
  simp only [Act.put, List.setIfInBounds_toArray, List.set_cons_zero, List.set_cons_succ, List.getElem_toArray, List.getElem_cons_zero, List.getElem_cons_succ]
  refine any_take (i := 2) (v := (.pointer (some ⟨w.heap.size, 32, none⟩))) #[true, true, false, false, false, false, false, false, false, false, false, false, false, false, false] rfl (by kernel_rfl) (by kernel_rfl) (by kernel_rfl) (by kernel_rfl) (fun _ _ _ h => h) (.inl ⟨by kernel_rfl, fun x_ hu => by kernel_rfl⟩) hB ?_
  simp only [Act.put, List.setIfInBounds_toArray, List.set_cons_zero, List.set_cons_succ, List.getElem_toArray, List.getElem_cons_zero, List.getElem_cons_succ]
  refine any_take (i := 3) (v := (.int .u32 c)) #[true, true, true, false, false, false, false, false, false, false, false, false, false, false, false] rfl (by kernel_rfl) (by kernel_rfl) (by kernel_rfl) (by kernel_rfl) (fun _ _ _ h => h) (.inl ⟨by kernel_rfl, fun x_ hu => by have c0 := usd_count (unhide hu0).kl (hu.get 0 (x := ⟨w.heap.size, usd K c N, 28⟩) rfl); go_simp⟩) hB ?_
  simp only [Act.put, List.setIfInBounds_toArray, List.set_cons_zero, List.set_cons_succ, List.getElem_toArray, List.getElem_cons_zero, List.getElem_cons_succ]
  refine any_take (i := 4) (v := (.int .i64 m)) #[true, true, true, true, false, false, false, false, false, false, false, false, false, false, false] rfl (by kernel_rfl) (by kernel_rfl) (by kernel_rfl) (by kernel_rfl) (fun _ _ _ h => h) (.inl ⟨by kernel_rfl, fun x_ hu => by kernel_rfl⟩) hB ?_
  simp only [Act.put, List.setIfInBounds_toArray, List.set_cons_zero, List.set_cons_succ, List.getElem_toArray, List.getElem_cons_zero, List.getElem_cons_succ]
  refine any_take (i := 5) (v := (.int .i64 kk)) #[true, true, true, true, true, false, false, false, false, false, false, false, false, false, false] rfl (by kernel_rfl) (by kernel_rfl) (by kernel_rfl) (by kernel_rfl) (fun _ _ _ h => h) (.inl ⟨by kernel_rfl, fun x_ hu => by go_simp⟩) hB ?_
  simp only [Act.put, List.setIfInBounds_toArray, List.set_cons_zero, List.set_cons_succ, List.getElem_toArray, List.getElem_cons_zero, List.getElem_cons_succ]
  refine any_take (i := 6) (v := (.int .u32 kk)) #[true, true, true, true, true, true, false, false, false, false, false, false, false, false, false] rfl (by kernel_rfl) (by kernel_rfl) (by kernel_rfl) (by kernel_rfl) (fun _ _ _ h => h) (.inl ⟨by kernel_rfl, fun x_ hu => by go_simp⟩) hB ?_
  simp only [Act.put, List.setIfInBounds_toArray, List.set_cons_zero, List.set_cons_succ, List.getElem_toArray, List.getElem_cons_zero, List.getElem_cons_succ]
  refine any_take (i := 7) (v := (.int .u32 (cn c kk))) #[true, true, true, true, true, true, true, false, false, false, false, false, false, false, false] rfl (by kernel_rfl) (by kernel_rfl) (by kernel_rfl) (by kernel_rfl) (fun _ _ _ h => h) (.inl ⟨by kernel_rfl, fun x_ hu => by kernel_rfl⟩) hB ?_
  simp only [Act.put, List.setIfInBounds_toArray, List.set_cons_zero, List.set_cons_succ, List.getElem_toArray, List.getElem_cons_zero, List.getElem_cons_succ]
  refine any_take (i := 8) (v := (.pointer (some ⟨w.heap.size, 33, none⟩))) #[true, true, true, true, true, true, true, true, false, false, false, false, false, false, false] rfl (by kernel_rfl) (by kernel_rfl) (by kernel_rfl) (by kernel_rfl) (fun _ _ _ h => h) (.inl ⟨by kernel_rfl, fun x_ hu => by kernel_rfl⟩) hB ?_
  simp only [Act.put, List.setIfInBounds_toArray, List.set_cons_zero, List.set_cons_succ, List.getElem_toArray, List.getElem_cons_zero, List.getElem_cons_succ]
  refine any_take (i := 9) (v := (.agg (kc N))) #[true, true, true, true, true, true, true, true, true, false, false, false, false, false, false] rfl (by kernel_rfl) (by kernel_rfl) (by kernel_rfl) (by kernel_rfl) (fun _ _ _ h => h) (.inl ⟨by kernel_rfl, fun x_ hu => exec_nonce _ (.tmp 56) rfl w.heap.size (by kernel_rfl) K N c (unhide hu0) (hu.get 0 (x := ⟨w.heap.size, usd K c N, 28⟩) rfl)⟩) hB ?_
  simp only [Act.put, List.setIfInBounds_toArray, List.set_cons_zero, List.set_cons_succ, List.getElem_toArray, List.getElem_cons_zero, List.getElem_cons_succ]
  refine any_take (i := 10) (v := (.slice s1 n cap)) #[true, true, true, true, true, true, true, true, true, true, false, false, false, false, false] rfl (by kernel_rfl) (by kernel_rfl) (by kernel_rfl) (by kernel_rfl) (fun _ _ _ h => h) (.inl ⟨by kernel_rfl, fun x_ hu => by kernel_rfl⟩) hB ?_
  simp only [Act.put, List.setIfInBounds_toArray, List.set_cons_zero, List.set_cons_succ, List.getElem_toArray, List.getElem_cons_zero, List.getElem_cons_succ]
  refine any_take (i := 11) (v := (.int .i64 m)) #[true, true, true, true, true, true, true, true, true, true, true, false, false, false, false] rfl (by kernel_rfl) (by kernel_rfl) (by kernel_rfl) (by kernel_rfl) (fun _ _ _ h => h) (.inl ⟨by kernel_rfl, fun x_ hu => by kernel_rfl⟩) hB ?_
  simp only [Act.put, List.setIfInBounds_toArray, List.set_cons_zero, List.set_cons_succ, List.getElem_toArray, List.getElem_cons_zero, List.getElem_cons_succ]
  refine any_take (i := 12) (v := (.slice s3 (n - m) (cap - m))) #[true, true, true, true, true, true, true, true, true, true, true, true, false, false, false] rfl (by kernel_rfl) (by kernel_rfl) (by kernel_rfl) (by kernel_rfl) (fun _ _ _ h => h) (.inl ⟨by kernel_rfl, fun x_ hu => by rw [unhide hs3]; exact exec_from _ (.tmp 58) (.tmp 59) rfl s1 n cap m rfl rfl hcc hmn⟩) hB ?_
  simp only [Act.put, List.setIfInBounds_toArray, List.set_cons_zero, List.set_cons_succ, List.getElem_toArray, List.getElem_cons_zero, List.getElem_cons_succ]
  refine any_one (i := 13) (by kernel_rfl) rfl (fun K_ hK => ?_)
  refine step_callw (by kernel_rfl) 13 #[.agg (kc K), .int .u32 (cn c kk), .agg (kc N), .slice s3 (n - m) (cap - m)] (by kernel_rfl) ((xor_ok K N (unhide hu).kl (unhide hu).nl (unhide hu).kb (unhide hu).nb (cn c kk) (w32_cn c kk) (B.drop m) _ (n - m) (cap - m) (by omega) _ lb3).mono ?_)
  rintro r v5 ⟨g3, rfl, _, hm3, hg⟩
  refine ⟨_, rfl, ?_⟩
  rw [lb3.len]
  replace hB := hB.more hg
  replace hG := hide ((unhide hG).trans hg)
  replace ob := hide ((unhide ob).gr hg)
  have lt : Hid (Lb v5 (some ⟨g3, 0, none⟩) (n - m) (n - m) (xl K N (cn c kk) (B.drop m))) := kc_lb hm3 (by rw [xl_len, lb3.len]) (xl_isB _ _ _ _) (by omega)
  clear hm3 hg lb3
  refine hK.out _ _ hB (fun _ => ?_)
  clear hK K_
  simp only [Act.put, List.setIfInBounds_toArray, List.set_cons_zero, List.set_cons_succ, List.getElem_toArray, List.getElem_cons_zero, List.getElem_cons_succ]
  refine any_one (i := 14) (by kernel_rfl) rfl (fun K_ hK => ?_)
  replace hK := hide hK
  go_simp
  refine (unhide hK).out _ _ hB (fun _ => ?_)
  clear hK K_
  refine any_done (by kernel_rfl) ?_
  clear j1 j2 j3 j4 j5 j6
  replace hB := hide hB
  go_upto_region 8 with fail
  replace hB := unhide hB
  refine wp_region_lit ?_
  refine list_val (.slice (some ⟨g1, 0, none⟩) n n) (by kernel_rfl) (by kernel_rfl) ?_
  simp only [Act.put, List.setIfInBounds_toArray, List.set_cons_zero, List.set_cons_succ, List.getElem_toArray, List.getElem_cons_zero, List.getElem_cons_succ]
  refine list_val (.slice (some ⟨g2, 0, none⟩) m m) (by kernel_rfl) (by kernel_rfl) ?_
  simp only [Act.put, List.setIfInBounds_toArray, List.set_cons_zero, List.set_cons_succ, List.getElem_toArray, List.getElem_cons_zero, List.getElem_cons_succ]
  refine list_val (.slice (some ⟨g3, 0, none⟩) (n - m) (n - m)) (by kernel_rfl) (by kernel_rfl) ?_
  simp only [Act.put, List.setIfInBounds_toArray, List.set_cons_zero, List.set_cons_succ, List.getElem_toArray, List.getElem_cons_zero, List.getElem_cons_succ]
  refine app_bs (by kernel_rfl) (.tmp 63) (.tmp 64) rfl v2.heap.size _ (xl K N c (B.take m)) rfl (unhide ob) _ (n - m) (n - m) (xl K N (cn c kk) (B.drop m)) rfl (unhide lt).len (unhide lt).sl (by rw [xl_len, hTl]; omega) (unhide hG).size ?_
  intro v7 v6 ob6 hgr
  simp only [Act.put, List.setIfInBounds_toArray, List.set_cons_zero, List.set_cons_succ, List.getElem_toArray, List.getElem_cons_zero, List.getElem_cons_succ]
  rw [← xl_parts K N c B kk m (unhide hkk) (by rw [unhide hBl]; exact hmn)] at ob6
  have hG6 := Ob.grown (unhide ob) (Nat.le_refl _) (unhide hG) hgr
  clear hgr lt ob hB hG
  obtain ⟨a7, c7, rfl, h71, h72, sl7⟩ := ob6.slice
  rw [xl_len, unhide hBl]
  replace lb := hide ((unhide lb).gr hG6)
  replace lx := hide ((unhide lx).gr hG6)
  replace hB := hB2.more hG6
  clear hB2 hG6 ob6 h71 h72
  refine list_call 14 #[.slice (some ⟨g1, 0, none⟩) n n, .slice a7 n c7] (by kernel_rfl) (by kernel_rfl) ((equal_same (xl K N c B) _ _ n n c7 (by rw [xl_len, unhide hBl]) _ (unhide lx).sl sl7).mono ?_)
  rintro r v8 ⟨rfl, rfl⟩
  refine ⟨_, rfl, ?_⟩
  clear sl7
  simp only [Act.put, List.setIfInBounds_toArray, List.set_cons_zero, List.set_cons_succ, List.getElem_toArray, List.getElem_cons_zero, List.getElem_cons_succ]
  refine list_val (.bool false) (by kernel_rfl) (by kernel_rfl) ?_
  simp only [Act.put, List.setIfInBounds_toArray, List.set_cons_zero, List.set_cons_succ, List.getElem_toArray, List.getElem_cons_zero, List.getElem_cons_succ]
  refine wpList_nil ?_
  replace hB := hide hB
  go_upto_region 10 with fail
  replace hB := unhide hB
  refine any_start (S := fun v => Bl w [⟨w.heap.size, usd K c N, 28⟩] v) (by kernel_rfl) ?_
  replace hB := hB.drew
  replace lb := hide ((unhide lb).gr (Gr.refl _).drew)
  replace lx := hide ((unhide lx).gr (Gr.refl _).drew)
  generalize World.drew _ = v9 at *
  simp only [List.size_toArray, List.length_cons, List.length_nil, Array.replicate, List.replicate]
  refine any_take (i := 0) (v := (.pointer (some ⟨w.heap.size, 0, none⟩))) #[false, false, false, false, false, false, false, false, false, false, false] rfl (by kernel_rfl) (by kernel_rfl) (by kernel_rfl) (by kernel_rfl) (fun _ _ _ h => h) (.inl ⟨by kernel_rfl, fun x_ hu => by kernel_rfl⟩) hB ?_
  simp only [Act.put, List.setIfInBounds_toArray, List.set_cons_zero, List.set_cons_succ, List.getElem_toArray, List.getElem_cons_zero, List.getElem_cons_succ]
  refine any_take (i := 1) (v := (.agg (kc K))) #[true, false, false, false, false, false, false, false, false, false, false] rfl (by kernel_rfl) (by kernel_rfl) (by kernel_rfl) (by kernel_rfl) (fun _ _ _ h => h) (.inl ⟨by kernel_rfl, fun x_ hu => exec_key _ (.tmp 68) rfl w.heap.size (by kernel_rfl) K N c (unhide hu0) (hu.get 0 (x := ⟨w.heap.size, usd K c N, 28⟩) rfl)⟩) hB ?_
  simp only [Act.put, List.setIfInBounds_toArray, List.set_cons_zero, List.set_cons_succ, List.getElem_toArray, List.getElem_cons_zero, List.getElem_cons_succ]
  refine any_take (i := 2) (v := (.pointer (some ⟨w.heap.size, 32, none⟩))) #[true, true, false, false, false, false, false, false, false, false, false] rfl (by kernel_rfl) (by kernel_rfl) (by kernel_rfl) (by kernel_rfl) (fun _ _ _ h => h) (.inl ⟨by kernel_rfl, fun x_ hu => by kernel_rfl⟩) hB ?_
  simp only [Act.put, List.setIfInBounds_toArray, List.set_cons_zero, List.set_cons_succ, List.getElem_toArray, List.getElem_cons_zero, List.getElem_cons_succ]
  refine any_take (i := 3) (v := (.int .u32 c)) #[true, true, true, false, false, false, false, false, false, false, false] rfl (by kernel_rfl) (by kernel_rfl) (by kernel_rfl) (by kernel_rfl) (fun _ _ _ h => h) (.inl ⟨by kernel_rfl, fun x_ hu => by have c0 := usd_count (unhide hu0).kl (hu.get 0 (x := ⟨w.heap.size, usd K c N, 28⟩) rfl); go_simp⟩) hB ?_
  simp only [Act.put, List.setIfInBounds_toArray, List.set_cons_zero, List.set_cons_succ, List.getElem_toArray, List.getElem_cons_zero, List.getElem_cons_succ]
  refine any_take (i := 4) (v := (.pointer (some ⟨w.heap.size, 33, none⟩))) #[true, true, true, true, false, false, false, false, false, false, false] rfl (by kernel_rfl) (by kernel_rfl) (by kernel_rfl) (by kernel_rfl) (fun _ _ _ h => h) (.inl ⟨by kernel_rfl, fun x_ hu => by kernel_rfl⟩) hB ?_
  simp only [Act.put, List.setIfInBounds_toArray, List.set_cons_zero, List.set_cons_succ, List.getElem_toArray, List.getElem_cons_zero, List.getElem_cons_succ]
  refine any_take (i := 5) (v := (.agg (kc N))) #[true, true, true, true, true, false, false, false, false, false, false] rfl (by kernel_rfl) (by kernel_rfl) (by kernel_rfl) (by kernel_rfl) (fun _ _ _ h => h) (.inl ⟨by kernel_rfl, fun x_ hu => exec_nonce _ (.tmp 72) rfl w.heap.size (by kernel_rfl) K N c (unhide hu0) (hu.get 0 (x := ⟨w.heap.size, usd K c N, 28⟩) rfl)⟩) hB ?_
  simp only [Act.put, List.setIfInBounds_toArray, List.set_cons_zero, List.set_cons_succ, List.getElem_toArray, List.getElem_cons_zero, List.getElem_cons_succ]
  refine any_take (i := 6) (v := (.slice s1 n cap)) #[true, true, true, true, true, true, false, false, false, false, false] rfl (by kernel_rfl) (by kernel_rfl) (by kernel_rfl) (by kernel_rfl) (fun _ _ _ h => h) (.inl ⟨by kernel_rfl, fun x_ hu => by kernel_rfl⟩) hB ?_
  simp only [Act.put, List.setIfInBounds_toArray, List.set_cons_zero, List.set_cons_succ, List.getElem_toArray, List.getElem_cons_zero, List.getElem_cons_succ]
  refine any_take (i := 7) (v := (.int .i64 n)) #[true, true, true, true, true, true, true, false, false, false, false] rfl (by kernel_rfl) (by kernel_rfl) (by kernel_rfl) (by kernel_rfl) (fun _ _ _ h => h) (.inl ⟨by kernel_rfl, fun x_ hu => by kernel_rfl⟩) hB ?_
  simp only [Act.put, List.setIfInBounds_toArray, List.set_cons_zero, List.set_cons_succ, List.getElem_toArray, List.getElem_cons_zero, List.getElem_cons_succ]
  refine any_one (i := 8) (by kernel_rfl) rfl (fun K_ hK => ?_)
  rw [if_pos (by kernel_rfl)]
  refine make_op (.tmp 75) (.tmp 75) rfl n n rfl rfl (Nat.le_refl _) (by omega) ?_
  have hg := (Gr.refl v9).alloc (.cells (kc (List.replicate n 0)) 5 (0, 0))
  have lz : Lb (v9.alloc (.cells (kc (List.replicate n 0)) 5 (0, 0))) (some ⟨v9.heap.size, 0, none⟩) n n (List.replicate n 0) := kc_lb (blk_new _ _) (by simp) (rep_isB n) (by omega)
  replace hB := hB.more hg
  replace lb := hide ((unhide lb).gr hg)
  replace lx := hide ((unhide lx).gr hg)
  clear hg
  generalize World.alloc _ _ = v10 at *
  generalize v9.heap.size = g9 at *
  refine hK.out _ _ hB (fun _ => ?_)
  clear hK K_
  simp only [Act.put, List.setIfInBounds_toArray, List.set_cons_zero, List.set_cons_succ, List.getElem_toArray, List.getElem_cons_zero, List.getElem_cons_succ]
  refine any_one (i := 9) (by kernel_rfl) rfl (fun K_ hK => ?_)
  refine step_callw (by kernel_rfl) 13 #[.agg (kc K), .int .u32 c, .agg (kc N), .slice (some ⟨g9, 0, none⟩) n n] (by kernel_rfl) ((xor_ok K N (unhide hu).kl (unhide hu).nl (unhide hu).kb (unhide hu).nb c (unhide hu).cw (List.replicate n 0) _ n n (by omega) _ lz).mono ?_)
  rintro r v11 ⟨gs, rfl, hgs, hms, hg⟩
  refine ⟨_, rfl, ?_⟩
  rw [List.length_replicate]
  have hB3 := hB.join hg [⟨gs, kc (xl K N c (List.replicate n 0)), 5⟩] (by intro x hx; rw [List.mem_singleton] at hx; subst hx; exact ⟨hms, hgs⟩) (List.pairwise_singleton _ _)
  simp only [List.cons_append, List.nil_append] at hB3
  replace hB := hB.more hg
  replace lb := hide ((unhide lb).gr hg)
  replace lx := hide ((unhide lx).gr hg)
  clear hms hg lz hgs
  refine hK.out _ _ hB (fun _ => ?_)
  clear hK K_
  simp only [Act.put, List.setIfInBounds_toArray, List.set_cons_zero, List.set_cons_succ, List.getElem_toArray, List.getElem_cons_zero, List.getElem_cons_succ]
  refine any_one (i := 10) (by kernel_rfl) rfl (fun K_ hK => ?_)
  replace hK := hide hK
  go_simp
  refine (unhide hK).out _ _ hB (fun _ => ?_)
  clear hK K_
  refine any_done (by kernel_rfl) ?_
  have hI : Hid (PI w K c N s1 n cap B g1 gs v11) := ⟨hB3, unhide lb, unhide lx⟩
  clear hB lb lx hB3
  go_wp2_with fail
  go_loopw [80] (fun i wr => ∃ j : Nat, j ≤ n ∧ i = .int .i64 j ∧ Hid (PI w K c N s1 n cap B g1 gs wr)) (fun i _ => n - (intOf i).toNat)
  case atStart => exact ⟨0, by omega, rfl, hI⟩
  case round =>
  clear hI
  obtain ⟨j, hj, rfl, hI⟩ := hrel
  by_cases hjl : j < n
  · obtain ⟨bp, bo, rfl, hat⟩ : ∃ bp bo, s1 = some ⟨bp, bo, none⟩ ∧ At wr bp bo B := by
      rcases (unhide hI).2.1.sl with h | h
      · have := unhide hBl
        rw [h] at this
        simp at this
        omega
      · exact h
    have c1 := hat j (by rw [unhide hBl]; exact hjl)
    have c2 := (unhide hI).2.2.at0 j hjl
    have c3 := kc_cell ((unhide hI).1.get 1 (x := ⟨gs, kc (xl K N c (List.replicate n 0)), 5⟩) rfl) j (by rw [xl_len, List.length_replicate]; exact hjl)
    rw [xl_get _ _ _ _ _ (by rw [unhide hBl]; exact hjl), xf, xb] at c2
    rw [xl_zero _ _ _ _ _ hjl] at c3
    generalize B.getD j 0 = y at *
    generalize sf K N c j = t at *
    clear hat
    have jI : (j : Int) < (n : Int) := by omega
    go_wp2_with fail
    go_quiet (fail)
    replace hI : Hid (PI w K c N (some ⟨bp, bo, none⟩) n cap B g1 gs (wr.drewN nq)) := (unhide hI).gr ((Gr.refl wr).drewN nq)
    clear c1 c2 c3
    generalize World.drewN _ _ = v12 at *
    go_wp2_with fail
    go_roundw
    case rel => exact ⟨j + 1, by omega, by go_num, hI⟩
    case measure => simp [intOf]; omega
  have jI : ¬ (j : Int) < (n : Int) := by omega
  obtain ⟨hB, lb, lx⟩ := unhide hI
  clear hI lb lx
  obtain ⟨Sx, hSx⟩ : ∃ S, S = xl K N c (List.replicate n 0) := ⟨_, rfl⟩
  rw [← hSx] at hB
  replace hSx := hide hSx
  replace hB := hide hB
  go_upto_region 17 with fail
  replace hB := unhide hB
  refine wp_region_lit ?_
  refine list_val (.pointer (some ⟨w.heap.size, 0, none⟩)) (by kernel_rfl) (by kernel_rfl) ?_
  simp only [Act.put, List.setIfInBounds_toArray, List.set_cons_zero, List.set_cons_succ, List.getElem_toArray, List.getElem_cons_zero, List.getElem_cons_succ]
  refine list_val (.agg (kc K)) (by kernel_rfl) (exec_key _ (.tmp 98) rfl w.heap.size (by kernel_rfl) K N c (unhide hu) (hB.get 0 (x := ⟨w.heap.size, usd K c N, 28⟩) rfl)) ?_
  simp only [Act.put, List.setIfInBounds_toArray, List.set_cons_zero, List.set_cons_succ, List.getElem_toArray, List.getElem_cons_zero, List.getElem_cons_succ]
  refine list_val (.pointer (some ⟨w.heap.size, 32, none⟩)) (by kernel_rfl) (by kernel_rfl) ?_
  simp only [Act.put, List.setIfInBounds_toArray, List.set_cons_zero, List.set_cons_succ, List.getElem_toArray, List.getElem_cons_zero, List.getElem_cons_succ]
  refine list_val (.int .u32 c) (by kernel_rfl) (by have c0 := usd_count (unhide hu).kl (hB.get 0 (x := ⟨w.heap.size, usd K c N, 28⟩) rfl); go_simp) ?_
  simp only [Act.put, List.setIfInBounds_toArray, List.set_cons_zero, List.set_cons_succ, List.getElem_toArray, List.getElem_cons_zero, List.getElem_cons_succ]
  refine list_val (.pointer (some ⟨w.heap.size, 33, none⟩)) (by kernel_rfl) (by kernel_rfl) ?_
  simp only [Act.put, List.setIfInBounds_toArray, List.set_cons_zero, List.set_cons_succ, List.getElem_toArray, List.getElem_cons_zero, List.getElem_cons_succ]
  refine list_val (.agg (kc N)) (by kernel_rfl) (exec_nonce _ (.tmp 102) rfl w.heap.size (by kernel_rfl) K N c (unhide hu) (hB.get 0 (x := ⟨w.heap.size, usd K c N, 28⟩) rfl)) ?_
  simp only [Act.put, List.setIfInBounds_toArray, List.set_cons_zero, List.set_cons_succ, List.getElem_toArray, List.getElem_cons_zero, List.getElem_cons_succ]
  refine list_call 10 #[.agg (kc K), .int .u32 c, .agg (kc N)] (by kernel_rfl) (by kernel_rfl) ((block_ok K N (unhide hu).kl (unhide hu).nl (unhide hu).kb (unhide hu).nb c _).mono ?_)
  rintro r v13 ⟨rfl, hg⟩
  refine ⟨_, rfl, ?_⟩
  replace hB := hB.more hg
  clear hg
  have hDl := bk_len K N c
  obtain ⟨D, hD⟩ : ∃ D, D = bk K N c := ⟨_, rfl⟩
  rw [← hD] at hDl ⊢
  replace hD := hide hD
  simp only [Act.put, List.setIfInBounds_toArray, List.set_cons_zero, List.set_cons_succ, List.getElem_toArray, List.getElem_cons_zero, List.getElem_cons_succ]
  replace hB := hide hB
  (refine wpList_step fun K hK => ?_; replace hK := hide hK; go_simp; refine unhide hK _ _ ?_; clear hK K)
  replace hB := (unhide hB).new #[.int .u8 0, .int .u8 0, .int .u8 0, .int .u8 0, .int .u8 0, .int .u8 0, .int .u8 0, .int .u8 0, .int .u8 0, .int .u8 0, .int .u8 0, .int .u8 0, .int .u8 0, .int .u8 0, .int .u8 0, .int .u8 0, .int .u8 0, .int .u8 0, .int .u8 0, .int .u8 0, .int .u8 0, .int .u8 0, .int .u8 0, .int .u8 0, .int .u8 0, .int .u8 0, .int .u8 0, .int .u8 0, .int .u8 0, .int .u8 0, .int .u8 0, .int .u8 0, .int .u8 0, .int .u8 0, .int .u8 0, .int .u8 0, .int .u8 0, .int .u8 0, .int .u8 0, .int .u8 0, .int .u8 0, .int .u8 0, .int .u8 0, .int .u8 0, .int .u8 0, .int .u8 0, .int .u8 0, .int .u8 0, .int .u8 0, .int .u8 0, .int .u8 0, .int .u8 0, .int .u8 0, .int .u8 0, .int .u8 0, .int .u8 0, .int .u8 0, .int .u8 0, .int .u8 0, .int .u8 0, .int .u8 0, .int .u8 0, .int .u8 0, .int .u8 0] 30
  simp only [List.nil_append, List.cons_append] at hB
  generalize World.alloc _ _ = v14 at *
  generalize v13.heap.size = h5 at *
  replace hB : Bl w [⟨w.heap.size, usd K c N, 28⟩, ⟨gs, kc Sx, 5⟩, ⟨h5, kc Z64, 30⟩] v14 := hB
  refine list_store 30 (.tmp 13) (.tmp 104) (h5) (kc D) 30 (kc Z64) (by kernel_rfl) rfl (by kernel_rfl) (by kernel_rfl) (hB.get 2 (x := ⟨h5, kc Z64, 30⟩) rfl) (by rw [Try.info64, kc_size, hDl]) ((show (kc Z64).size = 64 from rfl).trans ((kc_size _).trans hDl).symm) (kc_one _) ?_
  replace hB := hB.set 2 (x := ⟨h5, kc Z64, 30⟩) rfl (kc D)
  simp only [List.set_cons_zero, List.set_cons_succ] at hB
  generalize World.setRow _ _ _ = v15 at *
  simp only [Act.put, List.setIfInBounds_toArray, List.set_cons_zero, List.set_cons_succ, List.getElem_toArray, List.getElem_cons_zero, List.getElem_cons_succ]
  refine wpList_nil ?_
  obtain ⟨p, hp⟩ : ∃ p, p = min n 64 := ⟨_, rfl⟩
  obtain ⟨s5, hs5⟩ : ∃ x, x = if n = 0 then (some ⟨gs, 0, none⟩ : Option Addr) else (some ⟨gs, 0, none⟩ : Option Addr).map (·.add 0) := ⟨_, rfl⟩
  replace hs5 := hide hs5
  have i3 : (if (64 : Int) < (n : Int) then (64 : Int) else (n : Int)) = (p : Int) := by split <;> omega
  have i4 : (if 64 < n then (64 : Int) else (n : Int)) = (p : Int) := by split <;> omega
  have hpn : p ≤ n := by omega
  have hp4 : p ≤ 64 := by omega
  have hp5 : (p : Int) ≤ 64 := by omega
  replace hp := hide hp
  replace hB := hide hB
  go_upto_region 18 with fail
  replace hB := unhide hB
  refine any_start (S := fun _ => True) (by kernel_rfl) ?_
  replace hB := hB.drew
  generalize World.drew _ = v16 at *
  have l6 : Lb v16 (some ⟨h5, 0, none⟩) p 64 (D.take p) := (kc_lb (hB.get 2 (x := ⟨h5, kc D, 30⟩) rfl) hDl (by rw [unhide hD]; exact bk_isB K N c) (by omega)).upto p hp4
  have l5 : Lb v16 s5 p n (D.take p) := by
    have h := (kc_lb (hB.get 1 (x := ⟨gs, kc Sx, 5⟩) rfl) (by rw [unhide hSx, xl_len, List.length_replicate]) (by rw [unhide hSx]; exact xl_isB _ _ _ _) (by omega)).upto p hpn
    rw [unhide hs5, unhide hD, ← xl_head K N c (unhide hu).cw n p (unhide hp), ← unhide hSx]
    exact h
  simp only [List.size_toArray, List.length_cons, List.length_nil, Array.replicate, List.replicate]
  refine any_take (i := 0) (v := (.slice (some ⟨gs, 0, none⟩) n n)) #[false, false, false, false, false, false, false, false, false, false, false] rfl (by kernel_rfl) (by kernel_rfl) (by kernel_rfl) (by kernel_rfl) (fun _ _ _ h => h) (.inl ⟨by kernel_rfl, fun x_ hu => by kernel_rfl⟩) trivial ?_
  simp only [Act.put, List.setIfInBounds_toArray, List.set_cons_zero, List.set_cons_succ, List.getElem_toArray, List.getElem_cons_zero, List.getElem_cons_succ]
  refine any_take (i := 1) (v := (.slice (some ⟨gs, 0, none⟩) n n)) #[true, false, false, false, false, false, false, false, false, false, false] rfl (by kernel_rfl) (by kernel_rfl) (by kernel_rfl) (by kernel_rfl) (fun _ _ _ h => h) (.inl ⟨by kernel_rfl, fun x_ hu => by kernel_rfl⟩) trivial ?_
  simp only [Act.put, List.setIfInBounds_toArray, List.set_cons_zero, List.set_cons_succ, List.getElem_toArray, List.getElem_cons_zero, List.getElem_cons_succ]
  refine any_take (i := 2) (v := (.int .i64 n)) #[true, true, false, false, false, false, false, false, false, false, false] rfl (by kernel_rfl) (by kernel_rfl) (by kernel_rfl) (by kernel_rfl) (fun _ _ _ h => h) (.inl ⟨by kernel_rfl, fun x_ hu => by kernel_rfl⟩) trivial ?_
  simp only [Act.put, List.setIfInBounds_toArray, List.set_cons_zero, List.set_cons_succ, List.getElem_toArray, List.getElem_cons_zero, List.getElem_cons_succ]
  refine any_take (i := 3) (v := (.int .i64 p)) #[true, true, true, false, false, false, false, false, false, false, false] rfl (by kernel_rfl) (by kernel_rfl) (by kernel_rfl) (by kernel_rfl) (fun _ _ _ h => h) (.inl ⟨by kernel_rfl, fun x_ hu => by go_simp⟩) trivial ?_
  simp only [Act.put, List.setIfInBounds_toArray, List.set_cons_zero, List.set_cons_succ, List.getElem_toArray, List.getElem_cons_zero, List.getElem_cons_succ]
  refine any_take (i := 4) (v := (.slice s5 p n)) #[true, true, true, true, false, false, false, false, false, false, false] rfl (by kernel_rfl) (by kernel_rfl) (by kernel_rfl) (by kernel_rfl) (fun _ _ _ h => h) (.inl ⟨by kernel_rfl, fun x_ hu => by rw [unhide hs5]; exact exec_upto _ (.tmp 105) (.tmp 108) rfl (some ⟨gs, 0, none⟩) n n p rfl rfl (Nat.le_refl _) hpn⟩) trivial ?_
  simp only [Act.put, List.setIfInBounds_toArray, List.set_cons_zero, List.set_cons_succ, List.getElem_toArray, List.getElem_cons_zero, List.getElem_cons_succ]
  refine any_take (i := 5) (v := (.slice (some ⟨gs, 0, none⟩) n n)) #[true, true, true, true, true, false, false, false, false, false, false] rfl (by kernel_rfl) (by kernel_rfl) (by kernel_rfl) (by kernel_rfl) (fun _ _ _ h => h) (.inl ⟨by kernel_rfl, fun x_ hu => by kernel_rfl⟩) trivial ?_
  simp only [Act.put, List.setIfInBounds_toArray, List.set_cons_zero, List.set_cons_succ, List.getElem_toArray, List.getElem_cons_zero, List.getElem_cons_succ]
  refine any_take (i := 6) (v := (.int .i64 n)) #[true, true, true, true, true, true, false, false, false, false, false] rfl (by kernel_rfl) (by kernel_rfl) (by kernel_rfl) (by kernel_rfl) (fun _ _ _ h => h) (.inl ⟨by kernel_rfl, fun x_ hu => by kernel_rfl⟩) trivial ?_
  simp only [Act.put, List.setIfInBounds_toArray, List.set_cons_zero, List.set_cons_succ, List.getElem_toArray, List.getElem_cons_zero, List.getElem_cons_succ]
  refine any_take (i := 7) (v := (.int .i64 p)) #[true, true, true, true, true, true, true, false, false, false, false] rfl (by kernel_rfl) (by kernel_rfl) (by kernel_rfl) (by kernel_rfl) (fun _ _ _ h => h) (.inl ⟨by kernel_rfl, fun x_ hu => by go_simp⟩) trivial ?_
  simp only [Act.put, List.setIfInBounds_toArray, List.set_cons_zero, List.set_cons_succ, List.getElem_toArray, List.getElem_cons_zero, List.getElem_cons_succ]
  refine any_take (i := 8) (v := (.slice (some ⟨h5, 0, none⟩) p 64)) #[true, true, true, true, true, true, true, true, false, false, false] rfl (by kernel_rfl) (by kernel_rfl) (by kernel_rfl) (by kernel_rfl) (fun _ _ _ h => h) (.inl ⟨by kernel_rfl, fun x_ hu => by go_simp⟩) trivial ?_
  simp only [Act.put, List.setIfInBounds_toArray, List.set_cons_zero, List.set_cons_succ, List.getElem_toArray, List.getElem_cons_zero, List.getElem_cons_succ]
  refine any_one (i := 9) (by kernel_rfl) rfl (fun K_ hK => ?_)
  refine step_callw (by kernel_rfl) 14 #[.slice s5 p n, .slice (some ⟨h5, 0, none⟩) p 64] (by kernel_rfl) ((equal_same (D.take p) _ _ p n 64 (by rw [List.length_take, hDl]; omega) _ l5.sl l6.sl).mono ?_)
  rintro r v17 ⟨rfl, rfl⟩
  refine ⟨_, rfl, ?_⟩
  refine hK.out _ _ trivial (fun _ => ?_)
  clear hK K_
  simp only [Act.put, List.setIfInBounds_toArray, List.set_cons_zero, List.set_cons_succ, List.getElem_toArray, List.getElem_cons_zero, List.getElem_cons_succ]
  refine any_one (i := 10) (by kernel_rfl) rfl (fun K_ hK => ?_)
  replace hK := hide hK
  go_simp
  refine (unhide hK).out _ _ trivial (fun _ => ?_)
  clear hK K_
  refine any_done (by kernel_rfl) ?_
  replace hB := hide hB
  go_wp2_with fail
  replace hB := unhide hB
  rw [unhide hT]
  exact ⟨rfl, hB.gr⟩
end Go.Proofs.Ytcclcknggeeehaa
