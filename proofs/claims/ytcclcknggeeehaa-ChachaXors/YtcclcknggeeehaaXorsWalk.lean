/-
  Bytes are xored with the stream from a counter on: the walk.
-/
import Derived.Test.YtcclcknggeeehaaChaRX
namespace Go.Proofs.Ytcclcknggeeehaa
open Go.RowKit
set_option maxRecDepth 100000
set_option linter.unusedSimpArgs false
set_option linter.unusedVariables false
theorem ob_room {w : World} {b g m : Nat} (h : w.heap[g]? = some (.cells (kc (List.replicate m 0)) 5 (0, 0))) (hg : b ≤ g) (hb : m ≤ 140737488351232) : Ob b w (.slice (some ⟨g, 0, none⟩) 0 m) [] :=
  ⟨rfl, .inr ⟨g, m, _, rfl, hg, h, Nat.zero_le _, by unfold maxLen; omega, by rw [kc_size, List.length_replicate, Nat.mul_one], by simp⟩⟩
theorem isB_snoc {B : List Int} (h : IsB B) : IsB (B ++ [7]) := fun x hx => by
  rcases List.mem_append.1 hx with h1 | h1
  · exact h x h1
  · simp at h1
    omega
theorem take_snoc (B : List Int) (n : Nat) (h : B.length = n) : (B ++ [7]).take n = B := by rw [← h]; simp
theorem get_snoc (B : List Int) (n : Nat) (h : B.length = n) : (B ++ [7]).getD n 0 = 7 := by rw [← h]; simp
set_option maxHeartbeats 4000000 in
theorem xors_ok (K : List Int) (c : Int) (N : List Int) (hu : Us K c N) (B0 : List Int) (s : Option Addr) (len cap : Nat) (w : World) (lb : Lb w s len cap B0) : Calls Try.prog 4 #[.agg (usd K c N), .slice s len cap] w (Woke w) := by
  obtain ⟨T, hT⟩ : ∃ T, T = Woke w := ⟨_, rfl⟩
  rw [← hT]
  replace hT := hide hT
  replace hu := hide hu
  replace lb := hide lb
  obtain ⟨SU, hSU⟩ : ∃ S, S = usd K c N := ⟨_, rfl⟩
  rw [← hSU]
  replace hSU := hide hSU
  go_enter Try.func4, Try.ntmps4
  go_upto_region 1 with fail
  have hB := (Bl.nil w).new SU 28
  simp only [List.nil_append] at hB
  generalize World.alloc _ _ = u at *
  rw [unhide hSU] at hB
  replace hB : Bl w [⟨w.heap.size, usd K c N, 28⟩] u := hB
  replace lb := hide ((unhide lb).gr hB.gr)
  refine wp_region_lit ?_
  refine list_call 9 #[] (by kernel_rfl) (by kernel_rfl) ((wakes_ok _).mono ?_)
  rintro r v ⟨rfl, hg⟩
  refine ⟨_, rfl, ?_⟩
  replace hB := hB.more hg
  replace lb := hide ((unhide lb).gr hg)
  clear hg
  simp only [Act.put, List.setIfInBounds_toArray, List.set_cons_zero, List.set_cons_succ, List.getElem_toArray, List.getElem_cons_zero, List.getElem_cons_succ]
  refine list_val (.bool false) (by kernel_rfl) (by kernel_rfl) ?_
  simp only [Act.put, List.setIfInBounds_toArray, List.set_cons_zero, List.set_cons_succ, List.getElem_toArray, List.getElem_cons_zero, List.getElem_cons_succ]
  refine wpList_nil ?_
  replace hB := hide hB
  go_upto_region 3 with fail
  replace hB := unhide hB
  obtain ⟨n, hn⟩ : ∃ n, n = min len 4000 := ⟨_, rfl⟩
  have i3 : (if (4000 : Int) < (len : Int) then (4000 : Int) else (len : Int)) = (n : Int) := by split <;> omega
  have i4 : (if 4000 < len then (4000 : Int) else (len : Int)) = (n : Int) := by split <;> omega
  have hnl : n ≤ len := by omega
  have hnb : n ≤ 4000 := by omega
  replace hn := hide hn
  refine wp_region_lit ?_
  refine list_val (.slice s len cap) (by kernel_rfl) (by kernel_rfl) ?_
  simp only [Act.put, List.setIfInBounds_toArray, List.set_cons_zero, List.set_cons_succ, List.getElem_toArray, List.getElem_cons_zero, List.getElem_cons_succ]
  refine list_val (.slice s len cap) (by kernel_rfl) (by kernel_rfl) ?_
  simp only [Act.put, List.setIfInBounds_toArray, List.set_cons_zero, List.set_cons_succ, List.getElem_toArray, List.getElem_cons_zero, List.getElem_cons_succ]
  refine list_val (.int .i64 len) (by kernel_rfl) (by kernel_rfl) ?_
  simp only [Act.put, List.setIfInBounds_toArray, List.set_cons_zero, List.set_cons_succ, List.getElem_toArray, List.getElem_cons_zero, List.getElem_cons_succ]
  refine list_val (.int .i64 n) (by kernel_rfl) (by go_simp) ?_
  simp only [Act.put, List.setIfInBounds_toArray, List.set_cons_zero, List.set_cons_succ, List.getElem_toArray, List.getElem_cons_zero, List.getElem_cons_succ]
  refine list_upto (.tmp 12) (.tmp 15) (by kernel_rfl) rfl s len cap n rfl rfl B0 (unhide lb) hnl ?_
  intro s1 hs1
  simp only [Act.put, List.setIfInBounds_toArray, List.set_cons_zero, List.set_cons_succ, List.getElem_toArray, List.getElem_cons_zero, List.getElem_cons_succ]
  replace lb : Hid (Lb _ s1 n cap (B0.take n)) := hs1 _ (unhide lb)
  clear hs1
  generalize B0.take n = B at *
  (refine wpList_step fun K hK => ?_; replace hK := hide hK; go_simp; refine unhide hK _ _ ?_; clear hK K)
  refine wpList_nil ?_
  have hBl : Hid (B.length = n) := (unhide lb).len
  have hcc : n ≤ cap := (unhide lb).cap
  obtain ⟨n3, hn3⟩ : ∃ x, x = n + 3 := ⟨_, rfl⟩
  have j1 : (n : Int) + 3 = (n3 : Int) := by omega
  have j2 : IntKind.i64.wrap (n3 : Int) = (n3 : Int) := by rw [IntKind.wrap_i64]; omega
  have hn4 : n3 ≤ 5000 := by omega
  replace hn3 := hide hn3
  replace hB := hide hB
  go_upto_region 4 with fail
  replace hB := unhide hB
  refine wp_region_lit ?_
  refine list_val (.slice s1 n cap) (by kernel_rfl) (by kernel_rfl) ?_
  simp only [Act.put, List.setIfInBounds_toArray, List.set_cons_zero, List.set_cons_succ, List.getElem_toArray, List.getElem_cons_zero, List.getElem_cons_succ]
  refine list_val (.int .i64 n) (by kernel_rfl) (by kernel_rfl) ?_
  simp only [Act.put, List.setIfInBounds_toArray, List.set_cons_zero, List.set_cons_succ, List.getElem_toArray, List.getElem_cons_zero, List.getElem_cons_succ]
  refine list_val (.int .i64 n3) (by kernel_rfl) (by go_simp) ?_
  simp only [Act.put, List.setIfInBounds_toArray, List.set_cons_zero, List.set_cons_succ, List.getElem_toArray, List.getElem_cons_zero, List.getElem_cons_succ]
  have hB1 := hB
  refine wpList_make_room v rfl (.const (.int .i64 0)) (.tmp 19) rfl 0 n3 0 n3 rfl rfl rfl rfl (Nat.zero_le _) (by omega) ?_
  simp only [Act.put, List.setIfInBounds_toArray, List.set_cons_zero, List.set_cons_succ, List.getElem_toArray, List.getElem_cons_zero, List.getElem_cons_succ]
  have hG := (Gr.refl v).alloc (.cells (kc (List.replicate n3 0)) 5 (0, 0))
  have ob := ob_room (b := v.heap.size) (blk_new v (.cells (kc (List.replicate n3 0)) 5 (0, 0))) (Nat.le_refl _) (by omega)
  generalize World.alloc _ _ = v1 at *
  generalize hgz : v.heap.size = g0 at *
  have hgv : v.heap.size ≤ g0 := Nat.le_of_eq hgz
  refine list_val (.slice s1 n cap) (by kernel_rfl) (by kernel_rfl) ?_
  simp only [Act.put, List.setIfInBounds_toArray, List.set_cons_zero, List.set_cons_succ, List.getElem_toArray, List.getElem_cons_zero, List.getElem_cons_succ]
  refine app_bs (by kernel_rfl) (.tmp 20) (.tmp 21) rfl g0 _ [] rfl ob _ n cap B rfl (unhide hBl) ((unhide lb).gr hG).sl (by simp; omega) (by rw [← hgz]; exact hG.size) ?_
  intro x1 v2 ob2 hgr
  simp only [Act.put, List.setIfInBounds_toArray, List.set_cons_zero, List.set_cons_succ, List.getElem_toArray, List.getElem_cons_zero, List.getElem_cons_succ]
  replace hG := Ob.grown ob hgv hG hgr
  clear hgr ob
  rw [List.nil_append] at ob2
  refine list_valw (.slice (some ⟨v2.heap.size, 0, none⟩) 1 1) (v2.alloc (.cells (kc [7]) 5 (0, 0))) (by kernel_rfl) (by kernel_rfl) ?_
  simp only [Act.put, List.setIfInBounds_toArray, List.set_cons_zero, List.set_cons_succ, List.getElem_toArray, List.getElem_cons_zero, List.getElem_cons_succ]
  have hg := (Gr.refl v2).alloc (.cells (kc [7]) 5 (0, 0))
  have hnew := blk_new v2 (.cells (kc [7]) 5 (0, 0))
  replace hG := hG.trans hg
  replace ob2 := ob2.gr hg
  clear hg
  generalize World.alloc _ _ = v3 at *
  generalize v2.heap.size = g3 at *
  refine app_bs (by kernel_rfl) (.tmp 22) (.tmp 23) rfl g0 _ B rfl ob2 _ 1 1 [7] rfl rfl (.inr ⟨g3, 0, rfl, kc_at hnew⟩) (by rw [unhide hBl]; omega) (by rw [← hgz]; exact hG.size) ?_
  intro x2 v4 ob4 hgr
  simp only [Act.put, List.setIfInBounds_toArray, List.set_cons_zero, List.set_cons_succ, List.getElem_toArray, List.getElem_cons_zero, List.getElem_cons_succ]
  replace hG := Ob.grown ob2 hgv hG hgr
  clear hgr ob2 hnew
  obtain ⟨a5, c5, rfl, lo⟩ := ob4.lb (isB_snoc (unhide lb).isB)
  rw [List.length_append, unhide hBl, List.length_cons, List.length_nil, Nat.zero_add] at lo ⊢
  clear ob4
  obtain ⟨ap, ao, rfl, _⟩ : ∃ ap ao, a5 = some ⟨ap, ao, none⟩ ∧ At v4 ap ao (B ++ [7]) := by
    rcases lo.sl with h | h
    · simp at h
    · exact h
  replace lo := hide lo
  replace lb := hide ((unhide lb).gr hG)
  replace hB := hB1.more hG
  clear hG hB1 hgz hgv
  (refine wpList_step fun K hK => ?_; replace hK := hide hK; go_simp; refine unhide hK _ _ ?_; clear hK K)
  refine wpList_nil ?_
  clear j1 j2
  replace hB := hide hB
  go_upto_region 5 with fail
  replace hB := unhide hB
  refine wp_region_lit ?_
  refine list_val (.pointer (some ⟨w.heap.size, 0, none⟩)) (by kernel_rfl) (by kernel_rfl) ?_
  simp only [Act.put, List.setIfInBounds_toArray, List.set_cons_zero, List.set_cons_succ, List.getElem_toArray, List.getElem_cons_zero, List.getElem_cons_succ]
  refine list_val (.agg (kc K)) (by kernel_rfl) (exec_key _ (.tmp 25) rfl w.heap.size (by kernel_rfl) K N c (unhide hu) (hB.get 0 (x := ⟨w.heap.size, usd K c N, 28⟩) rfl)) ?_
  simp only [Act.put, List.setIfInBounds_toArray, List.set_cons_zero, List.set_cons_succ, List.getElem_toArray, List.getElem_cons_zero, List.getElem_cons_succ]
  refine list_val (.pointer (some ⟨w.heap.size, 32, none⟩)) (by kernel_rfl) (by kernel_rfl) ?_
  simp only [Act.put, List.setIfInBounds_toArray, List.set_cons_zero, List.set_cons_succ, List.getElem_toArray, List.getElem_cons_zero, List.getElem_cons_succ]
  refine list_val (.int .u32 c) (by kernel_rfl) (by have c0 := usd_count (unhide hu).kl (hB.get 0 (x := ⟨w.heap.size, usd K c N, 28⟩) rfl); go_simp) ?_
  simp only [Act.put, List.setIfInBounds_toArray, List.set_cons_zero, List.set_cons_succ, List.getElem_toArray, List.getElem_cons_zero, List.getElem_cons_succ]
  refine list_val (.pointer (some ⟨w.heap.size, 33, none⟩)) (by kernel_rfl) (by kernel_rfl) ?_
  simp only [Act.put, List.setIfInBounds_toArray, List.set_cons_zero, List.set_cons_succ, List.getElem_toArray, List.getElem_cons_zero, List.getElem_cons_succ]
  refine list_val (.agg (kc N)) (by kernel_rfl) (exec_nonce _ (.tmp 29) rfl w.heap.size (by kernel_rfl) K N c (unhide hu) (hB.get 0 (x := ⟨w.heap.size, usd K c N, 28⟩) rfl)) ?_
  simp only [Act.put, List.setIfInBounds_toArray, List.set_cons_zero, List.set_cons_succ, List.getElem_toArray, List.getElem_cons_zero, List.getElem_cons_succ]
  refine list_val (.slice s1 n cap) (by kernel_rfl) (by kernel_rfl) ?_
  simp only [Act.put, List.setIfInBounds_toArray, List.set_cons_zero, List.set_cons_succ, List.getElem_toArray, List.getElem_cons_zero, List.getElem_cons_succ]
  refine list_call 12 #[.agg (kc K), .int .u32 c, .agg (kc N), .slice s1 n cap] (by kernel_rfl) (by kernel_rfl) ((rxor_ok K N (unhide hu).kl (unhide hu).nl (unhide hu).kb (unhide hu).nb c B _ n cap (by omega) _ (unhide lb)).mono ?_)
  rintro r v5 ⟨x5, rfl, ob5, hg⟩
  refine ⟨_, rfl, ?_⟩
  replace hB := hB.more hg
  replace lb := hide ((unhide lb).gr hg)
  replace lo := hide ((unhide lo).gr hg)
  obtain ⟨a6, c6, rfl, lw⟩ := ob5.lb (xl_isB _ _ _ _)
  rw [xl_len, unhide hBl] at lw ⊢
  replace lw := hide lw
  clear hg ob5
  simp only [Act.put, List.setIfInBounds_toArray, List.set_cons_zero, List.set_cons_succ, List.getElem_toArray, List.getElem_cons_zero, List.getElem_cons_succ]
  (refine wpList_step fun K hK => ?_; replace hK := hide hK; go_simp; refine unhide hK _ _ ?_; clear hK K)
  refine wpList_nil ?_
  have hlo := unhide lo
  have hc5 : n + 1 ≤ c5 := hlo.cap
  obtain ⟨s9, hs9⟩ : ∃ x, x = if c5 = 0 then (some ⟨ap, ao, none⟩ : Option Addr) else (some ⟨ap, ao, none⟩ : Option Addr).map (·.add 0) := ⟨_, rfl⟩
  have l9 : Hid (Lb v5 s9 n c5 B) := by
    have h := hlo.upto n (by omega)
    rw [take_snoc B n (unhide hBl)] at h
    rw [hs9]
    exact h
  have c7 : Hid (v5.cell? ⟨ap, ao + n, none⟩ = some (.int .u8 7)) := by
    rcases hlo.sl with h | ⟨p, o, e, hat⟩
    · simp at h
    · cases e
      have h := hat n (by rw [List.length_append, unhide hBl]; simp)
      rw [get_snoc B n (unhide hBl)] at h
      exact h
  clear hlo lo
  replace hs9 := hide hs9
  replace hB := hide hB
  obtain ⟨X, hX⟩ : ∃ X, X = xl K N c B := ⟨_, rfl⟩
  rw [← hX] at lw
  have hXl : Hid (X.length = n) := by rw [hX, xl_len]; exact unhide hBl
  have hXb : Hid (IsB X) := by rw [hX]; exact xl_isB _ _ _ _
  replace hX := hide hX
  have hG : Hid (Gr v5 v5) := Gr.refl v5
  go_wp2_with fail
  go_loopw [7] (fun i wr => ∃ r : Nat, r ≤ 2 ∧ i = .int .i64 r ∧ Hid (Gr v5 wr)) (fun i _ => 2 - (intOf i).toNat)
  case atStart => exact ⟨0, by omega, rfl, hG⟩
  case round =>
  clear hG
  obtain ⟨r, hr, rfl, hG⟩ := hrel
  by_cases hrl : r < 2
  · have rI : (r : Int) < 2 := by omega
    go_upto_region 9 with fail
    replace hG := unhide hG
    have hu0 := hu
    refine any_start (S := fun v => Gr v5 v) (by kernel_rfl) ?_
    replace hG := hG.drew
    generalize World.drew _ = v7 at *
    simp only [List.size_toArray, List.length_cons, List.length_nil, Array.replicate, List.replicate]
    refine any_take (i := 0) (v := (.pointer (some ⟨w.heap.size, 0, none⟩))) #[false, false, false, false, false, false, false, false, false, false, false, false] rfl (by kernel_rfl) (by kernel_rfl) (by kernel_rfl) (by kernel_rfl) (fun _ _ _ h => h) (.inl ⟨by kernel_rfl, fun x_ hu => by kernel_rfl⟩) hG ?_
    simp only [Act.put, List.setIfInBounds_toArray, List.set_cons_zero, List.set_cons_succ, List.getElem_toArray, List.getElem_cons_zero, List.getElem_cons_succ]
    refine any_take (i := 1) (v := (.agg (kc K))) #[true, false, false, false, false, false, false, false, false, false, false, false] rfl (by kernel_rfl) (by kernel_rfl) (by kernel_rfl) (by kernel_rfl) (fun _ _ _ h => h) (.inl ⟨by kernel_rfl, fun x_ hu => exec_key _ (.tmp 37) rfl w.heap.size (by kernel_rfl) K N c (unhide hu0) ((unhide hB).more hu |>.get 0 (x := ⟨w.heap.size, usd K c N, 28⟩) rfl)⟩) hG ?_
    simp only [Act.put, List.setIfInBounds_toArray, List.set_cons_zero, List.set_cons_succ, List.getElem_toArray, List.getElem_cons_zero, List.getElem_cons_succ]
    refine any_take (i := 2) (v := (.pointer (some ⟨w.heap.size, 32, none⟩))) #[true, true, false, false, false, false, false, false, false, false, false, false] rfl (by kernel_rfl) (by kernel_rfl) (by kernel_rfl) (by kernel_rfl) (fun _ _ _ h => h) (.inl ⟨by kernel_rfl, fun x_ hu => by kernel_rfl⟩) hG ?_
    simp only [Act.put, List.setIfInBounds_toArray, List.set_cons_zero, List.set_cons_succ, List.getElem_toArray, List.getElem_cons_zero, List.getElem_cons_succ]
    refine any_take (i := 3) (v := (.int .u32 c)) #[true, true, true, false, false, false, false, false, false, false, false, false] rfl (by kernel_rfl) (by kernel_rfl) (by kernel_rfl) (by kernel_rfl) (fun _ _ _ h => h) (.inl ⟨by kernel_rfl, fun x_ hu => by have c0 := usd_count (unhide hu0).kl ((unhide hB).more hu |>.get 0 (x := ⟨w.heap.size, usd K c N, 28⟩) rfl); go_simp⟩) hG ?_
    simp only [Act.put, List.setIfInBounds_toArray, List.set_cons_zero, List.set_cons_succ, List.getElem_toArray, List.getElem_cons_zero, List.getElem_cons_succ]
    refine any_take (i := 4) (v := (.pointer (some ⟨w.heap.size, 33, none⟩))) #[true, true, true, true, false, false, false, false, false, false, false, false] rfl (by kernel_rfl) (by kernel_rfl) (by kernel_rfl) (by kernel_rfl) (fun _ _ _ h => h) (.inl ⟨by kernel_rfl, fun x_ hu => by kernel_rfl⟩) hG ?_
    simp only [Act.put, List.setIfInBounds_toArray, List.set_cons_zero, List.set_cons_succ, List.getElem_toArray, List.getElem_cons_zero, List.getElem_cons_succ]
    refine any_take (i := 5) (v := (.agg (kc N))) #[true, true, true, true, true, false, false, false, false, false, false, false] rfl (by kernel_rfl) (by kernel_rfl) (by kernel_rfl) (by kernel_rfl) (fun _ _ _ h => h) (.inl ⟨by kernel_rfl, fun x_ hu => exec_nonce _ (.tmp 41) rfl w.heap.size (by kernel_rfl) K N c (unhide hu0) ((unhide hB).more hu |>.get 0 (x := ⟨w.heap.size, usd K c N, 28⟩) rfl)⟩) hG ?_
    simp only [Act.put, List.setIfInBounds_toArray, List.set_cons_zero, List.set_cons_succ, List.getElem_toArray, List.getElem_cons_zero, List.getElem_cons_succ]
    refine any_take (i := 6) (v := (.slice (some ⟨ap, ao, none⟩) (n + 1) c5)) #[true, true, true, true, true, true, false, false, false, false, false, false] rfl (by kernel_rfl) (by kernel_rfl) (by kernel_rfl) (by kernel_rfl) (fun _ _ _ h => h) (.inl ⟨by kernel_rfl, fun x_ hu => by kernel_rfl⟩) hG ?_
    simp only [Act.put, List.setIfInBounds_toArray, List.set_cons_zero, List.set_cons_succ, List.getElem_toArray, List.getElem_cons_zero, List.getElem_cons_succ]
    refine any_take (i := 7) (v := (.slice s1 n cap)) #[true, true, true, true, true, true, true, false, false, false, false, false] rfl (by kernel_rfl) (by kernel_rfl) (by kernel_rfl) (by kernel_rfl) (fun _ _ _ h => h) (.inl ⟨by kernel_rfl, fun x_ hu => by kernel_rfl⟩) hG ?_
    simp only [Act.put, List.setIfInBounds_toArray, List.set_cons_zero, List.set_cons_succ, List.getElem_toArray, List.getElem_cons_zero, List.getElem_cons_succ]
    refine any_take (i := 8) (v := (.int .i64 n)) #[true, true, true, true, true, true, true, true, false, false, false, false] rfl (by kernel_rfl) (by kernel_rfl) (by kernel_rfl) (by kernel_rfl) (fun _ _ _ h => h) (.inl ⟨by kernel_rfl, fun x_ hu => by kernel_rfl⟩) hG ?_
    simp only [Act.put, List.setIfInBounds_toArray, List.set_cons_zero, List.set_cons_succ, List.getElem_toArray, List.getElem_cons_zero, List.getElem_cons_succ]
    refine any_take (i := 9) (v := (.slice s9 n c5)) #[true, true, true, true, true, true, true, true, true, false, false, false] rfl (by kernel_rfl) (by kernel_rfl) (by kernel_rfl) (by kernel_rfl) (fun _ _ _ h => h) (.inl ⟨by kernel_rfl, fun x_ hu => by rw [unhide hs9]; exact exec_upto _ (.tmp 43) (.tmp 45) rfl (some ⟨ap, ao, none⟩) (n + 1) c5 n rfl rfl hc5 (by omega)⟩) hG ?_
    simp only [Act.put, List.setIfInBounds_toArray, List.set_cons_zero, List.set_cons_succ, List.getElem_toArray, List.getElem_cons_zero, List.getElem_cons_succ]
    refine any_one (i := 10) (by kernel_rfl) rfl (fun K_ hK => ?_)
    refine step_callw (by kernel_rfl) 13 #[.agg (kc K), .int .u32 c, .agg (kc N), .slice s9 n c5] (by kernel_rfl) ((xor_ok K N (unhide hu0).kl (unhide hu0).nl (unhide hu0).kb (unhide hu0).nb c (unhide hu0).cw B _ n c5 (by omega) _ ((unhide l9).gr hG)).mono ?_)
    rintro r v8 ⟨g8, rfl, hge, hm8, hg⟩
    refine ⟨_, rfl, ?_⟩
    rw [unhide hBl]
    rw [← unhide hX] at hm8
    replace hge := Nat.le_trans hG.size hge
    replace hG := hG.trans hg
    clear hg
    refine hK.out _ _ hG (fun _ => ?_)
    clear hK K_
    simp only [Act.put, List.setIfInBounds_toArray, List.set_cons_zero, List.set_cons_succ, List.getElem_toArray, List.getElem_cons_zero, List.getElem_cons_succ]
    refine any_one (i := 11) (by kernel_rfl) rfl (fun K_ hK => ?_)
    replace hK := hide hK
    go_simp
    refine (unhide hK).out _ _ hG (fun _ => ?_)
    clear hK K_
    refine any_done (by kernel_rfl) ?_
    replace hG := hide hG
    replace hm8 := hide hm8
    go_upto_region 10 with fail
    replace hG := unhide hG
    refine wp_region_lit ?_
    refine list_val (.slice (some ⟨g8, 0, none⟩) n n) (by kernel_rfl) (by kernel_rfl) ?_
    simp only [Act.put, List.setIfInBounds_toArray, List.set_cons_zero, List.set_cons_succ, List.getElem_toArray, List.getElem_cons_zero, List.getElem_cons_succ]
    refine list_val (.slice a6 n c6) (by kernel_rfl) (by kernel_rfl) ?_
    simp only [Act.put, List.setIfInBounds_toArray, List.set_cons_zero, List.set_cons_succ, List.getElem_toArray, List.getElem_cons_zero, List.getElem_cons_succ]
    refine list_call 14 #[.slice (some ⟨g8, 0, none⟩) n n, .slice a6 n c6] (by kernel_rfl) (by kernel_rfl) ((equal_same X _ _ n n c6 (unhide hXl) _ (kc_lb (unhide hm8) (unhide hXl) (unhide hXb) (by omega)).sl ((unhide lw).gr hG).sl).mono ?_)
    rintro r v9 ⟨rfl, rfl⟩
    refine ⟨_, rfl, ?_⟩
    simp only [Act.put, List.setIfInBounds_toArray, List.set_cons_zero, List.set_cons_succ, List.getElem_toArray, List.getElem_cons_zero, List.getElem_cons_succ]
    refine list_val (.bool false) (by kernel_rfl) (by kernel_rfl) ?_
    simp only [Act.put, List.setIfInBounds_toArray, List.set_cons_zero, List.set_cons_succ, List.getElem_toArray, List.getElem_cons_zero, List.getElem_cons_succ]
    refine list_val (.bool false) (by kernel_rfl) (by kernel_rfl) ?_
    simp only [Act.put, List.setIfInBounds_toArray, List.set_cons_zero, List.set_cons_succ, List.getElem_toArray, List.getElem_cons_zero, List.getElem_cons_succ]
    refine list_val (.slice (some ⟨ap, ao, none⟩) (n + 1) c5) (by kernel_rfl) (by kernel_rfl) ?_
    simp only [Act.put, List.setIfInBounds_toArray, List.set_cons_zero, List.set_cons_succ, List.getElem_toArray, List.getElem_cons_zero, List.getElem_cons_succ]
    refine list_val (.slice s1 n cap) (by kernel_rfl) (by kernel_rfl) ?_
    simp only [Act.put, List.setIfInBounds_toArray, List.set_cons_zero, List.set_cons_succ, List.getElem_toArray, List.getElem_cons_zero, List.getElem_cons_succ]
    refine list_val (.int .i64 n) (by kernel_rfl) (by kernel_rfl) ?_
    simp only [Act.put, List.setIfInBounds_toArray, List.set_cons_zero, List.set_cons_succ, List.getElem_toArray, List.getElem_cons_zero, List.getElem_cons_succ]
    refine list_val (.slice s9 n c5) (by kernel_rfl) (by rw [unhide hs9]; exact exec_upto _ (.tmp 53) (.tmp 55) rfl (some ⟨ap, ao, none⟩) (n + 1) c5 n rfl rfl hc5 (by omega)) ?_
    simp only [Act.put, List.setIfInBounds_toArray, List.set_cons_zero, List.set_cons_succ, List.getElem_toArray, List.getElem_cons_zero, List.getElem_cons_succ]
    refine list_val (.slice s1 n cap) (by kernel_rfl) (by kernel_rfl) ?_
    simp only [Act.put, List.setIfInBounds_toArray, List.set_cons_zero, List.set_cons_succ, List.getElem_toArray, List.getElem_cons_zero, List.getElem_cons_succ]
    refine list_call 14 #[.slice s9 n c5, .slice s1 n cap] (by kernel_rfl) (by kernel_rfl) ((equal_same B _ _ n c5 cap (unhide hBl) _ ((unhide l9).gr hG).sl ((unhide lb).gr hG).sl).mono ?_)
    rintro r v9 ⟨rfl, rfl⟩
    refine ⟨_, rfl, ?_⟩
    simp only [Act.put, List.setIfInBounds_toArray, List.set_cons_zero, List.set_cons_succ, List.getElem_toArray, List.getElem_cons_zero, List.getElem_cons_succ]
    refine list_val (.bool false) (by kernel_rfl) (by kernel_rfl) ?_
    simp only [Act.put, List.setIfInBounds_toArray, List.set_cons_zero, List.set_cons_succ, List.getElem_toArray, List.getElem_cons_zero, List.getElem_cons_succ]
    refine list_val (.bool false) (by kernel_rfl) (by kernel_rfl) ?_
    simp only [Act.put, List.setIfInBounds_toArray, List.set_cons_zero, List.set_cons_succ, List.getElem_toArray, List.getElem_cons_zero, List.getElem_cons_succ]
    refine list_val (.bool false) (by kernel_rfl) (by kernel_rfl) ?_
    simp only [Act.put, List.setIfInBounds_toArray, List.set_cons_zero, List.set_cons_succ, List.getElem_toArray, List.getElem_cons_zero, List.getElem_cons_succ]
    refine list_val (.slice (some ⟨ap, ao, none⟩) (n + 1) c5) (by kernel_rfl) (by kernel_rfl) ?_
    simp only [Act.put, List.setIfInBounds_toArray, List.set_cons_zero, List.set_cons_succ, List.getElem_toArray, List.getElem_cons_zero, List.getElem_cons_succ]
    refine list_val (.slice s1 n cap) (by kernel_rfl) (by kernel_rfl) ?_
    simp only [Act.put, List.setIfInBounds_toArray, List.set_cons_zero, List.set_cons_succ, List.getElem_toArray, List.getElem_cons_zero, List.getElem_cons_succ]
    refine list_val (.int .i64 n) (by kernel_rfl) (by kernel_rfl) ?_
    simp only [Act.put, List.setIfInBounds_toArray, List.set_cons_zero, List.set_cons_succ, List.getElem_toArray, List.getElem_cons_zero, List.getElem_cons_succ]
    refine list_val (.pointer (some ⟨ap, ao + n, none⟩)) (by kernel_rfl) (by have k1 : (n : Int) < ((n + 1 : Nat) : Int) := (by omega); have k2 : n < n + 1 := (by omega); go_simp; intro h9; omega) ?_
    simp only [Act.put, List.setIfInBounds_toArray, List.set_cons_zero, List.set_cons_succ, List.getElem_toArray, List.getElem_cons_zero, List.getElem_cons_succ]
    refine list_val (.int .u8 7) (by kernel_rfl) (by have c0 := hG.cell (unhide c7); go_simp) ?_
    simp only [Act.put, List.setIfInBounds_toArray, List.set_cons_zero, List.set_cons_succ, List.getElem_toArray, List.getElem_cons_zero, List.getElem_cons_succ]
    refine list_val (.bool false) (by kernel_rfl) (by kernel_rfl) ?_
    simp only [Act.put, List.setIfInBounds_toArray, List.set_cons_zero, List.set_cons_succ, List.getElem_toArray, List.getElem_cons_zero, List.getElem_cons_succ]
    refine list_val (.bool false) (by kernel_rfl) (by kernel_rfl) ?_
    simp only [Act.put, List.setIfInBounds_toArray, List.set_cons_zero, List.set_cons_succ, List.getElem_toArray, List.getElem_cons_zero, List.getElem_cons_succ]
    refine wpList_nil ?_
    have hB8 : Hid (Bl v5 [⟨g8, kc X, 5⟩] v9) := (Bl.nil v5).join hG [⟨g8, kc X, 5⟩] (by intro x hx; rw [List.mem_singleton] at hx; subst hx; exact ⟨unhide hm8, hge⟩) (List.pairwise_singleton _ _)
    clear hm8 hG hge
    go_wp2_with fail
    go_loopw [71] (fun i wr => ∃ j : Nat, ∃ m : List Int, j ≤ n ∧ i = .int .i64 j ∧ Hid (m.length = n) ∧ Hid (Bl v5 [⟨g8, kc m, 5⟩] wr)) (fun i _ => n - (intOf i).toNat)
    case atStart => exact ⟨0, X, by omega, rfl, hXl, hB8⟩
    case round =>
    clear hB8
    obtain ⟨j, m, hj, rfl, hml, hB8⟩ := hrel
    by_cases hjl : j < n
    · have c0 := kc_cell ((unhide hB8).get 0 (x := ⟨g8, kc m, 5⟩) rfl) j (by rw [unhide hml]; exact hjl)
      generalize m.getD j 0 = z at c0
      have fz := froz_of (i := j) ((unhide hB8).get 0 (x := ⟨g8, kc m, 5⟩) rfl)
      have hB9 := (unhide hB8).cell 0 (x := ⟨g8, kc m, 5⟩) rfl j (.int .u8 238)
      simp only [List.set_cons_zero, kc_set] at hB9
      have hml2 : Hid ((m.set j 238).length = n) := by rw [List.length_set]; exact unhide hml
      replace hB9 := hide hB9
      have jI : (j : Int) < (n : Int) := by omega
      go_wp2_with fail
      go_roundw
      case rel => exact ⟨j + 1, _, by omega, by go_num, hml2, hB9⟩
      case measure => simp [intOf]; omega
    have jI : ¬ (j : Int) < (n : Int) := by omega
    have hG : Hid (Gr v5 wr) := (unhide hB8).gr
    clear hB8
    go_wp2_with fail
    go_roundw
    case rel => exact ⟨r + 1, by omega, by go_num, hG⟩
    case measure => simp [intOf]; omega
  have rI : ¬ (r : Int) < 2 := by omega
  have hF : Hid (Gr w wr) := (unhide hB).gr.trans (unhide hG)
  go_wp2_with fail
  rw [unhide hT]
  exact ⟨rfl, unhide hF⟩
end Go.Proofs.Ytcclcknggeeehaa
