/-
  Bytes that are xored twice are the bytes: the walk.
-/
import Derived.Test.YtcclcknggeeehaaChaUs
namespace Go.Proofs.Ytcclcknggeeehaa
open Go.RowKit
set_option maxRecDepth 100000
set_option linter.unusedSimpArgs false
set_option linter.unusedVariables false
theorem bts_isB (W : List Int) : IsB (bts W) := fun x hx => by
  unfold bts at hx
  obtain ⟨i, _, rfl⟩ := List.mem_map.1 hx
  unfold btf
  omega
theorem bk_isB (K N : List Int) (c : Int) : IsB (bk K N c) := bts_isB _
theorem sf_rng (K N : List Int) (c : Int) (i : Nat) : 0 ≤ sf K N c i ∧ sf K N c i < 256 := (bk_isB K N _).at_ _
theorem xl_get (K N : List Int) (c : Int) (B : List Int) (i : Nat) (h : i < B.length) : (xl K N c B).getD i 0 = xf K N c B i := by
  unfold xl
  rw [List.getD_eq_getElem?_getD, List.getElem?_map, List.getElem?_range h]
  rfl
theorem list_ext {A B : List Int} (hl : A.length = B.length) (h : ∀ i, i < A.length → A.getD i 0 = B.getD i 0) : A = B := by
  apply List.ext_getElem hl
  intro i h1 h2
  have := h i h1
  simpa [List.getD_eq_getElem?_getD, List.getElem?_eq_getElem h1, List.getElem?_eq_getElem h2] using this
theorem xl_twice (K N : List Int) (c : Int) (B : List Int) (hB : IsB B) : xl K N c (xl K N c B) = B := by
  refine list_ext (by rw [xl_len, xl_len]) fun i hi => ?_
  rw [xl_len, xl_len] at hi
  rw [xl_get _ _ _ _ _ (by rw [xl_len]; exact hi), xf, xl_get _ _ _ _ _ hi, xf]
  exact xb_twice _ _ (hB.at_ i) (sf_rng _ _ _ _)
/-- new memory is a list of bytes -/
theorem kc_lb {w : World} {g : Nat} {X : List Int} {t : TypeId} {n : Nat} (h : w.heap[g]? = some (.cells (kc X) t (0, 0))) (hn : X.length = n) (hX : IsB X) (hb : n < 9223372036854775808) : Lb w (some ⟨g, 0, none⟩) n n X := ⟨hn, hX, .inr ⟨g, 0, rfl, kc_at h⟩, Nat.le_refl _, hb⟩
set_option maxHeartbeats 4000000 in
theorem twice_ok (K : List Int) (c : Int) (N : List Int) (hu : Us K c N) (B0 : List Int) (s : Option Addr) (len cap : Nat) (w : World) (lb : Lb w s len cap B0) : Calls Try.prog 7 #[.agg (usd K c N), .slice s len cap] w (Woke w) := by
  obtain ⟨T, hT⟩ : ∃ T, T = Woke w := ⟨_, rfl⟩
  rw [← hT]
  replace hT := hide hT
  replace hu := hide hu
  replace lb := hide lb
  obtain ⟨SU, hSU⟩ : ∃ S, S = usd K c N := ⟨_, rfl⟩
  rw [← hSU]
  replace hSU := hide hSU
  go_enter Try.func7, Try.ntmps7
  go_upto_region 1 with fail
  have hB := (Bl.nil w).new SU 28
  simp only [List.nil_append] at hB
  generalize World.alloc _ _ = u at *
  rw [unhide hSU] at hB
  replace hB : Bl w [⟨w.heap.size, usd K c N, 28⟩] u := hB
  replace lb := hide ((unhide lb).gr hB.gr)
  refine wp_region_lit ?_
  refine list_call 9 #[] (by kernel_rfl) (by kernel_rfl) ((wakes_ok _).mono ?_)
  rintro r v ⟨rfl, hg⟩
  refine ⟨_, rfl, ?_⟩
  replace hB := hB.more hg
  replace lb := hide ((unhide lb).gr hg)
  clear hg
  simp only [Act.put, List.setIfInBounds_toArray, List.set_cons_zero, List.set_cons_succ, List.getElem_toArray, List.getElem_cons_zero, List.getElem_cons_succ]
  refine list_val (.bool false) (by kernel_rfl) (by kernel_rfl) ?_
  simp only [Act.put, List.setIfInBounds_toArray, List.set_cons_zero, List.set_cons_succ, List.getElem_toArray, List.getElem_cons_zero, List.getElem_cons_succ]
  refine wpList_nil ?_
  replace hB := hide hB
  go_upto_region 3 with fail
  replace hB := unhide hB
  obtain ⟨n, hn⟩ : ∃ n, n = min len 4000 := ⟨_, rfl⟩
  have i3 : (if (4000 : Int) < (len : Int) then (4000 : Int) else (len : Int)) = (n : Int) := by split <;> omega
  have i4 : (if 4000 < len then (4000 : Int) else (len : Int)) = (n : Int) := by split <;> omega
  have hnl : n ≤ len := by omega
  have hnb : n ≤ 4000 := by omega
  replace hn := hide hn
  refine wp_region_lit ?_
  refine list_val (.slice s len cap) (by kernel_rfl) (by kernel_rfl) ?_
  simp only [Act.put, List.setIfInBounds_toArray, List.set_cons_zero, List.set_cons_succ, List.getElem_toArray, List.getElem_cons_zero, List.getElem_cons_succ]
  refine list_val (.slice s len cap) (by kernel_rfl) (by kernel_rfl) ?_
  simp only [Act.put, List.setIfInBounds_toArray, List.set_cons_zero, List.set_cons_succ, List.getElem_toArray, List.getElem_cons_zero, List.getElem_cons_succ]
  refine list_val (.int .i64 len) (by kernel_rfl) (by kernel_rfl) ?_
  simp only [Act.put, List.setIfInBounds_toArray, List.set_cons_zero, List.set_cons_succ, List.getElem_toArray, List.getElem_cons_zero, List.getElem_cons_succ]
  refine list_val (.int .i64 n) (by kernel_rfl) (by go_simp) ?_
  simp only [Act.put, List.setIfInBounds_toArray, List.set_cons_zero, List.set_cons_succ, List.getElem_toArray, List.getElem_cons_zero, List.getElem_cons_succ]
  refine list_upto (.tmp 8) (.tmp 11) (by kernel_rfl) rfl s len cap n rfl rfl B0 (unhide lb) hnl ?_
  intro s1 hs1
  simp only [Act.put, List.setIfInBounds_toArray, List.set_cons_zero, List.set_cons_succ, List.getElem_toArray, List.getElem_cons_zero, List.getElem_cons_succ]
  replace lb : Hid (Lb _ s1 n cap (B0.take n)) := hs1 _ (unhide lb)
  clear hs1
  generalize B0.take n = B at *
  (refine wpList_step fun K hK => ?_; replace hK := hide hK; go_simp; refine unhide hK _ _ ?_; clear hK K)
  refine wpList_nil ?_
  replace hB := hide hB
  go_upto_region 4 with fail
  replace hB := unhide hB
  refine wp_region_lit ?_
  refine list_val (.pointer (some ⟨w.heap.size, 0, none⟩)) (by kernel_rfl) (by kernel_rfl) ?_
  simp only [Act.put, List.setIfInBounds_toArray, List.set_cons_zero, List.set_cons_succ, List.getElem_toArray, List.getElem_cons_zero, List.getElem_cons_succ]
  refine list_val (.agg (kc K)) (by kernel_rfl) (exec_key _ (.tmp 13) rfl w.heap.size (by kernel_rfl) K N c (unhide hu) (hB.get 0 (x := ⟨w.heap.size, usd K c N, 28⟩) rfl)) ?_
  simp only [Act.put, List.setIfInBounds_toArray, List.set_cons_zero, List.set_cons_succ, List.getElem_toArray, List.getElem_cons_zero, List.getElem_cons_succ]
  refine list_val (.pointer (some ⟨w.heap.size, 32, none⟩)) (by kernel_rfl) (by kernel_rfl) ?_
  simp only [Act.put, List.setIfInBounds_toArray, List.set_cons_zero, List.set_cons_succ, List.getElem_toArray, List.getElem_cons_zero, List.getElem_cons_succ]
  refine list_val (.int .u32 c) (by kernel_rfl) (by have c0 := usd_count (unhide hu).kl (hB.get 0 (x := ⟨w.heap.size, usd K c N, 28⟩) rfl); go_simp) ?_
  simp only [Act.put, List.setIfInBounds_toArray, List.set_cons_zero, List.set_cons_succ, List.getElem_toArray, List.getElem_cons_zero, List.getElem_cons_succ]
  refine list_val (.pointer (some ⟨w.heap.size, 33, none⟩)) (by kernel_rfl) (by kernel_rfl) ?_
  simp only [Act.put, List.setIfInBounds_toArray, List.set_cons_zero, List.set_cons_succ, List.getElem_toArray, List.getElem_cons_zero, List.getElem_cons_succ]
  refine list_val (.agg (kc N)) (by kernel_rfl) (exec_nonce _ (.tmp 17) rfl w.heap.size (by kernel_rfl) K N c (unhide hu) (hB.get 0 (x := ⟨w.heap.size, usd K c N, 28⟩) rfl)) ?_
  simp only [Act.put, List.setIfInBounds_toArray, List.set_cons_zero, List.set_cons_succ, List.getElem_toArray, List.getElem_cons_zero, List.getElem_cons_succ]
  refine list_val (.slice s1 n cap) (by kernel_rfl) (by kernel_rfl) ?_
  simp only [Act.put, List.setIfInBounds_toArray, List.set_cons_zero, List.set_cons_succ, List.getElem_toArray, List.getElem_cons_zero, List.getElem_cons_succ]
  refine list_call 13 #[.agg (kc K), .int .u32 c, .agg (kc N), .slice s1 n cap] (by kernel_rfl) (by kernel_rfl) ((xor_ok K N (unhide hu).kl (unhide hu).nl (unhide hu).kb (unhide hu).nb c (unhide hu).cw B _ n cap (by omega) _ (unhide lb)).mono ?_)
  rintro r v1 ⟨g1, rfl, _, hm, hg⟩
  refine ⟨_, rfl, ?_⟩
  have hBl := (unhide lb).len
  rw [hBl]
  replace hB := hB.more hg
  replace lb := hide ((unhide lb).gr hg)
  have lx : Hid (Lb v1 (some ⟨g1, 0, none⟩) n n (xl K N c B)) := kc_lb hm (by rw [xl_len, hBl]) (xl_isB _ _ _ _) (by omega)
  have hxx := xl_twice K N c B (unhide lb).isB
  clear hm hg
  generalize xl K N c B = X at *
  simp only [Act.put, List.setIfInBounds_toArray, List.set_cons_zero, List.set_cons_succ, List.getElem_toArray, List.getElem_cons_zero, List.getElem_cons_succ]
  (refine wpList_step fun K hK => ?_; replace hK := hide hK; go_simp; refine unhide hK _ _ ?_; clear hK K)
  refine wpList_nil ?_
  replace hB := hide hB
  go_upto_region 5 with fail
  replace hB := unhide hB
  refine wp_region_lit ?_
  refine list_val (.slice (some ⟨g1, 0, none⟩) n n) (by kernel_rfl) (by kernel_rfl) ?_
  simp only [Act.put, List.setIfInBounds_toArray, List.set_cons_zero, List.set_cons_succ, List.getElem_toArray, List.getElem_cons_zero, List.getElem_cons_succ]
  refine list_val (.int .i64 n) (by kernel_rfl) (by kernel_rfl) ?_
  simp only [Act.put, List.setIfInBounds_toArray, List.set_cons_zero, List.set_cons_succ, List.getElem_toArray, List.getElem_cons_zero, List.getElem_cons_succ]
  refine list_val (.slice s1 n cap) (by kernel_rfl) (by kernel_rfl) ?_
  simp only [Act.put, List.setIfInBounds_toArray, List.set_cons_zero, List.set_cons_succ, List.getElem_toArray, List.getElem_cons_zero, List.getElem_cons_succ]
  refine list_val (.int .i64 n) (by kernel_rfl) (by kernel_rfl) ?_
  simp only [Act.put, List.setIfInBounds_toArray, List.set_cons_zero, List.set_cons_succ, List.getElem_toArray, List.getElem_cons_zero, List.getElem_cons_succ]
  refine list_val (.bool true) (by kernel_rfl) (by go_simp) ?_
  simp only [Act.put, List.setIfInBounds_toArray, List.set_cons_zero, List.set_cons_succ, List.getElem_toArray, List.getElem_cons_zero, List.getElem_cons_succ]
  refine list_val (.bool true) (by kernel_rfl) (by kernel_rfl) ?_
  simp only [Act.put, List.setIfInBounds_toArray, List.set_cons_zero, List.set_cons_succ, List.getElem_toArray, List.getElem_cons_zero, List.getElem_cons_succ]
  refine list_val (.pointer (some ⟨w.heap.size, 0, none⟩)) (by kernel_rfl) (by kernel_rfl) ?_
  simp only [Act.put, List.setIfInBounds_toArray, List.set_cons_zero, List.set_cons_succ, List.getElem_toArray, List.getElem_cons_zero, List.getElem_cons_succ]
  refine list_val (.agg (kc K)) (by kernel_rfl) (exec_key _ (.tmp 27) rfl w.heap.size (by kernel_rfl) K N c (unhide hu) (hB.get 0 (x := ⟨w.heap.size, usd K c N, 28⟩) rfl)) ?_
  simp only [Act.put, List.setIfInBounds_toArray, List.set_cons_zero, List.set_cons_succ, List.getElem_toArray, List.getElem_cons_zero, List.getElem_cons_succ]
  refine list_val (.pointer (some ⟨w.heap.size, 32, none⟩)) (by kernel_rfl) (by kernel_rfl) ?_
  simp only [Act.put, List.setIfInBounds_toArray, List.set_cons_zero, List.set_cons_succ, List.getElem_toArray, List.getElem_cons_zero, List.getElem_cons_succ]
  refine list_val (.int .u32 c) (by kernel_rfl) (by have c0 := usd_count (unhide hu).kl (hB.get 0 (x := ⟨w.heap.size, usd K c N, 28⟩) rfl); go_simp) ?_
  simp only [Act.put, List.setIfInBounds_toArray, List.set_cons_zero, List.set_cons_succ, List.getElem_toArray, List.getElem_cons_zero, List.getElem_cons_succ]
  refine list_val (.pointer (some ⟨w.heap.size, 33, none⟩)) (by kernel_rfl) (by kernel_rfl) ?_
  simp only [Act.put, List.setIfInBounds_toArray, List.set_cons_zero, List.set_cons_succ, List.getElem_toArray, List.getElem_cons_zero, List.getElem_cons_succ]
  refine list_val (.agg (kc N)) (by kernel_rfl) (exec_nonce _ (.tmp 31) rfl w.heap.size (by kernel_rfl) K N c (unhide hu) (hB.get 0 (x := ⟨w.heap.size, usd K c N, 28⟩) rfl)) ?_
  simp only [Act.put, List.setIfInBounds_toArray, List.set_cons_zero, List.set_cons_succ, List.getElem_toArray, List.getElem_cons_zero, List.getElem_cons_succ]
  refine list_val (.slice (some ⟨g1, 0, none⟩) n n) (by kernel_rfl) (by kernel_rfl) ?_
  simp only [Act.put, List.setIfInBounds_toArray, List.set_cons_zero, List.set_cons_succ, List.getElem_toArray, List.getElem_cons_zero, List.getElem_cons_succ]
  refine list_call 13 #[.agg (kc K), .int .u32 c, .agg (kc N), .slice (some ⟨g1, 0, none⟩) n n] (by kernel_rfl) (by kernel_rfl) ((xor_ok K N (unhide hu).kl (unhide hu).nl (unhide hu).kb (unhide hu).nb c (unhide hu).cw X _ n n (by omega) _ (unhide lx)).mono ?_)
  rintro r v2 ⟨g2, rfl, _, hm, hg⟩
  refine ⟨_, rfl, ?_⟩
  have hXl := (unhide lx).len
  rw [hXl]
  replace hB := hB.more hg
  replace lb := hide ((unhide lb).gr hg)
  rw [hxx] at hm
  have ly : Hid (Lb v2 (some ⟨g2, 0, none⟩) n n B) := kc_lb hm hBl (unhide lb).isB (by omega)
  clear hm hg
  simp only [Act.put, List.setIfInBounds_toArray, List.set_cons_zero, List.set_cons_succ, List.getElem_toArray, List.getElem_cons_zero, List.getElem_cons_succ]
  refine list_val (.slice s1 n cap) (by kernel_rfl) (by kernel_rfl) ?_
  simp only [Act.put, List.setIfInBounds_toArray, List.set_cons_zero, List.set_cons_succ, List.getElem_toArray, List.getElem_cons_zero, List.getElem_cons_succ]
  refine list_call 14 #[.slice (some ⟨g2, 0, none⟩) n n, .slice s1 n cap] (by kernel_rfl) (by kernel_rfl) ((equal_same B _ _ n n cap hBl _ (unhide ly).sl (unhide lb).sl).mono ?_)
  rintro r v3 ⟨rfl, rfl⟩
  refine ⟨_, rfl, ?_⟩
  simp only [Act.put, List.setIfInBounds_toArray, List.set_cons_zero, List.set_cons_succ, List.getElem_toArray, List.getElem_cons_zero, List.getElem_cons_succ]
  refine list_val (.bool true) (by kernel_rfl) (by kernel_rfl) ?_
  simp only [Act.put, List.setIfInBounds_toArray, List.set_cons_zero, List.set_cons_succ, List.getElem_toArray, List.getElem_cons_zero, List.getElem_cons_succ]
  (refine wpList_step fun K hK => ?_; replace hK := hide hK; go_simp; refine unhide hK _ _ ?_; clear hK K)
  refine wpList_nil ?_
  replace hB := hide hB
  go_wp2_with fail
  replace hB := unhide hB
  rw [unhide hT]
  exact ⟨rfl, hB.gr⟩
end Go.Proofs.Ytcclcknggeeehaa
