/-
  Of a multiplier 0, and of no bytes, the code is the addend: the walk.
-/
import Derived.Test.YtgjejgaendlkjaaPolyWk
namespace Go.Proofs.Ytgjejgaendlkjaa
open Go.RowKit
set_option maxRecDepth 100000
set_option linter.unusedSimpArgs false
set_option linter.unusedVariables false
theorem list_ext {A B : List Int} (hl : A.length = B.length) (h : ∀ i, i < A.length → A.getD i 0 = B.getD i 0) : A = B := by
  apply List.ext_getElem hl
  intro i h1 h2
  have := h i h1
  simpa [List.getD_eq_getElem?_getD, List.getElem?_eq_getElem h1, List.getElem?_eq_getElem h2] using this
/-- bytes are those of their number -/
theorem tg_num (L : List Int) (hl : L.length = 16) (hb : IsB L) : tgL (V (nb L)) = L := by
  refine list_ext (by rw [tgL_len, hl]) fun i hi => ?_
  rw [tgL_len] at hi
  have h1 := V_digit (nb L) (nb_allB L hb) i
  have h2 := nb_get L hb i
  unfold tgL
  rw [List.getD_eq_getElem?_getD, List.getElem?_map, List.getElem?_range hi]
  show ((V (nb L) / 256 ^ i % 256 : Nat) : Int) = L.getD i 0
  rw [← h1, h2]
theorem mc_none (K : List Int) (hK : K.length = 32) (hb : IsB K) : mcL K [] = K.drop 16 := by
  unfold mcL mcN
  rw [show nk ([] : List Int).length = 0 from rfl, acN, Nat.zero_add]
  exact tg_num _ (by rw [List.length_drop, hK]) (hb.drop 16)
theorem ac_zero (B : List Int) : ∀ k, acN 0 B k = 0
  | 0 => rfl
  | k + 1 => by rw [acN, Nat.mul_zero]; exact Nat.zero_mod _
/-- the key with noughts ahead -/
def zk (K : List Int) : List Int := fil (fun _ => 0) 16 K
theorem zk_len (K : List Int) (hK : K.length = 32) : (zk K).length = 32 := by unfold zk; rw [fil_len _ _ _ (by omega), hK]
theorem zk_isB (K : List Int) (hb : IsB K) : IsB (zk K) := fun x hx => by
  unfold zk fil at hx
  rcases List.mem_append.1 hx with h | h
  · obtain ⟨_, _, rfl⟩ := List.mem_map.1 h
    omega
  · exact hb x (List.mem_of_mem_drop h)
theorem mc_zero (K B : List Int) (hK : K.length = 32) (hb : IsB K) : mcL (zk K) B = K.drop 16 := by
  have h1 : clL (zk K) = List.replicate 16 0 := by
    refine list_ext (by rw [clL_len]; rfl) fun i hi => ?_
    rw [clL_len] at hi
    unfold clL
    rw [List.getD_eq_getElem?_getD, List.getElem?_map, List.getElem?_range hi]
    show cl i ((zk K).getD i 0) = _
    unfold zk
    rw [fil_lo _ _ _ _ hi, show (List.replicate 16 (0 : Int)).getD i 0 = 0 from by rw [List.getD_eq_getElem?_getD, List.getElem?_replicate, if_pos hi]; rfl]
    unfold cl
    split
    · rfl
    · split <;> rfl
  have h2 : V (nb (clL (zk K))) = 0 := by rw [h1]; rfl
  have h3 : (zk K).drop 16 = K.drop 16 := by
    unfold zk fil
    rw [List.drop_append_of_le_length (by simp), List.drop_of_length_le (by simp), List.nil_append]
  unfold mcL mcN
  rw [h2, ac_zero, h3, Nat.zero_add]
  exact tg_num _ (by rw [List.length_drop, hK]) (hb.drop 16)
theorem range_tail {w : World} {g : Nat} {K : List Int} {t : TypeId} (h : w.heap[g]? = some (.cells (kc K) t (0, 0))) : w.rangeAt g 16 ((K.drop 16).map (Value.int .u8)) := fun j v hj => by
  refine cell_of h ?_
  have hj2 : ((K.map (Value.int .u8)).drop 16)[j]? = some v := by rw [List.map_drop] at hj; exact hj
  rw [List.getElem?_drop] at hj2
  unfold kc
  rw [List.getElem?_toArray]
  exact hj2
theorem Lb.nil (w : World) : Lb w none 0 0 [] := ⟨rfl, (by intro x hx; cases hx), .inl rfl, by omega, by omega⟩
set_option maxHeartbeats 4000000 in
theorem addend_ok (K : List Int) (hK : K.length = 32) (hKb : IsB K) (B : List Int) (s : Option Addr) (n cap : Nat) (w : World) (lb : Lb w s n cap B) : Calls Try.prog 6 #[.agg (kc K), .slice s n cap] w (Woke w) := by
  obtain ⟨T, hT⟩ : ∃ T, T = Woke w := ⟨_, rfl⟩
  rw [← hT]
  replace hT := hide hT
  replace hKb := hide hKb
  have hn := hide lb.len
  replace lb := hide lb
  obtain ⟨SK, hSK⟩ : ∃ S, S = kc K := ⟨_, rfl⟩
  rw [← hSK]
  replace hSK := hide hSK
  go_enter Try.func6, Try.ntmps6
  go_upto_region 1 with fail
  have hB := (Bl.nil w).new SK 23
  simp only [List.nil_append] at hB
  generalize World.alloc _ _ = u at *
  rw [unhide hSK] at hB
  replace hB : Bl w [⟨w.heap.size, kc K, 23⟩] u := hB
  refine wp_region_lit ?_
  refine list_call 9 #[] (by kernel_rfl) (by kernel_rfl) ((wakes_ok _).mono ?_)
  rintro r v ⟨rfl, hg⟩
  refine ⟨_, rfl, ?_⟩
  replace hB := hB.more hg
  clear hg
  simp only [Act.put, List.setIfInBounds_toArray, List.set_cons_zero, List.set_cons_succ, List.getElem_toArray, List.getElem_cons_zero, List.getElem_cons_succ]
  refine list_val (.bool false) (by kernel_rfl) (by kernel_rfl) ?_
  simp only [Act.put, List.setIfInBounds_toArray, List.set_cons_zero, List.set_cons_succ, List.getElem_toArray, List.getElem_cons_zero, List.getElem_cons_succ]
  refine wpList_nil ?_
  replace hB := hide hB
  go_upto_region 3 with fail
  replace hB := unhide hB
  obtain ⟨S, hS⟩ : ∃ S, S = K.drop 16 := ⟨_, rfl⟩
  have hSl : S.length = 16 := by rw [hS, List.length_drop, hK]
  replace hS := hide hS
  refine wp_region_lit ?_
  refine list_val (.slice (some ⟨w.heap.size, 16, none⟩) 16 16) (by kernel_rfl) (by kernel_rfl) ?_
  simp only [Act.put, List.setIfInBounds_toArray, List.set_cons_zero, List.set_cons_succ, List.getElem_toArray, List.getElem_cons_zero, List.getElem_cons_succ]
  refine list_val (.pointer (some ⟨w.heap.size, 16, none⟩)) (by kernel_rfl) (by kernel_rfl) ?_
  simp only [Act.put, List.setIfInBounds_toArray, List.set_cons_zero, List.set_cons_succ, List.getElem_toArray, List.getElem_cons_zero, List.getElem_cons_succ]
  refine list_val (.agg (kc S)) (by kernel_rfl) (by rw [unhide hS]; exact exec_row _ 27 (.tmp 11) rfl w.heap.size 16 (by kernel_rfl) ((K.drop 16).map (Value.int .u8)) _ (range_tail (hB.get 0 (x := ⟨w.heap.size, kc K, 23⟩) rfl)) Try.underlying27 rfl (by rw [Try.infoT, List.length_map, List.length_drop, hK])) ?_
  simp only [Act.put, List.setIfInBounds_toArray, List.set_cons_zero, List.set_cons_succ, List.getElem_toArray, List.getElem_cons_zero, List.getElem_cons_succ]
  replace hB := hide hB
  (refine wpList_step fun K hK => ?_; replace hK := hide hK; go_simp; refine unhide hK _ _ ?_; clear hK K)
  replace hB := (unhide hB).new #[.int .u8 0, .int .u8 0, .int .u8 0, .int .u8 0, .int .u8 0, .int .u8 0, .int .u8 0, .int .u8 0, .int .u8 0, .int .u8 0, .int .u8 0, .int .u8 0, .int .u8 0, .int .u8 0, .int .u8 0, .int .u8 0] 27
  simp only [List.nil_append, List.cons_append] at hB
  generalize World.alloc _ _ = v1 at *
  generalize v.heap.size = h5 at *
  replace hB : Bl w [⟨w.heap.size, kc K, 23⟩, ⟨h5, kc ZT, 27⟩] v1 := hB
  refine list_store 27 (.tmp 5) (.tmp 12) (h5) (kc S) 27 (kc ZT) (by kernel_rfl) rfl (by kernel_rfl) (by kernel_rfl) (hB.get 1 (x := ⟨h5, kc ZT, 27⟩) rfl) (by rw [Try.infoT, kc_size, hSl]) ((show (kc ZT).size = 16 from rfl).trans ((kc_size _).trans hSl).symm) (kc_one _) ?_
  replace hB := hB.set 1 (x := ⟨h5, kc ZT, 27⟩) rfl (kc S)
  simp only [List.set_cons_zero, List.set_cons_succ] at hB
  generalize World.setRow _ _ _ = v2 at *
  simp only [Act.put, List.setIfInBounds_toArray, List.set_cons_zero, List.set_cons_succ, List.getElem_toArray, List.getElem_cons_zero, List.getElem_cons_succ]
  refine wpList_nil ?_
  replace hB := hide hB
  go_upto_region 4 with fail
  replace hB := unhide hB
  refine wp_region_lit ?_
  refine list_val (.agg (kc K)) (by kernel_rfl) (exec_arr _ 23 (.tmp 2) rfl (w.heap.size) (by kernel_rfl) (kc K) 23 _ (hB.get 0 (x := ⟨w.heap.size, kc K, 23⟩) rfl) Try.underlying23 rfl (by rw [Try.infoKey, kc_size, hK])) ?_
  simp only [Act.put, List.setIfInBounds_toArray, List.set_cons_zero, List.set_cons_succ, List.getElem_toArray, List.getElem_cons_zero, List.getElem_cons_succ]
  replace hB := hide hB
  (refine wpList_step fun K hK => ?_; replace hK := hide hK; go_simp; refine unhide hK _ _ ?_; clear hK K)
  replace hB := (unhide hB).new #[.int .u8 0, .int .u8 0, .int .u8 0, .int .u8 0, .int .u8 0, .int .u8 0, .int .u8 0, .int .u8 0, .int .u8 0, .int .u8 0, .int .u8 0, .int .u8 0, .int .u8 0, .int .u8 0, .int .u8 0, .int .u8 0, .int .u8 0, .int .u8 0, .int .u8 0, .int .u8 0, .int .u8 0, .int .u8 0, .int .u8 0, .int .u8 0, .int .u8 0, .int .u8 0, .int .u8 0, .int .u8 0, .int .u8 0, .int .u8 0, .int .u8 0, .int .u8 0] 23
  simp only [List.nil_append, List.cons_append] at hB
  generalize World.alloc _ _ = v3 at *
  generalize v2.heap.size = h6 at *
  replace hB : Bl w [⟨w.heap.size, kc K, 23⟩, ⟨h5, kc S, 27⟩, ⟨h6, kc (List.replicate 32 0), 23⟩] v3 := hB
  refine list_store 23 (.tmp 6) (.tmp 13) (h6) (kc K) 23 (kc (List.replicate 32 0)) (by kernel_rfl) rfl (by kernel_rfl) (by kernel_rfl) (hB.get 2 (x := ⟨h6, kc (List.replicate 32 0), 23⟩) rfl) (by rw [Try.infoKey, kc_size, hK]) ((show (kc (List.replicate 32 0)).size = 32 from rfl).trans ((kc_size _).trans hK).symm) (kc_one _) ?_
  replace hB := hB.set 2 (x := ⟨h6, kc (List.replicate 32 0), 23⟩) rfl (kc K)
  simp only [List.set_cons_zero, List.set_cons_succ] at hB
  generalize World.setRow _ _ _ = v4 at *
  simp only [Act.put, List.setIfInBounds_toArray, List.set_cons_zero, List.set_cons_succ, List.getElem_toArray, List.getElem_cons_zero, List.getElem_cons_succ]
  refine wpList_nil ?_
  replace hB := hide hB
  go_wp2_with fail
  go_loopw [14] (fun i wr => ∃ i' : Nat, ∃ m : List Int, i' ≤ 16 ∧ i = .int .i64 i' ∧ Hid (m = fil (fun _ => 0) i' K) ∧ Hid (Bl w [⟨w.heap.size, kc K, 23⟩, ⟨h5, kc S, 27⟩, ⟨h6, kc m, 23⟩] wr)) (fun i _ => 16 - (intOf i).toNat)
  case atStart => exact ⟨0, K, by omega, rfl, (fil_zero _ _).symm, hB⟩
  case round =>
  clear hB
  obtain ⟨i, m, hi, rfl, hm, hB⟩ := hrel
  have hml : m.length = 32 := by rw [unhide hm, fil_len _ _ _ (by omega)]; exact hK
  by_cases hil : i < 16
  · have c1 := kc_cell ((unhide hB).get 2 (x := ⟨h6, kc m, 23⟩) rfl) i (by omega)
    have f1 := froz_of (i := i) ((unhide hB).get 2 (x := ⟨h6, kc m, 23⟩) rfl)
    generalize m.getD i 0 = z at c1
    have hB2 := (unhide hB).cell 2 (x := ⟨h6, kc m, 23⟩) rfl i (.int .u8 0)
    simp only [List.set_cons_zero, List.set_cons_succ, kc_set] at hB2
    have hm2 : Hid (m.set i 0 = fil (fun _ => 0) (i + 1) K) := by
      rw [unhide hm]
      exact fil_set (fun _ => 0) _ _ (by omega)
    have iI : (i : Int) < 16 := by omega
    have iJ : (i : Int) < 32 := by omega
    have iN : i < 32 := by omega
    replace hB2 := hide hB2
    go_wp2_with fail
    go_roundw
    case rel => exact ⟨i + 1, _, by omega, by go_num, hm2, hB2⟩
    case measure => simp [intOf]; omega
  have e : i = 16 := by omega
  subst e
  have hmz : Hid (m = zk K) := hm
  have hmb : Hid (IsB m) := by rw [unhide hmz]; exact zk_isB K (unhide hKb)
  have hc1 : Hid (mcL K [] = S) := by rw [mc_none K hK (unhide hKb), unhide hS]; exact rfl
  have hc2 : Hid (mcL m B = S) := by rw [unhide hmz, mc_zero K B hK (unhide hKb), unhide hS]; exact rfl
  clear hm hi hil
  go_upto_region 10 with fail
  replace hB := unhide hB
  rcases Nat.lt_or_ge 16384 n with hbn | hbn
  · have hI : (16384 : Int) < (n : Int) := by omega
    refine any_start (S := fun v => Bl w [⟨w.heap.size, kc K, 23⟩, ⟨h5, kc S, 27⟩, ⟨h6, kc m, 23⟩] v) (by kernel_rfl) ?_
    replace hB := hB.drew
    generalize World.drew _ = v0 at *
    simp only [List.size_toArray, List.length_cons, List.length_nil, Array.replicate, List.replicate]
    refine any_take (i := 0) (v := (.agg (kc K))) #[false, false, false, false, false, false, false, false, false, false, false, false, false, false, false, false, false] rfl (by kernel_rfl) (by kernel_rfl) (by kernel_rfl) (by kernel_rfl) (fun _ _ _ h => h) (.inl ⟨by kernel_rfl, fun x_ hu => exec_arr _ 23 (.tmp 2) rfl (w.heap.size) (by kernel_rfl) (kc K) 23 _ (hu.get 0 (x := ⟨w.heap.size, kc K, 23⟩) rfl) Try.underlying23 rfl (by rw [Try.infoKey, kc_size, hK])⟩) hB ?_
    simp only [Act.put, List.setIfInBounds_toArray, List.set_cons_zero, List.set_cons_succ, List.getElem_toArray, List.getElem_cons_zero, List.getElem_cons_succ]
    refine any_take (i := 2) (v := (.agg (kc S))) #[true, false, false, false, false, false, false, false, false, false, false, false, false, false, false, false, false] rfl (by kernel_rfl) (by kernel_rfl) (by kernel_rfl) (by kernel_rfl) (fun _ _ _ h => h) (.inl ⟨by kernel_rfl, fun x_ hu => exec_arr _ 27 (.tmp 5) rfl (h5) (by kernel_rfl) (kc S) 27 _ (hu.get 1 (x := ⟨h5, kc S, 27⟩) rfl) Try.underlying27 rfl (by rw [Try.infoT, kc_size, hSl])⟩) hB ?_
    simp only [Act.put, List.setIfInBounds_toArray, List.set_cons_zero, List.set_cons_succ, List.getElem_toArray, List.getElem_cons_zero, List.getElem_cons_succ]
    refine any_one (i := 1) (by kernel_rfl) rfl (fun K_ hQ => ?_)
    refine step_callw (by kernel_rfl) 10 #[.agg (kc K), .slice none 0 0] (by kernel_rfl) ((mac_ok K hK (unhide hKb) [] none 0 0 (by omega) _ (Lb.nil _)).mono ?_)
    rintro r u1 ⟨rfl, hg⟩
    refine ⟨_, rfl, ?_⟩
    replace hB := hB.more hg
    clear hg
    rw [unhide hc1]
    refine hQ.out _ _ hB (fun _ => ?_)
    clear hQ K_
    simp only [Act.put, List.setIfInBounds_toArray, List.set_cons_zero, List.set_cons_succ, List.getElem_toArray, List.getElem_cons_zero, List.getElem_cons_succ]
    refine any_take (i := 3) (v := (.bool true)) #[true, true, true, false, false, false, false, false, false, false, false, false, false, false, false, false, false] rfl (by kernel_rfl) (by kernel_rfl) (by kernel_rfl) (by kernel_rfl) (fun _ _ _ h => h) (.inl ⟨by kernel_rfl, fun x_ hu => by have e := refl_T S hSl; go_simp⟩) hB ?_
    simp only [Act.put, List.setIfInBounds_toArray, List.set_cons_zero, List.set_cons_succ, List.getElem_toArray, List.getElem_cons_zero, List.getElem_cons_succ]
    refine any_take (i := 4) (v := (.bool true)) #[true, true, true, true, false, false, false, false, false, false, false, false, false, false, false, false, false] rfl (by kernel_rfl) (by kernel_rfl) (by kernel_rfl) (by kernel_rfl) (fun _ _ _ h => h) (.inl ⟨by kernel_rfl, fun x_ hu => by kernel_rfl⟩) hB ?_
    simp only [Act.put, List.setIfInBounds_toArray, List.set_cons_zero, List.set_cons_succ, List.getElem_toArray, List.getElem_cons_zero, List.getElem_cons_succ]
    refine any_take (i := 5) (v := (.slice s n cap)) #[true, true, true, true, true, false, false, false, false, false, false, false, false, false, false, false, false] rfl (by kernel_rfl) (by kernel_rfl) (by kernel_rfl) (by kernel_rfl) (fun _ _ _ h => h) (.inl ⟨by kernel_rfl, fun x_ hu => by kernel_rfl⟩) hB ?_
    simp only [Act.put, List.setIfInBounds_toArray, List.set_cons_zero, List.set_cons_succ, List.getElem_toArray, List.getElem_cons_zero, List.getElem_cons_succ]
    refine any_take (i := 6) (v := (.int .i64 n)) #[true, true, true, true, true, true, false, false, false, false, false, false, false, false, false, false, false] rfl (by kernel_rfl) (by kernel_rfl) (by kernel_rfl) (by kernel_rfl) (fun _ _ _ h => h) (.inl ⟨by kernel_rfl, fun x_ hu => by kernel_rfl⟩) hB ?_
    simp only [Act.put, List.setIfInBounds_toArray, List.set_cons_zero, List.set_cons_succ, List.getElem_toArray, List.getElem_cons_zero, List.getElem_cons_succ]
    refine any_take (i := 7) (v := (.bool true)) #[true, true, true, true, true, true, true, false, false, false, false, false, false, false, false, false, false] rfl (by kernel_rfl) (by kernel_rfl) (by kernel_rfl) (by kernel_rfl) (fun _ _ _ h => h) (.inl ⟨by kernel_rfl, fun x_ hu => by go_simp⟩) hB ?_
    simp only [Act.put, List.setIfInBounds_toArray, List.set_cons_zero, List.set_cons_succ, List.getElem_toArray, List.getElem_cons_zero, List.getElem_cons_succ]
    refine any_take (i := 8) (v := (.bool true)) #[true, true, true, true, true, true, true, true, false, false, false, false, false, false, false, false, false] rfl (by kernel_rfl) (by kernel_rfl) (by kernel_rfl) (by kernel_rfl) (fun _ _ _ h => h) (.inl ⟨by kernel_rfl, fun x_ hu => by kernel_rfl⟩) hB ?_
    simp only [Act.put, List.setIfInBounds_toArray, List.set_cons_zero, List.set_cons_succ, List.getElem_toArray, List.getElem_cons_zero, List.getElem_cons_succ]
    refine any_take (i := 9) (v := undef) #[true, true, true, true, true, true, true, true, true, false, false, false, false, false, false, false, false] rfl (by kernel_rfl) (by kernel_rfl) (by kernel_rfl) (by kernel_rfl) (fun _ _ _ h => h) (.inr ⟨by kernel_rfl, rfl⟩) hB ?_
    simp only [Act.put, List.setIfInBounds_toArray, List.set_cons_zero, List.set_cons_succ, List.getElem_toArray, List.getElem_cons_zero, List.getElem_cons_succ]
    refine any_take (i := 10) (v := undef) #[true, true, true, true, true, true, true, true, true, true, false, false, false, false, false, false, false] rfl (by kernel_rfl) (by kernel_rfl) (by kernel_rfl) (by kernel_rfl) (fun _ _ _ h => h) (.inr ⟨by kernel_rfl, rfl⟩) hB ?_
    simp only [Act.put, List.setIfInBounds_toArray, List.set_cons_zero, List.set_cons_succ, List.getElem_toArray, List.getElem_cons_zero, List.getElem_cons_succ]
    refine any_take (i := 11) (v := undef) #[true, true, true, true, true, true, true, true, true, true, true, false, false, false, false, false, false] rfl (by kernel_rfl) (by kernel_rfl) (by kernel_rfl) (by kernel_rfl) (fun _ _ _ h => h) (.inr ⟨by kernel_rfl, rfl⟩) hB ?_
    simp only [Act.put, List.setIfInBounds_toArray, List.set_cons_zero, List.set_cons_succ, List.getElem_toArray, List.getElem_cons_zero, List.getElem_cons_succ]
    refine any_take (i := 12) (v := undef) #[true, true, true, true, true, true, true, true, true, true, true, true, false, false, false, false, false] rfl (by kernel_rfl) (by kernel_rfl) (by kernel_rfl) (by kernel_rfl) (fun _ _ _ h => h) (.inr ⟨by kernel_rfl, rfl⟩) hB ?_
    simp only [Act.put, List.setIfInBounds_toArray, List.set_cons_zero, List.set_cons_succ, List.getElem_toArray, List.getElem_cons_zero, List.getElem_cons_succ]
    refine any_take (i := 13) (v := undef) #[true, true, true, true, true, true, true, true, true, true, true, true, true, false, false, false, false] rfl (by kernel_rfl) (by kernel_rfl) (by kernel_rfl) (by kernel_rfl) (fun _ _ _ h => h) (.inr ⟨by kernel_rfl, rfl⟩) hB ?_
    simp only [Act.put, List.setIfInBounds_toArray, List.set_cons_zero, List.set_cons_succ, List.getElem_toArray, List.getElem_cons_zero, List.getElem_cons_succ]
    refine any_take (i := 14) (v := (.bool true)) #[true, true, true, true, true, true, true, true, true, true, true, true, true, true, false, false, false] rfl (by kernel_rfl) (by kernel_rfl) (by kernel_rfl) (by kernel_rfl) (fun _ _ _ h => h) (.inl ⟨by kernel_rfl, fun x_ hu => by kernel_rfl⟩) hB ?_
    simp only [Act.put, List.setIfInBounds_toArray, List.set_cons_zero, List.set_cons_succ, List.getElem_toArray, List.getElem_cons_zero, List.getElem_cons_succ]
    refine any_take (i := 15) (v := (.bool true)) #[true, true, true, true, true, true, true, true, true, true, true, true, true, true, true, false, false] rfl (by kernel_rfl) (by kernel_rfl) (by kernel_rfl) (by kernel_rfl) (fun _ _ _ h => h) (.inl ⟨by kernel_rfl, fun x_ hu => by kernel_rfl⟩) hB ?_
    simp only [Act.put, List.setIfInBounds_toArray, List.set_cons_zero, List.set_cons_succ, List.getElem_toArray, List.getElem_cons_zero, List.getElem_cons_succ]
    refine any_one (i := 16) (by kernel_rfl) rfl (fun K_ hQ => ?_)
    replace hQ := hide hQ
    go_simp
    refine (unhide hQ).out _ _ hB (fun _ => ?_)
    clear hQ K_
    refine any_done (by kernel_rfl) ?_
    replace hB := hide hB
    go_wp2_with fail
    replace hB := unhide hB
    rw [unhide hT]
    exact ⟨rfl, hB.gr⟩
  · have hI : ¬ (16384 : Int) < (n : Int) := by omega
    refine any_start (S := fun v => Bl w [⟨w.heap.size, kc K, 23⟩, ⟨h5, kc S, 27⟩, ⟨h6, kc m, 23⟩] v) (by kernel_rfl) ?_
    replace hB := hB.drew
    generalize World.drew _ = v0 at *
    simp only [List.size_toArray, List.length_cons, List.length_nil, Array.replicate, List.replicate]
    refine any_take (i := 0) (v := (.agg (kc K))) #[false, false, false, false, false, false, false, false, false, false, false, false, false, false, false, false, false] rfl (by kernel_rfl) (by kernel_rfl) (by kernel_rfl) (by kernel_rfl) (fun _ _ _ h => h) (.inl ⟨by kernel_rfl, fun x_ hu => exec_arr _ 23 (.tmp 2) rfl (w.heap.size) (by kernel_rfl) (kc K) 23 _ (hu.get 0 (x := ⟨w.heap.size, kc K, 23⟩) rfl) Try.underlying23 rfl (by rw [Try.infoKey, kc_size, hK])⟩) hB ?_
    simp only [Act.put, List.setIfInBounds_toArray, List.set_cons_zero, List.set_cons_succ, List.getElem_toArray, List.getElem_cons_zero, List.getElem_cons_succ]
    refine any_take (i := 2) (v := (.agg (kc S))) #[true, false, false, false, false, false, false, false, false, false, false, false, false, false, false, false, false] rfl (by kernel_rfl) (by kernel_rfl) (by kernel_rfl) (by kernel_rfl) (fun _ _ _ h => h) (.inl ⟨by kernel_rfl, fun x_ hu => exec_arr _ 27 (.tmp 5) rfl (h5) (by kernel_rfl) (kc S) 27 _ (hu.get 1 (x := ⟨h5, kc S, 27⟩) rfl) Try.underlying27 rfl (by rw [Try.infoT, kc_size, hSl])⟩) hB ?_
    simp only [Act.put, List.setIfInBounds_toArray, List.set_cons_zero, List.set_cons_succ, List.getElem_toArray, List.getElem_cons_zero, List.getElem_cons_succ]
    refine any_one (i := 1) (by kernel_rfl) rfl (fun K_ hQ => ?_)
    refine step_callw (by kernel_rfl) 10 #[.agg (kc K), .slice none 0 0] (by kernel_rfl) ((mac_ok K hK (unhide hKb) [] none 0 0 (by omega) _ (Lb.nil _)).mono ?_)
    rintro r u1 ⟨rfl, hg⟩
    refine ⟨_, rfl, ?_⟩
    replace hB := hB.more hg
    clear hg
    rw [unhide hc1]
    refine hQ.out _ _ hB (fun _ => ?_)
    clear hQ K_
    simp only [Act.put, List.setIfInBounds_toArray, List.set_cons_zero, List.set_cons_succ, List.getElem_toArray, List.getElem_cons_zero, List.getElem_cons_succ]
    refine any_take (i := 3) (v := (.bool true)) #[true, true, true, false, false, false, false, false, false, false, false, false, false, false, false, false, false] rfl (by kernel_rfl) (by kernel_rfl) (by kernel_rfl) (by kernel_rfl) (fun _ _ _ h => h) (.inl ⟨by kernel_rfl, fun x_ hu => by have e := refl_T S hSl; go_simp⟩) hB ?_
    simp only [Act.put, List.setIfInBounds_toArray, List.set_cons_zero, List.set_cons_succ, List.getElem_toArray, List.getElem_cons_zero, List.getElem_cons_succ]
    refine any_take (i := 4) (v := (.bool true)) #[true, true, true, true, false, false, false, false, false, false, false, false, false, false, false, false, false] rfl (by kernel_rfl) (by kernel_rfl) (by kernel_rfl) (by kernel_rfl) (fun _ _ _ h => h) (.inl ⟨by kernel_rfl, fun x_ hu => by kernel_rfl⟩) hB ?_
    simp only [Act.put, List.setIfInBounds_toArray, List.set_cons_zero, List.set_cons_succ, List.getElem_toArray, List.getElem_cons_zero, List.getElem_cons_succ]
    refine any_take (i := 5) (v := (.slice s n cap)) #[true, true, true, true, true, false, false, false, false, false, false, false, false, false, false, false, false] rfl (by kernel_rfl) (by kernel_rfl) (by kernel_rfl) (by kernel_rfl) (fun _ _ _ h => h) (.inl ⟨by kernel_rfl, fun x_ hu => by kernel_rfl⟩) hB ?_
    simp only [Act.put, List.setIfInBounds_toArray, List.set_cons_zero, List.set_cons_succ, List.getElem_toArray, List.getElem_cons_zero, List.getElem_cons_succ]
    refine any_take (i := 6) (v := (.int .i64 n)) #[true, true, true, true, true, true, false, false, false, false, false, false, false, false, false, false, false] rfl (by kernel_rfl) (by kernel_rfl) (by kernel_rfl) (by kernel_rfl) (fun _ _ _ h => h) (.inl ⟨by kernel_rfl, fun x_ hu => by kernel_rfl⟩) hB ?_
    simp only [Act.put, List.setIfInBounds_toArray, List.set_cons_zero, List.set_cons_succ, List.getElem_toArray, List.getElem_cons_zero, List.getElem_cons_succ]
    refine any_take (i := 7) (v := (.bool false)) #[true, true, true, true, true, true, true, false, false, false, false, false, false, false, false, false, false] rfl (by kernel_rfl) (by kernel_rfl) (by kernel_rfl) (by kernel_rfl) (fun _ _ _ h => h) (.inl ⟨by kernel_rfl, fun x_ hu => by go_simp⟩) hB ?_
    simp only [Act.put, List.setIfInBounds_toArray, List.set_cons_zero, List.set_cons_succ, List.getElem_toArray, List.getElem_cons_zero, List.getElem_cons_succ]
    refine any_take (i := 8) (v := (.bool false)) #[true, true, true, true, true, true, true, true, false, false, false, false, false, false, false, false, false] rfl (by kernel_rfl) (by kernel_rfl) (by kernel_rfl) (by kernel_rfl) (fun _ _ _ h => h) (.inl ⟨by kernel_rfl, fun x_ hu => by kernel_rfl⟩) hB ?_
    simp only [Act.put, List.setIfInBounds_toArray, List.set_cons_zero, List.set_cons_succ, List.getElem_toArray, List.getElem_cons_zero, List.getElem_cons_succ]
    refine any_take (i := 9) (v := (.agg (kc m))) #[true, true, true, true, true, true, true, true, true, false, false, false, false, false, false, false, false] rfl (by kernel_rfl) (by kernel_rfl) (by kernel_rfl) (by kernel_rfl) (fun _ _ _ h => h) (.inl ⟨by kernel_rfl, fun x_ hu => exec_arr _ 23 (.tmp 6) rfl (h6) (by kernel_rfl) (kc m) 23 _ (hu.get 2 (x := ⟨h6, kc m, 23⟩) rfl) Try.underlying23 rfl (by rw [Try.infoKey, kc_size, hml])⟩) hB ?_
    simp only [Act.put, List.setIfInBounds_toArray, List.set_cons_zero, List.set_cons_succ, List.getElem_toArray, List.getElem_cons_zero, List.getElem_cons_succ]
    refine any_take (i := 10) (v := (.slice s n cap)) #[true, true, true, true, true, true, true, true, true, true, false, false, false, false, false, false, false] rfl (by kernel_rfl) (by kernel_rfl) (by kernel_rfl) (by kernel_rfl) (fun _ _ _ h => h) (.inl ⟨by kernel_rfl, fun x_ hu => by kernel_rfl⟩) hB ?_
    simp only [Act.put, List.setIfInBounds_toArray, List.set_cons_zero, List.set_cons_succ, List.getElem_toArray, List.getElem_cons_zero, List.getElem_cons_succ]
    refine any_take (i := 12) (v := (.agg (kc S))) #[true, true, true, true, true, true, true, true, true, true, true, false, false, false, false, false, false] rfl (by kernel_rfl) (by kernel_rfl) (by kernel_rfl) (by kernel_rfl) (fun _ _ _ h => h) (.inl ⟨by kernel_rfl, fun x_ hu => exec_arr _ 27 (.tmp 5) rfl (h5) (by kernel_rfl) (kc S) 27 _ (hu.get 1 (x := ⟨h5, kc S, 27⟩) rfl) Try.underlying27 rfl (by rw [Try.infoT, kc_size, hSl])⟩) hB ?_
    simp only [Act.put, List.setIfInBounds_toArray, List.set_cons_zero, List.set_cons_succ, List.getElem_toArray, List.getElem_cons_zero, List.getElem_cons_succ]
    refine any_one (i := 11) (by kernel_rfl) rfl (fun K_ hQ => ?_)
    refine step_callw (by kernel_rfl) 10 #[.agg (kc m), .slice s n cap] (by kernel_rfl) ((mac_ok m hml (unhide hmb) B s n cap (by omega) _ ((unhide lb).gr hB.gr)).mono ?_)
    rintro r u2 ⟨rfl, hg⟩
    refine ⟨_, rfl, ?_⟩
    replace hB := hB.more hg
    clear hg
    rw [unhide hc2]
    refine hQ.out _ _ hB (fun _ => ?_)
    clear hQ K_
    simp only [Act.put, List.setIfInBounds_toArray, List.set_cons_zero, List.set_cons_succ, List.getElem_toArray, List.getElem_cons_zero, List.getElem_cons_succ]
    refine any_take (i := 13) (v := (.bool true)) #[true, true, true, true, true, true, true, true, true, true, true, true, true, false, false, false, false] rfl (by kernel_rfl) (by kernel_rfl) (by kernel_rfl) (by kernel_rfl) (fun _ _ _ h => h) (.inl ⟨by kernel_rfl, fun x_ hu => by have e := refl_T S hSl; go_simp⟩) hB ?_
    simp only [Act.put, List.setIfInBounds_toArray, List.set_cons_zero, List.set_cons_succ, List.getElem_toArray, List.getElem_cons_zero, List.getElem_cons_succ]
    refine any_take (i := 14) (v := (.bool true)) #[true, true, true, true, true, true, true, true, true, true, true, true, true, true, false, false, false] rfl (by kernel_rfl) (by kernel_rfl) (by kernel_rfl) (by kernel_rfl) (fun _ _ _ h => h) (.inl ⟨by kernel_rfl, fun x_ hu => by kernel_rfl⟩) hB ?_
    simp only [Act.put, List.setIfInBounds_toArray, List.set_cons_zero, List.set_cons_succ, List.getElem_toArray, List.getElem_cons_zero, List.getElem_cons_succ]
    refine any_take (i := 15) (v := (.bool true)) #[true, true, true, true, true, true, true, true, true, true, true, true, true, true, true, false, false] rfl (by kernel_rfl) (by kernel_rfl) (by kernel_rfl) (by kernel_rfl) (fun _ _ _ h => h) (.inl ⟨by kernel_rfl, fun x_ hu => by kernel_rfl⟩) hB ?_
    simp only [Act.put, List.setIfInBounds_toArray, List.set_cons_zero, List.set_cons_succ, List.getElem_toArray, List.getElem_cons_zero, List.getElem_cons_succ]
    refine any_one (i := 16) (by kernel_rfl) rfl (fun K_ hQ => ?_)
    replace hQ := hide hQ
    go_simp
    refine (unhide hQ).out _ _ hB (fun _ => ?_)
    clear hQ K_
    refine any_done (by kernel_rfl) ?_
    replace hB := hide hB
    go_wp2_with fail
    replace hB := unhide hB
    rw [unhide hT]
    exact ⟨rfl, hB.gr⟩
end Go.Proofs.Ytgjejgaendlkjaa
