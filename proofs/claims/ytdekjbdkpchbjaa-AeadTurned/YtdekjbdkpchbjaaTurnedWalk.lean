/-
  With another tag nothing is opened, whichever of its bytes is turned: the walk.
-/
import Derived.Test.YtdekjbdkpchbjaaAeO
namespace Go.Proofs.Ytdekjbdkpchbjaa
open Go.RowKit
set_option maxRecDepth 100000
set_option linter.unusedSimpArgs false
set_option linter.unusedVariables false
theorem xb_none (x : Int) (hx : 0 ≤ x ∧ x < 256) : xb x 0 = x := by
  obtain ⟨X, rfl⟩ := Int.eq_ofNat_of_zero_le hx.1
  unfold xb
  have h := u8_xor_nat X 0 (by omega) (by omega)
  rw [Nat.xor_zero] at h
  exact h
theorem xb_same (x y : Int) (hx : 0 ≤ x ∧ x < 256) (hy : 0 ≤ y ∧ y < 256) (h : xb x y = x) : y = 0 := by
  obtain ⟨X, rfl⟩ := Int.eq_ofNat_of_zero_le hx.1
  obtain ⟨Y, rfl⟩ := Int.eq_ofNat_of_zero_le hy.1
  unfold xb at h
  rw [u8_xor_nat X Y (by omega) (by omega)] at h
  have h1 : X ^^^ Y = X := by omega
  have h2 : X ^^^ (X ^^^ Y) = X ^^^ X := by rw [h1]
  rw [← Nat.xor_assoc, Nat.xor_self, Nat.zero_xor] at h2
  omega
/-- a byte is stored -/
theorem store_u8 {o : Oper} {a : Act} {w : World} {K : Act → World → Prop} {Q : Exit → Act → World → Prop} (x y : Operand) (ho : o.op = .store 5 x y) (g i : Nat) (hx : a.eval x = .pointer (some ⟨g, i, none⟩)) (v : Int) (hy : a.eval y = .int .u8 v) (old : Value) (hc : w.cell? ⟨g, i, none⟩ = some old) (hf : w.frozen? ⟨g, i, none⟩ = false)
    (h : K (a.put o.dst undef) (w.setCell ⟨g, i, none⟩ (.int .u8 v))) : o.wp Try.prog a w K Q := by
  unfold Oper.wp
  unfold execOp
  simp only [ho, hx, hy]
  go_simp
  exact h
/-- the tag, turned -/
def tf (Y V : List Int) (j : Nat) : Int := xb (Y.getD j 0) (V.getD j 0)
def tz (Y V : List Int) : List Int := fil (tf Y V) 16 Y
theorem tz_len (Y V : List Int) (hY : Y.length = 16) : (tz Y V).length = 16 := by unfold tz; rw [fil_len _ _ _ (by omega), hY]
theorem tz_get (Y V : List Int) (j : Nat) (hj : j < 16) : (tz Y V).getD j 0 = tf Y V j := fil_lo _ _ _ _ hj
theorem tz_isB (Y V : List Int) (hY : Y.length = 16) : IsB (tz Y V) := fun x hx => by
  unfold tz fil at hx
  rcases List.mem_append.1 hx with h | h
  · obtain ⟨j, _, rfl⟩ := List.mem_map.1 h
    exact xb_rng _ _
  · rw [List.drop_of_length_le (by omega)] at h
    cases h
theorem tz_zero (Y : List Int) (hY : Y.length = 16) (hb : IsB Y) : tz Y ZT = Y := by
  refine list_ext (by rw [tz_len _ _ hY, hY]) fun j hj => ?_
  rw [tz_len _ _ hY] at hj
  rw [tz_get _ _ _ hj]
  unfold tf
  rw [show ZT.getD j 0 = 0 from by unfold ZT; rw [List.getD_eq_getElem?_getD, List.getElem?_replicate, if_pos hj]; rfl]
  exact xb_none _ (hb.at_ j)
theorem tz_same (Y V : List Int) (hY : Y.length = 16) (hV : V.length = 16) (hb : IsB Y) (hv : IsB V) (h : tz Y V = Y) : V = ZT := by
  refine list_ext (by rw [hV]; rfl) fun j hj => ?_
  rw [hV] at hj
  have h1 := tz_get Y V j hj
  rw [h] at h1
  rw [xb_same _ _ (hb.at_ j) (hv.at_ j) h1.symm]
  unfold ZT
  rw [List.getD_eq_getElem?_getD, List.getElem?_replicate, if_pos hj]
  rfl
theorem turned_not (K N A P V : List Int) (hP : IsB P) (hV : V.length = 16) (hv : IsB V) (hne : V ≠ ZT) (Q : List Int) (_hQ : IsB Q) : xl K N 1 P ++ tz (tagL K N A (xl K N 1 P)) V ≠ sealL K N A Q := fun e => by
  have hl := congrArg List.length e
  rw [List.length_append, sealL_len, xl_len, tz_len _ _ (tagL_len _ _ _ _)] at hl
  unfold sealL at e
  have h2 := List.append_inj e (by rw [xl_len, xl_len]; omega)
  rw [← h2.1] at h2
  exact hne (tz_same _ V (tagL_len _ _ _ _) hV (tagL_isB _ _ _ _) hv h2.2)
theorem take_set_cells (cc : Array Value) (n j : Nat) (v : Value) : (cc.setIfInBounds j v).toList.take n = (cc.toList.take n).set j v := by
  rw [Array.toList_setIfInBounds, List.take_set]
theorem turn_step (X Y V : List Int) (m k : Nat) (hX : X.length = m) (hY : Y.length = 16) (hk : k < 16) (y : Int) (hy : y = tf Y V k) : (X ++ fil (tf Y V) k Y).set (m + k) y = X ++ fil (tf Y V) (k + 1) Y := by
  rw [List.set_append_right _ _ (by omega), hX, Nat.add_sub_cancel_left, hy, fil_set _ _ _ (by omega)]
theorem turn_get (X Y V : List Int) (m k : Nat) (hX : X.length = m) (hY : Y.length = 16) (hk : k < 16) : (X ++ fil (tf Y V) k Y).getD (m + k) 0 = Y.getD k 0 := by
  rw [List.getD_eq_getElem?_getD, List.getElem?_append_right (by omega), hX, Nat.add_sub_cancel_left, ← List.getD_eq_getElem?_getD, fil_hi _ _ _ _ (Nat.le_refl k) (by omega)]
set_option maxHeartbeats 4000000 in
theorem turned_zero (K N : List Int) (hu : Us K N) (A0 : List Int) (s : Option Addr) (len cap : Nat) (B : List Int) (s2 : Option Addr) (len2 cap2 : Nat) (w : World) (la0 : Lb w s len cap A0) (lB : Lb w s2 len2 cap2 B) : Calls Try.prog 8 #[.agg (usd K N s len cap), .slice s2 len2 cap2, .agg (kc ZT)] w (Woke w) := by
  obtain ⟨T, hT⟩ : ∃ T, T = Woke w := ⟨_, rfl⟩
  rw [← hT]
  replace hT := hide hT
  replace hu := hide hu; replace la0 := hide la0
  replace lB := hide lB
  obtain ⟨V, hVz⟩ : ∃ V, V = ZT := ⟨_, rfl⟩
  rw [← hVz]
  have hV : V.length = 16 := by rw [hVz]; rfl
  replace hVz := hide hVz
  obtain ⟨SU, hSU⟩ : ∃ S, S = usd K N s len cap := ⟨_, rfl⟩
  obtain ⟨SV, hSV⟩ : ∃ S, S = kc V := ⟨_, rfl⟩
  rw [← hSU, ← hSV]
  replace hSU := hide hSU
  replace hSV := hide hSV
  go_enter Try.func8, Try.ntmps8
  go_upto_region 1 with fail
  have hB := (((Bl.nil w).new SU 28).new SV 41)
  simp only [size_alloc, List.nil_append, List.cons_append] at hB
  generalize World.alloc _ _ = u at *
  rw [unhide hSU, unhide hSV] at hB
  replace hB : Bl w [⟨w.heap.size, usd K N s len cap, 28⟩, ⟨w.heap.size + 1, kc V, 41⟩] u := hB
  refine wp_region_lit ?_
  refine list_call 9 #[] (by kernel_rfl) (by kernel_rfl) ((wakes_ok _).mono ?_)
  rintro r v ⟨rfl, hg⟩
  refine ⟨_, rfl, ?_⟩
  replace hB := hB.more hg
  clear hg
  simp only [Act.put, List.setIfInBounds_toArray, List.set_cons_zero, List.set_cons_succ, List.getElem_toArray, List.getElem_cons_zero, List.getElem_cons_succ]
  refine list_val (.bool false) (by kernel_rfl) (by kernel_rfl) ?_
  simp only [Act.put, List.setIfInBounds_toArray, List.set_cons_zero, List.set_cons_succ, List.getElem_toArray, List.getElem_cons_zero, List.getElem_cons_succ]
  refine wpList_nil ?_
  replace hB := hide hB
  go_upto_region 3 with fail
  replace hB := unhide hB
  refine wp_region_lit ?_
  refine list_val (.agg (usd K N s len cap)) (by kernel_rfl) (exec_arr _ 28 (.tmp 3) rfl (w.heap.size) (by kernel_rfl) (usd K N s len cap) 28 _ (hB.get 0 (x := ⟨w.heap.size, usd K N s len cap, 28⟩) rfl) Try.underlying28 rfl (by rw [Try.infoU8, usd_size (unhide hu)])) ?_
  simp only [Act.put, List.setIfInBounds_toArray, List.set_cons_zero, List.set_cons_succ, List.getElem_toArray, List.getElem_cons_zero, List.getElem_cons_succ]
  have hlt0 := lt_of_block (hB.get 1 (x := ⟨w.heap.size + 1, kc V, 41⟩) rfl)
  dsimp only at hlt0
  refine list_call 10 #[.agg (usd K N s len cap)] (by kernel_rfl) (by kernel_rfl) ((short_ok K N (unhide hu) A0 s len cap _ ((unhide la0).gr hB.gr)).mono ?_)
  rintro r v2 ⟨gq, c5, rfl, hc5, hmx, hgq, hat, hg⟩
  refine ⟨_, rfl, ?_⟩
  have hne0 : w.heap.size + 1 < gq := by omega
  replace hB := hB.more hg
  have hAb : IsB (A0.take (min len 3000)) := (unhide la0).isB.take _
  have hAl : (A0.take (min len 3000)).length ≤ 3000 := by rw [List.length_take]; omega
  generalize A0.take (min len 3000) = A at *
  obtain ⟨n, hn⟩ : ∃ n, A.length = n := ⟨_, rfl⟩
  rw [hn] at hc5 hAl ⊢
  clear hg hgq hlt0
  simp only [Act.put, List.setIfInBounds_toArray, List.set_cons_zero, List.set_cons_succ, List.getElem_toArray, List.getElem_cons_zero, List.getElem_cons_succ]
  refine list_val (.slice s2 len2 cap2) (by kernel_rfl) (by kernel_rfl) ?_
  simp only [Act.put, List.setIfInBounds_toArray, List.set_cons_zero, List.set_cons_succ, List.getElem_toArray, List.getElem_cons_zero, List.getElem_cons_succ]
  refine list_call 11 #[.slice s2 len2 cap2] (by kernel_rfl) (by kernel_rfl) ((cut_ok B s2 len2 cap2 _ ((unhide lB).gr hB.gr)).mono ?_)
  rintro r v2_ ⟨s3, rfl, hcut, hw2⟩
  refine ⟨_, rfl, ?_⟩
  replace hw2 := hw2.symm
  subst hw2
  have lP := hcut _ (unhide lB)
  have hmb : min len2 3000 ≤ 3000 := Nat.min_le_right _ _
  generalize B.take (min len2 3000) = P at *
  generalize min len2 3000 = m at *
  clear hcut
  simp only [Act.put, List.setIfInBounds_toArray, List.set_cons_zero, List.set_cons_succ, List.getElem_toArray, List.getElem_cons_zero, List.getElem_cons_succ]
  have hat3 : At (World.setRow v2 w.heap.size (usd K N (some ⟨gq, 0, none⟩) n c5)) gq 0 (A ++ [7]) := fun j hj => by
    rw [cell_heap (setRow_other v2 w.heap.size gq _ (by omega))]
    exact hat j hj
  refine list_store 28 (.tmp 3) (.tmp 15) w.heap.size (usd K N (some ⟨gq, 0, none⟩) n c5) 28 (usd K N s len cap) (by kernel_rfl) rfl (by kernel_rfl) (by kernel_rfl) (hB.get 0 (x := ⟨w.heap.size, usd K N s len cap, 28⟩) rfl) (by rw [Try.infoU8, usd_size (unhide hu)]) ((usd_size (unhide hu) _ _ _).trans (usd_size (unhide hu) _ _ _).symm) (usd_one _ _ _) ?_
  replace hB := hB.set 0 (x := ⟨w.heap.size, usd K N s len cap, 28⟩) rfl (usd K N (some ⟨gq, 0, none⟩) n c5)
  simp only [List.set_cons_zero, List.set_cons_succ] at hB
  clear hat
  generalize World.setRow _ _ _ = v3 at *
  simp only [Act.put, List.setIfInBounds_toArray, List.set_cons_zero, List.set_cons_succ, List.getElem_toArray, List.getElem_cons_zero, List.getElem_cons_succ]
  (refine wpList_step fun K hK => ?_; replace hK := hide hK; go_simp; refine unhide hK _ _ ?_; clear hK K)
  refine wpList_nil ?_
  have hU := hide (hB.get 0 (x := ⟨w.heap.size, usd K N (some ⟨gq, 0, none⟩) n c5, 28⟩) rfl)
  dsimp only at hU
  have hX0 := hide (hB.get 1 (x := ⟨w.heap.size + 1, kc V, 41⟩) rfl)
  dsimp only at hX0
  have hGw := hide hB.gr
  replace lP : Hid (Lb v3 s3 m cap2 P) := lP.gr hB.gr
  have hc50 : 0 < c5 := by omega
  have lA : Hid (Lb v3 (some ⟨gq, 0, none⟩) n c5 A) := ⟨hn, hAb, .inr ⟨gq, 0, rfl, by
    have h := hat3.take n
    rw [take_snoc A n hn] at h
    exact h⟩, by omega, hmx⟩
  have a7 : Hid (v3.cell? ⟨gq, n, none⟩ = some (.int .u8 7)) := by
    have h := hat3 n (by rw [List.length_append, hn]; simp)
    rw [get_snoc A n hn, Nat.zero_add] at h
    exact h
  have hG : Gr v3 v3 := Gr.refl v3
  clear hB hat3 hAb
  replace hn := hide hn
  replace hG := hide hG
  go_upto_region 4 with fail
  replace hG := unhide hG
  refine wp_region_lit ?_
  refine list_val (.pointer (some ⟨w.heap.size, 0, none⟩)) (by kernel_rfl) (by kernel_rfl) ?_
  simp only [Act.put, List.setIfInBounds_toArray, List.set_cons_zero, List.set_cons_succ, List.getElem_toArray, List.getElem_cons_zero, List.getElem_cons_succ]
  refine list_val (.agg (kc K)) (by kernel_rfl) (exec_key _ (.tmp 18) rfl w.heap.size (by kernel_rfl) K N (some ⟨gq, 0, none⟩) n c5 (unhide hu) (hG.blk (unhide hU))) ?_
  simp only [Act.put, List.setIfInBounds_toArray, List.set_cons_zero, List.set_cons_succ, List.getElem_toArray, List.getElem_cons_zero, List.getElem_cons_succ]
  refine list_val (.pointer (some ⟨w.heap.size, 32, none⟩)) (by kernel_rfl) (by kernel_rfl) ?_
  simp only [Act.put, List.setIfInBounds_toArray, List.set_cons_zero, List.set_cons_succ, List.getElem_toArray, List.getElem_cons_zero, List.getElem_cons_succ]
  refine list_val (.agg (kc N)) (by kernel_rfl) (exec_nonce _ (.tmp 20) rfl w.heap.size (by kernel_rfl) K N (some ⟨gq, 0, none⟩) n c5 (unhide hu) (hG.blk (unhide hU))) ?_
  simp only [Act.put, List.setIfInBounds_toArray, List.set_cons_zero, List.set_cons_succ, List.getElem_toArray, List.getElem_cons_zero, List.getElem_cons_succ]
  refine list_val (.pointer (some ⟨w.heap.size, 44, none⟩)) (by kernel_rfl) (by kernel_rfl) ?_
  simp only [Act.put, List.setIfInBounds_toArray, List.set_cons_zero, List.set_cons_succ, List.getElem_toArray, List.getElem_cons_zero, List.getElem_cons_succ]
  refine list_val (.slice (some ⟨gq, 0, none⟩) n c5) (by kernel_rfl) (exec_ad _ (.tmp 22) rfl w.heap.size (by kernel_rfl) K N (some ⟨gq, 0, none⟩) n c5 (unhide hu) (hG.blk (unhide hU))) ?_
  simp only [Act.put, List.setIfInBounds_toArray, List.set_cons_zero, List.set_cons_succ, List.getElem_toArray, List.getElem_cons_zero, List.getElem_cons_succ]
  refine list_val (.slice s3 m cap2) (by kernel_rfl) (by kernel_rfl) ?_
  simp only [Act.put, List.setIfInBounds_toArray, List.set_cons_zero, List.set_cons_succ, List.getElem_toArray, List.getElem_cons_zero, List.getElem_cons_succ]
  have hgw := hG.size
  refine list_call 14 #[.agg (kc K), .agg (kc N), .slice (some ⟨gq, 0, none⟩) n c5, .slice s3 m cap2] (by kernel_rfl) (by kernel_rfl) ((seal_ok K N (unhide hu).kl (unhide hu).nl (unhide hu).kb (unhide hu).nb A P _ s3 n m c5 cap2 (by omega) _ ((unhide lA).gr hG) ((unhide lP).gr hG)).mono ?_)
  rintro r v4 ⟨v4_, rfl, ob8, hg⟩
  refine ⟨_, rfl, ?_⟩
  replace hG := hG.trans hg
  have hPl := (unhide lP).len
  have hSl : (sealL K N A P).length = m + 16 := by rw [sealL_len, hPl]
  obtain ⟨gb, cb, cur, rfl, hgb, hcur, hcb, hmx8, hcz, htk⟩ := ob8.some (fun e => by rw [e] at hSl; simp at hSl)
  replace hgb := Nat.le_trans hgw hgb
  obtain ⟨nb, hnb⟩ : ∃ x, x = m + 16 := ⟨_, rfl⟩
  rw [hSl, ← hnb] at hcb htk ⊢
  have hnb2 : nb ≤ 4000 := by omega
  have k1 : (nb : Int) - 16 = (m : Int) := by omega
  have k2 : IntKind.i64.wrap (m : Int) = (m : Int) := by rw [IntKind.wrap_i64]; omega
  have hcbx : cb < 9223372036854775808 := by unfold maxLen at hmx8; omega
  have hczn : nb ≤ cb := hcb
  have hB8 : Hid (Bl v3 [⟨gb, cur, 5⟩] v4) := (Bl.nil v3).join hG [⟨gb, cur, 5⟩] (by intro x hx; rw [List.mem_singleton] at hx; subst hx; exact ⟨hcur, hgb⟩) (List.pairwise_singleton _ _)
  have htk0 : Hid (cur.toList.take nb = (xl K N 1 P ++ fil (tf (tagL K N A (xl K N 1 P)) V) 0 (tagL K N A (xl K N 1 P))).map (Value.int .u8)) := by
    rw [fil_zero]
    exact htk
  replace hcz := hide hcz
  replace hnb := hide hnb
  clear hg ob8 htk hgw hcur hmx8 hG hSl
  have hXl : Hid ((xl K N 1 P).length = m) := by rw [xl_len]; exact hPl
  have hXb := hide (xl_isB K N 1 P)
  have hYl := tagL_len K N A (xl K N 1 P)
  have hYb := hide (tagL_isB K N A (xl K N 1 P))
  have hSE : Hid (sealL K N A P = xl K N 1 P ++ tagL K N A (xl K N 1 P)) := rfl
  skip
  generalize tagL K N A (xl K N 1 P) = Y at *
  generalize xl K N 1 P = X at *
  replace hPl := hide hPl
  simp only [Act.put, List.setIfInBounds_toArray, List.set_cons_zero, List.set_cons_succ, List.getElem_toArray, List.getElem_cons_zero, List.getElem_cons_succ]
  (refine wpList_step fun K hK => ?_; replace hK := hide hK; go_simp; refine unhide hK _ _ ?_; clear hK K)
  refine wpList_nil ?_
  go_upto_region 5 with fail
  refine wp_region_lit ?_
  refine list_val (.slice (some ⟨gb, 0, none⟩) nb cb) (by kernel_rfl) (by kernel_rfl) ?_
  simp only [Act.put, List.setIfInBounds_toArray, List.set_cons_zero, List.set_cons_succ, List.getElem_toArray, List.getElem_cons_zero, List.getElem_cons_succ]
  refine list_val (.int .i64 nb) (by kernel_rfl) (by kernel_rfl) ?_
  simp only [Act.put, List.setIfInBounds_toArray, List.set_cons_zero, List.set_cons_succ, List.getElem_toArray, List.getElem_cons_zero, List.getElem_cons_succ]
  refine list_val (.int .i64 m) (by kernel_rfl) (by go_simp) ?_
  simp only [Act.put, List.setIfInBounds_toArray, List.set_cons_zero, List.set_cons_succ, List.getElem_toArray, List.getElem_cons_zero, List.getElem_cons_succ]
  (refine wpList_step fun K hK => ?_; replace hK := hide hK; go_simp; refine unhide hK _ _ ?_; clear hK K)
  refine wpList_nil ?_
  clear k1 k2
  go_wp2_with fail
  go_loopw [29] (fun i wr => ∃ k : Nat, ∃ cc : Array Value, k ≤ 16 ∧ i = .int .i64 k ∧ Hid (cc.toList.take nb = (X ++ fil (tf Y V) k Y).map (Value.int .u8)) ∧ Hid (Bl v3 [⟨gb, cc, 5⟩] wr)) (fun i _ => 16 - (intOf i).toNat)
  case atStart => exact ⟨0, cur, by omega, rfl, htk0, hB8⟩
  case round =>
  clear hB8 htk0
  obtain ⟨k, cc, hk, rfl, htk, hB8⟩ := hrel
  have hLk : Hid ((X ++ fil (tf Y V) k Y).length = nb) := by
    show (X ++ fil (tf Y V) k Y).length = nb
    rw [List.length_append, fil_len _ _ _ (by omega), hYl, unhide hXl, unhide hnb]
  have hat : Hid (At wr gb 0 (X ++ fil (tf Y V) k Y)) := at_take ((unhide hB8).get 0 (x := ⟨gb, cc, 5⟩) rfl) (by rw [unhide hLk]; exact unhide htk)
  by_cases hkl : k < 16
  · have kI : (k : Int) < 16 := by omega
    obtain ⟨j, hj⟩ : ∃ j, j = m + k := ⟨_, rfl⟩
    have j1 : (m : Int) + (k : Int) = (j : Int) := by omega
    have j2 : IntKind.i64.wrap (j : Int) = (j : Int) := by rw [IntKind.wrap_i64]; omega
    have j4 : j < nb := by have := unhide hnb; omega
    obtain ⟨y, hy⟩ : ∃ y, y = Y.getD k 0 := ⟨_, rfl⟩
    obtain ⟨v, hv⟩ : ∃ y, y = V.getD k 0 := ⟨_, rfl⟩
    have htk2 : Hid ((cc.setIfInBounds j (.int .u8 (xb y v))).toList.take nb = (X ++ fil (tf Y V) (k + 1) Y).map (Value.int .u8)) := by
      show (cc.setIfInBounds j (.int .u8 (xb y v))).toList.take nb = _
      rw [take_set_cells, unhide htk, ← List.map_set, hj, turn_step X Y V m k (unhide hXl) hYl hkl (xb y v) (by rw [hy, hv]; rfl)]
    have hB9 := (unhide hB8).cell 0 (x := ⟨gb, cc, 5⟩) rfl j (.int .u8 (xb y v))
    simp only [List.set_cons_zero] at hB9
    have c0 : wr.cell? ⟨gb, j, none⟩ = some (.int .u8 y) := by
      have h := (unhide hat) j (by rw [unhide hLk]; exact j4)
      rw [Nat.zero_add, hj, turn_get X Y V m k (unhide hXl) hYl hkl, ← hy, ← hj] at h
      exact h
    have fz := froz_of (i := j) ((unhide hB8).get 0 (x := ⟨gb, cc, 5⟩) rfl)
    dsimp only at fz
    have hne : w.heap.size + 1 ≠ gb := by
      have h := lt_of_block (unhide hX0)
      omega
    have hX1 : wr.heap[w.heap.size + 1]? = some (.cells (kc V) 41 (0, 0)) := (unhide hB8).gr.blk (unhide hX0)
    replace hy := hide hy; replace hv := hide hv; replace hj := hide hj; replace hB9 := hide hB9; replace hX1 := hide hX1; replace c0 := hide c0; replace fz := hide fz
    go_upto_region 9 with fail
    refine any_start (S := fun v_ => v_.heap[w.heap.size + 1]? = some (.cells (kc V) 41 (0, 0))) (by kernel_rfl) ?_
    have hX1b : (World.drew wr).heap[w.heap.size + 1]? = some (.cells (kc V) 41 (0, 0)) := unhide hX1
    have c0b : (World.drew wr).cell? ⟨gb, j, none⟩ = some (.int .u8 y) := unhide c0
    have fzb : (World.drew wr).frozen? ⟨gb, j, none⟩ = false := unhide fz
    have hB9b := (unhide hB8).drew.cell 0 (x := ⟨gb, cc, 5⟩) rfl j (.int .u8 (xb y v))
    simp only [List.set_cons_zero] at hB9b
    clear hX1 c0 fz hB9 hB8 hat
    have hX1 := hX1b; have c0 := hide c0b; have fz := hide fzb; have hB9 := hide hB9b
    clear hX1b c0b fzb hB9b
    generalize World.drew _ = x0 at *
    simp only [List.size_toArray, List.length_cons, List.length_nil, Array.replicate, List.replicate]
    refine any_take (i := 0) (v := (.slice (some ⟨gb, 0, none⟩) nb cb)) #[false, false, false, false, false, false, false, false, false, false, false, false] rfl (by kernel_rfl) (by kernel_rfl) (by kernel_rfl) (by kernel_rfl) (fun _ _ _ h => h) (.inl ⟨by kernel_rfl, fun x_ hu => by kernel_rfl⟩) hX1 ?_
    simp only [Act.put, List.setIfInBounds_toArray, List.set_cons_zero, List.set_cons_succ, List.getElem_toArray, List.getElem_cons_zero, List.getElem_cons_succ]
    refine any_take (i := 1) (v := (.int .i64 m)) #[true, false, false, false, false, false, false, false, false, false, false, false] rfl (by kernel_rfl) (by kernel_rfl) (by kernel_rfl) (by kernel_rfl) (fun _ _ _ h => h) (.inl ⟨by kernel_rfl, fun x_ hu => by kernel_rfl⟩) hX1 ?_
    simp only [Act.put, List.setIfInBounds_toArray, List.set_cons_zero, List.set_cons_succ, List.getElem_toArray, List.getElem_cons_zero, List.getElem_cons_succ]
    refine any_take (i := 2) (v := (.int .i64 k)) #[true, true, false, false, false, false, false, false, false, false, false, false] rfl (by kernel_rfl) (by kernel_rfl) (by kernel_rfl) (by kernel_rfl) (fun _ _ _ h => h) (.inl ⟨by kernel_rfl, fun x_ hu => by kernel_rfl⟩) hX1 ?_
    simp only [Act.put, List.setIfInBounds_toArray, List.set_cons_zero, List.set_cons_succ, List.getElem_toArray, List.getElem_cons_zero, List.getElem_cons_succ]
    refine any_take (i := 3) (v := (.int .i64 j)) #[true, true, true, false, false, false, false, false, false, false, false, false] rfl (by kernel_rfl) (by kernel_rfl) (by kernel_rfl) (by kernel_rfl) (fun _ _ _ h => h) (.inl ⟨by kernel_rfl, fun x_ hu => by go_simp⟩) hX1 ?_
    simp only [Act.put, List.setIfInBounds_toArray, List.set_cons_zero, List.set_cons_succ, List.getElem_toArray, List.getElem_cons_zero, List.getElem_cons_succ]
    refine any_take (i := 4) (v := (.pointer (some ⟨gb, 0 + j, none⟩))) #[true, true, true, true, false, false, false, false, false, false, false, false] rfl (by kernel_rfl) (by kernel_rfl) (by kernel_rfl) (by kernel_rfl) (fun _ _ _ h => h) (.inl ⟨by kernel_rfl, fun x_ hu => exec_at _ (.tmp 32) (.tmp 35) rfl gb 0 nb cb j rfl rfl j4⟩) hX1 ?_
    simp only [Act.put, List.setIfInBounds_toArray, List.set_cons_zero, List.set_cons_succ, List.getElem_toArray, List.getElem_cons_zero, List.getElem_cons_succ]
    refine any_take (i := 6) (v := (.int .i64 k)) #[true, true, true, true, true, false, false, false, false, false, false, false] rfl (by kernel_rfl) (by kernel_rfl) (by kernel_rfl) (by kernel_rfl) (fun _ _ _ h => h) (.inl ⟨by kernel_rfl, fun x_ hu => by kernel_rfl⟩) hX1 ?_
    simp only [Act.put, List.setIfInBounds_toArray, List.set_cons_zero, List.set_cons_succ, List.getElem_toArray, List.getElem_cons_zero, List.getElem_cons_succ]
    refine any_take (i := 7) (v := (.pointer (some ⟨w.heap.size + 1, k, none⟩))) #[true, true, true, true, true, false, true, false, false, false, false, false] rfl (by kernel_rfl) (by kernel_rfl) (by kernel_rfl) (by kernel_rfl) (fun _ _ _ h => h) (.inl ⟨by kernel_rfl, fun x_ hu => by go_simp⟩) hX1 ?_
    simp only [Act.put, List.setIfInBounds_toArray, List.set_cons_zero, List.set_cons_succ, List.getElem_toArray, List.getElem_cons_zero, List.getElem_cons_succ]
    refine any_take (i := 8) (v := (.int .u8 v)) #[true, true, true, true, true, false, true, true, false, false, false, false] rfl (by kernel_rfl) (by kernel_rfl) (by kernel_rfl) (by kernel_rfl) (fun _ _ _ h => h) (.inl ⟨by kernel_rfl, fun x_ hu => exec_u8 _ (.tmp 39) rfl (w.heap.size + 1) k (by kernel_rfl) v (by have h := kc_cell hu k (by omega); rw [← unhide hv] at h; exact h)⟩) hX1 ?_
    simp only [Act.put, List.setIfInBounds_toArray, List.set_cons_zero, List.set_cons_succ, List.getElem_toArray, List.getElem_cons_zero, List.getElem_cons_succ]
    refine any_one (i := 5) (by kernel_rfl) rfl (fun K_ hQ => ?_)
    refine step_val (.int .u8 y) x0 (by kernel_rfl) (exec_u8 _ (.tmp 36) rfl gb (0 + j) (by kernel_rfl) y (by rw [Nat.zero_add]; exact unhide c0)) ?_
    refine hQ.out _ _ hX1 (fun _ => ?_)
    clear hQ K_
    simp only [Act.put, List.setIfInBounds_toArray, List.set_cons_zero, List.set_cons_succ, List.getElem_toArray, List.getElem_cons_zero, List.getElem_cons_succ]
    refine any_take (i := 9) (v := (.int .u8 (xb y v))) #[true, true, true, true, true, true, true, true, true, false, false, false] rfl (by kernel_rfl) (by kernel_rfl) (by kernel_rfl) (by kernel_rfl) (fun _ _ _ h => h) (.inl ⟨by kernel_rfl, fun x_ hu => by kernel_rfl⟩) hX1 ?_
    simp only [Act.put, List.setIfInBounds_toArray, List.set_cons_zero, List.set_cons_succ, List.getElem_toArray, List.getElem_cons_zero, List.getElem_cons_succ]
    refine any_take (i := 10) (v := (.pointer (some ⟨gb, 0 + j, none⟩))) #[true, true, true, true, true, true, true, true, true, true, false, false] rfl (by kernel_rfl) (by kernel_rfl) (by kernel_rfl) (by kernel_rfl) (fun _ _ _ h => h) (.inl ⟨by kernel_rfl, fun x_ hu => exec_at _ (.tmp 32) (.tmp 35) rfl gb 0 nb cb j rfl rfl j4⟩) hX1 ?_
    simp only [Act.put, List.setIfInBounds_toArray, List.set_cons_zero, List.set_cons_succ, List.getElem_toArray, List.getElem_cons_zero, List.getElem_cons_succ]
    refine any_one (i := 11) (by kernel_rfl) rfl (fun K_ hQ => ?_)
    have c1 : x0.cell? ⟨gb, 0 + j, none⟩ = some (.int .u8 y) := by rw [Nat.zero_add]; exact unhide c0
    have f1 : x0.frozen? ⟨gb, 0 + j, none⟩ = false := by rw [Nat.zero_add]; exact unhide fz
    replace hB9 : Hid (Bl v3 [⟨gb, cc.setIfInBounds j (.int .u8 (xb y v)), 5⟩] (x0.setCell ⟨gb, 0 + j, none⟩ (.int .u8 (xb y v)))) := by
      rw [Nat.zero_add]
      exact unhide hB9
    have hX2 : (x0.setCell ⟨gb, 0 + j, none⟩ (.int .u8 (xb y v))).heap[w.heap.size + 1]? = some (.cells (kc V) 41 (0, 0)) := (Below.heap_setCell x0 ⟨gb, 0 + j, none⟩ _ (w.heap.size + 1) hne).trans hX1
    generalize hw9 : x0.setCell ⟨gb, 0 + j, none⟩ (.int .u8 (xb y v)) = x1 at hB9 hX2
    replace hw9 := hide hw9
    rw [if_pos (by kernel_rfl)]
    refine store_u8 (.tmp 42) (.tmp 41) rfl gb (0 + j) (by kernel_rfl) (xb y v) (by kernel_rfl) _ c1 f1 ?_
    rw [unhide hw9]
    refine hQ.out _ _ hX2 (fun _ => ?_)
    clear hQ K_
    simp only [Act.put, List.setIfInBounds_toArray, List.set_cons_zero, List.set_cons_succ, List.getElem_toArray, List.getElem_cons_zero, List.getElem_cons_succ]
    refine any_done (by kernel_rfl) ?_
    clear c0 fz c1 f1 hX1 hX2 hw9
    go_wp2_with fail
    go_roundw
    case rel => exact ⟨k + 1, _, by omega, by go_num, htk2, hB9⟩
    case measure => simp [intOf]; omega
  have e16 : k = 16 := by omega
  have kI : ¬ (k : Int) < 16 := by omega
  have lS : Hid (Lb wr (some ⟨gb, 0, none⟩) nb cb (X ++ tz Y V)) := by
    subst e16
    exact ⟨unhide hLk, (unhide hXb).append (tz_isB Y V hYl), .inr ⟨gb, 0, rfl, unhide hat⟩, hczn, hcbx⟩
  have hG := (unhide hB8).gr
  clear hB8 htk hat hLk e16
  have e0 : X ++ tz Y V = sealL K N A P := by rw [unhide hVz, tz_zero Y hYl (unhide hYb), unhide hSE]
  rw [e0] at lS
  clear e0
  replace hG := hide hG
  go_upto_region 11 with fail
  replace hG := unhide hG
  refine wp_region_lit ?_
  refine list_val (.pointer (some ⟨w.heap.size, 0, none⟩)) (by kernel_rfl) (by kernel_rfl) ?_
  simp only [Act.put, List.setIfInBounds_toArray, List.set_cons_zero, List.set_cons_succ, List.getElem_toArray, List.getElem_cons_zero, List.getElem_cons_succ]
  refine list_val (.agg (kc K)) (by kernel_rfl) (exec_key _ (.tmp 45) rfl w.heap.size (by kernel_rfl) K N (some ⟨gq, 0, none⟩) n c5 (unhide hu) (hG.blk (unhide hU))) ?_
  simp only [Act.put, List.setIfInBounds_toArray, List.set_cons_zero, List.set_cons_succ, List.getElem_toArray, List.getElem_cons_zero, List.getElem_cons_succ]
  refine list_val (.pointer (some ⟨w.heap.size, 32, none⟩)) (by kernel_rfl) (by kernel_rfl) ?_
  simp only [Act.put, List.setIfInBounds_toArray, List.set_cons_zero, List.set_cons_succ, List.getElem_toArray, List.getElem_cons_zero, List.getElem_cons_succ]
  refine list_val (.agg (kc N)) (by kernel_rfl) (exec_nonce _ (.tmp 47) rfl w.heap.size (by kernel_rfl) K N (some ⟨gq, 0, none⟩) n c5 (unhide hu) (hG.blk (unhide hU))) ?_
  simp only [Act.put, List.setIfInBounds_toArray, List.set_cons_zero, List.set_cons_succ, List.getElem_toArray, List.getElem_cons_zero, List.getElem_cons_succ]
  refine list_val (.pointer (some ⟨w.heap.size, 44, none⟩)) (by kernel_rfl) (by kernel_rfl) ?_
  simp only [Act.put, List.setIfInBounds_toArray, List.set_cons_zero, List.set_cons_succ, List.getElem_toArray, List.getElem_cons_zero, List.getElem_cons_succ]
  refine list_val (.slice (some ⟨gq, 0, none⟩) n c5) (by kernel_rfl) (exec_ad _ (.tmp 49) rfl w.heap.size (by kernel_rfl) K N (some ⟨gq, 0, none⟩) n c5 (unhide hu) (hG.blk (unhide hU))) ?_
  simp only [Act.put, List.setIfInBounds_toArray, List.set_cons_zero, List.set_cons_succ, List.getElem_toArray, List.getElem_cons_zero, List.getElem_cons_succ]
  refine list_val (.slice (some ⟨gb, 0, none⟩) nb cb) (by kernel_rfl) (by kernel_rfl) ?_
  simp only [Act.put, List.setIfInBounds_toArray, List.set_cons_zero, List.set_cons_succ, List.getElem_toArray, List.getElem_cons_zero, List.getElem_cons_succ]
  refine list_call 17 #[.agg (kc K), .agg (kc N), .slice (some ⟨gq, 0, none⟩) n c5, .slice (some ⟨gb, 0, none⟩) nb cb] (by kernel_rfl) (by kernel_rfl) ((open_yes K N (unhide hu).kl (unhide hu).nl (unhide hu).kb (unhide hu).nb A P (unhide lP).isB _ _ n nb c5 cb (by omega) _ ((unhide lA).gr hG) (unhide lS)).mono ?_)
  rintro r v5 ⟨gp, rfl, _, hp, hg⟩
  refine ⟨_, rfl, ?_⟩
  replace hG := hG.trans hg
  rw [unhide hPl]
  have lp : Hid (Lb v5 (some ⟨gp, 0, none⟩) m m P) := kc_lb hp (unhide hPl) (unhide lP).isB (by omega)
  clear hg hp
  simp only [Act.put, List.setIfInBounds_toArray, List.set_cons_zero, List.set_cons_succ, List.getElem_toArray, List.getElem_cons_zero, List.getElem_cons_succ]
  refine list_val (.tuple #[.slice (some ⟨gp, 0, none⟩) m m, .int .i64 0]) (by kernel_rfl) (by kernel_rfl) ?_
  simp only [Act.put, List.setIfInBounds_toArray, List.set_cons_zero, List.set_cons_succ, List.getElem_toArray, List.getElem_cons_zero, List.getElem_cons_succ]
  refine list_val (.slice (some ⟨gp, 0, none⟩) m m) (by kernel_rfl) (by kernel_rfl) ?_
  simp only [Act.put, List.setIfInBounds_toArray, List.set_cons_zero, List.set_cons_succ, List.getElem_toArray, List.getElem_cons_zero, List.getElem_cons_succ]
  refine list_val (.int .i64 0) (by kernel_rfl) (by kernel_rfl) ?_
  simp only [Act.put, List.setIfInBounds_toArray, List.set_cons_zero, List.set_cons_succ, List.getElem_toArray, List.getElem_cons_zero, List.getElem_cons_succ]
  (refine wpList_step fun K hK => ?_; replace hK := hide hK; go_simp; refine unhide hK _ _ ?_; clear hK K)
  (refine wpList_step fun K hK => ?_; replace hK := hide hK; go_simp; refine unhide hK _ _ ?_; clear hK K)
  refine wpList_nil ?_
  replace hG := hide hG
  go_upto_region 12 with fail
  replace hG := unhide hG
  refine wp_region_lit ?_
  refine list_val (.agg (kc V)) (by kernel_rfl) (exec_arr _ 41 (.tmp 5) rfl (w.heap.size + 1) (by kernel_rfl) (kc V) 41 _ (hG.blk (unhide hX0)) Try.underlying41 rfl (by rw [Try.infoT, kc_size, hV])) ?_
  simp only [Act.put, List.setIfInBounds_toArray, List.set_cons_zero, List.set_cons_succ, List.getElem_toArray, List.getElem_cons_zero, List.getElem_cons_succ]
  refine list_val (.agg (kc ZT)) (by kernel_rfl) (by kernel_rfl) ?_
  simp only [Act.put, List.setIfInBounds_toArray, List.set_cons_zero, List.set_cons_succ, List.getElem_toArray, List.getElem_cons_zero, List.getElem_cons_succ]
  refine list_val (.bool true) (by kernel_rfl) (by have e := fun w_ => (eq_T V ZT hV rfl w_).trans (by rw [decide_eq_true (unhide hVz)]); go_simp) ?_
  simp only [Act.put, List.setIfInBounds_toArray, List.set_cons_zero, List.set_cons_succ, List.getElem_toArray, List.getElem_cons_zero, List.getElem_cons_succ]
  refine wpList_nil ?_
  replace hG := hide hG
  go_upto_region 13 with fail
  replace hG := unhide hG
  refine wp_region_lit ?_
  refine list_val (.int .i64 0) (by kernel_rfl) (by kernel_rfl) ?_
  simp only [Act.put, List.setIfInBounds_toArray, List.set_cons_zero, List.set_cons_succ, List.getElem_toArray, List.getElem_cons_zero, List.getElem_cons_succ]
  refine list_val (.bool true) (by kernel_rfl) (by kernel_rfl) ?_
  simp only [Act.put, List.setIfInBounds_toArray, List.set_cons_zero, List.set_cons_succ, List.getElem_toArray, List.getElem_cons_zero, List.getElem_cons_succ]
  refine list_val (.bool true) (by kernel_rfl) (by kernel_rfl) ?_
  simp only [Act.put, List.setIfInBounds_toArray, List.set_cons_zero, List.set_cons_succ, List.getElem_toArray, List.getElem_cons_zero, List.getElem_cons_succ]
  refine list_val (.slice (some ⟨gp, 0, none⟩) m m) (by kernel_rfl) (by kernel_rfl) ?_
  simp only [Act.put, List.setIfInBounds_toArray, List.set_cons_zero, List.set_cons_succ, List.getElem_toArray, List.getElem_cons_zero, List.getElem_cons_succ]
  refine list_val (.slice s3 m cap2) (by kernel_rfl) (by kernel_rfl) ?_
  simp only [Act.put, List.setIfInBounds_toArray, List.set_cons_zero, List.set_cons_succ, List.getElem_toArray, List.getElem_cons_zero, List.getElem_cons_succ]
  refine list_call 15 #[.slice (some ⟨gp, 0, none⟩) m m, .slice s3 m cap2] (by kernel_rfl) (by kernel_rfl) ((equal_same P _ _ m m cap2 (unhide hPl) _ ((unhide lp)).sl ((unhide lP).gr hG).sl).mono ?_)
  rintro r vq ⟨rfl, rfl⟩
  refine ⟨_, rfl, ?_⟩
  simp only [Act.put, List.setIfInBounds_toArray, List.set_cons_zero, List.set_cons_succ, List.getElem_toArray, List.getElem_cons_zero, List.getElem_cons_succ]
  refine list_val (.bool true) (by kernel_rfl) (by kernel_rfl) ?_
  simp only [Act.put, List.setIfInBounds_toArray, List.set_cons_zero, List.set_cons_succ, List.getElem_toArray, List.getElem_cons_zero, List.getElem_cons_succ]
  (refine wpList_step fun K hK => ?_; replace hK := hide hK; go_simp; refine unhide hK _ _ ?_; clear hK K)
  refine wpList_nil ?_
  have hF : Hid (Gr w _) := (unhide hGw).trans hG
  clear hG hGw hU
  go_wp2_with fail
  rw [unhide hT]
  exact ⟨rfl, unhide hF⟩
set_option maxHeartbeats 4000000 in
theorem turned_some (K N : List Int) (hu : Us K N) (A0 : List Int) (s : Option Addr) (len cap : Nat) (B : List Int) (s2 : Option Addr) (len2 cap2 : Nat) (V : List Int) (hV : V.length = 16) (hVb : IsB V) (hVz : V ≠ ZT) (w : World) (la0 : Lb w s len cap A0) (lB : Lb w s2 len2 cap2 B) : Calls Try.prog 8 #[.agg (usd K N s len cap), .slice s2 len2 cap2, .agg (kc V)] w (Woke w) := by
  obtain ⟨T, hT⟩ : ∃ T, T = Woke w := ⟨_, rfl⟩
  rw [← hT]
  replace hT := hide hT
  replace hu := hide hu; replace la0 := hide la0
  replace lB := hide lB
  replace hVb := hide hVb
  replace hVz := hide hVz
  obtain ⟨SU, hSU⟩ : ∃ S, S = usd K N s len cap := ⟨_, rfl⟩
  obtain ⟨SV, hSV⟩ : ∃ S, S = kc V := ⟨_, rfl⟩
  rw [← hSU, ← hSV]
  replace hSU := hide hSU
  replace hSV := hide hSV
  go_enter Try.func8, Try.ntmps8
  go_upto_region 1 with fail
  have hB := (((Bl.nil w).new SU 28).new SV 41)
  simp only [size_alloc, List.nil_append, List.cons_append] at hB
  generalize World.alloc _ _ = u at *
  rw [unhide hSU, unhide hSV] at hB
  replace hB : Bl w [⟨w.heap.size, usd K N s len cap, 28⟩, ⟨w.heap.size + 1, kc V, 41⟩] u := hB
  refine wp_region_lit ?_
  refine list_call 9 #[] (by kernel_rfl) (by kernel_rfl) ((wakes_ok _).mono ?_)
  rintro r v ⟨rfl, hg⟩
  refine ⟨_, rfl, ?_⟩
  replace hB := hB.more hg
  clear hg
  simp only [Act.put, List.setIfInBounds_toArray, List.set_cons_zero, List.set_cons_succ, List.getElem_toArray, List.getElem_cons_zero, List.getElem_cons_succ]
  refine list_val (.bool false) (by kernel_rfl) (by kernel_rfl) ?_
  simp only [Act.put, List.setIfInBounds_toArray, List.set_cons_zero, List.set_cons_succ, List.getElem_toArray, List.getElem_cons_zero, List.getElem_cons_succ]
  refine wpList_nil ?_
  replace hB := hide hB
  go_upto_region 3 with fail
  replace hB := unhide hB
  refine wp_region_lit ?_
  refine list_val (.agg (usd K N s len cap)) (by kernel_rfl) (exec_arr _ 28 (.tmp 3) rfl (w.heap.size) (by kernel_rfl) (usd K N s len cap) 28 _ (hB.get 0 (x := ⟨w.heap.size, usd K N s len cap, 28⟩) rfl) Try.underlying28 rfl (by rw [Try.infoU8, usd_size (unhide hu)])) ?_
  simp only [Act.put, List.setIfInBounds_toArray, List.set_cons_zero, List.set_cons_succ, List.getElem_toArray, List.getElem_cons_zero, List.getElem_cons_succ]
  have hlt0 := lt_of_block (hB.get 1 (x := ⟨w.heap.size + 1, kc V, 41⟩) rfl)
  dsimp only at hlt0
  refine list_call 10 #[.agg (usd K N s len cap)] (by kernel_rfl) (by kernel_rfl) ((short_ok K N (unhide hu) A0 s len cap _ ((unhide la0).gr hB.gr)).mono ?_)
  rintro r v2 ⟨gq, c5, rfl, hc5, hmx, hgq, hat, hg⟩
  refine ⟨_, rfl, ?_⟩
  have hne0 : w.heap.size + 1 < gq := by omega
  replace hB := hB.more hg
  have hAb : IsB (A0.take (min len 3000)) := (unhide la0).isB.take _
  have hAl : (A0.take (min len 3000)).length ≤ 3000 := by rw [List.length_take]; omega
  generalize A0.take (min len 3000) = A at *
  obtain ⟨n, hn⟩ : ∃ n, A.length = n := ⟨_, rfl⟩
  rw [hn] at hc5 hAl ⊢
  clear hg hgq hlt0
  simp only [Act.put, List.setIfInBounds_toArray, List.set_cons_zero, List.set_cons_succ, List.getElem_toArray, List.getElem_cons_zero, List.getElem_cons_succ]
  refine list_val (.slice s2 len2 cap2) (by kernel_rfl) (by kernel_rfl) ?_
  simp only [Act.put, List.setIfInBounds_toArray, List.set_cons_zero, List.set_cons_succ, List.getElem_toArray, List.getElem_cons_zero, List.getElem_cons_succ]
  refine list_call 11 #[.slice s2 len2 cap2] (by kernel_rfl) (by kernel_rfl) ((cut_ok B s2 len2 cap2 _ ((unhide lB).gr hB.gr)).mono ?_)
  rintro r v2_ ⟨s3, rfl, hcut, hw2⟩
  refine ⟨_, rfl, ?_⟩
  replace hw2 := hw2.symm
  subst hw2
  have lP := hcut _ (unhide lB)
  have hmb : min len2 3000 ≤ 3000 := Nat.min_le_right _ _
  generalize B.take (min len2 3000) = P at *
  generalize min len2 3000 = m at *
  clear hcut
  simp only [Act.put, List.setIfInBounds_toArray, List.set_cons_zero, List.set_cons_succ, List.getElem_toArray, List.getElem_cons_zero, List.getElem_cons_succ]
  have hat3 : At (World.setRow v2 w.heap.size (usd K N (some ⟨gq, 0, none⟩) n c5)) gq 0 (A ++ [7]) := fun j hj => by
    rw [cell_heap (setRow_other v2 w.heap.size gq _ (by omega))]
    exact hat j hj
  refine list_store 28 (.tmp 3) (.tmp 15) w.heap.size (usd K N (some ⟨gq, 0, none⟩) n c5) 28 (usd K N s len cap) (by kernel_rfl) rfl (by kernel_rfl) (by kernel_rfl) (hB.get 0 (x := ⟨w.heap.size, usd K N s len cap, 28⟩) rfl) (by rw [Try.infoU8, usd_size (unhide hu)]) ((usd_size (unhide hu) _ _ _).trans (usd_size (unhide hu) _ _ _).symm) (usd_one _ _ _) ?_
  replace hB := hB.set 0 (x := ⟨w.heap.size, usd K N s len cap, 28⟩) rfl (usd K N (some ⟨gq, 0, none⟩) n c5)
  simp only [List.set_cons_zero, List.set_cons_succ] at hB
  clear hat
  generalize World.setRow _ _ _ = v3 at *
  simp only [Act.put, List.setIfInBounds_toArray, List.set_cons_zero, List.set_cons_succ, List.getElem_toArray, List.getElem_cons_zero, List.getElem_cons_succ]
  (refine wpList_step fun K hK => ?_; replace hK := hide hK; go_simp; refine unhide hK _ _ ?_; clear hK K)
  refine wpList_nil ?_
  have hU := hide (hB.get 0 (x := ⟨w.heap.size, usd K N (some ⟨gq, 0, none⟩) n c5, 28⟩) rfl)
  dsimp only at hU
  have hX0 := hide (hB.get 1 (x := ⟨w.heap.size + 1, kc V, 41⟩) rfl)
  dsimp only at hX0
  have hGw := hide hB.gr
  replace lP : Hid (Lb v3 s3 m cap2 P) := lP.gr hB.gr
  have hc50 : 0 < c5 := by omega
  have lA : Hid (Lb v3 (some ⟨gq, 0, none⟩) n c5 A) := ⟨hn, hAb, .inr ⟨gq, 0, rfl, by
    have h := hat3.take n
    rw [take_snoc A n hn] at h
    exact h⟩, by omega, hmx⟩
  have a7 : Hid (v3.cell? ⟨gq, n, none⟩ = some (.int .u8 7)) := by
    have h := hat3 n (by rw [List.length_append, hn]; simp)
    rw [get_snoc A n hn, Nat.zero_add] at h
    exact h
  have hG : Gr v3 v3 := Gr.refl v3
  clear hB hat3 hAb
  replace hn := hide hn
  replace hG := hide hG
  go_upto_region 4 with fail
  replace hG := unhide hG
  refine wp_region_lit ?_
  refine list_val (.pointer (some ⟨w.heap.size, 0, none⟩)) (by kernel_rfl) (by kernel_rfl) ?_
  simp only [Act.put, List.setIfInBounds_toArray, List.set_cons_zero, List.set_cons_succ, List.getElem_toArray, List.getElem_cons_zero, List.getElem_cons_succ]
  refine list_val (.agg (kc K)) (by kernel_rfl) (exec_key _ (.tmp 18) rfl w.heap.size (by kernel_rfl) K N (some ⟨gq, 0, none⟩) n c5 (unhide hu) (hG.blk (unhide hU))) ?_
  simp only [Act.put, List.setIfInBounds_toArray, List.set_cons_zero, List.set_cons_succ, List.getElem_toArray, List.getElem_cons_zero, List.getElem_cons_succ]
  refine list_val (.pointer (some ⟨w.heap.size, 32, none⟩)) (by kernel_rfl) (by kernel_rfl) ?_
  simp only [Act.put, List.setIfInBounds_toArray, List.set_cons_zero, List.set_cons_succ, List.getElem_toArray, List.getElem_cons_zero, List.getElem_cons_succ]
  refine list_val (.agg (kc N)) (by kernel_rfl) (exec_nonce _ (.tmp 20) rfl w.heap.size (by kernel_rfl) K N (some ⟨gq, 0, none⟩) n c5 (unhide hu) (hG.blk (unhide hU))) ?_
  simp only [Act.put, List.setIfInBounds_toArray, List.set_cons_zero, List.set_cons_succ, List.getElem_toArray, List.getElem_cons_zero, List.getElem_cons_succ]
  refine list_val (.pointer (some ⟨w.heap.size, 44, none⟩)) (by kernel_rfl) (by kernel_rfl) ?_
  simp only [Act.put, List.setIfInBounds_toArray, List.set_cons_zero, List.set_cons_succ, List.getElem_toArray, List.getElem_cons_zero, List.getElem_cons_succ]
  refine list_val (.slice (some ⟨gq, 0, none⟩) n c5) (by kernel_rfl) (exec_ad _ (.tmp 22) rfl w.heap.size (by kernel_rfl) K N (some ⟨gq, 0, none⟩) n c5 (unhide hu) (hG.blk (unhide hU))) ?_
  simp only [Act.put, List.setIfInBounds_toArray, List.set_cons_zero, List.set_cons_succ, List.getElem_toArray, List.getElem_cons_zero, List.getElem_cons_succ]
  refine list_val (.slice s3 m cap2) (by kernel_rfl) (by kernel_rfl) ?_
  simp only [Act.put, List.setIfInBounds_toArray, List.set_cons_zero, List.set_cons_succ, List.getElem_toArray, List.getElem_cons_zero, List.getElem_cons_succ]
  have hgw := hG.size
  refine list_call 14 #[.agg (kc K), .agg (kc N), .slice (some ⟨gq, 0, none⟩) n c5, .slice s3 m cap2] (by kernel_rfl) (by kernel_rfl) ((seal_ok K N (unhide hu).kl (unhide hu).nl (unhide hu).kb (unhide hu).nb A P _ s3 n m c5 cap2 (by omega) _ ((unhide lA).gr hG) ((unhide lP).gr hG)).mono ?_)
  rintro r v4 ⟨v4_, rfl, ob8, hg⟩
  refine ⟨_, rfl, ?_⟩
  replace hG := hG.trans hg
  have hPl := (unhide lP).len
  have hSl : (sealL K N A P).length = m + 16 := by rw [sealL_len, hPl]
  obtain ⟨gb, cb, cur, rfl, hgb, hcur, hcb, hmx8, hcz, htk⟩ := ob8.some (fun e => by rw [e] at hSl; simp at hSl)
  replace hgb := Nat.le_trans hgw hgb
  obtain ⟨nb, hnb⟩ : ∃ x, x = m + 16 := ⟨_, rfl⟩
  rw [hSl, ← hnb] at hcb htk ⊢
  have hnb2 : nb ≤ 4000 := by omega
  have k1 : (nb : Int) - 16 = (m : Int) := by omega
  have k2 : IntKind.i64.wrap (m : Int) = (m : Int) := by rw [IntKind.wrap_i64]; omega
  have hcbx : cb < 9223372036854775808 := by unfold maxLen at hmx8; omega
  have hczn : nb ≤ cb := hcb
  have hB8 : Hid (Bl v3 [⟨gb, cur, 5⟩] v4) := (Bl.nil v3).join hG [⟨gb, cur, 5⟩] (by intro x hx; rw [List.mem_singleton] at hx; subst hx; exact ⟨hcur, hgb⟩) (List.pairwise_singleton _ _)
  have htk0 : Hid (cur.toList.take nb = (xl K N 1 P ++ fil (tf (tagL K N A (xl K N 1 P)) V) 0 (tagL K N A (xl K N 1 P))).map (Value.int .u8)) := by
    rw [fil_zero]
    exact htk
  replace hcz := hide hcz
  replace hnb := hide hnb
  clear hg ob8 htk hgw hcur hmx8 hG hSl
  have hXl : Hid ((xl K N 1 P).length = m) := by rw [xl_len]; exact hPl
  have hXb := hide (xl_isB K N 1 P)
  have hYl := tagL_len K N A (xl K N 1 P)
  have hYb := hide (tagL_isB K N A (xl K N 1 P))
  have hSE : Hid (sealL K N A P = xl K N 1 P ++ tagL K N A (xl K N 1 P)) := rfl
  have hnot := hide (turned_not K N A P V (unhide lP).isB hV (unhide hVb) (unhide hVz))
  generalize tagL K N A (xl K N 1 P) = Y at *
  generalize xl K N 1 P = X at *
  replace hPl := hide hPl
  simp only [Act.put, List.setIfInBounds_toArray, List.set_cons_zero, List.set_cons_succ, List.getElem_toArray, List.getElem_cons_zero, List.getElem_cons_succ]
  (refine wpList_step fun K hK => ?_; replace hK := hide hK; go_simp; refine unhide hK _ _ ?_; clear hK K)
  refine wpList_nil ?_
  go_upto_region 5 with fail
  refine wp_region_lit ?_
  refine list_val (.slice (some ⟨gb, 0, none⟩) nb cb) (by kernel_rfl) (by kernel_rfl) ?_
  simp only [Act.put, List.setIfInBounds_toArray, List.set_cons_zero, List.set_cons_succ, List.getElem_toArray, List.getElem_cons_zero, List.getElem_cons_succ]
  refine list_val (.int .i64 nb) (by kernel_rfl) (by kernel_rfl) ?_
  simp only [Act.put, List.setIfInBounds_toArray, List.set_cons_zero, List.set_cons_succ, List.getElem_toArray, List.getElem_cons_zero, List.getElem_cons_succ]
  refine list_val (.int .i64 m) (by kernel_rfl) (by go_simp) ?_
  simp only [Act.put, List.setIfInBounds_toArray, List.set_cons_zero, List.set_cons_succ, List.getElem_toArray, List.getElem_cons_zero, List.getElem_cons_succ]
  (refine wpList_step fun K hK => ?_; replace hK := hide hK; go_simp; refine unhide hK _ _ ?_; clear hK K)
  refine wpList_nil ?_
  clear k1 k2
  go_wp2_with fail
  go_loopw [29] (fun i wr => ∃ k : Nat, ∃ cc : Array Value, k ≤ 16 ∧ i = .int .i64 k ∧ Hid (cc.toList.take nb = (X ++ fil (tf Y V) k Y).map (Value.int .u8)) ∧ Hid (Bl v3 [⟨gb, cc, 5⟩] wr)) (fun i _ => 16 - (intOf i).toNat)
  case atStart => exact ⟨0, cur, by omega, rfl, htk0, hB8⟩
  case round =>
  clear hB8 htk0
  obtain ⟨k, cc, hk, rfl, htk, hB8⟩ := hrel
  have hLk : Hid ((X ++ fil (tf Y V) k Y).length = nb) := by
    show (X ++ fil (tf Y V) k Y).length = nb
    rw [List.length_append, fil_len _ _ _ (by omega), hYl, unhide hXl, unhide hnb]
  have hat : Hid (At wr gb 0 (X ++ fil (tf Y V) k Y)) := at_take ((unhide hB8).get 0 (x := ⟨gb, cc, 5⟩) rfl) (by rw [unhide hLk]; exact unhide htk)
  by_cases hkl : k < 16
  · have kI : (k : Int) < 16 := by omega
    obtain ⟨j, hj⟩ : ∃ j, j = m + k := ⟨_, rfl⟩
    have j1 : (m : Int) + (k : Int) = (j : Int) := by omega
    have j2 : IntKind.i64.wrap (j : Int) = (j : Int) := by rw [IntKind.wrap_i64]; omega
    have j4 : j < nb := by have := unhide hnb; omega
    obtain ⟨y, hy⟩ : ∃ y, y = Y.getD k 0 := ⟨_, rfl⟩
    obtain ⟨v, hv⟩ : ∃ y, y = V.getD k 0 := ⟨_, rfl⟩
    have htk2 : Hid ((cc.setIfInBounds j (.int .u8 (xb y v))).toList.take nb = (X ++ fil (tf Y V) (k + 1) Y).map (Value.int .u8)) := by
      show (cc.setIfInBounds j (.int .u8 (xb y v))).toList.take nb = _
      rw [take_set_cells, unhide htk, ← List.map_set, hj, turn_step X Y V m k (unhide hXl) hYl hkl (xb y v) (by rw [hy, hv]; rfl)]
    have hB9 := (unhide hB8).cell 0 (x := ⟨gb, cc, 5⟩) rfl j (.int .u8 (xb y v))
    simp only [List.set_cons_zero] at hB9
    have c0 : wr.cell? ⟨gb, j, none⟩ = some (.int .u8 y) := by
      have h := (unhide hat) j (by rw [unhide hLk]; exact j4)
      rw [Nat.zero_add, hj, turn_get X Y V m k (unhide hXl) hYl hkl, ← hy, ← hj] at h
      exact h
    have fz := froz_of (i := j) ((unhide hB8).get 0 (x := ⟨gb, cc, 5⟩) rfl)
    dsimp only at fz
    have hne : w.heap.size + 1 ≠ gb := by
      have h := lt_of_block (unhide hX0)
      omega
    have hX1 : wr.heap[w.heap.size + 1]? = some (.cells (kc V) 41 (0, 0)) := (unhide hB8).gr.blk (unhide hX0)
    replace hy := hide hy; replace hv := hide hv; replace hj := hide hj; replace hB9 := hide hB9; replace hX1 := hide hX1; replace c0 := hide c0; replace fz := hide fz
    go_upto_region 9 with fail
    refine any_start (S := fun v_ => v_.heap[w.heap.size + 1]? = some (.cells (kc V) 41 (0, 0))) (by kernel_rfl) ?_
    have hX1b : (World.drew wr).heap[w.heap.size + 1]? = some (.cells (kc V) 41 (0, 0)) := unhide hX1
    have c0b : (World.drew wr).cell? ⟨gb, j, none⟩ = some (.int .u8 y) := unhide c0
    have fzb : (World.drew wr).frozen? ⟨gb, j, none⟩ = false := unhide fz
    have hB9b := (unhide hB8).drew.cell 0 (x := ⟨gb, cc, 5⟩) rfl j (.int .u8 (xb y v))
    simp only [List.set_cons_zero] at hB9b
    clear hX1 c0 fz hB9 hB8 hat
    have hX1 := hX1b; have c0 := hide c0b; have fz := hide fzb; have hB9 := hide hB9b
    clear hX1b c0b fzb hB9b
    generalize World.drew _ = x0 at *
    simp only [List.size_toArray, List.length_cons, List.length_nil, Array.replicate, List.replicate]
    refine any_take (i := 0) (v := (.slice (some ⟨gb, 0, none⟩) nb cb)) #[false, false, false, false, false, false, false, false, false, false, false, false] rfl (by kernel_rfl) (by kernel_rfl) (by kernel_rfl) (by kernel_rfl) (fun _ _ _ h => h) (.inl ⟨by kernel_rfl, fun x_ hu => by kernel_rfl⟩) hX1 ?_
    simp only [Act.put, List.setIfInBounds_toArray, List.set_cons_zero, List.set_cons_succ, List.getElem_toArray, List.getElem_cons_zero, List.getElem_cons_succ]
    refine any_take (i := 1) (v := (.int .i64 m)) #[true, false, false, false, false, false, false, false, false, false, false, false] rfl (by kernel_rfl) (by kernel_rfl) (by kernel_rfl) (by kernel_rfl) (fun _ _ _ h => h) (.inl ⟨by kernel_rfl, fun x_ hu => by kernel_rfl⟩) hX1 ?_
    simp only [Act.put, List.setIfInBounds_toArray, List.set_cons_zero, List.set_cons_succ, List.getElem_toArray, List.getElem_cons_zero, List.getElem_cons_succ]
    refine any_take (i := 2) (v := (.int .i64 k)) #[true, true, false, false, false, false, false, false, false, false, false, false] rfl (by kernel_rfl) (by kernel_rfl) (by kernel_rfl) (by kernel_rfl) (fun _ _ _ h => h) (.inl ⟨by kernel_rfl, fun x_ hu => by kernel_rfl⟩) hX1 ?_
    simp only [Act.put, List.setIfInBounds_toArray, List.set_cons_zero, List.set_cons_succ, List.getElem_toArray, List.getElem_cons_zero, List.getElem_cons_succ]
    refine any_take (i := 3) (v := (.int .i64 j)) #[true, true, true, false, false, false, false, false, false, false, false, false] rfl (by kernel_rfl) (by kernel_rfl) (by kernel_rfl) (by kernel_rfl) (fun _ _ _ h => h) (.inl ⟨by kernel_rfl, fun x_ hu => by go_simp⟩) hX1 ?_
    simp only [Act.put, List.setIfInBounds_toArray, List.set_cons_zero, List.set_cons_succ, List.getElem_toArray, List.getElem_cons_zero, List.getElem_cons_succ]
    refine any_take (i := 4) (v := (.pointer (some ⟨gb, 0 + j, none⟩))) #[true, true, true, true, false, false, false, false, false, false, false, false] rfl (by kernel_rfl) (by kernel_rfl) (by kernel_rfl) (by kernel_rfl) (fun _ _ _ h => h) (.inl ⟨by kernel_rfl, fun x_ hu => exec_at _ (.tmp 32) (.tmp 35) rfl gb 0 nb cb j rfl rfl j4⟩) hX1 ?_
    simp only [Act.put, List.setIfInBounds_toArray, List.set_cons_zero, List.set_cons_succ, List.getElem_toArray, List.getElem_cons_zero, List.getElem_cons_succ]
    refine any_take (i := 6) (v := (.int .i64 k)) #[true, true, true, true, true, false, false, false, false, false, false, false] rfl (by kernel_rfl) (by kernel_rfl) (by kernel_rfl) (by kernel_rfl) (fun _ _ _ h => h) (.inl ⟨by kernel_rfl, fun x_ hu => by kernel_rfl⟩) hX1 ?_
    simp only [Act.put, List.setIfInBounds_toArray, List.set_cons_zero, List.set_cons_succ, List.getElem_toArray, List.getElem_cons_zero, List.getElem_cons_succ]
    refine any_take (i := 7) (v := (.pointer (some ⟨w.heap.size + 1, k, none⟩))) #[true, true, true, true, true, false, true, false, false, false, false, false] rfl (by kernel_rfl) (by kernel_rfl) (by kernel_rfl) (by kernel_rfl) (fun _ _ _ h => h) (.inl ⟨by kernel_rfl, fun x_ hu => by go_simp⟩) hX1 ?_
    simp only [Act.put, List.setIfInBounds_toArray, List.set_cons_zero, List.set_cons_succ, List.getElem_toArray, List.getElem_cons_zero, List.getElem_cons_succ]
    refine any_take (i := 8) (v := (.int .u8 v)) #[true, true, true, true, true, false, true, true, false, false, false, false] rfl (by kernel_rfl) (by kernel_rfl) (by kernel_rfl) (by kernel_rfl) (fun _ _ _ h => h) (.inl ⟨by kernel_rfl, fun x_ hu => exec_u8 _ (.tmp 39) rfl (w.heap.size + 1) k (by kernel_rfl) v (by have h := kc_cell hu k (by omega); rw [← unhide hv] at h; exact h)⟩) hX1 ?_
    simp only [Act.put, List.setIfInBounds_toArray, List.set_cons_zero, List.set_cons_succ, List.getElem_toArray, List.getElem_cons_zero, List.getElem_cons_succ]
    refine any_one (i := 5) (by kernel_rfl) rfl (fun K_ hQ => ?_)
    refine step_val (.int .u8 y) x0 (by kernel_rfl) (exec_u8 _ (.tmp 36) rfl gb (0 + j) (by kernel_rfl) y (by rw [Nat.zero_add]; exact unhide c0)) ?_
    refine hQ.out _ _ hX1 (fun _ => ?_)
    clear hQ K_
    simp only [Act.put, List.setIfInBounds_toArray, List.set_cons_zero, List.set_cons_succ, List.getElem_toArray, List.getElem_cons_zero, List.getElem_cons_succ]
    refine any_take (i := 9) (v := (.int .u8 (xb y v))) #[true, true, true, true, true, true, true, true, true, false, false, false] rfl (by kernel_rfl) (by kernel_rfl) (by kernel_rfl) (by kernel_rfl) (fun _ _ _ h => h) (.inl ⟨by kernel_rfl, fun x_ hu => by kernel_rfl⟩) hX1 ?_
    simp only [Act.put, List.setIfInBounds_toArray, List.set_cons_zero, List.set_cons_succ, List.getElem_toArray, List.getElem_cons_zero, List.getElem_cons_succ]
    refine any_take (i := 10) (v := (.pointer (some ⟨gb, 0 + j, none⟩))) #[true, true, true, true, true, true, true, true, true, true, false, false] rfl (by kernel_rfl) (by kernel_rfl) (by kernel_rfl) (by kernel_rfl) (fun _ _ _ h => h) (.inl ⟨by kernel_rfl, fun x_ hu => exec_at _ (.tmp 32) (.tmp 35) rfl gb 0 nb cb j rfl rfl j4⟩) hX1 ?_
    simp only [Act.put, List.setIfInBounds_toArray, List.set_cons_zero, List.set_cons_succ, List.getElem_toArray, List.getElem_cons_zero, List.getElem_cons_succ]
    refine any_one (i := 11) (by kernel_rfl) rfl (fun K_ hQ => ?_)
    have c1 : x0.cell? ⟨gb, 0 + j, none⟩ = some (.int .u8 y) := by rw [Nat.zero_add]; exact unhide c0
    have f1 : x0.frozen? ⟨gb, 0 + j, none⟩ = false := by rw [Nat.zero_add]; exact unhide fz
    replace hB9 : Hid (Bl v3 [⟨gb, cc.setIfInBounds j (.int .u8 (xb y v)), 5⟩] (x0.setCell ⟨gb, 0 + j, none⟩ (.int .u8 (xb y v)))) := by
      rw [Nat.zero_add]
      exact unhide hB9
    have hX2 : (x0.setCell ⟨gb, 0 + j, none⟩ (.int .u8 (xb y v))).heap[w.heap.size + 1]? = some (.cells (kc V) 41 (0, 0)) := (Below.heap_setCell x0 ⟨gb, 0 + j, none⟩ _ (w.heap.size + 1) hne).trans hX1
    generalize hw9 : x0.setCell ⟨gb, 0 + j, none⟩ (.int .u8 (xb y v)) = x1 at hB9 hX2
    replace hw9 := hide hw9
    rw [if_pos (by kernel_rfl)]
    refine store_u8 (.tmp 42) (.tmp 41) rfl gb (0 + j) (by kernel_rfl) (xb y v) (by kernel_rfl) _ c1 f1 ?_
    rw [unhide hw9]
    refine hQ.out _ _ hX2 (fun _ => ?_)
    clear hQ K_
    simp only [Act.put, List.setIfInBounds_toArray, List.set_cons_zero, List.set_cons_succ, List.getElem_toArray, List.getElem_cons_zero, List.getElem_cons_succ]
    refine any_done (by kernel_rfl) ?_
    clear c0 fz c1 f1 hX1 hX2 hw9
    go_wp2_with fail
    go_roundw
    case rel => exact ⟨k + 1, _, by omega, by go_num, htk2, hB9⟩
    case measure => simp [intOf]; omega
  have e16 : k = 16 := by omega
  have kI : ¬ (k : Int) < 16 := by omega
  have lS : Hid (Lb wr (some ⟨gb, 0, none⟩) nb cb (X ++ tz Y V)) := by
    subst e16
    exact ⟨unhide hLk, (unhide hXb).append (tz_isB Y V hYl), .inr ⟨gb, 0, rfl, unhide hat⟩, hczn, hcbx⟩
  have hG := (unhide hB8).gr
  clear hB8 htk hat hLk e16
  replace hG := hide hG
  go_upto_region 11 with fail
  replace hG := unhide hG
  refine wp_region_lit ?_
  refine list_val (.pointer (some ⟨w.heap.size, 0, none⟩)) (by kernel_rfl) (by kernel_rfl) ?_
  simp only [Act.put, List.setIfInBounds_toArray, List.set_cons_zero, List.set_cons_succ, List.getElem_toArray, List.getElem_cons_zero, List.getElem_cons_succ]
  refine list_val (.agg (kc K)) (by kernel_rfl) (exec_key _ (.tmp 45) rfl w.heap.size (by kernel_rfl) K N (some ⟨gq, 0, none⟩) n c5 (unhide hu) (hG.blk (unhide hU))) ?_
  simp only [Act.put, List.setIfInBounds_toArray, List.set_cons_zero, List.set_cons_succ, List.getElem_toArray, List.getElem_cons_zero, List.getElem_cons_succ]
  refine list_val (.pointer (some ⟨w.heap.size, 32, none⟩)) (by kernel_rfl) (by kernel_rfl) ?_
  simp only [Act.put, List.setIfInBounds_toArray, List.set_cons_zero, List.set_cons_succ, List.getElem_toArray, List.getElem_cons_zero, List.getElem_cons_succ]
  refine list_val (.agg (kc N)) (by kernel_rfl) (exec_nonce _ (.tmp 47) rfl w.heap.size (by kernel_rfl) K N (some ⟨gq, 0, none⟩) n c5 (unhide hu) (hG.blk (unhide hU))) ?_
  simp only [Act.put, List.setIfInBounds_toArray, List.set_cons_zero, List.set_cons_succ, List.getElem_toArray, List.getElem_cons_zero, List.getElem_cons_succ]
  refine list_val (.pointer (some ⟨w.heap.size, 44, none⟩)) (by kernel_rfl) (by kernel_rfl) ?_
  simp only [Act.put, List.setIfInBounds_toArray, List.set_cons_zero, List.set_cons_succ, List.getElem_toArray, List.getElem_cons_zero, List.getElem_cons_succ]
  refine list_val (.slice (some ⟨gq, 0, none⟩) n c5) (by kernel_rfl) (exec_ad _ (.tmp 49) rfl w.heap.size (by kernel_rfl) K N (some ⟨gq, 0, none⟩) n c5 (unhide hu) (hG.blk (unhide hU))) ?_
  simp only [Act.put, List.setIfInBounds_toArray, List.set_cons_zero, List.set_cons_succ, List.getElem_toArray, List.getElem_cons_zero, List.getElem_cons_succ]
  refine list_val (.slice (some ⟨gb, 0, none⟩) nb cb) (by kernel_rfl) (by kernel_rfl) ?_
  simp only [Act.put, List.setIfInBounds_toArray, List.set_cons_zero, List.set_cons_succ, List.getElem_toArray, List.getElem_cons_zero, List.getElem_cons_succ]
  refine list_call 17 #[.agg (kc K), .agg (kc N), .slice (some ⟨gq, 0, none⟩) n c5, .slice (some ⟨gb, 0, none⟩) nb cb] (by kernel_rfl) (by kernel_rfl) ((open_no K N (unhide hu).kl (unhide hu).nl (unhide hu).kb (unhide hu).nb A (X ++ tz Y V) _ _ n nb c5 cb (by omega) _ ((unhide lA).gr hG) (unhide lS) (unhide hnot)).mono ?_)
  rintro r v5 ⟨rfl, hg⟩
  refine ⟨_, rfl, ?_⟩
  replace hG := hG.trans hg
  replace lS := hide ((unhide lS).gr hg)
  clear hg
  simp only [Act.put, List.setIfInBounds_toArray, List.set_cons_zero, List.set_cons_succ, List.getElem_toArray, List.getElem_cons_zero, List.getElem_cons_succ]
  refine list_val (.tuple #[.slice none 0 0, .int .i64 180]) (by kernel_rfl) (by kernel_rfl) ?_
  simp only [Act.put, List.setIfInBounds_toArray, List.set_cons_zero, List.set_cons_succ, List.getElem_toArray, List.getElem_cons_zero, List.getElem_cons_succ]
  refine list_val (.slice none 0 0) (by kernel_rfl) (by kernel_rfl) ?_
  simp only [Act.put, List.setIfInBounds_toArray, List.set_cons_zero, List.set_cons_succ, List.getElem_toArray, List.getElem_cons_zero, List.getElem_cons_succ]
  refine list_val (.int .i64 180) (by kernel_rfl) (by kernel_rfl) ?_
  simp only [Act.put, List.setIfInBounds_toArray, List.set_cons_zero, List.set_cons_succ, List.getElem_toArray, List.getElem_cons_zero, List.getElem_cons_succ]
  (refine wpList_step fun K hK => ?_; replace hK := hide hK; go_simp; refine unhide hK _ _ ?_; clear hK K)
  (refine wpList_step fun K hK => ?_; replace hK := hide hK; go_simp; refine unhide hK _ _ ?_; clear hK K)
  refine wpList_nil ?_
  replace hG := hide hG
  go_upto_region 12 with fail
  replace hG := unhide hG
  refine wp_region_lit ?_
  refine list_val (.agg (kc V)) (by kernel_rfl) (exec_arr _ 41 (.tmp 5) rfl (w.heap.size + 1) (by kernel_rfl) (kc V) 41 _ (hG.blk (unhide hX0)) Try.underlying41 rfl (by rw [Try.infoT, kc_size, hV])) ?_
  simp only [Act.put, List.setIfInBounds_toArray, List.set_cons_zero, List.set_cons_succ, List.getElem_toArray, List.getElem_cons_zero, List.getElem_cons_succ]
  refine list_val (.agg (kc ZT)) (by kernel_rfl) (by kernel_rfl) ?_
  simp only [Act.put, List.setIfInBounds_toArray, List.set_cons_zero, List.set_cons_succ, List.getElem_toArray, List.getElem_cons_zero, List.getElem_cons_succ]
  refine list_val (.bool false) (by kernel_rfl) (by have e := fun w_ => (eq_T V ZT hV rfl w_).trans (by rw [decide_eq_false (unhide hVz)]); go_simp) ?_
  simp only [Act.put, List.setIfInBounds_toArray, List.set_cons_zero, List.set_cons_succ, List.getElem_toArray, List.getElem_cons_zero, List.getElem_cons_succ]
  refine wpList_nil ?_
  replace hG := hide hG
  go_upto_region 14 with fail
  replace hG := unhide hG
  refine wp_region_lit ?_
  refine list_val (.int .i64 180) (by kernel_rfl) (by kernel_rfl) ?_
  simp only [Act.put, List.setIfInBounds_toArray, List.set_cons_zero, List.set_cons_succ, List.getElem_toArray, List.getElem_cons_zero, List.getElem_cons_succ]
  refine list_val (.bool false) (by kernel_rfl) (by kernel_rfl) ?_
  simp only [Act.put, List.setIfInBounds_toArray, List.set_cons_zero, List.set_cons_succ, List.getElem_toArray, List.getElem_cons_zero, List.getElem_cons_succ]
  refine list_val (.bool false) (by kernel_rfl) (by kernel_rfl) ?_
  simp only [Act.put, List.setIfInBounds_toArray, List.set_cons_zero, List.set_cons_succ, List.getElem_toArray, List.getElem_cons_zero, List.getElem_cons_succ]
  refine list_val (.slice none 0 0) (by kernel_rfl) (by kernel_rfl) ?_
  simp only [Act.put, List.setIfInBounds_toArray, List.set_cons_zero, List.set_cons_succ, List.getElem_toArray, List.getElem_cons_zero, List.getElem_cons_succ]
  refine list_val (.int .i64 0) (by kernel_rfl) (by kernel_rfl) ?_
  simp only [Act.put, List.setIfInBounds_toArray, List.set_cons_zero, List.set_cons_succ, List.getElem_toArray, List.getElem_cons_zero, List.getElem_cons_succ]
  refine list_val (.bool false) (by kernel_rfl) (by kernel_rfl) ?_
  simp only [Act.put, List.setIfInBounds_toArray, List.set_cons_zero, List.set_cons_succ, List.getElem_toArray, List.getElem_cons_zero, List.getElem_cons_succ]
  refine list_val (.bool false) (by kernel_rfl) (by kernel_rfl) ?_
  simp only [Act.put, List.setIfInBounds_toArray, List.set_cons_zero, List.set_cons_succ, List.getElem_toArray, List.getElem_cons_zero, List.getElem_cons_succ]
  refine wpList_nil ?_
  obtain ⟨m1, hm1⟩ : ∃ x, x = m + 1 := ⟨_, rfl⟩
  have q1 : (m : Int) + 1 = (m1 : Int) := by omega
  have q2 : IntKind.i64.wrap (m1 : Int) = (m1 : Int) := by rw [IntKind.wrap_i64]; omega
  obtain ⟨c7, hc7⟩ : ∃ x, x = cb - m1 := ⟨_, rfl⟩
  obtain ⟨s7, hs7⟩ : ∃ x, x = if cb = m1 then (some ⟨gb, 0, none⟩ : Option Addr) else (some ⟨gb, 0, none⟩ : Option Addr).map (·.add m1) := ⟨_, rfl⟩
  have q15 : nb - m1 = 15 := by have := unhide hnb; omega
  have hle : m1 ≤ nb := by have := unhide hnb; omega
  replace hm1 := hide hm1; replace hc7 := hide hc7; replace hs7 := hide hs7; replace q15 := hide q15
  replace hG := hide hG
  go_upto_region 16 with fail
  replace hG := unhide hG
  refine any_start (S := fun v_ => Gr v3 v_) (by kernel_rfl) ?_
  have hus := hu
  clear hu
  replace hG := hG.drew
  generalize World.drew _ = x7 at *
  simp only [List.size_toArray, List.length_cons, List.length_nil, Array.replicate, List.replicate]
  refine any_take (i := 0) (v := (.pointer (some ⟨w.heap.size, 0, none⟩))) #[false, false, false, false, false, false, false, false, false, false, false, false, false, false, false, false] rfl (by kernel_rfl) (by kernel_rfl) (by kernel_rfl) (by kernel_rfl) (fun _ _ _ h => h) (.inl ⟨by kernel_rfl, fun x_ hu => by kernel_rfl⟩) hG ?_
  simp only [Act.put, List.setIfInBounds_toArray, List.set_cons_zero, List.set_cons_succ, List.getElem_toArray, List.getElem_cons_zero, List.getElem_cons_succ]
  refine any_take (i := 1) (v := (.agg (kc K))) #[true, false, false, false, false, false, false, false, false, false, false, false, false, false, false, false] rfl (by kernel_rfl) (by kernel_rfl) (by kernel_rfl) (by kernel_rfl) (fun _ _ _ h => h) (.inl ⟨by kernel_rfl, fun x_ hu => exec_key _ (.tmp 73) rfl w.heap.size (by kernel_rfl) K N (some ⟨gq, 0, none⟩) n c5 (unhide hus) (hu.blk (unhide hU))⟩) hG ?_
  simp only [Act.put, List.setIfInBounds_toArray, List.set_cons_zero, List.set_cons_succ, List.getElem_toArray, List.getElem_cons_zero, List.getElem_cons_succ]
  refine any_take (i := 2) (v := (.pointer (some ⟨w.heap.size, 32, none⟩))) #[true, true, false, false, false, false, false, false, false, false, false, false, false, false, false, false] rfl (by kernel_rfl) (by kernel_rfl) (by kernel_rfl) (by kernel_rfl) (fun _ _ _ h => h) (.inl ⟨by kernel_rfl, fun x_ hu => by kernel_rfl⟩) hG ?_
  simp only [Act.put, List.setIfInBounds_toArray, List.set_cons_zero, List.set_cons_succ, List.getElem_toArray, List.getElem_cons_zero, List.getElem_cons_succ]
  refine any_take (i := 3) (v := (.agg (kc N))) #[true, true, true, false, false, false, false, false, false, false, false, false, false, false, false, false] rfl (by kernel_rfl) (by kernel_rfl) (by kernel_rfl) (by kernel_rfl) (fun _ _ _ h => h) (.inl ⟨by kernel_rfl, fun x_ hu => exec_nonce _ (.tmp 75) rfl w.heap.size (by kernel_rfl) K N (some ⟨gq, 0, none⟩) n c5 (unhide hus) (hu.blk (unhide hU))⟩) hG ?_
  simp only [Act.put, List.setIfInBounds_toArray, List.set_cons_zero, List.set_cons_succ, List.getElem_toArray, List.getElem_cons_zero, List.getElem_cons_succ]
  refine any_take (i := 4) (v := (.pointer (some ⟨w.heap.size, 44, none⟩))) #[true, true, true, true, false, false, false, false, false, false, false, false, false, false, false, false] rfl (by kernel_rfl) (by kernel_rfl) (by kernel_rfl) (by kernel_rfl) (fun _ _ _ h => h) (.inl ⟨by kernel_rfl, fun x_ hu => by kernel_rfl⟩) hG ?_
  simp only [Act.put, List.setIfInBounds_toArray, List.set_cons_zero, List.set_cons_succ, List.getElem_toArray, List.getElem_cons_zero, List.getElem_cons_succ]
  refine any_take (i := 5) (v := (.slice (some ⟨gq, 0, none⟩) n c5)) #[true, true, true, true, true, false, false, false, false, false, false, false, false, false, false, false] rfl (by kernel_rfl) (by kernel_rfl) (by kernel_rfl) (by kernel_rfl) (fun _ _ _ h => h) (.inl ⟨by kernel_rfl, fun x_ hu => exec_ad _ (.tmp 77) rfl w.heap.size (by kernel_rfl) K N (some ⟨gq, 0, none⟩) n c5 (unhide hus) (hu.blk (unhide hU))⟩) hG ?_
  simp only [Act.put, List.setIfInBounds_toArray, List.set_cons_zero, List.set_cons_succ, List.getElem_toArray, List.getElem_cons_zero, List.getElem_cons_succ]
  refine any_take (i := 6) (v := (.slice (some ⟨gb, 0, none⟩) nb cb)) #[true, true, true, true, true, true, false, false, false, false, false, false, false, false, false, false] rfl (by kernel_rfl) (by kernel_rfl) (by kernel_rfl) (by kernel_rfl) (fun _ _ _ h => h) (.inl ⟨by kernel_rfl, fun x_ hu => by kernel_rfl⟩) hG ?_
  simp only [Act.put, List.setIfInBounds_toArray, List.set_cons_zero, List.set_cons_succ, List.getElem_toArray, List.getElem_cons_zero, List.getElem_cons_succ]
  refine any_take (i := 7) (v := (.int .i64 m)) #[true, true, true, true, true, true, true, false, false, false, false, false, false, false, false, false] rfl (by kernel_rfl) (by kernel_rfl) (by kernel_rfl) (by kernel_rfl) (fun _ _ _ h => h) (.inl ⟨by kernel_rfl, fun x_ hu => by kernel_rfl⟩) hG ?_
  simp only [Act.put, List.setIfInBounds_toArray, List.set_cons_zero, List.set_cons_succ, List.getElem_toArray, List.getElem_cons_zero, List.getElem_cons_succ]
  refine any_take (i := 8) (v := (.int .i64 m1)) #[true, true, true, true, true, true, true, true, false, false, false, false, false, false, false, false] rfl (by kernel_rfl) (by kernel_rfl) (by kernel_rfl) (by kernel_rfl) (fun _ _ _ h => h) (.inl ⟨by kernel_rfl, fun x_ hu => by go_simp⟩) hG ?_
  simp only [Act.put, List.setIfInBounds_toArray, List.set_cons_zero, List.set_cons_succ, List.getElem_toArray, List.getElem_cons_zero, List.getElem_cons_succ]
  refine any_take (i := 9) (v := (.slice s7 15 c7)) #[true, true, true, true, true, true, true, true, true, false, false, false, false, false, false, false] rfl (by kernel_rfl) (by kernel_rfl) (by kernel_rfl) (by kernel_rfl) (fun _ _ _ h => h) (.inl ⟨by kernel_rfl, fun x_ hu => by rw [unhide hs7, unhide hc7, ← unhide q15]; exact exec_from _ (.tmp 79) (.tmp 81) rfl (some ⟨gb, 0, none⟩) nb cb m1 rfl rfl hczn hle⟩) hG ?_
  simp only [Act.put, List.setIfInBounds_toArray, List.set_cons_zero, List.set_cons_succ, List.getElem_toArray, List.getElem_cons_zero, List.getElem_cons_succ]
  refine any_one (i := 10) (by kernel_rfl) rfl (fun K_ hQ => ?_)
  refine step_callw (by kernel_rfl) 17 #[.agg (kc K), .agg (kc N), .slice (some ⟨gq, 0, none⟩) n c5, .slice s7 15 c7] (by kernel_rfl) ((open_short K N (unhide hus).kl (unhide hus).nl (unhide hus).kb (unhide hus).nb A [] _ s7 n 15 c5 c7 (by omega) _).mono ?_)
  rintro r x8 ⟨rfl, hg⟩
  refine ⟨_, rfl, ?_⟩
  replace hG := hG.trans hg
  clear hg
  refine hQ.out _ _ hG (fun _ => ?_)
  clear hQ K_
  simp only [Act.put, List.setIfInBounds_toArray, List.set_cons_zero, List.set_cons_succ, List.getElem_toArray, List.getElem_cons_zero, List.getElem_cons_succ]
  refine any_take (i := 11) (v := (.tuple #[.slice none 0 0, .int .i64 180])) #[true, true, true, true, true, true, true, true, true, true, true, false, false, false, false, false] rfl (by kernel_rfl) (by kernel_rfl) (by kernel_rfl) (by kernel_rfl) (fun _ _ _ h => h) (.inl ⟨by kernel_rfl, fun x_ hu => by kernel_rfl⟩) hG ?_
  simp only [Act.put, List.setIfInBounds_toArray, List.set_cons_zero, List.set_cons_succ, List.getElem_toArray, List.getElem_cons_zero, List.getElem_cons_succ]
  refine any_take (i := 12) (v := (.slice none 0 0)) #[true, true, true, true, true, true, true, true, true, true, true, true, false, false, false, false] rfl (by kernel_rfl) (by kernel_rfl) (by kernel_rfl) (by kernel_rfl) (fun _ _ _ h => h) (.inl ⟨by kernel_rfl, fun x_ hu => by kernel_rfl⟩) hG ?_
  simp only [Act.put, List.setIfInBounds_toArray, List.set_cons_zero, List.set_cons_succ, List.getElem_toArray, List.getElem_cons_zero, List.getElem_cons_succ]
  refine any_take (i := 13) (v := (.int .i64 180)) #[true, true, true, true, true, true, true, true, true, true, true, true, true, false, false, false] rfl (by kernel_rfl) (by kernel_rfl) (by kernel_rfl) (by kernel_rfl) (fun _ _ _ h => h) (.inl ⟨by kernel_rfl, fun x_ hu => by kernel_rfl⟩) hG ?_
  simp only [Act.put, List.setIfInBounds_toArray, List.set_cons_zero, List.set_cons_succ, List.getElem_toArray, List.getElem_cons_zero, List.getElem_cons_succ]
  refine any_one (i := 14) (by kernel_rfl) rfl (fun K_ hQ => ?_)
  replace hQ := hide hQ
  go_simp
  refine (unhide hQ).out _ _ hG (fun _ => ?_)
  clear hQ K_
  refine any_one (i := 15) (by kernel_rfl) rfl (fun K_ hQ => ?_)
  replace hQ := hide hQ
  go_simp
  refine (unhide hQ).out _ _ hG (fun _ => ?_)
  clear hQ K_
  refine any_done (by kernel_rfl) ?_
  clear q1 q2
  replace hG := hide hG
  go_upto_region 17 with fail
  replace hG := unhide hG
  refine wp_region_lit ?_
  refine list_val (.int .i64 180) (by kernel_rfl) (by kernel_rfl) ?_
  simp only [Act.put, List.setIfInBounds_toArray, List.set_cons_zero, List.set_cons_succ, List.getElem_toArray, List.getElem_cons_zero, List.getElem_cons_succ]
  refine list_val (.bool true) (by kernel_rfl) (by kernel_rfl) ?_
  simp only [Act.put, List.setIfInBounds_toArray, List.set_cons_zero, List.set_cons_succ, List.getElem_toArray, List.getElem_cons_zero, List.getElem_cons_succ]
  refine list_val (.bool true) (by kernel_rfl) (by kernel_rfl) ?_
  simp only [Act.put, List.setIfInBounds_toArray, List.set_cons_zero, List.set_cons_succ, List.getElem_toArray, List.getElem_cons_zero, List.getElem_cons_succ]
  refine list_val (.slice none 0 0) (by kernel_rfl) (by kernel_rfl) ?_
  simp only [Act.put, List.setIfInBounds_toArray, List.set_cons_zero, List.set_cons_succ, List.getElem_toArray, List.getElem_cons_zero, List.getElem_cons_succ]
  refine list_val (.int .i64 0) (by kernel_rfl) (by kernel_rfl) ?_
  simp only [Act.put, List.setIfInBounds_toArray, List.set_cons_zero, List.set_cons_succ, List.getElem_toArray, List.getElem_cons_zero, List.getElem_cons_succ]
  refine list_val (.bool true) (by kernel_rfl) (by kernel_rfl) ?_
  simp only [Act.put, List.setIfInBounds_toArray, List.set_cons_zero, List.set_cons_succ, List.getElem_toArray, List.getElem_cons_zero, List.getElem_cons_succ]
  refine list_val (.bool true) (by kernel_rfl) (by kernel_rfl) ?_
  simp only [Act.put, List.setIfInBounds_toArray, List.set_cons_zero, List.set_cons_succ, List.getElem_toArray, List.getElem_cons_zero, List.getElem_cons_succ]
  (refine wpList_step fun K hK => ?_; replace hK := hide hK; go_simp; refine unhide hK _ _ ?_; clear hK K)
  refine wpList_nil ?_
  have hF : Hid (Gr w _) := (unhide hGw).trans hG
  clear hG hGw hU
  go_wp2_with fail
  rw [unhide hT]
  exact ⟨rfl, unhide hF⟩
theorem turned_ok (K N : List Int) (hu : Us K N) (A0 : List Int) (s : Option Addr) (len cap : Nat) (B : List Int) (s2 : Option Addr) (len2 cap2 : Nat) (V : List Int) (hV : V.length = 16) (hVb : IsB V) (w : World) (la0 : Lb w s len cap A0) (lB : Lb w s2 len2 cap2 B) : Calls Try.prog 8 #[.agg (usd K N s len cap), .slice s2 len2 cap2, .agg (kc V)] w (Woke w) := by
  by_cases h : V = ZT
  · subst h
    exact turned_zero K N hu A0 s len cap B s2 len2 cap2 w la0 lB
  · exact turned_some K N hu A0 s len cap B s2 len2 cap2 V hV hVb h w la0 lB
end Go.Proofs.Ytdekjbdkpchbjaa
