/-
  The reference: what filled, eight, Tag, Seal, Open and Count answer.
-/
import Derived.Test.YtdekjbdkpchbjaaAeM
namespace Go.Proofs.Ytdekjbdkpchbjaa
open Go.RowKit
set_option maxRecDepth 100000
set_option linter.unusedSimpArgs false
set_option linter.unusedVariables false
theorem Ob.nil (b : Nat) (w : World) : Ob b w (.slice none 0 0) [] := ⟨rfl, .inl ⟨rfl, rfl⟩⟩
set_option maxHeartbeats 4000000 in
theorem reight_ok (n : Int) (hn : 0 ≤ n) (hn2 : n < 18446744073709551616) (w : World) : Calls Try.prog 33 #[.int .u64 n] w (Obd (lowL n 8) w) := by
  obtain ⟨T, hT⟩ : ∃ T, T = Obd (lowL n 8) w := ⟨_, rfl⟩
  rw [← hT]
  replace hT := hide hT
  have hG : Hid (Gr w w) := Gr.refl w
  go_enter Try.func33, Try.ntmps33
  go_wp2_with fail
  go_loopw [4, 3] (fun i o wr => ∃ i' : Nat, ∃ v : Value, ∃ L : List Int, i' ≤ 8 ∧ i = .int .i64 i' ∧ v = o ∧ Hid (L = lowL n i') ∧ Hid (Ob w.heap.size wr v L) ∧ Hid (Gr w wr)) (fun i _ _ => 8 - (intOf i).toNat)
  case atStart => exact ⟨0, _, [], by omega, rfl, rfl, (show ([] : List Int) = lowL n 0 from rfl), Ob.nil _ _, hG⟩
  case round =>
  clear hG
  obtain ⟨i, v, L, hi, rfl, rfl, hL, ob, hG⟩ := hrel
  by_cases hl : i < 8
  · have iI : (i : Int) < 8 := by omega
    have hLl : L.length = i := by rw [unhide hL, lowL_len]
    obtain ⟨x, hx⟩ : ∃ x : Int, x = n / 256 ^ i % 256 := ⟨_, rfl⟩
    have hL2 : Hid (L ++ [x] = lowL n (i + 1)) := by
      show L ++ [x] = _
      rw [lowL_snoc, unhide hL, hx]
    obtain ⟨k, hk⟩ : ∃ k, k = 8 * i := ⟨_, rfl⟩
    have e1 : (8 : Int) * (i : Int) = (k : Int) := by omega
    have e2 : IntKind.i64.wrap (k : Int) = (k : Int) := by rw [IntKind.wrap_i64]; omega
    obtain ⟨q, hq⟩ : ∃ q, n / 2 ^ k = q := ⟨_, rfl⟩
    have hkk : min k 64 = k := by omega
    have e3 : n / 2 ^ min k 64 = q := by rw [hkk]; exact hq
    have e4 : IntKind.u8.wrap q = x := by
      rw [IntKind.wrap_u8', hx, ← hq, hk, Int.pow_mul]
      rfl
    have hx0 : 0 ≤ x ∧ x < 256 := by omega
    replace hx := hide hx
    replace hk := hide hk
    clear hkk
    go_upto_region 5 with fail
    replace hG := unhide hG
    replace ob := unhide ob
    refine wp_region_lit ?_
    refine list_val v (by kernel_rfl) (by kernel_rfl) ?_
    simp only [Act.put, List.setIfInBounds_toArray, List.set_cons_zero, List.set_cons_succ, List.getElem_toArray, List.getElem_cons_zero, List.getElem_cons_succ]
    refine list_val (.int .u64 n) (by kernel_rfl) (by kernel_rfl) ?_
    simp only [Act.put, List.setIfInBounds_toArray, List.set_cons_zero, List.set_cons_succ, List.getElem_toArray, List.getElem_cons_zero, List.getElem_cons_succ]
    refine list_val (.int .i64 i) (by kernel_rfl) (by kernel_rfl) ?_
    simp only [Act.put, List.setIfInBounds_toArray, List.set_cons_zero, List.set_cons_succ, List.getElem_toArray, List.getElem_cons_zero, List.getElem_cons_succ]
    refine list_val (.int .i64 k) (by kernel_rfl) (by go_simp) ?_
    simp only [Act.put, List.setIfInBounds_toArray, List.set_cons_zero, List.set_cons_succ, List.getElem_toArray, List.getElem_cons_zero, List.getElem_cons_succ]
    refine list_val (.int .u64 q) (by kernel_rfl) (by go_simp) ?_
    simp only [Act.put, List.setIfInBounds_toArray, List.set_cons_zero, List.set_cons_succ, List.getElem_toArray, List.getElem_cons_zero, List.getElem_cons_succ]
    refine list_val (.int .u8 x) (by kernel_rfl) (by go_simp) ?_
    simp only [Act.put, List.setIfInBounds_toArray, List.set_cons_zero, List.set_cons_succ, List.getElem_toArray, List.getElem_cons_zero, List.getElem_cons_succ]
    refine list_valw (.slice (some ⟨wr.heap.size, 0, none⟩) 1 1) (wr.alloc (.cells (kc [x]) 5 (0, 0))) (by kernel_rfl) (by kernel_rfl) ?_
    simp only [Act.put, List.setIfInBounds_toArray, List.set_cons_zero, List.set_cons_succ, List.getElem_toArray, List.getElem_cons_zero, List.getElem_cons_succ]
    have hnew := blk_new wr (.cells (kc [x]) 5 (0, 0))
    have hgx := (Gr.refl wr).alloc (.cells (kc [x]) 5 (0, 0))
    replace hG := hG.trans hgx
    replace ob := ob.gr hgx
    clear hgx
    generalize World.alloc _ _ = w1 at *
    generalize wr.heap.size = g1 at *
    refine app_bs (by kernel_rfl) (.tmp 9) (.tmp 15) rfl w.heap.size v L rfl ob (some ⟨g1, 0, none⟩) 1 1 [x] rfl rfl (.inr ⟨g1, 0, rfl, kc_at hnew⟩) (by omega) hG.size ?_
    intro v2 w2 ob2 hgr
    simp only [Act.put, List.setIfInBounds_toArray, List.set_cons_zero, List.set_cons_succ, List.getElem_toArray, List.getElem_cons_zero, List.getElem_cons_succ]
    replace hG := Ob.grown ob (Nat.le_refl _) hG hgr
    clear hgr hnew ob
    (refine wpList_step fun K hK => ?_; replace hK := hide hK; go_simp; refine unhide hK _ _ ?_; clear hK K)
    refine wpList_nil ?_
    replace hG := hide hG
    replace ob2 := hide ob2
    clear e1 e2 e3 e4 hq
    go_wp2_with fail
    go_roundw
    case rel => exact ⟨i + 1, v2, _, by omega, by go_num, rfl, hL2, ob2, hG⟩
    case measure => simp [intOf]; omega
  · have iI : ¬ (i : Int) < 8 := by omega
    have e : i = 8 := by omega
    have hP : Hid (Obd (lowL n 8) w (.returned v) wr) := ⟨v, rfl, by rw [← e, ← unhide hL]; exact unhide ob, unhide hG⟩
    clear ob hG hL e
    go_wp2_with fail
    rw [unhide hT]
    exact unhide hP
set_option maxHeartbeats 4000000 in
theorem rfilled_ok (B : List Int) (a : Option Addr) (n cap : Nat) (hbig : n ≤ 100000) (w : World) (lb : Lb w a n cap B) : Calls Try.prog 32 #[.slice a n cap] w (Obd (pd B) w) := by
  obtain ⟨T, hT⟩ : ∃ T, T = Obd (pd B) w := ⟨_, rfl⟩
  rw [← hT]
  replace hT := hide hT
  have hn := hide lb.len
  replace lb := hide lb
  go_enter Try.func32, Try.ntmps32
  go_upto_region 1 with fail
  refine wp_region_lit ?_
  refine list_valw (.slice (some ⟨w.heap.size, 0, none⟩) 0 0) (w.alloc (.cells (kc []) 5 (0, 0))) (by kernel_rfl) (by kernel_rfl) ?_
  simp only [Act.put, List.setIfInBounds_toArray, List.set_cons_zero, List.set_cons_succ, List.getElem_toArray, List.getElem_cons_zero, List.getElem_cons_succ]
  have hG := (Gr.refl w).alloc (.cells (kc []) 5 (0, 0))
  have ob : Ob w.heap.size (w.alloc (.cells (kc []) 5 (0, 0))) (.slice (some ⟨w.heap.size, 0, none⟩) 0 0) [] := ob_of (blk_new _ _) rfl (Nat.le_refl _) (by omega)
  generalize World.alloc _ _ = w1 at *
  refine list_val (.slice a n cap) (by kernel_rfl) (by kernel_rfl) ?_
  simp only [Act.put, List.setIfInBounds_toArray, List.set_cons_zero, List.set_cons_succ, List.getElem_toArray, List.getElem_cons_zero, List.getElem_cons_succ]
  refine app_bs (by kernel_rfl) (.tmp 4) (.tmp 5) rfl w.heap.size _ [] rfl ob _ n cap B rfl (unhide hn) ((unhide lb).gr hG).sl (by simp; omega) hG.size ?_
  intro v2 w2 ob2 hgr
  simp only [Act.put, List.setIfInBounds_toArray, List.set_cons_zero, List.set_cons_succ, List.getElem_toArray, List.getElem_cons_zero, List.getElem_cons_succ]
  replace hG := Ob.grown ob (Nat.le_refl _) hG hgr
  rw [List.nil_append] at ob2
  clear hgr ob
  (refine wpList_step fun K hK => ?_; replace hK := hide hK; go_simp; refine unhide hK _ _ ?_; clear hK K)
  refine wpList_nil ?_
  have hBl : Hid (B.length = n) := hn
  replace hG := hide hG
  replace ob2 := hide ob2
  go_wp2_with fail
  go_loopw [3] (fun o wr => ∃ k : Nat, ∃ a' : Option Addr, ∃ c' : Nat, ∃ m : Nat, ∃ L : List Int, o = .slice a' m c' ∧ Hid (m = n + k) ∧ k ≤ padz n ∧ Hid (L = B ++ List.replicate k 0) ∧ Hid (Ob w.heap.size wr (.slice a' m c') L) ∧ Hid (Gr w wr)) (fun o _ => n + padz n - slen o)
  case atStart =>
    obtain ⟨a', c', h1, _⟩ := (unhide ob2).slice
    rw [unhide hBl] at h1
    exact ⟨0, a', c', n, B, h1, rfl, Nat.zero_le _, (List.append_nil B).symm, by rw [← h1]; exact ob2, hG⟩
  case round =>
  clear hG ob2
  obtain ⟨k, a', c', m, L, rfl, hm, hk, hL, ob, hG⟩ := hrel
  have hLl : Hid (L.length = m) := by
    show L.length = m
    rw [unhide hL, List.length_append, unhide hBl, List.length_replicate, unhide hm]
  obtain ⟨r, hr⟩ : ∃ r, r = m % 16 := ⟨_, rfl⟩
  have e1 : Int.tmod (m : Int) 16 = (r : Int) := by rw [Int.tmod_eq_emod_of_nonneg (by omega)]; omega
  have hmb : m ≤ 200000 := by have := unhide hm; have := padz_lt n; omega
  by_cases hl : k < padz n
  · have r0 : ¬ (r : Int) = 0 := by have := unhide hm; unfold padz at hl; omega
    have r00 : ¬ r = 0 := by omega
    have hL2 : Hid (L ++ [0] = B ++ List.replicate (k + 1) 0) := by
      show L ++ [0] = _
      rw [unhide hL, List.append_assoc, ← List.replicate_succ']
    have hm2 : Hid (m + 1 = n + (k + 1)) := by have := unhide hm; show m + 1 = _; omega
    replace hr := hide hr
    go_upto_region 3 with fail
    replace hG := unhide hG
    replace ob := unhide ob
    refine wp_region_lit ?_
    refine list_val (.slice a' m c') (by kernel_rfl) (by kernel_rfl) ?_
    simp only [Act.put, List.setIfInBounds_toArray, List.set_cons_zero, List.set_cons_succ, List.getElem_toArray, List.getElem_cons_zero, List.getElem_cons_succ]
    refine list_valw (.slice (some ⟨wr.heap.size, 0, none⟩) 1 1) (wr.alloc (.cells (kc [0]) 5 (0, 0))) (by kernel_rfl) (by kernel_rfl) ?_
    simp only [Act.put, List.setIfInBounds_toArray, List.set_cons_zero, List.set_cons_succ, List.getElem_toArray, List.getElem_cons_zero, List.getElem_cons_succ]
    have hnew := blk_new wr (.cells (kc [0]) 5 (0, 0))
    have hgx := (Gr.refl wr).alloc (.cells (kc [0]) 5 (0, 0))
    replace hG := hG.trans hgx
    replace ob := ob.gr hgx
    clear hgx
    generalize World.alloc _ _ = w1 at *
    generalize wr.heap.size = g1 at *
    refine app_bs (by kernel_rfl) (.tmp 11) (.tmp 12) rfl w.heap.size _ L rfl ob (some ⟨g1, 0, none⟩) 1 1 [0] rfl rfl (.inr ⟨g1, 0, rfl, kc_at hnew⟩) (by rw [unhide hLl]; omega) hG.size ?_
    intro v2 w2 ob2 hgr
    simp only [Act.put, List.setIfInBounds_toArray, List.set_cons_zero, List.set_cons_succ, List.getElem_toArray, List.getElem_cons_zero, List.getElem_cons_succ]
    replace hG := Ob.grown ob (Nat.le_refl _) hG hgr
    clear hgr hnew ob
    obtain ⟨a2, c2, rfl, _⟩ := ob2.slice
    rw [List.length_append, unhide hLl, List.length_cons, List.length_nil, Nat.zero_add] at ob2 ⊢
    (refine wpList_step fun K hK => ?_; replace hK := hide hK; go_simp; refine unhide hK _ _ ?_; clear hK K)
    refine wpList_nil ?_
    replace hG := hide hG
    replace ob2 := hide ob2
    clear e1 r0 r00
    go_wp2_with fail
    go_roundw
    case rel => exact ⟨k + 1, a2, c2, m + 1, _, rfl, hm2, by omega, hL2, ob2, hG⟩
    case measure =>
      have := unhide hm
      simp [slen]
      omega
  · have r0 : (r : Int) = 0 := by have := unhide hm; have h9 : k = padz n := by omega
                                  unfold padz at h9; omega
    have r00 : r = 0 := by omega
    have hP : Hid (Obd (pd B) w (.returned (.slice a' m c')) wr) := ⟨_, rfl, by
      have h9 : k = padz n := by omega
      have h8 : L = pd B := by
        rw [unhide hL, h9]
        unfold pd
        rw [unhide hBl]
      rw [← h8]
      exact unhide ob, unhide hG⟩
    clear ob hG hL
    replace hr := hide hr
    go_wp2_with fail
    rw [unhide hT]
    exact unhide hP
end Go.Proofs.Ytdekjbdkpchbjaa
