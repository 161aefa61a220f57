/-
  FrameThere: what is got of bytes is put as these bytes, and no bytes are of two kinds.
-/
import Derived.Test.YtfmocneoffkmpabFV
namespace Go.Proofs.Ytfmocneoffkmpab
open Go.RowKit
set_option maxRecDepth 100000
set_option linter.unusedSimpArgs false
set_option linter.unusedVariables false
theorem low_back (L : List Int) (hb : IsB L) (o m : Nat) (h : o + m ≤ L.length) : lowL (lowN ((L.drop o).take m)) m = (L.drop o).take m := by
  have h1 := lowL_lowN ((L.drop o).take m) (sub_isB hb o m)
  rwa [sub_len rfl h] at h1
theorem cut_at (L : List Int) (o m : Nat) : L.drop o = (L.drop o).take m ++ L.drop (o + m) := by
  have := List.take_append_drop m (L.drop o)
  rw [List.drop_drop] at this
  exact this.symm
theorem drop1 (L : List Int) (o : Nat) (h : o < L.length) : L.drop o = [L.getD o 0] ++ L.drop (o + 1) := by
  rw [List.drop_eq_getElem_cons h]
  simp [List.getD, h]
theorem pkB_back {L : List Int} (hb : IsB L) (hl : 11 ≤ L.length) {k : Int} (hk : L.getD 0 0 = k) : pkB k (L.getD 1 0) (L.getD 2 0) (lowN ((L.drop 3).take 8)) (L.drop 11) = L := by
  unfold pkB
  rw [low_back L hb 3 8 (by omega)]
  have e0 := drop1 L 0 (by omega)
  have e1 := drop1 L 1 (by omega)
  have e2 := drop1 L 2 (by omega)
  have e3 := cut_at L 3 8
  rw [List.drop_zero, hk] at e0
  simp only [Nat.zero_add, Nat.reduceAdd] at e0 e1 e2 e3
  conv => rhs; rw [e0, e1, e2, e3]
  simp
theorem evB_back {L : List Int} (hb : IsB L) (hl : L.length = 114) : evB (L.getD 0 0) (lowN ((L.drop 1).take 4)) (lowN ((L.drop 5).take 4)) ((L.drop 9).take 105) = L := by
  unfold evB
  rw [low_back L hb 1 4 (by omega), low_back L hb 5 4 (by omega)]
  have e0 := drop1 L 0 (by omega)
  have e1 := cut_at L 1 4
  have e2 := cut_at L 5 4
  have e3 := cut_at L 9 105
  have e4 : L.drop 114 = [] := List.drop_eq_nil_of_le (by omega)
  rw [List.drop_zero] at e0
  simp only [Nat.zero_add, Nat.reduceAdd] at e0 e1 e2 e3
  rw [e4, List.append_nil] at e3
  conv => rhs; rw [e0, e1, e2, e3]
  simp
theorem allZ_rep {l : List Int} (h : allZ l = true) : l = List.replicate l.length 0 := by unfold allZ at h; rwa [decide_eq_true_iff] at h
theorem ks_flat (L : List Int) (hl : L.length = 106) : ∀ n, n ≤ 3 → (ksO L n).flatten ++ L.drop (10 + 32 * n) = L.drop 10
  | 0, _ => by simp [ksO]
  | n + 1, h => by
    have ih := ks_flat L hl n (by omega)
    have e := cut_at L (10 + 32 * n) 32
    have hk : kyO L n = (L.drop (10 + 32 * n)).take 32 := by unfold kyO; rw [if_pos (by omega)]
    rw [ksO_succ, List.flatten_append, hk, show 10 + 32 * (n + 1) = 10 + 32 * n + 32 from by omega]
    simp only [List.flatten_cons, List.flatten_nil, List.append_nil, List.append_assoc]
    rw [← e, ih]
theorem anB_back {L : List Int} (hb : IsB L) (hl : L.length = 106) (hE : anE L = true) : anB (lowN ((L.drop 1).take 8)) (ksO L (anN L)) = L ∧ anR (lowN ((L.drop 1).take 8)) (anN L) = true := by
  unfold anE at hE
  simp only [Bool.and_eq_true, decide_eq_true_iff] at hE
  obtain ⟨⟨h1, h2⟩, h3⟩ := hE
  refine ⟨?_, h2⟩
  have hn : anN L ≤ 3 := by unfold anR at h2; rw [decide_eq_true_iff] at h2; omega
  have h9 : ((anN L : Nat) : Int) = L.getD 9 0 := by unfold anN; exact Int.toNat_of_nonneg (hb.at_ 9).1
  have hz := allZ_rep h3
  rw [List.length_drop, hl] at hz
  have e0 := drop1 L 0 (by omega)
  have e1 := cut_at L 1 8
  have e9 := drop1 L 9 (by omega)
  have ek := ks_flat L hl (anN L) hn
  rw [List.drop_zero, h1] at e0
  simp only [Nat.zero_add, Nat.reduceAdd] at e0 e1 e9
  unfold anB anH
  rw [ksO_len, low_back L hb 1 8 (by omega), h9]
  rw [hz, show 106 - (10 + 32 * anN L) = 96 - 32 * anN L from by omega] at ek
  conv => rhs; rw [e0, e1, e9, ← ek]
  simp
theorem low8_bd (L : List Int) (hb : IsB L) (o : Nat) (h : o + 8 ≤ L.length) : lowN ((L.drop o).take 8) < 18446744073709551616 := by
  have h1 := lowN_bd ((L.drop o).take 8) (sub_isB hb o 8)
  rw [sub_len rfl h] at h1
  exact h1.2
theorem low4_bd (L : List Int) (hb : IsB L) (o : Nat) (h : o + 4 ≤ L.length) : U4 (lowN ((L.drop o).take 4)) := by
  have h1 := lowN_bd ((L.drop o).take 4) (sub_isB hb o 4)
  rw [sub_len rfl h] at h1
  exact h1
theorem u_size {L : List Int} (h : uG L = true) : L.length = 205 ∨ L.length = 253 ∨ L.length = 301 := by
  unfold uG at h
  rw [Bool.and_eq_true] at h
  have := h.1
  unfold onS at this
  rw [decide_eq_true_iff] at this
  omega
theorem d_size {L : List Int} (h : dG L = true) : L.length = 157 ∨ L.length = 173 ∨ L.length = 189 := by
  unfold dG at h
  rw [Bool.and_eq_true] at h
  have := h.1
  unfold rpS at this
  rw [decide_eq_true_iff] at this
  omega
theorem a_size {L : List Int} (h : aG L = true) : L.length = 106 := by
  unfold aG at h
  rw [Bool.and_eq_true, decide_eq_true_iff] at h
  exact h.1
theorem gete_any (L : List Int) (a : Option Addr) (n c : Nat) (w : World) (h : Lb w a n c L) (hg : (decide (L.length = 114) && evRO L) = false) : Calls Try.prog 13 #[.slice a n c] w (Gan 108 false w) := by
  by_cases hn : n = 114
  · subst hn
    have hE : evRO L = false := by rw [h.len] at hg; simpa using hg
    refine (fgete_bad L a c w h hE).mono ?_
    rintro r u ⟨rfl, hg⟩
    exact ⟨_, _, rfl, rfl, evl_one .., rfl, hg⟩
  · refine (fgete_no a n c hn w).mono ?_
    rintro r u ⟨rfl, hg⟩
    exact ⟨_, _, rfl, rfl, evl_one .., rfl, hg⟩
theorem lb_bt {w v : World} {a : Option Addr} {n c : Nat} {B : List Int} (h : Lb w a n c B) {q : Nat} (e : Bt q w v) (hq : blkOf a ≠ some q) : Lb v a n c B := by
  refine ⟨h.len, h.isB, ?_, h.cap, h.max⟩
  rcases h.sl with h1 | ⟨p, o, h1, h2⟩
  · exact .inl h1
  · refine .inr ⟨p, o, h1, h2.bt e (fun e2 => hq ?_)⟩
    rw [h1, e2]
    rfl
set_option maxHeartbeats 4000000 in
theorem there_A (l : List Int) (s : Option Addr) (len cap : Nat) (w : World) (lb : Lb w s len cap l) (hA : aG (l.take (min len 1000)) = true) : Calls Try.prog 4 #[.slice s len cap] w (Woke w) := by
  obtain ⟨T, hT⟩ : ∃ T, T = Woke w := ⟨_, rfl⟩
  rw [← hT]
  replace hT := hide hT
  replace lb := hide lb
  obtain ⟨n, hn0⟩ : ∃ n, n = min len 1000 := ⟨_, rfl⟩
  obtain ⟨L, hL0⟩ : ∃ L, L = l.take n := ⟨_, rfl⟩
  have hL1 : l.take (min len 1000) = L := by rw [hL0, hn0]
  rw [hL1] at hA
  have hn9 : n ≤ 1000 := by omega
  have hLn : L.length = n := by rw [hL0, List.length_take, (unhide lb).len, hn0]; omega
  replace hn0 := hide hn0; replace hL0 := hide hL0
  clear hL1
  have hKd : kindO L = 1 := by unfold kindO; simp [hA]
  have hsd := a_size hA
  have hU : uG L = false := by cases h : uG L; rfl; have := u_size h; omega
  have hD : dG L = false := by cases h : dG L; rfl; have := d_size h; omega
  have hEv : (decide (L.length = 114) && evRO L) = false := by rw [decide_eq_false (by omega)]; rfl
  have hE : anE L = true := by unfold aG at hA; rw [Bool.and_eq_true] at hA; exact hA.2
  obtain rfl : n = 106 := by omega
  clear hsd hLn hn9
  go_enter Try.func4, Try.ntmps4
  go_upto_region 1 with fail
  refine wp_region_lit ?_
  refine list_call 5 #[] (by kernel_rfl) (by kernel_rfl) ((jwakes_ok w).mono ?_)
  rintro r u ⟨rfl, hG⟩
  replace lb := hide ((unhide lb).gr hG)
  refine ⟨_, rfl, ?_⟩
  simp only [Act.put, List.setIfInBounds_toArray, List.set_cons_zero, List.set_cons_succ, List.getElem_toArray, List.getElem_cons_zero, List.getElem_cons_succ]
  refine list_val (.bool false) (by kernel_rfl) (by kernel_rfl) ?_
  simp only [Act.put, List.setIfInBounds_toArray, List.set_cons_zero, List.set_cons_succ, List.getElem_toArray, List.getElem_cons_zero, List.getElem_cons_succ]
  refine wpList_nil ?_
  replace hG := hide hG
  go_upto_region 3 with fail
  replace hG := unhide hG
  refine wp_region_lit ?_
  refine list_val (.slice s len cap) (by kernel_rfl) (by kernel_rfl) ?_
  simp only [Act.put, List.setIfInBounds_toArray, List.set_cons_zero, List.set_cons_succ, List.getElem_toArray, List.getElem_cons_zero, List.getElem_cons_succ]
  refine list_call 14 #[.slice s len cap] (by kernel_rfl) (by kernel_rfl) ((jcut_ok l s len cap u (unhide lb)).mono ?_)
  rintro r u1 ⟨s1, rfl, hs1, rfl⟩
  have hl := hs1 u1 (unhide lb)
  rw [← unhide hn0, ← unhide hL0] at hl
  rw [← unhide hn0]
  clear hs1 lb hL0 hn0
  replace hl := hide hl
  have hLl := (unhide hl).len
  have hLb := hide (unhide hl).isB
  refine ⟨_, rfl, ?_⟩
  simp only [Act.put, List.setIfInBounds_toArray, List.set_cons_zero, List.set_cons_succ, List.getElem_toArray, List.getElem_cons_zero, List.getElem_cons_succ]
  (refine wpList_step fun K hK => ?_; replace hK := hide hK; go_simp; refine unhide hK _ _ ?_; clear hK K)
  refine wpList_nil ?_
  replace hG := hide hG
  go_upto_region 5 with fail
  replace hG := unhide hG
  refine wp_region_lit ?_
  refine list_val (.slice s1 106 cap) (by kernel_rfl) (by kernel_rfl) ?_
  simp only [Act.put, List.setIfInBounds_toArray, List.set_cons_zero, List.set_cons_succ, List.getElem_toArray, List.getElem_cons_zero, List.getElem_cons_succ]
  refine list_call 15 #[.slice s1 106 cap] (by kernel_rfl) (by kernel_rfl) ((fgeta_ok L s1 cap u1 (unhide hl) hE).mono ?_)
  rintro r_ y1a ⟨va, vc, rfl, hor, hg⟩
  have hbk := anB_back (unhide hLb) hLl hE
  have hr9 := low8_bd L (unhide hLb) 1 (by omega)
  have hkso := ksO_ok hLl (unhide hLb) (anN L)
  generalize lowN ((L.drop 1).take 8) = r at *
  generalize ksO L (anN L) = ks at *
  generalize anN L = vn at *
  replace hor := hide hor; replace hbk := hide hbk; replace hkso := hide hkso
  replace hG := hG.trans hg
  replace hl := hide ((unhide hl).gr hg)
  clear hg
  refine ⟨_, rfl, ?_⟩
  simp only [Act.put, List.setIfInBounds_toArray, List.set_cons_zero, List.set_cons_succ, List.getElem_toArray, List.getElem_cons_zero, List.getElem_cons_succ]
  refine list_val (.tuple #[.agg #[.int .u64 r, .slice va vn vc], .int .i64 0]) (by kernel_rfl) (by kernel_rfl) ?_
  simp only [Act.put, List.setIfInBounds_toArray, List.set_cons_zero, List.set_cons_succ, List.getElem_toArray, List.getElem_cons_zero, List.getElem_cons_succ]
  refine list_val (.agg #[.int .u64 r, .slice va vn vc]) (by kernel_rfl) (by kernel_rfl) ?_
  simp only [Act.put, List.setIfInBounds_toArray, List.set_cons_zero, List.set_cons_succ, List.getElem_toArray, List.getElem_cons_zero, List.getElem_cons_succ]
  refine list_val (.int .i64 0) (by kernel_rfl) (by kernel_rfl) ?_
  simp only [Act.put, List.setIfInBounds_toArray, List.set_cons_zero, List.set_cons_succ, List.getElem_toArray, List.getElem_cons_zero, List.getElem_cons_succ]
  refine list_valw (.pointer (some ⟨y1a.heap.size, 0, none⟩)) (y1a.alloc (.cells #[.int .u64 0, .slice none 0 0] 59 (0, 0))) (by kernel_rfl) (by kernel_rfl) ?_
  have hg9 := (Gr.refl y1a).alloc (.cells #[.int .u64 0, .slice none 0 0] 59 (0, 0))
  replace hor := hide ((unhide hor).gr hg9)
  have hB := (Bl.nil y1a).new #[.int .u64 0, .slice none 0 0] 59
  simp only [List.nil_append] at hB
  generalize World.alloc _ _ = y1b at *
  generalize y1a.heap.size = q1_ at *
  replace hB : Bl y1a [⟨q1_, #[.int .u64 0, .slice none 0 0], 59⟩] y1b := hB
  clear hg9
  simp only [Act.put, List.setIfInBounds_toArray, List.set_cons_zero, List.set_cons_succ, List.getElem_toArray, List.getElem_cons_zero, List.getElem_cons_succ]
  refine list_store 59 (.tmp 4) (.tmp 27) q1_ #[.int .u64 r, .slice va vn vc] 59 #[.int .u64 0, .slice none 0 0] (by kernel_rfl) rfl (by kernel_rfl) (by kernel_rfl) (hB.get 0 (x := ⟨q1_, #[.int .u64 0, .slice none 0 0], 59⟩) rfl) (by rw [Try.infoA]; rfl) (rfl) (by simp [Value.oneCell']) ?_
  have hbt := setRow_bt y1b q1_ #[.int .u64 r, .slice va vn vc]
  have hq9 := (hB.get 0 (x := ⟨q1_, #[.int .u64 0, .slice none 0 0], 59⟩) rfl)
  dsimp only at hq9
  replace hor := hide (or_bt2 (unhide hor) hq9 (by decide) hbt)
  replace hB := hB.set 0 (x := ⟨q1_, #[.int .u64 0, .slice none 0 0], 59⟩) rfl #[.int .u64 r, .slice va vn vc]
  simp only [List.set_cons_zero] at hB
  generalize World.setRow _ _ _ = y1c at *
  replace hG := hG.trans hB.gr
  replace hl := hide ((unhide hl).gr hB.gr)
  have hbl := hide (hB.get 0 (x := ⟨q1_, #[.int .u64 r, .slice va vn vc], 59⟩) rfl)
  clear hB hbt hq9
  simp only [Act.put, List.setIfInBounds_toArray, List.set_cons_zero, List.set_cons_succ, List.getElem_toArray, List.getElem_cons_zero, List.getElem_cons_succ]
  (refine wpList_step fun K hK => ?_; replace hK := hide hK; go_simp; refine unhide hK _ _ ?_; clear hK K)
  refine wpList_nil ?_
  replace hG := hide hG
  go_upto_region 6 with fail
  replace hG := unhide hG
  refine wp_region_lit ?_
  refine list_val (.int .i64 0) (by kernel_rfl) (by kernel_rfl) ?_
  simp only [Act.put, List.setIfInBounds_toArray, List.set_cons_zero, List.set_cons_succ, List.getElem_toArray, List.getElem_cons_zero, List.getElem_cons_succ]
  refine list_val (.bool true) (by kernel_rfl) (by kernel_rfl) ?_
  simp only [Act.put, List.setIfInBounds_toArray, List.set_cons_zero, List.set_cons_succ, List.getElem_toArray, List.getElem_cons_zero, List.getElem_cons_succ]
  refine wpList_nil ?_
  replace hG := hide hG
  go_upto_region 7 with fail
  replace hG := unhide hG
  refine wp_region_lit ?_
  refine list_val (.agg #[.int .u64 r, .slice va vn vc]) (by kernel_rfl) (exec_arr _ 59 (.tmp 4) rfl q1_ (by kernel_rfl) #[.int .u64 r, .slice va vn vc] 59 _ (unhide hbl) Try.underlying59 rfl (by rw [Try.infoA]; rfl)) ?_
  simp only [Act.put, List.setIfInBounds_toArray, List.set_cons_zero, List.set_cons_succ, List.getElem_toArray, List.getElem_cons_zero, List.getElem_cons_succ]
  have hrows : Ls 32 y1c va vn vc (ks.map bv) := by
    obtain ⟨a9, c9, e9, h9⟩ := (unhide hor).ls
    injection e9 with e1 e2 e3
    subst e1 e2 e3
    exact h9
  refine list_call 16 #[.agg #[.int .u64 r, .slice va vn vc]] (by kernel_rfl) (by kernel_rfl) ((fputa_ok r va vn vc ks (unhide hkso) (unhide hbk).2 hr9 y1c hrows).mono ?_)
  rintro r_ y1d ⟨vp, rfl, hOp, hg⟩
  replace hG := hG.trans hg
  replace hl := hide ((unhide hl).gr hg)
  rw [(unhide hbk).1] at hOp
  obtain ⟨pa, pc, rfl, hlp⟩ := ob_lb hOp (unhide hLb) hLl
  replace hlp := hide hlp
  clear hg hOp
  refine ⟨_, rfl, ?_⟩
  simp only [Act.put, List.setIfInBounds_toArray, List.set_cons_zero, List.set_cons_succ, List.getElem_toArray, List.getElem_cons_zero, List.getElem_cons_succ]
  refine list_val (.tuple #[.slice pa 106 pc, .int .i64 0]) (by kernel_rfl) (by kernel_rfl) ?_
  simp only [Act.put, List.setIfInBounds_toArray, List.set_cons_zero, List.set_cons_succ, List.getElem_toArray, List.getElem_cons_zero, List.getElem_cons_succ]
  refine list_val (.slice pa 106 pc) (by kernel_rfl) (by kernel_rfl) ?_
  simp only [Act.put, List.setIfInBounds_toArray, List.set_cons_zero, List.set_cons_succ, List.getElem_toArray, List.getElem_cons_zero, List.getElem_cons_succ]
  refine list_val (.int .i64 0) (by kernel_rfl) (by kernel_rfl) ?_
  simp only [Act.put, List.setIfInBounds_toArray, List.set_cons_zero, List.set_cons_succ, List.getElem_toArray, List.getElem_cons_zero, List.getElem_cons_succ]
  (refine wpList_step fun K hK => ?_; replace hK := hide hK; go_simp; refine unhide hK _ _ ?_; clear hK K)
  (refine wpList_step fun K hK => ?_; replace hK := hide hK; go_simp; refine unhide hK _ _ ?_; clear hK K)
  refine wpList_nil ?_
  replace hG := hide hG
  go_upto_region 8 with fail
  replace hG := unhide hG
  refine wp_region_lit ?_
  refine list_val (.int .i64 0) (by kernel_rfl) (by kernel_rfl) ?_
  simp only [Act.put, List.setIfInBounds_toArray, List.set_cons_zero, List.set_cons_succ, List.getElem_toArray, List.getElem_cons_zero, List.getElem_cons_succ]
  refine list_val (.bool false) (by kernel_rfl) (by kernel_rfl) ?_
  simp only [Act.put, List.setIfInBounds_toArray, List.set_cons_zero, List.set_cons_succ, List.getElem_toArray, List.getElem_cons_zero, List.getElem_cons_succ]
  refine list_val (.bool false) (by kernel_rfl) (by kernel_rfl) ?_
  simp only [Act.put, List.setIfInBounds_toArray, List.set_cons_zero, List.set_cons_succ, List.getElem_toArray, List.getElem_cons_zero, List.getElem_cons_succ]
  refine list_val (.slice s1 106 cap) (by kernel_rfl) (by kernel_rfl) ?_
  simp only [Act.put, List.setIfInBounds_toArray, List.set_cons_zero, List.set_cons_succ, List.getElem_toArray, List.getElem_cons_zero, List.getElem_cons_succ]
  refine list_val (.slice pa 106 pc) (by kernel_rfl) (by kernel_rfl) ?_
  simp only [Act.put, List.setIfInBounds_toArray, List.set_cons_zero, List.set_cons_succ, List.getElem_toArray, List.getElem_cons_zero, List.getElem_cons_succ]
  refine list_call 17 #[.slice s1 106 cap, .slice pa 106 pc] (by kernel_rfl) (by kernel_rfl) ((beq_ok L L s1 pa 106 106 cap pc y1d (unhide hl) (unhide hlp)).mono ?_)
  rintro r_ y1e ⟨rfl, hg⟩
  rw [decide_eq_true rfl]
  replace hG := hG.trans hg
  replace hl := hide ((unhide hl).gr hg)
  clear hg hlp
  refine ⟨_, rfl, ?_⟩
  simp only [Act.put, List.setIfInBounds_toArray, List.set_cons_zero, List.set_cons_succ, List.getElem_toArray, List.getElem_cons_zero, List.getElem_cons_succ]
  refine list_val (.bool false) (by kernel_rfl) (by kernel_rfl) ?_
  simp only [Act.put, List.setIfInBounds_toArray, List.set_cons_zero, List.set_cons_succ, List.getElem_toArray, List.getElem_cons_zero, List.getElem_cons_succ]
  refine list_val (.bool false) (by kernel_rfl) (by kernel_rfl) ?_
  simp only [Act.put, List.setIfInBounds_toArray, List.set_cons_zero, List.set_cons_succ, List.getElem_toArray, List.getElem_cons_zero, List.getElem_cons_succ]
  refine list_val (.bool false) (by kernel_rfl) (by kernel_rfl) ?_
  simp only [Act.put, List.setIfInBounds_toArray, List.set_cons_zero, List.set_cons_succ, List.getElem_toArray, List.getElem_cons_zero, List.getElem_cons_succ]
  refine list_val (.slice s1 106 cap) (by kernel_rfl) (by kernel_rfl) ?_
  simp only [Act.put, List.setIfInBounds_toArray, List.set_cons_zero, List.set_cons_succ, List.getElem_toArray, List.getElem_cons_zero, List.getElem_cons_succ]
  refine list_call 18 #[.slice s1 106 cap] (by kernel_rfl) (by kernel_rfl) ((fkind_ok L s1 106 cap y1e (unhide hl)).mono ?_)
  rintro r_ y1f ⟨rfl, hg⟩
  rw [hKd]
  replace hG := hG.trans hg
  replace hl := hide ((unhide hl).gr hg)
  clear hg
  refine ⟨_, rfl, ?_⟩
  simp only [Act.put, List.setIfInBounds_toArray, List.set_cons_zero, List.set_cons_succ, List.getElem_toArray, List.getElem_cons_zero, List.getElem_cons_succ]
  refine list_val (.bool false) (by kernel_rfl) (by kernel_rfl) ?_
  simp only [Act.put, List.setIfInBounds_toArray, List.set_cons_zero, List.set_cons_succ, List.getElem_toArray, List.getElem_cons_zero, List.getElem_cons_succ]
  refine list_val (.bool false) (by kernel_rfl) (by kernel_rfl) ?_
  simp only [Act.put, List.setIfInBounds_toArray, List.set_cons_zero, List.set_cons_succ, List.getElem_toArray, List.getElem_cons_zero, List.getElem_cons_succ]
  refine wpList_nil ?_
  replace hG := hide hG
  go_upto_region 10 with fail
  replace hG := unhide hG
  refine wp_region_lit ?_
  refine list_val (.int .i64 0) (by kernel_rfl) (by kernel_rfl) ?_
  simp only [Act.put, List.setIfInBounds_toArray, List.set_cons_zero, List.set_cons_succ, List.getElem_toArray, List.getElem_cons_zero, List.getElem_cons_succ]
  refine list_val (.int .i64 1) (by kernel_rfl) (by kernel_rfl) ?_
  simp only [Act.put, List.setIfInBounds_toArray, List.set_cons_zero, List.set_cons_succ, List.getElem_toArray, List.getElem_cons_zero, List.getElem_cons_succ]
  (refine wpList_step fun K hK => ?_; replace hK := hide hK; go_simp; refine unhide hK _ _ ?_; clear hK K)
  refine wpList_nil ?_
  replace hG := hide hG
  go_upto_region 11 with fail
  replace hG := unhide hG
  refine wp_region_lit ?_
  refine list_val (.slice s1 106 cap) (by kernel_rfl) (by kernel_rfl) ?_
  simp only [Act.put, List.setIfInBounds_toArray, List.set_cons_zero, List.set_cons_succ, List.getElem_toArray, List.getElem_cons_zero, List.getElem_cons_succ]
  refine list_call 19 #[.slice s1 106 cap] (by kernel_rfl) (by kernel_rfl) ((getup_any L s1 106 cap y1f (unhide hl)).mono ?_)
  rintro r y2a ⟨x2, e2, rfl, hxs, hxo, hge, hg⟩
  have he2 : ¬ e2 = 0 := by intro e9; rw [hU, e9] at hge; simp at hge
  replace hG := hG.trans hg
  replace hl := hide ((unhide hl).gr hg)
  clear hg hge
  refine ⟨_, rfl, ?_⟩
  simp only [Act.put, List.setIfInBounds_toArray, List.set_cons_zero, List.set_cons_succ, List.getElem_toArray, List.getElem_cons_zero, List.getElem_cons_succ]
  refine list_val (.tuple #[.agg x2, .int .i64 e2]) (by kernel_rfl) (by kernel_rfl) ?_
  simp only [Act.put, List.setIfInBounds_toArray, List.set_cons_zero, List.set_cons_succ, List.getElem_toArray, List.getElem_cons_zero, List.getElem_cons_succ]
  refine list_val (.agg x2) (by kernel_rfl) (by kernel_rfl) ?_
  simp only [Act.put, List.setIfInBounds_toArray, List.set_cons_zero, List.set_cons_succ, List.getElem_toArray, List.getElem_cons_zero, List.getElem_cons_succ]
  refine list_val (.int .i64 e2) (by kernel_rfl) (by kernel_rfl) ?_
  simp only [Act.put, List.setIfInBounds_toArray, List.set_cons_zero, List.set_cons_succ, List.getElem_toArray, List.getElem_cons_zero, List.getElem_cons_succ]
  refine list_valw (.pointer (some ⟨y2a.heap.size, 0, none⟩)) (y2a.alloc (.cells #[.int .i64 0, .int .i64 0, .int .u64 0, .slice none 0 0] 66 (0, 0))) (by kernel_rfl) (by kernel_rfl) ?_
  have hB := (Bl.nil y2a).new #[.int .i64 0, .int .i64 0, .int .u64 0, .slice none 0 0] 66
  simp only [List.nil_append] at hB
  generalize World.alloc _ _ = y2b at *
  generalize y2a.heap.size = q2_ at *
  replace hB : Bl y2a [⟨q2_, #[.int .i64 0, .int .i64 0, .int .u64 0, .slice none 0 0], 66⟩] y2b := hB
  simp only [Act.put, List.setIfInBounds_toArray, List.set_cons_zero, List.set_cons_succ, List.getElem_toArray, List.getElem_cons_zero, List.getElem_cons_succ]
  refine list_store 66 (.tmp 8) (.tmp 54) q2_ x2 66 #[.int .i64 0, .int .i64 0, .int .u64 0, .slice none 0 0] (by kernel_rfl) rfl (by kernel_rfl) (by kernel_rfl) (hB.get 0 (x := ⟨q2_, #[.int .i64 0, .int .i64 0, .int .u64 0, .slice none 0 0], 66⟩) rfl) (by rw [Try.infoU, hxs]) (by rw [hxs]; rfl) hxo ?_
  replace hB := hB.set 0 (x := ⟨q2_, #[.int .i64 0, .int .i64 0, .int .u64 0, .slice none 0 0], 66⟩) rfl x2
  generalize World.setRow _ _ _ = y2c at *
  replace hG := hG.trans hB.gr
  replace hl := hide ((unhide hl).gr hB.gr)
  clear hB hxs hxo
  simp only [Act.put, List.setIfInBounds_toArray, List.set_cons_zero, List.set_cons_succ, List.getElem_toArray, List.getElem_cons_zero, List.getElem_cons_succ]
  (refine wpList_step fun K hK => ?_; replace hK := hide hK; go_simp; refine unhide hK _ _ ?_; clear hK K)
  refine wpList_nil ?_
  replace hG := hide hG
  go_upto_region 12 with fail
  replace hG := unhide hG
  refine wp_region_lit ?_
  refine list_val (.int .i64 e2) (by kernel_rfl) (by kernel_rfl) ?_
  simp only [Act.put, List.setIfInBounds_toArray, List.set_cons_zero, List.set_cons_succ, List.getElem_toArray, List.getElem_cons_zero, List.getElem_cons_succ]
  refine list_val (.bool false) (by kernel_rfl) (by go_simp) ?_
  simp only [Act.put, List.setIfInBounds_toArray, List.set_cons_zero, List.set_cons_succ, List.getElem_toArray, List.getElem_cons_zero, List.getElem_cons_succ]
  refine wpList_nil ?_
  replace hG := hide hG
  go_upto_region 17 with fail
  replace hG := unhide hG
  refine wp_region_lit ?_
  refine list_val (.slice s1 106 cap) (by kernel_rfl) (by kernel_rfl) ?_
  simp only [Act.put, List.setIfInBounds_toArray, List.set_cons_zero, List.set_cons_succ, List.getElem_toArray, List.getElem_cons_zero, List.getElem_cons_succ]
  refine list_call 21 #[.slice s1 106 cap] (by kernel_rfl) (by kernel_rfl) ((getdn_any L s1 106 cap y2c (unhide hl)).mono ?_)
  rintro r y3a ⟨x3, e3, rfl, hxs, hxo, hge, hg⟩
  have he3 : ¬ e3 = 0 := by intro e9; rw [hD, e9] at hge; simp at hge
  replace hG := hG.trans hg
  replace hl := hide ((unhide hl).gr hg)
  clear hg hge
  refine ⟨_, rfl, ?_⟩
  simp only [Act.put, List.setIfInBounds_toArray, List.set_cons_zero, List.set_cons_succ, List.getElem_toArray, List.getElem_cons_zero, List.getElem_cons_succ]
  refine list_val (.tuple #[.agg x3, .int .i64 e3]) (by kernel_rfl) (by kernel_rfl) ?_
  simp only [Act.put, List.setIfInBounds_toArray, List.set_cons_zero, List.set_cons_succ, List.getElem_toArray, List.getElem_cons_zero, List.getElem_cons_succ]
  refine list_val (.agg x3) (by kernel_rfl) (by kernel_rfl) ?_
  simp only [Act.put, List.setIfInBounds_toArray, List.set_cons_zero, List.set_cons_succ, List.getElem_toArray, List.getElem_cons_zero, List.getElem_cons_succ]
  refine list_val (.int .i64 e3) (by kernel_rfl) (by kernel_rfl) ?_
  simp only [Act.put, List.setIfInBounds_toArray, List.set_cons_zero, List.set_cons_succ, List.getElem_toArray, List.getElem_cons_zero, List.getElem_cons_succ]
  refine list_valw (.pointer (some ⟨y3a.heap.size, 0, none⟩)) (y3a.alloc (.cells #[.int .i64 0, .int .i64 0, .int .u64 0, .slice none 0 0] 71 (0, 0))) (by kernel_rfl) (by kernel_rfl) ?_
  have hB := (Bl.nil y3a).new #[.int .i64 0, .int .i64 0, .int .u64 0, .slice none 0 0] 71
  simp only [List.nil_append] at hB
  generalize World.alloc _ _ = y3b at *
  generalize y3a.heap.size = q3_ at *
  replace hB : Bl y3a [⟨q3_, #[.int .i64 0, .int .i64 0, .int .u64 0, .slice none 0 0], 71⟩] y3b := hB
  simp only [Act.put, List.setIfInBounds_toArray, List.set_cons_zero, List.set_cons_succ, List.getElem_toArray, List.getElem_cons_zero, List.getElem_cons_succ]
  refine list_store 71 (.tmp 12) (.tmp 81) q3_ x3 71 #[.int .i64 0, .int .i64 0, .int .u64 0, .slice none 0 0] (by kernel_rfl) rfl (by kernel_rfl) (by kernel_rfl) (hB.get 0 (x := ⟨q3_, #[.int .i64 0, .int .i64 0, .int .u64 0, .slice none 0 0], 71⟩) rfl) (by rw [Try.infoD, hxs]) (by rw [hxs]; rfl) hxo ?_
  replace hB := hB.set 0 (x := ⟨q3_, #[.int .i64 0, .int .i64 0, .int .u64 0, .slice none 0 0], 71⟩) rfl x3
  generalize World.setRow _ _ _ = y3c at *
  replace hG := hG.trans hB.gr
  replace hl := hide ((unhide hl).gr hB.gr)
  clear hB hxs hxo
  simp only [Act.put, List.setIfInBounds_toArray, List.set_cons_zero, List.set_cons_succ, List.getElem_toArray, List.getElem_cons_zero, List.getElem_cons_succ]
  (refine wpList_step fun K hK => ?_; replace hK := hide hK; go_simp; refine unhide hK _ _ ?_; clear hK K)
  refine wpList_nil ?_
  replace hG := hide hG
  go_upto_region 18 with fail
  replace hG := unhide hG
  refine wp_region_lit ?_
  refine list_val (.int .i64 e3) (by kernel_rfl) (by kernel_rfl) ?_
  simp only [Act.put, List.setIfInBounds_toArray, List.set_cons_zero, List.set_cons_succ, List.getElem_toArray, List.getElem_cons_zero, List.getElem_cons_succ]
  refine list_val (.bool false) (by kernel_rfl) (by go_simp) ?_
  simp only [Act.put, List.setIfInBounds_toArray, List.set_cons_zero, List.set_cons_succ, List.getElem_toArray, List.getElem_cons_zero, List.getElem_cons_succ]
  refine wpList_nil ?_
  replace hG := hide hG
  go_upto_region 23 with fail
  replace hG := unhide hG
  refine wp_region_lit ?_
  refine list_val (.slice s1 106 cap) (by kernel_rfl) (by kernel_rfl) ?_
  simp only [Act.put, List.setIfInBounds_toArray, List.set_cons_zero, List.set_cons_succ, List.getElem_toArray, List.getElem_cons_zero, List.getElem_cons_succ]
  refine list_call 13 #[.slice s1 106 cap] (by kernel_rfl) (by kernel_rfl) ((gete_any L s1 106 cap y3c (unhide hl) hEv).mono ?_)
  rintro r y4a ⟨x4, e4, rfl, hxs, hxo, hge, hg⟩
  have he4 : ¬ e4 = 0 := by intro e9; rw [e9] at hge; simp at hge
  replace hG := hG.trans hg
  replace hl := hide ((unhide hl).gr hg)
  clear hg hge
  refine ⟨_, rfl, ?_⟩
  simp only [Act.put, List.setIfInBounds_toArray, List.set_cons_zero, List.set_cons_succ, List.getElem_toArray, List.getElem_cons_zero, List.getElem_cons_succ]
  refine list_val (.tuple #[.agg x4, .int .i64 e4]) (by kernel_rfl) (by kernel_rfl) ?_
  simp only [Act.put, List.setIfInBounds_toArray, List.set_cons_zero, List.set_cons_succ, List.getElem_toArray, List.getElem_cons_zero, List.getElem_cons_succ]
  refine list_val (.agg x4) (by kernel_rfl) (by kernel_rfl) ?_
  simp only [Act.put, List.setIfInBounds_toArray, List.set_cons_zero, List.set_cons_succ, List.getElem_toArray, List.getElem_cons_zero, List.getElem_cons_succ]
  refine list_val (.int .i64 e4) (by kernel_rfl) (by kernel_rfl) ?_
  simp only [Act.put, List.setIfInBounds_toArray, List.set_cons_zero, List.set_cons_succ, List.getElem_toArray, List.getElem_cons_zero, List.getElem_cons_succ]
  refine list_valw (.pointer (some ⟨y4a.heap.size, 0, none⟩)) (y4a.alloc (.cells (evl 0 0 0 Z105).toArray 37 (0, 0))) (by kernel_rfl) (by kernel_rfl) ?_
  have hB := (Bl.nil y4a).new (evl 0 0 0 Z105).toArray 37
  simp only [List.nil_append] at hB
  generalize World.alloc _ _ = y4b at *
  generalize y4a.heap.size = q4_ at *
  replace hB : Bl y4a [⟨q4_, (evl 0 0 0 Z105).toArray, 37⟩] y4b := hB
  simp only [Act.put, List.setIfInBounds_toArray, List.set_cons_zero, List.set_cons_succ, List.getElem_toArray, List.getElem_cons_zero, List.getElem_cons_succ]
  refine list_store 37 (.tmp 16) (.tmp 108) q4_ x4 37 (evl 0 0 0 Z105).toArray (by kernel_rfl) rfl (by kernel_rfl) (by kernel_rfl) (hB.get 0 (x := ⟨q4_, (evl 0 0 0 Z105).toArray, 37⟩) rfl) (by rw [Try.infoE, hxs]) (by rw [hxs]; rfl) hxo ?_
  replace hB := hB.set 0 (x := ⟨q4_, (evl 0 0 0 Z105).toArray, 37⟩) rfl x4
  generalize World.setRow _ _ _ = y4c at *
  replace hG := hG.trans hB.gr
  replace hl := hide ((unhide hl).gr hB.gr)
  clear hB hxs hxo
  simp only [Act.put, List.setIfInBounds_toArray, List.set_cons_zero, List.set_cons_succ, List.getElem_toArray, List.getElem_cons_zero, List.getElem_cons_succ]
  (refine wpList_step fun K hK => ?_; replace hK := hide hK; go_simp; refine unhide hK _ _ ?_; clear hK K)
  refine wpList_nil ?_
  replace hG := hide hG
  go_upto_region 24 with fail
  replace hG := unhide hG
  refine wp_region_lit ?_
  refine list_val (.int .i64 e4) (by kernel_rfl) (by kernel_rfl) ?_
  simp only [Act.put, List.setIfInBounds_toArray, List.set_cons_zero, List.set_cons_succ, List.getElem_toArray, List.getElem_cons_zero, List.getElem_cons_succ]
  refine list_val (.bool false) (by kernel_rfl) (by go_simp) ?_
  simp only [Act.put, List.setIfInBounds_toArray, List.set_cons_zero, List.set_cons_succ, List.getElem_toArray, List.getElem_cons_zero, List.getElem_cons_succ]
  refine wpList_nil ?_
  replace hG := hide hG
  go_upto_region 28 with fail
  replace hG := unhide hG
  refine wp_region_lit ?_
  refine list_val (.int .i64 1) (by kernel_rfl) (by kernel_rfl) ?_
  simp only [Act.put, List.setIfInBounds_toArray, List.set_cons_zero, List.set_cons_succ, List.getElem_toArray, List.getElem_cons_zero, List.getElem_cons_succ]
  refine list_val (.bool true) (by kernel_rfl) (by kernel_rfl) ?_
  simp only [Act.put, List.setIfInBounds_toArray, List.set_cons_zero, List.set_cons_succ, List.getElem_toArray, List.getElem_cons_zero, List.getElem_cons_succ]
  refine list_val (.bool true) (by kernel_rfl) (by kernel_rfl) ?_
  simp only [Act.put, List.setIfInBounds_toArray, List.set_cons_zero, List.set_cons_succ, List.getElem_toArray, List.getElem_cons_zero, List.getElem_cons_succ]
  refine list_val (.int .i64 1) (by kernel_rfl) (by kernel_rfl) ?_
  simp only [Act.put, List.setIfInBounds_toArray, List.set_cons_zero, List.set_cons_succ, List.getElem_toArray, List.getElem_cons_zero, List.getElem_cons_succ]
  refine list_val (.bool false) (by kernel_rfl) (by kernel_rfl) ?_
  simp only [Act.put, List.setIfInBounds_toArray, List.set_cons_zero, List.set_cons_succ, List.getElem_toArray, List.getElem_cons_zero, List.getElem_cons_succ]
  refine list_val (.slice s1 106 cap) (by kernel_rfl) (by kernel_rfl) ?_
  simp only [Act.put, List.setIfInBounds_toArray, List.set_cons_zero, List.set_cons_succ, List.getElem_toArray, List.getElem_cons_zero, List.getElem_cons_succ]
  refine list_call 18 #[.slice s1 106 cap] (by kernel_rfl) (by kernel_rfl) ((fkind_ok L s1 106 cap y4c (unhide hl)).mono ?_)
  rintro r_ yz ⟨rfl, hg⟩
  rw [hKd]
  have hZ : Hid (Woke w (.returned (.bool true)) yz) := ⟨rfl, hG.trans hg⟩
  clear hg hG
  refine ⟨_, rfl, ?_⟩
  simp only [Act.put, List.setIfInBounds_toArray, List.set_cons_zero, List.set_cons_succ, List.getElem_toArray, List.getElem_cons_zero, List.getElem_cons_succ]
  refine list_val (.bool false) (by kernel_rfl) (by kernel_rfl) ?_
  simp only [Act.put, List.setIfInBounds_toArray, List.set_cons_zero, List.set_cons_succ, List.getElem_toArray, List.getElem_cons_zero, List.getElem_cons_succ]
  refine list_val (.bool true) (by kernel_rfl) (by kernel_rfl) ?_
  simp only [Act.put, List.setIfInBounds_toArray, List.set_cons_zero, List.set_cons_succ, List.getElem_toArray, List.getElem_cons_zero, List.getElem_cons_succ]
  refine list_val (.bool true) (by kernel_rfl) (by kernel_rfl) ?_
  simp only [Act.put, List.setIfInBounds_toArray, List.set_cons_zero, List.set_cons_succ, List.getElem_toArray, List.getElem_cons_zero, List.getElem_cons_succ]
  (refine wpList_step fun K hK => ?_; replace hK := hide hK; go_simp; refine unhide hK _ _ ?_; clear hK K)
  refine wpList_nil ?_
  go_wp2_with fail
  rw [unhide hT]
  exact unhide hZ
set_option maxHeartbeats 4000000 in
theorem there_U (l : List Int) (s : Option Addr) (len cap : Nat) (w : World) (lb : Lb w s len cap l) (hU : uG (l.take (min len 1000)) = true) : Calls Try.prog 4 #[.slice s len cap] w (Woke w) := by
  obtain ⟨T, hT⟩ : ∃ T, T = Woke w := ⟨_, rfl⟩
  rw [← hT]
  replace hT := hide hT
  replace lb := hide lb
  obtain ⟨n, hn0⟩ : ∃ n, n = min len 1000 := ⟨_, rfl⟩
  obtain ⟨L, hL0⟩ : ∃ L, L = l.take n := ⟨_, rfl⟩
  have hL1 : l.take (min len 1000) = L := by rw [hL0, hn0]
  rw [hL1] at hU
  have hn9 : n ≤ 1000 := by omega
  have hLn : L.length = n := by rw [hL0, List.length_take, (unhide lb).len, hn0]; omega
  replace hn0 := hide hn0; replace hL0 := hide hL0
  clear hL1
  have hsd := u_size hU
  have hA : aG L = false := by cases h : aG L; rfl; have := a_size h; omega
  have hD : dG L = false := by cases h : dG L; rfl; have := d_size h; omega
  have hKd : kindO L = 2 := by unfold kindO; simp [hA, hU, hD]
  have hEv : (decide (L.length = 114) && evRO L) = false := by rw [decide_eq_false (by omega)]; rfl
  have hD9 := hU
  unfold uG at hD9
  simp only [Bool.and_eq_true, decide_eq_true_iff] at hD9
  obtain ⟨hS, hF, hE⟩ := hD9
  rw [hLn] at hS
  have hn12 : 12 ≤ n := by omega
  clear hsd hLn
  go_enter Try.func4, Try.ntmps4
  go_upto_region 1 with fail
  refine wp_region_lit ?_
  refine list_call 5 #[] (by kernel_rfl) (by kernel_rfl) ((jwakes_ok w).mono ?_)
  rintro r u ⟨rfl, hG⟩
  replace lb := hide ((unhide lb).gr hG)
  refine ⟨_, rfl, ?_⟩
  simp only [Act.put, List.setIfInBounds_toArray, List.set_cons_zero, List.set_cons_succ, List.getElem_toArray, List.getElem_cons_zero, List.getElem_cons_succ]
  refine list_val (.bool false) (by kernel_rfl) (by kernel_rfl) ?_
  simp only [Act.put, List.setIfInBounds_toArray, List.set_cons_zero, List.set_cons_succ, List.getElem_toArray, List.getElem_cons_zero, List.getElem_cons_succ]
  refine wpList_nil ?_
  replace hG := hide hG
  go_upto_region 3 with fail
  replace hG := unhide hG
  refine wp_region_lit ?_
  refine list_val (.slice s len cap) (by kernel_rfl) (by kernel_rfl) ?_
  simp only [Act.put, List.setIfInBounds_toArray, List.set_cons_zero, List.set_cons_succ, List.getElem_toArray, List.getElem_cons_zero, List.getElem_cons_succ]
  refine list_call 14 #[.slice s len cap] (by kernel_rfl) (by kernel_rfl) ((jcut_ok l s len cap u (unhide lb)).mono ?_)
  rintro r u1 ⟨s1, rfl, hs1, rfl⟩
  have hl := hs1 u1 (unhide lb)
  rw [← unhide hn0, ← unhide hL0] at hl
  rw [← unhide hn0]
  clear hs1 lb hL0 hn0
  replace hl := hide hl
  have hLl := (unhide hl).len
  have hLb := hide (unhide hl).isB
  refine ⟨_, rfl, ?_⟩
  simp only [Act.put, List.setIfInBounds_toArray, List.set_cons_zero, List.set_cons_succ, List.getElem_toArray, List.getElem_cons_zero, List.getElem_cons_succ]
  (refine wpList_step fun K hK => ?_; replace hK := hide hK; go_simp; refine unhide hK _ _ ?_; clear hK K)
  refine wpList_nil ?_
  replace hG := hide hG
  go_upto_region 5 with fail
  replace hG := unhide hG
  refine wp_region_lit ?_
  refine list_val (.slice s1 n cap) (by kernel_rfl) (by kernel_rfl) ?_
  simp only [Act.put, List.setIfInBounds_toArray, List.set_cons_zero, List.set_cons_succ, List.getElem_toArray, List.getElem_cons_zero, List.getElem_cons_succ]
  refine list_call 15 #[.slice s1 n cap] (by kernel_rfl) (by kernel_rfl) ((geta_any L s1 n cap u1 (unhide hl)).mono ?_)
  rintro r y1a ⟨x1, e1, rfl, hxs, hxo, hge, hg⟩
  have he1 : ¬ e1 = 0 := by intro e9; rw [hA, e9] at hge; simp at hge
  replace hG := hG.trans hg
  replace hl := hide ((unhide hl).gr hg)
  clear hg hge
  refine ⟨_, rfl, ?_⟩
  simp only [Act.put, List.setIfInBounds_toArray, List.set_cons_zero, List.set_cons_succ, List.getElem_toArray, List.getElem_cons_zero, List.getElem_cons_succ]
  refine list_val (.tuple #[.agg x1, .int .i64 e1]) (by kernel_rfl) (by kernel_rfl) ?_
  simp only [Act.put, List.setIfInBounds_toArray, List.set_cons_zero, List.set_cons_succ, List.getElem_toArray, List.getElem_cons_zero, List.getElem_cons_succ]
  refine list_val (.agg x1) (by kernel_rfl) (by kernel_rfl) ?_
  simp only [Act.put, List.setIfInBounds_toArray, List.set_cons_zero, List.set_cons_succ, List.getElem_toArray, List.getElem_cons_zero, List.getElem_cons_succ]
  refine list_val (.int .i64 e1) (by kernel_rfl) (by kernel_rfl) ?_
  simp only [Act.put, List.setIfInBounds_toArray, List.set_cons_zero, List.set_cons_succ, List.getElem_toArray, List.getElem_cons_zero, List.getElem_cons_succ]
  refine list_valw (.pointer (some ⟨y1a.heap.size, 0, none⟩)) (y1a.alloc (.cells #[.int .u64 0, .slice none 0 0] 59 (0, 0))) (by kernel_rfl) (by kernel_rfl) ?_
  have hB := (Bl.nil y1a).new #[.int .u64 0, .slice none 0 0] 59
  simp only [List.nil_append] at hB
  generalize World.alloc _ _ = y1b at *
  generalize y1a.heap.size = q1_ at *
  replace hB : Bl y1a [⟨q1_, #[.int .u64 0, .slice none 0 0], 59⟩] y1b := hB
  simp only [Act.put, List.setIfInBounds_toArray, List.set_cons_zero, List.set_cons_succ, List.getElem_toArray, List.getElem_cons_zero, List.getElem_cons_succ]
  refine list_store 59 (.tmp 4) (.tmp 27) q1_ x1 59 #[.int .u64 0, .slice none 0 0] (by kernel_rfl) rfl (by kernel_rfl) (by kernel_rfl) (hB.get 0 (x := ⟨q1_, #[.int .u64 0, .slice none 0 0], 59⟩) rfl) (by rw [Try.infoA, hxs]) (by rw [hxs]; rfl) hxo ?_
  replace hB := hB.set 0 (x := ⟨q1_, #[.int .u64 0, .slice none 0 0], 59⟩) rfl x1
  generalize World.setRow _ _ _ = y1c at *
  replace hG := hG.trans hB.gr
  replace hl := hide ((unhide hl).gr hB.gr)
  clear hB hxs hxo
  simp only [Act.put, List.setIfInBounds_toArray, List.set_cons_zero, List.set_cons_succ, List.getElem_toArray, List.getElem_cons_zero, List.getElem_cons_succ]
  (refine wpList_step fun K hK => ?_; replace hK := hide hK; go_simp; refine unhide hK _ _ ?_; clear hK K)
  refine wpList_nil ?_
  replace hG := hide hG
  go_upto_region 6 with fail
  replace hG := unhide hG
  refine wp_region_lit ?_
  refine list_val (.int .i64 e1) (by kernel_rfl) (by kernel_rfl) ?_
  simp only [Act.put, List.setIfInBounds_toArray, List.set_cons_zero, List.set_cons_succ, List.getElem_toArray, List.getElem_cons_zero, List.getElem_cons_succ]
  refine list_val (.bool false) (by kernel_rfl) (by go_simp) ?_
  simp only [Act.put, List.setIfInBounds_toArray, List.set_cons_zero, List.set_cons_succ, List.getElem_toArray, List.getElem_cons_zero, List.getElem_cons_succ]
  refine wpList_nil ?_
  replace hG := hide hG
  go_upto_region 11 with fail
  replace hG := unhide hG
  refine wp_region_lit ?_
  refine list_val (.slice s1 n cap) (by kernel_rfl) (by kernel_rfl) ?_
  simp only [Act.put, List.setIfInBounds_toArray, List.set_cons_zero, List.set_cons_succ, List.getElem_toArray, List.getElem_cons_zero, List.getElem_cons_succ]
  refine list_call 19 #[.slice s1 n cap] (by kernel_rfl) (by kernel_rfl) ((fgetup_ok L s1 n cap hS hF hE y1c (unhide hl)).mono ?_)
  rintro r_ y2a ⟨v9, rfl, hO, hg⟩
  have hbk := pkB_back (unhide hLb) (by omega) hF
  have hr9 := low8_bd L (unhide hLb) 3 (by omega)
  obtain ⟨BD, hBD⟩ : ∃ B, B = L.drop 11 := ⟨_, rfl⟩
  obtain ⟨vn, hvn0⟩ : ∃ m, m = n - 11 := ⟨_, rfl⟩
  have bBD : IsB BD := by rw [hBD]; exact isB_drop (unhide hLb) 11
  have hBl : BD.length = vn := by rw [hBD, List.length_drop, hLl, hvn0]
  have hvn : onS (vn : Int) = true := by rw [show (vn : Int) = (n : Int) - 11 from by omega]; exact hS
  rw [← hBD] at hO hbk
  obtain ⟨va, vc, rfl, -⟩ := ob_lb hO bBD hBl
  clear hBD hvn0
  unfold pkE at hE
  unfold pkv
  generalize L.getD 1 0 = x1 at *
  generalize L.getD 2 0 = x2 at *
  generalize lowN ((L.drop 3).take 8) = x3 at *
  replace hO := hide hO; replace hbk := hide hbk; replace bBD := hide bBD; replace hBl := hide hBl
  replace hG := hG.trans hg
  replace hl := hide ((unhide hl).gr hg)
  clear hg
  refine ⟨_, rfl, ?_⟩
  simp only [Act.put, List.setIfInBounds_toArray, List.set_cons_zero, List.set_cons_succ, List.getElem_toArray, List.getElem_cons_zero, List.getElem_cons_succ]
  refine list_val (.tuple #[.agg #[.int .i64 x1, .int .i64 x2, .int .u64 x3, .slice va vn vc], .int .i64 0]) (by kernel_rfl) (by kernel_rfl) ?_
  simp only [Act.put, List.setIfInBounds_toArray, List.set_cons_zero, List.set_cons_succ, List.getElem_toArray, List.getElem_cons_zero, List.getElem_cons_succ]
  refine list_val (.agg #[.int .i64 x1, .int .i64 x2, .int .u64 x3, .slice va vn vc]) (by kernel_rfl) (by kernel_rfl) ?_
  simp only [Act.put, List.setIfInBounds_toArray, List.set_cons_zero, List.set_cons_succ, List.getElem_toArray, List.getElem_cons_zero, List.getElem_cons_succ]
  refine list_val (.int .i64 0) (by kernel_rfl) (by kernel_rfl) ?_
  simp only [Act.put, List.setIfInBounds_toArray, List.set_cons_zero, List.set_cons_succ, List.getElem_toArray, List.getElem_cons_zero, List.getElem_cons_succ]
  refine list_valw (.pointer (some ⟨y2a.heap.size, 0, none⟩)) (y2a.alloc (.cells #[.int .i64 0, .int .i64 0, .int .u64 0, .slice none 0 0] 66 (0, 0))) (by kernel_rfl) (by kernel_rfl) ?_
  have hg9 := (Gr.refl y2a).alloc (.cells #[.int .i64 0, .int .i64 0, .int .u64 0, .slice none 0 0] 66 (0, 0))
  replace hO := hide ((unhide hO).gr hg9)
  have hB := (Bl.nil y2a).new #[.int .i64 0, .int .i64 0, .int .u64 0, .slice none 0 0] 66
  simp only [List.nil_append] at hB
  generalize World.alloc _ _ = y2b at *
  generalize y2a.heap.size = q2_ at *
  replace hB : Bl y2a [⟨q2_, #[.int .i64 0, .int .i64 0, .int .u64 0, .slice none 0 0], 66⟩] y2b := hB
  clear hg9
  simp only [Act.put, List.setIfInBounds_toArray, List.set_cons_zero, List.set_cons_succ, List.getElem_toArray, List.getElem_cons_zero, List.getElem_cons_succ]
  refine list_store 66 (.tmp 8) (.tmp 54) q2_ #[.int .i64 x1, .int .i64 x2, .int .u64 x3, .slice va vn vc] 66 #[.int .i64 0, .int .i64 0, .int .u64 0, .slice none 0 0] (by kernel_rfl) rfl (by kernel_rfl) (by kernel_rfl) (hB.get 0 (x := ⟨q2_, #[.int .i64 0, .int .i64 0, .int .u64 0, .slice none 0 0], 66⟩) rfl) (by rw [Try.infoU]; rfl) (rfl) (by simp [Value.oneCell']) ?_
  have hbt := setRow_bt y2b q2_ #[.int .i64 x1, .int .i64 x2, .int .u64 x3, .slice va vn vc]
  have hq9 := (hB.get 0 (x := ⟨q2_, #[.int .i64 0, .int .i64 0, .int .u64 0, .slice none 0 0], 66⟩) rfl)
  dsimp only at hq9
  replace hO := hide (ob_bt (unhide hO) hq9 (by decide) hbt)
  replace hB := hB.set 0 (x := ⟨q2_, #[.int .i64 0, .int .i64 0, .int .u64 0, .slice none 0 0], 66⟩) rfl #[.int .i64 x1, .int .i64 x2, .int .u64 x3, .slice va vn vc]
  simp only [List.set_cons_zero] at hB
  generalize World.setRow _ _ _ = y2c at *
  replace hG := hG.trans hB.gr
  replace hl := hide ((unhide hl).gr hB.gr)
  have hbl := hide (hB.get 0 (x := ⟨q2_, #[.int .i64 x1, .int .i64 x2, .int .u64 x3, .slice va vn vc], 66⟩) rfl)
  clear hB hbt hq9
  simp only [Act.put, List.setIfInBounds_toArray, List.set_cons_zero, List.set_cons_succ, List.getElem_toArray, List.getElem_cons_zero, List.getElem_cons_succ]
  (refine wpList_step fun K hK => ?_; replace hK := hide hK; go_simp; refine unhide hK _ _ ?_; clear hK K)
  refine wpList_nil ?_
  replace hG := hide hG
  go_upto_region 12 with fail
  replace hG := unhide hG
  refine wp_region_lit ?_
  refine list_val (.int .i64 0) (by kernel_rfl) (by kernel_rfl) ?_
  simp only [Act.put, List.setIfInBounds_toArray, List.set_cons_zero, List.set_cons_succ, List.getElem_toArray, List.getElem_cons_zero, List.getElem_cons_succ]
  refine list_val (.bool true) (by kernel_rfl) (by kernel_rfl) ?_
  simp only [Act.put, List.setIfInBounds_toArray, List.set_cons_zero, List.set_cons_succ, List.getElem_toArray, List.getElem_cons_zero, List.getElem_cons_succ]
  refine wpList_nil ?_
  replace hG := hide hG
  go_upto_region 13 with fail
  replace hG := unhide hG
  refine wp_region_lit ?_
  refine list_val (.agg #[.int .i64 x1, .int .i64 x2, .int .u64 x3, .slice va vn vc]) (by kernel_rfl) (exec_arr _ 66 (.tmp 8) rfl q2_ (by kernel_rfl) #[.int .i64 x1, .int .i64 x2, .int .u64 x3, .slice va vn vc] 66 _ (unhide hbl) Try.underlying66 rfl (by rw [Try.infoU]; rfl)) ?_
  simp only [Act.put, List.setIfInBounds_toArray, List.set_cons_zero, List.set_cons_succ, List.getElem_toArray, List.getElem_cons_zero, List.getElem_cons_succ]
  have hlv : Lb y2c va vn vc BD := ob_lb2 (unhide hO) (unhide bBD) (unhide hBl)
  refine list_call 20 #[.agg #[.int .i64 x1, .int .i64 x2, .int .u64 x3, .slice va vn vc]] (by kernel_rfl) (by kernel_rfl) ((fputup_ok x1 x2 x3 va vn vc BD hE hvn hr9 y2c hlv).mono ?_)
  rintro r_ y2d ⟨vp, rfl, hOp, hg⟩
  replace hG := hG.trans hg
  replace hl := hide ((unhide hl).gr hg)
  rw [unhide hbk] at hOp
  obtain ⟨pa, pc, rfl, hlp⟩ := ob_lb hOp (unhide hLb) hLl
  replace hlp := hide hlp
  clear hg hOp
  refine ⟨_, rfl, ?_⟩
  simp only [Act.put, List.setIfInBounds_toArray, List.set_cons_zero, List.set_cons_succ, List.getElem_toArray, List.getElem_cons_zero, List.getElem_cons_succ]
  refine list_val (.tuple #[.slice pa n pc, .int .i64 0]) (by kernel_rfl) (by kernel_rfl) ?_
  simp only [Act.put, List.setIfInBounds_toArray, List.set_cons_zero, List.set_cons_succ, List.getElem_toArray, List.getElem_cons_zero, List.getElem_cons_succ]
  refine list_val (.slice pa n pc) (by kernel_rfl) (by kernel_rfl) ?_
  simp only [Act.put, List.setIfInBounds_toArray, List.set_cons_zero, List.set_cons_succ, List.getElem_toArray, List.getElem_cons_zero, List.getElem_cons_succ]
  refine list_val (.int .i64 0) (by kernel_rfl) (by kernel_rfl) ?_
  simp only [Act.put, List.setIfInBounds_toArray, List.set_cons_zero, List.set_cons_succ, List.getElem_toArray, List.getElem_cons_zero, List.getElem_cons_succ]
  (refine wpList_step fun K hK => ?_; replace hK := hide hK; go_simp; refine unhide hK _ _ ?_; clear hK K)
  (refine wpList_step fun K hK => ?_; replace hK := hide hK; go_simp; refine unhide hK _ _ ?_; clear hK K)
  refine wpList_nil ?_
  replace hG := hide hG
  go_upto_region 14 with fail
  replace hG := unhide hG
  refine wp_region_lit ?_
  refine list_val (.int .i64 0) (by kernel_rfl) (by kernel_rfl) ?_
  simp only [Act.put, List.setIfInBounds_toArray, List.set_cons_zero, List.set_cons_succ, List.getElem_toArray, List.getElem_cons_zero, List.getElem_cons_succ]
  refine list_val (.bool false) (by kernel_rfl) (by kernel_rfl) ?_
  simp only [Act.put, List.setIfInBounds_toArray, List.set_cons_zero, List.set_cons_succ, List.getElem_toArray, List.getElem_cons_zero, List.getElem_cons_succ]
  refine list_val (.bool false) (by kernel_rfl) (by kernel_rfl) ?_
  simp only [Act.put, List.setIfInBounds_toArray, List.set_cons_zero, List.set_cons_succ, List.getElem_toArray, List.getElem_cons_zero, List.getElem_cons_succ]
  refine list_val (.slice s1 n cap) (by kernel_rfl) (by kernel_rfl) ?_
  simp only [Act.put, List.setIfInBounds_toArray, List.set_cons_zero, List.set_cons_succ, List.getElem_toArray, List.getElem_cons_zero, List.getElem_cons_succ]
  refine list_val (.slice pa n pc) (by kernel_rfl) (by kernel_rfl) ?_
  simp only [Act.put, List.setIfInBounds_toArray, List.set_cons_zero, List.set_cons_succ, List.getElem_toArray, List.getElem_cons_zero, List.getElem_cons_succ]
  refine list_call 17 #[.slice s1 n cap, .slice pa n pc] (by kernel_rfl) (by kernel_rfl) ((beq_ok L L s1 pa n n cap pc y2d (unhide hl) (unhide hlp)).mono ?_)
  rintro r_ y2e ⟨rfl, hg⟩
  rw [decide_eq_true rfl]
  replace hG := hG.trans hg
  replace hl := hide ((unhide hl).gr hg)
  clear hg hlp
  refine ⟨_, rfl, ?_⟩
  simp only [Act.put, List.setIfInBounds_toArray, List.set_cons_zero, List.set_cons_succ, List.getElem_toArray, List.getElem_cons_zero, List.getElem_cons_succ]
  refine list_val (.bool false) (by kernel_rfl) (by kernel_rfl) ?_
  simp only [Act.put, List.setIfInBounds_toArray, List.set_cons_zero, List.set_cons_succ, List.getElem_toArray, List.getElem_cons_zero, List.getElem_cons_succ]
  refine list_val (.bool false) (by kernel_rfl) (by kernel_rfl) ?_
  simp only [Act.put, List.setIfInBounds_toArray, List.set_cons_zero, List.set_cons_succ, List.getElem_toArray, List.getElem_cons_zero, List.getElem_cons_succ]
  refine list_val (.bool false) (by kernel_rfl) (by kernel_rfl) ?_
  simp only [Act.put, List.setIfInBounds_toArray, List.set_cons_zero, List.set_cons_succ, List.getElem_toArray, List.getElem_cons_zero, List.getElem_cons_succ]
  refine list_val (.slice s1 n cap) (by kernel_rfl) (by kernel_rfl) ?_
  simp only [Act.put, List.setIfInBounds_toArray, List.set_cons_zero, List.set_cons_succ, List.getElem_toArray, List.getElem_cons_zero, List.getElem_cons_succ]
  refine list_call 18 #[.slice s1 n cap] (by kernel_rfl) (by kernel_rfl) ((fkind_ok L s1 n cap y2e (unhide hl)).mono ?_)
  rintro r_ y2f ⟨rfl, hg⟩
  rw [hKd]
  replace hG := hG.trans hg
  replace hl := hide ((unhide hl).gr hg)
  clear hg
  refine ⟨_, rfl, ?_⟩
  simp only [Act.put, List.setIfInBounds_toArray, List.set_cons_zero, List.set_cons_succ, List.getElem_toArray, List.getElem_cons_zero, List.getElem_cons_succ]
  refine list_val (.bool false) (by kernel_rfl) (by kernel_rfl) ?_
  simp only [Act.put, List.setIfInBounds_toArray, List.set_cons_zero, List.set_cons_succ, List.getElem_toArray, List.getElem_cons_zero, List.getElem_cons_succ]
  refine list_val (.bool false) (by kernel_rfl) (by kernel_rfl) ?_
  simp only [Act.put, List.setIfInBounds_toArray, List.set_cons_zero, List.set_cons_succ, List.getElem_toArray, List.getElem_cons_zero, List.getElem_cons_succ]
  refine wpList_nil ?_
  replace hG := hide hG
  go_upto_region 16 with fail
  replace hG := unhide hG
  refine wp_region_lit ?_
  refine list_val (.int .i64 0) (by kernel_rfl) (by kernel_rfl) ?_
  simp only [Act.put, List.setIfInBounds_toArray, List.set_cons_zero, List.set_cons_succ, List.getElem_toArray, List.getElem_cons_zero, List.getElem_cons_succ]
  refine list_val (.int .i64 1) (by kernel_rfl) (by kernel_rfl) ?_
  simp only [Act.put, List.setIfInBounds_toArray, List.set_cons_zero, List.set_cons_succ, List.getElem_toArray, List.getElem_cons_zero, List.getElem_cons_succ]
  (refine wpList_step fun K hK => ?_; replace hK := hide hK; go_simp; refine unhide hK _ _ ?_; clear hK K)
  refine wpList_nil ?_
  replace hG := hide hG
  go_upto_region 17 with fail
  replace hG := unhide hG
  refine wp_region_lit ?_
  refine list_val (.slice s1 n cap) (by kernel_rfl) (by kernel_rfl) ?_
  simp only [Act.put, List.setIfInBounds_toArray, List.set_cons_zero, List.set_cons_succ, List.getElem_toArray, List.getElem_cons_zero, List.getElem_cons_succ]
  refine list_call 21 #[.slice s1 n cap] (by kernel_rfl) (by kernel_rfl) ((getdn_any L s1 n cap y2f (unhide hl)).mono ?_)
  rintro r y3a ⟨x3, e3, rfl, hxs, hxo, hge, hg⟩
  have he3 : ¬ e3 = 0 := by intro e9; rw [hD, e9] at hge; simp at hge
  replace hG := hG.trans hg
  replace hl := hide ((unhide hl).gr hg)
  clear hg hge
  refine ⟨_, rfl, ?_⟩
  simp only [Act.put, List.setIfInBounds_toArray, List.set_cons_zero, List.set_cons_succ, List.getElem_toArray, List.getElem_cons_zero, List.getElem_cons_succ]
  refine list_val (.tuple #[.agg x3, .int .i64 e3]) (by kernel_rfl) (by kernel_rfl) ?_
  simp only [Act.put, List.setIfInBounds_toArray, List.set_cons_zero, List.set_cons_succ, List.getElem_toArray, List.getElem_cons_zero, List.getElem_cons_succ]
  refine list_val (.agg x3) (by kernel_rfl) (by kernel_rfl) ?_
  simp only [Act.put, List.setIfInBounds_toArray, List.set_cons_zero, List.set_cons_succ, List.getElem_toArray, List.getElem_cons_zero, List.getElem_cons_succ]
  refine list_val (.int .i64 e3) (by kernel_rfl) (by kernel_rfl) ?_
  simp only [Act.put, List.setIfInBounds_toArray, List.set_cons_zero, List.set_cons_succ, List.getElem_toArray, List.getElem_cons_zero, List.getElem_cons_succ]
  refine list_valw (.pointer (some ⟨y3a.heap.size, 0, none⟩)) (y3a.alloc (.cells #[.int .i64 0, .int .i64 0, .int .u64 0, .slice none 0 0] 71 (0, 0))) (by kernel_rfl) (by kernel_rfl) ?_
  have hB := (Bl.nil y3a).new #[.int .i64 0, .int .i64 0, .int .u64 0, .slice none 0 0] 71
  simp only [List.nil_append] at hB
  generalize World.alloc _ _ = y3b at *
  generalize y3a.heap.size = q3_ at *
  replace hB : Bl y3a [⟨q3_, #[.int .i64 0, .int .i64 0, .int .u64 0, .slice none 0 0], 71⟩] y3b := hB
  simp only [Act.put, List.setIfInBounds_toArray, List.set_cons_zero, List.set_cons_succ, List.getElem_toArray, List.getElem_cons_zero, List.getElem_cons_succ]
  refine list_store 71 (.tmp 12) (.tmp 81) q3_ x3 71 #[.int .i64 0, .int .i64 0, .int .u64 0, .slice none 0 0] (by kernel_rfl) rfl (by kernel_rfl) (by kernel_rfl) (hB.get 0 (x := ⟨q3_, #[.int .i64 0, .int .i64 0, .int .u64 0, .slice none 0 0], 71⟩) rfl) (by rw [Try.infoD, hxs]) (by rw [hxs]; rfl) hxo ?_
  replace hB := hB.set 0 (x := ⟨q3_, #[.int .i64 0, .int .i64 0, .int .u64 0, .slice none 0 0], 71⟩) rfl x3
  generalize World.setRow _ _ _ = y3c at *
  replace hG := hG.trans hB.gr
  replace hl := hide ((unhide hl).gr hB.gr)
  clear hB hxs hxo
  simp only [Act.put, List.setIfInBounds_toArray, List.set_cons_zero, List.set_cons_succ, List.getElem_toArray, List.getElem_cons_zero, List.getElem_cons_succ]
  (refine wpList_step fun K hK => ?_; replace hK := hide hK; go_simp; refine unhide hK _ _ ?_; clear hK K)
  refine wpList_nil ?_
  replace hG := hide hG
  go_upto_region 18 with fail
  replace hG := unhide hG
  refine wp_region_lit ?_
  refine list_val (.int .i64 e3) (by kernel_rfl) (by kernel_rfl) ?_
  simp only [Act.put, List.setIfInBounds_toArray, List.set_cons_zero, List.set_cons_succ, List.getElem_toArray, List.getElem_cons_zero, List.getElem_cons_succ]
  refine list_val (.bool false) (by kernel_rfl) (by go_simp) ?_
  simp only [Act.put, List.setIfInBounds_toArray, List.set_cons_zero, List.set_cons_succ, List.getElem_toArray, List.getElem_cons_zero, List.getElem_cons_succ]
  refine wpList_nil ?_
  replace hG := hide hG
  go_upto_region 23 with fail
  replace hG := unhide hG
  refine wp_region_lit ?_
  refine list_val (.slice s1 n cap) (by kernel_rfl) (by kernel_rfl) ?_
  simp only [Act.put, List.setIfInBounds_toArray, List.set_cons_zero, List.set_cons_succ, List.getElem_toArray, List.getElem_cons_zero, List.getElem_cons_succ]
  refine list_call 13 #[.slice s1 n cap] (by kernel_rfl) (by kernel_rfl) ((gete_any L s1 n cap y3c (unhide hl) hEv).mono ?_)
  rintro r y4a ⟨x4, e4, rfl, hxs, hxo, hge, hg⟩
  have he4 : ¬ e4 = 0 := by intro e9; rw [e9] at hge; simp at hge
  replace hG := hG.trans hg
  replace hl := hide ((unhide hl).gr hg)
  clear hg hge
  refine ⟨_, rfl, ?_⟩
  simp only [Act.put, List.setIfInBounds_toArray, List.set_cons_zero, List.set_cons_succ, List.getElem_toArray, List.getElem_cons_zero, List.getElem_cons_succ]
  refine list_val (.tuple #[.agg x4, .int .i64 e4]) (by kernel_rfl) (by kernel_rfl) ?_
  simp only [Act.put, List.setIfInBounds_toArray, List.set_cons_zero, List.set_cons_succ, List.getElem_toArray, List.getElem_cons_zero, List.getElem_cons_succ]
  refine list_val (.agg x4) (by kernel_rfl) (by kernel_rfl) ?_
  simp only [Act.put, List.setIfInBounds_toArray, List.set_cons_zero, List.set_cons_succ, List.getElem_toArray, List.getElem_cons_zero, List.getElem_cons_succ]
  refine list_val (.int .i64 e4) (by kernel_rfl) (by kernel_rfl) ?_
  simp only [Act.put, List.setIfInBounds_toArray, List.set_cons_zero, List.set_cons_succ, List.getElem_toArray, List.getElem_cons_zero, List.getElem_cons_succ]
  refine list_valw (.pointer (some ⟨y4a.heap.size, 0, none⟩)) (y4a.alloc (.cells (evl 0 0 0 Z105).toArray 37 (0, 0))) (by kernel_rfl) (by kernel_rfl) ?_
  have hB := (Bl.nil y4a).new (evl 0 0 0 Z105).toArray 37
  simp only [List.nil_append] at hB
  generalize World.alloc _ _ = y4b at *
  generalize y4a.heap.size = q4_ at *
  replace hB : Bl y4a [⟨q4_, (evl 0 0 0 Z105).toArray, 37⟩] y4b := hB
  simp only [Act.put, List.setIfInBounds_toArray, List.set_cons_zero, List.set_cons_succ, List.getElem_toArray, List.getElem_cons_zero, List.getElem_cons_succ]
  refine list_store 37 (.tmp 16) (.tmp 108) q4_ x4 37 (evl 0 0 0 Z105).toArray (by kernel_rfl) rfl (by kernel_rfl) (by kernel_rfl) (hB.get 0 (x := ⟨q4_, (evl 0 0 0 Z105).toArray, 37⟩) rfl) (by rw [Try.infoE, hxs]) (by rw [hxs]; rfl) hxo ?_
  replace hB := hB.set 0 (x := ⟨q4_, (evl 0 0 0 Z105).toArray, 37⟩) rfl x4
  generalize World.setRow _ _ _ = y4c at *
  replace hG := hG.trans hB.gr
  replace hl := hide ((unhide hl).gr hB.gr)
  clear hB hxs hxo
  simp only [Act.put, List.setIfInBounds_toArray, List.set_cons_zero, List.set_cons_succ, List.getElem_toArray, List.getElem_cons_zero, List.getElem_cons_succ]
  (refine wpList_step fun K hK => ?_; replace hK := hide hK; go_simp; refine unhide hK _ _ ?_; clear hK K)
  refine wpList_nil ?_
  replace hG := hide hG
  go_upto_region 24 with fail
  replace hG := unhide hG
  refine wp_region_lit ?_
  refine list_val (.int .i64 e4) (by kernel_rfl) (by kernel_rfl) ?_
  simp only [Act.put, List.setIfInBounds_toArray, List.set_cons_zero, List.set_cons_succ, List.getElem_toArray, List.getElem_cons_zero, List.getElem_cons_succ]
  refine list_val (.bool false) (by kernel_rfl) (by go_simp) ?_
  simp only [Act.put, List.setIfInBounds_toArray, List.set_cons_zero, List.set_cons_succ, List.getElem_toArray, List.getElem_cons_zero, List.getElem_cons_succ]
  refine wpList_nil ?_
  replace hG := hide hG
  go_upto_region 28 with fail
  replace hG := unhide hG
  refine wp_region_lit ?_
  refine list_val (.int .i64 1) (by kernel_rfl) (by kernel_rfl) ?_
  simp only [Act.put, List.setIfInBounds_toArray, List.set_cons_zero, List.set_cons_succ, List.getElem_toArray, List.getElem_cons_zero, List.getElem_cons_succ]
  refine list_val (.bool true) (by kernel_rfl) (by kernel_rfl) ?_
  simp only [Act.put, List.setIfInBounds_toArray, List.set_cons_zero, List.set_cons_succ, List.getElem_toArray, List.getElem_cons_zero, List.getElem_cons_succ]
  refine list_val (.bool true) (by kernel_rfl) (by kernel_rfl) ?_
  simp only [Act.put, List.setIfInBounds_toArray, List.set_cons_zero, List.set_cons_succ, List.getElem_toArray, List.getElem_cons_zero, List.getElem_cons_succ]
  refine list_val (.int .i64 1) (by kernel_rfl) (by kernel_rfl) ?_
  simp only [Act.put, List.setIfInBounds_toArray, List.set_cons_zero, List.set_cons_succ, List.getElem_toArray, List.getElem_cons_zero, List.getElem_cons_succ]
  refine list_val (.bool false) (by kernel_rfl) (by kernel_rfl) ?_
  simp only [Act.put, List.setIfInBounds_toArray, List.set_cons_zero, List.set_cons_succ, List.getElem_toArray, List.getElem_cons_zero, List.getElem_cons_succ]
  refine list_val (.slice s1 n cap) (by kernel_rfl) (by kernel_rfl) ?_
  simp only [Act.put, List.setIfInBounds_toArray, List.set_cons_zero, List.set_cons_succ, List.getElem_toArray, List.getElem_cons_zero, List.getElem_cons_succ]
  refine list_call 18 #[.slice s1 n cap] (by kernel_rfl) (by kernel_rfl) ((fkind_ok L s1 n cap y4c (unhide hl)).mono ?_)
  rintro r_ yz ⟨rfl, hg⟩
  rw [hKd]
  have hZ : Hid (Woke w (.returned (.bool true)) yz) := ⟨rfl, hG.trans hg⟩
  clear hg hG
  refine ⟨_, rfl, ?_⟩
  simp only [Act.put, List.setIfInBounds_toArray, List.set_cons_zero, List.set_cons_succ, List.getElem_toArray, List.getElem_cons_zero, List.getElem_cons_succ]
  refine list_val (.bool false) (by kernel_rfl) (by kernel_rfl) ?_
  simp only [Act.put, List.setIfInBounds_toArray, List.set_cons_zero, List.set_cons_succ, List.getElem_toArray, List.getElem_cons_zero, List.getElem_cons_succ]
  refine list_val (.bool true) (by kernel_rfl) (by kernel_rfl) ?_
  simp only [Act.put, List.setIfInBounds_toArray, List.set_cons_zero, List.set_cons_succ, List.getElem_toArray, List.getElem_cons_zero, List.getElem_cons_succ]
  refine list_val (.bool true) (by kernel_rfl) (by kernel_rfl) ?_
  simp only [Act.put, List.setIfInBounds_toArray, List.set_cons_zero, List.set_cons_succ, List.getElem_toArray, List.getElem_cons_zero, List.getElem_cons_succ]
  (refine wpList_step fun K hK => ?_; replace hK := hide hK; go_simp; refine unhide hK _ _ ?_; clear hK K)
  refine wpList_nil ?_
  go_wp2_with fail
  rw [unhide hT]
  exact unhide hZ
set_option maxHeartbeats 4000000 in
theorem there_D (l : List Int) (s : Option Addr) (len cap : Nat) (w : World) (lb : Lb w s len cap l) (hD : dG (l.take (min len 1000)) = true) : Calls Try.prog 4 #[.slice s len cap] w (Woke w) := by
  obtain ⟨T, hT⟩ : ∃ T, T = Woke w := ⟨_, rfl⟩
  rw [← hT]
  replace hT := hide hT
  replace lb := hide lb
  obtain ⟨n, hn0⟩ : ∃ n, n = min len 1000 := ⟨_, rfl⟩
  obtain ⟨L, hL0⟩ : ∃ L, L = l.take n := ⟨_, rfl⟩
  have hL1 : l.take (min len 1000) = L := by rw [hL0, hn0]
  rw [hL1] at hD
  have hn9 : n ≤ 1000 := by omega
  have hLn : L.length = n := by rw [hL0, List.length_take, (unhide lb).len, hn0]; omega
  replace hn0 := hide hn0; replace hL0 := hide hL0
  clear hL1
  have hsd := d_size hD
  have hA : aG L = false := by cases h : aG L; rfl; have := a_size h; omega
  have hU : uG L = false := by cases h : uG L; rfl; have := u_size h; omega
  have hKd : kindO L = 3 := by unfold kindO; simp [hA, hD, hU]
  have hEv : (decide (L.length = 114) && evRO L) = false := by rw [decide_eq_false (by omega)]; rfl
  have hD9 := hD
  unfold dG at hD9
  simp only [Bool.and_eq_true, decide_eq_true_iff] at hD9
  obtain ⟨hS, hF, hE⟩ := hD9
  rw [hLn] at hS
  have hn12 : 12 ≤ n := by omega
  clear hsd hLn
  go_enter Try.func4, Try.ntmps4
  go_upto_region 1 with fail
  refine wp_region_lit ?_
  refine list_call 5 #[] (by kernel_rfl) (by kernel_rfl) ((jwakes_ok w).mono ?_)
  rintro r u ⟨rfl, hG⟩
  replace lb := hide ((unhide lb).gr hG)
  refine ⟨_, rfl, ?_⟩
  simp only [Act.put, List.setIfInBounds_toArray, List.set_cons_zero, List.set_cons_succ, List.getElem_toArray, List.getElem_cons_zero, List.getElem_cons_succ]
  refine list_val (.bool false) (by kernel_rfl) (by kernel_rfl) ?_
  simp only [Act.put, List.setIfInBounds_toArray, List.set_cons_zero, List.set_cons_succ, List.getElem_toArray, List.getElem_cons_zero, List.getElem_cons_succ]
  refine wpList_nil ?_
  replace hG := hide hG
  go_upto_region 3 with fail
  replace hG := unhide hG
  refine wp_region_lit ?_
  refine list_val (.slice s len cap) (by kernel_rfl) (by kernel_rfl) ?_
  simp only [Act.put, List.setIfInBounds_toArray, List.set_cons_zero, List.set_cons_succ, List.getElem_toArray, List.getElem_cons_zero, List.getElem_cons_succ]
  refine list_call 14 #[.slice s len cap] (by kernel_rfl) (by kernel_rfl) ((jcut_ok l s len cap u (unhide lb)).mono ?_)
  rintro r u1 ⟨s1, rfl, hs1, rfl⟩
  have hl := hs1 u1 (unhide lb)
  rw [← unhide hn0, ← unhide hL0] at hl
  rw [← unhide hn0]
  clear hs1 lb hL0 hn0
  replace hl := hide hl
  have hLl := (unhide hl).len
  have hLb := hide (unhide hl).isB
  refine ⟨_, rfl, ?_⟩
  simp only [Act.put, List.setIfInBounds_toArray, List.set_cons_zero, List.set_cons_succ, List.getElem_toArray, List.getElem_cons_zero, List.getElem_cons_succ]
  (refine wpList_step fun K hK => ?_; replace hK := hide hK; go_simp; refine unhide hK _ _ ?_; clear hK K)
  refine wpList_nil ?_
  replace hG := hide hG
  go_upto_region 5 with fail
  replace hG := unhide hG
  refine wp_region_lit ?_
  refine list_val (.slice s1 n cap) (by kernel_rfl) (by kernel_rfl) ?_
  simp only [Act.put, List.setIfInBounds_toArray, List.set_cons_zero, List.set_cons_succ, List.getElem_toArray, List.getElem_cons_zero, List.getElem_cons_succ]
  refine list_call 15 #[.slice s1 n cap] (by kernel_rfl) (by kernel_rfl) ((geta_any L s1 n cap u1 (unhide hl)).mono ?_)
  rintro r y1a ⟨x1, e1, rfl, hxs, hxo, hge, hg⟩
  have he1 : ¬ e1 = 0 := by intro e9; rw [hA, e9] at hge; simp at hge
  replace hG := hG.trans hg
  replace hl := hide ((unhide hl).gr hg)
  clear hg hge
  refine ⟨_, rfl, ?_⟩
  simp only [Act.put, List.setIfInBounds_toArray, List.set_cons_zero, List.set_cons_succ, List.getElem_toArray, List.getElem_cons_zero, List.getElem_cons_succ]
  refine list_val (.tuple #[.agg x1, .int .i64 e1]) (by kernel_rfl) (by kernel_rfl) ?_
  simp only [Act.put, List.setIfInBounds_toArray, List.set_cons_zero, List.set_cons_succ, List.getElem_toArray, List.getElem_cons_zero, List.getElem_cons_succ]
  refine list_val (.agg x1) (by kernel_rfl) (by kernel_rfl) ?_
  simp only [Act.put, List.setIfInBounds_toArray, List.set_cons_zero, List.set_cons_succ, List.getElem_toArray, List.getElem_cons_zero, List.getElem_cons_succ]
  refine list_val (.int .i64 e1) (by kernel_rfl) (by kernel_rfl) ?_
  simp only [Act.put, List.setIfInBounds_toArray, List.set_cons_zero, List.set_cons_succ, List.getElem_toArray, List.getElem_cons_zero, List.getElem_cons_succ]
  refine list_valw (.pointer (some ⟨y1a.heap.size, 0, none⟩)) (y1a.alloc (.cells #[.int .u64 0, .slice none 0 0] 59 (0, 0))) (by kernel_rfl) (by kernel_rfl) ?_
  have hB := (Bl.nil y1a).new #[.int .u64 0, .slice none 0 0] 59
  simp only [List.nil_append] at hB
  generalize World.alloc _ _ = y1b at *
  generalize y1a.heap.size = q1_ at *
  replace hB : Bl y1a [⟨q1_, #[.int .u64 0, .slice none 0 0], 59⟩] y1b := hB
  simp only [Act.put, List.setIfInBounds_toArray, List.set_cons_zero, List.set_cons_succ, List.getElem_toArray, List.getElem_cons_zero, List.getElem_cons_succ]
  refine list_store 59 (.tmp 4) (.tmp 27) q1_ x1 59 #[.int .u64 0, .slice none 0 0] (by kernel_rfl) rfl (by kernel_rfl) (by kernel_rfl) (hB.get 0 (x := ⟨q1_, #[.int .u64 0, .slice none 0 0], 59⟩) rfl) (by rw [Try.infoA, hxs]) (by rw [hxs]; rfl) hxo ?_
  replace hB := hB.set 0 (x := ⟨q1_, #[.int .u64 0, .slice none 0 0], 59⟩) rfl x1
  generalize World.setRow _ _ _ = y1c at *
  replace hG := hG.trans hB.gr
  replace hl := hide ((unhide hl).gr hB.gr)
  clear hB hxs hxo
  simp only [Act.put, List.setIfInBounds_toArray, List.set_cons_zero, List.set_cons_succ, List.getElem_toArray, List.getElem_cons_zero, List.getElem_cons_succ]
  (refine wpList_step fun K hK => ?_; replace hK := hide hK; go_simp; refine unhide hK _ _ ?_; clear hK K)
  refine wpList_nil ?_
  replace hG := hide hG
  go_upto_region 6 with fail
  replace hG := unhide hG
  refine wp_region_lit ?_
  refine list_val (.int .i64 e1) (by kernel_rfl) (by kernel_rfl) ?_
  simp only [Act.put, List.setIfInBounds_toArray, List.set_cons_zero, List.set_cons_succ, List.getElem_toArray, List.getElem_cons_zero, List.getElem_cons_succ]
  refine list_val (.bool false) (by kernel_rfl) (by go_simp) ?_
  simp only [Act.put, List.setIfInBounds_toArray, List.set_cons_zero, List.set_cons_succ, List.getElem_toArray, List.getElem_cons_zero, List.getElem_cons_succ]
  refine wpList_nil ?_
  replace hG := hide hG
  go_upto_region 11 with fail
  replace hG := unhide hG
  refine wp_region_lit ?_
  refine list_val (.slice s1 n cap) (by kernel_rfl) (by kernel_rfl) ?_
  simp only [Act.put, List.setIfInBounds_toArray, List.set_cons_zero, List.set_cons_succ, List.getElem_toArray, List.getElem_cons_zero, List.getElem_cons_succ]
  refine list_call 19 #[.slice s1 n cap] (by kernel_rfl) (by kernel_rfl) ((getup_any L s1 n cap y1c (unhide hl)).mono ?_)
  rintro r y2a ⟨x2, e2, rfl, hxs, hxo, hge, hg⟩
  have he2 : ¬ e2 = 0 := by intro e9; rw [hU, e9] at hge; simp at hge
  replace hG := hG.trans hg
  replace hl := hide ((unhide hl).gr hg)
  clear hg hge
  refine ⟨_, rfl, ?_⟩
  simp only [Act.put, List.setIfInBounds_toArray, List.set_cons_zero, List.set_cons_succ, List.getElem_toArray, List.getElem_cons_zero, List.getElem_cons_succ]
  refine list_val (.tuple #[.agg x2, .int .i64 e2]) (by kernel_rfl) (by kernel_rfl) ?_
  simp only [Act.put, List.setIfInBounds_toArray, List.set_cons_zero, List.set_cons_succ, List.getElem_toArray, List.getElem_cons_zero, List.getElem_cons_succ]
  refine list_val (.agg x2) (by kernel_rfl) (by kernel_rfl) ?_
  simp only [Act.put, List.setIfInBounds_toArray, List.set_cons_zero, List.set_cons_succ, List.getElem_toArray, List.getElem_cons_zero, List.getElem_cons_succ]
  refine list_val (.int .i64 e2) (by kernel_rfl) (by kernel_rfl) ?_
  simp only [Act.put, List.setIfInBounds_toArray, List.set_cons_zero, List.set_cons_succ, List.getElem_toArray, List.getElem_cons_zero, List.getElem_cons_succ]
  refine list_valw (.pointer (some ⟨y2a.heap.size, 0, none⟩)) (y2a.alloc (.cells #[.int .i64 0, .int .i64 0, .int .u64 0, .slice none 0 0] 66 (0, 0))) (by kernel_rfl) (by kernel_rfl) ?_
  have hB := (Bl.nil y2a).new #[.int .i64 0, .int .i64 0, .int .u64 0, .slice none 0 0] 66
  simp only [List.nil_append] at hB
  generalize World.alloc _ _ = y2b at *
  generalize y2a.heap.size = q2_ at *
  replace hB : Bl y2a [⟨q2_, #[.int .i64 0, .int .i64 0, .int .u64 0, .slice none 0 0], 66⟩] y2b := hB
  simp only [Act.put, List.setIfInBounds_toArray, List.set_cons_zero, List.set_cons_succ, List.getElem_toArray, List.getElem_cons_zero, List.getElem_cons_succ]
  refine list_store 66 (.tmp 8) (.tmp 54) q2_ x2 66 #[.int .i64 0, .int .i64 0, .int .u64 0, .slice none 0 0] (by kernel_rfl) rfl (by kernel_rfl) (by kernel_rfl) (hB.get 0 (x := ⟨q2_, #[.int .i64 0, .int .i64 0, .int .u64 0, .slice none 0 0], 66⟩) rfl) (by rw [Try.infoU, hxs]) (by rw [hxs]; rfl) hxo ?_
  replace hB := hB.set 0 (x := ⟨q2_, #[.int .i64 0, .int .i64 0, .int .u64 0, .slice none 0 0], 66⟩) rfl x2
  generalize World.setRow _ _ _ = y2c at *
  replace hG := hG.trans hB.gr
  replace hl := hide ((unhide hl).gr hB.gr)
  clear hB hxs hxo
  simp only [Act.put, List.setIfInBounds_toArray, List.set_cons_zero, List.set_cons_succ, List.getElem_toArray, List.getElem_cons_zero, List.getElem_cons_succ]
  (refine wpList_step fun K hK => ?_; replace hK := hide hK; go_simp; refine unhide hK _ _ ?_; clear hK K)
  refine wpList_nil ?_
  replace hG := hide hG
  go_upto_region 12 with fail
  replace hG := unhide hG
  refine wp_region_lit ?_
  refine list_val (.int .i64 e2) (by kernel_rfl) (by kernel_rfl) ?_
  simp only [Act.put, List.setIfInBounds_toArray, List.set_cons_zero, List.set_cons_succ, List.getElem_toArray, List.getElem_cons_zero, List.getElem_cons_succ]
  refine list_val (.bool false) (by kernel_rfl) (by go_simp) ?_
  simp only [Act.put, List.setIfInBounds_toArray, List.set_cons_zero, List.set_cons_succ, List.getElem_toArray, List.getElem_cons_zero, List.getElem_cons_succ]
  refine wpList_nil ?_
  replace hG := hide hG
  go_upto_region 17 with fail
  replace hG := unhide hG
  refine wp_region_lit ?_
  refine list_val (.slice s1 n cap) (by kernel_rfl) (by kernel_rfl) ?_
  simp only [Act.put, List.setIfInBounds_toArray, List.set_cons_zero, List.set_cons_succ, List.getElem_toArray, List.getElem_cons_zero, List.getElem_cons_succ]
  refine list_call 21 #[.slice s1 n cap] (by kernel_rfl) (by kernel_rfl) ((fgetdn_ok L s1 n cap hS hF hE y2c (unhide hl)).mono ?_)
  rintro r_ y3a ⟨v9, rfl, hO, hg⟩
  have hbk := pkB_back (unhide hLb) (by omega) hF
  have hr9 := low8_bd L (unhide hLb) 3 (by omega)
  obtain ⟨BD, hBD⟩ : ∃ B, B = L.drop 11 := ⟨_, rfl⟩
  obtain ⟨vn, hvn0⟩ : ∃ m, m = n - 11 := ⟨_, rfl⟩
  have bBD : IsB BD := by rw [hBD]; exact isB_drop (unhide hLb) 11
  have hBl : BD.length = vn := by rw [hBD, List.length_drop, hLl, hvn0]
  have hvn : rpS (vn : Int) = true := by rw [show (vn : Int) = (n : Int) - 11 from by omega]; exact hS
  rw [← hBD] at hO hbk
  obtain ⟨va, vc, rfl, -⟩ := ob_lb hO bBD hBl
  clear hBD hvn0
  unfold pkE at hE
  unfold pkv
  generalize L.getD 1 0 = x1 at *
  generalize L.getD 2 0 = x2 at *
  generalize lowN ((L.drop 3).take 8) = x3 at *
  replace hO := hide hO; replace hbk := hide hbk; replace bBD := hide bBD; replace hBl := hide hBl
  replace hG := hG.trans hg
  replace hl := hide ((unhide hl).gr hg)
  clear hg
  refine ⟨_, rfl, ?_⟩
  simp only [Act.put, List.setIfInBounds_toArray, List.set_cons_zero, List.set_cons_succ, List.getElem_toArray, List.getElem_cons_zero, List.getElem_cons_succ]
  refine list_val (.tuple #[.agg #[.int .i64 x1, .int .i64 x2, .int .u64 x3, .slice va vn vc], .int .i64 0]) (by kernel_rfl) (by kernel_rfl) ?_
  simp only [Act.put, List.setIfInBounds_toArray, List.set_cons_zero, List.set_cons_succ, List.getElem_toArray, List.getElem_cons_zero, List.getElem_cons_succ]
  refine list_val (.agg #[.int .i64 x1, .int .i64 x2, .int .u64 x3, .slice va vn vc]) (by kernel_rfl) (by kernel_rfl) ?_
  simp only [Act.put, List.setIfInBounds_toArray, List.set_cons_zero, List.set_cons_succ, List.getElem_toArray, List.getElem_cons_zero, List.getElem_cons_succ]
  refine list_val (.int .i64 0) (by kernel_rfl) (by kernel_rfl) ?_
  simp only [Act.put, List.setIfInBounds_toArray, List.set_cons_zero, List.set_cons_succ, List.getElem_toArray, List.getElem_cons_zero, List.getElem_cons_succ]
  refine list_valw (.pointer (some ⟨y3a.heap.size, 0, none⟩)) (y3a.alloc (.cells #[.int .i64 0, .int .i64 0, .int .u64 0, .slice none 0 0] 71 (0, 0))) (by kernel_rfl) (by kernel_rfl) ?_
  have hg9 := (Gr.refl y3a).alloc (.cells #[.int .i64 0, .int .i64 0, .int .u64 0, .slice none 0 0] 71 (0, 0))
  replace hO := hide ((unhide hO).gr hg9)
  have hB := (Bl.nil y3a).new #[.int .i64 0, .int .i64 0, .int .u64 0, .slice none 0 0] 71
  simp only [List.nil_append] at hB
  generalize World.alloc _ _ = y3b at *
  generalize y3a.heap.size = q3_ at *
  replace hB : Bl y3a [⟨q3_, #[.int .i64 0, .int .i64 0, .int .u64 0, .slice none 0 0], 71⟩] y3b := hB
  clear hg9
  simp only [Act.put, List.setIfInBounds_toArray, List.set_cons_zero, List.set_cons_succ, List.getElem_toArray, List.getElem_cons_zero, List.getElem_cons_succ]
  refine list_store 71 (.tmp 12) (.tmp 81) q3_ #[.int .i64 x1, .int .i64 x2, .int .u64 x3, .slice va vn vc] 71 #[.int .i64 0, .int .i64 0, .int .u64 0, .slice none 0 0] (by kernel_rfl) rfl (by kernel_rfl) (by kernel_rfl) (hB.get 0 (x := ⟨q3_, #[.int .i64 0, .int .i64 0, .int .u64 0, .slice none 0 0], 71⟩) rfl) (by rw [Try.infoD]; rfl) (rfl) (by simp [Value.oneCell']) ?_
  have hbt := setRow_bt y3b q3_ #[.int .i64 x1, .int .i64 x2, .int .u64 x3, .slice va vn vc]
  have hq9 := (hB.get 0 (x := ⟨q3_, #[.int .i64 0, .int .i64 0, .int .u64 0, .slice none 0 0], 71⟩) rfl)
  dsimp only at hq9
  replace hO := hide (ob_bt (unhide hO) hq9 (by decide) hbt)
  replace hB := hB.set 0 (x := ⟨q3_, #[.int .i64 0, .int .i64 0, .int .u64 0, .slice none 0 0], 71⟩) rfl #[.int .i64 x1, .int .i64 x2, .int .u64 x3, .slice va vn vc]
  simp only [List.set_cons_zero] at hB
  generalize World.setRow _ _ _ = y3c at *
  replace hG := hG.trans hB.gr
  replace hl := hide ((unhide hl).gr hB.gr)
  have hbl := hide (hB.get 0 (x := ⟨q3_, #[.int .i64 x1, .int .i64 x2, .int .u64 x3, .slice va vn vc], 71⟩) rfl)
  clear hB hbt hq9
  simp only [Act.put, List.setIfInBounds_toArray, List.set_cons_zero, List.set_cons_succ, List.getElem_toArray, List.getElem_cons_zero, List.getElem_cons_succ]
  (refine wpList_step fun K hK => ?_; replace hK := hide hK; go_simp; refine unhide hK _ _ ?_; clear hK K)
  refine wpList_nil ?_
  replace hG := hide hG
  go_upto_region 18 with fail
  replace hG := unhide hG
  refine wp_region_lit ?_
  refine list_val (.int .i64 0) (by kernel_rfl) (by kernel_rfl) ?_
  simp only [Act.put, List.setIfInBounds_toArray, List.set_cons_zero, List.set_cons_succ, List.getElem_toArray, List.getElem_cons_zero, List.getElem_cons_succ]
  refine list_val (.bool true) (by kernel_rfl) (by kernel_rfl) ?_
  simp only [Act.put, List.setIfInBounds_toArray, List.set_cons_zero, List.set_cons_succ, List.getElem_toArray, List.getElem_cons_zero, List.getElem_cons_succ]
  refine wpList_nil ?_
  replace hG := hide hG
  go_upto_region 19 with fail
  replace hG := unhide hG
  refine wp_region_lit ?_
  refine list_val (.agg #[.int .i64 x1, .int .i64 x2, .int .u64 x3, .slice va vn vc]) (by kernel_rfl) (exec_arr _ 71 (.tmp 12) rfl q3_ (by kernel_rfl) #[.int .i64 x1, .int .i64 x2, .int .u64 x3, .slice va vn vc] 71 _ (unhide hbl) Try.underlying71 rfl (by rw [Try.infoD]; rfl)) ?_
  simp only [Act.put, List.setIfInBounds_toArray, List.set_cons_zero, List.set_cons_succ, List.getElem_toArray, List.getElem_cons_zero, List.getElem_cons_succ]
  have hlv : Lb y3c va vn vc BD := ob_lb2 (unhide hO) (unhide bBD) (unhide hBl)
  refine list_call 22 #[.agg #[.int .i64 x1, .int .i64 x2, .int .u64 x3, .slice va vn vc]] (by kernel_rfl) (by kernel_rfl) ((fputdn_ok x1 x2 x3 va vn vc BD hE hvn hr9 y3c hlv).mono ?_)
  rintro r_ y3d ⟨vp, rfl, hOp, hg⟩
  replace hG := hG.trans hg
  replace hl := hide ((unhide hl).gr hg)
  rw [unhide hbk] at hOp
  obtain ⟨pa, pc, rfl, hlp⟩ := ob_lb hOp (unhide hLb) hLl
  replace hlp := hide hlp
  clear hg hOp
  refine ⟨_, rfl, ?_⟩
  simp only [Act.put, List.setIfInBounds_toArray, List.set_cons_zero, List.set_cons_succ, List.getElem_toArray, List.getElem_cons_zero, List.getElem_cons_succ]
  refine list_val (.tuple #[.slice pa n pc, .int .i64 0]) (by kernel_rfl) (by kernel_rfl) ?_
  simp only [Act.put, List.setIfInBounds_toArray, List.set_cons_zero, List.set_cons_succ, List.getElem_toArray, List.getElem_cons_zero, List.getElem_cons_succ]
  refine list_val (.slice pa n pc) (by kernel_rfl) (by kernel_rfl) ?_
  simp only [Act.put, List.setIfInBounds_toArray, List.set_cons_zero, List.set_cons_succ, List.getElem_toArray, List.getElem_cons_zero, List.getElem_cons_succ]
  refine list_val (.int .i64 0) (by kernel_rfl) (by kernel_rfl) ?_
  simp only [Act.put, List.setIfInBounds_toArray, List.set_cons_zero, List.set_cons_succ, List.getElem_toArray, List.getElem_cons_zero, List.getElem_cons_succ]
  (refine wpList_step fun K hK => ?_; replace hK := hide hK; go_simp; refine unhide hK _ _ ?_; clear hK K)
  (refine wpList_step fun K hK => ?_; replace hK := hide hK; go_simp; refine unhide hK _ _ ?_; clear hK K)
  refine wpList_nil ?_
  replace hG := hide hG
  go_upto_region 20 with fail
  replace hG := unhide hG
  refine wp_region_lit ?_
  refine list_val (.int .i64 0) (by kernel_rfl) (by kernel_rfl) ?_
  simp only [Act.put, List.setIfInBounds_toArray, List.set_cons_zero, List.set_cons_succ, List.getElem_toArray, List.getElem_cons_zero, List.getElem_cons_succ]
  refine list_val (.bool false) (by kernel_rfl) (by kernel_rfl) ?_
  simp only [Act.put, List.setIfInBounds_toArray, List.set_cons_zero, List.set_cons_succ, List.getElem_toArray, List.getElem_cons_zero, List.getElem_cons_succ]
  refine list_val (.bool false) (by kernel_rfl) (by kernel_rfl) ?_
  simp only [Act.put, List.setIfInBounds_toArray, List.set_cons_zero, List.set_cons_succ, List.getElem_toArray, List.getElem_cons_zero, List.getElem_cons_succ]
  refine list_val (.slice s1 n cap) (by kernel_rfl) (by kernel_rfl) ?_
  simp only [Act.put, List.setIfInBounds_toArray, List.set_cons_zero, List.set_cons_succ, List.getElem_toArray, List.getElem_cons_zero, List.getElem_cons_succ]
  refine list_val (.slice pa n pc) (by kernel_rfl) (by kernel_rfl) ?_
  simp only [Act.put, List.setIfInBounds_toArray, List.set_cons_zero, List.set_cons_succ, List.getElem_toArray, List.getElem_cons_zero, List.getElem_cons_succ]
  refine list_call 17 #[.slice s1 n cap, .slice pa n pc] (by kernel_rfl) (by kernel_rfl) ((beq_ok L L s1 pa n n cap pc y3d (unhide hl) (unhide hlp)).mono ?_)
  rintro r_ y3e ⟨rfl, hg⟩
  rw [decide_eq_true rfl]
  replace hG := hG.trans hg
  replace hl := hide ((unhide hl).gr hg)
  clear hg hlp
  refine ⟨_, rfl, ?_⟩
  simp only [Act.put, List.setIfInBounds_toArray, List.set_cons_zero, List.set_cons_succ, List.getElem_toArray, List.getElem_cons_zero, List.getElem_cons_succ]
  refine list_val (.bool false) (by kernel_rfl) (by kernel_rfl) ?_
  simp only [Act.put, List.setIfInBounds_toArray, List.set_cons_zero, List.set_cons_succ, List.getElem_toArray, List.getElem_cons_zero, List.getElem_cons_succ]
  refine list_val (.bool false) (by kernel_rfl) (by kernel_rfl) ?_
  simp only [Act.put, List.setIfInBounds_toArray, List.set_cons_zero, List.set_cons_succ, List.getElem_toArray, List.getElem_cons_zero, List.getElem_cons_succ]
  refine list_val (.bool false) (by kernel_rfl) (by kernel_rfl) ?_
  simp only [Act.put, List.setIfInBounds_toArray, List.set_cons_zero, List.set_cons_succ, List.getElem_toArray, List.getElem_cons_zero, List.getElem_cons_succ]
  refine list_val (.slice s1 n cap) (by kernel_rfl) (by kernel_rfl) ?_
  simp only [Act.put, List.setIfInBounds_toArray, List.set_cons_zero, List.set_cons_succ, List.getElem_toArray, List.getElem_cons_zero, List.getElem_cons_succ]
  refine list_call 18 #[.slice s1 n cap] (by kernel_rfl) (by kernel_rfl) ((fkind_ok L s1 n cap y3e (unhide hl)).mono ?_)
  rintro r_ y3f ⟨rfl, hg⟩
  rw [hKd]
  replace hG := hG.trans hg
  replace hl := hide ((unhide hl).gr hg)
  clear hg
  refine ⟨_, rfl, ?_⟩
  simp only [Act.put, List.setIfInBounds_toArray, List.set_cons_zero, List.set_cons_succ, List.getElem_toArray, List.getElem_cons_zero, List.getElem_cons_succ]
  refine list_val (.bool false) (by kernel_rfl) (by kernel_rfl) ?_
  simp only [Act.put, List.setIfInBounds_toArray, List.set_cons_zero, List.set_cons_succ, List.getElem_toArray, List.getElem_cons_zero, List.getElem_cons_succ]
  refine list_val (.bool false) (by kernel_rfl) (by kernel_rfl) ?_
  simp only [Act.put, List.setIfInBounds_toArray, List.set_cons_zero, List.set_cons_succ, List.getElem_toArray, List.getElem_cons_zero, List.getElem_cons_succ]
  refine wpList_nil ?_
  replace hG := hide hG
  go_upto_region 22 with fail
  replace hG := unhide hG
  refine wp_region_lit ?_
  refine list_val (.int .i64 0) (by kernel_rfl) (by kernel_rfl) ?_
  simp only [Act.put, List.setIfInBounds_toArray, List.set_cons_zero, List.set_cons_succ, List.getElem_toArray, List.getElem_cons_zero, List.getElem_cons_succ]
  refine list_val (.int .i64 1) (by kernel_rfl) (by kernel_rfl) ?_
  simp only [Act.put, List.setIfInBounds_toArray, List.set_cons_zero, List.set_cons_succ, List.getElem_toArray, List.getElem_cons_zero, List.getElem_cons_succ]
  (refine wpList_step fun K hK => ?_; replace hK := hide hK; go_simp; refine unhide hK _ _ ?_; clear hK K)
  refine wpList_nil ?_
  replace hG := hide hG
  go_upto_region 23 with fail
  replace hG := unhide hG
  refine wp_region_lit ?_
  refine list_val (.slice s1 n cap) (by kernel_rfl) (by kernel_rfl) ?_
  simp only [Act.put, List.setIfInBounds_toArray, List.set_cons_zero, List.set_cons_succ, List.getElem_toArray, List.getElem_cons_zero, List.getElem_cons_succ]
  refine list_call 13 #[.slice s1 n cap] (by kernel_rfl) (by kernel_rfl) ((gete_any L s1 n cap y3f (unhide hl) hEv).mono ?_)
  rintro r y4a ⟨x4, e4, rfl, hxs, hxo, hge, hg⟩
  have he4 : ¬ e4 = 0 := by intro e9; rw [e9] at hge; simp at hge
  replace hG := hG.trans hg
  replace hl := hide ((unhide hl).gr hg)
  clear hg hge
  refine ⟨_, rfl, ?_⟩
  simp only [Act.put, List.setIfInBounds_toArray, List.set_cons_zero, List.set_cons_succ, List.getElem_toArray, List.getElem_cons_zero, List.getElem_cons_succ]
  refine list_val (.tuple #[.agg x4, .int .i64 e4]) (by kernel_rfl) (by kernel_rfl) ?_
  simp only [Act.put, List.setIfInBounds_toArray, List.set_cons_zero, List.set_cons_succ, List.getElem_toArray, List.getElem_cons_zero, List.getElem_cons_succ]
  refine list_val (.agg x4) (by kernel_rfl) (by kernel_rfl) ?_
  simp only [Act.put, List.setIfInBounds_toArray, List.set_cons_zero, List.set_cons_succ, List.getElem_toArray, List.getElem_cons_zero, List.getElem_cons_succ]
  refine list_val (.int .i64 e4) (by kernel_rfl) (by kernel_rfl) ?_
  simp only [Act.put, List.setIfInBounds_toArray, List.set_cons_zero, List.set_cons_succ, List.getElem_toArray, List.getElem_cons_zero, List.getElem_cons_succ]
  refine list_valw (.pointer (some ⟨y4a.heap.size, 0, none⟩)) (y4a.alloc (.cells (evl 0 0 0 Z105).toArray 37 (0, 0))) (by kernel_rfl) (by kernel_rfl) ?_
  have hB := (Bl.nil y4a).new (evl 0 0 0 Z105).toArray 37
  simp only [List.nil_append] at hB
  generalize World.alloc _ _ = y4b at *
  generalize y4a.heap.size = q4_ at *
  replace hB : Bl y4a [⟨q4_, (evl 0 0 0 Z105).toArray, 37⟩] y4b := hB
  simp only [Act.put, List.setIfInBounds_toArray, List.set_cons_zero, List.set_cons_succ, List.getElem_toArray, List.getElem_cons_zero, List.getElem_cons_succ]
  refine list_store 37 (.tmp 16) (.tmp 108) q4_ x4 37 (evl 0 0 0 Z105).toArray (by kernel_rfl) rfl (by kernel_rfl) (by kernel_rfl) (hB.get 0 (x := ⟨q4_, (evl 0 0 0 Z105).toArray, 37⟩) rfl) (by rw [Try.infoE, hxs]) (by rw [hxs]; rfl) hxo ?_
  replace hB := hB.set 0 (x := ⟨q4_, (evl 0 0 0 Z105).toArray, 37⟩) rfl x4
  generalize World.setRow _ _ _ = y4c at *
  replace hG := hG.trans hB.gr
  replace hl := hide ((unhide hl).gr hB.gr)
  clear hB hxs hxo
  simp only [Act.put, List.setIfInBounds_toArray, List.set_cons_zero, List.set_cons_succ, List.getElem_toArray, List.getElem_cons_zero, List.getElem_cons_succ]
  (refine wpList_step fun K hK => ?_; replace hK := hide hK; go_simp; refine unhide hK _ _ ?_; clear hK K)
  refine wpList_nil ?_
  replace hG := hide hG
  go_upto_region 24 with fail
  replace hG := unhide hG
  refine wp_region_lit ?_
  refine list_val (.int .i64 e4) (by kernel_rfl) (by kernel_rfl) ?_
  simp only [Act.put, List.setIfInBounds_toArray, List.set_cons_zero, List.set_cons_succ, List.getElem_toArray, List.getElem_cons_zero, List.getElem_cons_succ]
  refine list_val (.bool false) (by kernel_rfl) (by go_simp) ?_
  simp only [Act.put, List.setIfInBounds_toArray, List.set_cons_zero, List.set_cons_succ, List.getElem_toArray, List.getElem_cons_zero, List.getElem_cons_succ]
  refine wpList_nil ?_
  replace hG := hide hG
  go_upto_region 28 with fail
  replace hG := unhide hG
  refine wp_region_lit ?_
  refine list_val (.int .i64 1) (by kernel_rfl) (by kernel_rfl) ?_
  simp only [Act.put, List.setIfInBounds_toArray, List.set_cons_zero, List.set_cons_succ, List.getElem_toArray, List.getElem_cons_zero, List.getElem_cons_succ]
  refine list_val (.bool true) (by kernel_rfl) (by kernel_rfl) ?_
  simp only [Act.put, List.setIfInBounds_toArray, List.set_cons_zero, List.set_cons_succ, List.getElem_toArray, List.getElem_cons_zero, List.getElem_cons_succ]
  refine list_val (.bool true) (by kernel_rfl) (by kernel_rfl) ?_
  simp only [Act.put, List.setIfInBounds_toArray, List.set_cons_zero, List.set_cons_succ, List.getElem_toArray, List.getElem_cons_zero, List.getElem_cons_succ]
  refine list_val (.int .i64 1) (by kernel_rfl) (by kernel_rfl) ?_
  simp only [Act.put, List.setIfInBounds_toArray, List.set_cons_zero, List.set_cons_succ, List.getElem_toArray, List.getElem_cons_zero, List.getElem_cons_succ]
  refine list_val (.bool false) (by kernel_rfl) (by kernel_rfl) ?_
  simp only [Act.put, List.setIfInBounds_toArray, List.set_cons_zero, List.set_cons_succ, List.getElem_toArray, List.getElem_cons_zero, List.getElem_cons_succ]
  refine list_val (.slice s1 n cap) (by kernel_rfl) (by kernel_rfl) ?_
  simp only [Act.put, List.setIfInBounds_toArray, List.set_cons_zero, List.set_cons_succ, List.getElem_toArray, List.getElem_cons_zero, List.getElem_cons_succ]
  refine list_call 18 #[.slice s1 n cap] (by kernel_rfl) (by kernel_rfl) ((fkind_ok L s1 n cap y4c (unhide hl)).mono ?_)
  rintro r_ yz ⟨rfl, hg⟩
  rw [hKd]
  have hZ : Hid (Woke w (.returned (.bool true)) yz) := ⟨rfl, hG.trans hg⟩
  clear hg hG
  refine ⟨_, rfl, ?_⟩
  simp only [Act.put, List.setIfInBounds_toArray, List.set_cons_zero, List.set_cons_succ, List.getElem_toArray, List.getElem_cons_zero, List.getElem_cons_succ]
  refine list_val (.bool false) (by kernel_rfl) (by kernel_rfl) ?_
  simp only [Act.put, List.setIfInBounds_toArray, List.set_cons_zero, List.set_cons_succ, List.getElem_toArray, List.getElem_cons_zero, List.getElem_cons_succ]
  refine list_val (.bool true) (by kernel_rfl) (by kernel_rfl) ?_
  simp only [Act.put, List.setIfInBounds_toArray, List.set_cons_zero, List.set_cons_succ, List.getElem_toArray, List.getElem_cons_zero, List.getElem_cons_succ]
  refine list_val (.bool true) (by kernel_rfl) (by kernel_rfl) ?_
  simp only [Act.put, List.setIfInBounds_toArray, List.set_cons_zero, List.set_cons_succ, List.getElem_toArray, List.getElem_cons_zero, List.getElem_cons_succ]
  (refine wpList_step fun K hK => ?_; replace hK := hide hK; go_simp; refine unhide hK _ _ ?_; clear hK K)
  refine wpList_nil ?_
  go_wp2_with fail
  rw [unhide hT]
  exact unhide hZ
set_option maxHeartbeats 4000000 in
theorem there_E (l : List Int) (s : Option Addr) (len cap : Nat) (w : World) (lb : Lb w s len cap l) (hA : aG (l.take (min len 1000)) = false) (hU : uG (l.take (min len 1000)) = false) (hD : dG (l.take (min len 1000)) = false) (hEv : (decide ((l.take (min len 1000)).length = 114) && evRO (l.take (min len 1000))) = true) : Calls Try.prog 4 #[.slice s len cap] w (Woke w) := by
  obtain ⟨T, hT⟩ : ∃ T, T = Woke w := ⟨_, rfl⟩
  rw [← hT]
  replace hT := hide hT
  replace lb := hide lb
  obtain ⟨n, hn0⟩ : ∃ n, n = min len 1000 := ⟨_, rfl⟩
  obtain ⟨L, hL0⟩ : ∃ L, L = l.take n := ⟨_, rfl⟩
  have hL1 : l.take (min len 1000) = L := by rw [hL0, hn0]
  rw [hL1] at hA hU hD hEv
  have hn9 : n ≤ 1000 := by omega
  have hLn : L.length = n := by rw [hL0, List.length_take, (unhide lb).len, hn0]; omega
  replace hn0 := hide hn0; replace hL0 := hide hL0
  clear hL1
  have hKd : kindO L = 0 := by unfold kindO; simp [hA, hU, hD]
  rw [Bool.and_eq_true, decide_eq_true_iff] at hEv
  obtain ⟨h114, hE⟩ := hEv
  obtain rfl : n = 114 := by omega
  clear h114 hLn hn9
  go_enter Try.func4, Try.ntmps4
  go_upto_region 1 with fail
  refine wp_region_lit ?_
  refine list_call 5 #[] (by kernel_rfl) (by kernel_rfl) ((jwakes_ok w).mono ?_)
  rintro r u ⟨rfl, hG⟩
  replace lb := hide ((unhide lb).gr hG)
  refine ⟨_, rfl, ?_⟩
  simp only [Act.put, List.setIfInBounds_toArray, List.set_cons_zero, List.set_cons_succ, List.getElem_toArray, List.getElem_cons_zero, List.getElem_cons_succ]
  refine list_val (.bool false) (by kernel_rfl) (by kernel_rfl) ?_
  simp only [Act.put, List.setIfInBounds_toArray, List.set_cons_zero, List.set_cons_succ, List.getElem_toArray, List.getElem_cons_zero, List.getElem_cons_succ]
  refine wpList_nil ?_
  replace hG := hide hG
  go_upto_region 3 with fail
  replace hG := unhide hG
  refine wp_region_lit ?_
  refine list_val (.slice s len cap) (by kernel_rfl) (by kernel_rfl) ?_
  simp only [Act.put, List.setIfInBounds_toArray, List.set_cons_zero, List.set_cons_succ, List.getElem_toArray, List.getElem_cons_zero, List.getElem_cons_succ]
  refine list_call 14 #[.slice s len cap] (by kernel_rfl) (by kernel_rfl) ((jcut_ok l s len cap u (unhide lb)).mono ?_)
  rintro r u1 ⟨s1, rfl, hs1, rfl⟩
  have hl := hs1 u1 (unhide lb)
  rw [← unhide hn0, ← unhide hL0] at hl
  rw [← unhide hn0]
  clear hs1 lb hL0 hn0
  replace hl := hide hl
  have hLl := (unhide hl).len
  have hLb := hide (unhide hl).isB
  refine ⟨_, rfl, ?_⟩
  simp only [Act.put, List.setIfInBounds_toArray, List.set_cons_zero, List.set_cons_succ, List.getElem_toArray, List.getElem_cons_zero, List.getElem_cons_succ]
  (refine wpList_step fun K hK => ?_; replace hK := hide hK; go_simp; refine unhide hK _ _ ?_; clear hK K)
  refine wpList_nil ?_
  replace hG := hide hG
  go_upto_region 5 with fail
  replace hG := unhide hG
  refine wp_region_lit ?_
  refine list_val (.slice s1 114 cap) (by kernel_rfl) (by kernel_rfl) ?_
  simp only [Act.put, List.setIfInBounds_toArray, List.set_cons_zero, List.set_cons_succ, List.getElem_toArray, List.getElem_cons_zero, List.getElem_cons_succ]
  refine list_call 15 #[.slice s1 114 cap] (by kernel_rfl) (by kernel_rfl) ((geta_any L s1 114 cap u1 (unhide hl)).mono ?_)
  rintro r y1a ⟨x1, e1, rfl, hxs, hxo, hge, hg⟩
  have he1 : ¬ e1 = 0 := by intro e9; rw [hA, e9] at hge; simp at hge
  replace hG := hG.trans hg
  replace hl := hide ((unhide hl).gr hg)
  clear hg hge
  refine ⟨_, rfl, ?_⟩
  simp only [Act.put, List.setIfInBounds_toArray, List.set_cons_zero, List.set_cons_succ, List.getElem_toArray, List.getElem_cons_zero, List.getElem_cons_succ]
  refine list_val (.tuple #[.agg x1, .int .i64 e1]) (by kernel_rfl) (by kernel_rfl) ?_
  simp only [Act.put, List.setIfInBounds_toArray, List.set_cons_zero, List.set_cons_succ, List.getElem_toArray, List.getElem_cons_zero, List.getElem_cons_succ]
  refine list_val (.agg x1) (by kernel_rfl) (by kernel_rfl) ?_
  simp only [Act.put, List.setIfInBounds_toArray, List.set_cons_zero, List.set_cons_succ, List.getElem_toArray, List.getElem_cons_zero, List.getElem_cons_succ]
  refine list_val (.int .i64 e1) (by kernel_rfl) (by kernel_rfl) ?_
  simp only [Act.put, List.setIfInBounds_toArray, List.set_cons_zero, List.set_cons_succ, List.getElem_toArray, List.getElem_cons_zero, List.getElem_cons_succ]
  refine list_valw (.pointer (some ⟨y1a.heap.size, 0, none⟩)) (y1a.alloc (.cells #[.int .u64 0, .slice none 0 0] 59 (0, 0))) (by kernel_rfl) (by kernel_rfl) ?_
  have hB := (Bl.nil y1a).new #[.int .u64 0, .slice none 0 0] 59
  simp only [List.nil_append] at hB
  generalize World.alloc _ _ = y1b at *
  generalize y1a.heap.size = q1_ at *
  replace hB : Bl y1a [⟨q1_, #[.int .u64 0, .slice none 0 0], 59⟩] y1b := hB
  simp only [Act.put, List.setIfInBounds_toArray, List.set_cons_zero, List.set_cons_succ, List.getElem_toArray, List.getElem_cons_zero, List.getElem_cons_succ]
  refine list_store 59 (.tmp 4) (.tmp 27) q1_ x1 59 #[.int .u64 0, .slice none 0 0] (by kernel_rfl) rfl (by kernel_rfl) (by kernel_rfl) (hB.get 0 (x := ⟨q1_, #[.int .u64 0, .slice none 0 0], 59⟩) rfl) (by rw [Try.infoA, hxs]) (by rw [hxs]; rfl) hxo ?_
  replace hB := hB.set 0 (x := ⟨q1_, #[.int .u64 0, .slice none 0 0], 59⟩) rfl x1
  generalize World.setRow _ _ _ = y1c at *
  replace hG := hG.trans hB.gr
  replace hl := hide ((unhide hl).gr hB.gr)
  clear hB hxs hxo
  simp only [Act.put, List.setIfInBounds_toArray, List.set_cons_zero, List.set_cons_succ, List.getElem_toArray, List.getElem_cons_zero, List.getElem_cons_succ]
  (refine wpList_step fun K hK => ?_; replace hK := hide hK; go_simp; refine unhide hK _ _ ?_; clear hK K)
  refine wpList_nil ?_
  replace hG := hide hG
  go_upto_region 6 with fail
  replace hG := unhide hG
  refine wp_region_lit ?_
  refine list_val (.int .i64 e1) (by kernel_rfl) (by kernel_rfl) ?_
  simp only [Act.put, List.setIfInBounds_toArray, List.set_cons_zero, List.set_cons_succ, List.getElem_toArray, List.getElem_cons_zero, List.getElem_cons_succ]
  refine list_val (.bool false) (by kernel_rfl) (by go_simp) ?_
  simp only [Act.put, List.setIfInBounds_toArray, List.set_cons_zero, List.set_cons_succ, List.getElem_toArray, List.getElem_cons_zero, List.getElem_cons_succ]
  refine wpList_nil ?_
  replace hG := hide hG
  go_upto_region 11 with fail
  replace hG := unhide hG
  refine wp_region_lit ?_
  refine list_val (.slice s1 114 cap) (by kernel_rfl) (by kernel_rfl) ?_
  simp only [Act.put, List.setIfInBounds_toArray, List.set_cons_zero, List.set_cons_succ, List.getElem_toArray, List.getElem_cons_zero, List.getElem_cons_succ]
  refine list_call 19 #[.slice s1 114 cap] (by kernel_rfl) (by kernel_rfl) ((getup_any L s1 114 cap y1c (unhide hl)).mono ?_)
  rintro r y2a ⟨x2, e2, rfl, hxs, hxo, hge, hg⟩
  have he2 : ¬ e2 = 0 := by intro e9; rw [hU, e9] at hge; simp at hge
  replace hG := hG.trans hg
  replace hl := hide ((unhide hl).gr hg)
  clear hg hge
  refine ⟨_, rfl, ?_⟩
  simp only [Act.put, List.setIfInBounds_toArray, List.set_cons_zero, List.set_cons_succ, List.getElem_toArray, List.getElem_cons_zero, List.getElem_cons_succ]
  refine list_val (.tuple #[.agg x2, .int .i64 e2]) (by kernel_rfl) (by kernel_rfl) ?_
  simp only [Act.put, List.setIfInBounds_toArray, List.set_cons_zero, List.set_cons_succ, List.getElem_toArray, List.getElem_cons_zero, List.getElem_cons_succ]
  refine list_val (.agg x2) (by kernel_rfl) (by kernel_rfl) ?_
  simp only [Act.put, List.setIfInBounds_toArray, List.set_cons_zero, List.set_cons_succ, List.getElem_toArray, List.getElem_cons_zero, List.getElem_cons_succ]
  refine list_val (.int .i64 e2) (by kernel_rfl) (by kernel_rfl) ?_
  simp only [Act.put, List.setIfInBounds_toArray, List.set_cons_zero, List.set_cons_succ, List.getElem_toArray, List.getElem_cons_zero, List.getElem_cons_succ]
  refine list_valw (.pointer (some ⟨y2a.heap.size, 0, none⟩)) (y2a.alloc (.cells #[.int .i64 0, .int .i64 0, .int .u64 0, .slice none 0 0] 66 (0, 0))) (by kernel_rfl) (by kernel_rfl) ?_
  have hB := (Bl.nil y2a).new #[.int .i64 0, .int .i64 0, .int .u64 0, .slice none 0 0] 66
  simp only [List.nil_append] at hB
  generalize World.alloc _ _ = y2b at *
  generalize y2a.heap.size = q2_ at *
  replace hB : Bl y2a [⟨q2_, #[.int .i64 0, .int .i64 0, .int .u64 0, .slice none 0 0], 66⟩] y2b := hB
  simp only [Act.put, List.setIfInBounds_toArray, List.set_cons_zero, List.set_cons_succ, List.getElem_toArray, List.getElem_cons_zero, List.getElem_cons_succ]
  refine list_store 66 (.tmp 8) (.tmp 54) q2_ x2 66 #[.int .i64 0, .int .i64 0, .int .u64 0, .slice none 0 0] (by kernel_rfl) rfl (by kernel_rfl) (by kernel_rfl) (hB.get 0 (x := ⟨q2_, #[.int .i64 0, .int .i64 0, .int .u64 0, .slice none 0 0], 66⟩) rfl) (by rw [Try.infoU, hxs]) (by rw [hxs]; rfl) hxo ?_
  replace hB := hB.set 0 (x := ⟨q2_, #[.int .i64 0, .int .i64 0, .int .u64 0, .slice none 0 0], 66⟩) rfl x2
  generalize World.setRow _ _ _ = y2c at *
  replace hG := hG.trans hB.gr
  replace hl := hide ((unhide hl).gr hB.gr)
  clear hB hxs hxo
  simp only [Act.put, List.setIfInBounds_toArray, List.set_cons_zero, List.set_cons_succ, List.getElem_toArray, List.getElem_cons_zero, List.getElem_cons_succ]
  (refine wpList_step fun K hK => ?_; replace hK := hide hK; go_simp; refine unhide hK _ _ ?_; clear hK K)
  refine wpList_nil ?_
  replace hG := hide hG
  go_upto_region 12 with fail
  replace hG := unhide hG
  refine wp_region_lit ?_
  refine list_val (.int .i64 e2) (by kernel_rfl) (by kernel_rfl) ?_
  simp only [Act.put, List.setIfInBounds_toArray, List.set_cons_zero, List.set_cons_succ, List.getElem_toArray, List.getElem_cons_zero, List.getElem_cons_succ]
  refine list_val (.bool false) (by kernel_rfl) (by go_simp) ?_
  simp only [Act.put, List.setIfInBounds_toArray, List.set_cons_zero, List.set_cons_succ, List.getElem_toArray, List.getElem_cons_zero, List.getElem_cons_succ]
  refine wpList_nil ?_
  replace hG := hide hG
  go_upto_region 17 with fail
  replace hG := unhide hG
  refine wp_region_lit ?_
  refine list_val (.slice s1 114 cap) (by kernel_rfl) (by kernel_rfl) ?_
  simp only [Act.put, List.setIfInBounds_toArray, List.set_cons_zero, List.set_cons_succ, List.getElem_toArray, List.getElem_cons_zero, List.getElem_cons_succ]
  refine list_call 21 #[.slice s1 114 cap] (by kernel_rfl) (by kernel_rfl) ((getdn_any L s1 114 cap y2c (unhide hl)).mono ?_)
  rintro r y3a ⟨x3, e3, rfl, hxs, hxo, hge, hg⟩
  have he3 : ¬ e3 = 0 := by intro e9; rw [hD, e9] at hge; simp at hge
  replace hG := hG.trans hg
  replace hl := hide ((unhide hl).gr hg)
  clear hg hge
  refine ⟨_, rfl, ?_⟩
  simp only [Act.put, List.setIfInBounds_toArray, List.set_cons_zero, List.set_cons_succ, List.getElem_toArray, List.getElem_cons_zero, List.getElem_cons_succ]
  refine list_val (.tuple #[.agg x3, .int .i64 e3]) (by kernel_rfl) (by kernel_rfl) ?_
  simp only [Act.put, List.setIfInBounds_toArray, List.set_cons_zero, List.set_cons_succ, List.getElem_toArray, List.getElem_cons_zero, List.getElem_cons_succ]
  refine list_val (.agg x3) (by kernel_rfl) (by kernel_rfl) ?_
  simp only [Act.put, List.setIfInBounds_toArray, List.set_cons_zero, List.set_cons_succ, List.getElem_toArray, List.getElem_cons_zero, List.getElem_cons_succ]
  refine list_val (.int .i64 e3) (by kernel_rfl) (by kernel_rfl) ?_
  simp only [Act.put, List.setIfInBounds_toArray, List.set_cons_zero, List.set_cons_succ, List.getElem_toArray, List.getElem_cons_zero, List.getElem_cons_succ]
  refine list_valw (.pointer (some ⟨y3a.heap.size, 0, none⟩)) (y3a.alloc (.cells #[.int .i64 0, .int .i64 0, .int .u64 0, .slice none 0 0] 71 (0, 0))) (by kernel_rfl) (by kernel_rfl) ?_
  have hB := (Bl.nil y3a).new #[.int .i64 0, .int .i64 0, .int .u64 0, .slice none 0 0] 71
  simp only [List.nil_append] at hB
  generalize World.alloc _ _ = y3b at *
  generalize y3a.heap.size = q3_ at *
  replace hB : Bl y3a [⟨q3_, #[.int .i64 0, .int .i64 0, .int .u64 0, .slice none 0 0], 71⟩] y3b := hB
  simp only [Act.put, List.setIfInBounds_toArray, List.set_cons_zero, List.set_cons_succ, List.getElem_toArray, List.getElem_cons_zero, List.getElem_cons_succ]
  refine list_store 71 (.tmp 12) (.tmp 81) q3_ x3 71 #[.int .i64 0, .int .i64 0, .int .u64 0, .slice none 0 0] (by kernel_rfl) rfl (by kernel_rfl) (by kernel_rfl) (hB.get 0 (x := ⟨q3_, #[.int .i64 0, .int .i64 0, .int .u64 0, .slice none 0 0], 71⟩) rfl) (by rw [Try.infoD, hxs]) (by rw [hxs]; rfl) hxo ?_
  replace hB := hB.set 0 (x := ⟨q3_, #[.int .i64 0, .int .i64 0, .int .u64 0, .slice none 0 0], 71⟩) rfl x3
  generalize World.setRow _ _ _ = y3c at *
  replace hG := hG.trans hB.gr
  replace hl := hide ((unhide hl).gr hB.gr)
  clear hB hxs hxo
  simp only [Act.put, List.setIfInBounds_toArray, List.set_cons_zero, List.set_cons_succ, List.getElem_toArray, List.getElem_cons_zero, List.getElem_cons_succ]
  (refine wpList_step fun K hK => ?_; replace hK := hide hK; go_simp; refine unhide hK _ _ ?_; clear hK K)
  refine wpList_nil ?_
  replace hG := hide hG
  go_upto_region 18 with fail
  replace hG := unhide hG
  refine wp_region_lit ?_
  refine list_val (.int .i64 e3) (by kernel_rfl) (by kernel_rfl) ?_
  simp only [Act.put, List.setIfInBounds_toArray, List.set_cons_zero, List.set_cons_succ, List.getElem_toArray, List.getElem_cons_zero, List.getElem_cons_succ]
  refine list_val (.bool false) (by kernel_rfl) (by go_simp) ?_
  simp only [Act.put, List.setIfInBounds_toArray, List.set_cons_zero, List.set_cons_succ, List.getElem_toArray, List.getElem_cons_zero, List.getElem_cons_succ]
  refine wpList_nil ?_
  replace hG := hide hG
  go_upto_region 23 with fail
  replace hG := unhide hG
  refine wp_region_lit ?_
  refine list_val (.slice s1 114 cap) (by kernel_rfl) (by kernel_rfl) ?_
  simp only [Act.put, List.setIfInBounds_toArray, List.set_cons_zero, List.set_cons_succ, List.getElem_toArray, List.getElem_cons_zero, List.getElem_cons_succ]
  refine list_call 13 #[.slice s1 114 cap] (by kernel_rfl) (by kernel_rfl) ((fgete_ok L s1 cap y3c (unhide hl) hE).mono ?_)
  rintro r_ y4a ⟨rfl, hg⟩
  have hbk := evB_back (unhide hLb) hLl
  have ha9 := low4_bd L (unhide hLb) 1 (by omega)
  have hs9 := low4_bd L (unhide hLb) 5 (by omega)
  have hE9 : ((L.drop 9).take 105).length = 105 := sub_len hLl (by omega)
  have bE9 := sub_isB (unhide hLb) 9 105
  unfold evRO at hE
  unfold evO
  generalize L.getD 0 0 = k9 at *
  generalize lowN ((L.drop 1).take 4) = a9 at *
  generalize lowN ((L.drop 5).take 4) = s9 at *
  generalize (L.drop 9).take 105 = E9 at *
  replace hbk := hide hbk; replace bE9 := hide bE9
  replace hG := hG.trans hg
  replace hl := hide ((unhide hl).gr hg)
  clear hg
  refine ⟨_, rfl, ?_⟩
  simp only [Act.put, List.setIfInBounds_toArray, List.set_cons_zero, List.set_cons_succ, List.getElem_toArray, List.getElem_cons_zero, List.getElem_cons_succ]
  refine list_val (.tuple #[.agg (evl k9 a9 s9 E9).toArray, .int .i64 0]) (by kernel_rfl) (by kernel_rfl) ?_
  simp only [Act.put, List.setIfInBounds_toArray, List.set_cons_zero, List.set_cons_succ, List.getElem_toArray, List.getElem_cons_zero, List.getElem_cons_succ]
  refine list_val (.agg (evl k9 a9 s9 E9).toArray) (by kernel_rfl) (by kernel_rfl) ?_
  simp only [Act.put, List.setIfInBounds_toArray, List.set_cons_zero, List.set_cons_succ, List.getElem_toArray, List.getElem_cons_zero, List.getElem_cons_succ]
  refine list_val (.int .i64 0) (by kernel_rfl) (by kernel_rfl) ?_
  simp only [Act.put, List.setIfInBounds_toArray, List.set_cons_zero, List.set_cons_succ, List.getElem_toArray, List.getElem_cons_zero, List.getElem_cons_succ]
  refine list_valw (.pointer (some ⟨y4a.heap.size, 0, none⟩)) (y4a.alloc (.cells (evl 0 0 0 Z105).toArray 37 (0, 0))) (by kernel_rfl) (by kernel_rfl) ?_
  have hg9 := (Gr.refl y4a).alloc (.cells (evl 0 0 0 Z105).toArray 37 (0, 0))
  skip
  have hB := (Bl.nil y4a).new (evl 0 0 0 Z105).toArray 37
  simp only [List.nil_append] at hB
  generalize World.alloc _ _ = y4b at *
  generalize y4a.heap.size = q4_ at *
  replace hB : Bl y4a [⟨q4_, (evl 0 0 0 Z105).toArray, 37⟩] y4b := hB
  clear hg9
  simp only [Act.put, List.setIfInBounds_toArray, List.set_cons_zero, List.set_cons_succ, List.getElem_toArray, List.getElem_cons_zero, List.getElem_cons_succ]
  refine list_store 37 (.tmp 16) (.tmp 108) q4_ (evl k9 a9 s9 E9).toArray 37 (evl 0 0 0 Z105).toArray (by kernel_rfl) rfl (by kernel_rfl) (by kernel_rfl) (hB.get 0 (x := ⟨q4_, (evl 0 0 0 Z105).toArray, 37⟩) rfl) (by rw [Try.infoE, List.size_toArray, evl_len _ _ _ hE9]) (by rw [List.size_toArray, List.size_toArray, evl_len _ _ _ hE9]; rfl) (evl_one ..) ?_
  have hbt := setRow_bt y4b q4_ (evl k9 a9 s9 E9).toArray
  have hq9 := (hB.get 0 (x := ⟨q4_, (evl 0 0 0 Z105).toArray, 37⟩) rfl)
  dsimp only at hq9
  skip
  replace hB := hB.set 0 (x := ⟨q4_, (evl 0 0 0 Z105).toArray, 37⟩) rfl (evl k9 a9 s9 E9).toArray
  simp only [List.set_cons_zero] at hB
  generalize World.setRow _ _ _ = y4c at *
  replace hG := hG.trans hB.gr
  replace hl := hide ((unhide hl).gr hB.gr)
  have hbl := hide (hB.get 0 (x := ⟨q4_, (evl k9 a9 s9 E9).toArray, 37⟩) rfl)
  clear hB hbt hq9
  simp only [Act.put, List.setIfInBounds_toArray, List.set_cons_zero, List.set_cons_succ, List.getElem_toArray, List.getElem_cons_zero, List.getElem_cons_succ]
  (refine wpList_step fun K hK => ?_; replace hK := hide hK; go_simp; refine unhide hK _ _ ?_; clear hK K)
  refine wpList_nil ?_
  replace hG := hide hG
  go_upto_region 24 with fail
  replace hG := unhide hG
  refine wp_region_lit ?_
  refine list_val (.int .i64 0) (by kernel_rfl) (by kernel_rfl) ?_
  simp only [Act.put, List.setIfInBounds_toArray, List.set_cons_zero, List.set_cons_succ, List.getElem_toArray, List.getElem_cons_zero, List.getElem_cons_succ]
  refine list_val (.bool true) (by kernel_rfl) (by kernel_rfl) ?_
  simp only [Act.put, List.setIfInBounds_toArray, List.set_cons_zero, List.set_cons_succ, List.getElem_toArray, List.getElem_cons_zero, List.getElem_cons_succ]
  refine wpList_nil ?_
  replace hG := hide hG
  go_upto_region 25 with fail
  replace hG := unhide hG
  refine wp_region_lit ?_
  refine list_val (.agg (evl k9 a9 s9 E9).toArray) (by kernel_rfl) (exec_arr _ 37 (.tmp 16) rfl q4_ (by kernel_rfl) (evl k9 a9 s9 E9).toArray 37 _ (unhide hbl) Try.underlying37 rfl (by rw [Try.infoE, List.size_toArray, evl_len _ _ _ hE9])) ?_
  simp only [Act.put, List.setIfInBounds_toArray, List.set_cons_zero, List.set_cons_succ, List.getElem_toArray, List.getElem_cons_zero, List.getElem_cons_succ]
  skip
  refine list_call 12 #[.agg (evl k9 a9 s9 E9).toArray] (by kernel_rfl) (by kernel_rfl) ((fpute_ok k9 a9 s9 E9 hE9 (unhide bE9) ha9 hs9 hE y4c).mono ?_)
  rintro r_ y4d ⟨vp, rfl, hOp, hg⟩
  replace hG := hG.trans hg
  replace hl := hide ((unhide hl).gr hg)
  rw [unhide hbk] at hOp
  obtain ⟨pa, pc, rfl, hlp⟩ := ob_lb hOp (unhide hLb) hLl
  replace hlp := hide hlp
  clear hg hOp
  refine ⟨_, rfl, ?_⟩
  simp only [Act.put, List.setIfInBounds_toArray, List.set_cons_zero, List.set_cons_succ, List.getElem_toArray, List.getElem_cons_zero, List.getElem_cons_succ]
  refine list_val (.tuple #[.slice pa 114 pc, .int .i64 0]) (by kernel_rfl) (by kernel_rfl) ?_
  simp only [Act.put, List.setIfInBounds_toArray, List.set_cons_zero, List.set_cons_succ, List.getElem_toArray, List.getElem_cons_zero, List.getElem_cons_succ]
  refine list_val (.slice pa 114 pc) (by kernel_rfl) (by kernel_rfl) ?_
  simp only [Act.put, List.setIfInBounds_toArray, List.set_cons_zero, List.set_cons_succ, List.getElem_toArray, List.getElem_cons_zero, List.getElem_cons_succ]
  refine list_val (.int .i64 0) (by kernel_rfl) (by kernel_rfl) ?_
  simp only [Act.put, List.setIfInBounds_toArray, List.set_cons_zero, List.set_cons_succ, List.getElem_toArray, List.getElem_cons_zero, List.getElem_cons_succ]
  (refine wpList_step fun K hK => ?_; replace hK := hide hK; go_simp; refine unhide hK _ _ ?_; clear hK K)
  (refine wpList_step fun K hK => ?_; replace hK := hide hK; go_simp; refine unhide hK _ _ ?_; clear hK K)
  refine wpList_nil ?_
  replace hG := hide hG
  go_upto_region 26 with fail
  replace hG := unhide hG
  refine wp_region_lit ?_
  refine list_val (.int .i64 0) (by kernel_rfl) (by kernel_rfl) ?_
  simp only [Act.put, List.setIfInBounds_toArray, List.set_cons_zero, List.set_cons_succ, List.getElem_toArray, List.getElem_cons_zero, List.getElem_cons_succ]
  refine list_val (.bool false) (by kernel_rfl) (by kernel_rfl) ?_
  simp only [Act.put, List.setIfInBounds_toArray, List.set_cons_zero, List.set_cons_succ, List.getElem_toArray, List.getElem_cons_zero, List.getElem_cons_succ]
  refine list_val (.bool false) (by kernel_rfl) (by kernel_rfl) ?_
  simp only [Act.put, List.setIfInBounds_toArray, List.set_cons_zero, List.set_cons_succ, List.getElem_toArray, List.getElem_cons_zero, List.getElem_cons_succ]
  refine list_val (.slice s1 114 cap) (by kernel_rfl) (by kernel_rfl) ?_
  simp only [Act.put, List.setIfInBounds_toArray, List.set_cons_zero, List.set_cons_succ, List.getElem_toArray, List.getElem_cons_zero, List.getElem_cons_succ]
  refine list_val (.slice pa 114 pc) (by kernel_rfl) (by kernel_rfl) ?_
  simp only [Act.put, List.setIfInBounds_toArray, List.set_cons_zero, List.set_cons_succ, List.getElem_toArray, List.getElem_cons_zero, List.getElem_cons_succ]
  refine list_call 17 #[.slice s1 114 cap, .slice pa 114 pc] (by kernel_rfl) (by kernel_rfl) ((beq_ok L L s1 pa 114 114 cap pc y4d (unhide hl) (unhide hlp)).mono ?_)
  rintro r_ y4e ⟨rfl, hg⟩
  rw [decide_eq_true rfl]
  replace hG := hG.trans hg
  replace hl := hide ((unhide hl).gr hg)
  clear hg hlp
  refine ⟨_, rfl, ?_⟩
  simp only [Act.put, List.setIfInBounds_toArray, List.set_cons_zero, List.set_cons_succ, List.getElem_toArray, List.getElem_cons_zero, List.getElem_cons_succ]
  refine list_val (.bool false) (by kernel_rfl) (by kernel_rfl) ?_
  simp only [Act.put, List.setIfInBounds_toArray, List.set_cons_zero, List.set_cons_succ, List.getElem_toArray, List.getElem_cons_zero, List.getElem_cons_succ]
  refine list_val (.bool false) (by kernel_rfl) (by kernel_rfl) ?_
  simp only [Act.put, List.setIfInBounds_toArray, List.set_cons_zero, List.set_cons_succ, List.getElem_toArray, List.getElem_cons_zero, List.getElem_cons_succ]
  refine wpList_nil ?_
  replace hG := hide hG
  go_upto_region 28 with fail
  replace hG := unhide hG
  refine wp_region_lit ?_
  refine list_val (.int .i64 0) (by kernel_rfl) (by kernel_rfl) ?_
  simp only [Act.put, List.setIfInBounds_toArray, List.set_cons_zero, List.set_cons_succ, List.getElem_toArray, List.getElem_cons_zero, List.getElem_cons_succ]
  refine list_val (.bool true) (by kernel_rfl) (by kernel_rfl) ?_
  simp only [Act.put, List.setIfInBounds_toArray, List.set_cons_zero, List.set_cons_succ, List.getElem_toArray, List.getElem_cons_zero, List.getElem_cons_succ]
  refine list_val (.bool true) (by kernel_rfl) (by kernel_rfl) ?_
  simp only [Act.put, List.setIfInBounds_toArray, List.set_cons_zero, List.set_cons_succ, List.getElem_toArray, List.getElem_cons_zero, List.getElem_cons_succ]
  refine list_val (.int .i64 0) (by kernel_rfl) (by kernel_rfl) ?_
  simp only [Act.put, List.setIfInBounds_toArray, List.set_cons_zero, List.set_cons_succ, List.getElem_toArray, List.getElem_cons_zero, List.getElem_cons_succ]
  refine list_val (.bool true) (by kernel_rfl) (by kernel_rfl) ?_
  simp only [Act.put, List.setIfInBounds_toArray, List.set_cons_zero, List.set_cons_succ, List.getElem_toArray, List.getElem_cons_zero, List.getElem_cons_succ]
  refine list_val (.slice s1 114 cap) (by kernel_rfl) (by kernel_rfl) ?_
  simp only [Act.put, List.setIfInBounds_toArray, List.set_cons_zero, List.set_cons_succ, List.getElem_toArray, List.getElem_cons_zero, List.getElem_cons_succ]
  refine list_call 18 #[.slice s1 114 cap] (by kernel_rfl) (by kernel_rfl) ((fkind_ok L s1 114 cap y4e (unhide hl)).mono ?_)
  rintro r_ yz ⟨rfl, hg⟩
  rw [hKd]
  have hZ : Hid (Woke w (.returned (.bool true)) yz) := ⟨rfl, hG.trans hg⟩
  clear hg hG
  refine ⟨_, rfl, ?_⟩
  simp only [Act.put, List.setIfInBounds_toArray, List.set_cons_zero, List.set_cons_succ, List.getElem_toArray, List.getElem_cons_zero, List.getElem_cons_succ]
  refine list_val (.bool true) (by kernel_rfl) (by kernel_rfl) ?_
  simp only [Act.put, List.setIfInBounds_toArray, List.set_cons_zero, List.set_cons_succ, List.getElem_toArray, List.getElem_cons_zero, List.getElem_cons_succ]
  refine list_val (.bool true) (by kernel_rfl) (by kernel_rfl) ?_
  simp only [Act.put, List.setIfInBounds_toArray, List.set_cons_zero, List.set_cons_succ, List.getElem_toArray, List.getElem_cons_zero, List.getElem_cons_succ]
  refine list_val (.bool true) (by kernel_rfl) (by kernel_rfl) ?_
  simp only [Act.put, List.setIfInBounds_toArray, List.set_cons_zero, List.set_cons_succ, List.getElem_toArray, List.getElem_cons_zero, List.getElem_cons_succ]
  (refine wpList_step fun K hK => ?_; replace hK := hide hK; go_simp; refine unhide hK _ _ ?_; clear hK K)
  refine wpList_nil ?_
  go_wp2_with fail
  rw [unhide hT]
  exact unhide hZ
set_option maxHeartbeats 4000000 in
theorem there_N (l : List Int) (s : Option Addr) (len cap : Nat) (w : World) (lb : Lb w s len cap l) (hA : aG (l.take (min len 1000)) = false) (hU : uG (l.take (min len 1000)) = false) (hD : dG (l.take (min len 1000)) = false) (hEv : (decide ((l.take (min len 1000)).length = 114) && evRO (l.take (min len 1000))) = false) : Calls Try.prog 4 #[.slice s len cap] w (Woke w) := by
  obtain ⟨T, hT⟩ : ∃ T, T = Woke w := ⟨_, rfl⟩
  rw [← hT]
  replace hT := hide hT
  replace lb := hide lb
  obtain ⟨n, hn0⟩ : ∃ n, n = min len 1000 := ⟨_, rfl⟩
  obtain ⟨L, hL0⟩ : ∃ L, L = l.take n := ⟨_, rfl⟩
  have hL1 : l.take (min len 1000) = L := by rw [hL0, hn0]
  rw [hL1] at hA hU hD hEv
  have hn9 : n ≤ 1000 := by omega
  have hLn : L.length = n := by rw [hL0, List.length_take, (unhide lb).len, hn0]; omega
  replace hn0 := hide hn0; replace hL0 := hide hL0
  clear hL1
  have hKd : kindO L = 0 := by unfold kindO; simp [hA, hU, hD]
  go_enter Try.func4, Try.ntmps4
  go_upto_region 1 with fail
  refine wp_region_lit ?_
  refine list_call 5 #[] (by kernel_rfl) (by kernel_rfl) ((jwakes_ok w).mono ?_)
  rintro r u ⟨rfl, hG⟩
  replace lb := hide ((unhide lb).gr hG)
  refine ⟨_, rfl, ?_⟩
  simp only [Act.put, List.setIfInBounds_toArray, List.set_cons_zero, List.set_cons_succ, List.getElem_toArray, List.getElem_cons_zero, List.getElem_cons_succ]
  refine list_val (.bool false) (by kernel_rfl) (by kernel_rfl) ?_
  simp only [Act.put, List.setIfInBounds_toArray, List.set_cons_zero, List.set_cons_succ, List.getElem_toArray, List.getElem_cons_zero, List.getElem_cons_succ]
  refine wpList_nil ?_
  replace hG := hide hG
  go_upto_region 3 with fail
  replace hG := unhide hG
  refine wp_region_lit ?_
  refine list_val (.slice s len cap) (by kernel_rfl) (by kernel_rfl) ?_
  simp only [Act.put, List.setIfInBounds_toArray, List.set_cons_zero, List.set_cons_succ, List.getElem_toArray, List.getElem_cons_zero, List.getElem_cons_succ]
  refine list_call 14 #[.slice s len cap] (by kernel_rfl) (by kernel_rfl) ((jcut_ok l s len cap u (unhide lb)).mono ?_)
  rintro r u1 ⟨s1, rfl, hs1, rfl⟩
  have hl := hs1 u1 (unhide lb)
  rw [← unhide hn0, ← unhide hL0] at hl
  rw [← unhide hn0]
  clear hs1 lb hL0 hn0
  replace hl := hide hl
  have hLl := (unhide hl).len
  have hLb := hide (unhide hl).isB
  refine ⟨_, rfl, ?_⟩
  simp only [Act.put, List.setIfInBounds_toArray, List.set_cons_zero, List.set_cons_succ, List.getElem_toArray, List.getElem_cons_zero, List.getElem_cons_succ]
  (refine wpList_step fun K hK => ?_; replace hK := hide hK; go_simp; refine unhide hK _ _ ?_; clear hK K)
  refine wpList_nil ?_
  replace hG := hide hG
  go_upto_region 5 with fail
  replace hG := unhide hG
  refine wp_region_lit ?_
  refine list_val (.slice s1 n cap) (by kernel_rfl) (by kernel_rfl) ?_
  simp only [Act.put, List.setIfInBounds_toArray, List.set_cons_zero, List.set_cons_succ, List.getElem_toArray, List.getElem_cons_zero, List.getElem_cons_succ]
  refine list_call 15 #[.slice s1 n cap] (by kernel_rfl) (by kernel_rfl) ((geta_any L s1 n cap u1 (unhide hl)).mono ?_)
  rintro r y1a ⟨x1, e1, rfl, hxs, hxo, hge, hg⟩
  have he1 : ¬ e1 = 0 := by intro e9; rw [hA, e9] at hge; simp at hge
  replace hG := hG.trans hg
  replace hl := hide ((unhide hl).gr hg)
  clear hg hge
  refine ⟨_, rfl, ?_⟩
  simp only [Act.put, List.setIfInBounds_toArray, List.set_cons_zero, List.set_cons_succ, List.getElem_toArray, List.getElem_cons_zero, List.getElem_cons_succ]
  refine list_val (.tuple #[.agg x1, .int .i64 e1]) (by kernel_rfl) (by kernel_rfl) ?_
  simp only [Act.put, List.setIfInBounds_toArray, List.set_cons_zero, List.set_cons_succ, List.getElem_toArray, List.getElem_cons_zero, List.getElem_cons_succ]
  refine list_val (.agg x1) (by kernel_rfl) (by kernel_rfl) ?_
  simp only [Act.put, List.setIfInBounds_toArray, List.set_cons_zero, List.set_cons_succ, List.getElem_toArray, List.getElem_cons_zero, List.getElem_cons_succ]
  refine list_val (.int .i64 e1) (by kernel_rfl) (by kernel_rfl) ?_
  simp only [Act.put, List.setIfInBounds_toArray, List.set_cons_zero, List.set_cons_succ, List.getElem_toArray, List.getElem_cons_zero, List.getElem_cons_succ]
  refine list_valw (.pointer (some ⟨y1a.heap.size, 0, none⟩)) (y1a.alloc (.cells #[.int .u64 0, .slice none 0 0] 59 (0, 0))) (by kernel_rfl) (by kernel_rfl) ?_
  have hB := (Bl.nil y1a).new #[.int .u64 0, .slice none 0 0] 59
  simp only [List.nil_append] at hB
  generalize World.alloc _ _ = y1b at *
  generalize y1a.heap.size = q1_ at *
  replace hB : Bl y1a [⟨q1_, #[.int .u64 0, .slice none 0 0], 59⟩] y1b := hB
  simp only [Act.put, List.setIfInBounds_toArray, List.set_cons_zero, List.set_cons_succ, List.getElem_toArray, List.getElem_cons_zero, List.getElem_cons_succ]
  refine list_store 59 (.tmp 4) (.tmp 27) q1_ x1 59 #[.int .u64 0, .slice none 0 0] (by kernel_rfl) rfl (by kernel_rfl) (by kernel_rfl) (hB.get 0 (x := ⟨q1_, #[.int .u64 0, .slice none 0 0], 59⟩) rfl) (by rw [Try.infoA, hxs]) (by rw [hxs]; rfl) hxo ?_
  replace hB := hB.set 0 (x := ⟨q1_, #[.int .u64 0, .slice none 0 0], 59⟩) rfl x1
  generalize World.setRow _ _ _ = y1c at *
  replace hG := hG.trans hB.gr
  replace hl := hide ((unhide hl).gr hB.gr)
  clear hB hxs hxo
  simp only [Act.put, List.setIfInBounds_toArray, List.set_cons_zero, List.set_cons_succ, List.getElem_toArray, List.getElem_cons_zero, List.getElem_cons_succ]
  (refine wpList_step fun K hK => ?_; replace hK := hide hK; go_simp; refine unhide hK _ _ ?_; clear hK K)
  refine wpList_nil ?_
  replace hG := hide hG
  go_upto_region 6 with fail
  replace hG := unhide hG
  refine wp_region_lit ?_
  refine list_val (.int .i64 e1) (by kernel_rfl) (by kernel_rfl) ?_
  simp only [Act.put, List.setIfInBounds_toArray, List.set_cons_zero, List.set_cons_succ, List.getElem_toArray, List.getElem_cons_zero, List.getElem_cons_succ]
  refine list_val (.bool false) (by kernel_rfl) (by go_simp) ?_
  simp only [Act.put, List.setIfInBounds_toArray, List.set_cons_zero, List.set_cons_succ, List.getElem_toArray, List.getElem_cons_zero, List.getElem_cons_succ]
  refine wpList_nil ?_
  replace hG := hide hG
  go_upto_region 11 with fail
  replace hG := unhide hG
  refine wp_region_lit ?_
  refine list_val (.slice s1 n cap) (by kernel_rfl) (by kernel_rfl) ?_
  simp only [Act.put, List.setIfInBounds_toArray, List.set_cons_zero, List.set_cons_succ, List.getElem_toArray, List.getElem_cons_zero, List.getElem_cons_succ]
  refine list_call 19 #[.slice s1 n cap] (by kernel_rfl) (by kernel_rfl) ((getup_any L s1 n cap y1c (unhide hl)).mono ?_)
  rintro r y2a ⟨x2, e2, rfl, hxs, hxo, hge, hg⟩
  have he2 : ¬ e2 = 0 := by intro e9; rw [hU, e9] at hge; simp at hge
  replace hG := hG.trans hg
  replace hl := hide ((unhide hl).gr hg)
  clear hg hge
  refine ⟨_, rfl, ?_⟩
  simp only [Act.put, List.setIfInBounds_toArray, List.set_cons_zero, List.set_cons_succ, List.getElem_toArray, List.getElem_cons_zero, List.getElem_cons_succ]
  refine list_val (.tuple #[.agg x2, .int .i64 e2]) (by kernel_rfl) (by kernel_rfl) ?_
  simp only [Act.put, List.setIfInBounds_toArray, List.set_cons_zero, List.set_cons_succ, List.getElem_toArray, List.getElem_cons_zero, List.getElem_cons_succ]
  refine list_val (.agg x2) (by kernel_rfl) (by kernel_rfl) ?_
  simp only [Act.put, List.setIfInBounds_toArray, List.set_cons_zero, List.set_cons_succ, List.getElem_toArray, List.getElem_cons_zero, List.getElem_cons_succ]
  refine list_val (.int .i64 e2) (by kernel_rfl) (by kernel_rfl) ?_
  simp only [Act.put, List.setIfInBounds_toArray, List.set_cons_zero, List.set_cons_succ, List.getElem_toArray, List.getElem_cons_zero, List.getElem_cons_succ]
  refine list_valw (.pointer (some ⟨y2a.heap.size, 0, none⟩)) (y2a.alloc (.cells #[.int .i64 0, .int .i64 0, .int .u64 0, .slice none 0 0] 66 (0, 0))) (by kernel_rfl) (by kernel_rfl) ?_
  have hB := (Bl.nil y2a).new #[.int .i64 0, .int .i64 0, .int .u64 0, .slice none 0 0] 66
  simp only [List.nil_append] at hB
  generalize World.alloc _ _ = y2b at *
  generalize y2a.heap.size = q2_ at *
  replace hB : Bl y2a [⟨q2_, #[.int .i64 0, .int .i64 0, .int .u64 0, .slice none 0 0], 66⟩] y2b := hB
  simp only [Act.put, List.setIfInBounds_toArray, List.set_cons_zero, List.set_cons_succ, List.getElem_toArray, List.getElem_cons_zero, List.getElem_cons_succ]
  refine list_store 66 (.tmp 8) (.tmp 54) q2_ x2 66 #[.int .i64 0, .int .i64 0, .int .u64 0, .slice none 0 0] (by kernel_rfl) rfl (by kernel_rfl) (by kernel_rfl) (hB.get 0 (x := ⟨q2_, #[.int .i64 0, .int .i64 0, .int .u64 0, .slice none 0 0], 66⟩) rfl) (by rw [Try.infoU, hxs]) (by rw [hxs]; rfl) hxo ?_
  replace hB := hB.set 0 (x := ⟨q2_, #[.int .i64 0, .int .i64 0, .int .u64 0, .slice none 0 0], 66⟩) rfl x2
  generalize World.setRow _ _ _ = y2c at *
  replace hG := hG.trans hB.gr
  replace hl := hide ((unhide hl).gr hB.gr)
  clear hB hxs hxo
  simp only [Act.put, List.setIfInBounds_toArray, List.set_cons_zero, List.set_cons_succ, List.getElem_toArray, List.getElem_cons_zero, List.getElem_cons_succ]
  (refine wpList_step fun K hK => ?_; replace hK := hide hK; go_simp; refine unhide hK _ _ ?_; clear hK K)
  refine wpList_nil ?_
  replace hG := hide hG
  go_upto_region 12 with fail
  replace hG := unhide hG
  refine wp_region_lit ?_
  refine list_val (.int .i64 e2) (by kernel_rfl) (by kernel_rfl) ?_
  simp only [Act.put, List.setIfInBounds_toArray, List.set_cons_zero, List.set_cons_succ, List.getElem_toArray, List.getElem_cons_zero, List.getElem_cons_succ]
  refine list_val (.bool false) (by kernel_rfl) (by go_simp) ?_
  simp only [Act.put, List.setIfInBounds_toArray, List.set_cons_zero, List.set_cons_succ, List.getElem_toArray, List.getElem_cons_zero, List.getElem_cons_succ]
  refine wpList_nil ?_
  replace hG := hide hG
  go_upto_region 17 with fail
  replace hG := unhide hG
  refine wp_region_lit ?_
  refine list_val (.slice s1 n cap) (by kernel_rfl) (by kernel_rfl) ?_
  simp only [Act.put, List.setIfInBounds_toArray, List.set_cons_zero, List.set_cons_succ, List.getElem_toArray, List.getElem_cons_zero, List.getElem_cons_succ]
  refine list_call 21 #[.slice s1 n cap] (by kernel_rfl) (by kernel_rfl) ((getdn_any L s1 n cap y2c (unhide hl)).mono ?_)
  rintro r y3a ⟨x3, e3, rfl, hxs, hxo, hge, hg⟩
  have he3 : ¬ e3 = 0 := by intro e9; rw [hD, e9] at hge; simp at hge
  replace hG := hG.trans hg
  replace hl := hide ((unhide hl).gr hg)
  clear hg hge
  refine ⟨_, rfl, ?_⟩
  simp only [Act.put, List.setIfInBounds_toArray, List.set_cons_zero, List.set_cons_succ, List.getElem_toArray, List.getElem_cons_zero, List.getElem_cons_succ]
  refine list_val (.tuple #[.agg x3, .int .i64 e3]) (by kernel_rfl) (by kernel_rfl) ?_
  simp only [Act.put, List.setIfInBounds_toArray, List.set_cons_zero, List.set_cons_succ, List.getElem_toArray, List.getElem_cons_zero, List.getElem_cons_succ]
  refine list_val (.agg x3) (by kernel_rfl) (by kernel_rfl) ?_
  simp only [Act.put, List.setIfInBounds_toArray, List.set_cons_zero, List.set_cons_succ, List.getElem_toArray, List.getElem_cons_zero, List.getElem_cons_succ]
  refine list_val (.int .i64 e3) (by kernel_rfl) (by kernel_rfl) ?_
  simp only [Act.put, List.setIfInBounds_toArray, List.set_cons_zero, List.set_cons_succ, List.getElem_toArray, List.getElem_cons_zero, List.getElem_cons_succ]
  refine list_valw (.pointer (some ⟨y3a.heap.size, 0, none⟩)) (y3a.alloc (.cells #[.int .i64 0, .int .i64 0, .int .u64 0, .slice none 0 0] 71 (0, 0))) (by kernel_rfl) (by kernel_rfl) ?_
  have hB := (Bl.nil y3a).new #[.int .i64 0, .int .i64 0, .int .u64 0, .slice none 0 0] 71
  simp only [List.nil_append] at hB
  generalize World.alloc _ _ = y3b at *
  generalize y3a.heap.size = q3_ at *
  replace hB : Bl y3a [⟨q3_, #[.int .i64 0, .int .i64 0, .int .u64 0, .slice none 0 0], 71⟩] y3b := hB
  simp only [Act.put, List.setIfInBounds_toArray, List.set_cons_zero, List.set_cons_succ, List.getElem_toArray, List.getElem_cons_zero, List.getElem_cons_succ]
  refine list_store 71 (.tmp 12) (.tmp 81) q3_ x3 71 #[.int .i64 0, .int .i64 0, .int .u64 0, .slice none 0 0] (by kernel_rfl) rfl (by kernel_rfl) (by kernel_rfl) (hB.get 0 (x := ⟨q3_, #[.int .i64 0, .int .i64 0, .int .u64 0, .slice none 0 0], 71⟩) rfl) (by rw [Try.infoD, hxs]) (by rw [hxs]; rfl) hxo ?_
  replace hB := hB.set 0 (x := ⟨q3_, #[.int .i64 0, .int .i64 0, .int .u64 0, .slice none 0 0], 71⟩) rfl x3
  generalize World.setRow _ _ _ = y3c at *
  replace hG := hG.trans hB.gr
  replace hl := hide ((unhide hl).gr hB.gr)
  clear hB hxs hxo
  simp only [Act.put, List.setIfInBounds_toArray, List.set_cons_zero, List.set_cons_succ, List.getElem_toArray, List.getElem_cons_zero, List.getElem_cons_succ]
  (refine wpList_step fun K hK => ?_; replace hK := hide hK; go_simp; refine unhide hK _ _ ?_; clear hK K)
  refine wpList_nil ?_
  replace hG := hide hG
  go_upto_region 18 with fail
  replace hG := unhide hG
  refine wp_region_lit ?_
  refine list_val (.int .i64 e3) (by kernel_rfl) (by kernel_rfl) ?_
  simp only [Act.put, List.setIfInBounds_toArray, List.set_cons_zero, List.set_cons_succ, List.getElem_toArray, List.getElem_cons_zero, List.getElem_cons_succ]
  refine list_val (.bool false) (by kernel_rfl) (by go_simp) ?_
  simp only [Act.put, List.setIfInBounds_toArray, List.set_cons_zero, List.set_cons_succ, List.getElem_toArray, List.getElem_cons_zero, List.getElem_cons_succ]
  refine wpList_nil ?_
  replace hG := hide hG
  go_upto_region 23 with fail
  replace hG := unhide hG
  refine wp_region_lit ?_
  refine list_val (.slice s1 n cap) (by kernel_rfl) (by kernel_rfl) ?_
  simp only [Act.put, List.setIfInBounds_toArray, List.set_cons_zero, List.set_cons_succ, List.getElem_toArray, List.getElem_cons_zero, List.getElem_cons_succ]
  refine list_call 13 #[.slice s1 n cap] (by kernel_rfl) (by kernel_rfl) ((gete_any L s1 n cap y3c (unhide hl) hEv).mono ?_)
  rintro r y4a ⟨x4, e4, rfl, hxs, hxo, hge, hg⟩
  have he4 : ¬ e4 = 0 := by intro e9; rw [e9] at hge; simp at hge
  replace hG := hG.trans hg
  replace hl := hide ((unhide hl).gr hg)
  clear hg hge
  refine ⟨_, rfl, ?_⟩
  simp only [Act.put, List.setIfInBounds_toArray, List.set_cons_zero, List.set_cons_succ, List.getElem_toArray, List.getElem_cons_zero, List.getElem_cons_succ]
  refine list_val (.tuple #[.agg x4, .int .i64 e4]) (by kernel_rfl) (by kernel_rfl) ?_
  simp only [Act.put, List.setIfInBounds_toArray, List.set_cons_zero, List.set_cons_succ, List.getElem_toArray, List.getElem_cons_zero, List.getElem_cons_succ]
  refine list_val (.agg x4) (by kernel_rfl) (by kernel_rfl) ?_
  simp only [Act.put, List.setIfInBounds_toArray, List.set_cons_zero, List.set_cons_succ, List.getElem_toArray, List.getElem_cons_zero, List.getElem_cons_succ]
  refine list_val (.int .i64 e4) (by kernel_rfl) (by kernel_rfl) ?_
  simp only [Act.put, List.setIfInBounds_toArray, List.set_cons_zero, List.set_cons_succ, List.getElem_toArray, List.getElem_cons_zero, List.getElem_cons_succ]
  refine list_valw (.pointer (some ⟨y4a.heap.size, 0, none⟩)) (y4a.alloc (.cells (evl 0 0 0 Z105).toArray 37 (0, 0))) (by kernel_rfl) (by kernel_rfl) ?_
  have hB := (Bl.nil y4a).new (evl 0 0 0 Z105).toArray 37
  simp only [List.nil_append] at hB
  generalize World.alloc _ _ = y4b at *
  generalize y4a.heap.size = q4_ at *
  replace hB : Bl y4a [⟨q4_, (evl 0 0 0 Z105).toArray, 37⟩] y4b := hB
  simp only [Act.put, List.setIfInBounds_toArray, List.set_cons_zero, List.set_cons_succ, List.getElem_toArray, List.getElem_cons_zero, List.getElem_cons_succ]
  refine list_store 37 (.tmp 16) (.tmp 108) q4_ x4 37 (evl 0 0 0 Z105).toArray (by kernel_rfl) rfl (by kernel_rfl) (by kernel_rfl) (hB.get 0 (x := ⟨q4_, (evl 0 0 0 Z105).toArray, 37⟩) rfl) (by rw [Try.infoE, hxs]) (by rw [hxs]; rfl) hxo ?_
  replace hB := hB.set 0 (x := ⟨q4_, (evl 0 0 0 Z105).toArray, 37⟩) rfl x4
  generalize World.setRow _ _ _ = y4c at *
  replace hG := hG.trans hB.gr
  replace hl := hide ((unhide hl).gr hB.gr)
  clear hB hxs hxo
  simp only [Act.put, List.setIfInBounds_toArray, List.set_cons_zero, List.set_cons_succ, List.getElem_toArray, List.getElem_cons_zero, List.getElem_cons_succ]
  (refine wpList_step fun K hK => ?_; replace hK := hide hK; go_simp; refine unhide hK _ _ ?_; clear hK K)
  refine wpList_nil ?_
  replace hG := hide hG
  go_upto_region 24 with fail
  replace hG := unhide hG
  refine wp_region_lit ?_
  refine list_val (.int .i64 e4) (by kernel_rfl) (by kernel_rfl) ?_
  simp only [Act.put, List.setIfInBounds_toArray, List.set_cons_zero, List.set_cons_succ, List.getElem_toArray, List.getElem_cons_zero, List.getElem_cons_succ]
  refine list_val (.bool false) (by kernel_rfl) (by go_simp) ?_
  simp only [Act.put, List.setIfInBounds_toArray, List.set_cons_zero, List.set_cons_succ, List.getElem_toArray, List.getElem_cons_zero, List.getElem_cons_succ]
  refine wpList_nil ?_
  replace hG := hide hG
  go_upto_region 28 with fail
  replace hG := unhide hG
  refine wp_region_lit ?_
  refine list_val (.int .i64 0) (by kernel_rfl) (by kernel_rfl) ?_
  simp only [Act.put, List.setIfInBounds_toArray, List.set_cons_zero, List.set_cons_succ, List.getElem_toArray, List.getElem_cons_zero, List.getElem_cons_succ]
  refine list_val (.bool true) (by kernel_rfl) (by kernel_rfl) ?_
  simp only [Act.put, List.setIfInBounds_toArray, List.set_cons_zero, List.set_cons_succ, List.getElem_toArray, List.getElem_cons_zero, List.getElem_cons_succ]
  refine list_val (.bool true) (by kernel_rfl) (by kernel_rfl) ?_
  simp only [Act.put, List.setIfInBounds_toArray, List.set_cons_zero, List.set_cons_succ, List.getElem_toArray, List.getElem_cons_zero, List.getElem_cons_succ]
  refine list_val (.int .i64 0) (by kernel_rfl) (by kernel_rfl) ?_
  simp only [Act.put, List.setIfInBounds_toArray, List.set_cons_zero, List.set_cons_succ, List.getElem_toArray, List.getElem_cons_zero, List.getElem_cons_succ]
  refine list_val (.bool true) (by kernel_rfl) (by kernel_rfl) ?_
  simp only [Act.put, List.setIfInBounds_toArray, List.set_cons_zero, List.set_cons_succ, List.getElem_toArray, List.getElem_cons_zero, List.getElem_cons_succ]
  refine list_val (.slice s1 n cap) (by kernel_rfl) (by kernel_rfl) ?_
  simp only [Act.put, List.setIfInBounds_toArray, List.set_cons_zero, List.set_cons_succ, List.getElem_toArray, List.getElem_cons_zero, List.getElem_cons_succ]
  refine list_call 18 #[.slice s1 n cap] (by kernel_rfl) (by kernel_rfl) ((fkind_ok L s1 n cap y4c (unhide hl)).mono ?_)
  rintro r_ yz ⟨rfl, hg⟩
  rw [hKd]
  have hZ : Hid (Woke w (.returned (.bool true)) yz) := ⟨rfl, hG.trans hg⟩
  clear hg hG
  refine ⟨_, rfl, ?_⟩
  simp only [Act.put, List.setIfInBounds_toArray, List.set_cons_zero, List.set_cons_succ, List.getElem_toArray, List.getElem_cons_zero, List.getElem_cons_succ]
  refine list_val (.bool true) (by kernel_rfl) (by kernel_rfl) ?_
  simp only [Act.put, List.setIfInBounds_toArray, List.set_cons_zero, List.set_cons_succ, List.getElem_toArray, List.getElem_cons_zero, List.getElem_cons_succ]
  refine list_val (.bool true) (by kernel_rfl) (by kernel_rfl) ?_
  simp only [Act.put, List.setIfInBounds_toArray, List.set_cons_zero, List.set_cons_succ, List.getElem_toArray, List.getElem_cons_zero, List.getElem_cons_succ]
  refine list_val (.bool true) (by kernel_rfl) (by kernel_rfl) ?_
  simp only [Act.put, List.setIfInBounds_toArray, List.set_cons_zero, List.set_cons_succ, List.getElem_toArray, List.getElem_cons_zero, List.getElem_cons_succ]
  (refine wpList_step fun K hK => ?_; replace hK := hide hK; go_simp; refine unhide hK _ _ ?_; clear hK K)
  refine wpList_nil ?_
  go_wp2_with fail
  rw [unhide hT]
  exact unhide hZ
theorem there_law (l : List Int) (s : Option Addr) (len cap : Nat) (w : World) (lb : Lb w s len cap l) : Calls Try.prog 4 #[.slice s len cap] w (Woke w) := by
  cases hA : aG (l.take (min len 1000))
  · cases hU : uG (l.take (min len 1000))
    · cases hD : dG (l.take (min len 1000))
      · cases hEv : (decide ((l.take (min len 1000)).length = 114) && evRO (l.take (min len 1000)))
        · exact there_N l s len cap w lb hA hU hD hEv
        · exact there_E l s len cap w lb hA hU hD hEv
      · exact there_D l s len cap w lb hD
    · exact there_U l s len cap w lb hU
  · exact there_A l s len cap w lb hA
end Go.Proofs.Ytfmocneoffkmpab
