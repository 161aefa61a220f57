/-
  What take answers.
-/
import Derived.Test.YthnmebhljkccnaaDoorShaTakeA
namespace Go.Proofs.YthnmebhljkccnaaDoor
open Go.RowKit
set_option maxRecDepth 100000
set_option linter.unusedSimpArgs false

set_option maxHeartbeats 2000000 in
theorem take_ok (s l : List Int) (n : Int) (hs : s.length = 8) (g : Nat) (B : List Int) (hb : IsB B) (a : Option Addr) (cap : Nat) (hcap : B.length ≤ cap) (hbig : cap < 9223372036854775808) (w : World)
    (hg : w.heap[g]? = some (.cells (hc s l n) 73 (0, 0))) (hA : SlO g w a B) :
    Calls Tryd.prog 43 #[.pointer (some ⟨g, 0, none⟩), .slice a B.length cap] w (Took g s l n B w) := by
  obtain ⟨N, hN⟩ : ∃ N, N = B.length := ⟨_, rfl⟩
  rw [← hN] at hcap
  obtain ⟨T, hT0⟩ : ∃ T, T = Took g s l n B w := ⟨_, rfl⟩
  rw [← hT0, ← hN]
  replace hT0 := hide hT0
  replace hb := hide hb
  replace hg := hide hg
  replace hA := hide hA
  replace hN := hide hN
  by_cases hl : N < 64
  · have e0 : N / 64 = 0 := by omega
    have e1 : N % 64 = N := by omega
    have hI : (N : Int) < 64 := by omega
    go_enter Tryd.func43, Tryd.ntmps43
    go_wp2_with fail
    show T (.returned (.slice a N cap)) w
    rw [unhide hT0]
    unfold Took
    rw [← unhide hN, e0, e1]
    exact ⟨a, cap, rfl, by omega, hbig, by simpa using unhide hA, unhide hg, Bt.refl g w⟩
  · have hI : ¬ (N : Int) < 64 := by omega
    go_enter Tryd.func43, Tryd.ntmps43
    go_upto_region 3 with fail
    have hB := Bl.nil w
    refine wp_region_lit ?_
    refine list_call 48 #[] (by kernel_rfl) (by kernel_rfl) ((constants_ok _).mono ?_)
    rintro r v1 ⟨rfl, hgr⟩
    refine ⟨_, rfl, ?_⟩
    replace hB := hB.more hgr
    replace hg := hide (hgr.blk (unhide hg))
    clear hgr
    simp only [Act.put, List.setIfInBounds_toArray, List.set_cons_zero, List.set_cons_succ, List.getElem_toArray, List.getElem_cons_zero, List.getElem_cons_succ]
    refine wpList_step fun K hK => ?_
    replace hK := hide hK
    go_simp
    refine unhide hK _ _ ?_
    clear hK K
    have hgk : v1.heap.size ≠ g := by have := lt_of_block (unhide hg); omega
    replace hB := hB.new #[.int .u32 0, .int .u32 0, .int .u32 0, .int .u32 0, .int .u32 0, .int .u32 0, .int .u32 0, .int .u32 0, .int .u32 0, .int .u32 0, .int .u32 0, .int .u32 0, .int .u32 0, .int .u32 0, .int .u32 0, .int .u32 0, .int .u32 0, .int .u32 0, .int .u32 0, .int .u32 0, .int .u32 0, .int .u32 0, .int .u32 0, .int .u32 0, .int .u32 0, .int .u32 0, .int .u32 0, .int .u32 0, .int .u32 0, .int .u32 0, .int .u32 0, .int .u32 0, .int .u32 0, .int .u32 0, .int .u32 0, .int .u32 0, .int .u32 0, .int .u32 0, .int .u32 0, .int .u32 0, .int .u32 0, .int .u32 0, .int .u32 0, .int .u32 0, .int .u32 0, .int .u32 0, .int .u32 0, .int .u32 0, .int .u32 0, .int .u32 0, .int .u32 0, .int .u32 0, .int .u32 0, .int .u32 0, .int .u32 0, .int .u32 0, .int .u32 0, .int .u32 0, .int .u32 0, .int .u32 0, .int .u32 0, .int .u32 0, .int .u32 0, .int .u32 0] 64
    replace hg := hide (((Gr.refl v1).alloc (.cells #[.int .u32 0, .int .u32 0, .int .u32 0, .int .u32 0, .int .u32 0, .int .u32 0, .int .u32 0, .int .u32 0, .int .u32 0, .int .u32 0, .int .u32 0, .int .u32 0, .int .u32 0, .int .u32 0, .int .u32 0, .int .u32 0, .int .u32 0, .int .u32 0, .int .u32 0, .int .u32 0, .int .u32 0, .int .u32 0, .int .u32 0, .int .u32 0, .int .u32 0, .int .u32 0, .int .u32 0, .int .u32 0, .int .u32 0, .int .u32 0, .int .u32 0, .int .u32 0, .int .u32 0, .int .u32 0, .int .u32 0, .int .u32 0, .int .u32 0, .int .u32 0, .int .u32 0, .int .u32 0, .int .u32 0, .int .u32 0, .int .u32 0, .int .u32 0, .int .u32 0, .int .u32 0, .int .u32 0, .int .u32 0, .int .u32 0, .int .u32 0, .int .u32 0, .int .u32 0, .int .u32 0, .int .u32 0, .int .u32 0, .int .u32 0, .int .u32 0, .int .u32 0, .int .u32 0, .int .u32 0, .int .u32 0, .int .u32 0, .int .u32 0, .int .u32 0] 64)).blk (unhide hg))
    simp only [List.nil_append] at hB
    have hgo : w.heap.size ≤ v1.heap.size := hB.own 0 (x := ⟨v1.heap.size, #[.int .u32 0, .int .u32 0, .int .u32 0, .int .u32 0, .int .u32 0, .int .u32 0, .int .u32 0, .int .u32 0, .int .u32 0, .int .u32 0, .int .u32 0, .int .u32 0, .int .u32 0, .int .u32 0, .int .u32 0, .int .u32 0, .int .u32 0, .int .u32 0, .int .u32 0, .int .u32 0, .int .u32 0, .int .u32 0, .int .u32 0, .int .u32 0, .int .u32 0, .int .u32 0, .int .u32 0, .int .u32 0, .int .u32 0, .int .u32 0, .int .u32 0, .int .u32 0, .int .u32 0, .int .u32 0, .int .u32 0, .int .u32 0, .int .u32 0, .int .u32 0, .int .u32 0, .int .u32 0, .int .u32 0, .int .u32 0, .int .u32 0, .int .u32 0, .int .u32 0, .int .u32 0, .int .u32 0, .int .u32 0, .int .u32 0, .int .u32 0, .int .u32 0, .int .u32 0, .int .u32 0, .int .u32 0, .int .u32 0, .int .u32 0, .int .u32 0, .int .u32 0, .int .u32 0, .int .u32 0, .int .u32 0, .int .u32 0, .int .u32 0, .int .u32 0], 64⟩) rfl
    generalize v1.heap.size = gk at *
    generalize World.alloc _ _ = v2 at *
    replace hB : Bl w [⟨gk, uc Z64, 64⟩] v2 := hB
    refine list_store 64 (.tmp 5) (.tmp 10) gk (uc KL) 64 (uc Z64) (by kernel_rfl) rfl (by kernel_rfl) (by kernel_rfl) (hB.get 0 (x := ⟨gk, uc Z64, 64⟩) rfl) (by rw [Tryd.infoW, uc_size, KL_len]) ((show (uc Z64).size = 64 from rfl).trans ((uc_size _).trans KL_len).symm) (uc_one _) ?_
    replace hB := hB.set 0 (x := ⟨gk, uc Z64, 64⟩) rfl (uc KL)
    simp only [List.set_cons_zero, List.set_cons_succ] at hB
    replace hg : Hid ((v2.setRow gk (uc KL)).heap[g]? = some (.cells (hc s l n) 73 (0, 0))) := hide ((setRow_other v2 gk g (uc KL) (fun e => hgk e.symm)).trans (unhide hg))
    generalize World.setRow _ _ _ = v3 at *
    simp only [Act.put, List.setIfInBounds_toArray, List.set_cons_zero, List.set_cons_succ, List.getElem_toArray, List.getElem_cons_zero, List.getElem_cons_succ]
    refine wpList_nil ?_
    have hT : TI g gk s l n B w 0 a v3 := ⟨unhide hg, hB.get 0 (x := ⟨gk, uc KL, 64⟩) rfl, hB.gr.bt g, by simpa using (unhide hA).gr hB.gr, hgk⟩
    replace hT := hide hT
    clear hB hg
    go_wp2_with fail
    go_loopw [1] (fun b wr => ∃ (j : Nat) (a : Option Addr) (c : Nat), b = .slice a (N - 64 * j) c ∧ 64 * j ≤ N ∧ N - 64 * j ≤ c ∧ c < 9223372036854775808 ∧ Hid (TI g gk s l n B w j a wr)) (fun b _ => slen b)
    case atStart => exact ⟨0, a, cap, rfl, by omega, by omega, hbig, hT⟩
    case round =>
    clear hT
    obtain ⟨j, a', c, rfl, hj, hc1, hc2, hT⟩ := hrel
    obtain ⟨m, hm⟩ : ∃ m, m = N - 64 * j := ⟨_, rfl⟩
    rw [← hm] at hc1
    rw [← hm]
    replace hT := unhide hT
    have hNl : (B.drop (64 * j)).length = m := by rw [List.length_drop, ← unhide hN, hm]
    by_cases hml : 64 ≤ m
    · obtain ⟨p, o, ha, hat, hpo⟩ := (show ∃ p o, a' = some ⟨p, o, none⟩ ∧ At wr p o (B.drop (64 * j)) ∧ (p ≠ g ∨ 8 ≤ o) by
        rcases hT.sl with h0 | h0
        · rw [h0] at hNl; simp at hNl; omega
        · exact h0)
      subst ha
      have mI : 64 ≤ (m : Int) := by omega
      have cI : 64 ≤ (c : Int) := by omega
      have cI2 : ¬ (c : Int) < 64 := by omega
      have mI2 : ¬ (m : Int) < 64 := by omega
      have hsl5 := hide hat
      have hb5 : Hid (IsB ((B.drop (64 * j)).take 64)) := fun x hx => unhide hb x (List.mem_of_mem_drop (List.mem_of_mem_take hx))
      have hl5 : Hid (((B.drop (64 * j)).take 64).length = 64) := by show List.length _ = 64; rw [List.length_take, hNl]; omega
      have hSl : (bk j s B).length = 8 := bk_len s B hs j
      obtain ⟨S, hSe⟩ : ∃ S, S = bk j s B := ⟨_, rfl⟩
      rw [← hSe] at hSl
      replace hT := hide hT
      replace hSe := hide hSe
      replace hNl := hide hNl
      replace hpo := hide hpo
      go_upto_region 5 with fail
      replace hT := unhide hT
      refine any_start (S := fun v => v.heap[gk]? = some (.cells (uc KL) 64 (0, 0))) (by kernel_rfl) ?_
      replace hT := hT.gr (Gr.refl wr).drew
      have hS := hT.ks
      generalize World.drew _ = x0 at *
      simp only [List.size_toArray, List.length_cons, List.length_nil, Array.replicate, List.replicate]
      refine any_take (i := 0) (v := (.pointer (some ⟨g, 0, none⟩))) #[false, false, false, false, false, false, false, false, false, false, false, false, false] rfl (by kernel_rfl) (by kernel_rfl) (by kernel_rfl) (by kernel_rfl) (fun _ _ _ h => h) (.inl ⟨by kernel_rfl, fun x_ hu => by kernel_rfl⟩) hS ?_
      simp only [Act.put, List.setIfInBounds_toArray, List.set_cons_zero, List.set_cons_succ, List.getElem_toArray, List.getElem_cons_zero, List.getElem_cons_succ]
      refine any_take (i := 1) (v := (.pointer (some ⟨g, 0, none⟩))) #[true, false, false, false, false, false, false, false, false, false, false, false, false] rfl (by kernel_rfl) (by kernel_rfl) (by kernel_rfl) (by kernel_rfl) (fun _ _ _ h => h) (.inl ⟨by kernel_rfl, fun x_ hu => by kernel_rfl⟩) hS ?_
      simp only [Act.put, List.setIfInBounds_toArray, List.set_cons_zero, List.set_cons_succ, List.getElem_toArray, List.getElem_cons_zero, List.getElem_cons_succ]
      refine any_take (i := 2) (v := (.pointer (some ⟨g, 0, none⟩))) #[true, true, false, false, false, false, false, false, false, false, false, false, false] rfl (by kernel_rfl) (by kernel_rfl) (by kernel_rfl) (by kernel_rfl) (fun _ _ _ h => h) (.inl ⟨by kernel_rfl, fun x_ hu => by kernel_rfl⟩) hS ?_
      simp only [Act.put, List.setIfInBounds_toArray, List.set_cons_zero, List.set_cons_succ, List.getElem_toArray, List.getElem_cons_zero, List.getElem_cons_succ]
      refine any_take (i := 3) (v := (.pointer (some ⟨g, 0, none⟩))) #[true, true, true, false, false, false, false, false, false, false, false, false, false] rfl (by kernel_rfl) (by kernel_rfl) (by kernel_rfl) (by kernel_rfl) (fun _ _ _ h => h) (.inl ⟨by kernel_rfl, fun x_ hu => by kernel_rfl⟩) hS ?_
      simp only [Act.put, List.setIfInBounds_toArray, List.set_cons_zero, List.set_cons_succ, List.getElem_toArray, List.getElem_cons_zero, List.getElem_cons_succ]
      refine any_take (i := 5) (v := (.slice (some ⟨p, o, none⟩) m c)) #[true, true, true, true, false, false, false, false, false, false, false, false, false] rfl (by kernel_rfl) (by kernel_rfl) (by kernel_rfl) (by kernel_rfl) (fun _ _ _ h => h) (.inl ⟨by kernel_rfl, fun x_ hu => by kernel_rfl⟩) hS ?_
      simp only [Act.put, List.setIfInBounds_toArray, List.set_cons_zero, List.set_cons_succ, List.getElem_toArray, List.getElem_cons_zero, List.getElem_cons_succ]
      refine any_take (i := 6) (v := (.slice (some ⟨p, o, none⟩) 64 c)) #[true, true, true, true, false, true, false, false, false, false, false, false, false] rfl (by kernel_rfl) (by kernel_rfl) (by kernel_rfl) (by kernel_rfl) (fun _ _ _ h => h) (.inl ⟨by kernel_rfl, fun x_ hu => by go_simp⟩) hS ?_
      simp only [Act.put, List.setIfInBounds_toArray, List.set_cons_zero, List.set_cons_succ, List.getElem_toArray, List.getElem_cons_zero, List.getElem_cons_succ]
      refine any_take (i := 8) (v := (.agg (uc KL))) #[true, true, true, true, false, true, true, false, false, false, false, false, false] rfl (by kernel_rfl) (by kernel_rfl) (by kernel_rfl) (by kernel_rfl) (fun _ _ _ h => h) (.inl ⟨by kernel_rfl, fun x_ hu => exec_arr x_ 64 (.tmp 5) rfl gk (by kernel_rfl) (uc KL) 64 _ hu Tryd.underlying64 rfl (by rw [Tryd.infoW, uc_size, KL_len])⟩) hS ?_
      simp only [Act.put, List.setIfInBounds_toArray, List.set_cons_zero, List.set_cons_succ, List.getElem_toArray, List.getElem_cons_zero, List.getElem_cons_succ]
      refine any_pair (i := 4) (j := 7) (v := .agg (uc S)) (f := 50) (args := #[.slice (some ⟨p, o, none⟩) 64 c]) (fun v => TI g gk s l n B w j (some ⟨p, o, none⟩) v) (fun r _ => r = .agg (uc (wds ((B.drop (64 * j)).take 64)))) (by kernel_rfl) (by kernel_rfl) (by kernel_rfl) rfl rfl (by kernel_rfl) (by kernel_rfl) (by kernel_rfl) (fun r => by kernel_rfl) (fun x hx => exec_row x 67 (.tmp 17) rfl g 0 (by kernel_rfl) (S.map (Value.int .u32)) _ (hx.rng hSe) Tryd.underlying67 rfl (by rw [Tryd.infoS, List.length_map, hSl])) (fun r x hx => exec_row x 67 (.tmp 17) rfl g 0 (by kernel_rfl) (S.map (Value.int .u32)) _ (hx.rng hSe) Tryd.underlying67 rfl (by rw [Tryd.infoS, List.length_map, hSl])) (fun x => by kernel_rfl) (fun x => by kernel_rfl) (fun x hx => (words_ok ((B.drop (64 * j)).take 64) (unhide hb5) (unhide hl5) p o c x hx.at_).mono (fun e x2 h => ⟨_, h.1, hx.gr h.2, rfl⟩)) (fun x hx => hx.ks) hT (fun r => by kernel_rfl) (by kernel_rfl) ?_
      rintro r x2 hT2 rfl
      clear hT
      have hT := hT2
      clear hT2
      have hS := hT.ks
      simp only [Act.put, List.setIfInBounds_toArray, List.set_cons_zero, List.set_cons_succ, List.getElem_toArray, List.getElem_cons_zero, List.getElem_cons_succ]
      refine any_one (i := 9) (by kernel_rfl) rfl (fun K hK => ?_)
      refine step_callw (by kernel_rfl) 49 #[.agg (uc S), .agg (uc (wds ((B.drop (64 * j)).take 64))), .agg (uc KL)] (by kernel_rfl) ((steps_ok S (wds ((B.drop (64 * j)).take 64)) KL hSl (wds_len _) KL_len _).mono ?_)
      rintro r x9 ⟨rfl, hgr⟩
      refine ⟨_, rfl, ?_⟩
      replace hT := hT.gr hgr
      clear hgr hS
      have hS := hT.ks
      refine hK.out _ _ hS (fun _ => ?_)
      clear hK K
      simp only [Act.put, List.setIfInBounds_toArray, List.set_cons_zero, List.set_cons_succ, List.getElem_toArray, List.getElem_cons_zero, List.getElem_cons_succ]
      refine any_take (i := 10) (v := (.pointer (some ⟨g, 0, none⟩))) #[true, true, true, true, true, true, true, true, true, true, false, false, false] rfl (by kernel_rfl) (by kernel_rfl) (by kernel_rfl) (by kernel_rfl) (fun _ _ _ h => h) (.inl ⟨by kernel_rfl, fun x_ hu => by kernel_rfl⟩) hS ?_
      simp only [Act.put, List.setIfInBounds_toArray, List.set_cons_zero, List.set_cons_succ, List.getElem_toArray, List.getElem_cons_zero, List.getElem_cons_succ]
      refine any_take (i := 11) (v := (.pointer (some ⟨g, 0, none⟩))) #[true, true, true, true, true, true, true, true, true, true, true, false, false] rfl (by kernel_rfl) (by kernel_rfl) (by kernel_rfl) (by kernel_rfl) (fun _ _ _ h => h) (.inl ⟨by kernel_rfl, fun x_ hu => by kernel_rfl⟩) hS ?_
      simp only [Act.put, List.setIfInBounds_toArray, List.set_cons_zero, List.set_cons_succ, List.getElem_toArray, List.getElem_cons_zero, List.getElem_cons_succ]
      refine any_one (i := 12) (by kernel_rfl) rfl (fun K hK => ?_)
      have hre := unhide hSe
      refine list_store_mid 67 (.tmp 25) (.tmp 23) g 0 (uc (stp S (wds ((B.drop (64 * j)).take 64)) KL)) (by kernel_rfl) rfl (by kernel_rfl) (by kernel_rfl) (by rw [uc_size, stp_len]; exact there_of hT.hash (by unfold hcl; simp only [List.length_append, List.length_map]; rw [← hre, hSl]; omega)) (by rw [Tryd.infoS, uc_size, stp_len]) (uc_one _) ?_
      have hT3 := hT.step hs hre
      clear hT
      refine hK.out _ _ hT3.1 (fun _ => ?_)
      refine any_done (by kernel_rfl) ?_
      clear hK K hS
      simp only [Act.put, List.setIfInBounds_toArray, List.set_cons_zero, List.set_cons_succ, List.getElem_toArray, List.getElem_cons_zero, List.getElem_cons_succ]
      generalize World.setCells _ _ _ _ = x4 at *
      go_wp2_with fail
      have hT4 : TI g gk s l n B w (j + 1) (if c = 64 then some ⟨p, o, none⟩ else some ⟨p, o + 64, none⟩) x4 := by
        split
        · refine ⟨hT3.2.hash, hT3.2.ks, hT3.2.bt, .inl ?_, hT3.2.ne⟩
          refine List.eq_nil_of_length_eq_zero ?_
          rw [List.length_drop, ← unhide hN]
          omega
        · exact hT3.2
      refine ⟨⟨j + 1, _, c - 64, by congr 1, by omega, by omega, by omega, hide hT4⟩, ?_⟩
      show N - 64 * j - 64 < m
      omega
    · have mI : ¬ 64 ≤ (m : Int) := by omega
      have e0 : j = N / 64 := by omega
      have e1 : m = N % 64 := by omega
      have hT5 : Hid (SlO g wr a' (B.drop (64 * (N / 64))) ∧ wr.heap[g]? = some (.cells (hc (bk (N / 64) s B) l n) 73 (0, 0)) ∧ Bt g w wr) := by
        rw [← e0]
        exact ⟨hT.sl, hT.hash, hT.bt⟩
      clear hT
      replace hNl := hide hNl
      go_wp2_with fail
      show T (.returned (.slice a' (N - 64 * (N / 64)) c)) wr
      rw [unhide hT0]
      unfold Took
      rw [← unhide hN]
      exact ⟨a', c, by rw [show N - 64 * (N / 64) = N % 64 by omega], by omega, hc2, (unhide hT5).1, (unhide hT5).2.1, (unhide hT5).2.2⟩
end Go.Proofs.YthnmebhljkccnaaDoor
