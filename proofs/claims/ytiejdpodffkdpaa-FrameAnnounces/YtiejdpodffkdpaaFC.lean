/-
  Layer 14: what octet's calls answer.
-/
import Derived.Test.YtiejdpodffkdpaaFB
namespace Go.Proofs.Ytiejdpodffkdpaa
open Go.RowKit
set_option maxRecDepth 100000
set_option linter.unusedSimpArgs false
set_option linter.unusedVariables false
def Ret (L : List Int) (w : World) (r : Ending) (w' : World) : Prop := ∃ g p c, r = .returned (.pointer (some ⟨g, 0, none⟩)) ∧ w.heap.size ≤ g ∧ w.heap.size ≤ p ∧ Rdr g p L.length c 0 L w' ∧ (∃ cur, w'.heap[p]? = some (.cells cur 5 (0, 0))) ∧ Gr w w'
set_option maxHeartbeats 4000000 in
theorem oreadt_ok (B : List Int) (p q n c : Nat) (w : World) (hB0 : Lb w (some ⟨p, q, none⟩) n c B) (hn : n ≤ 100000) (h0 : 0 < n) : Calls Try.prog 21 #[.slice (some ⟨p, q, none⟩) n c] w (Ret B w) := by
  obtain ⟨T, hT⟩ : ∃ T, T = Ret B w := ⟨_, rfl⟩
  rw [← hT]
  replace hT := hide hT
  replace hB0 := hide hB0
  go_enter Try.func21, Try.ntmps21
  go_upto_region 1 with fail
  refine wp_region_lit ?_
  refine list_val (.slice (some ⟨p, q, none⟩) n c) (by kernel_rfl) (by kernel_rfl) ?_
  simp only [Act.put, List.setIfInBounds_toArray, List.set_cons_zero, List.set_cons_succ, List.getElem_toArray, List.getElem_cons_zero, List.getElem_cons_succ]
  refine list_call 34 #[.slice (some ⟨p, q, none⟩) n c] (by kernel_rfl) (by kernel_rfl) ((clone_ok B p q n c w (unhide hB0) hn).mono ?_)
  rintro r u ⟨v, rfl, hO, hG⟩
  have hl := (unhide hB0).len
  obtain ⟨p2, c2, rfl, h1, h2, h3, h4, cur, h5⟩ := ob_at hO (by intro e; rw [e] at hl; simp at hl; omega)
  refine ⟨_, rfl, ?_⟩
  clear hO
  replace h2 := hide h2; replace h5 := hide h5; replace hG := hide hG
  rw [hl] at h3
  rw [hl]
  simp only [Act.put, List.setIfInBounds_toArray, List.set_cons_zero, List.set_cons_succ, List.getElem_toArray, List.getElem_cons_zero, List.getElem_cons_succ]
  refine list_val (.agg (rdr 0 p2 n c2)) (by kernel_rfl) (by kernel_rfl) ?_
  simp only [Act.put, List.setIfInBounds_toArray, List.set_cons_zero, List.set_cons_succ, List.getElem_toArray, List.getElem_cons_zero, List.getElem_cons_succ]
  refine list_valw (.pointer (some ⟨u.heap.size, 0, none⟩)) (u.alloc (.cells (rdr 0 p2 n c2) 70 (0, 0))) (by kernel_rfl) (by kernel_rfl) ?_
  have hZ : Hid (Ret B w (.returned (.pointer (some ⟨u.heap.size, 0, none⟩))) (u.alloc (.cells (rdr 0 p2 n c2) 70 (0, 0)))) := by
    have hg2 := (Gr.refl u).alloc (.cells (rdr 0 p2 n c2) 70 (0, 0))
    have hp := lt_of_block (unhide h5)
    show Ret B w _ _
    unfold Ret
    rw [hl]
    exact ⟨u.heap.size, p2, c2, rfl, (unhide hG).size, h1, ⟨blk_new _ _, fun j hj => hg2.cell (unhide h2 j hj), (fun e => by omega), hl, (unhide hB0).isB, h3, h4⟩, ⟨cur, hg2.blk (unhide h5)⟩, (unhide hG).trans hg2⟩
  generalize World.alloc _ _ = u2 at *
  simp only [Act.put, List.setIfInBounds_toArray, List.set_cons_zero, List.set_cons_succ, List.getElem_toArray, List.getElem_cons_zero, List.getElem_cons_succ]
  (refine wpList_step fun K hK => ?_; replace hK := hide hK; go_simp; refine unhide hK _ _ ?_; clear hK K)
  refine wpList_nil ?_
  go_wp2_with fail
  rw [unhide hT]
  exact unhide hZ
set_option maxHeartbeats 4000000 in
theorem put32g_ok (B : List Int) (s : Option Addr) (n cap : Nat) (x : Int) (hx : 0 ≤ x ∧ x < 4294967296) (hn : n ≤ 1000) (w : World) (lb : Lb w s n cap B) : Calls Try.prog 30 #[.slice s n cap, .int .u32 x] w (Mkd (B ++ lowL x 4) w) := by
  obtain ⟨T, hT⟩ : ∃ T, T = Mkd (B ++ lowL x 4) w := ⟨_, rfl⟩
  rw [← hT]
  replace hT := hide hT
  have hwx : IntKind.u64.wrap x = x := by rw [IntKind.wrap_u64]; omega
  obtain ⟨hx0, hx1⟩ := hx
  replace lb := hide lb
  go_enter Try.func30, Try.ntmps30
  go_upto_region 1 with fail
  refine wp_region_lit ?_
  refine list_val (.slice s n cap) (by kernel_rfl) (by kernel_rfl) ?_
  simp only [Act.put, List.setIfInBounds_toArray, List.set_cons_zero, List.set_cons_succ, List.getElem_toArray, List.getElem_cons_zero, List.getElem_cons_succ]
  refine list_val (.int .u32 x) (by kernel_rfl) (by kernel_rfl) ?_
  simp only [Act.put, List.setIfInBounds_toArray, List.set_cons_zero, List.set_cons_succ, List.getElem_toArray, List.getElem_cons_zero, List.getElem_cons_succ]
  refine list_val (.int .u64 x) (by kernel_rfl) (by go_simp) ?_
  simp only [Act.put, List.setIfInBounds_toArray, List.set_cons_zero, List.set_cons_succ, List.getElem_toArray, List.getElem_cons_zero, List.getElem_cons_succ]
  refine list_call 33 #[.slice s n cap, .int .u64 x, .int .i64 4] (by kernel_rfl) (by kernel_rfl) ((put4_ok B s n cap x hx0 hn w (unhide lb)).mono ?_)
  rintro r u hF
  obtain ⟨L, hL⟩ : ∃ L, L = B ++ lowL x 4 := ⟨_, rfl⟩
  rw [← hL] at hF hT
  obtain ⟨g, rfl, hg1, hg2, hg3⟩ := hF
  have hF : Hid (Mkd L w (.returned (.slice (some ⟨g, 0, none⟩) L.length L.length)) u) := ⟨g, rfl, hg1, hg2, hg3⟩
  refine ⟨_, rfl, ?_⟩
  clear hg1 hg2 hg3 hL
  generalize L.length = m at *
  simp only [Act.put, List.setIfInBounds_toArray, List.set_cons_zero, List.set_cons_succ, List.getElem_toArray, List.getElem_cons_zero, List.getElem_cons_succ]
  (refine wpList_step fun K hK => ?_; replace hK := hide hK; go_simp; refine unhide hK _ _ ?_; clear hK K)
  refine wpList_nil ?_
  go_wp2_with fail
  rw [unhide hT]
  exact unhide hF
/-- all noughts -/
def allZ (l : List Int) : Bool := decide (l = List.replicate l.length 0)
theorem rep_take (l : List Int) (k : Nat) (h : k < l.length) : l.take (k + 1) = (List.replicate l.length (0 : Int)).take (k + 1) ↔ l.take k = (List.replicate l.length (0 : Int)).take k ∧ l.getD k 0 = 0 := by
  rw [take_eq_step l _ k h (by simpa using h)]
  simp [h]
theorem u8_or_zero (u y : Int) (hu : 0 ≤ u ∧ u < 256) (hy : 0 ≤ y ∧ y < 256) : (0 ≤ bits .or .u8 u y ∧ bits .or .u8 u y < 256) ∧ (bits .or .u8 u y = 0 ↔ u = 0 ∧ y = 0) := by
  have h := or_xor u y 0 hu hy ⟨by omega, by omega⟩
  have e : bits .xor .u8 y 0 = y := by
    obtain ⟨n, rfl⟩ := Int.eq_ofNat_of_zero_le hy.1
    have := u8_xor_nat n 0 (by omega) (by omega)
    simpa using this
  rw [e] at h
  exact h
set_option maxHeartbeats 1000000 in
theorem zero_ok (l : List Int) (a : Option Addr) (n c : Nat) (hn : n ≤ 281474976710656) (w : World) (la : Lb w a n c l) :
    Calls Try.prog 25 #[.slice a n c] w (fun e w' => e = .returned (.bool (allZ l)) ∧ w' = w) := by
  have hl := hide la.len
  replace la := hide la
  go_enter Try.func25, Try.ntmps25
  go_wp2_with fail
  go_loopw [3, 8] (fun x i wr => ∃ (k : Nat) (u : Int), k ≤ n ∧ i = .int .i64 k ∧ x = .int .u8 u ∧ Hid (Unl l (List.replicate l.length 0) k u) ∧ wr = w) (fun _ i _ => n - (intOf i).toNat)
  case atStart => exact ⟨0, 0, Nat.zero_le _, rfl, rfl, (⟨by omega, by simp⟩ : Unl l (List.replicate l.length 0) 0 0), rfl⟩
  case round =>
  obtain ⟨k, u, hk, rfl, rfl, hU, rfl⟩ := hrel
  by_cases hlt : k < n
  · obtain ⟨p, o, rfl, c0⟩ := (unhide la).cellAt hlt
    obtain ⟨x, hx⟩ : ∃ x, x = l.getD k 0 := ⟨_, rfl⟩
    rw [← hx] at c0
    have HS : Hid (Unl l (List.replicate l.length 0) (k + 1) (bits .or .u8 u x)) := by
      have h1 := unhide hU
      have h2 := u8_or_zero u x h1.1 (by rw [hx]; exact (unhide la).isB.at_ k)
      refine ⟨h2.1, ?_⟩
      rw [h2.2, rep_take l k (by rw [unhide hl]; exact hlt), h1.2, hx]
    clear hx hU
    have kI : (k : Int) < (n : Int) := by omega
    go_wp2_with fail
    go_roundw
    case rel => exact ⟨k + 1, _, by omega, by go_num, rfl, HS, trivial⟩
    case measure => simp [intOf]; omega
  · have kI : ¬ (k : Int) < (n : Int) := by omega
    have hU2 := (unhide hU).2
    rw [List.take_of_length_le (by rw [unhide hl]; omega), List.take_of_length_le (by rw [List.length_replicate, unhide hl]; omega)] at hU2
    have HU := hide (show (u == 0) = allZ l by unfold allZ; rw [Bool.eq_iff_iff]; simpa using hU2)
    clear hU hU2
    go_wp2_with fail
    refine bodyPost_ret (v := .bool (u == 0)) (by simp [results, Try.results25, go_sem]) rfl ⟨?_, rfl⟩
    rw [unhide HU]
set_option maxHeartbeats 4000000 in
theorem get1_ok (x : Int) (p o c : Nat) (w : World) (lb : Lb w (some ⟨p, o, none⟩) 1 c [x]) : Calls Try.prog 35 #[.slice (some ⟨p, o, none⟩) 1 c] w (Vl (.int .u64 x) w) := by
  obtain ⟨T, hT⟩ : ∃ T, T = Vl (.int .u64 x) w := ⟨_, rfl⟩
  rw [← hT]
  replace hT := hide hT
  have hc1 := lb.cap
  have hc0 : ¬ c = 0 := by omega
  have hat : At w p o [x] := by
    rcases lb.sl with h | ⟨p', o', h1, h2⟩
    · cases h
    · have h3 := Option.some.inj h1
      injection h3 with h4 h5 _
      subst h4 h5
      exact h2
  have hxe : lowN [x] = x := by simp [lowN]
  replace lb := hide lb; replace hat := hide hat
  go_enter Try.func35, Try.ntmps35
  go_upto_region 1 with fail
  refine wp_region_lit ?_
  refine list_val (.slice (some ⟨p, o, none⟩) 1 c) (by kernel_rfl) (by kernel_rfl) ?_
  simp only [Act.put, List.setIfInBounds_toArray, List.set_cons_zero, List.set_cons_succ, List.getElem_toArray, List.getElem_cons_zero, List.getElem_cons_succ]
  refine list_val (.slice (some ⟨p, o, none⟩) 1 c) (by kernel_rfl) (by kernel_rfl) ?_
  simp only [Act.put, List.setIfInBounds_toArray, List.set_cons_zero, List.set_cons_succ, List.getElem_toArray, List.getElem_cons_zero, List.getElem_cons_succ]
  refine list_val (.int .i64 1) (by kernel_rfl) (by kernel_rfl) ?_
  simp only [Act.put, List.setIfInBounds_toArray, List.set_cons_zero, List.set_cons_succ, List.getElem_toArray, List.getElem_cons_zero, List.getElem_cons_succ]
  refine list_val (.int .i64 (1 : Nat)) (by kernel_rfl) (by kernel_rfl) ?_
  simp only [Act.put, List.setIfInBounds_toArray, List.set_cons_zero, List.set_cons_succ, List.getElem_toArray, List.getElem_cons_zero, List.getElem_cons_succ]
  refine list_val (.slice (if c = 0 then (some ⟨p, o, none⟩ : Option Addr) else (some ⟨p, o, none⟩ : Option Addr).map (·.add 0)) 1 c) (by kernel_rfl) (exec_upto w (.tmp 3) (.tmp 6) rfl (some ⟨p, o, none⟩) 1 c 1 rfl rfl hc1 (by omega)) ?_
  rw [if_neg hc0, Option.map_some, add_zero]
  simp only [Act.put, List.setIfInBounds_toArray, List.set_cons_zero, List.set_cons_succ, List.getElem_toArray, List.getElem_cons_zero, List.getElem_cons_succ]
  refine list_call 36 #[.slice (some ⟨p, o, none⟩) 1 c] (by kernel_rfl) (by kernel_rfl) ((onum_ok p o 1 c [x] w rfl (by omega) (unhide lb).isB (unhide hat)).mono ?_)
  rintro r u ⟨rfl, rfl⟩
  rw [hxe]
  refine ⟨_, rfl, ?_⟩
  simp only [Act.put, List.setIfInBounds_toArray, List.set_cons_zero, List.set_cons_succ, List.getElem_toArray, List.getElem_cons_zero, List.getElem_cons_succ]
  (refine wpList_step fun K hK => ?_; replace hK := hide hK; go_simp; refine unhide hK _ _ ?_; clear hK K)
  refine wpList_nil ?_
  have hZ : Hid (Vl (.int .u64 x) u (.returned (.int .u64 x)) u) := ⟨rfl, Gr.refl u⟩
  go_wp2_with fail
  rw [unhide hT]
  exact unhide hZ
set_option maxHeartbeats 4000000 in
theorem fone_ok (g p n c k : Nat) (L : List Int) (w : World) (hR : Rdr g p n c k L w) (hkn : k + 1 ≤ n) (hn : n ≤ 100000) : Calls Try.prog 22 #[P0 g] w (fun r w' => r = .returned (.int .i64 (L.getD k 0)) ∧ Rdr g p n c (k + 1) L w' ∧ Bt g w w') := by
  obtain ⟨T, hT⟩ : ∃ T : Ending → World → Prop, T = fun r w' => r = .returned (.int .i64 (L.getD k 0)) ∧ Rdr g p n c (k + 1) L w' ∧ Bt g w w' := ⟨_, rfl⟩
  rw [← hT]
  replace hT := hide hT
  have hx1 : (L.drop k).take 1 = [L.getD k 0] := by
    have hk : k < L.length := by rw [hR.len]; omega
    rw [List.drop_eq_getElem_cons hk, List.take_succ_cons, List.take_zero]
    simp [List.getD, hk]
  have hxb := hR.isB.at_ k
  generalize L.getD k 0 = x at *
  have hw1 : IntKind.i64.wrap x = x := by rw [IntKind.wrap_i64]; omega
  have hxB : IsB [x] := fun y hy => by rw [List.mem_singleton.1 hy]; exact hxb
  replace hR := hide hR; replace hxB := hide hxB
  go_enter Try.func22, Try.ntmps22
  go_upto_region 1 with fail
  refine wp_region_lit ?_
  refine list_val (.pointer (some ⟨g, 0, none⟩)) (by kernel_rfl) (by kernel_rfl) ?_
  simp only [Act.put, List.setIfInBounds_toArray, List.set_cons_zero, List.set_cons_succ, List.getElem_toArray, List.getElem_cons_zero, List.getElem_cons_succ]
  refine list_call 26 #[P0 g, .int .i64 ((1 : Nat) : Int)] (by kernel_rfl) (by kernel_rfl) ((rraw_ok g p n c k 1 L w (unhide hR) hkn (by omega) hn).mono ?_)
  rintro r u1 ⟨v, rfl, hO, hR1, hb1⟩
  rw [hx1] at hO
  obtain ⟨q, cq, rfl, _, hat, hq1, hq2, _⟩ := ob_at hO (by simp)
  have hlb : Lb u1 (some ⟨q, 0, none⟩) 1 cq [x] := ⟨rfl, unhide hxB, .inr ⟨q, 0, rfl, hat⟩, hq1, hq2⟩
  clear hO hat hq1 hq2
  refine ⟨_, rfl, ?_⟩
  replace hlb := hide hlb; replace hR1 := hide hR1; replace hb1 := hide hb1
  simp only [Act.put, List.setIfInBounds_toArray, List.set_cons_zero, List.set_cons_succ, List.getElem_toArray, List.getElem_cons_zero, List.getElem_cons_succ]
  refine list_call 35 #[.slice (some ⟨q, 0, none⟩) 1 cq] (by kernel_rfl) (by kernel_rfl) ((get1_ok x q 0 cq u1 (unhide hlb)).mono ?_)
  rintro r u2 ⟨rfl, hg2⟩
  have hZ : Hid (T (.returned (.int .i64 x)) u2) := by
    rw [unhide hT]
    exact ⟨rfl, (unhide hR1).gr hg2, (unhide hb1).trans (hg2.bt g)⟩
  clear hg2
  refine ⟨_, rfl, ?_⟩
  simp only [Act.put, List.setIfInBounds_toArray, List.set_cons_zero, List.set_cons_succ, List.getElem_toArray, List.getElem_cons_zero, List.getElem_cons_succ]
  refine list_val (.int .i64 x) (by kernel_rfl) (by go_simp) ?_
  simp only [Act.put, List.setIfInBounds_toArray, List.set_cons_zero, List.set_cons_succ, List.getElem_toArray, List.getElem_cons_zero, List.getElem_cons_succ]
  (refine wpList_step fun K hK => ?_; replace hK := hide hK; go_simp; refine unhide hK _ _ ?_; clear hK K)
  refine wpList_nil ?_
  go_wp2_with fail
  exact unhide hZ
def Z32 : List Int := List.replicate 32 0
theorem Try.infoKy : (Try.prog.info? 30).map (·.size) = some 32 := by kernel_rfl
set_option maxHeartbeats 4000000 in
theorem rkey_ok (g p n c k : Nat) (L : List Int) (w : World) (hR : Rdr g p n c k L w) (hkn : k + 32 ≤ n) (hn : n ≤ 100000) : Calls Try.prog 24 #[P0 g] w (fun r w' => r = .returned (.agg (kc ((L.drop k).take 32))) ∧ Rdr g p n c (k + 32) L w' ∧ Bt g w w') := by
  obtain ⟨T, hT⟩ : ∃ T : Ending → World → Prop, T = fun r w' => r = .returned (.agg (kc ((L.drop k).take 32))) ∧ Rdr g p n c (k + 32) L w' ∧ Bt g w w' := ⟨_, rfl⟩
  rw [← hT]
  replace hT := hide hT
  have hl : ((L.drop k).take 32).length = 32 := by rw [List.length_take, List.length_drop, hR.len]; omega
  have hgl := lt_of_block hR.cel
  have hpl : p < w.heap.size := lt_of_cell (hR.at_ 0 (by rw [hR.len]; omega))
  obtain ⟨K, hK0⟩ : ∃ K, K = (L.drop k).take 32 := ⟨_, rfl⟩
  rw [← hK0] at hl hT
  replace hR := hide hR; replace hK0 := hide hK0
  go_enter Try.func24, Try.ntmps24
  go_upto_region 2 with fail
  have hB := (((Bl.nil w).new #[.int .u8 0, .int .u8 0, .int .u8 0, .int .u8 0, .int .u8 0, .int .u8 0, .int .u8 0, .int .u8 0, .int .u8 0, .int .u8 0, .int .u8 0, .int .u8 0, .int .u8 0, .int .u8 0, .int .u8 0, .int .u8 0, .int .u8 0, .int .u8 0, .int .u8 0, .int .u8 0, .int .u8 0, .int .u8 0, .int .u8 0, .int .u8 0, .int .u8 0, .int .u8 0, .int .u8 0, .int .u8 0, .int .u8 0, .int .u8 0, .int .u8 0, .int .u8 0] 30).new #[.int .u8 0, .int .u8 0, .int .u8 0, .int .u8 0, .int .u8 0, .int .u8 0, .int .u8 0, .int .u8 0, .int .u8 0, .int .u8 0, .int .u8 0, .int .u8 0, .int .u8 0, .int .u8 0, .int .u8 0, .int .u8 0, .int .u8 0, .int .u8 0, .int .u8 0, .int .u8 0, .int .u8 0, .int .u8 0, .int .u8 0, .int .u8 0, .int .u8 0, .int .u8 0, .int .u8 0, .int .u8 0, .int .u8 0, .int .u8 0, .int .u8 0, .int .u8 0] 30)
  simp only [size_alloc, List.nil_append, List.cons_append] at hB
  generalize World.alloc _ _ = u at *
  replace hB : Bl w [⟨w.heap.size, kc Z32, 30⟩, ⟨w.heap.size + 1, kc Z32, 30⟩] u := hB
  have hk0 := (hB.get 0 (x := ⟨w.heap.size, kc Z32, 30⟩) rfl)
  have hk1 := (hB.get 1 (x := ⟨w.heap.size + 1, kc Z32, 30⟩) rfl)
  have hg0 := hB.gr
  have hsz := lt_of_block hk1
  dsimp only at hk0 hk1 hsz
  clear hB
  obtain ⟨h0, e0⟩ : ∃ h, h = w.heap.size := ⟨_, rfl⟩
  obtain ⟨h1, e1⟩ : ∃ h, h = w.heap.size + 1 := ⟨_, rfl⟩
  rw [← e0] at hk0
  rw [← e1] at hk1
  rw [← e1, ← e0]
  have hn0 : h0 ≠ g := by omega
  have hn1 : h1 ≠ g := by omega
  have hnp : h1 ≠ p := by omega
  have h01 : h0 ≠ h1 := by omega
  have hgn : g ≠ h1 := by omega
  have hpn : p ≠ h1 := by omega
  have hgn0 : g ≠ h0 := by omega
  have hpn0 : p ≠ h0 := by omega
  have hlow0 : w.heap.size ≤ h0 := by omega
  have hlow1 : w.heap.size ≤ h1 := by omega
  clear hgl hpl hsz e0 e1
  replace hk0 := hide hk0; replace hk1 := hide hk1; replace hg0 := hide hg0
  refine any_start (S := fun _ => True) (by kernel_rfl) ?_
  have hdr := (Gr.refl u).drew
  replace hR := hide ((unhide hR).gr ((unhide hg0).trans hdr))
  replace hk0 := hide (hdr.blk (unhide hk0))
  replace hk1 := hide (hdr.blk (unhide hk1))
  replace hg0 := hide ((unhide hg0).trans hdr)
  clear hdr
  generalize World.drew _ = x0 at *
  simp only [List.size_toArray, List.length_cons, List.length_nil, Array.replicate, List.replicate]
  refine any_take (i := 0) (v := (.slice (some ⟨h1, 0, none⟩) 32 32)) #[false, false, false, false] rfl (by kernel_rfl) (by kernel_rfl) (by kernel_rfl) (by kernel_rfl) (fun _ _ _ h => h) (.inl ⟨by kernel_rfl, fun x_ hu => by kernel_rfl⟩) trivial ?_
  simp only [Act.put, List.setIfInBounds_toArray, List.set_cons_zero, List.set_cons_succ, List.getElem_toArray, List.getElem_cons_zero, List.getElem_cons_succ]
  refine any_take (i := 1) (v := (.pointer (some ⟨g, 0, none⟩))) #[true, false, false, false] rfl (by kernel_rfl) (by kernel_rfl) (by kernel_rfl) (by kernel_rfl) (fun _ _ _ h => h) (.inl ⟨by kernel_rfl, fun x_ hu => by kernel_rfl⟩) trivial ?_
  simp only [Act.put, List.setIfInBounds_toArray, List.set_cons_zero, List.set_cons_succ, List.getElem_toArray, List.getElem_cons_zero, List.getElem_cons_succ]
  refine any_one (i := 2) (by kernel_rfl) rfl (fun K_ hQ => ?_)
  refine step_callw (by kernel_rfl) 37 #[P0 g, .int .i64 ((32 : Nat) : Int)] (by kernel_rfl) ((rtake_ok g p n c k 32 L x0 (unhide hR) hkn (by omega) hn).mono ?_)
  rintro r u1 ⟨rfl, hR1, hb1⟩
  refine ⟨_, rfl, ?_⟩
  replace hk0 := hide (hb1.blk (unhide hk0) hn0)
  replace hk1 := hide (hb1.blk (unhide hk1) hn1)
  have hat : At u1 p k K := by
    have h := (hR1.at_.drop k).take 32
    rw [Nat.zero_add, ← unhide hK0] at h
    exact h
  replace hat := hide hat; replace hR1 := hide hR1; replace hb1 := hide hb1
  refine hQ.out _ _ trivial (fun _ => ?_)
  clear hQ K_
  simp only [Act.put, List.setIfInBounds_toArray, List.set_cons_zero, List.set_cons_succ, List.getElem_toArray, List.getElem_cons_zero, List.getElem_cons_succ]
  refine any_one (i := 3) (by kernel_rfl) rfl (fun K_ hQ => ?_)
  rw [if_pos (by kernel_rfl)]
  refine copy_wp (.tmp 4) (.tmp 6) rfl h1 0 32 32 (some ⟨p, k, none⟩) 32 (c - k) (by kernel_rfl) (by kernel_rfl) (bv Z32) 30 (unhide hk1) K (by rw [hl]; rfl) (.inr ⟨p, k, rfl, unhide hat⟩) (by rw [hl]; decide) ?_
  have hcell := laid (S := K) (o := 0) (unhide hk1) (by rw [hl]; decide)
  rw [lay_all _ _ (by rw [hl]; rfl)] at hcell
  have hbt := setCells_bt (K.map (Value.int .u8)) u1 h1 0
  have hk0' := hbt.blk (unhide hk0) h01
  have hR2 := (unhide hR1).bt hbt hgn hpn
  have hb2 : Bt g w (u1.setCells h1 0 (K.map (Value.int .u8))) := by
    have hg0 := unhide hg0; have hb1 := unhide hb1
    exact ⟨hbt.os.trans (hb1.os.trans hg0.os), hbt.tape.trans (hb1.tape.trans hg0.tape), hbt.output.trans (hb1.output.trans hg0.output), Nat.le_trans hg0.size (Nat.le_trans hb1.size hbt.size), fun i hi hne => by
      have s1 := hg0.size; have s2 := hb1.size
      rw [hbt.block i (by omega) (by omega), hb1.block i (by omega) hne, hg0.block i hi]⟩
  generalize World.setCells _ _ _ _ = u2 at *
  replace hk0 := hide hk0'
  replace hk1 := hide hcell
  replace hR1 := hide hR2
  replace hb1 := hide hb2
  clear hat hk0' hcell hR2 hb2 hbt hg0
  rw [hl]
  refine hQ.out _ _ trivial (fun _ => ?_)
  clear hQ K_
  simp only [Act.put, List.setIfInBounds_toArray, List.set_cons_zero, List.set_cons_succ, List.getElem_toArray, List.getElem_cons_zero, List.getElem_cons_succ]
  refine any_done (by kernel_rfl) ?_
  go_upto_region 3 with fail
  refine wp_region_lit ?_
  refine list_val (.agg (kc K)) (by kernel_rfl) (exec_arr _ 30 (.tmp 3) rfl h1 (by kernel_rfl) (kc K) 30 _ (unhide hk1) Try.underlying30 rfl (by rw [Try.infoKy, kc_size, hl])) ?_
  simp only [Act.put, List.setIfInBounds_toArray, List.set_cons_zero, List.set_cons_succ, List.getElem_toArray, List.getElem_cons_zero, List.getElem_cons_succ]
  refine list_store 30 (.tmp 2) (.tmp 8) h0 (kc K) 30 (kc Z32) (by kernel_rfl) rfl (by kernel_rfl) (by kernel_rfl) (unhide hk0) (by rw [Try.infoKy, kc_size, hl]) (by rw [kc_size, kc_size, hl]; rfl) (kc_one _) ?_
  have hbt := setRow_bt u2 h0 (kc K)
  have hk := setRow_heap u2 h0 _ (kc K) 30 (0, 0) (unhide hk0)
  have hP : Hid (T (.returned (.agg (kc K))) (u2.setRow h0 (kc K))) := by
    rw [unhide hT]
    refine ⟨rfl, (unhide hR1).bt hbt hgn0 hpn0, ?_⟩
    have hb1 := unhide hb1
    exact ⟨hbt.os.trans hb1.os, hbt.tape.trans hb1.tape, hbt.output.trans hb1.output, Nat.le_trans hb1.size hbt.size, fun i hi hne => by
      have s2 := hb1.size
      rw [hbt.block i (by omega) (by omega), hb1.block i hi hne]⟩
  generalize World.setRow _ _ _ = u3 at *
  replace hk := hide hk
  clear hbt
  simp only [Act.put, List.setIfInBounds_toArray, List.set_cons_zero, List.set_cons_succ, List.getElem_toArray, List.getElem_cons_zero, List.getElem_cons_succ]
  refine wpList_nil ?_
  go_wp2_with fail
  exact bodyPost_ret (v := .agg (kc K)) (results_cell_row Try.results24 _ _ h0 30 (kc K) (0, 0) _ rfl (unhide hk) Try.underlying30 rfl (by rw [Try.infoKy, kc_size, hl])) rfl (unhide hP)
end Go.Proofs.Ytiejdpodffkdpaa
