/-
  Layer 14: what octet's calls answer.
-/
import Derived.Test.YtcefkkoombmndaaFB
namespace Go.Proofs.Ytcefkkoombmndaa
open Go.RowKit
set_option maxRecDepth 100000
set_option linter.unusedSimpArgs false
set_option linter.unusedVariables false
def Ret (L : List Int) (w : World) (r : Ending) (w' : World) : Prop := ∃ g p c, r = .returned (.pointer (some ⟨g, 0, none⟩)) ∧ w.heap.size ≤ g ∧ w.heap.size ≤ p ∧ Rdr g p L.length c 0 L w' ∧ (∃ cur, w'.heap[p]? = some (.cells cur 5 (0, 0))) ∧ Gr w w'
set_option maxHeartbeats 4000000 in
theorem oreadt_ok (B : List Int) (p q n c : Nat) (w : World) (hB0 : Lb w (some ⟨p, q, none⟩) n c B) (hn : n ≤ 100000) (h0 : 0 < n) : Calls Try.prog 46 #[.slice (some ⟨p, q, none⟩) n c] w (Ret B w) := by
  obtain ⟨T, hT⟩ : ∃ T, T = Ret B w := ⟨_, rfl⟩
  rw [← hT]
  replace hT := hide hT
  replace hB0 := hide hB0
  go_enter Try.func46, Try.ntmps46
  go_upto_region 1 with fail
  refine wp_region_lit ?_
  refine list_val (.slice (some ⟨p, q, none⟩) n c) (by kernel_rfl) (by kernel_rfl) ?_
  simp only [Act.put, List.setIfInBounds_toArray, List.set_cons_zero, List.set_cons_succ, List.getElem_toArray, List.getElem_cons_zero, List.getElem_cons_succ]
  refine list_call 65 #[.slice (some ⟨p, q, none⟩) n c] (by kernel_rfl) (by kernel_rfl) ((clone_ok B p q n c w (unhide hB0) hn).mono ?_)
  rintro r u ⟨v, rfl, hO, hG⟩
  have hl := (unhide hB0).len
  obtain ⟨p2, c2, rfl, h1, h2, h3, h4, cur, h5⟩ := ob_at hO (by intro e; rw [e] at hl; simp at hl; omega)
  refine ⟨_, rfl, ?_⟩
  clear hO
  replace h2 := hide h2; replace h5 := hide h5; replace hG := hide hG
  rw [hl] at h3
  rw [hl]
  simp only [Act.put, List.setIfInBounds_toArray, List.set_cons_zero, List.set_cons_succ, List.getElem_toArray, List.getElem_cons_zero, List.getElem_cons_succ]
  refine list_val (.agg (rdr 0 p2 n c2)) (by kernel_rfl) (by kernel_rfl) ?_
  simp only [Act.put, List.setIfInBounds_toArray, List.set_cons_zero, List.set_cons_succ, List.getElem_toArray, List.getElem_cons_zero, List.getElem_cons_succ]
  refine list_valw (.pointer (some ⟨u.heap.size, 0, none⟩)) (u.alloc (.cells (rdr 0 p2 n c2) 100 (0, 0))) (by kernel_rfl) (by kernel_rfl) ?_
  have hZ : Hid (Ret B w (.returned (.pointer (some ⟨u.heap.size, 0, none⟩))) (u.alloc (.cells (rdr 0 p2 n c2) 100 (0, 0)))) := by
    have hg2 := (Gr.refl u).alloc (.cells (rdr 0 p2 n c2) 100 (0, 0))
    have hp := lt_of_block (unhide h5)
    show Ret B w _ _
    unfold Ret
    rw [hl]
    exact ⟨u.heap.size, p2, c2, rfl, (unhide hG).size, h1, ⟨blk_new _ _, fun j hj => hg2.cell (unhide h2 j hj), (fun e => by omega), hl, (unhide hB0).isB, h3, h4⟩, ⟨cur, hg2.blk (unhide h5)⟩, (unhide hG).trans hg2⟩
  generalize World.alloc _ _ = u2 at *
  simp only [Act.put, List.setIfInBounds_toArray, List.set_cons_zero, List.set_cons_succ, List.getElem_toArray, List.getElem_cons_zero, List.getElem_cons_succ]
  (refine wpList_step fun K hK => ?_; replace hK := hide hK; go_simp; refine unhide hK _ _ ?_; clear hK K)
  refine wpList_nil ?_
  go_wp2_with fail
  rw [unhide hT]
  exact unhide hZ
set_option maxHeartbeats 4000000 in
theorem put32g_ok (B : List Int) (s : Option Addr) (n cap : Nat) (x : Int) (hx : 0 ≤ x ∧ x < 4294967296) (hn : n ≤ 1000) (w : World) (lb : Lb w s n cap B) : Calls Try.prog 42 #[.slice s n cap, .int .u32 x] w (Mkd (B ++ lowL x 4) w) := by
  obtain ⟨T, hT⟩ : ∃ T, T = Mkd (B ++ lowL x 4) w := ⟨_, rfl⟩
  rw [← hT]
  replace hT := hide hT
  have hwx : IntKind.u64.wrap x = x := by rw [IntKind.wrap_u64]; omega
  obtain ⟨hx0, hx1⟩ := hx
  replace lb := hide lb
  go_enter Try.func42, Try.ntmps42
  go_upto_region 1 with fail
  refine wp_region_lit ?_
  refine list_val (.slice s n cap) (by kernel_rfl) (by kernel_rfl) ?_
  simp only [Act.put, List.setIfInBounds_toArray, List.set_cons_zero, List.set_cons_succ, List.getElem_toArray, List.getElem_cons_zero, List.getElem_cons_succ]
  refine list_val (.int .u32 x) (by kernel_rfl) (by kernel_rfl) ?_
  simp only [Act.put, List.setIfInBounds_toArray, List.set_cons_zero, List.set_cons_succ, List.getElem_toArray, List.getElem_cons_zero, List.getElem_cons_succ]
  refine list_val (.int .u64 x) (by kernel_rfl) (by go_simp) ?_
  simp only [Act.put, List.setIfInBounds_toArray, List.set_cons_zero, List.set_cons_succ, List.getElem_toArray, List.getElem_cons_zero, List.getElem_cons_succ]
  refine list_call 60 #[.slice s n cap, .int .u64 x, .int .i64 4] (by kernel_rfl) (by kernel_rfl) ((put4_ok B s n cap x hx0 hn w (unhide lb)).mono ?_)
  rintro r u hF
  obtain ⟨L, hL⟩ : ∃ L, L = B ++ lowL x 4 := ⟨_, rfl⟩
  rw [← hL] at hF hT
  obtain ⟨g, rfl, hg1, hg2, hg3⟩ := hF
  have hF : Hid (Mkd L w (.returned (.slice (some ⟨g, 0, none⟩) L.length L.length)) u) := ⟨g, rfl, hg1, hg2, hg3⟩
  refine ⟨_, rfl, ?_⟩
  clear hg1 hg2 hg3 hL
  generalize L.length = m at *
  simp only [Act.put, List.setIfInBounds_toArray, List.set_cons_zero, List.set_cons_succ, List.getElem_toArray, List.getElem_cons_zero, List.getElem_cons_succ]
  (refine wpList_step fun K hK => ?_; replace hK := hide hK; go_simp; refine unhide hK _ _ ?_; clear hK K)
  refine wpList_nil ?_
  go_wp2_with fail
  rw [unhide hT]
  exact unhide hF
/-- all noughts -/
def allZ (l : List Int) : Bool := decide (l = List.replicate l.length 0)
theorem rep_take (l : List Int) (k : Nat) (h : k < l.length) : l.take (k + 1) = (List.replicate l.length (0 : Int)).take (k + 1) ↔ l.take k = (List.replicate l.length (0 : Int)).take k ∧ l.getD k 0 = 0 := by
  rw [take_eq_step l _ k h (by simpa using h)]
  simp [h]
theorem u8_or_zero (u y : Int) (hu : 0 ≤ u ∧ u < 256) (hy : 0 ≤ y ∧ y < 256) : (0 ≤ bits .or .u8 u y ∧ bits .or .u8 u y < 256) ∧ (bits .or .u8 u y = 0 ↔ u = 0 ∧ y = 0) := by
  have h := or_xor u y 0 hu hy ⟨by omega, by omega⟩
  have e : bits .xor .u8 y 0 = y := by
    obtain ⟨n, rfl⟩ := Int.eq_ofNat_of_zero_le hy.1
    have := u8_xor_nat n 0 (by omega) (by omega)
    simpa using this
  rw [e] at h
  exact h
set_option maxHeartbeats 4000000 in
theorem get1_ok (x : Int) (p o c : Nat) (w : World) (lb : Lb w (some ⟨p, o, none⟩) 1 c [x]) : Calls Try.prog 70 #[.slice (some ⟨p, o, none⟩) 1 c] w (Vl (.int .u64 x) w) := by
  obtain ⟨T, hT⟩ : ∃ T, T = Vl (.int .u64 x) w := ⟨_, rfl⟩
  rw [← hT]
  replace hT := hide hT
  have hc1 := lb.cap
  have hc0 : ¬ c = 0 := by omega
  have hat : At w p o [x] := by
    rcases lb.sl with h | ⟨p', o', h1, h2⟩
    · cases h
    · have h3 := Option.some.inj h1
      injection h3 with h4 h5 _
      subst h4 h5
      exact h2
  have hxe : lowN [x] = x := by simp [lowN]
  replace lb := hide lb; replace hat := hide hat
  go_enter Try.func70, Try.ntmps70
  go_upto_region 1 with fail
  refine wp_region_lit ?_
  refine list_val (.slice (some ⟨p, o, none⟩) 1 c) (by kernel_rfl) (by kernel_rfl) ?_
  simp only [Act.put, List.setIfInBounds_toArray, List.set_cons_zero, List.set_cons_succ, List.getElem_toArray, List.getElem_cons_zero, List.getElem_cons_succ]
  refine list_val (.slice (some ⟨p, o, none⟩) 1 c) (by kernel_rfl) (by kernel_rfl) ?_
  simp only [Act.put, List.setIfInBounds_toArray, List.set_cons_zero, List.set_cons_succ, List.getElem_toArray, List.getElem_cons_zero, List.getElem_cons_succ]
  refine list_val (.int .i64 1) (by kernel_rfl) (by kernel_rfl) ?_
  simp only [Act.put, List.setIfInBounds_toArray, List.set_cons_zero, List.set_cons_succ, List.getElem_toArray, List.getElem_cons_zero, List.getElem_cons_succ]
  refine list_val (.int .i64 (1 : Nat)) (by kernel_rfl) (by kernel_rfl) ?_
  simp only [Act.put, List.setIfInBounds_toArray, List.set_cons_zero, List.set_cons_succ, List.getElem_toArray, List.getElem_cons_zero, List.getElem_cons_succ]
  refine list_val (.slice (if c = 0 then (some ⟨p, o, none⟩ : Option Addr) else (some ⟨p, o, none⟩ : Option Addr).map (·.add 0)) 1 c) (by kernel_rfl) (exec_upto w (.tmp 3) (.tmp 6) rfl (some ⟨p, o, none⟩) 1 c 1 rfl rfl hc1 (by omega)) ?_
  rw [if_neg hc0, Option.map_some, add_zero]
  simp only [Act.put, List.setIfInBounds_toArray, List.set_cons_zero, List.set_cons_succ, List.getElem_toArray, List.getElem_cons_zero, List.getElem_cons_succ]
  refine list_call 68 #[.slice (some ⟨p, o, none⟩) 1 c] (by kernel_rfl) (by kernel_rfl) ((onum_ok p o 1 c [x] w rfl (by omega) (unhide lb).isB (unhide hat)).mono ?_)
  rintro r u ⟨rfl, rfl⟩
  rw [hxe]
  refine ⟨_, rfl, ?_⟩
  simp only [Act.put, List.setIfInBounds_toArray, List.set_cons_zero, List.set_cons_succ, List.getElem_toArray, List.getElem_cons_zero, List.getElem_cons_succ]
  (refine wpList_step fun K hK => ?_; replace hK := hide hK; go_simp; refine unhide hK _ _ ?_; clear hK K)
  refine wpList_nil ?_
  have hZ : Hid (Vl (.int .u64 x) u (.returned (.int .u64 x)) u) := ⟨rfl, Gr.refl u⟩
  go_wp2_with fail
  rw [unhide hT]
  exact unhide hZ
def Z32 : List Int := List.replicate 32 0
end Go.Proofs.Ytcefkkoombmndaa
