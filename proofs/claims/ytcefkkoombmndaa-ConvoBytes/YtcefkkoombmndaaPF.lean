/-
  Get.
-/
import Derived.Test.YtcefkkoombmndaaPE
namespace Go.Proofs.Ytcefkkoombmndaa
open Go.RowKit
set_option maxRecDepth 100000
set_option linter.unusedSimpArgs false
set_option linter.unusedVariables false
theorem Unl.step {l m : List Int} {k : Nat} {u x y : Int} (h : Unl l m k u) (hl : k < l.length) (hm : k < m.length) (hx : x = l.getD k 0) (hy : y = m.getD k 0) (bl : IsB l) (bm : IsB m) :
    Unl l m (k + 1) (bits .or .u8 u (bits .xor .u8 x y)) := by
  subst hx; subst hy
  have := or_xor u _ _ h.1 (bl.at_ k) (bm.at_ k)
  refine ⟨this.1, ?_⟩
  rw [this.2, take_eq_step l m k hl hm, h.2]
set_option maxHeartbeats 1000000 in
theorem oequal_ok (l m : List Int) (a a' : Option Addr) (n c c' : Nat) (hn : n ≤ 281474976710656) (w : World) (la : Lb w a n c l) (lb : Lb w a' n c' m) :
    Calls Try.prog 47 #[.slice a n c, .slice a' n c'] w (fun e w' => e = .returned (.bool (decide (l = m))) ∧ w' = w) := by
  have hl := hide la.len
  have hm := hide lb.len
  replace la := hide la
  replace lb := hide lb
  go_enter Try.func47, Try.ntmps47
  go_wp2_with fail
  go_loopw [5, 15] (fun x i wr => ∃ (k : Nat) (u : Int), k ≤ n ∧ i = .int .i64 k ∧ x = .int .u8 u ∧ Hid (Unl l m k u) ∧ wr = w) (fun _ i _ => n - (intOf i).toNat)
  case atStart => exact ⟨0, 0, Nat.zero_le _, rfl, rfl, (⟨by omega, by simp⟩ : Unl l m 0 0), rfl⟩
  case round =>
  obtain ⟨k, u, hk, rfl, rfl, hU, rfl⟩ := hrel
  by_cases hlt : k < n
  · obtain ⟨p, o, rfl, c0⟩ : ∃ p o, a = some ⟨p, o, none⟩ ∧ wr.cell? ⟨p, o + k, none⟩ = some (.int .u8 (l.getD k 0)) := by
      rcases (unhide la).sl with h | ⟨p, o, h1, h2⟩
      · have := unhide hl
        rw [h] at this
        simp at this
        omega
      · exact ⟨p, o, h1, h2 k (by rw [unhide hl]; exact hlt)⟩
    obtain ⟨p', o', rfl, c1⟩ : ∃ p o, a' = some ⟨p, o, none⟩ ∧ wr.cell? ⟨p, o + k, none⟩ = some (.int .u8 (m.getD k 0)) := by
      rcases (unhide lb).sl with h | ⟨p, o, h1, h2⟩
      · have := unhide hm
        rw [h] at this
        simp at this
        omega
      · exact ⟨p, o, h1, h2 k (by rw [unhide hm]; exact hlt)⟩
    obtain ⟨x, hx⟩ : ∃ x, x = l.getD k 0 := ⟨_, rfl⟩
    obtain ⟨y, hy⟩ : ∃ y, y = m.getD k 0 := ⟨_, rfl⟩
    rw [← hx] at c0
    rw [← hy] at c1
    have HS := hide ((unhide hU).step (by rw [unhide hl]; exact hlt) (by rw [unhide hm]; exact hlt) hx hy (unhide la).isB (unhide lb).isB)
    clear hx hy hU
    have kI : (k : Int) < (n : Int) := by omega
    go_wp2_with fail
    go_roundw
    case rel => exact ⟨k + 1, _, by omega, by go_num, rfl, HS, trivial⟩
    case measure => simp [intOf]; omega
  · have kI : ¬ (k : Int) < (n : Int) := by omega
    have e : l.take k = l ∧ m.take k = m := ⟨List.take_of_length_le (by rw [unhide hl]; omega), List.take_of_length_le (by rw [unhide hm]; omega)⟩
    have hU2 := (unhide hU).2
    rw [e.1, e.2] at hU2
    have HU := hide (show (u == 0) = decide (l = m) by rw [Bool.eq_iff_iff]; simpa using hU2)
    clear hU hU2 e
    go_wp2_with fail
    refine bodyPost_ret (v := .bool (u == 0)) (by simp [results, Try.results47, go_sem]) rfl ⟨?_, rfl⟩
    rw [unhide HU]
theorem Bl.btn {w u v : World} {L : List Blk} {g : Nat} (h : Bl w L u) (m : Bt g u v) (hg : w.heap.size ≤ g) {C : Array Value} {t : TypeId} (hC : u.heap[g]? = some (.cells C t (0, 0))) (ht : ∀ y ∈ L, y.t ≠ t) : Bl w L v :=
  ⟨⟨m.os.trans h.gr.os, m.tape.trans h.gr.tape, m.output.trans h.gr.output, Nat.le_trans h.gr.size m.size, fun i hi => (m.block i (Nat.lt_of_lt_of_le hi h.gr.size) (by omega)).trans (h.gr.block i hi)⟩,
   fun y hy => ⟨by
    have h1 := (h.at_ y hy).1
    exact m.blk h1 (fun e => by
      rw [e, hC] at h1
      injection h1 with h1
      unfold Blk.obj at h1
      injection h1 with _ h1 _
      exact ht y hy h1.symm), (h.at_ y hy).2⟩, h.ne⟩
theorem rdC_nums {L : List Int} (hl : L.length = 590) (hb : IsB L) : Nums (rdC L) := by
  have h0 := low4 hb 0 (by omega)
  rw [List.drop_zero] at h0
  have h5 := hb.at_ 5
  refine ⟨fun s hs => rdO_ok hl hb _ s (List.mem_of_mem_take hs), fun t ht => ?_, h0, ⟨?_, ?_⟩, low4 hb 426 (by omega)⟩
  · obtain ⟨i, hi, rfl⟩ := List.mem_map.1 ht
    have hi := List.mem_range.1 hi
    unfold rdM at hi
    exact inA_ok hb _ (by omega)
  · show -9223372036854775808 ≤ L.getD 5 0
    omega
  · show L.getD 5 0 < 9223372036854775808
    omega
/-- what Get answers -/
def gtM (L : List Int) : Cm × Int := if L.length = 590 then (if rt (rdC L) = true ∧ putL (rdC L) = L then (rdC L, 0) else (cz, 281)) else (cz, 240)
theorem putL_len {c : Cm} (h : rt c = true) (hO : ∀ s ∈ c.O, s.Ok) : (putL c).length = 590 := by
  have h1 := rt_le h
  have h2 := rises_sz _ _ _ (rt_rises h)
  have h3 : ∀ t ∈ fil3 c.H, t.s.size ≤ 48 := fun t ht => by
    unfold fil3 at ht
    rcases List.mem_append.1 ht with ht | ht
    · exact h2 t ht
    · obtain ⟨_, rfl⟩ := List.mem_replicate.1 ht
      decide
  have h4 := hel_len h3
  rw [fil3_len h1.2.2] at h4
  unfold putL
  simp only [List.length_append, lowL_len, bodL_len hO (Nat.le_refl _) h1.2.1.1, h4, List.length_cons, List.length_nil]
theorem putL_isB {c : Cm} (h : rt c = true) (hO : ∀ s ∈ c.O, s.Ok) : IsB (putL c) := by
  have h1 := rt_le h
  have h2 := rises_sz _ _ _ (rt_rises h)
  have h3 : ∀ t ∈ fil3 c.H, t.s.size ≤ 48 := fun t ht => by
    unfold fil3 at ht
    rcases List.mem_append.1 ht with ht | ht
    · exact h2 t ht
    · obtain ⟨_, rfl⟩ := List.mem_replicate.1 ht
      decide
  unfold putL
  exact isB_app (lowL_isB _ _) (isB_app (isB_2 (by omega) (by omega)) (isB_app (bodL_isB hO _) (isB_app (lowL_isB _ _) (isB_app (isB_1 (by omega)) (hel_isB h3)))))
set_option maxHeartbeats 4000000 in
theorem cget_ok (L : List Int) (a : Option Addr) (n c : Nat) (hn9 : n ≤ 100000) (w : World) (lb : Lb w a n c L) : Calls Try.prog 30 #[.slice a n c] w (fun r_ w' => ∃ x', r_ = .returned (.tuple #[.agg (fl (cvs (gtM L).1 x')), .int .i64 (gtM L).2]) ∧ Cin w' (gtM L).1 x' ∧ Owx w.heap.size w' x' ∧ Gr w w') := by
  obtain ⟨T, hT⟩ : ∃ T : Ending → World → Prop, T = (fun r_ w' => ∃ x', r_ = .returned (.tuple #[.agg (fl (cvs (gtM L).1 x')), .int .i64 (gtM L).2]) ∧ Cin w' (gtM L).1 x' ∧ Owx w.heap.size w' x' ∧ Gr w w') := ⟨_, rfl⟩
  rw [← hT]
  replace hT := hide hT
  have hLl := lb.len
  have hLB := hide lb.isB
  replace lb := hide lb
  go_enter Try.func30, Try.ntmps30
  go_upto_region 1 with fail
  have hB := ((Bl.nil w).new (fl [[.int .u32 0], [.slice none 0 0], [.int .i64 0], [.int .u32 0], [.slice none 0 0]]) 26)
  simp only [size_alloc, List.nil_append, List.cons_append] at hB
  generalize hu_ : World.alloc _ _ = u0
  replace hB : Bl w [⟨w.heap.size, fl [[.int .u32 0], [.slice none 0 0], [.int .i64 0], [.int .u32 0], [.slice none 0 0]], 26⟩] u0 := by
    rw [← hu_]
    exact hB
  clear hu_
  by_cases h1 : n = 590
  · subst h1
    obtain ⟨p0, o0, rfl⟩ : ∃ p o, a = some ⟨p, o, none⟩ := by
      rcases (unhide lb).sl with h | ⟨p, o, h, _⟩
      · rw [h] at hLl; cases hLl
      · exact ⟨p, o, h⟩
    refine wp_region_lit ?_
    refine lvk (.slice (some ⟨p0, o0, none⟩) 590 c) ?_
    simp only [nrm]
    refine lvk (.int .i64 590) ?_
    simp only [nrm]
    refine list_val (.bool false) (by kernel_rfl) (neq_i _ (.tmp 8) (.const (.int .i64 590)) 590 590 false rfl (by kernel_rfl) (by kernel_rfl) (by decide)) ?_
    simp only [nrm]
    refine wpList_nil ?_
    replace hB := hide hB
    go_upto_region 3 with fail
    replace hB := unhide hB
    refine wp_region_lit ?_
    refine lvk (.slice (some ⟨p0, o0, none⟩) 590 c) ?_
    simp only [nrm]
    refine list_call 46 #[.slice (some ⟨p0, o0, none⟩) 590 c] (by kernel_rfl) (by kernel_rfl) ((oreadt_ok L p0 o0 590 c u0 ((unhide lb).gr hB.gr) (by omega) (by omega)).mono ?_)
    rintro r_ u1 ⟨g, p, c5, rfl, hge, hpe, hrd, hcur, hg⟩
    rw [hLl] at hrd
    have hgw : w.heap.size ≤ g := Nat.le_trans hB.gr.size hge
    clear hge hpe hcur
    replace hB := hB.more hg
    clear hg
    refine ⟨_, rfl, ?_⟩
    simp only [nrm]
    refine list_call 45 #[P0 g] (by kernel_rfl) (by kernel_rfl) ((cread_ok g p c5 L u1 hrd).mono ?_)
    rintro r_ u2 ⟨x1, rfl, hOw, hbt⟩
    obtain ⟨e, he⟩ : ∃ e, e = rdC L := ⟨_, rfl⟩
    have hnm := rdC_nums hLl (unhide hLB)
    rw [← he] at hOw hnm
    rw [← he]
    have hC1 := hide (show Co w.heap.size u2 e x1 from ⟨hOw.cin hnm, ⟨hOw.owx.o.base hB.gr.size, hOw.owx.h.base hB.gr.size⟩⟩)
    replace hB := hB.btn hbt hgw hrd.cel (by intro y_ hy_; simp only [List.mem_cons, List.not_mem_nil, or_false] at hy_; rcases hy_ with rfl <;> (dsimp only; decide))
    clear hbt hgw hrd hOw
    replace he := hide he; replace hnm := hide hnm
    refine ⟨_, rfl, ?_⟩
    simp only [nrm]
    refine list_valw (.pointer (some ⟨u2.heap.size, 0, none⟩)) (u2.alloc (.cells (fl [[.int .u32 0], [.slice none 0 0], [.int .i64 0], [.int .u32 0], [.slice none 0 0]]) 26 (0, 0))) (by kernel_rfl) (by kernel_rfl) ?_
    replace hB := hB.new (fl [[.int .u32 0], [.slice none 0 0], [.int .i64 0], [.int .u32 0], [.slice none 0 0]]) 26
    simp only [List.nil_append, List.cons_append] at hB
    have hg := (Gr.refl u2).alloc (.cells (fl [[.int .u32 0], [.slice none 0 0], [.int .i64 0], [.int .u32 0], [.slice none 0 0]]) 26 (0, 0))
    replace hC1 := hide ((unhide hC1).gr hg)
    clear hg
    generalize World.alloc _ _ = u3 at *
    generalize u2.heap.size = g4 at *
    simp only [nrm]
    have hzz_ : Hid (u3.heap[g4]? = some (.cells (fl [[.int .u32 0], [.slice none 0 0], [.int .i64 0], [.int .u32 0], [.slice none 0 0]]) 26 (0, 0))) := hide (hB.get 1 (x := ⟨g4, fl [[.int .u32 0], [.slice none 0 0], [.int .i64 0], [.int .u32 0], [.slice none 0 0]], 26⟩) rfl)
    refine list_all 26 (.tmp 4) (.tmp 13) (g4) (S2 := [[.int .u32 e.nx], [.slice x1.ao x1.no x1.co], [.int .i64 e.tn], [.int .u32 e.dl], [.slice x1.ah x1.nh x1.ch]]) (by kernel_rfl) rfl (by kernel_rfl) (by kernel_rfl) hB 1 rfl NC (nC  _ _ _ _ _) (nC  _ _ _ _ _) (by kernel_rfl) (oC  rfl rfl rfl rfl rfl) ?_
    intro u4 hB_ hbt_
    clear hB
    replace hB : Bl w [⟨w.heap.size, fl [[.int .u32 0], [.slice none 0 0], [.int .i64 0], [.int .u32 0], [.slice none 0 0]], 26⟩, ⟨g4, fl [[.int .u32 e.nx], [.slice x1.ao x1.no x1.co], [.int .i64 e.tn], [.int .u32 e.dl], [.slice x1.ah x1.nh x1.ch]], 26⟩] u4 := hB_
    clear hB_
    replace hC1 := hide ((unhide hC1).bz (unhide hzz_) hbt_)
    clear hbt_ hzz_
    simp only [nrm]
    refine wpList_nil ?_
    obtain ⟨P, hP⟩ : ∃ P, P = (if rt e = true then putL e else []) := ⟨_, rfl⟩
    replace hP := hide hP
    cases h2 : rt e with
    | false =>
      replace hB := hide hB
      go_upto_region 4 with fail
      replace hB := unhide hB
      refine wp_region_lit ?_
      refine list_val (.agg (fl [[.int .u32 e.nx], [.slice x1.ao x1.no x1.co], [.int .i64 e.tn], [.int .u32 e.dl], [.slice x1.ah x1.nh x1.ch]])) (by kernel_rfl) (exec_sw _ 26 (.tmp 4) rfl (g4) (by kernel_rfl) (hB.get 1 (x := ⟨g4, fl [[.int .u32 e.nx], [.slice x1.ao x1.no x1.co], [.int .i64 e.tn], [.int .u32 e.dl], [.slice x1.ah x1.nh x1.ch]], 26⟩) rfl) NC (nC  _ _ _ _ _) Try.underlying26 rfl (by kernel_rfl)) ?_
      simp only [nrm]
      refine list_call 27 #[.agg (fl [[.int .u32 e.nx], [.slice x1.ao x1.no x1.co], [.int .i64 e.tn], [.int .u32 e.dl], [.slice x1.ah x1.nh x1.ch]])] (by kernel_rfl) (by kernel_rfl) (((show Calls Try.prog 27 #[.agg (fl [[.int .u32 e.nx], [.slice x1.ao x1.no x1.co], [.int .i64 e.tn], [.int .u32 e.dl], [.slice x1.ah x1.nh x1.ch]])] u4 (fun r w' => ∃ v, r = .returned (.tuple #[v, .int .i64 281]) ∧ Ob w.heap.size w' v P ∧ Gr u4 w') from by have h := cput_ok e x1 u4 (unhide hC1).i; rw [← unhide hP] at h; exact h.mono fun r w' h9 => (by obtain ⟨v, h1, h3, h4⟩ := h9; exact ⟨v, by rw [h1, h2]; rfl, ob_base h3 hB.gr.size, h4⟩))).mono ?_)
      rintro r_ u5 ⟨v1, rfl, hO, hg⟩
      replace hC1 := hide ((unhide hC1).gr hg)
      replace hB := hB.more hg
      clear hg
      replace hO := hide hO
      refine ⟨_, rfl, ?_⟩
      simp only [nrm]
      refine lvk (.tuple #[v1, .int .i64 281]) ?_
      simp only [nrm]
      refine lvk (v1) ?_
      simp only [nrm]
      refine lvk (.int .i64 281) ?_
      simp only [nrm]
      (refine wpList_step fun K hK => ?_; replace hK := hide hK; go_simp; refine unhide hK _ _ ?_; clear hK K)
      (refine wpList_step fun K hK => ?_; replace hK := hide hK; go_simp; refine unhide hK _ _ ?_; clear hK K)
      refine wpList_nil ?_
      replace hB := hide hB
      go_upto_region 5 with fail
      replace hB := unhide hB
      refine wp_region_lit ?_
      refine wpList_gen fun ops_ hops => ?_
      replace hops := hide hops
      refine list_val (.int .i64 281) (by rw [unhide hops]; kernel_rfl) (by kernel_rfl) ?_
      simp only [nrm]
      refine list_val (.bool true) (by rw [unhide hops]; kernel_rfl) (neq_e _ (.tmp 19) (.const (.int .i64 0)) 281 0 true rfl (by kernel_rfl) (by kernel_rfl) (by decide)) ?_
      simp only [nrm]
      refine list_val (.bool true) (by rw [unhide hops]; kernel_rfl) (by kernel_rfl) ?_
      simp only [nrm]
      refine list_off (by rw [unhide hops]; kernel_rfl) ?_
      simp only [nrm]
      refine list_off (by rw [unhide hops]; kernel_rfl) ?_
      simp only [nrm]
      refine list_off (by rw [unhide hops]; kernel_rfl) ?_
      simp only [nrm]
      refine list_off (by rw [unhide hops]; kernel_rfl) ?_
      simp only [nrm]
      refine list_val (.bool true) (by rw [unhide hops]; kernel_rfl) (by kernel_rfl) ?_
      simp only [nrm]
      refine wpList_nil ?_
      replace hB := hide hB
      go_upto_region 6 with fail
      replace hB := unhide hB
      refine wp_region_lit ?_
      refine list_val (.agg (fl [[.int .u32 0], [.slice none 0 0], [.int .i64 0], [.int .u32 0], [.slice none 0 0]])) (by kernel_rfl) (bC _ rfl) ?_
      simp only [nrm]
      have hzz_ : Hid (u5.heap[w.heap.size]? = some (.cells (fl [[.int .u32 0], [.slice none 0 0], [.int .i64 0], [.int .u32 0], [.slice none 0 0]]) 26 (0, 0))) := hide (hB.get 0 (x := ⟨w.heap.size, fl [[.int .u32 0], [.slice none 0 0], [.int .i64 0], [.int .u32 0], [.slice none 0 0]], 26⟩) rfl)
      refine list_all 26 (.tmp 2) (.tmp 27) (w.heap.size) (S2 := [[.int .u32 0], [.slice none 0 0], [.int .i64 0], [.int .u32 0], [.slice none 0 0]]) (by kernel_rfl) rfl (by kernel_rfl) (by kernel_rfl) hB 0 rfl NC (nC  _ _ _ _ _) (nC  _ _ _ _ _) (by kernel_rfl) (oC  rfl rfl rfl rfl rfl) ?_
      intro u6 hB_ hbt_
      clear hB
      replace hB : Bl w [⟨w.heap.size, fl [[.int .u32 0], [.slice none 0 0], [.int .i64 0], [.int .u32 0], [.slice none 0 0]], 26⟩, ⟨g4, fl [[.int .u32 e.nx], [.slice x1.ao x1.no x1.co], [.int .i64 e.tn], [.int .u32 e.dl], [.slice x1.ah x1.nh x1.ch]], 26⟩] u6 := hB_
      clear hB_
      replace hC1 := hide ((unhide hC1).bz (unhide hzz_) hbt_)
      replace hO := hide ((unhide hO).bz (unhide hzz_) hbt_)
      clear hbt_ hzz_
      simp only [nrm]
      (refine wpList_step fun K hK => ?_; replace hK := hide hK; go_simp; refine unhide hK _ _ ?_; clear hK K)
      refine wpList_nil ?_
      replace hB := hide hB
      go_wp2_with fail
      replace hB := unhide hB
      rw [unhide hT]
      rw [show gtM L = (cz, 281) from by unfold gtM; rw [if_pos hLl, if_neg (by rw [← unhide he]; intro h9; rw [h2] at h9; exact absurd h9.1 (by decide))]]
      exact bodyPost_ret (v := .tuple #[.agg (fl [[.int .u32 0], [.slice none 0 0], [.int .i64 0], [.int .u32 0], [.slice none 0 0]]), .int .i64 281]) (res2 Try.results30 (rv_cell (by kernel_rfl) (hB.get 0 (x := ⟨w.heap.size, fl [[.int .u32 0], [.slice none 0 0], [.int .i64 0], [.int .u32 0], [.slice none 0 0]], 26⟩) rfl) Try.underlying26 rfl (by rw [fl_size (nC  _ _ _ _ _)]; kernel_rfl)) (rv_tmp (by kernel_rfl))) rfl (⟨xz, rfl, cin_z _, owx_z _ _, hB.gr⟩)
    | true =>
      replace hB := hide hB
      go_upto_region 4 with fail
      replace hB := unhide hB
      refine wp_region_lit ?_
      refine list_val (.agg (fl [[.int .u32 e.nx], [.slice x1.ao x1.no x1.co], [.int .i64 e.tn], [.int .u32 e.dl], [.slice x1.ah x1.nh x1.ch]])) (by kernel_rfl) (exec_sw _ 26 (.tmp 4) rfl (g4) (by kernel_rfl) (hB.get 1 (x := ⟨g4, fl [[.int .u32 e.nx], [.slice x1.ao x1.no x1.co], [.int .i64 e.tn], [.int .u32 e.dl], [.slice x1.ah x1.nh x1.ch]], 26⟩) rfl) NC (nC  _ _ _ _ _) Try.underlying26 rfl (by kernel_rfl)) ?_
      simp only [nrm]
      refine list_call 27 #[.agg (fl [[.int .u32 e.nx], [.slice x1.ao x1.no x1.co], [.int .i64 e.tn], [.int .u32 e.dl], [.slice x1.ah x1.nh x1.ch]])] (by kernel_rfl) (by kernel_rfl) (((show Calls Try.prog 27 #[.agg (fl [[.int .u32 e.nx], [.slice x1.ao x1.no x1.co], [.int .i64 e.tn], [.int .u32 e.dl], [.slice x1.ah x1.nh x1.ch]])] u4 (fun r w' => ∃ v, r = .returned (.tuple #[v, .int .i64 0]) ∧ Ob w.heap.size w' v P ∧ Gr u4 w') from by have h := cput_ok e x1 u4 (unhide hC1).i; rw [← unhide hP] at h; exact h.mono fun r w' h9 => (by obtain ⟨v, h1, h3, h4⟩ := h9; exact ⟨v, by rw [h1, h2]; rfl, ob_base h3 hB.gr.size, h4⟩))).mono ?_)
      rintro r_ u5 ⟨v1, rfl, hO, hg⟩
      replace hC1 := hide ((unhide hC1).gr hg)
      replace hB := hB.more hg
      clear hg
      replace hO := hide hO
      refine ⟨_, rfl, ?_⟩
      simp only [nrm]
      refine lvk (.tuple #[v1, .int .i64 0]) ?_
      simp only [nrm]
      refine lvk (v1) ?_
      simp only [nrm]
      refine lvk (.int .i64 0) ?_
      simp only [nrm]
      (refine wpList_step fun K hK => ?_; replace hK := hide hK; go_simp; refine unhide hK _ _ ?_; clear hK K)
      (refine wpList_step fun K hK => ?_; replace hK := hide hK; go_simp; refine unhide hK _ _ ?_; clear hK K)
      refine wpList_nil ?_
      have hP2 : P = putL e := by rw [unhide hP, if_pos h2]
      have hPl : P.length = 590 := by rw [hP2]; exact putL_len h2 (unhide hnm).O
      have hPB : IsB P := by rw [hP2]; exact putL_isB h2 (unhide hnm).O
      obtain ⟨a2, c2, rfl, -⟩ := ob_lb (unhide hO) hPB hPl
      replace hPB := hide hPB; replace hP2 := hide hP2
      by_cases h3 : P = L
      · replace h3 := hide h3
        replace hB := hide hB
        go_upto_region 5 with fail
        replace hB := unhide hB
        refine wp_region_lit ?_
        refine wpList_gen fun ops_ hops => ?_
        replace hops := hide hops
        refine list_val (.int .i64 0) (by rw [unhide hops]; kernel_rfl) (by kernel_rfl) ?_
        simp only [nrm]
        refine list_val (.bool false) (by rw [unhide hops]; kernel_rfl) (neq_e _ (.tmp 19) (.const (.int .i64 0)) 0 0 false rfl (by kernel_rfl) (by kernel_rfl) (by decide)) ?_
        simp only [nrm]
        refine list_val (.bool false) (by rw [unhide hops]; kernel_rfl) (by kernel_rfl) ?_
        simp only [nrm]
        refine list_val (.slice a2 590 c2) (by rw [unhide hops]; kernel_rfl) (by kernel_rfl) ?_
        simp only [nrm]
        refine list_val (.slice (some ⟨p0, o0, none⟩) 590 c) (by rw [unhide hops]; kernel_rfl) (by kernel_rfl) ?_
        simp only [nrm]
        refine list_call 47 #[.slice a2 590 c2, .slice (some ⟨p0, o0, none⟩) 590 c] (by rw [unhide hops]; kernel_rfl) (by kernel_rfl) (((show Calls Try.prog 47 #[.slice a2 590 c2, .slice (some ⟨p0, o0, none⟩) 590 c] u5 (Vl (.bool true) u5) from by have h := oequal_ok P L a2 (some ⟨p0, o0, none⟩) 590 c2 c (by omega) u5 (ob_lb2 (unhide hO) (unhide hPB) hPl) ((unhide lb).gr hB.gr); rw [decide_eq_true (unhide h3)] at h; exact h.mono fun r w' h9 => (by obtain ⟨h1, h2⟩ := h9; subst h2; exact ⟨h1, Gr.refl _⟩))).mono ?_)
        rintro r_ u6 ⟨rfl, hg⟩
        replace hC1 := hide ((unhide hC1).gr hg)
        replace hO := hide ((unhide hO).gr hg)
        replace hB := hB.more hg
        clear hg
        refine ⟨_, rfl, ?_⟩
        simp only [nrm]
        refine list_val (.bool false) (by rw [unhide hops]; kernel_rfl) (by kernel_rfl) ?_
        simp only [nrm]
        refine list_val (.bool false) (by rw [unhide hops]; kernel_rfl) (by kernel_rfl) ?_
        simp only [nrm]
        refine wpList_nil ?_
        replace hB := hide hB
        go_upto_region 7 with fail
        replace hB := unhide hB
        refine wp_region_lit ?_
        refine list_val (.agg (fl [[.int .u32 e.nx], [.slice x1.ao x1.no x1.co], [.int .i64 e.tn], [.int .u32 e.dl], [.slice x1.ah x1.nh x1.ch]])) (by kernel_rfl) (exec_sw _ 26 (.tmp 4) rfl (g4) (by kernel_rfl) (hB.get 1 (x := ⟨g4, fl [[.int .u32 e.nx], [.slice x1.ao x1.no x1.co], [.int .i64 e.tn], [.int .u32 e.dl], [.slice x1.ah x1.nh x1.ch]], 26⟩) rfl) NC (nC  _ _ _ _ _) Try.underlying26 rfl (by kernel_rfl)) ?_
        simp only [nrm]
        have hzz_ : Hid (u6.heap[w.heap.size]? = some (.cells (fl [[.int .u32 0], [.slice none 0 0], [.int .i64 0], [.int .u32 0], [.slice none 0 0]]) 26 (0, 0))) := hide (hB.get 0 (x := ⟨w.heap.size, fl [[.int .u32 0], [.slice none 0 0], [.int .i64 0], [.int .u32 0], [.slice none 0 0]], 26⟩) rfl)
        refine list_all 26 (.tmp 2) (.tmp 28) (w.heap.size) (S2 := [[.int .u32 e.nx], [.slice x1.ao x1.no x1.co], [.int .i64 e.tn], [.int .u32 e.dl], [.slice x1.ah x1.nh x1.ch]]) (by kernel_rfl) rfl (by kernel_rfl) (by kernel_rfl) hB 0 rfl NC (nC  _ _ _ _ _) (nC  _ _ _ _ _) (by kernel_rfl) (oC  rfl rfl rfl rfl rfl) ?_
        intro u7 hB_ hbt_
        clear hB
        replace hB : Bl w [⟨w.heap.size, fl [[.int .u32 e.nx], [.slice x1.ao x1.no x1.co], [.int .i64 e.tn], [.int .u32 e.dl], [.slice x1.ah x1.nh x1.ch]], 26⟩, ⟨g4, fl [[.int .u32 e.nx], [.slice x1.ao x1.no x1.co], [.int .i64 e.tn], [.int .u32 e.dl], [.slice x1.ah x1.nh x1.ch]], 26⟩] u7 := hB_
        clear hB_
        replace hC1 := hide ((unhide hC1).bz (unhide hzz_) hbt_)
        replace hO := hide ((unhide hO).bz (unhide hzz_) hbt_)
        clear hbt_ hzz_
        simp only [nrm]
        (refine wpList_step fun K hK => ?_; replace hK := hide hK; go_simp; refine unhide hK _ _ ?_; clear hK K)
        refine wpList_nil ?_
        replace hB := hide hB
        go_wp2_with fail
        replace hB := unhide hB
        rw [unhide hT]
        rw [show gtM L = (e, 0) from by unfold gtM; rw [if_pos hLl, if_pos (by rw [← unhide he]; exact ⟨h2, (unhide hP2).symm.trans (unhide h3)⟩), ← unhide he]]
        exact bodyPost_ret (v := .tuple #[.agg (fl [[.int .u32 e.nx], [.slice x1.ao x1.no x1.co], [.int .i64 e.tn], [.int .u32 e.dl], [.slice x1.ah x1.nh x1.ch]]), .int .i64 0]) (res2 Try.results30 (rv_cell (by kernel_rfl) (hB.get 0 (x := ⟨w.heap.size, fl [[.int .u32 e.nx], [.slice x1.ao x1.no x1.co], [.int .i64 e.tn], [.int .u32 e.dl], [.slice x1.ah x1.nh x1.ch]], 26⟩) rfl) Try.underlying26 rfl (by rw [fl_size (nC  _ _ _ _ _)]; kernel_rfl)) (rv_tmp (by kernel_rfl))) rfl (⟨x1, rfl, (unhide hC1).i, (unhide hC1).o, hB.gr⟩)
      · replace h3 := hide h3
        replace hB := hide hB
        go_upto_region 5 with fail
        replace hB := unhide hB
        refine wp_region_lit ?_
        refine wpList_gen fun ops_ hops => ?_
        replace hops := hide hops
        refine list_val (.int .i64 0) (by rw [unhide hops]; kernel_rfl) (by kernel_rfl) ?_
        simp only [nrm]
        refine list_val (.bool false) (by rw [unhide hops]; kernel_rfl) (neq_e _ (.tmp 19) (.const (.int .i64 0)) 0 0 false rfl (by kernel_rfl) (by kernel_rfl) (by decide)) ?_
        simp only [nrm]
        refine list_val (.bool false) (by rw [unhide hops]; kernel_rfl) (by kernel_rfl) ?_
        simp only [nrm]
        refine list_val (.slice a2 590 c2) (by rw [unhide hops]; kernel_rfl) (by kernel_rfl) ?_
        simp only [nrm]
        refine list_val (.slice (some ⟨p0, o0, none⟩) 590 c) (by rw [unhide hops]; kernel_rfl) (by kernel_rfl) ?_
        simp only [nrm]
        refine list_call 47 #[.slice a2 590 c2, .slice (some ⟨p0, o0, none⟩) 590 c] (by rw [unhide hops]; kernel_rfl) (by kernel_rfl) (((show Calls Try.prog 47 #[.slice a2 590 c2, .slice (some ⟨p0, o0, none⟩) 590 c] u5 (Vl (.bool false) u5) from by have h := oequal_ok P L a2 (some ⟨p0, o0, none⟩) 590 c2 c (by omega) u5 (ob_lb2 (unhide hO) (unhide hPB) hPl) ((unhide lb).gr hB.gr); rw [decide_eq_false (unhide h3)] at h; exact h.mono fun r w' h9 => (by obtain ⟨h1, h2⟩ := h9; subst h2; exact ⟨h1, Gr.refl _⟩))).mono ?_)
        rintro r_ u6 ⟨rfl, hg⟩
        replace hC1 := hide ((unhide hC1).gr hg)
        replace hO := hide ((unhide hO).gr hg)
        replace hB := hB.more hg
        clear hg
        refine ⟨_, rfl, ?_⟩
        simp only [nrm]
        refine list_val (.bool true) (by rw [unhide hops]; kernel_rfl) (by kernel_rfl) ?_
        simp only [nrm]
        refine list_val (.bool true) (by rw [unhide hops]; kernel_rfl) (by kernel_rfl) ?_
        simp only [nrm]
        refine wpList_nil ?_
        replace hB := hide hB
        go_upto_region 6 with fail
        replace hB := unhide hB
        refine wp_region_lit ?_
        refine list_val (.agg (fl [[.int .u32 0], [.slice none 0 0], [.int .i64 0], [.int .u32 0], [.slice none 0 0]])) (by kernel_rfl) (bC _ rfl) ?_
        simp only [nrm]
        have hzz_ : Hid (u6.heap[w.heap.size]? = some (.cells (fl [[.int .u32 0], [.slice none 0 0], [.int .i64 0], [.int .u32 0], [.slice none 0 0]]) 26 (0, 0))) := hide (hB.get 0 (x := ⟨w.heap.size, fl [[.int .u32 0], [.slice none 0 0], [.int .i64 0], [.int .u32 0], [.slice none 0 0]], 26⟩) rfl)
        refine list_all 26 (.tmp 2) (.tmp 27) (w.heap.size) (S2 := [[.int .u32 0], [.slice none 0 0], [.int .i64 0], [.int .u32 0], [.slice none 0 0]]) (by kernel_rfl) rfl (by kernel_rfl) (by kernel_rfl) hB 0 rfl NC (nC  _ _ _ _ _) (nC  _ _ _ _ _) (by kernel_rfl) (oC  rfl rfl rfl rfl rfl) ?_
        intro u7 hB_ hbt_
        clear hB
        replace hB : Bl w [⟨w.heap.size, fl [[.int .u32 0], [.slice none 0 0], [.int .i64 0], [.int .u32 0], [.slice none 0 0]], 26⟩, ⟨g4, fl [[.int .u32 e.nx], [.slice x1.ao x1.no x1.co], [.int .i64 e.tn], [.int .u32 e.dl], [.slice x1.ah x1.nh x1.ch]], 26⟩] u7 := hB_
        clear hB_
        replace hC1 := hide ((unhide hC1).bz (unhide hzz_) hbt_)
        replace hO := hide ((unhide hO).bz (unhide hzz_) hbt_)
        clear hbt_ hzz_
        simp only [nrm]
        (refine wpList_step fun K hK => ?_; replace hK := hide hK; go_simp; refine unhide hK _ _ ?_; clear hK K)
        refine wpList_nil ?_
        replace hB := hide hB
        go_wp2_with fail
        replace hB := unhide hB
        rw [unhide hT]
        rw [show gtM L = (cz, 281) from by unfold gtM; rw [if_pos hLl, if_neg (by rw [← unhide he]; intro h9; exact absurd ((unhide hP2).trans h9.2) (unhide h3))]]
        exact bodyPost_ret (v := .tuple #[.agg (fl [[.int .u32 0], [.slice none 0 0], [.int .i64 0], [.int .u32 0], [.slice none 0 0]]), .int .i64 281]) (res2 Try.results30 (rv_cell (by kernel_rfl) (hB.get 0 (x := ⟨w.heap.size, fl [[.int .u32 0], [.slice none 0 0], [.int .i64 0], [.int .u32 0], [.slice none 0 0]], 26⟩) rfl) Try.underlying26 rfl (by rw [fl_size (nC  _ _ _ _ _)]; kernel_rfl)) (rv_tmp (by kernel_rfl))) rfl (⟨xz, rfl, cin_z _, owx_z _ _, hB.gr⟩)
  · have hne : (n : Int) ≠ 590 := by omega
    replace h1 := hide h1; replace hne := hide hne
    refine wp_region_lit ?_
    refine lvk (.slice a n c) ?_
    simp only [nrm]
    refine lvk (.int .i64 (n : Int)) ?_
    simp only [nrm]
    refine list_val (.bool true) (by kernel_rfl) (neq_i _ (.tmp 8) (.const (.int .i64 590)) (n : Int) 590 true rfl (by kernel_rfl) (by kernel_rfl) (decide_eq_true (unhide hne))) ?_
    simp only [nrm]
    refine wpList_nil ?_
    replace hB := hide hB
    go_upto_region 2 with fail
    replace hB := unhide hB
    refine wp_region_lit ?_
    refine list_val (.agg (fl [[.int .u32 0], [.slice none 0 0], [.int .i64 0], [.int .u32 0], [.slice none 0 0]])) (by kernel_rfl) (bC _ rfl) ?_
    simp only [nrm]
    refine list_all 26 (.tmp 2) (.tmp 10) (w.heap.size) (S2 := [[.int .u32 0], [.slice none 0 0], [.int .i64 0], [.int .u32 0], [.slice none 0 0]]) (by kernel_rfl) rfl (by kernel_rfl) (by kernel_rfl) hB 0 rfl NC (nC  _ _ _ _ _) (nC  _ _ _ _ _) (by kernel_rfl) (oC  rfl rfl rfl rfl rfl) ?_
    intro u1 hB_ hbt_
    clear hB
    replace hB : Bl w [⟨w.heap.size, fl [[.int .u32 0], [.slice none 0 0], [.int .i64 0], [.int .u32 0], [.slice none 0 0]], 26⟩] u1 := hB_
    clear hB_
    clear hbt_
    simp only [nrm]
    (refine wpList_step fun K hK => ?_; replace hK := hide hK; go_simp; refine unhide hK _ _ ?_; clear hK K)
    refine wpList_nil ?_
    replace hB := hide hB
    go_wp2_with fail
    replace hB := unhide hB
    rw [unhide hT]
    rw [show gtM L = (cz, 240) from by unfold gtM; rw [if_neg (by rw [hLl]; exact unhide h1)]]
    exact bodyPost_ret (v := .tuple #[.agg (fl [[.int .u32 0], [.slice none 0 0], [.int .i64 0], [.int .u32 0], [.slice none 0 0]]), .int .i64 240]) (res2 Try.results30 (rv_cell (by kernel_rfl) (hB.get 0 (x := ⟨w.heap.size, fl [[.int .u32 0], [.slice none 0 0], [.int .i64 0], [.int .u32 0], [.slice none 0 0]], 26⟩) rfl) Try.underlying26 rfl (by rw [fl_size (nC  _ _ _ _ _)]; kernel_rfl)) (rv_tmp (by kernel_rfl))) rfl (⟨xz, rfl, cin_z _, owx_z _ _, hB.gr⟩)
end Go.Proofs.Ytcefkkoombmndaa
