/-
  Put.
-/
import Derived.Test.YtcefkkoombmndaaPB
import Derived.Test.YtcefkkoombmndaaUL
namespace Go.Proofs.Ytcefkkoombmndaa
open Go.RowKit
set_option maxRecDepth 100000
set_option linter.unusedSimpArgs false
set_option linter.unusedVariables false
/-- a conversation's bytes -/
def putL (c : Cm) : List Int := lowL c.nx 4 ++ ([(c.O.length : Int), c.tn] ++ (bodL c.O c.O.length ++ (lowL c.dl 4 ++ ([(c.H.length : Int)] ++ ((fil3 c.H).map inB).flatten))))
theorem Ob.bz {b g : Nat} {w v : World} {y : Value} {L : List Int} (h : Ob b w y L) {C : Array Value} {t : TypeId} (hg : w.heap[g]? = Option.some (Obj.cells C t (0, 0))) (m : Bt g w v) (h1 : t ≠ 5 := by decide) : Ob b v y L := ob_bt h hg h1 m
theorem lb_none (w : World) : Lb w none 0 0 [] := ⟨rfl, (fun x hx => by cases hx), .inl rfl, Nat.le_refl _, by omega⟩
theorem isB_1 {x : Int} (h : 0 ≤ x ∧ x < 256) : IsB [x] := fun y hy => by obtain rfl := List.mem_singleton.1 hy; exact h
theorem isB_2 {x y : Int} (h : 0 ≤ x ∧ x < 256) (k : 0 ≤ y ∧ y < 256) : IsB [x, y] := isB_app (A := [x]) (isB_1 h) (isB_1 k)
theorem exec_bsb2 {a : Act} {o : Oper} (w : World) (x y : Operand) (ho : o.op = .buildSlice 53 2 #[(0, x), (1, y)]) (k m : Int) (hx : a.eval x = .int .u8 k) (hy : a.eval y = .int .u8 m) :
    (execOp a.eval o).run Try.prog w = .ok (.value (.slice (some ⟨w.heap.size, 0, none⟩) 2 2)) (w.alloc (.cells (kc [k, m]) 5 (0, 0))) := by
  unfold execOp
  simp only [ho, List.map_toArray, List.map_cons, List.map_nil, hx, hy]
  kernel_rfl
theorem rises_sz : ∀ (f e : Int) (L : List It), rises f e L = true → ∀ t ∈ L, t.s.size ≤ 48
  | _, _, [], _, t, h => by cases h
  | f, e, i :: L, h, t, ht => by
    rw [rises] at h
    simp only [Bool.and_eq_true] at h
    rcases List.mem_cons.1 ht with rfl | ht
    · have := h.1.2
      unfold szB at this
      exact (of_decide_eq_true this).2
    · exact rises_sz _ _ L h.2 t ht
theorem fil3_ok {H : List It} (h : ∀ t ∈ H, t.Ok) (h2 : ∀ t ∈ H, t.s.size ≤ 48) : ∀ t ∈ fil3 H, t.Ok ∧ t.s.size ≤ 48 := by
  intro t ht
  unfold fil3 at ht
  rcases List.mem_append.1 ht with ht | ht
  · exact ⟨h t ht, h2 t ht⟩
  · obtain ⟨_, rfl⟩ := List.mem_replicate.1 ht
    exact ⟨⟨by decide, by decide⟩, by decide⟩
theorem hel_len {L : List It} (h : ∀ t ∈ L, t.s.size ≤ 48) : ((L.map inB).flatten).length = 53 * L.length := by
  induction L with
  | nil => rfl
  | cons t L ih =>
    rw [List.map_cons, List.flatten_cons, List.length_append, inB_len (h t (.head _)), ih fun u hu => h u (.tail _ hu), List.length_cons]
    omega
theorem hel_isB {L : List It} (h : ∀ t ∈ L, t.s.size ≤ 48) : IsB ((L.map inB).flatten) := fun x hx => by
  obtain ⟨l, hl, hx⟩ := List.mem_flatten.1 hx
  obtain ⟨t, ht, rfl⟩ := List.mem_map.1 hl
  exact inB_isB (h t ht) x hx
set_option maxHeartbeats 4000000 in
theorem cput_ok (c : Cm) (x : Lc) (w : World) (hc : Cin w c x) : Calls Try.prog 27 #[.agg (fl [[.int .u32 c.nx], [.slice x.ao x.no x.co], [.int .i64 c.tn], [.int .u32 c.dl], [.slice x.ah x.nh x.ch]])] w (fun r_ w' => ∃ v, r_ = .returned (.tuple #[v, .int .i64 (if rt c = true then 0 else 281)]) ∧ Ob w.heap.size w' v (if rt c = true then putL c else []) ∧ Gr w w') := by
  obtain ⟨T, hT⟩ : ∃ T : Ending → World → Prop, T = (fun r_ w' => ∃ v, r_ = .returned (.tuple #[v, .int .i64 (if rt c = true then 0 else 281)]) ∧ Ob w.heap.size w' v (if rt c = true then putL c else []) ∧ Gr w w') := ⟨_, rfl⟩
  rw [← hT]
  replace hT := hide hT
  have hnO := hc.o.len
  have hnH := hc.h.len
  have hnx := hc.nx
  have hdl := hc.dl
  have hOk := hc.o.1
  have hHk := hc.h.1
  replace hc := hide hc; replace hOk := hide hOk; replace hHk := hide hHk
  obtain ⟨A0_, hA0_⟩ : ∃ S_, S_ = fl [[.int .u32 c.nx], [.slice x.ao x.no x.co], [.int .i64 c.tn], [.int .u32 c.dl], [.slice x.ah x.nh x.ch]] := ⟨_, rfl⟩
  rw [← hA0_]
  replace hA0_ := hide hA0_
  go_enter Try.func27, Try.ntmps27
  go_upto_region 1 with fail
  have hB := ((Bl.nil w).new A0_ 26)
  simp only [size_alloc, List.nil_append, List.cons_append] at hB
  rw [unhide hA0_] at hB
  generalize hu_ : World.alloc _ _ = u0
  replace hB : Bl w [⟨w.heap.size, fl [[.int .u32 c.nx], [.slice x.ao x.no x.co], [.int .i64 c.tn], [.int .u32 c.dl], [.slice x.ah x.nh x.ch]], 26⟩] u0 := by
    rw [← hu_]
    rw [unhide hA0_]
    exact hB
  clear hu_ hA0_
  cases h1 : rt c with
  | false =>
    refine wp_region_lit ?_
    refine list_val (.agg (fl [[.int .u32 c.nx], [.slice x.ao x.no x.co], [.int .i64 c.tn], [.int .u32 c.dl], [.slice x.ah x.nh x.ch]])) (by kernel_rfl) (exec_sw _ 26 (.tmp 1) rfl (w.heap.size) (by kernel_rfl) (hB.get 0 (x := ⟨w.heap.size, fl [[.int .u32 c.nx], [.slice x.ao x.no x.co], [.int .i64 c.tn], [.int .u32 c.dl], [.slice x.ah x.nh x.ch]], 26⟩) rfl) NC (nC  _ _ _ _ _) Try.underlying26 rfl (by kernel_rfl)) ?_
    simp only [nrm]
    refine list_call 12 #[.agg (fl [[.int .u32 c.nx], [.slice x.ao x.no x.co], [.int .i64 c.tn], [.int .u32 c.dl], [.slice x.ah x.nh x.ch]])] (by kernel_rfl) (by kernel_rfl) (((show Calls Try.prog 12 #[.agg (fl [[.int .u32 c.nx], [.slice x.ao x.no x.co], [.int .i64 c.tn], [.int .u32 c.dl], [.slice x.ah x.nh x.ch]])] u0 (Vl (.int .i64 281) u0) from chk_f h1 ▸ check_ok c x u0 ((unhide hc).gr hB.gr))).mono ?_)
    rintro r_ u1 ⟨rfl, hg⟩
    replace hB := hB.more hg
    clear hg
    refine ⟨_, rfl, ?_⟩
    simp only [nrm]
    (refine wpList_step fun K hK => ?_; replace hK := hide hK; go_simp; refine unhide hK _ _ ?_; clear hK K)
    refine wpList_nil ?_
    replace hB := hide hB
    go_upto_region 2 with fail
    replace hB := unhide hB
    refine wp_region_lit ?_
    refine lvk (.int .i64 281) ?_
    simp only [nrm]
    refine list_val (.bool true) (by kernel_rfl) (neq_e _ (.tmp 16) (.const (.int .i64 0)) 281 0 true rfl (by kernel_rfl) (by kernel_rfl) (by decide)) ?_
    simp only [nrm]
    refine wpList_nil ?_
    replace hB := hide hB
    go_upto_region 3 with fail
    replace hB := unhide hB
    refine wp_region_lit ?_
    refine lvk (.int .i64 281) ?_
    simp only [nrm]
    (refine wpList_step fun K hK => ?_; replace hK := hide hK; go_simp; refine unhide hK _ _ ?_; clear hK K)
    (refine wpList_step fun K hK => ?_; replace hK := hide hK; go_simp; refine unhide hK _ _ ?_; clear hK K)
    refine wpList_nil ?_
    replace hB := hide hB
    go_wp2_with fail
    replace hB := unhide hB
    rw [unhide hT]
    exact (⟨.slice none 0 0, by rw [h1]; rfl, by rw [h1]; exact ob_none _ _, hB.gr⟩)
  | true =>
    refine wp_region_lit ?_
    refine list_val (.agg (fl [[.int .u32 c.nx], [.slice x.ao x.no x.co], [.int .i64 c.tn], [.int .u32 c.dl], [.slice x.ah x.nh x.ch]])) (by kernel_rfl) (exec_sw _ 26 (.tmp 1) rfl (w.heap.size) (by kernel_rfl) (hB.get 0 (x := ⟨w.heap.size, fl [[.int .u32 c.nx], [.slice x.ao x.no x.co], [.int .i64 c.tn], [.int .u32 c.dl], [.slice x.ah x.nh x.ch]], 26⟩) rfl) NC (nC  _ _ _ _ _) Try.underlying26 rfl (by kernel_rfl)) ?_
    simp only [nrm]
    refine list_call 12 #[.agg (fl [[.int .u32 c.nx], [.slice x.ao x.no x.co], [.int .i64 c.tn], [.int .u32 c.dl], [.slice x.ah x.nh x.ch]])] (by kernel_rfl) (by kernel_rfl) (((show Calls Try.prog 12 #[.agg (fl [[.int .u32 c.nx], [.slice x.ao x.no x.co], [.int .i64 c.tn], [.int .u32 c.dl], [.slice x.ah x.nh x.ch]])] u0 (Vl (.int .i64 0) u0) from chk_t h1 ▸ check_ok c x u0 ((unhide hc).gr hB.gr))).mono ?_)
    rintro r_ u1 ⟨rfl, hg⟩
    replace hB := hB.more hg
    clear hg
    refine ⟨_, rfl, ?_⟩
    simp only [nrm]
    (refine wpList_step fun K hK => ?_; replace hK := hide hK; go_simp; refine unhide hK _ _ ?_; clear hK K)
    refine wpList_nil ?_
    replace hB := hide hB
    go_upto_region 2 with fail
    replace hB := unhide hB
    refine wp_region_lit ?_
    refine lvk (.int .i64 0) ?_
    simp only [nrm]
    refine list_val (.bool false) (by kernel_rfl) (neq_e _ (.tmp 16) (.const (.int .i64 0)) 0 0 false rfl (by kernel_rfl) (by kernel_rfl) (by decide)) ?_
    simp only [nrm]
    refine wpList_nil ?_
    have hle := rt_le h1
    have hO4 : c.O.length ≤ 4 := hle.2.1.1
    have hH3 : c.H.length ≤ 3 := hle.2.2
    have htn : 0 ≤ c.tn ∧ c.tn < 256 := by have := hle.2.1.2.2; omega
    have hsz := hide (rises_sz _ _ _ (rt_rises h1))
    clear hle
    replace h1 := hide h1
    replace hB := hide hB
    go_upto_region 4 with fail
    replace hB := unhide hB
    refine wp_region_lit ?_
    refine list_valw (.pointer (some ⟨u1.heap.size, 0, none⟩)) (u1.alloc (.cells (kc (bodL c.O 0)) 69 (0, 0))) (by kernel_rfl) (by rw [bodL_0]; kernel_rfl) ?_
    replace hB := hB.new (kc (bodL c.O 0)) 69
    simp only [List.nil_append, List.cons_append] at hB
    generalize World.alloc _ _ = u2 at *
    generalize u1.heap.size = g5 at *
    simp only [nrm]
    refine wpList_nil ?_
    replace hB := hide hB
    go_upto_region 5 with fail
    replace hB := unhide hB
    refine wp_region_lit ?_
    refine lvk (.pointer (some ⟨w.heap.size, 1, none⟩)) ?_
    simp only [nrm]
    refine list_val (.slice x.ao x.no x.co) (by kernel_rfl) (exec_csO _ (.tmp 19) rfl (w.heap.size) 1 (by kernel_rfl) x.ao x.no x.co (seg_cell (nC  _ _ _ _ _) (hB.get 0 (x := ⟨w.heap.size, fl [[.int .u32 c.nx], [.slice x.ao x.no x.co], [.int .i64 c.tn], [.int .u32 c.dl], [.slice x.ah x.nh x.ch]], 26⟩) rfl) 1 (v := .slice x.ao x.no x.co) rfl rfl)) ?_
    simp only [nrm]
    refine lvk (.int .i64 (x.no : Int)) ?_
    simp only [nrm]
    refine lvk (.int .i64 0) ?_
    simp only [nrm]
    refine wpList_nil ?_
    replace hB := hide hB
    go_wp2_with fail
    go_loopw [22] (fun i wr => ∃ j : Nat, j ≤ x.no ∧ i = .int .i64 (j : Int) ∧ Hid (Bl w [⟨w.heap.size, fl [[.int .u32 c.nx], [.slice x.ao x.no x.co], [.int .i64 c.tn], [.int .u32 c.dl], [.slice x.ah x.nh x.ch]], 26⟩, ⟨g5, kc (bodL c.O j), 69⟩] wr)) (fun i _ => x.no - (intOf i).toNat)
    case atStart => exact ⟨0, by omega, rfl, hB⟩
    case round =>
    clear hB
    obtain ⟨j, hj, rfl, hB⟩ := hrel
    have hB := unhide hB
    by_cases hlt : j < x.no
    · have jI : (j : Int) < (x.no : Int) := by omega
      obtain ⟨s, hsj⟩ : ∃ s, c.O[j]? = some s := ⟨_, List.getElem?_eq_getElem (by omega)⟩
      obtain ⟨p, o, ha, hr⟩ := ((unhide hc).gr hB.gr).o.at_ j s hsj
      have hok := (unhide hOk) s (List.mem_of_getElem? hsj)
      have hlay := bodL_lay (unhide hOk) hsj (by omega)
      have hbl := bodL_len (unhide hOk) (j := j) (by omega) (by omega)
      replace hsj := hide hsj; replace ha := hide ha; replace hr := hide hr; replace hok := hide hok; replace hlay := hide hlay; replace hbl := hide hbl
      replace hB := hide hB
      go_upto_region 7 with fail
      replace hB := unhide hB
      refine wp_region_lit ?_
      refine lvk (.int .i64 (j : Int)) ?_
      simp only [nrm]
      refine list_val (.pointer (some ⟨p, o + 106 * j, none⟩)) (by kernel_rfl) (exec_iso _ (.tmp 20) (.tmp 22) rfl p o x.no x.co j (by rw [← unhide ha]; kernel_rfl) (by kernel_rfl) hlt) ?_
      simp only [nrm]
      refine list_val (.agg (fl [[.int .u32 s.n], bw s.B])) (by kernel_rfl) (exec_lo _ (.tmp 25) rfl p (o + 106 * j) (by kernel_rfl) s (unhide hok) (unhide hr)) ?_
      simp only [nrm]
      refine list_valw (.pointer (some ⟨wr.heap.size, 0, none⟩)) (wr.alloc (.cells (fl [[.int .u32 0], bw Z105]) 39 (0, 0))) (by kernel_rfl) (by kernel_rfl) ?_
      replace hB := hB.new (fl [[.int .u32 0], bw Z105]) 39
      simp only [List.nil_append, List.cons_append] at hB
      generalize World.alloc _ _ = u3 at *
      generalize wr.heap.size = g7 at *
      simp only [nrm]
      (refine wpList_step fun K hK => ?_; replace hK := hide hK; go_simp; refine unhide hK _ _ ?_; clear hK K)
      refine list_all 39 (.tmp 7) (.tmp 26) (g7) (S2 := [[.int .u32 s.n], bw s.B]) (by kernel_rfl) rfl (by kernel_rfl) (by kernel_rfl) hB 2 rfl NO (nO Z105_len _) (nO (unhide hok).2.1 _) (by kernel_rfl) (oO _ rfl) ?_
      intro u4 hB_ hbt_
      clear hB
      replace hB : Bl w [⟨w.heap.size, fl [[.int .u32 c.nx], [.slice x.ao x.no x.co], [.int .i64 c.tn], [.int .u32 c.dl], [.slice x.ah x.nh x.ch]], 26⟩, ⟨g5, kc (bodL c.O j), 69⟩, ⟨g7, fl [[.int .u32 s.n], bw s.B], 39⟩] u4 := hB_
      clear hB_
      clear hbt_
      simp only [nrm]
      refine wpList_nil ?_
      replace hB := hide hB
      go_upto_region 8 with fail
      replace hB := unhide hB
      refine wp_region_lit ?_
      refine lvk (.int .i64 (j : Int)) ?_
      simp only [nrm]
      refine lvk (.pointer (some ⟨g7, 1, none⟩)) ?_
      simp only [nrm]
      refine list_val (.agg (fl [bw s.B])) (by kernel_rfl) (exec_lb _ (.tmp 28) rfl (g7) 1 (by kernel_rfl) (hB.get 2 (x := ⟨g7, fl [[.int .u32 s.n], bw s.B], 39⟩) rfl) NO (nO (unhide hok).2.1 _) 1 s.B rfl rfl rfl) ?_
      simp only [nrm]
      refine list_val (.pointer (some ⟨g5, 105 * j, none⟩)) (by kernel_rfl) (exec_ixA _ (.tmp 5) (.tmp 27) rfl (g5) j (by kernel_rfl) (by kernel_rfl) (by omega)) ?_
      simp only [nrm]
      refine list_body (.tmp 30) (.tmp 29) (g5) (105 * j) (bodL c.O j) s.B (by kernel_rfl) rfl (by kernel_rfl) (by kernel_rfl) (unhide hok).2.1 (by rw [unhide hbl]; omega) hB 1 rfl ?_
      intro u5 hB_ hbt_
      rw [unhide hlay] at hB_
      clear hB hbt_
      have hB := hB_
      clear hB_
      simp only [List.set_cons_zero, List.set_cons_succ] at hB
      simp only [nrm]
      refine wpList_nil ?_
      replace hB := Bl.left (L := [⟨w.heap.size, fl [[.int .u32 c.nx], [.slice x.ao x.no x.co], [.int .i64 c.tn], [.int .u32 c.dl], [.slice x.ah x.nh x.ch]], 26⟩, ⟨g5, kc (bodL c.O (j + 1)), 69⟩]) (M := [⟨g7, fl [[.int .u32 s.n], bw s.B], 39⟩]) hB
      have jw : IntKind.i64.wrap ((j : Int) + 1) = (j : Int) + 1 := by rw [IntKind.wrap_i64]; omega
      replace hB := hide hB
      clear hsj ha hr hok hlay hbl
      go_wp2_with fail
      go_roundw
      case rel => exact ⟨j + 1, by omega, by simp, hB⟩
      case measure => simp [intOf]; omega
    · have jI : ¬ (j : Int) < (x.no : Int) := by omega
      obtain rfl : j = c.O.length := by omega
      obtain ⟨X, hX⟩ : ∃ X, X = bodL c.O c.O.length := ⟨_, rfl⟩
      have hXl : X.length = 420 := by rw [hX]; exact bodL_len (unhide hOk) (Nat.le_refl _) hO4
      have hXB : IsB X := by rw [hX]; exact bodL_isB (unhide hOk) _
      rw [← hX] at hB
      replace hX := hide hX; replace hXB := hide hXB
      replace hB := hide hB
      go_upto_region 10 with fail
      replace hB := unhide hB
      refine wp_region_lit ?_
      refine lvk (.pointer (some ⟨w.heap.size, 0, none⟩)) ?_
      simp only [nrm]
      refine list_val (.int .u32 c.nx) (by kernel_rfl) (exec_c32 _ (.tmp 32) rfl (w.heap.size) 0 (by kernel_rfl) c.nx (seg_cell (nC  _ _ _ _ _) (hB.get 0 (x := ⟨w.heap.size, fl [[.int .u32 c.nx], [.slice x.ao x.no x.co], [.int .i64 c.tn], [.int .u32 c.dl], [.slice x.ah x.nh x.ch]], 26⟩) rfl) 0 (v := .int .u32 c.nx) rfl rfl)) ?_
      simp only [nrm]
      refine list_call 42 #[.slice none 0 0, .int .u32 c.nx] (by kernel_rfl) (by kernel_rfl) (((show Calls Try.prog 42 #[.slice none 0 0, .int .u32 c.nx] wr (fun r w' => ∃ v, r = .returned v ∧ Ob w.heap.size w' v (([] : List Int) ++ lowL c.nx 4) ∧ Gr wr w') from (put32g_ok (([] : List Int)) none 0 0 c.nx hnx (by omega) wr (lb_none _)).mono fun r w' h9 => (by obtain ⟨g, h1, h2, h3, h4⟩ := h9; exact ⟨_, h1, ob_of h3 rfl (Nat.le_trans hB.gr.size h2) (by rw [List.length_append, lowL_len]; simp), h4⟩))).mono ?_)
      rintro r_ u6 ⟨v1, rfl, hO, hg⟩
      replace hB := hB.more hg
      clear hg
      replace hO := hide hO
      refine ⟨_, rfl, ?_⟩
      simp only [nrm]
      (refine wpList_step fun K hK => ?_; replace hK := hide hK; go_simp; refine unhide hK _ _ ?_; clear hK K)
      refine wpList_nil ?_
      replace hB := hide hB
      go_upto_region 11 with fail
      replace hB := unhide hB
      refine wp_region_lit ?_
      refine lvk v1 ?_
      simp only [nrm]
      refine lvk (.pointer (some ⟨w.heap.size, 1, none⟩)) ?_
      simp only [nrm]
      refine list_val (.slice x.ao x.no x.co) (by kernel_rfl) (exec_csO _ (.tmp 36) rfl (w.heap.size) 1 (by kernel_rfl) x.ao x.no x.co (seg_cell (nC  _ _ _ _ _) (hB.get 0 (x := ⟨w.heap.size, fl [[.int .u32 c.nx], [.slice x.ao x.no x.co], [.int .i64 c.tn], [.int .u32 c.dl], [.slice x.ah x.nh x.ch]], 26⟩) rfl) 1 (v := .slice x.ao x.no x.co) rfl rfl)) ?_
      simp only [nrm]
      refine lvk (.int .i64 (x.no : Int)) ?_
      simp only [nrm]
      refine list_val (.int .u8 (x.no : Int)) (by kernel_rfl) (conv_u8 _ (.tmp 38) (x.no : Int) rfl (by kernel_rfl) (by omega)) ?_
      simp only [nrm]
      refine lvk (.pointer (some ⟨w.heap.size, 2, none⟩)) ?_
      simp only [nrm]
      refine list_val (.int .i64 c.tn) (by kernel_rfl) (exec_ci _ (.tmp 40) rfl (w.heap.size) 2 (by kernel_rfl) c.tn (seg_cell (nC  _ _ _ _ _) (hB.get 0 (x := ⟨w.heap.size, fl [[.int .u32 c.nx], [.slice x.ao x.no x.co], [.int .i64 c.tn], [.int .u32 c.dl], [.slice x.ah x.nh x.ch]], 26⟩) rfl) 2 (v := .int .i64 c.tn) rfl rfl)) ?_
      simp only [nrm]
      refine list_val (.int .u8 c.tn) (by kernel_rfl) (conv_u8 _ (.tmp 41) c.tn rfl (by kernel_rfl) htn) ?_
      simp only [nrm]
      refine list_valw (.slice (some ⟨u6.heap.size, 0, none⟩) 2 2) (u6.alloc (.cells (kc [(x.no : Int), c.tn]) 5 (0, 0))) (by kernel_rfl) (exec_bsb2 _ (.tmp 39) (.tmp 42) rfl (x.no : Int) c.tn (by kernel_rfl) (by kernel_rfl)) ?_
      have hS := hide (blk_new u6 (.cells (kc [(x.no : Int), c.tn]) 5 (0, 0)))
      have hg := (Gr.refl u6).alloc (.cells (kc [(x.no : Int), c.tn]) 5 (0, 0))
      replace hO := hide ((unhide hO).gr hg)
      replace hB := hB.more hg
      clear hg
      generalize World.alloc _ _ = u7 at *
      generalize u6.heap.size = gs43 at *
      simp only [nrm]
      refine app_bs (by kernel_rfl) (.tmp 35) (.tmp 43) rfl w.heap.size (v1) ([] ++ lowL c.nx 4) (by kernel_rfl) (unhide hO) (some ⟨gs43, 0, none⟩) 2 2 ([(x.no : Int), c.tn]) (by kernel_rfl) rfl (.inr ⟨gs43, 0, rfl, kc_at (unhide hS)⟩) (by simp [lowL_len]) hB.gr.size ?_
      intro v2 u8 hO9 hgr
      replace hB := hB.grownB (unhide hO) (Nat.le_refl _) hgr (by intro y_ hy_; simp only [List.mem_cons, List.not_mem_nil, or_false] at hy_; rcases hy_ with rfl | rfl <;> (dsimp only; decide))
      replace hO := hide hO9
      clear hO9 hgr
      simp only [nrm]
      (refine wpList_step fun K hK => ?_; replace hK := hide hK; go_simp; refine unhide hK _ _ ?_; clear hK K)
      refine wpList_nil ?_
      clear hS
      obtain ⟨A1, hA1⟩ : ∃ A, A = [] ++ lowL c.nx 4 ++ [(x.no : Int), c.tn] := ⟨_, rfl⟩
      have hAl : A1.length = 6 := by rw [hA1]; simp [lowL_len]
      have hAB : IsB A1 := by rw [hA1]; exact isB_app (isB_app (fun x hx => by cases hx) (lowL_isB _ _)) (isB_2 (by omega) htn)
      rw [← hA1] at hO
      replace hA1 := hide hA1; replace hAB := hide hAB
      replace hB := hide hB
      go_upto_region 12 with fail
      replace hB := unhide hB
      refine wp_region_lit ?_
      refine list_val (.agg (kc X)) (by kernel_rfl) (exec_l420 _ (.tmp 5) rfl (g5) (by kernel_rfl) X hXl (hB.get 1 (x := ⟨g5, kc X, 69⟩) rfl)) ?_
      simp only [nrm]
      refine lvk (.int .i64 0) ?_
      simp only [nrm]
      refine wpList_nil ?_
      have e0 : A1 = A1 ++ X.take (105 * 0) := by simp
      rw [e0] at hO
      clear e0
      replace hB := hide hB
      go_wp2_with fail
      go_loopw [8, 46] (fun v i wr => ∃ (j : Nat) (v' : Value), j ≤ 4 ∧ v' = v ∧ i = .int .i64 (j : Int) ∧ Hid (Ob w.heap.size wr v' (A1 ++ X.take (105 * j))) ∧ Hid (Bl w [⟨w.heap.size, fl [[.int .u32 c.nx], [.slice x.ao x.no x.co], [.int .i64 c.tn], [.int .u32 c.dl], [.slice x.ah x.nh x.ch]], 26⟩, ⟨g5, kc X, 69⟩] wr)) (fun v i _ => 4 - (intOf i).toNat)
      case atStart => exact ⟨0, _, by omega, rfl, rfl, hO, hB⟩
      case round =>
      clear hB hO
      obtain ⟨j, v', hj, rfl, rfl, hO, hB⟩ := hrel
      have hB := unhide hB
      by_cases hlt : j < 4
      · have jI : (j : Int) < 4 := by omega
        obtain ⟨Y, hY⟩ : ∃ Y, Y = (X.drop (105 * j)).take 105 := ⟨_, rfl⟩
        have hYl : Y.length = 105 := by rw [hY, List.length_take, List.length_drop]; omega
        have hXj : X.take (105 * j) ++ Y = X.take (105 * (j + 1)) := by rw [hY, ← List.take_add]; congr 1
        have hXt : (X.take (105 * j)).length = 105 * j := by rw [List.length_take]; omega
        replace hY := hide hY; replace hXj := hide hXj; replace hYl := hide hYl
        replace hB := hide hB
        go_upto_region 14 with fail
        replace hB := unhide hB
        refine wp_region_lit ?_
        refine list_val (.agg (fl [bw Y])) (by kernel_rfl) (exec_ixB _ (.tmp 45) (.tmp 46) rfl X hXl (by kernel_rfl) j hlt (by kernel_rfl) Y (unhide hY)) ?_
        simp only [nrm]
        refine list_valw (.pointer (some ⟨wr.heap.size, 0, none⟩)) (wr.alloc (.cells (fl [bw Z105]) 27 (0, 0))) (by kernel_rfl) (by kernel_rfl) ?_
        replace hB := hB.new (fl [bw Z105]) 27
        simp only [List.nil_append, List.cons_append] at hB
        have hg := (Gr.refl wr).alloc (.cells (fl [bw Z105]) 27 (0, 0))
        replace hO := hide ((unhide hO).gr hg)
        clear hg
        generalize World.alloc _ _ = u9 at *
        generalize wr.heap.size = g10 at *
        simp only [nrm]
        have hzz_ : Hid (u9.heap[g10]? = some (.cells (fl [bw Z105]) 27 (0, 0))) := hide (hB.get 2 (x := ⟨g10, fl [bw Z105], 27⟩) rfl)
        refine list_all 27 (.tmp 10) (.tmp 48) (g10) (S2 := [bw Y]) (by kernel_rfl) rfl (by kernel_rfl) (by kernel_rfl) hB 2 rfl NY (nY Z105_len) (nY (unhide hYl)) (by kernel_rfl) (oY _) ?_
        intro u10 hB_ hbt_
        clear hB
        replace hB : Bl w [⟨w.heap.size, fl [[.int .u32 c.nx], [.slice x.ao x.no x.co], [.int .i64 c.tn], [.int .u32 c.dl], [.slice x.ah x.nh x.ch]], 26⟩, ⟨g5, kc X, 69⟩, ⟨g10, fl [bw Y], 27⟩] u10 := hB_
        clear hB_
        replace hO := hide ((unhide hO).bz (unhide hzz_) hbt_)
        clear hbt_ hzz_
        simp only [nrm]
        refine wpList_nil ?_
        replace hB := hide hB
        go_upto_region 15 with fail
        replace hB := unhide hB
        refine wp_region_lit ?_
        refine lvk v' ?_
        simp only [nrm]
        refine lvk (.slice (some ⟨g10, 0, none⟩) 105 105) ?_
        simp only [nrm]
        refine app_bs (by kernel_rfl) (.tmp 49) (.tmp 50) rfl w.heap.size (v') (A1 ++ X.take (105 * j)) (by kernel_rfl) (unhide hO) (some ⟨g10, 0, none⟩) 105 105 (Y) (by kernel_rfl) (unhide hYl) (.inr ⟨g10, 0, rfl, kc_at (by have h9 := hB.get 2 (x := ⟨g10, fl [bw Y], 27⟩) rfl; rw [show kc Y = fl [bw Y] by simp [fl, bw, kc]]; exact h9)⟩) (by rw [List.length_append, hAl, hXt]; omega) hB.gr.size ?_
        intro v3 u11 hO9 hgr
        replace hB := hB.grownB (unhide hO) (Nat.le_refl _) hgr (by intro y_ hy_; simp only [List.mem_cons, List.not_mem_nil, or_false] at hy_; rcases hy_ with rfl | rfl | rfl <;> (dsimp only; decide))
        replace hO := hide hO9
        clear hO9 hgr
        simp only [nrm]
        (refine wpList_step fun K hK => ?_; replace hK := hide hK; go_simp; refine unhide hK _ _ ?_; clear hK K)
        refine wpList_nil ?_
        rw [List.append_assoc, unhide hXj] at hO
        replace hB := Bl.left (L := [⟨w.heap.size, fl [[.int .u32 c.nx], [.slice x.ao x.no x.co], [.int .i64 c.tn], [.int .u32 c.dl], [.slice x.ah x.nh x.ch]], 26⟩, ⟨g5, kc X, 69⟩]) (M := [⟨g10, fl [bw Y], 27⟩]) hB
        have jw : IntKind.i64.wrap ((j : Int) + 1) = (j : Int) + 1 := by rw [IntKind.wrap_i64]; omega
        replace hB := hide hB
        clear hY hXj hYl hXt
        go_wp2_with fail
        go_roundw
        case rel => exact ⟨j + 1, v3, by omega, rfl, by simp, hO, hB⟩
        case measure => simp [intOf]; omega
      · have jI : ¬ (j : Int) < 4 := by omega
        obtain rfl : j = 4 := by omega
        rw [show X.take (105 * 4) = X from List.take_of_length_le (by omega)] at hO
        obtain ⟨A2, hA2⟩ : ∃ A, A = A1 ++ X := ⟨_, rfl⟩
        have hAl2 : A2.length = 426 := by rw [hA2, List.length_append]; omega
        have hAB2 : IsB A2 := by rw [hA2]; exact isB_app (unhide hAB) (unhide hXB)
        rw [← hA2] at hO
        obtain ⟨a2, c2, rfl, hlb⟩ := ob_lb (unhide hO) hAB2 hAl2
        replace hlb := hide hlb; replace hA2 := hide hA2; replace hAB2 := hide hAB2
        clear hO
        replace hB := hide hB
        go_upto_region 17 with fail
        replace hB := unhide hB
        refine wp_region_lit ?_
        refine lvk (.slice a2 426 c2) ?_
        simp only [nrm]
        refine lvk (.pointer (some ⟨w.heap.size, 3, none⟩)) ?_
        simp only [nrm]
        refine list_val (.int .u32 c.dl) (by kernel_rfl) (exec_c32 _ (.tmp 54) rfl (w.heap.size) 3 (by kernel_rfl) c.dl (seg_cell (nC  _ _ _ _ _) (hB.get 0 (x := ⟨w.heap.size, fl [[.int .u32 c.nx], [.slice x.ao x.no x.co], [.int .i64 c.tn], [.int .u32 c.dl], [.slice x.ah x.nh x.ch]], 26⟩) rfl) 3 (v := .int .u32 c.dl) rfl rfl)) ?_
        simp only [nrm]
        refine list_call 42 #[.slice a2 426 c2, .int .u32 c.dl] (by kernel_rfl) (by kernel_rfl) (((show Calls Try.prog 42 #[.slice a2 426 c2, .int .u32 c.dl] wr (fun r w' => ∃ v, r = .returned v ∧ Ob w.heap.size w' v (A2 ++ lowL c.dl 4) ∧ Gr wr w') from (put32g_ok (A2) a2 426 c2 c.dl hdl (by omega) wr ((unhide hlb).gr (Gr.refl _))).mono fun r w' h9 => (by obtain ⟨g, h1, h2, h3, h4⟩ := h9; exact ⟨_, h1, ob_of h3 rfl (Nat.le_trans hB.gr.size h2) (by rw [List.length_append, lowL_len]; omega), h4⟩))).mono ?_)
        rintro r_ u12 ⟨v4, rfl, hO, hg⟩
        replace hB := hB.more hg
        clear hg
        replace hO := hide hO
        refine ⟨_, rfl, ?_⟩
        simp only [nrm]
        (refine wpList_step fun K hK => ?_; replace hK := hide hK; go_simp; refine unhide hK _ _ ?_; clear hK K)
        refine wpList_nil ?_
        clear hlb
        replace hB := hide hB
        go_upto_region 18 with fail
        replace hB := unhide hB
        refine wp_region_lit ?_
        refine lvk v4 ?_
        simp only [nrm]
        refine lvk (.pointer (some ⟨w.heap.size, 4, none⟩)) ?_
        simp only [nrm]
        refine list_val (.slice x.ah x.nh x.ch) (by kernel_rfl) (exec_csI _ (.tmp 58) rfl (w.heap.size) 4 (by kernel_rfl) x.ah x.nh x.ch (seg_cell (nC  _ _ _ _ _) (hB.get 0 (x := ⟨w.heap.size, fl [[.int .u32 c.nx], [.slice x.ao x.no x.co], [.int .i64 c.tn], [.int .u32 c.dl], [.slice x.ah x.nh x.ch]], 26⟩) rfl) 4 (v := .slice x.ah x.nh x.ch) rfl rfl)) ?_
        simp only [nrm]
        refine lvk (.int .i64 (x.nh : Int)) ?_
        simp only [nrm]
        refine list_val (.int .u8 (x.nh : Int)) (by kernel_rfl) (conv_u8 _ (.tmp 60) (x.nh : Int) rfl (by kernel_rfl) (by omega)) ?_
        simp only [nrm]
        refine list_valw (.slice (some ⟨u12.heap.size, 0, none⟩) 1 1) (u12.alloc (.cells (kc [(x.nh : Int)]) 5 (0, 0))) (by kernel_rfl) (exec_bsb _ (.tmp 61) rfl (x.nh : Int) (by kernel_rfl)) ?_
        have hS := hide (blk_new u12 (.cells (kc [(x.nh : Int)]) 5 (0, 0)))
        have hg := (Gr.refl u12).alloc (.cells (kc [(x.nh : Int)]) 5 (0, 0))
        replace hO := hide ((unhide hO).gr hg)
        replace hB := hB.more hg
        clear hg
        generalize World.alloc _ _ = u13 at *
        generalize u12.heap.size = gs62 at *
        simp only [nrm]
        refine app_bs (by kernel_rfl) (.tmp 57) (.tmp 62) rfl w.heap.size (v4) (A2 ++ lowL c.dl 4) (by kernel_rfl) (unhide hO) (some ⟨gs62, 0, none⟩) 1 1 ([(x.nh : Int)]) (by kernel_rfl) rfl (.inr ⟨gs62, 0, rfl, kc_at (unhide hS)⟩) (by rw [List.length_append, lowL_len]; omega) hB.gr.size ?_
        intro v5 u14 hO9 hgr
        replace hB := hB.grownB (unhide hO) (Nat.le_refl _) hgr (by intro y_ hy_; simp only [List.mem_cons, List.not_mem_nil, or_false] at hy_; rcases hy_ with rfl | rfl <;> (dsimp only; decide))
        replace hO := hide hO9
        clear hO9 hgr
        simp only [nrm]
        (refine wpList_step fun K hK => ?_; replace hK := hide hK; go_simp; refine unhide hK _ _ ?_; clear hK K)
        refine wpList_nil ?_
        clear hS
        obtain ⟨A3, hA3⟩ : ∃ A, A = A2 ++ lowL c.dl 4 ++ [(x.nh : Int)] := ⟨_, rfl⟩
        have hAl3 : A3.length = 431 := by rw [hA3]; simp [lowL_len]; omega
        have hAB3 : IsB A3 := by rw [hA3]; exact isB_app (isB_app (unhide hAB2) (lowL_isB _ _)) (isB_1 (by omega))
        rw [← hA3] at hO
        replace hA3 := hide hA3; replace hAB3 := hide hAB3
        clear hAB2
        replace hB := hide hB
        go_upto_region 19 with fail
        replace hB := unhide hB
        refine wp_region_lit ?_
        refine list_valw (.pointer (some ⟨u14.heap.size, 0, none⟩)) (u14.alloc (.cells (c3 []) 71 (0, 0))) (by kernel_rfl) (by kernel_rfl) ?_
        replace hB := hB.new (c3 []) 71
        simp only [List.nil_append, List.cons_append] at hB
        have hg := (Gr.refl u14).alloc (.cells (c3 []) 71 (0, 0))
        replace hO := hide ((unhide hO).gr hg)
        clear hg
        generalize World.alloc _ _ = u15 at *
        generalize u14.heap.size = g11 at *
        simp only [nrm]
        refine wpList_nil ?_
        replace hB := hide hB
        go_upto_region 20 with fail
        replace hB := unhide hB
        refine any_start (S := fun v_ => v_.heap[w.heap.size]? = some (.cells (fl [[.int .u32 c.nx], [.slice x.ao x.no x.co], [.int .i64 c.tn], [.int .u32 c.dl], [.slice x.ah x.nh x.ch]]) 26 (0, 0))) (by kernel_rfl) ?_
        replace hO := hide ((unhide hO).gr ((Gr.refl u15).drew))
        replace hB := hB.drew
        generalize World.drew _ = u16 at *
        simp only [List.size_toArray, List.length_cons, List.length_nil, Array.replicate, List.replicate]
        have hS_ := hide (show (fun v_ => v_.heap[w.heap.size]? = some (.cells (fl [[.int .u32 c.nx], [.slice x.ao x.no x.co], [.int .i64 c.tn], [.int .u32 c.dl], [.slice x.ah x.nh x.ch]]) 26 (0, 0))) u16 from (hB.get 0 (x := ⟨w.heap.size, fl [[.int .u32 c.nx], [.slice x.ao x.no x.co], [.int .i64 c.tn], [.int .u32 c.dl], [.slice x.ah x.nh x.ch]], 26⟩) rfl))
        refine any_tk 0 (.slice (some ⟨g11, 0, none⟩) 3 3) (tf 4 0) rfl (fun x_ hu => by kernel_rfl) (unhide hS_) ?_
        simp only [nrm]
        refine any_tk 1 (.pointer (some ⟨w.heap.size, 4, none⟩)) (tf 4 1) rfl (fun x_ hu => by kernel_rfl) (unhide hS_) ?_
        simp only [nrm]
        refine any_tk 2 (.slice x.ah x.nh x.ch) (tf 4 2) rfl (fun x_ hu => exec_csI _ (.tmp 65) rfl (w.heap.size) 4 (by kernel_rfl) x.ah x.nh x.ch (seg_cell (nC  _ _ _ _ _) hu 4 (v := .slice x.ah x.nh x.ch) rfl rfl)) (unhide hS_) ?_
        simp only [nrm]
        refine any_one (i := 3) (by kernel_rfl) rfl (fun K hK => ?_)
        have hLz := ((unhide hc).gr hB.gr).h.2
        refine step_copykb (.tmp 64) (.tmp 66) rfl (by kernel_rfl) _ _ _ _ (by kernel_rfl) (by kernel_rfl) (copy3 _ _ (g11) x.nh x.ch x.ah c.H hLz (by omega) (hB.get 2 (x := ⟨g11, c3 [], 71⟩) rfl)) ?_
        clear hLz
        replace hO := hide ((unhide hO).bz (hB.get 2 (x := ⟨g11, c3 [], 71⟩) rfl) (setCells_bt ((c.H.map itr).flatten) _ (g11) 0) (by dsimp only; decide))
        have hB2 := hB.cells 2 (C := (c3 []).toList) rfl 0 ((c.H.map itr).flatten)
        rw [c3_sp hH3] at hB2
        simp only [List.set_cons_zero, List.set_cons_succ] at hB2
        clear hB
        generalize World.setCells _ _ _ _ = u17 at *
        have hB := hB2
        clear hB2
        clear hS_
        have hS_ := hide (show (fun v_ => v_.heap[w.heap.size]? = some (.cells (fl [[.int .u32 c.nx], [.slice x.ao x.no x.co], [.int .i64 c.tn], [.int .u32 c.dl], [.slice x.ah x.nh x.ch]]) 26 (0, 0))) u17 from (hB.get 0 (x := ⟨w.heap.size, fl [[.int .u32 c.nx], [.slice x.ao x.no x.co], [.int .i64 c.tn], [.int .u32 c.dl], [.slice x.ah x.nh x.ch]], 26⟩) rfl))
        refine hK.out _ _ (unhide hS_) (fun _ => ?_)
        clear hK K
        simp only [nrm]
        refine any_done (by kernel_rfl) ?_
        clear hS_
        replace hB := hide hB
        go_upto_region 21 with fail
        replace hB := unhide hB
        refine wp_region_lit ?_
        refine list_val (.agg (c3 c.H)) (by kernel_rfl) (exec_l6 _ (.tmp 11) rfl (g11) (by kernel_rfl) c.H hH3 (hB.get 2 (x := ⟨g11, c3 c.H, 71⟩) rfl)) ?_
        simp only [nrm]
        refine lvk (.int .i64 0) ?_
        simp only [nrm]
        refine wpList_nil ?_
        have e0 : A3 = A3 ++ (((fil3 c.H).take 0).map inB).flatten := by simp
        rw [e0] at hO
        clear e0
        have hF := hide (fil3_ok (unhide hHk) (unhide hsz))
        have hFl := fil3_len hH3
        replace hB := Bl.left (L := [⟨w.heap.size, fl [[.int .u32 c.nx], [.slice x.ao x.no x.co], [.int .i64 c.tn], [.int .u32 c.dl], [.slice x.ah x.nh x.ch]], 26⟩, ⟨g5, kc X, 69⟩]) (M := [⟨g11, c3 c.H, 71⟩]) hB
        replace hB := hide hB
        go_wp2_with fail
        go_loopw [8, 69] (fun v i wr => ∃ (j : Nat) (v' : Value), j ≤ 3 ∧ v' = v ∧ i = .int .i64 (j : Int) ∧ Hid (Ob w.heap.size wr v' (A3 ++ (((fil3 c.H).take j).map inB).flatten)) ∧ Hid (Bl w [⟨w.heap.size, fl [[.int .u32 c.nx], [.slice x.ao x.no x.co], [.int .i64 c.tn], [.int .u32 c.dl], [.slice x.ah x.nh x.ch]], 26⟩, ⟨g5, kc X, 69⟩] wr)) (fun v i _ => 3 - (intOf i).toNat)
        case atStart => exact ⟨0, _, by omega, rfl, rfl, hO, hB⟩
        case round =>
        clear hB hO
        obtain ⟨j, v', hj, rfl, rfl, hO, hB⟩ := hrel
        have hB := unhide hB
        by_cases hlt : j < 3
        · have jI : (j : Int) < 3 := by omega
          obtain ⟨s, hsj⟩ : ∃ s, (fil3 c.H)[j]? = some s := ⟨_, List.getElem?_eq_getElem (by omega)⟩
          have hsk := (unhide hF) s (List.mem_of_getElem? hsj)
          have hnx9 : (((fil3 c.H).take j).map inB).flatten ++ inB s = (((fil3 c.H).take (j + 1)).map inB).flatten := by rw [List.take_add_one, hsj]; simp
          have htk : ∀ t ∈ (fil3 c.H).take j, t.s.size ≤ 48 := fun t ht => ((unhide hF) t (List.mem_of_mem_take ht)).2
          have hFj := hel_len htk
          rw [List.length_take, hFl, Nat.min_eq_left hj] at hFj
          have hFB := hel_isB htk
          clear htk
          generalize (((fil3 c.H).take j).map inB).flatten = F at *
          have hLl : (A3 ++ F).length = 431 + 53 * j := by rw [List.length_append]; omega
          have hLB : IsB (A3 ++ F) := isB_app (unhide hAB3) hFB
          obtain ⟨a3, c3_, rfl, -⟩ := ob_lb (unhide hO) hLB hLl
          replace hsk := hide hsk; replace hsj := hide hsj; replace hnx9 := hide hnx9; replace hLB := hide hLB
          clear hFB hFj
          replace hB := hide hB
          go_upto_region 23 with fail
          replace hB := unhide hB
          refine wp_region_lit ?_
          refine list_val (.agg (fl [[.int .u32 s.n], [.string s.s]])) (by kernel_rfl) (exec_ixI _ (.tmp 68) (.tmp 69) rfl c.H (by kernel_rfl) j hlt (by kernel_rfl) s (unhide hsj)) ?_
          simp only [nrm]
          refine list_valw (.pointer (some ⟨wr.heap.size, 0, none⟩)) (wr.alloc (.cells (fl [[.int .u32 0], [.string ByteArray.empty]]) 47 (0, 0))) (by kernel_rfl) (by kernel_rfl) ?_
          replace hB := hB.new (fl [[.int .u32 0], [.string ByteArray.empty]]) 47
          simp only [List.nil_append, List.cons_append] at hB
          have hg := (Gr.refl wr).alloc (.cells (fl [[.int .u32 0], [.string ByteArray.empty]]) 47 (0, 0))
          replace hO := hide ((unhide hO).gr hg)
          clear hg
          generalize World.alloc _ _ = u18 at *
          generalize wr.heap.size = g13 at *
          simp only [nrm]
          have hzz_ : Hid (u18.heap[g13]? = some (.cells (fl [[.int .u32 0], [.string ByteArray.empty]]) 47 (0, 0))) := hide (hB.get 2 (x := ⟨g13, fl [[.int .u32 0], [.string ByteArray.empty]], 47⟩) rfl)
          refine list_all 47 (.tmp 13) (.tmp 71) (g13) (S2 := [[.int .u32 s.n], [.string s.s]]) (by kernel_rfl) rfl (by kernel_rfl) (by kernel_rfl) hB 2 rfl NI (nI  _ _) (nI  _ _) (by kernel_rfl) (oI  rfl rfl) ?_
          intro u19 hB_ hbt_
          clear hB
          replace hB : Bl w [⟨w.heap.size, fl [[.int .u32 c.nx], [.slice x.ao x.no x.co], [.int .i64 c.tn], [.int .u32 c.dl], [.slice x.ah x.nh x.ch]], 26⟩, ⟨g5, kc X, 69⟩, ⟨g13, fl [[.int .u32 s.n], [.string s.s]], 47⟩] u19 := hB_
          clear hB_
          replace hO := hide ((unhide hO).bz (unhide hzz_) hbt_)
          clear hbt_ hzz_
          simp only [nrm]
          refine wpList_nil ?_
          replace hB := hide hB
          go_upto_region 24 with fail
          replace hB := unhide hB
          refine wp_region_lit ?_
          refine lvk (.slice a3 (431 + 53 * j) c3_) ?_
          simp only [nrm]
          refine list_val (.agg (fl [[.int .u32 s.n], [.string s.s]])) (by kernel_rfl) (exec_sw _ 47 (.tmp 13) rfl (g13) (by kernel_rfl) (hB.get 2 (x := ⟨g13, fl [[.int .u32 s.n], [.string s.s]], 47⟩) rfl) NI (nI  _ _) Try.underlying47 rfl (by kernel_rfl)) ?_
          simp only [nrm]
          refine list_call 43 #[.slice a3 (431 + 53 * j) c3_, .agg (fl [[.int .u32 s.n], [.string s.s]])] (by kernel_rfl) (by kernel_rfl) (((show Calls Try.prog 43 #[.slice a3 (431 + 53 * j) c3_, .agg (fl [[.int .u32 s.n], [.string s.s]])] u19 (fun r w' => ∃ v, r = .returned v ∧ Ob w.heap.size w' v ((A3 ++ F) ++ inB s) ∧ Gr u19 w') from (putin_ok (A3 ++ F) a3 (431 + 53 * j) c3_ s (unhide hsk).1 (unhide hsk).2 (unhide hLB) (by omega) u19 (ob_lb2 (unhide hO) (unhide hLB) hLl)).mono fun r w' h9 => (by obtain ⟨v, h1, h2, h3⟩ := h9; exact ⟨v, h1, ob_base h2 hB.gr.size, h3⟩))).mono ?_)
          rintro r_ u20 ⟨v6, rfl, hO, hg⟩
          replace hB := hB.more hg
          clear hg
          replace hO := hide hO
          refine ⟨_, rfl, ?_⟩
          simp only [nrm]
          (refine wpList_step fun K hK => ?_; replace hK := hide hK; go_simp; refine unhide hK _ _ ?_; clear hK K)
          refine wpList_nil ?_
          rw [List.append_assoc, unhide hnx9] at hO
          replace hB := Bl.left (L := [⟨w.heap.size, fl [[.int .u32 c.nx], [.slice x.ao x.no x.co], [.int .i64 c.tn], [.int .u32 c.dl], [.slice x.ah x.nh x.ch]], 26⟩, ⟨g5, kc X, 69⟩]) (M := [⟨g13, fl [[.int .u32 s.n], [.string s.s]], 47⟩]) hB
          have jw : IntKind.i64.wrap ((j : Int) + 1) = (j : Int) + 1 := by rw [IntKind.wrap_i64]; omega
          replace hB := hide hB
          clear hsk hsj hnx9 hLB hLl
          go_wp2_with fail
          go_roundw
          case rel => exact ⟨j + 1, v6, by omega, rfl, by simp, hO, hB⟩
          case measure => simp [intOf]; omega
        · have jI : ¬ (j : Int) < 3 := by omega
          obtain rfl : j = 3 := by omega
          rw [List.take_of_length_le (by omega)] at hO
          have e1 : A3 ++ ((fil3 c.H).map inB).flatten = putL c := by
            rw [unhide hA3, unhide hA2, unhide hA1, unhide hX]
            unfold putL
            rw [hnO, hnH]
            simp only [List.nil_append, List.append_assoc]
          rw [e1] at hO
          clear e1
          replace hB := hide hB
          go_upto_region 26 with fail
          replace hB := unhide hB
          refine wp_region_lit ?_
          refine lvk v' ?_
          simp only [nrm]
          (refine wpList_step fun K hK => ?_; replace hK := hide hK; go_simp; refine unhide hK _ _ ?_; clear hK K)
          (refine wpList_step fun K hK => ?_; replace hK := hide hK; go_simp; refine unhide hK _ _ ?_; clear hK K)
          refine wpList_nil ?_
          replace hB := hide hB
          go_wp2_with fail
          replace hB := unhide hB
          rw [unhide hT]
          exact (⟨v', by rw [unhide h1]; rfl, by rw [unhide h1]; exact unhide hO, hB.gr⟩)
end Go.Proofs.Ytcefkkoombmndaa
