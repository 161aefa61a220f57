/-
  Take.
-/
import Derived.Test.YtcefkkoombmndaaUV
namespace Go.Proofs.Ytcefkkoombmndaa
open Go.RowKit
set_option maxRecDepth 100000
set_option linter.unusedSimpArgs false
set_option linter.unusedVariables false
theorem Bl.dr {w v : World} {x y : Blk} {L : List Blk} (h : Bl w (x :: y :: L) v) : Bl w (x :: L) v :=
  ⟨h.gr, fun z hz => h.at_ z (by rcases List.mem_cons.1 hz with h1 | h1; exact h1 ▸ List.mem_cons_self; exact List.mem_cons_of_mem _ (List.mem_cons_of_mem _ h1)), by
    have h1 := List.pairwise_cons.1 h.ne
    have h2 := List.pairwise_cons.1 h1.2
    exact List.pairwise_cons.2 ⟨fun z hz => h1.1 z (List.mem_cons_of_mem _ hz), h2.2⟩⟩
theorem Bl.nt {w u v : World} {L : List Blk} (h : Bl w L u) (n : Nt u v) (g : Gr w v) (ht : ∀ y ∈ L, y.t ≠ 47) : Bl w L v :=
  ⟨g, fun x hx => ⟨n.2 _ _ _ (h.at_ x hx).1 (ht x hx), (h.at_ x hx).2⟩, h.ne⟩
/-- a text laid in its place -/
def insL (H : List It) (s : It) : List It := H.take (pos H s.n) ++ [s] ++ H.drop (pos H s.n)
def tkC (c : Cm) (s : It) : Cm := { c with H := insL c.H s }
def tk (c : Cm) (s : It) (r : Int) : Cm × List ByteArray × Int := if unt c s r = 0 then (dvC (tkC c s), (dvH c.dl (insL c.H s)).2.2, 0) else (cz, [], unt c s r)
theorem srt_pw {H : List It} : Srt H ↔ H.Pairwise (fun s t => s.n < t.n) := by
  rw [List.pairwise_iff_getElem]
  constructor
  · intro h i j hi hj hij
    exact h i j _ _ hij (List.getElem?_eq_getElem hi) (List.getElem?_eq_getElem hj)
  · intro h k l s t hkl h1 h2
    obtain ⟨a1, rfl⟩ := List.getElem?_eq_some_iff.1 h1
    obtain ⟨a2, rfl⟩ := List.getElem?_eq_some_iff.1 h2
    exact h k l a1 a2 hkl
theorem pos_lo {H : List It} {m : Int} {s : It} (h : s ∈ H.take (pos H m)) : s.n < m := by
  obtain ⟨i, hi, rfl⟩ := List.getElem_of_mem h
  rw [List.length_take] at hi
  have h1 : i < pos H m := by omega
  have h2 := List.not_of_lt_findIdx (p := fun s : It => decide (m ≤ s.n)) h1
  rw [List.getElem_take]
  simpa using h2
theorem pos_hi {H : List It} {m : Int} (hs : Srt H) (hn : isIn H m = false) {s : It} (h : s ∈ H.drop (pos H m)) : m < s.n := by
  obtain ⟨i, hi, rfl⟩ := List.getElem_of_mem h
  rw [List.length_drop] at hi
  rw [List.getElem_drop]
  have hp : pos H m < H.length := by omega
  have h2 := List.findIdx_getElem (p := fun s : It => decide (m ≤ s.n)) (w := hp)
  have h3 : m ≤ (H[pos H m]'hp).n := of_decide_eq_true h2
  have h4 : H[pos H m + i].n ≠ m := by
    unfold isIn at hn
    rw [List.any_eq_false] at hn
    have := hn _ (List.getElem_mem (h := show pos H m + i < H.length by omega))
    simpa using this
  rcases Nat.eq_zero_or_pos i with h5 | h5
  · subst h5
    simp only [Nat.add_zero] at h4 ⊢
    omega
  · have h6 := hs (pos H m) (pos H m + i) _ _ (by omega) (List.getElem?_eq_getElem hp) (List.getElem?_eq_getElem (show pos H m + i < H.length by omega))
    omega
theorem ins_srt {H : List It} {s : It} (hs : Srt H) (hn : isIn H s.n = false) : Srt (insL H s) := by
  rw [srt_pw] at hs ⊢
  unfold insL
  rw [List.append_assoc, List.pairwise_append]
  refine ⟨hs.sublist (List.take_sublist _ _), ?_, fun a ha b hb => ?_⟩
  · rw [List.singleton_append, List.pairwise_cons]
    exact ⟨fun b hb => pos_hi (srt_pw.2 hs) hn hb, hs.sublist (List.drop_sublist _ _)⟩
  · have h1 := pos_lo ha
    rcases List.mem_append.1 hb with h | h
    · rw [List.mem_singleton.1 h]; exact h1
    · have := pos_hi (srt_pw.2 hs) hn h
      omega
theorem ins_mem {H : List It} {s t : It} (h : t ∈ insL H s) : t = s ∨ t ∈ H := by
  unfold insL at h
  rcases List.mem_append.1 h with h | h
  · rcases List.mem_append.1 h with h | h
    · exact .inr (List.mem_of_mem_take h)
    · exact .inl (List.mem_singleton.1 h)
  · exact .inr (List.mem_of_mem_drop h)
theorem pos_le (H : List It) (m : Int) : pos H m ≤ H.length := List.findIdx_le_length
theorem ins_len (H : List It) (s : It) : (insL H s).length = H.length + 1 := by
  have h := pos_le H s.n
  unfold insL
  simp only [List.length_append, List.length_take, List.length_drop, List.length_singleton]
  omega
theorem unt_0 {c : Cm} {s : It} {r : Int} (h : unt c s r = 0) : rt c = true ∧ wt c s.n r = true ∧ szB s.s = true := by
  unfold unt at h
  split at h
  · simp at h
  · rename_i h1
    split at h
    · simp at h
    · rename_i h2
      split at h
      · simp at h
      · rename_i h3
        exact ⟨by simpa using h1, by simpa using h2, by simpa using h3⟩
theorem wt_t {c : Cm} {m r : Int} (h : wt c m r = true) : c.dl ≤ m ∧ m < 2147483648 ∧ m - c.dl < min 4 r ∧ isIn c.H m = false := by
  unfold wt at h
  simp only [Bool.and_eq_true, decide_eq_true_eq, Bool.not_eq_true'] at h
  exact ⟨h.2.1, h.2.2.1, h.2.2.2.1, h.2.2.2.2⟩
theorem tk_dl {c : Cm} {s : It} {r : Int} (n : Nums c) (h : unt c s r = 0) : Dl c.dl (insL c.H s) := by
  obtain ⟨h1, h2, h3⟩ := unt_0 h
  have h4 := wt_t h2
  have h5 := rt_le h1
  have h6 := n.dl
  refine ⟨ins_srt (rt_srt h1) h4.2.2.2, fun t ht => ?_, ?_, ?_⟩
  · rcases ins_mem ht with rfl | h
    · exact h4.1
    · obtain ⟨k, hk, rfl⟩ := List.getElem_of_mem h
      have := rises_lo _ _ _ (rt_rises h1) k _ (List.getElem?_eq_getElem hk)
      omega
  · rw [ins_len]; omega
  · rw [ins_len]; omega
theorem dvH_lt (d : Int) (h : d < 4294967296) : (dvH d []).1 < 4294967296 := h
theorem dvH_nums : ∀ (H : List It) (d : Int), (∀ s ∈ H, s.Ok) → 0 ≤ d → d + H.length < 4294967296 → (∀ s ∈ (dvH d H).2.1, s.Ok) ∧ 0 ≤ (dvH d H).1 ∧ (dvH d H).1 < 4294967296
  | [], d, h, h0, h1 => ⟨h, h0, dvH_lt d (by simpa using h1)⟩
  | s :: H, d, h, h0, h1 => by
    simp only [List.length_cons] at h1
    by_cases hs : s.n = d
    · rw [dvH_go hs]
      exact dvH_nums H (d + 1) (fun t ht => h t (List.mem_cons_of_mem _ ht)) (by omega) (by omega)
    · have : dvH d (s :: H) = (d, s :: H, []) := by unfold dvH; rw [if_neg hs]
      rw [this]
      exact ⟨h, h0, by omega⟩
set_option maxHeartbeats 4000000 in
theorem take_ok (c : Cm) (x : Lc) (s : It) (r : Int) (w : World) (hc : Cin w c x) (hs : s.Ok) : Calls Try.prog 26 #[.agg (fl [[.int .u32 c.nx], [.slice x.ao x.no x.co], [.int .i64 c.tn], [.int .u32 c.dl], [.slice x.ah x.nh x.ch]]), .agg (fl [[.int .u32 s.n], [.string s.s]]), .int .i64 r] w (fun r_ w' => ∃ x' a' n' c', r_ = .returned (.tuple #[.agg (fl (cvs (tk c s r).1 x')), .slice a' n' c', .int .i64 (tk c s r).2.2]) ∧ Cin w' (tk c s r).1 x' ∧ Owx w.heap.size w' x' ∧ Or_ 1 9 w.heap.size w' (.slice a' n' c') ((tk c s r).2.1.map tr1) ∧ Gr w w') := by
  obtain ⟨T, hT⟩ : ∃ T : Ending → World → Prop, T = (fun r_ w' => ∃ x' a' n' c', r_ = .returned (.tuple #[.agg (fl (cvs (tk c s r).1 x')), .slice a' n' c', .int .i64 (tk c s r).2.2]) ∧ Cin w' (tk c s r).1 x' ∧ Owx w.heap.size w' x' ∧ Or_ 1 9 w.heap.size w' (.slice a' n' c') ((tk c s r).2.1.map tr1) ∧ Gr w w') := ⟨_, rfl⟩
  rw [← hT]
  replace hT := hide hT
  have hn := hc.o.len
  have hm := hc.h.len
  replace hc := hide hc
  obtain ⟨A0_, hA0_⟩ : ∃ S_, S_ = fl [[.int .u32 c.nx], [.slice x.ao x.no x.co], [.int .i64 c.tn], [.int .u32 c.dl], [.slice x.ah x.nh x.ch]] := ⟨_, rfl⟩
  rw [← hA0_]
  replace hA0_ := hide hA0_
  obtain ⟨A1_, hA1_⟩ : ∃ S_, S_ = fl [[.int .u32 s.n], [.string s.s]] := ⟨_, rfl⟩
  rw [← hA1_]
  replace hA1_ := hide hA1_
  go_enter Try.func26, Try.ntmps26
  go_upto_region 1 with fail
  have hB := ((((Bl.nil w).new A0_ 26).new A1_ 47).new (fl [[.int .u32 0], [.slice none 0 0], [.int .i64 0], [.int .u32 0], [.slice none 0 0]]) 26)
  simp only [size_alloc, List.nil_append, List.cons_append] at hB
  rw [unhide hA0_, unhide hA1_] at hB
  generalize hu_ : World.alloc _ _ = u0
  replace hB : Bl w [⟨w.heap.size, fl [[.int .u32 c.nx], [.slice x.ao x.no x.co], [.int .i64 c.tn], [.int .u32 c.dl], [.slice x.ah x.nh x.ch]], 26⟩, ⟨w.heap.size + 1, fl [[.int .u32 s.n], [.string s.s]], 47⟩, ⟨w.heap.size + 1 + 1, fl [[.int .u32 0], [.slice none 0 0], [.int .i64 0], [.int .u32 0], [.slice none 0 0]], 26⟩] u0 := by
    rw [← hu_]
    rw [unhide hA0_, unhide hA1_]
    exact hB
  clear hu_ hA0_ hA1_
  refine wp_region_lit ?_
  refine list_val (.agg (fl [[.int .u32 c.nx], [.slice x.ao x.no x.co], [.int .i64 c.tn], [.int .u32 c.dl], [.slice x.ah x.nh x.ch]])) (by kernel_rfl) (exec_sw _ 26 (.tmp 3) rfl (w.heap.size) (by kernel_rfl) (hB.get 0 (x := ⟨w.heap.size, fl [[.int .u32 c.nx], [.slice x.ao x.no x.co], [.int .i64 c.tn], [.int .u32 c.dl], [.slice x.ah x.nh x.ch]], 26⟩) rfl) NC (nC  _ _ _ _ _) Try.underlying26 rfl (by kernel_rfl)) ?_
  simp only [nrm]
  refine list_val (.agg (fl [[.int .u32 s.n], [.string s.s]])) (by kernel_rfl) (exec_sw _ 47 (.tmp 4) rfl (w.heap.size + 1) (by kernel_rfl) (hB.get 1 (x := ⟨w.heap.size + 1, fl [[.int .u32 s.n], [.string s.s]], 47⟩) rfl) NI (nI  _ _) Try.underlying47 rfl (by kernel_rfl)) ?_
  simp only [nrm]
  refine lvk (.int .i64 r) ?_
  simp only [nrm]
  refine list_call 39 #[.agg (fl [[.int .u32 c.nx], [.slice x.ao x.no x.co], [.int .i64 c.tn], [.int .u32 c.dl], [.slice x.ah x.nh x.ch]]), .agg (fl [[.int .u32 s.n], [.string s.s]]), .int .i64 r] (by kernel_rfl) (by kernel_rfl) ((untaken_ok c x s r u0 ((unhide hc).gr hB.gr) hs).mono ?_)
  rintro r_ u1 ⟨rfl, hg⟩
  replace hB := hB.more hg
  clear hg
  refine ⟨_, rfl, ?_⟩
  simp only [nrm]
  (refine wpList_step fun K hK => ?_; replace hK := hide hK; go_simp; refine unhide hK _ _ ?_; clear hK K)
  refine wpList_nil ?_
  by_cases h1 : unt c s r = 0
  rotate_left
  · have hv : tk c s r = (cz, [], unt c s r) := by unfold tk; rw [if_neg h1]
    replace h1 := hide h1
    replace hB := hide hB
    go_upto_region 2 with fail
    replace hB := unhide hB
    refine wp_region_lit ?_
    refine lvk (.int .i64 (unt c s r)) ?_
    simp only [nrm]
    refine list_val (.bool true) (by kernel_rfl) (neq_e _ (.tmp 17) (.const (.int .i64 0)) (unt c s r) 0 true rfl (by kernel_rfl) (by kernel_rfl) (decide_eq_true (unhide h1))) ?_
    simp only [nrm]
    refine wpList_nil ?_
    replace hB := hide hB
    go_upto_region 3 with fail
    replace hB := unhide hB
    refine wp_region_lit ?_
    refine list_val (.agg (fl [[.int .u32 0], [.slice none 0 0], [.int .i64 0], [.int .u32 0], [.slice none 0 0]])) (by kernel_rfl) (bC _ rfl) ?_
    simp only [nrm]
    refine lvk (.int .i64 (unt c s r)) ?_
    simp only [nrm]
    refine list_all 26 (.tmp 6) (.tmp 19) (w.heap.size + 1 + 1) (S2 := [[.int .u32 0], [.slice none 0 0], [.int .i64 0], [.int .u32 0], [.slice none 0 0]]) (by kernel_rfl) rfl (by kernel_rfl) (by kernel_rfl) hB 2 rfl NC (nC  _ _ _ _ _) (nC  _ _ _ _ _) (by kernel_rfl) (oC  rfl rfl rfl rfl rfl) ?_
    intro u2 hB_ hbt_
    clear hB
    replace hB : Bl w [⟨w.heap.size, fl [[.int .u32 c.nx], [.slice x.ao x.no x.co], [.int .i64 c.tn], [.int .u32 c.dl], [.slice x.ah x.nh x.ch]], 26⟩, ⟨w.heap.size + 1, fl [[.int .u32 s.n], [.string s.s]], 47⟩, ⟨w.heap.size + 1 + 1, fl [[.int .u32 0], [.slice none 0 0], [.int .i64 0], [.int .u32 0], [.slice none 0 0]], 26⟩] u2 := hB_
    clear hB_
    clear hbt_
    simp only [nrm]
    (refine wpList_step fun K hK => ?_; replace hK := hide hK; go_simp; refine unhide hK _ _ ?_; clear hK K)
    (refine wpList_step fun K hK => ?_; replace hK := hide hK; go_simp; refine unhide hK _ _ ?_; clear hK K)
    refine wpList_nil ?_
    replace hB := hide hB
    go_wp2_with fail
    replace hB := unhide hB
    rw [unhide hT]
    rw [hv]
    exact bodyPost_ret (v := .tuple #[.agg (fl [[.int .u32 0], [.slice none 0 0], [.int .i64 0], [.int .u32 0], [.slice none 0 0]]), .slice none 0 0, .int .i64 (unt c s r)]) (res3 Try.results26 (rv_cell (by kernel_rfl) (hB.get 2 (x := ⟨w.heap.size + 1 + 1, fl [[.int .u32 0], [.slice none 0 0], [.int .i64 0], [.int .u32 0], [.slice none 0 0]], 26⟩) rfl) Try.underlying26 rfl (by rw [fl_size (nC  _ _ _ _ _)]; kernel_rfl)) (rv_tmp (by kernel_rfl)) (rv_tmp (by kernel_rfl))) rfl (⟨xz, none, 0, 0, rfl, cin_z _, owx_z _ _, or_none _ _ _ _, hB.gr⟩)
  have hv : tk c s r = (dvC (tkC c s), (dvH c.dl (insL c.H s)).2.2, 0) := by unfold tk; rw [if_pos h1]
  have hdl := tk_dl (unhide hc).nums h1
  have hu := unt_0 h1
  have hle := rt_le hu.1
  have hsr := rt_srt hu.1
  have hnm : Nums (tkC c s) := ⟨(unhide hc).nums.O, fun t ht => (by rcases ins_mem ht with rfl | h; exact hs; exact (unhide hc).nums.H t h), (unhide hc).nx, (unhide hc).tn, (unhide hc).dl⟩
  have hnh3 : x.nh ≤ 3 := by rw [← hm]; exact hle.2.2
  have hno4 : x.no ≤ 4 := by rw [← hn]; exact hle.2.1.1
  clear hu hle hn
  replace hv := hide hv; replace hdl := hide hdl; replace hsr := hide hsr; replace hnm := hide hnm; replace h1 := hide h1
  replace hB := hide hB
  go_upto_region 2 with fail
  replace hB := unhide hB
  refine wp_region_lit ?_
  refine lvk (.int .i64 (unt c s r)) ?_
  simp only [nrm]
  refine list_val (.bool false) (by kernel_rfl) (neq_e _ (.tmp 17) (.const (.int .i64 0)) (unt c s r) 0 false rfl (by kernel_rfl) (by kernel_rfl) (by simp [unhide h1])) ?_
  simp only [nrm]
  refine wpList_nil ?_
  replace hB := hide hB
  go_upto_region 4 with fail
  replace hB := unhide hB
  have hb0 : w.heap.size ≤ u1.heap.size := hB.gr.size
  refine wp_region_lit ?_
  refine list_val (.agg (fl [[.int .u32 c.nx], [.slice x.ao x.no x.co], [.int .i64 c.tn], [.int .u32 c.dl], [.slice x.ah x.nh x.ch]])) (by kernel_rfl) (exec_sw _ 26 (.tmp 3) rfl (w.heap.size) (by kernel_rfl) (hB.get 0 (x := ⟨w.heap.size, fl [[.int .u32 c.nx], [.slice x.ao x.no x.co], [.int .i64 c.tn], [.int .u32 c.dl], [.slice x.ah x.nh x.ch]], 26⟩) rfl) NC (nC  _ _ _ _ _) Try.underlying26 rfl (by kernel_rfl)) ?_
  simp only [nrm]
  refine list_call 35 #[.agg (fl [[.int .u32 c.nx], [.slice x.ao x.no x.co], [.int .i64 c.tn], [.int .u32 c.dl], [.slice x.ah x.nh x.ch]])] (by kernel_rfl) (by kernel_rfl) ((copied_ok c x u1 ((unhide hc).gr hB.gr) (by omega) (by omega)).mono ?_)
  rintro r_ u2 ⟨x1, rfl, hW, hn1, hh1, hg⟩
  replace hB := hB.more hg
  clear hg
  replace hW := hide (show Own w.heap.size u2 c x1 from ⟨or_base hW.o hb0, or_base hW.h hb0⟩)
  refine ⟨_, rfl, ?_⟩
  simp only [nrm]
  have hzz_ : Hid (u2.heap[w.heap.size]? = some (.cells (fl [[.int .u32 c.nx], [.slice x.ao x.no x.co], [.int .i64 c.tn], [.int .u32 c.dl], [.slice x.ah x.nh x.ch]]) 26 (0, 0))) := hide (hB.get 0 (x := ⟨w.heap.size, fl [[.int .u32 c.nx], [.slice x.ao x.no x.co], [.int .i64 c.tn], [.int .u32 c.dl], [.slice x.ah x.nh x.ch]], 26⟩) rfl)
  refine list_all 26 (.tmp 3) (.tmp 22) (w.heap.size) (S2 := [[.int .u32 c.nx], [.slice x1.ao x1.no x1.co], [.int .i64 c.tn], [.int .u32 c.dl], [.slice x1.ah x1.nh x1.ch]]) (by kernel_rfl) rfl (by kernel_rfl) (by kernel_rfl) hB 0 rfl NC (nC  _ _ _ _ _) (nC  _ _ _ _ _) (by kernel_rfl) (oC  rfl rfl rfl rfl rfl) ?_
  intro u3 hB_ hbt_
  clear hB
  replace hB : Bl w [⟨w.heap.size, fl [[.int .u32 c.nx], [.slice x1.ao x1.no x1.co], [.int .i64 c.tn], [.int .u32 c.dl], [.slice x1.ah x1.nh x1.ch]], 26⟩, ⟨w.heap.size + 1, fl [[.int .u32 s.n], [.string s.s]], 47⟩, ⟨w.heap.size + 1 + 1, fl [[.int .u32 0], [.slice none 0 0], [.int .i64 0], [.int .u32 0], [.slice none 0 0]], 26⟩] u3 := hB_
  clear hB_
  replace hW := hide ((unhide hW).bz (unhide hzz_) hbt_)
  clear hbt_ hzz_
  simp only [nrm]
  refine wpList_nil ?_
  replace hB := hide hB
  go_upto_region 5 with fail
  replace hB := unhide hB
  refine wp_region_lit ?_
  refine lvk (.pointer (some ⟨w.heap.size, 4, none⟩)) ?_
  simp only [nrm]
  refine list_val (.slice x1.ah x1.nh x1.ch) (by kernel_rfl) (exec_csI _ (.tmp 24) rfl (w.heap.size) 4 (by kernel_rfl) x1.ah x1.nh x1.ch (seg_cell (nC  _ _ _ _ _) (hB.get 0 (x := ⟨w.heap.size, fl [[.int .u32 c.nx], [.slice x1.ao x1.no x1.co], [.int .i64 c.tn], [.int .u32 c.dl], [.slice x1.ah x1.nh x1.ch]], 26⟩) rfl) 4 (v := .slice x1.ah x1.nh x1.ch) rfl rfl)) ?_
  simp only [nrm]
  refine lvk (.pointer (some ⟨w.heap.size + 1, 0, none⟩)) ?_
  simp only [nrm]
  refine list_val (.int .u32 s.n) (by kernel_rfl) (exec_c32 _ (.tmp 26) rfl (w.heap.size + 1) 0 (by kernel_rfl) s.n (seg_cell (nI  _ _) (hB.get 1 (x := ⟨w.heap.size + 1, fl [[.int .u32 s.n], [.string s.s]], 47⟩) rfl) 0 (v := .int .u32 s.n) rfl rfl)) ?_
  simp only [nrm]
  refine list_call 37 #[.slice x1.ah x1.nh x1.ch, .int .u32 s.n] (by kernel_rfl) (by kernel_rfl) ((place_ok c.H s.n x1.ah x1.nh x1.ch (by omega) u3 ⟨(unhide hc).h.1, (or_slice (unhide hW).h).2⟩ (unhide hsr)).mono ?_)
  rintro r_ u4 ⟨rfl, hg⟩
  replace hW := hide ((unhide hW).gr hg)
  replace hB := hB.more hg
  clear hg
  refine ⟨_, rfl, ?_⟩
  simp only [nrm]
  refine lvk (.tuple #[.int .i64 (pos c.H s.n : Int), .bool (isIn c.H s.n)]) ?_
  simp only [nrm]
  refine lvk (.int .i64 (pos c.H s.n : Int)) ?_
  simp only [nrm]
  refine lvk (.bool (isIn c.H s.n)) ?_
  simp only [nrm]
  (refine wpList_step fun K hK => ?_; replace hK := hide hK; go_simp; refine unhide hK _ _ ?_; clear hK K)
  (refine wpList_step fun K hK => ?_; replace hK := hide hK; go_simp; refine unhide hK _ _ ?_; clear hK K)
  refine wpList_nil ?_
  replace hB := hide hB
  go_upto_region 6 with fail
  replace hB := unhide hB
  refine wp_region_lit ?_
  refine lvk (.pointer (some ⟨w.heap.size, 4, none⟩)) ?_
  simp only [nrm]
  refine list_val (.slice x1.ah x1.nh x1.ch) (by kernel_rfl) (exec_csI _ (.tmp 31) rfl (w.heap.size) 4 (by kernel_rfl) x1.ah x1.nh x1.ch (seg_cell (nC  _ _ _ _ _) (hB.get 0 (x := ⟨w.heap.size, fl [[.int .u32 c.nx], [.slice x1.ao x1.no x1.co], [.int .i64 c.tn], [.int .u32 c.dl], [.slice x1.ah x1.nh x1.ch]], 26⟩) rfl) 4 (v := .slice x1.ah x1.nh x1.ch) rfl rfl)) ?_
  simp only [nrm]
  refine lvk (.int .i64 (pos c.H s.n : Int)) ?_
  simp only [nrm]
  refine list_val (.agg (fl [[.int .u32 s.n], [.string s.s]])) (by kernel_rfl) (exec_sw _ 47 (.tmp 4) rfl (w.heap.size + 1) (by kernel_rfl) (hB.get 1 (x := ⟨w.heap.size + 1, fl [[.int .u32 s.n], [.string s.s]], 47⟩) rfl) NI (nI  _ _) Try.underlying47 rfl (by kernel_rfl)) ?_
  simp only [nrm]
  refine list_valw (.slice (some ⟨u4.heap.size, 0, none⟩) 1 1) (u4.alloc (.cells (fl [[.int .u32 s.n], [.string s.s]]) 47 (0, 0))) (by kernel_rfl) (exec_bsi _ (.tmp 34) rfl s (by kernel_rfl)) ?_
  have hS := hide (blk_new u4 (.cells (fl [[.int .u32 s.n], [.string s.s]]) 47 (0, 0)))
  have hnS := (unhide hW).newI
  have hg := (Gr.refl u4).alloc (.cells (fl [[.int .u32 s.n], [.string s.s]]) 47 (0, 0))
  replace hW := hide ((unhide hW).gr hg)
  replace hB := Bl.dr (hB.more hg)
  clear hg
  generalize World.alloc _ _ = u5 at *
  generalize u4.heap.size = gs at *
  simp only [nrm]
  refine list_call 40 #[.slice x1.ah x1.nh x1.ch, .int .i64 (pos c.H s.n : Int), .slice (some ⟨gs, 0, none⟩) 1 1] (by kernel_rfl) (by kernel_rfl) ((insert_ok (c.H.map itr) s x1.ah x1.nh x1.ch (pos c.H s.n) w.heap.size gs (by omega) (by have h9 := pos_le c.H s.n; omega) u5 (unhide hW).h (fun r_ hr_ u_ hu_ => (by obtain ⟨s_, _, rfl⟩ := List.mem_map.1 hr_; exact itr_one s_ u_ hu_)) hB.gr.size (unhide hS) hnS).mono ?_)
  rintro r_ u6 ⟨a9, c9, rfl, hO9, hgr⟩
  replace hB := hB.grownR (unhide hW).h (Nat.le_refl _) hgr (by intro y_ hy_; simp only [List.mem_cons, List.not_mem_nil, or_false] at hy_; rcases hy_ with rfl | rfl <;> (dsimp only; decide))
  have e9 : (c.H.map itr).take (pos c.H s.n) ++ [itr s] ++ (c.H.map itr).drop (pos c.H s.n) = (insL c.H s).map itr := by unfold insL; simp
  rw [e9] at hO9
  replace hW := hide (show Own w.heap.size u6 (tkC c s) ⟨x1.ao, x1.no, x1.co, a9, x1.nh + 1, c9⟩ from ⟨or_grown (unhide hW).o (unhide hW).h hgr (by decide), hO9⟩)
  clear hgr hO9 e9 hS hnS
  refine ⟨_, rfl, ?_⟩
  simp only [nrm]
  refine lvk (.pointer (some ⟨w.heap.size, 4, none⟩)) ?_
  simp only [nrm]
  have hzz_ : Hid (u6.heap[w.heap.size]? = some (.cells (fl [[.int .u32 c.nx], [.slice x1.ao x1.no x1.co], [.int .i64 c.tn], [.int .u32 c.dl], [.slice x1.ah x1.nh x1.ch]]) 26 (0, 0))) := hide (hB.get 0 (x := ⟨w.heap.size, fl [[.int .u32 c.nx], [.slice x1.ao x1.no x1.co], [.int .i64 c.tn], [.int .u32 c.dl], [.slice x1.ah x1.nh x1.ch]], 26⟩) rfl)
  refine list_csI (.tmp 37) (.tmp 36) (w.heap.size) 4 a9 (x1.nh + 1) c9 (by kernel_rfl) rfl (by kernel_rfl) (by kernel_rfl) hB 0 rfl NC (nC  _ _ _ _ _) 4 _ rfl rfl ?_
  intro u7 hB_ hbt_
  clear hB
  replace hB : Bl w [⟨w.heap.size, fl [[.int .u32 c.nx], [.slice x1.ao x1.no x1.co], [.int .i64 c.tn], [.int .u32 c.dl], [.slice a9 (x1.nh + 1) c9]], 26⟩, ⟨w.heap.size + 1 + 1, fl [[.int .u32 0], [.slice none 0 0], [.int .i64 0], [.int .u32 0], [.slice none 0 0]], 26⟩] u7 := hB_
  clear hB_
  replace hW := hide ((unhide hW).bz (unhide hzz_) hbt_)
  clear hbt_ hzz_
  simp only [nrm]
  refine wpList_nil ?_
  replace hB := hide hB
  go_upto_region 7 with fail
  replace hB := unhide hB
  refine wp_region_lit ?_
  refine list_val (.agg (fl [[.int .u32 c.nx], [.slice x1.ao x1.no x1.co], [.int .i64 c.tn], [.int .u32 c.dl], [.slice a9 (x1.nh + 1) c9]])) (by kernel_rfl) (exec_sw _ 26 (.tmp 3) rfl (w.heap.size) (by kernel_rfl) (hB.get 0 (x := ⟨w.heap.size, fl [[.int .u32 c.nx], [.slice x1.ao x1.no x1.co], [.int .i64 c.tn], [.int .u32 c.dl], [.slice a9 (x1.nh + 1) c9]], 26⟩) rfl) NC (nC  _ _ _ _ _) Try.underlying26 rfl (by kernel_rfl)) ?_
  simp only [nrm]
  refine list_call 41 #[.agg (fl [[.int .u32 c.nx], [.slice x1.ao x1.no x1.co], [.int .i64 c.tn], [.int .u32 c.dl], [.slice a9 (x1.nh + 1) c9]])] (by kernel_rfl) (by kernel_rfl) ((deliver_ok (tkC c s) ⟨x1.ao, x1.no, x1.co, a9, x1.nh + 1, c9⟩ w u7 hB.gr (unhide hW) (unhide hnm) (unhide hdl)).mono ?_)
  rintro r_ u8 ⟨x2, l8, n8, c8, rfl, hO2, hL2, hNt, hg9⟩
  replace hB := hB.nt hNt hg9 (by intro y_ hy_; simp only [List.mem_cons, List.not_mem_nil, or_false] at hy_; rcases hy_ with rfl | rfl <;> (dsimp only; decide))
  clear hW hNt hg9
  have hW := hide hO2
  have hL := hide hL2
  clear hO2 hL2
  obtain ⟨e, he⟩ : ∃ e, e = dvC (tkC c s) := ⟨_, rfl⟩
  rw [← he] at hW hv ⊢
  replace he := hide he
  refine ⟨_, rfl, ?_⟩
  simp only [nrm]
  refine lvk (.tuple #[.agg (fl [[.int .u32 e.nx], [.slice x2.ao x2.no x2.co], [.int .i64 e.tn], [.int .u32 e.dl], [.slice x2.ah x2.nh x2.ch]]), .slice l8 n8 c8]) ?_
  simp only [nrm]
  refine lvk (.agg (fl [[.int .u32 e.nx], [.slice x2.ao x2.no x2.co], [.int .i64 e.tn], [.int .u32 e.dl], [.slice x2.ah x2.nh x2.ch]])) ?_
  simp only [nrm]
  refine lvk (.slice l8 n8 c8) ?_
  simp only [nrm]
  have hzz_ : Hid (u8.heap[w.heap.size]? = some (.cells (fl [[.int .u32 c.nx], [.slice x1.ao x1.no x1.co], [.int .i64 c.tn], [.int .u32 c.dl], [.slice a9 (x1.nh + 1) c9]]) 26 (0, 0))) := hide (hB.get 0 (x := ⟨w.heap.size, fl [[.int .u32 c.nx], [.slice x1.ao x1.no x1.co], [.int .i64 c.tn], [.int .u32 c.dl], [.slice a9 (x1.nh + 1) c9]], 26⟩) rfl)
  refine list_all 26 (.tmp 3) (.tmp 41) (w.heap.size) (S2 := [[.int .u32 e.nx], [.slice x2.ao x2.no x2.co], [.int .i64 e.tn], [.int .u32 e.dl], [.slice x2.ah x2.nh x2.ch]]) (by kernel_rfl) rfl (by kernel_rfl) (by kernel_rfl) hB 0 rfl NC (nC  _ _ _ _ _) (nC  _ _ _ _ _) (by kernel_rfl) (oC  rfl rfl rfl rfl rfl) ?_
  intro u9 hB_ hbt_
  clear hB
  replace hB : Bl w [⟨w.heap.size, fl [[.int .u32 e.nx], [.slice x2.ao x2.no x2.co], [.int .i64 e.tn], [.int .u32 e.dl], [.slice x2.ah x2.nh x2.ch]], 26⟩, ⟨w.heap.size + 1 + 1, fl [[.int .u32 0], [.slice none 0 0], [.int .i64 0], [.int .u32 0], [.slice none 0 0]], 26⟩] u9 := hB_
  clear hB_
  replace hW := hide ((unhide hW).bz (unhide hzz_) hbt_)
  replace hL := hide ((unhide hL).bz (unhide hzz_) hbt_)
  clear hbt_ hzz_
  simp only [nrm]
  (refine wpList_step fun K hK => ?_; replace hK := hide hK; go_simp; refine unhide hK _ _ ?_; clear hK K)
  refine wpList_nil ?_
  replace hB := hide hB
  go_upto_region 8 with fail
  replace hB := unhide hB
  refine wp_region_lit ?_
  refine list_val (.agg (fl [[.int .u32 e.nx], [.slice x2.ao x2.no x2.co], [.int .i64 e.tn], [.int .u32 e.dl], [.slice x2.ah x2.nh x2.ch]])) (by kernel_rfl) (exec_sw _ 26 (.tmp 3) rfl (w.heap.size) (by kernel_rfl) (hB.get 0 (x := ⟨w.heap.size, fl [[.int .u32 e.nx], [.slice x2.ao x2.no x2.co], [.int .i64 e.tn], [.int .u32 e.dl], [.slice x2.ah x2.nh x2.ch]], 26⟩) rfl) NC (nC  _ _ _ _ _) Try.underlying26 rfl (by kernel_rfl)) ?_
  simp only [nrm]
  refine lvk (.slice l8 n8 c8) ?_
  simp only [nrm]
  have hzz_ : Hid (u9.heap[w.heap.size + 1 + 1]? = some (.cells (fl [[.int .u32 0], [.slice none 0 0], [.int .i64 0], [.int .u32 0], [.slice none 0 0]]) 26 (0, 0))) := hide (hB.get 1 (x := ⟨w.heap.size + 1 + 1, fl [[.int .u32 0], [.slice none 0 0], [.int .i64 0], [.int .u32 0], [.slice none 0 0]], 26⟩) rfl)
  refine list_all 26 (.tmp 6) (.tmp 43) (w.heap.size + 1 + 1) (S2 := [[.int .u32 e.nx], [.slice x2.ao x2.no x2.co], [.int .i64 e.tn], [.int .u32 e.dl], [.slice x2.ah x2.nh x2.ch]]) (by kernel_rfl) rfl (by kernel_rfl) (by kernel_rfl) hB 1 rfl NC (nC  _ _ _ _ _) (nC  _ _ _ _ _) (by kernel_rfl) (oC  rfl rfl rfl rfl rfl) ?_
  intro u10 hB_ hbt_
  clear hB
  replace hB : Bl w [⟨w.heap.size, fl [[.int .u32 e.nx], [.slice x2.ao x2.no x2.co], [.int .i64 e.tn], [.int .u32 e.dl], [.slice x2.ah x2.nh x2.ch]], 26⟩, ⟨w.heap.size + 1 + 1, fl [[.int .u32 e.nx], [.slice x2.ao x2.no x2.co], [.int .i64 e.tn], [.int .u32 e.dl], [.slice x2.ah x2.nh x2.ch]], 26⟩] u10 := hB_
  clear hB_
  replace hW := hide ((unhide hW).bz (unhide hzz_) hbt_)
  replace hL := hide ((unhide hL).bz (unhide hzz_) hbt_)
  clear hbt_ hzz_
  simp only [nrm]
  (refine wpList_step fun K hK => ?_; replace hK := hide hK; go_simp; refine unhide hK _ _ ?_; clear hK K)
  (refine wpList_step fun K hK => ?_; replace hK := hide hK; go_simp; refine unhide hK _ _ ?_; clear hK K)
  refine wpList_nil ?_
  have hne : Nums e := by
    have h9 := dvH_nums (insL c.H s) c.dl (unhide hnm).H (unhide hdl).2.2.1.1 (unhide hdl).2.2.1.2
    rw [unhide he]
    exact ⟨(unhide hnm).O, h9.1, (unhide hnm).nx, (unhide hnm).tn, h9.2⟩
  replace hB := hide hB
  go_wp2_with fail
  replace hB := unhide hB
  rw [unhide hT]
  rw [unhide hv]
  exact bodyPost_ret (v := .tuple #[.agg (fl [[.int .u32 e.nx], [.slice x2.ao x2.no x2.co], [.int .i64 e.tn], [.int .u32 e.dl], [.slice x2.ah x2.nh x2.ch]]), .slice l8 n8 c8, .int .i64 0]) (res3 Try.results26 (rv_cell (by kernel_rfl) (hB.get 1 (x := ⟨w.heap.size + 1 + 1, fl [[.int .u32 e.nx], [.slice x2.ao x2.no x2.co], [.int .i64 e.tn], [.int .u32 e.dl], [.slice x2.ah x2.nh x2.ch]], 26⟩) rfl) Try.underlying26 rfl (by rw [fl_size (nC  _ _ _ _ _)]; kernel_rfl)) (rv_tmp (by kernel_rfl)) (rv_tmp (by kernel_rfl))) rfl (⟨x2, l8, n8, c8, rfl, (unhide hW).cin hne, (unhide hW).owx, unhide hL, hB.gr⟩)
end Go.Proofs.Ytcefkkoombmndaa
