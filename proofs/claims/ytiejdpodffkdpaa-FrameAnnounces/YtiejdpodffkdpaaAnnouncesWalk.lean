/-
  FrameAnnounces: which announcements may be, and their bytes.
-/
import Derived.Test.YtiejdpodffkdpaaGD
import Derived.Test.YtiejdpodffkdpaaFW
import Derived.Great.BuildSlice
namespace Go.Proofs.Ytiejdpodffkdpaa
open Go.RowKit
set_option maxRecDepth 100000
set_option linter.unusedSimpArgs false
set_option linter.unusedVariables false
theorem exec_uptok {a : Act} {o : Oper} (w : World) (x y : Operand) (ho : o.op = .slice 23 x none (some y) none) (s : Option Addr) (len cap n : Nat) (hx : a.eval x = .slice s len cap) (hy : a.eval y = .int .i64 n) (hc : len ≤ cap) (hn : n ≤ len) :
    (execOp a.eval o).run Try.prog w = .ok (.value (.slice s n cap)) w := by
  have h1 : (0 : Int) ≤ n := by omega
  have h2 : (n : Int) ≤ cap := by omega
  have hu : Try.prog.underlying 23 = some (.slice (Try.prog.elem 23)) := by kernel_rfl
  have hz : (sizeOf (Try.prog.elem 23)).run Try.prog w = .ok 32 w := by kernel_rfl
  have e : (if cap = 0 then s else s.map (·.add 0)) = s := by cases s <;> simp [Addr.add]
  simp [execOp, ho, hx, hy, run_sliceAt_slice _ _ _ _ _ _ hu, run_slice_h _ _ _ _ _ hu _ _ h1 h2, hz, sliced, e]
def K9 : List Int := 9 :: List.replicate 31 0
theorem K9_len : K9.length = 32 := rfl
theorem Try.infoKzq : (Try.prog.info? 30).map (fun i => (i.zero, i.size, i.bytes)) = some (some (.agg (kc Z32)), 32, 32) := by kernel_rfl
theorem exec_mk {a : Act} {o : Oper} (w : World) (x : Operand) (ho : o.op = .makeSlice 23 (.const (.int .i64 0)) x) (m : Nat) (hm : m ≤ 8796093022208) (hx : a.eval x = .int .i64 (m : Int)) :
    (execOp a.eval o).run Try.prog w = .ok (.value (.slice (some ⟨w.heap.size, 0, none⟩) 0 m)) (w.alloc (.cells (madeCells (Value.agg (kc Z32)).cells (m * 32)) 30 (0, 0))) := by
  obtain ⟨i, h2, h3, h4, h5⟩ := info_parts Try.infoKzq
  have hrun := run_make (P := Try.prog) w 23 30 i (.agg (kc Z32)) Try.underlying23 h2 h3 .i64 .i64 (0 : Int) (m : Int) (by omega) (by omega) (by rw [h5]; omega) (by omega)
  rw [h4] at hrun
  simp only [Int.toNat_natCast] at hrun
  have hz : a.eval (.const (.int .i64 0)) = .int .i64 0 := rfl
  simp [execOp, ho, hz, hx, hrun, Result.andThen]
theorem y4_b {a : Act} {o : Oper} (w : World) (ho : o.op = .build 30 #[(0, .const (.int .u8 9))]) : (execOp a.eval o).run Try.prog w = .ok (.value (.agg (kc K9))) w := by
  unfold execOp
  simp only [ho]
  kernel_rfl
theorem y4_2 {a : Act} {o : Oper} (w : World) (x : Operand) (ho : o.op = .binOp .add 3 x (.const (.int .i64 2)) 3) (m : Nat) (hm : m ≤ 8796093022208) (hx : a.eval x = .int .i64 (m : Int)) : (execOp a.eval o).run Try.prog w = .ok (.value (.int .i64 ((m + 2 : Nat) : Int))) w := by
  have h : IntKind.i64.wrap ((m : Int) + 2) = ((m + 2 : Nat) : Int) := by rw [IntKind.wrap_i64]; omega
  unfold execOp
  simp only [ho, hx]
  go_simp
theorem Ls.pre {w : World} {p q n c : Nat} {R : List (List Value)} {x : List Value} (h : Ls 32 w (some ⟨p, q, none⟩) (n + 1) c (R ++ [x])) (hR : R.length = n) : Ls 32 w (some ⟨p, q, none⟩) n c R := by
  refine ⟨hR, fun r hr => h.row r (List.mem_append_left _ hr), ?_, by have := h.cap; omega, h.max, h.low⟩
  rcases h.sl with h1 | ⟨p', o', h1, h2⟩
  · simp at h1
  · refine .inr ⟨p', o', h1, fun j y hj => h2 j y ?_⟩
    rw [List.flatten_append]
    rw [List.getElem?_append_left (List.getElem?_eq_some_iff.1 hj).1]
    exact hj
theorem jhops_nil (a b : Option Addr) (c d : Nat) (w : World) : Calls Try.prog 7 #[.slice a 0 c, .slice b 0 d] w (Vl (.bool true) w) := by
  obtain ⟨T, hT⟩ : ∃ T, T = Vl (.bool true) w := ⟨_, rfl⟩
  rw [← hT]
  have hZ : Hid (T (.returned (.bool true)) w) := by rw [hT]; exact ⟨rfl, Gr.refl _⟩
  replace hT := hide hT
  go_enter Try.func7, Try.ntmps7
  go_wp2_with fail
  refine wp_loop_rounds 1 ?_
  rw [rounds_succ]
  go_wp2_with fail
  exact unhide hZ
theorem bv_K9 (u : Value) (h : u ∈ bv K9) : u.oneCell' = true := by
  unfold bv at h
  obtain ⟨x, _, rfl⟩ := List.mem_map.1 h
  rfl
theorem anB_len0 (r : Int) (ks : List (List Int)) (hks : KsOk ks) (hn : ks.length ≤ 3) : (anB r ks).length = 106 := by
  have h1 := flat32 hks
  have h3 : (anH r ks.length).length = 10 := by unfold anH; simp [lowL_len]
  unfold anB
  rw [List.length_append, List.length_append, h1, h3, List.length_replicate]
  omega
theorem anB_isB0 (r : Int) (ks : List (List Int)) (hks : KsOk ks) (hn : ks.length ≤ 3) : IsB (anB r ks) := by
  unfold anB anH
  refine isB_append (isB_append (isB_append (isB_append (isB_one (by omega)) (lowL_isB r 8)) (isB_one (by omega))) ?_) ?_
  · intro x hx
    obtain ⟨k, hk, hx⟩ := List.mem_flatten.1 hx
    exact (hks k hk).2 x hx
  · intro x hx
    rw [List.eq_of_mem_replicate hx]
    omega
set_option maxHeartbeats 4000000 in
theorem ann_yes (r : Int) (hr : 0 ≤ r ∧ r < 18446744073709551616) (a : Option Addr) (n c : Nat) (ks : List (List Int)) (hks : KsOk ks) (hkn : ks.length = n) (hnb : n ≤ 4398046511104) (w : World) (hsl : n = 0 ∨ ∃ p q, a = some ⟨p, q, none⟩ ∧ Ls 32 w (some ⟨p, q, none⟩) n c (ks.map bv)) (l : List Int) (t : Option Addr) (len cap : Nat) (lb : Lb w t len cap l) (hn1 : 1 ≤ n) (hR : anR r n = true) : Calls Try.prog 3 #[.agg (#[.int .u64 r, .slice a n c] : Array Value), .slice t len cap] w (Woke w) := by
  obtain ⟨T, hT⟩ : ∃ T, T = Woke w := ⟨_, rfl⟩
  rw [← hT]
  replace hT := hide hT
  have hnn : ks.length ≤ 3 := by rw [hkn]; unfold anR at hR; have := of_decide_eq_true hR; omega
  obtain ⟨p, q, rfl, lk⟩ : ∃ p q, a = some ⟨p, q, none⟩ ∧ Ls 32 w (some ⟨p, q, none⟩) n c (ks.map bv) := by
    rcases hsl with h | h
    · omega
    · exact h
  obtain ⟨SA, hSA⟩ : ∃ S, S = (#[.int .u64 r, .slice (some ⟨p, q, none⟩) n c] : Array Value) := ⟨_, rfl⟩
  rw [← hSA]
  replace hSA := hide hSA
  replace lb := hide lb
  replace lk := hide lk
  replace hks := hide hks
  replace hkn := hide hkn
  go_enter Try.func3, Try.ntmps3
  go_upto_region 1 with fail
  have hB := (Bl.nil w).new SA 25
  simp only [List.nil_append] at hB
  generalize World.alloc _ _ = u at *
  rw [unhide hSA] at hB
  replace hB : Bl w [⟨w.heap.size, (#[.int .u64 r, .slice (some ⟨p, q, none⟩) n c] : Array Value), 25⟩] u := hB
  refine wp_region_lit ?_
  refine list_call 4 #[] (by kernel_rfl) (by kernel_rfl) ((jwakes_ok u).mono ?_)
  rintro r_ u1 ⟨rfl, hg⟩
  replace hB := hB.more hg
  clear hg
  refine ⟨_, rfl, ?_⟩
  simp only [Act.put, List.setIfInBounds_toArray, List.set_cons_zero, List.set_cons_succ, List.getElem_toArray, List.getElem_cons_zero, List.getElem_cons_succ]
  refine list_val (.bool false) (by kernel_rfl) (by kernel_rfl) ?_
  simp only [Act.put, List.setIfInBounds_toArray, List.set_cons_zero, List.set_cons_succ, List.getElem_toArray, List.getElem_cons_zero, List.getElem_cons_succ]
  refine wpList_nil ?_
  replace hB := hide hB
  go_upto_region 3 with fail
  replace hB := unhide hB
  refine wp_region_lit ?_
  refine list_val (.slice t len cap) (by kernel_rfl) (by kernel_rfl) ?_
  simp only [Act.put, List.setIfInBounds_toArray, List.set_cons_zero, List.set_cons_succ, List.getElem_toArray, List.getElem_cons_zero, List.getElem_cons_succ]
  refine list_call 5 #[.slice t len cap] (by kernel_rfl) (by kernel_rfl) ((jcut_ok l t len cap u1 ((unhide lb).gr hB.gr)).mono ?_)
  rintro r_ u2 ⟨s1, rfl, hs1, rfl⟩
  have hl := hs1 w (unhide lb)
  obtain ⟨m, hm0⟩ : ∃ m, m = min len 1000 := ⟨_, rfl⟩
  obtain ⟨L, hL0⟩ : ∃ L, L = l.take (min len 1000) := ⟨_, rfl⟩
  rw [← hL0] at hl
  rw [← hm0] at hl ⊢
  have hm9 : m ≤ 1000 := by omega
  clear hs1 lb hL0 hm0
  replace hl := hide hl
  refine ⟨_, rfl, ?_⟩
  simp only [Act.put, List.setIfInBounds_toArray, List.set_cons_zero, List.set_cons_succ, List.getElem_toArray, List.getElem_cons_zero, List.getElem_cons_succ]
  (refine wpList_step fun K hK => ?_; replace hK := hide hK; go_simp; refine unhide hK _ _ ?_; clear hK K)
  refine wpList_nil ?_
  replace hB := hide hB
  go_upto_region 4 with fail
  replace hB := unhide hB
  have hvb := hide (hB.get 0 (x := ⟨w.heap.size, (#[.int .u64 r, .slice (some ⟨p, q, none⟩) n c] : Array Value), 25⟩) rfl)
  dsimp only at hvb
  have hGB := hide hB.gr
  clear hB
  generalize hA0 : Act.mk _ _ = A0
  have ev2 : A0.eval (.tmp 2) = .pointer (some ⟨w.heap.size, 0, none⟩) := by rw [← hA0]; rfl
  have hs0 : A0.tmps.size = 133 := by rw [← hA0]; rfl
  obtain ⟨W0, hW0⟩ : ∃ W0, W0 = w.heap.size := ⟨_, rfl⟩
  rw [← hW0] at ev2 hvb
  have hlk : Hid ((ks.map bv : List (List Value)) = [] ∨ ∃ p9 o9, ((some ⟨p, q, none⟩) : Option Addr) = some ⟨p9, o9, none⟩ ∧ u2.rangeAt p9 o9 (ks.map bv : List (List Value)).flatten) := hide (((unhide lk).gr (unhide hGB)).sl)
  refine flow (J := fun l f w => Gr u2 w ∧ (l 0 = true → f 0 = .pointer (some ⟨W0, 1, none⟩)) ∧ (l 1 = true → f 1 = .slice (some ⟨p, q, none⟩) n c) ∧ (l 2 = true → f 2 = .int .i64 ((n : Nat) : Int)) ∧ (l 3 = true → f 3 = .int .i64 ((n + 2 : Nat) : Int)) ∧ (l 4 = true → (l 7 = false → Or_ 32 30 u2.heap.size w (f 4) [])) ∧ (l 5 = true → f 5 = .pointer (some ⟨W0, 1, none⟩)) ∧ (l 6 = true → f 6 = .slice (some ⟨p, q, none⟩) n c) ∧ (l 7 = true → (l 10 = false → Or_ 32 30 u2.heap.size w (f 7) (ks.map bv))) ∧ (l 8 = true → f 8 = .agg (kc K9)) ∧ (l 9 = true → (l 10 = false → ∃ p, f 9 = .slice (some ⟨p, 0, none⟩) 1 1 ∧ w.heap[p]? = some (.cells (kc K9) 30 (0, 0)) ∧ (l 4 = true → l 7 = false → (f 4).ownBlock ≠ some p))) ∧ (l 10 = true → Or_ 32 30 u2.heap.size w (f 10) ((ks.map bv) ++ [bv K9])) ∧ (l 11 = true → f 11 = f 10)) (by kernel_rfl) (by kernel_rfl) (by kernel_rfl) ?_ ?_ ?_
  · exact ⟨(Gr.refl u2).drew, (fun e => by cases e), (fun e => by cases e), (fun e => by cases e), (fun e => by cases e), (fun e => by cases e), (fun e => by cases e), (fun e => by cases e), (fun e => by cases e), (fun e => by cases e), (fun e => by cases e), (fun e => by cases e), (fun e => by cases e)⟩
  · intro i o l f w_ ho hl_ hp hcl hJ K hK
    obtain ⟨hG, t0, t1, t2, t3, t4, t5, t6, t7, t8, t9, t10, t11⟩ := hJ
    match i, ho with
    | 0, ho =>
      obtain rfl := Option.some.inj ho
      exact op_val (.pointer (some ⟨W0, 1, none⟩)) rfl rfl (y1_f _ W0 (.tmp 2) 1 (by decide) rfl ((ev_off 2 (by kernel_rfl)).trans ev2)) (hK _ _ ⟨hG, (fun _ => rfl), t1, t2, t3, t4, t5, t6, t7, t8, t9, t10, t11⟩)
    | 1, ho =>
      obtain rfl := Option.some.inj ho
      have p0 := pre_at hp 0 (by kernel_rfl)
      exact op_val (.slice (some ⟨p, q, none⟩) n c) rfl rfl (exec_sks _ (.tmp 15) rfl W0 1 ((ev_at 0 15 _ (by kernel_rfl) rfl rfl p0 (by rw [hs0]; decide)).trans (t0 p0)) (some ⟨p, q, none⟩) n c (cell_of (hG.blk (unhide hvb)) (i := 1) rfl)) (hK _ _ ⟨hG, t0, (fun _ => rfl), t2, t3, t4, t5, t6, t7, t8, t9, t10, t11⟩)
    | 2, ho =>
      obtain rfl := Option.some.inj ho
      have p1 := pre_at hp 1 (by kernel_rfl)
      exact op_val (.int .i64 ((n : Nat) : Int)) rfl rfl (y1_l _ (.tmp 16) rfl (some ⟨p, q, none⟩) n c ((ev_at 1 16 _ (by kernel_rfl) rfl rfl p1 (by rw [hs0]; decide)).trans (t1 p1))) (hK _ _ ⟨hG, t0, t1, (fun _ => rfl), t3, t4, t5, t6, t7, t8, t9, t10, t11⟩)
    | 3, ho =>
      obtain rfl := Option.some.inj ho
      have p2 := pre_at hp 2 (by kernel_rfl)
      exact op_val (.int .i64 ((n + 2 : Nat) : Int)) rfl rfl (y4_2 _ (.tmp 17) rfl n (by omega) ((ev_at 2 17 _ (by kernel_rfl) rfl rfl p2 (by rw [hs0]; decide)).trans (t2 p2))) (hK _ _ ⟨hG, t0, t1, t2, (fun _ => rfl), t4, t5, t6, t7, t8, t9, t10, t11⟩)
    | 4, ho =>
      obtain rfl := Option.some.inj ho
      have p3 := pre_at hp 3 (by kernel_rfl)
      have hC : (madeCells (Value.agg (kc Z32)).cells ((n + 2) * 32)).size = (n + 2) * 32 := size_madeCells _ _
      have hg := (Gr.refl w_).alloc (.cells (madeCells (Value.agg (kc Z32)).cells ((n + 2) * 32)) 30 (0, 0))
      have hG2 := hG.trans hg
      have hor : Or_ 32 30 u2.heap.size (w_.alloc (.cells (madeCells (Value.agg (kc Z32)).cells ((n + 2) * 32)) 30 (0, 0))) (.slice (some ⟨w_.heap.size, 0, none⟩) 0 (n + 2)) [] := ⟨(fun r hr => by cases hr), World.ownsRow_made w_ _ (n + 2) hG.size (by unfold maxLen; omega) hC⟩
      exact op_val (.slice (some ⟨w_.heap.size, 0, none⟩) 0 (n + 2)) rfl rfl (exec_mk w_ (.tmp 18) rfl (n + 2) (by omega) ((ev_at 3 18 _ (by kernel_rfl) rfl rfl p3 (by rw [hs0]; decide)).trans (t3 p3))) (hK _ _ ⟨hG2, t0, t1, t2, t3, (fun _ _ => hor), t5, t6, (fun e => absurd (pre_at (hcl 7 _ rfl e) 4 (by kernel_rfl)) (by rw [hl_]; decide)), t8, (fun e e2 => by obtain ⟨p9, h1, h2, h3⟩ := t9 e e2; exact ⟨p9, h1, hg.blk h2, fun _ _ h => by have h4 := lt_of_block h2; have h5 : w_.heap.size = p9 := Option.some.inj h; omega⟩), (fun e => (t10 e).gr hg), t11⟩)
    | 5, ho =>
      obtain rfl := Option.some.inj ho
      exact op_val (.pointer (some ⟨W0, 1, none⟩)) rfl rfl (y1_f _ W0 (.tmp 2) 1 (by decide) rfl ((ev_off 2 (by kernel_rfl)).trans ev2)) (hK _ _ ⟨hG, t0, t1, t2, t3, t4, (fun _ => rfl), t6, t7, t8, t9, t10, t11⟩)
    | 6, ho =>
      obtain rfl := Option.some.inj ho
      have p5 := pre_at hp 5 (by kernel_rfl)
      exact op_val (.slice (some ⟨p, q, none⟩) n c) rfl rfl (exec_sks _ (.tmp 20) rfl W0 1 ((ev_at 5 20 _ (by kernel_rfl) rfl rfl p5 (by rw [hs0]; decide)).trans (t5 p5)) (some ⟨p, q, none⟩) n c (cell_of (hG.blk (unhide hvb)) (i := 1) rfl)) (hK _ _ ⟨hG, t0, t1, t2, t3, t4, t5, (fun _ => rfl), t7, t8, t9, t10, t11⟩)
    | 7, ho =>
      obtain rfl := Option.some.inj ho
      have p4 := pre_at hp 4 (by kernel_rfl)
      have p6 := pre_at hp 6 (by kernel_rfl)
      have hown := t4 p4 hl_
      refine op_wp rfl rfl (app_rows0 lt_k (.tmp 19) (.tmp 21) rfl u2.heap.size (f 4) [] (ev_at 4 19 _ (by kernel_rfl) rfl rfl p4 (by rw [hs0]; decide)) hown (some ⟨p, q, none⟩) n c (ks.map bv) ((ev_at 6 21 _ (by kernel_rfl) rfl rfl p6 (by rw [hs0]; decide)).trans (t6 p6)) (by rw [List.length_map]; exact unhide hkn) ((unhide lk).row) (by
        rcases unhide hlk with h | ⟨p9, o9, h1, h2⟩
        · exact .inl h
        · exact .inr ⟨p9, o9, h1, range_gr h2 hG⟩) (fun x hx u hu => by obtain ⟨k, _, rfl⟩ := List.mem_map.1 hx; unfold bv at hu; obtain ⟨y, _, rfl⟩ := List.mem_map.1 hu; rfl) (by rw [List.length_nil]; omega) hG.size ?_)
      intro v9 w9 hor hgr
      rw [List.nil_append] at hor
      have hG2 := grown_owned hown.2 (Nat.le_refl _) hG hgr
      exact hK _ _ ⟨hG2, t0, t1, t2, t3, (fun _ h => by cases h), t5, t6, (fun _ _ => hor), t8, (fun e e2 => by obtain ⟨p9, h1, h2, h3⟩ := t9 e e2; exact ⟨p9, h1, (hgr.block p9 (lt_of_block h2) (fun h => h3 p4 hl_ h.symm)).trans h2, fun _ h => by cases h⟩), (fun e => absurd (pre_at (hcl 10 _ rfl e) 7 (by kernel_rfl)) (by rw [hl_]; decide)), t11⟩
    | 8, ho =>
      obtain rfl := Option.some.inj ho
      exact op_val (.agg (kc K9)) rfl rfl (y4_b _ rfl) (hK _ _ ⟨hG, t0, t1, t2, t3, t4, t5, t6, t7, (fun _ => rfl), t9, t10, t11⟩)
    | 9, ho =>
      obtain rfl := Option.some.inj ho
      have p8 := pre_at hp 8 (by kernel_rfl)
      have hg := (Gr.refl w_).alloc (.cells (kc K9) 30 (0, 0))
      have hG2 := hG.trans hg
      have hb9 : (w_.alloc (.cells (kc K9) 30 (0, 0))).heap[w_.heap.size]? = some (.cells (kc K9) 30 (0, 0)) := blk_new _ _
      exact op_val (.slice (some ⟨w_.heap.size, 0, none⟩) 1 1) rfl rfl (exec_bk1 _ (.tmp 23) rfl K9 rfl ((ev_at 8 23 _ (by kernel_rfl) rfl rfl p8 (by rw [hs0]; decide)).trans (t8 p8))) (hK _ _ ⟨hG2, t0, t1, t2, t3, (fun e e2 => (t4 e e2).gr hg), t5, t6, (fun e e2 => (t7 e e2).gr hg), t8, (fun _ _ => ⟨_, rfl, hb9, fun e e2 h => by have h4 := (World.ownsRow.lt (t4 e e2).2 _ h).2; omega⟩), (fun e => absurd (pre_at (hcl 10 _ rfl e) 9 (by kernel_rfl)) (by rw [hl_]; decide)), t11⟩)
    | 10, ho =>
      obtain rfl := Option.some.inj ho
      have p7 := pre_at hp 7 (by kernel_rfl)
      have p9 := pre_at hp 9 (by kernel_rfl)
      have hown := t7 p7 hl_
      have q9 := p9
      obtain ⟨p9, h1, h2, h3⟩ := t9 p9 hl_
      refine op_wp rfl rfl (app_rows0 lt_k (.tmp 22) (.tmp 24) rfl u2.heap.size (f 7) (ks.map bv) (ev_at 7 22 _ (by kernel_rfl) rfl rfl p7 (by rw [hs0]; decide)) hown (some ⟨p9, 0, none⟩) 1 1 [bv K9] ((ev_at 9 24 _ (by kernel_rfl) rfl rfl q9 (by rw [hs0]; decide)).trans h1) rfl (by intro x hx; rw [List.mem_singleton.1 hx]; rfl) (.inr ⟨p9, 0, rfl, by
        have h5 : [bv K9].flatten = bv K9 := by simp
        rw [h5]
        exact range_row (by rw [← kc_bv]; exact h2)⟩) (by intro x hx u hu; rw [List.mem_singleton.1 hx] at hu; exact bv_K9 u hu) (by rw [List.length_map, unhide hkn]; omega) hG.size ?_)
      intro v9 w9 hor hgr
      have hG2 := grown_owned hown.2 (Nat.le_refl _) hG hgr
      exact hK _ _ ⟨hG2, t0, t1, t2, t3, (fun _ h => absurd (h.symm.trans p7) (by decide)), t5, t6, (fun _ h => by cases h), t8, (fun _ h => by cases h), (fun _ => hor), (fun e => absurd (pre_at (hcl 11 _ rfl e) 10 (by kernel_rfl)) (by rw [hl_]; decide))⟩
    | 11, ho =>
      obtain rfl := Option.some.inj ho
      have p0 := pre_at hp 0 (by kernel_rfl)
      have p1 := pre_at hp 1 (by kernel_rfl)
      have p2 := pre_at hp 2 (by kernel_rfl)
      have p3 := pre_at hp 3 (by kernel_rfl)
      have p4 := pre_at hp 4 (by kernel_rfl)
      have p5 := pre_at hp 5 (by kernel_rfl)
      have p6 := pre_at hp 6 (by kernel_rfl)
      have p7 := pre_at hp 7 (by kernel_rfl)
      have p8 := pre_at hp 8 (by kernel_rfl)
      have p9 := pre_at hp 9 (by kernel_rfl)
      have p10 := pre_at hp 10 (by kernel_rfl)
      exact op_val (f 10) rfl rfl (y1_a _ (.tmp 25) rfl _ (ev_at 10 25 _ (by kernel_rfl) rfl rfl p10 (by rw [hs0]; decide))) (hK _ _ ⟨hG, t0, t1, t2, t3, t4, t5, t6, t7, t8, t9, t10, (fun _ => rfl)⟩)
    | n + 12, ho => cases ho
  · intro l_ f_ v5 hall hJ
    obtain ⟨hG, t0, t1, t2, t3, t4, t5, t6, t7, t8, t9, t10, t11⟩ := hJ
    have o10 := t10 (hall 10 (by decide))
    have e11 := t11 (hall 11 (by decide))
    subst hA0
    simp only [putF, if_true]
    simp only [Act.put, List.setIfInBounds_toArray, List.set_cons_zero, List.set_cons_succ, List.getElem_toArray, List.getElem_cons_zero, List.getElem_cons_succ]
    rw [e11]
    clear t0 t1 t2 t3 t4 t5 t6 t7 t8 t9 t10 t11 e11 hall ev2 hs0 hlk
    obtain ⟨ao, co, eo, hls⟩ := o10.ls
    rw [show ((ks.map bv : List (List Value)) ++ [bv K9]).length = n + 1 from by rw [List.length_append, List.length_map, unhide hkn]; rfl] at eo hls
    obtain ⟨po, qo, rfl⟩ := ls_some hls (by omega)
    rw [eo]
    have hvb5 := hide (hG.blk (unhide hvb))
    replace hGB := hide ((unhide hGB).trans hG)
    rw [hW0] at hvb5
    have hcap0 := hide hls.cap
    have hpre := hide (hls.pre (by rw [List.length_map]; exact unhide hkn))
    have hlast : v5.rangeAt po (qo + 32 * n) (bv K9) := by
      obtain ⟨p', q', e, h⟩ := hls.at_ n (by omega)
      have e2 := Option.some.inj e
      injection e2 with e3 e4 _
      subst e3 e4
      have e5 : ((ks.map bv : List (List Value)) ++ [bv K9]).getD n [] = bv K9 := by
        have hle : (ks.map bv : List (List Value)).length = n := by rw [List.length_map]; exact unhide hkn
        rw [List.getD_eq_getElem?_getD, List.getElem?_append_right (by omega), hle, Nat.sub_self]
        rfl
      rw [e5] at h
      exact h
    replace hlast := hide hlast
    clear o10 eo hls hG hW0 hvb
    generalize f_ 0 = y0; generalize f_ 1 = y1; generalize f_ 2 = y2; generalize f_ 3 = y3; generalize f_ 4 = y4; generalize f_ 5 = y5; generalize f_ 6 = y6; generalize f_ 7 = y7; generalize f_ 8 = y8; generalize f_ 9 = y9
    go_upto_region 5 with fail
    have hcap : Hid (n + 1 ≤ co) := hide (by have h := unhide hcap0; exact h)
    refine any_start (S := fun (x : World) => Gr v5 x) (by kernel_rfl) ?_
    have hG : Gr v5 (World.drew v5) := (Gr.refl _).drew
    generalize World.drew _ = x0 at *
    simp only [List.size_toArray, List.length_cons, List.length_nil, Array.replicate, List.replicate]
    refine any_take (i := 0) (v := (.pointer (some ⟨w.heap.size, 0, none⟩))) #[false, false, false, false, false, false, false, false, false, false, false, false, false, false] rfl (by kernel_rfl) (by kernel_rfl) (by kernel_rfl) (by kernel_rfl) (fun _ _ _ h => h) (.inl ⟨by kernel_rfl, fun x_ hu => by kernel_rfl⟩) hG ?_
    simp only [Act.put, List.setIfInBounds_toArray, List.set_cons_zero, List.set_cons_succ, List.getElem_toArray, List.getElem_cons_zero, List.getElem_cons_succ]
    refine any_take (i := 1) (v := (.int .u64 r)) #[true, false, false, false, false, false, false, false, false, false, false, false, false, false] rfl (by kernel_rfl) (by kernel_rfl) (by kernel_rfl) (by kernel_rfl) (fun _ _ _ h => h) (.inl ⟨by kernel_rfl, fun x_ hu => exec_u64 _ (.tmp 27) rfl (w.heap.size) 0 (by kernel_rfl) r (cell_of (hu.blk (unhide hvb5)) (i := 0) rfl)⟩) hG ?_
    simp only [Act.put, List.setIfInBounds_toArray, List.set_cons_zero, List.set_cons_succ, List.getElem_toArray, List.getElem_cons_zero, List.getElem_cons_succ]
    refine any_take (i := 2) (v := (.slice (some ⟨po, qo, none⟩) (n + 1) co)) #[true, true, false, false, false, false, false, false, false, false, false, false, false, false] rfl (by kernel_rfl) (by kernel_rfl) (by kernel_rfl) (by kernel_rfl) (fun _ _ _ h => h) (.inl ⟨by kernel_rfl, fun x_ hu => by kernel_rfl⟩) hG ?_
    simp only [Act.put, List.setIfInBounds_toArray, List.set_cons_zero, List.set_cons_succ, List.getElem_toArray, List.getElem_cons_zero, List.getElem_cons_succ]
    refine any_take (i := 3) (v := (.pointer (some ⟨w.heap.size, 1, none⟩))) #[true, true, true, false, false, false, false, false, false, false, false, false, false, false] rfl (by kernel_rfl) (by kernel_rfl) (by kernel_rfl) (by kernel_rfl) (fun _ _ _ h => h) (.inl ⟨by kernel_rfl, fun x_ hu => by kernel_rfl⟩) hG ?_
    simp only [Act.put, List.setIfInBounds_toArray, List.set_cons_zero, List.set_cons_succ, List.getElem_toArray, List.getElem_cons_zero, List.getElem_cons_succ]
    refine any_take (i := 4) (v := (.slice (some ⟨p, q, none⟩) n c)) #[true, true, true, true, false, false, false, false, false, false, false, false, false, false] rfl (by kernel_rfl) (by kernel_rfl) (by kernel_rfl) (by kernel_rfl) (fun _ _ _ h => h) (.inl ⟨by kernel_rfl, fun x_ hu => exec_sks _ (.tmp 30) rfl (w.heap.size) 1 (by kernel_rfl) (some ⟨p, q, none⟩) n c (cell_of (hu.blk (unhide hvb5)) (i := 1) rfl)⟩) hG ?_
    simp only [Act.put, List.setIfInBounds_toArray, List.set_cons_zero, List.set_cons_succ, List.getElem_toArray, List.getElem_cons_zero, List.getElem_cons_succ]
    refine any_take (i := 5) (v := (.int .i64 ((n : Nat) : Int))) #[true, true, true, true, true, false, false, false, false, false, false, false, false, false] rfl (by kernel_rfl) (by kernel_rfl) (by kernel_rfl) (by kernel_rfl) (fun _ _ _ h => h) (.inl ⟨by kernel_rfl, fun x_ hu => by kernel_rfl⟩) hG ?_
    simp only [Act.put, List.setIfInBounds_toArray, List.set_cons_zero, List.set_cons_succ, List.getElem_toArray, List.getElem_cons_zero, List.getElem_cons_succ]
    refine any_take (i := 6) (v := (.slice (some ⟨po, qo, none⟩) n co)) #[true, true, true, true, true, true, false, false, false, false, false, false, false, false] rfl (by kernel_rfl) (by kernel_rfl) (by kernel_rfl) (by kernel_rfl) (fun _ _ _ h => h) (.inl ⟨by kernel_rfl, fun x_ hu => exec_uptok _ (.tmp 29) (.tmp 32) rfl (some ⟨po, qo, none⟩) (n + 1) co n (by kernel_rfl) (by kernel_rfl) (unhide hcap) (by omega)⟩) hG ?_
    simp only [Act.put, List.setIfInBounds_toArray, List.set_cons_zero, List.set_cons_succ, List.getElem_toArray, List.getElem_cons_zero, List.getElem_cons_succ]
    refine any_take (i := 7) (v := (.agg #[.int .u64 r, .slice (some ⟨po, qo, none⟩) n co])) #[true, true, true, true, true, true, true, false, false, false, false, false, false, false] rfl (by kernel_rfl) (by kernel_rfl) (by kernel_rfl) (by kernel_rfl) (fun _ _ _ h => h) (.inl ⟨by kernel_rfl, fun x_ hu => by kernel_rfl⟩) hG ?_
    simp only [Act.put, List.setIfInBounds_toArray, List.set_cons_zero, List.set_cons_succ, List.getElem_toArray, List.getElem_cons_zero, List.getElem_cons_succ]
    refine any_one (i := 8) (by kernel_rfl) rfl (fun K hK => ?_)
    refine step_callw (by kernel_rfl) 6 #[.agg #[.int .u64 r, .slice (some ⟨po, qo, none⟩) n co]] (by kernel_rfl) ((fputa_ok r (some ⟨po, qo, none⟩) n co ks (unhide hks) hR hr.2 x0 ((unhide hpre).gr hG)).mono ?_)
    rintro r z1 ⟨v3, rfl, hO, hg⟩
    refine ⟨_, rfl, ?_⟩
    obtain ⟨a3, c3, rfl, hl3⟩ := ob_lbq hO (anB_isB0 r ks (unhide hks) hnn) 106 (anB_len0 r ks (unhide hks) hnn)
    replace hl3 := hide hl3
    replace hG := hG.trans hg
    clear hg hO
    refine hK.out _ _ hG (fun _ => ?_)
    clear hK K
    simp only [Act.put, List.setIfInBounds_toArray, List.set_cons_zero, List.set_cons_succ, List.getElem_toArray, List.getElem_cons_zero, List.getElem_cons_succ]
    refine any_take (i := 9) (v := (.tuple #[.slice a3 106 c3, .int .i64 0])) #[true, true, true, true, true, true, true, true, true, false, false, false, false, false] rfl (by kernel_rfl) (by kernel_rfl) (by kernel_rfl) (by kernel_rfl) (fun _ _ _ h => h) (.inl ⟨by kernel_rfl, fun x_ hu => by kernel_rfl⟩) hG ?_
    simp only [Act.put, List.setIfInBounds_toArray, List.set_cons_zero, List.set_cons_succ, List.getElem_toArray, List.getElem_cons_zero, List.getElem_cons_succ]
    refine any_take (i := 10) (v := (.slice a3 106 c3)) #[true, true, true, true, true, true, true, true, true, true, false, false, false, false] rfl (by kernel_rfl) (by kernel_rfl) (by kernel_rfl) (by kernel_rfl) (fun _ _ _ h => h) (.inl ⟨by kernel_rfl, fun x_ hu => by kernel_rfl⟩) hG ?_
    simp only [Act.put, List.setIfInBounds_toArray, List.set_cons_zero, List.set_cons_succ, List.getElem_toArray, List.getElem_cons_zero, List.getElem_cons_succ]
    refine any_take (i := 11) (v := (.int .i64 0)) #[true, true, true, true, true, true, true, true, true, true, true, false, false, false] rfl (by kernel_rfl) (by kernel_rfl) (by kernel_rfl) (by kernel_rfl) (fun _ _ _ h => h) (.inl ⟨by kernel_rfl, fun x_ hu => by kernel_rfl⟩) hG ?_
    simp only [Act.put, List.setIfInBounds_toArray, List.set_cons_zero, List.set_cons_succ, List.getElem_toArray, List.getElem_cons_zero, List.getElem_cons_succ]
    refine any_one (i := 12) (by kernel_rfl) rfl (fun K hK => ?_)
    replace hK := hide hK
    go_simp
    refine (unhide hK).out _ _ hG (fun _ => ?_)
    clear hK K
    refine any_one (i := 13) (by kernel_rfl) rfl (fun K hK => ?_)
    replace hK := hide hK
    go_simp
    refine (unhide hK).out _ _ hG (fun _ => ?_)
    clear hK K
    refine any_done (by kernel_rfl) ?_
    replace hvb5 := hide (hG.blk (unhide hvb5))
    replace hlast := hide (range_gr (unhide hlast) hG)
    replace hpre := hide ((unhide hpre).gr hG)
    replace hGB := hide ((unhide hGB).trans hG)
    clear hG
    go_upto_region 6 with fail
    refine any_start (S := fun (x : World) => Gr z1 x) (by kernel_rfl) ?_
    have hG : Gr z1 (World.drew z1) := (Gr.refl _).drew
    generalize World.drew _ = x1 at *
    simp only [List.size_toArray, List.length_cons, List.length_nil, Array.replicate, List.replicate]
    refine any_take (i := 0) (v := (.slice (some ⟨po, qo, none⟩) (n + 1) co)) #[false, false, false, false, false, false, false, false, false, false, false, false, false, false, false, false, false, false, false] rfl (by kernel_rfl) (by kernel_rfl) (by kernel_rfl) (by kernel_rfl) (fun _ _ _ h => h) (.inl ⟨by kernel_rfl, fun x_ hu => by kernel_rfl⟩) hG ?_
    simp only [Act.put, List.setIfInBounds_toArray, List.set_cons_zero, List.set_cons_succ, List.getElem_toArray, List.getElem_cons_zero, List.getElem_cons_succ]
    refine any_take (i := 1) (v := (.pointer (some ⟨w.heap.size, 1, none⟩))) #[true, false, false, false, false, false, false, false, false, false, false, false, false, false, false, false, false, false, false] rfl (by kernel_rfl) (by kernel_rfl) (by kernel_rfl) (by kernel_rfl) (fun _ _ _ h => h) (.inl ⟨by kernel_rfl, fun x_ hu => by kernel_rfl⟩) hG ?_
    simp only [Act.put, List.setIfInBounds_toArray, List.set_cons_zero, List.set_cons_succ, List.getElem_toArray, List.getElem_cons_zero, List.getElem_cons_succ]
    refine any_take (i := 2) (v := (.slice (some ⟨p, q, none⟩) n c)) #[true, true, false, false, false, false, false, false, false, false, false, false, false, false, false, false, false, false, false] rfl (by kernel_rfl) (by kernel_rfl) (by kernel_rfl) (by kernel_rfl) (fun _ _ _ h => h) (.inl ⟨by kernel_rfl, fun x_ hu => exec_sks _ (.tmp 39) rfl (w.heap.size) 1 (by kernel_rfl) (some ⟨p, q, none⟩) n c (cell_of (hu.blk (unhide hvb5)) (i := 1) rfl)⟩) hG ?_
    simp only [Act.put, List.setIfInBounds_toArray, List.set_cons_zero, List.set_cons_succ, List.getElem_toArray, List.getElem_cons_zero, List.getElem_cons_succ]
    refine any_take (i := 3) (v := (.int .i64 ((n : Nat) : Int))) #[true, true, true, false, false, false, false, false, false, false, false, false, false, false, false, false, false, false, false] rfl (by kernel_rfl) (by kernel_rfl) (by kernel_rfl) (by kernel_rfl) (fun _ _ _ h => h) (.inl ⟨by kernel_rfl, fun x_ hu => by kernel_rfl⟩) hG ?_
    simp only [Act.put, List.setIfInBounds_toArray, List.set_cons_zero, List.set_cons_succ, List.getElem_toArray, List.getElem_cons_zero, List.getElem_cons_succ]
    refine any_take (i := 4) (v := (.slice (some ⟨po, qo, none⟩) n co)) #[true, true, true, true, false, false, false, false, false, false, false, false, false, false, false, false, false, false, false] rfl (by kernel_rfl) (by kernel_rfl) (by kernel_rfl) (by kernel_rfl) (fun _ _ _ h => h) (.inl ⟨by kernel_rfl, fun x_ hu => exec_uptok _ (.tmp 38) (.tmp 41) rfl (some ⟨po, qo, none⟩) (n + 1) co n (by kernel_rfl) (by kernel_rfl) (unhide hcap) (by omega)⟩) hG ?_
    simp only [Act.put, List.setIfInBounds_toArray, List.set_cons_zero, List.set_cons_succ, List.getElem_toArray, List.getElem_cons_zero, List.getElem_cons_succ]
    refine any_take (i := 5) (v := (.pointer (some ⟨w.heap.size, 1, none⟩))) #[true, true, true, true, true, false, false, false, false, false, false, false, false, false, false, false, false, false, false] rfl (by kernel_rfl) (by kernel_rfl) (by kernel_rfl) (by kernel_rfl) (fun _ _ _ h => h) (.inl ⟨by kernel_rfl, fun x_ hu => by kernel_rfl⟩) hG ?_
    simp only [Act.put, List.setIfInBounds_toArray, List.set_cons_zero, List.set_cons_succ, List.getElem_toArray, List.getElem_cons_zero, List.getElem_cons_succ]
    refine any_take (i := 6) (v := (.slice (some ⟨p, q, none⟩) n c)) #[true, true, true, true, true, true, false, false, false, false, false, false, false, false, false, false, false, false, false] rfl (by kernel_rfl) (by kernel_rfl) (by kernel_rfl) (by kernel_rfl) (fun _ _ _ h => h) (.inl ⟨by kernel_rfl, fun x_ hu => exec_sks _ (.tmp 43) rfl (w.heap.size) 1 (by kernel_rfl) (some ⟨p, q, none⟩) n c (cell_of (hu.blk (unhide hvb5)) (i := 1) rfl)⟩) hG ?_
    simp only [Act.put, List.setIfInBounds_toArray, List.set_cons_zero, List.set_cons_succ, List.getElem_toArray, List.getElem_cons_zero, List.getElem_cons_succ]
    refine any_one (i := 7) (by kernel_rfl) rfl (fun K hK => ?_)
    refine step_callw (by kernel_rfl) 7 #[.slice (some ⟨po, qo, none⟩) n co, .slice (some ⟨p, q, none⟩) n c] (by kernel_rfl) ((jhops_some ks (unhide hks) po qo n co p q c x1 ((unhide hpre).gr hG) (((unhide lk).gr (unhide hGB)).gr hG)).mono ?_)
    rintro r z2 ⟨rfl, hg⟩
    refine ⟨_, rfl, ?_⟩
    replace hG := hG.trans hg
    clear hg
    refine hK.out _ _ hG (fun _ => ?_)
    clear hK K
    simp only [Act.put, List.setIfInBounds_toArray, List.set_cons_zero, List.set_cons_succ, List.getElem_toArray, List.getElem_cons_zero, List.getElem_cons_succ]
    refine any_take (i := 8) (v := (.bool false)) #[true, true, true, true, true, true, true, true, false, false, false, false, false, false, false, false, false, false, false] rfl (by kernel_rfl) (by kernel_rfl) (by kernel_rfl) (by kernel_rfl) (fun _ _ _ h => h) (.inl ⟨by kernel_rfl, fun x_ hu => by kernel_rfl⟩) hG ?_
    simp only [Act.put, List.setIfInBounds_toArray, List.set_cons_zero, List.set_cons_succ, List.getElem_toArray, List.getElem_cons_zero, List.getElem_cons_succ]
    refine any_take (i := 9) (v := (.bool false)) #[true, true, true, true, true, true, true, true, true, false, false, false, false, false, false, false, false, false, false] rfl (by kernel_rfl) (by kernel_rfl) (by kernel_rfl) (by kernel_rfl) (fun _ _ _ h => h) (.inl ⟨by kernel_rfl, fun x_ hu => by kernel_rfl⟩) hG ?_
    simp only [Act.put, List.setIfInBounds_toArray, List.set_cons_zero, List.set_cons_succ, List.getElem_toArray, List.getElem_cons_zero, List.getElem_cons_succ]
    refine any_take (i := 10) (v := (.slice (some ⟨po, qo, none⟩) (n + 1) co)) #[true, true, true, true, true, true, true, true, true, true, false, false, false, false, false, false, false, false, false] rfl (by kernel_rfl) (by kernel_rfl) (by kernel_rfl) (by kernel_rfl) (fun _ _ _ h => h) (.inl ⟨by kernel_rfl, fun x_ hu => by kernel_rfl⟩) hG ?_
    simp only [Act.put, List.setIfInBounds_toArray, List.set_cons_zero, List.set_cons_succ, List.getElem_toArray, List.getElem_cons_zero, List.getElem_cons_succ]
    refine any_take (i := 11) (v := (.pointer (some ⟨w.heap.size, 1, none⟩))) #[true, true, true, true, true, true, true, true, true, true, true, false, false, false, false, false, false, false, false] rfl (by kernel_rfl) (by kernel_rfl) (by kernel_rfl) (by kernel_rfl) (fun _ _ _ h => h) (.inl ⟨by kernel_rfl, fun x_ hu => by kernel_rfl⟩) hG ?_
    simp only [Act.put, List.setIfInBounds_toArray, List.set_cons_zero, List.set_cons_succ, List.getElem_toArray, List.getElem_cons_zero, List.getElem_cons_succ]
    refine any_take (i := 12) (v := (.slice (some ⟨p, q, none⟩) n c)) #[true, true, true, true, true, true, true, true, true, true, true, true, false, false, false, false, false, false, false] rfl (by kernel_rfl) (by kernel_rfl) (by kernel_rfl) (by kernel_rfl) (fun _ _ _ h => h) (.inl ⟨by kernel_rfl, fun x_ hu => exec_sks _ (.tmp 49) rfl (w.heap.size) 1 (by kernel_rfl) (some ⟨p, q, none⟩) n c (cell_of (hu.blk (unhide hvb5)) (i := 1) rfl)⟩) hG ?_
    simp only [Act.put, List.setIfInBounds_toArray, List.set_cons_zero, List.set_cons_succ, List.getElem_toArray, List.getElem_cons_zero, List.getElem_cons_succ]
    refine any_take (i := 13) (v := (.int .i64 ((n : Nat) : Int))) #[true, true, true, true, true, true, true, true, true, true, true, true, true, false, false, false, false, false, false] rfl (by kernel_rfl) (by kernel_rfl) (by kernel_rfl) (by kernel_rfl) (fun _ _ _ h => h) (.inl ⟨by kernel_rfl, fun x_ hu => by kernel_rfl⟩) hG ?_
    simp only [Act.put, List.setIfInBounds_toArray, List.set_cons_zero, List.set_cons_succ, List.getElem_toArray, List.getElem_cons_zero, List.getElem_cons_succ]
    refine any_take (i := 14) (v := (.pointer (some ⟨po, qo + 32 * n, none⟩))) #[true, true, true, true, true, true, true, true, true, true, true, true, true, true, false, false, false, false, false] rfl (by kernel_rfl) (by kernel_rfl) (by kernel_rfl) (by kernel_rfl) (fun _ _ _ h => h) (.inl ⟨by kernel_rfl, fun x_ hu => exec_iks _ (.tmp 48) (.tmp 51) rfl po qo (n + 1) co n (by kernel_rfl) (by kernel_rfl) (by omega)⟩) hG ?_
    simp only [Act.put, List.setIfInBounds_toArray, List.set_cons_zero, List.set_cons_succ, List.getElem_toArray, List.getElem_cons_zero, List.getElem_cons_succ]
    refine any_take (i := 15) (v := (.agg (kc K9))) #[true, true, true, true, true, true, true, true, true, true, true, true, true, true, true, false, false, false, false] rfl (by kernel_rfl) (by kernel_rfl) (by kernel_rfl) (by kernel_rfl) (fun _ _ _ h => h) (.inl ⟨by kernel_rfl, fun x_ hu => exec_row _ 30 (.tmp 52) rfl po (qo + 32 * n) (by kernel_rfl) (bv K9) _ (range_gr (unhide hlast) hu) Try.underlying30 rfl (by rw [Try.infoKy]; rfl)⟩) hG ?_
    simp only [Act.put, List.setIfInBounds_toArray, List.set_cons_zero, List.set_cons_succ, List.getElem_toArray, List.getElem_cons_zero, List.getElem_cons_succ]
    refine any_take (i := 16) (v := (.agg (kc K9))) #[true, true, true, true, true, true, true, true, true, true, true, true, true, true, true, true, false, false, false] rfl (by kernel_rfl) (by kernel_rfl) (by kernel_rfl) (by kernel_rfl) (fun _ _ _ h => h) (.inl ⟨by kernel_rfl, fun x_ hu => by kernel_rfl⟩) hG ?_
    simp only [Act.put, List.setIfInBounds_toArray, List.set_cons_zero, List.set_cons_succ, List.getElem_toArray, List.getElem_cons_zero, List.getElem_cons_succ]
    refine any_take (i := 17) (v := (.bool false)) #[true, true, true, true, true, true, true, true, true, true, true, true, true, true, true, true, true, false, false] rfl (by kernel_rfl) (by kernel_rfl) (by kernel_rfl) (by kernel_rfl) (fun _ _ _ h => h) (.inl ⟨by kernel_rfl, fun x_ hu => exec_neq_k _ (.tmp 53) (.tmp 54) rfl (kc K9) (by kernel_rfl) (by kernel_rfl) (by kernel_rfl) (eq_kc rfl _)⟩) hG ?_
    simp only [Act.put, List.setIfInBounds_toArray, List.set_cons_zero, List.set_cons_succ, List.getElem_toArray, List.getElem_cons_zero, List.getElem_cons_succ]
    refine any_take (i := 18) (v := (.bool false)) #[true, true, true, true, true, true, true, true, true, true, true, true, true, true, true, true, true, true, false] rfl (by kernel_rfl) (by kernel_rfl) (by kernel_rfl) (by kernel_rfl) (fun _ _ _ h => h) (.inl ⟨by kernel_rfl, fun x_ hu => by kernel_rfl⟩) hG ?_
    simp only [Act.put, List.setIfInBounds_toArray, List.set_cons_zero, List.set_cons_succ, List.getElem_toArray, List.getElem_cons_zero, List.getElem_cons_succ]
    refine any_done (by kernel_rfl) ?_
    replace hvb5 := hide (hG.blk (unhide hvb5))
    replace hGB := hide ((unhide hGB).trans hG)
    replace hl3 := hide ((unhide hl3).gr hG)
    clear hG
    go_upto_region 8 with fail
    refine wp_region_lit ?_
    refine list_val (.agg (#[.int .u64 r, .slice (some ⟨p, q, none⟩) n c] : Array Value)) (by kernel_rfl) (exec_arr _ 25 (.tmp 2) rfl (w.heap.size) (by kernel_rfl) (#[.int .u64 r, .slice (some ⟨p, q, none⟩) n c] : Array Value) 25 _ (unhide hvb5) Try.underlying25 rfl (by rw [Try.infoAnn]; rfl)) ?_
    simp only [Act.put, List.setIfInBounds_toArray, List.set_cons_zero, List.set_cons_succ, List.getElem_toArray, List.getElem_cons_zero, List.getElem_cons_succ]
    refine list_call 8 #[.agg (#[.int .u64 r, .slice (some ⟨p, q, none⟩) n c] : Array Value)] (by kernel_rfl) (by kernel_rfl) ((qran_ok r (some ⟨p, q, none⟩) n c z2).mono ?_)
    rintro r_ z3 ⟨rfl, hg⟩
    rw [hR]
    replace hvb5 := hide (hg.blk (unhide hvb5))
    replace hGB := hide ((unhide hGB).trans hg)
    replace hl3 := hide ((unhide hl3).gr hg)
    clear hg
    refine ⟨_, rfl, ?_⟩
    simp only [Act.put, List.setIfInBounds_toArray, List.set_cons_zero, List.set_cons_succ, List.getElem_toArray, List.getElem_cons_zero, List.getElem_cons_succ]
    refine wpList_nil ?_
    go_upto_region 9 with fail
    refine wp_region_lit ?_
    refine list_val (.int .i64 0) (by kernel_rfl) (by kernel_rfl) ?_
    simp only [Act.put, List.setIfInBounds_toArray, List.set_cons_zero, List.set_cons_succ, List.getElem_toArray, List.getElem_cons_zero, List.getElem_cons_succ]
    refine list_val (.bool false) (by kernel_rfl) (by kernel_rfl) ?_
    simp only [Act.put, List.setIfInBounds_toArray, List.set_cons_zero, List.set_cons_succ, List.getElem_toArray, List.getElem_cons_zero, List.getElem_cons_succ]
    refine list_val (.bool false) (by kernel_rfl) (by kernel_rfl) ?_
    simp only [Act.put, List.setIfInBounds_toArray, List.set_cons_zero, List.set_cons_succ, List.getElem_toArray, List.getElem_cons_zero, List.getElem_cons_succ]
    refine list_val (.slice a3 106 c3) (by kernel_rfl) (by kernel_rfl) ?_
    simp only [Act.put, List.setIfInBounds_toArray, List.set_cons_zero, List.set_cons_succ, List.getElem_toArray, List.getElem_cons_zero, List.getElem_cons_succ]
    refine list_val (.agg (#[.int .u64 r, .slice (some ⟨p, q, none⟩) n c] : Array Value)) (by kernel_rfl) (exec_arr _ 25 (.tmp 2) rfl (w.heap.size) (by kernel_rfl) (#[.int .u64 r, .slice (some ⟨p, q, none⟩) n c] : Array Value) 25 _ (unhide hvb5) Try.underlying25 rfl (by rw [Try.infoAnn]; rfl)) ?_
    simp only [Act.put, List.setIfInBounds_toArray, List.set_cons_zero, List.set_cons_succ, List.getElem_toArray, List.getElem_cons_zero, List.getElem_cons_succ]
    refine list_call 10 #[.agg (#[.int .u64 r, .slice (some ⟨p, q, none⟩) n c] : Array Value)] (by kernel_rfl) (by kernel_rfl) ((qann_ok r hr.1 p q n c (by rw [← unhide hkn]; exact hnn) ks (unhide hks) z3 ((unhide lk).gr (unhide hGB))).mono ?_)
    rintro r_ z4 ⟨v4, rfl, hO, hg⟩
    obtain ⟨a4, c4, rfl, hl4⟩ := ob_lbq hO (anB_isB0 r ks (unhide hks) hnn) 106 (anB_len0 r ks (unhide hks) hnn)
    replace hl3 := hide ((unhide hl3).gr hg)
    replace hGB := hide ((unhide hGB).trans hg)
    clear hg hO
    refine ⟨_, rfl, ?_⟩
    simp only [Act.put, List.setIfInBounds_toArray, List.set_cons_zero, List.set_cons_succ, List.getElem_toArray, List.getElem_cons_zero, List.getElem_cons_succ]
    refine list_call 9 #[.slice a3 106 c3, .slice a4 106 c4] (by kernel_rfl) (by kernel_rfl) ((beq_ok (anB r ks) (anB r ks) a3 a4 106 106 c3 c4 z4 (unhide hl3) hl4).mono ?_)
    rintro r_ z5 ⟨rfl, hg⟩
    rw [decide_eq_true rfl]
    replace hGB := hide ((unhide hGB).trans hg)
    clear hg hl3 hl4
    refine ⟨_, rfl, ?_⟩
    simp only [Act.put, List.setIfInBounds_toArray, List.set_cons_zero, List.set_cons_succ, List.getElem_toArray, List.getElem_cons_zero, List.getElem_cons_succ]
    refine list_val (.bool false) (by kernel_rfl) (by kernel_rfl) ?_
    simp only [Act.put, List.setIfInBounds_toArray, List.set_cons_zero, List.set_cons_succ, List.getElem_toArray, List.getElem_cons_zero, List.getElem_cons_succ]
    refine list_val (.bool false) (by kernel_rfl) (by kernel_rfl) ?_
    simp only [Act.put, List.setIfInBounds_toArray, List.set_cons_zero, List.set_cons_succ, List.getElem_toArray, List.getElem_cons_zero, List.getElem_cons_succ]
    refine wpList_nil ?_
    rename_i K1_ hK1_ K0_ hK0_
    refine hK0_ _ _ ?_
    refine wp_cond_false rfl ?_
    refine wp_skip ?_
    show K1_ _ _
    refine hK1_ _ _ ?_
    refine wp_code_eq (c := getC) (by kernel_rfl) ?_
    exact ann_get w _ (fun t w' hg ht => bodyPost_ret (v := .bool true) (by rw [results_tmp Try.results3, ht]) rfl (by rw [unhide hT]; exact ⟨rfl, hg⟩)) L s1 m cap hm9 z5 (unhide hGB) ((unhide hl).gr (unhide hGB)) _ _ _ _ _ _ _ _ _ _ _ _ _ _ _ _ _ _ _ _ _ _ _ _ _ _ _ _ _ _ _ _ _ _ _ _ _ _ _ _ _ _ _ _ _ _ _ _ _ _ _ _ _ _ _ _ _ _ _ _ _ _ _ _ _ _ _ _ _ _ _ _ _ _ _ _ _ _ _ _ _ _ _ _ _ _ _ _ _ _ _ _ _ _ _ _ _ _ _ _ _ _ _ _ _ _ _ _ _ _ _ _ _ _ _ _ _ _ _ _ _ _ _ _ _ _ _ _ _ _ _ _
set_option maxHeartbeats 4000000 in
theorem ann_no (r : Int) (hr : 0 ≤ r ∧ r < 18446744073709551616) (a : Option Addr) (n c : Nat) (ks : List (List Int)) (hks : KsOk ks) (hkn : ks.length = n) (hnb : n ≤ 4398046511104) (w : World) (hsl : n = 0 ∨ ∃ p q, a = some ⟨p, q, none⟩ ∧ Ls 32 w (some ⟨p, q, none⟩) n c (ks.map bv)) (l : List Int) (t : Option Addr) (len cap : Nat) (lb : Lb w t len cap l) (hn1 : 1 ≤ n) (hR : anR r n = false) : Calls Try.prog 3 #[.agg (#[.int .u64 r, .slice a n c] : Array Value), .slice t len cap] w (Woke w) := by
  obtain ⟨T, hT⟩ : ∃ T, T = Woke w := ⟨_, rfl⟩
  rw [← hT]
  replace hT := hide hT
  obtain ⟨p, q, rfl, lk⟩ : ∃ p q, a = some ⟨p, q, none⟩ ∧ Ls 32 w (some ⟨p, q, none⟩) n c (ks.map bv) := by
    rcases hsl with h | h
    · omega
    · exact h
  obtain ⟨SA, hSA⟩ : ∃ S, S = (#[.int .u64 r, .slice (some ⟨p, q, none⟩) n c] : Array Value) := ⟨_, rfl⟩
  rw [← hSA]
  replace hSA := hide hSA
  replace lb := hide lb
  replace lk := hide lk
  replace hks := hide hks
  replace hkn := hide hkn
  go_enter Try.func3, Try.ntmps3
  go_upto_region 1 with fail
  have hB := (Bl.nil w).new SA 25
  simp only [List.nil_append] at hB
  generalize World.alloc _ _ = u at *
  rw [unhide hSA] at hB
  replace hB : Bl w [⟨w.heap.size, (#[.int .u64 r, .slice (some ⟨p, q, none⟩) n c] : Array Value), 25⟩] u := hB
  refine wp_region_lit ?_
  refine list_call 4 #[] (by kernel_rfl) (by kernel_rfl) ((jwakes_ok u).mono ?_)
  rintro r_ u1 ⟨rfl, hg⟩
  replace hB := hB.more hg
  clear hg
  refine ⟨_, rfl, ?_⟩
  simp only [Act.put, List.setIfInBounds_toArray, List.set_cons_zero, List.set_cons_succ, List.getElem_toArray, List.getElem_cons_zero, List.getElem_cons_succ]
  refine list_val (.bool false) (by kernel_rfl) (by kernel_rfl) ?_
  simp only [Act.put, List.setIfInBounds_toArray, List.set_cons_zero, List.set_cons_succ, List.getElem_toArray, List.getElem_cons_zero, List.getElem_cons_succ]
  refine wpList_nil ?_
  replace hB := hide hB
  go_upto_region 3 with fail
  replace hB := unhide hB
  refine wp_region_lit ?_
  refine list_val (.slice t len cap) (by kernel_rfl) (by kernel_rfl) ?_
  simp only [Act.put, List.setIfInBounds_toArray, List.set_cons_zero, List.set_cons_succ, List.getElem_toArray, List.getElem_cons_zero, List.getElem_cons_succ]
  refine list_call 5 #[.slice t len cap] (by kernel_rfl) (by kernel_rfl) ((jcut_ok l t len cap u1 ((unhide lb).gr hB.gr)).mono ?_)
  rintro r_ u2 ⟨s1, rfl, hs1, rfl⟩
  have hl := hs1 w (unhide lb)
  obtain ⟨m, hm0⟩ : ∃ m, m = min len 1000 := ⟨_, rfl⟩
  obtain ⟨L, hL0⟩ : ∃ L, L = l.take (min len 1000) := ⟨_, rfl⟩
  rw [← hL0] at hl
  rw [← hm0] at hl ⊢
  have hm9 : m ≤ 1000 := by omega
  clear hs1 lb hL0 hm0
  replace hl := hide hl
  refine ⟨_, rfl, ?_⟩
  simp only [Act.put, List.setIfInBounds_toArray, List.set_cons_zero, List.set_cons_succ, List.getElem_toArray, List.getElem_cons_zero, List.getElem_cons_succ]
  (refine wpList_step fun K hK => ?_; replace hK := hide hK; go_simp; refine unhide hK _ _ ?_; clear hK K)
  refine wpList_nil ?_
  replace hB := hide hB
  go_upto_region 4 with fail
  replace hB := unhide hB
  have hvb := hide (hB.get 0 (x := ⟨w.heap.size, (#[.int .u64 r, .slice (some ⟨p, q, none⟩) n c] : Array Value), 25⟩) rfl)
  dsimp only at hvb
  have hGB := hide hB.gr
  clear hB
  generalize hA0 : Act.mk _ _ = A0
  have ev2 : A0.eval (.tmp 2) = .pointer (some ⟨w.heap.size, 0, none⟩) := by rw [← hA0]; rfl
  have hs0 : A0.tmps.size = 133 := by rw [← hA0]; rfl
  obtain ⟨W0, hW0⟩ : ∃ W0, W0 = w.heap.size := ⟨_, rfl⟩
  rw [← hW0] at ev2 hvb
  have hlk : Hid ((ks.map bv : List (List Value)) = [] ∨ ∃ p9 o9, ((some ⟨p, q, none⟩) : Option Addr) = some ⟨p9, o9, none⟩ ∧ u2.rangeAt p9 o9 (ks.map bv : List (List Value)).flatten) := hide (((unhide lk).gr (unhide hGB)).sl)
  refine flow (J := fun l f w => Gr u2 w ∧ (l 0 = true → f 0 = .pointer (some ⟨W0, 1, none⟩)) ∧ (l 1 = true → f 1 = .slice (some ⟨p, q, none⟩) n c) ∧ (l 2 = true → f 2 = .int .i64 ((n : Nat) : Int)) ∧ (l 3 = true → f 3 = .int .i64 ((n + 2 : Nat) : Int)) ∧ (l 4 = true → (l 7 = false → Or_ 32 30 u2.heap.size w (f 4) [])) ∧ (l 5 = true → f 5 = .pointer (some ⟨W0, 1, none⟩)) ∧ (l 6 = true → f 6 = .slice (some ⟨p, q, none⟩) n c) ∧ (l 7 = true → (l 10 = false → Or_ 32 30 u2.heap.size w (f 7) (ks.map bv))) ∧ (l 8 = true → f 8 = .agg (kc K9)) ∧ (l 9 = true → (l 10 = false → ∃ p, f 9 = .slice (some ⟨p, 0, none⟩) 1 1 ∧ w.heap[p]? = some (.cells (kc K9) 30 (0, 0)) ∧ (l 4 = true → l 7 = false → (f 4).ownBlock ≠ some p))) ∧ (l 10 = true → Or_ 32 30 u2.heap.size w (f 10) ((ks.map bv) ++ [bv K9])) ∧ (l 11 = true → f 11 = f 10)) (by kernel_rfl) (by kernel_rfl) (by kernel_rfl) ?_ ?_ ?_
  · exact ⟨(Gr.refl u2).drew, (fun e => by cases e), (fun e => by cases e), (fun e => by cases e), (fun e => by cases e), (fun e => by cases e), (fun e => by cases e), (fun e => by cases e), (fun e => by cases e), (fun e => by cases e), (fun e => by cases e), (fun e => by cases e), (fun e => by cases e)⟩
  · intro i o l f w_ ho hl_ hp hcl hJ K hK
    obtain ⟨hG, t0, t1, t2, t3, t4, t5, t6, t7, t8, t9, t10, t11⟩ := hJ
    match i, ho with
    | 0, ho =>
      obtain rfl := Option.some.inj ho
      exact op_val (.pointer (some ⟨W0, 1, none⟩)) rfl rfl (y1_f _ W0 (.tmp 2) 1 (by decide) rfl ((ev_off 2 (by kernel_rfl)).trans ev2)) (hK _ _ ⟨hG, (fun _ => rfl), t1, t2, t3, t4, t5, t6, t7, t8, t9, t10, t11⟩)
    | 1, ho =>
      obtain rfl := Option.some.inj ho
      have p0 := pre_at hp 0 (by kernel_rfl)
      exact op_val (.slice (some ⟨p, q, none⟩) n c) rfl rfl (exec_sks _ (.tmp 15) rfl W0 1 ((ev_at 0 15 _ (by kernel_rfl) rfl rfl p0 (by rw [hs0]; decide)).trans (t0 p0)) (some ⟨p, q, none⟩) n c (cell_of (hG.blk (unhide hvb)) (i := 1) rfl)) (hK _ _ ⟨hG, t0, (fun _ => rfl), t2, t3, t4, t5, t6, t7, t8, t9, t10, t11⟩)
    | 2, ho =>
      obtain rfl := Option.some.inj ho
      have p1 := pre_at hp 1 (by kernel_rfl)
      exact op_val (.int .i64 ((n : Nat) : Int)) rfl rfl (y1_l _ (.tmp 16) rfl (some ⟨p, q, none⟩) n c ((ev_at 1 16 _ (by kernel_rfl) rfl rfl p1 (by rw [hs0]; decide)).trans (t1 p1))) (hK _ _ ⟨hG, t0, t1, (fun _ => rfl), t3, t4, t5, t6, t7, t8, t9, t10, t11⟩)
    | 3, ho =>
      obtain rfl := Option.some.inj ho
      have p2 := pre_at hp 2 (by kernel_rfl)
      exact op_val (.int .i64 ((n + 2 : Nat) : Int)) rfl rfl (y4_2 _ (.tmp 17) rfl n (by omega) ((ev_at 2 17 _ (by kernel_rfl) rfl rfl p2 (by rw [hs0]; decide)).trans (t2 p2))) (hK _ _ ⟨hG, t0, t1, t2, (fun _ => rfl), t4, t5, t6, t7, t8, t9, t10, t11⟩)
    | 4, ho =>
      obtain rfl := Option.some.inj ho
      have p3 := pre_at hp 3 (by kernel_rfl)
      have hC : (madeCells (Value.agg (kc Z32)).cells ((n + 2) * 32)).size = (n + 2) * 32 := size_madeCells _ _
      have hg := (Gr.refl w_).alloc (.cells (madeCells (Value.agg (kc Z32)).cells ((n + 2) * 32)) 30 (0, 0))
      have hG2 := hG.trans hg
      have hor : Or_ 32 30 u2.heap.size (w_.alloc (.cells (madeCells (Value.agg (kc Z32)).cells ((n + 2) * 32)) 30 (0, 0))) (.slice (some ⟨w_.heap.size, 0, none⟩) 0 (n + 2)) [] := ⟨(fun r hr => by cases hr), World.ownsRow_made w_ _ (n + 2) hG.size (by unfold maxLen; omega) hC⟩
      exact op_val (.slice (some ⟨w_.heap.size, 0, none⟩) 0 (n + 2)) rfl rfl (exec_mk w_ (.tmp 18) rfl (n + 2) (by omega) ((ev_at 3 18 _ (by kernel_rfl) rfl rfl p3 (by rw [hs0]; decide)).trans (t3 p3))) (hK _ _ ⟨hG2, t0, t1, t2, t3, (fun _ _ => hor), t5, t6, (fun e => absurd (pre_at (hcl 7 _ rfl e) 4 (by kernel_rfl)) (by rw [hl_]; decide)), t8, (fun e e2 => by obtain ⟨p9, h1, h2, h3⟩ := t9 e e2; exact ⟨p9, h1, hg.blk h2, fun _ _ h => by have h4 := lt_of_block h2; have h5 : w_.heap.size = p9 := Option.some.inj h; omega⟩), (fun e => (t10 e).gr hg), t11⟩)
    | 5, ho =>
      obtain rfl := Option.some.inj ho
      exact op_val (.pointer (some ⟨W0, 1, none⟩)) rfl rfl (y1_f _ W0 (.tmp 2) 1 (by decide) rfl ((ev_off 2 (by kernel_rfl)).trans ev2)) (hK _ _ ⟨hG, t0, t1, t2, t3, t4, (fun _ => rfl), t6, t7, t8, t9, t10, t11⟩)
    | 6, ho =>
      obtain rfl := Option.some.inj ho
      have p5 := pre_at hp 5 (by kernel_rfl)
      exact op_val (.slice (some ⟨p, q, none⟩) n c) rfl rfl (exec_sks _ (.tmp 20) rfl W0 1 ((ev_at 5 20 _ (by kernel_rfl) rfl rfl p5 (by rw [hs0]; decide)).trans (t5 p5)) (some ⟨p, q, none⟩) n c (cell_of (hG.blk (unhide hvb)) (i := 1) rfl)) (hK _ _ ⟨hG, t0, t1, t2, t3, t4, t5, (fun _ => rfl), t7, t8, t9, t10, t11⟩)
    | 7, ho =>
      obtain rfl := Option.some.inj ho
      have p4 := pre_at hp 4 (by kernel_rfl)
      have p6 := pre_at hp 6 (by kernel_rfl)
      have hown := t4 p4 hl_
      refine op_wp rfl rfl (app_rows0 lt_k (.tmp 19) (.tmp 21) rfl u2.heap.size (f 4) [] (ev_at 4 19 _ (by kernel_rfl) rfl rfl p4 (by rw [hs0]; decide)) hown (some ⟨p, q, none⟩) n c (ks.map bv) ((ev_at 6 21 _ (by kernel_rfl) rfl rfl p6 (by rw [hs0]; decide)).trans (t6 p6)) (by rw [List.length_map]; exact unhide hkn) ((unhide lk).row) (by
        rcases unhide hlk with h | ⟨p9, o9, h1, h2⟩
        · exact .inl h
        · exact .inr ⟨p9, o9, h1, range_gr h2 hG⟩) (fun x hx u hu => by obtain ⟨k, _, rfl⟩ := List.mem_map.1 hx; unfold bv at hu; obtain ⟨y, _, rfl⟩ := List.mem_map.1 hu; rfl) (by rw [List.length_nil]; omega) hG.size ?_)
      intro v9 w9 hor hgr
      rw [List.nil_append] at hor
      have hG2 := grown_owned hown.2 (Nat.le_refl _) hG hgr
      exact hK _ _ ⟨hG2, t0, t1, t2, t3, (fun _ h => by cases h), t5, t6, (fun _ _ => hor), t8, (fun e e2 => by obtain ⟨p9, h1, h2, h3⟩ := t9 e e2; exact ⟨p9, h1, (hgr.block p9 (lt_of_block h2) (fun h => h3 p4 hl_ h.symm)).trans h2, fun _ h => by cases h⟩), (fun e => absurd (pre_at (hcl 10 _ rfl e) 7 (by kernel_rfl)) (by rw [hl_]; decide)), t11⟩
    | 8, ho =>
      obtain rfl := Option.some.inj ho
      exact op_val (.agg (kc K9)) rfl rfl (y4_b _ rfl) (hK _ _ ⟨hG, t0, t1, t2, t3, t4, t5, t6, t7, (fun _ => rfl), t9, t10, t11⟩)
    | 9, ho =>
      obtain rfl := Option.some.inj ho
      have p8 := pre_at hp 8 (by kernel_rfl)
      have hg := (Gr.refl w_).alloc (.cells (kc K9) 30 (0, 0))
      have hG2 := hG.trans hg
      have hb9 : (w_.alloc (.cells (kc K9) 30 (0, 0))).heap[w_.heap.size]? = some (.cells (kc K9) 30 (0, 0)) := blk_new _ _
      exact op_val (.slice (some ⟨w_.heap.size, 0, none⟩) 1 1) rfl rfl (exec_bk1 _ (.tmp 23) rfl K9 rfl ((ev_at 8 23 _ (by kernel_rfl) rfl rfl p8 (by rw [hs0]; decide)).trans (t8 p8))) (hK _ _ ⟨hG2, t0, t1, t2, t3, (fun e e2 => (t4 e e2).gr hg), t5, t6, (fun e e2 => (t7 e e2).gr hg), t8, (fun _ _ => ⟨_, rfl, hb9, fun e e2 h => by have h4 := (World.ownsRow.lt (t4 e e2).2 _ h).2; omega⟩), (fun e => absurd (pre_at (hcl 10 _ rfl e) 9 (by kernel_rfl)) (by rw [hl_]; decide)), t11⟩)
    | 10, ho =>
      obtain rfl := Option.some.inj ho
      have p7 := pre_at hp 7 (by kernel_rfl)
      have p9 := pre_at hp 9 (by kernel_rfl)
      have hown := t7 p7 hl_
      have q9 := p9
      obtain ⟨p9, h1, h2, h3⟩ := t9 p9 hl_
      refine op_wp rfl rfl (app_rows0 lt_k (.tmp 22) (.tmp 24) rfl u2.heap.size (f 7) (ks.map bv) (ev_at 7 22 _ (by kernel_rfl) rfl rfl p7 (by rw [hs0]; decide)) hown (some ⟨p9, 0, none⟩) 1 1 [bv K9] ((ev_at 9 24 _ (by kernel_rfl) rfl rfl q9 (by rw [hs0]; decide)).trans h1) rfl (by intro x hx; rw [List.mem_singleton.1 hx]; rfl) (.inr ⟨p9, 0, rfl, by
        have h5 : [bv K9].flatten = bv K9 := by simp
        rw [h5]
        exact range_row (by rw [← kc_bv]; exact h2)⟩) (by intro x hx u hu; rw [List.mem_singleton.1 hx] at hu; exact bv_K9 u hu) (by rw [List.length_map, unhide hkn]; omega) hG.size ?_)
      intro v9 w9 hor hgr
      have hG2 := grown_owned hown.2 (Nat.le_refl _) hG hgr
      exact hK _ _ ⟨hG2, t0, t1, t2, t3, (fun _ h => absurd (h.symm.trans p7) (by decide)), t5, t6, (fun _ h => by cases h), t8, (fun _ h => by cases h), (fun _ => hor), (fun e => absurd (pre_at (hcl 11 _ rfl e) 10 (by kernel_rfl)) (by rw [hl_]; decide))⟩
    | 11, ho =>
      obtain rfl := Option.some.inj ho
      have p0 := pre_at hp 0 (by kernel_rfl)
      have p1 := pre_at hp 1 (by kernel_rfl)
      have p2 := pre_at hp 2 (by kernel_rfl)
      have p3 := pre_at hp 3 (by kernel_rfl)
      have p4 := pre_at hp 4 (by kernel_rfl)
      have p5 := pre_at hp 5 (by kernel_rfl)
      have p6 := pre_at hp 6 (by kernel_rfl)
      have p7 := pre_at hp 7 (by kernel_rfl)
      have p8 := pre_at hp 8 (by kernel_rfl)
      have p9 := pre_at hp 9 (by kernel_rfl)
      have p10 := pre_at hp 10 (by kernel_rfl)
      exact op_val (f 10) rfl rfl (y1_a _ (.tmp 25) rfl _ (ev_at 10 25 _ (by kernel_rfl) rfl rfl p10 (by rw [hs0]; decide))) (hK _ _ ⟨hG, t0, t1, t2, t3, t4, t5, t6, t7, t8, t9, t10, (fun _ => rfl)⟩)
    | n + 12, ho => cases ho
  · intro l_ f_ v5 hall hJ
    obtain ⟨hG, t0, t1, t2, t3, t4, t5, t6, t7, t8, t9, t10, t11⟩ := hJ
    have o10 := t10 (hall 10 (by decide))
    have e11 := t11 (hall 11 (by decide))
    subst hA0
    simp only [putF, if_true]
    simp only [Act.put, List.setIfInBounds_toArray, List.set_cons_zero, List.set_cons_succ, List.getElem_toArray, List.getElem_cons_zero, List.getElem_cons_succ]
    rw [e11]
    clear t0 t1 t2 t3 t4 t5 t6 t7 t8 t9 t10 t11 e11 hall ev2 hs0 hlk
    obtain ⟨ao, co, eo, hls⟩ := o10.ls
    rw [show ((ks.map bv : List (List Value)) ++ [bv K9]).length = n + 1 from by rw [List.length_append, List.length_map, unhide hkn]; rfl] at eo hls
    obtain ⟨po, qo, rfl⟩ := ls_some hls (by omega)
    rw [eo]
    have hvb5 := hide (hG.blk (unhide hvb))
    replace hGB := hide ((unhide hGB).trans hG)
    rw [hW0] at hvb5
    have hcap0 := hide hls.cap
    have hpre := hide (hls.pre (by rw [List.length_map]; exact unhide hkn))
    have hlast : v5.rangeAt po (qo + 32 * n) (bv K9) := by
      obtain ⟨p', q', e, h⟩ := hls.at_ n (by omega)
      have e2 := Option.some.inj e
      injection e2 with e3 e4 _
      subst e3 e4
      have e5 : ((ks.map bv : List (List Value)) ++ [bv K9]).getD n [] = bv K9 := by
        have hle : (ks.map bv : List (List Value)).length = n := by rw [List.length_map]; exact unhide hkn
        rw [List.getD_eq_getElem?_getD, List.getElem?_append_right (by omega), hle, Nat.sub_self]
        rfl
      rw [e5] at h
      exact h
    replace hlast := hide hlast
    clear o10 eo hls hG hW0 hvb
    generalize f_ 0 = y0; generalize f_ 1 = y1; generalize f_ 2 = y2; generalize f_ 3 = y3; generalize f_ 4 = y4; generalize f_ 5 = y5; generalize f_ 6 = y6; generalize f_ 7 = y7; generalize f_ 8 = y8; generalize f_ 9 = y9
    go_upto_region 5 with fail
    have hcap : Hid (n + 1 ≤ co) := hide (by have h := unhide hcap0; exact h)
    refine any_start (S := fun (x : World) => Gr v5 x) (by kernel_rfl) ?_
    have hG : Gr v5 (World.drew v5) := (Gr.refl _).drew
    generalize World.drew _ = x0 at *
    simp only [List.size_toArray, List.length_cons, List.length_nil, Array.replicate, List.replicate]
    refine any_take (i := 0) (v := (.pointer (some ⟨w.heap.size, 0, none⟩))) #[false, false, false, false, false, false, false, false, false, false, false, false, false, false] rfl (by kernel_rfl) (by kernel_rfl) (by kernel_rfl) (by kernel_rfl) (fun _ _ _ h => h) (.inl ⟨by kernel_rfl, fun x_ hu => by kernel_rfl⟩) hG ?_
    simp only [Act.put, List.setIfInBounds_toArray, List.set_cons_zero, List.set_cons_succ, List.getElem_toArray, List.getElem_cons_zero, List.getElem_cons_succ]
    refine any_take (i := 1) (v := (.int .u64 r)) #[true, false, false, false, false, false, false, false, false, false, false, false, false, false] rfl (by kernel_rfl) (by kernel_rfl) (by kernel_rfl) (by kernel_rfl) (fun _ _ _ h => h) (.inl ⟨by kernel_rfl, fun x_ hu => exec_u64 _ (.tmp 27) rfl (w.heap.size) 0 (by kernel_rfl) r (cell_of (hu.blk (unhide hvb5)) (i := 0) rfl)⟩) hG ?_
    simp only [Act.put, List.setIfInBounds_toArray, List.set_cons_zero, List.set_cons_succ, List.getElem_toArray, List.getElem_cons_zero, List.getElem_cons_succ]
    refine any_take (i := 2) (v := (.slice (some ⟨po, qo, none⟩) (n + 1) co)) #[true, true, false, false, false, false, false, false, false, false, false, false, false, false] rfl (by kernel_rfl) (by kernel_rfl) (by kernel_rfl) (by kernel_rfl) (fun _ _ _ h => h) (.inl ⟨by kernel_rfl, fun x_ hu => by kernel_rfl⟩) hG ?_
    simp only [Act.put, List.setIfInBounds_toArray, List.set_cons_zero, List.set_cons_succ, List.getElem_toArray, List.getElem_cons_zero, List.getElem_cons_succ]
    refine any_take (i := 3) (v := (.pointer (some ⟨w.heap.size, 1, none⟩))) #[true, true, true, false, false, false, false, false, false, false, false, false, false, false] rfl (by kernel_rfl) (by kernel_rfl) (by kernel_rfl) (by kernel_rfl) (fun _ _ _ h => h) (.inl ⟨by kernel_rfl, fun x_ hu => by kernel_rfl⟩) hG ?_
    simp only [Act.put, List.setIfInBounds_toArray, List.set_cons_zero, List.set_cons_succ, List.getElem_toArray, List.getElem_cons_zero, List.getElem_cons_succ]
    refine any_take (i := 4) (v := (.slice (some ⟨p, q, none⟩) n c)) #[true, true, true, true, false, false, false, false, false, false, false, false, false, false] rfl (by kernel_rfl) (by kernel_rfl) (by kernel_rfl) (by kernel_rfl) (fun _ _ _ h => h) (.inl ⟨by kernel_rfl, fun x_ hu => exec_sks _ (.tmp 30) rfl (w.heap.size) 1 (by kernel_rfl) (some ⟨p, q, none⟩) n c (cell_of (hu.blk (unhide hvb5)) (i := 1) rfl)⟩) hG ?_
    simp only [Act.put, List.setIfInBounds_toArray, List.set_cons_zero, List.set_cons_succ, List.getElem_toArray, List.getElem_cons_zero, List.getElem_cons_succ]
    refine any_take (i := 5) (v := (.int .i64 ((n : Nat) : Int))) #[true, true, true, true, true, false, false, false, false, false, false, false, false, false] rfl (by kernel_rfl) (by kernel_rfl) (by kernel_rfl) (by kernel_rfl) (fun _ _ _ h => h) (.inl ⟨by kernel_rfl, fun x_ hu => by kernel_rfl⟩) hG ?_
    simp only [Act.put, List.setIfInBounds_toArray, List.set_cons_zero, List.set_cons_succ, List.getElem_toArray, List.getElem_cons_zero, List.getElem_cons_succ]
    refine any_take (i := 6) (v := (.slice (some ⟨po, qo, none⟩) n co)) #[true, true, true, true, true, true, false, false, false, false, false, false, false, false] rfl (by kernel_rfl) (by kernel_rfl) (by kernel_rfl) (by kernel_rfl) (fun _ _ _ h => h) (.inl ⟨by kernel_rfl, fun x_ hu => exec_uptok _ (.tmp 29) (.tmp 32) rfl (some ⟨po, qo, none⟩) (n + 1) co n (by kernel_rfl) (by kernel_rfl) (unhide hcap) (by omega)⟩) hG ?_
    simp only [Act.put, List.setIfInBounds_toArray, List.set_cons_zero, List.set_cons_succ, List.getElem_toArray, List.getElem_cons_zero, List.getElem_cons_succ]
    refine any_take (i := 7) (v := (.agg #[.int .u64 r, .slice (some ⟨po, qo, none⟩) n co])) #[true, true, true, true, true, true, true, false, false, false, false, false, false, false] rfl (by kernel_rfl) (by kernel_rfl) (by kernel_rfl) (by kernel_rfl) (fun _ _ _ h => h) (.inl ⟨by kernel_rfl, fun x_ hu => by kernel_rfl⟩) hG ?_
    simp only [Act.put, List.setIfInBounds_toArray, List.set_cons_zero, List.set_cons_succ, List.getElem_toArray, List.getElem_cons_zero, List.getElem_cons_succ]
    refine any_one (i := 8) (by kernel_rfl) rfl (fun K hK => ?_)
    refine step_callw (by kernel_rfl) 6 #[.agg #[.int .u64 r, .slice (some ⟨po, qo, none⟩) n co]] (by kernel_rfl) ((fputa_no r (some ⟨po, qo, none⟩) n co hR x0).mono ?_)
    rintro r z1 ⟨rfl, hg⟩
    refine ⟨_, rfl, ?_⟩
    replace hG := hG.trans hg
    clear hg
    refine hK.out _ _ hG (fun _ => ?_)
    clear hK K
    simp only [Act.put, List.setIfInBounds_toArray, List.set_cons_zero, List.set_cons_succ, List.getElem_toArray, List.getElem_cons_zero, List.getElem_cons_succ]
    refine any_take (i := 9) (v := (.tuple #[.slice none 0 0, .int .i64 241])) #[true, true, true, true, true, true, true, true, true, false, false, false, false, false] rfl (by kernel_rfl) (by kernel_rfl) (by kernel_rfl) (by kernel_rfl) (fun _ _ _ h => h) (.inl ⟨by kernel_rfl, fun x_ hu => by kernel_rfl⟩) hG ?_
    simp only [Act.put, List.setIfInBounds_toArray, List.set_cons_zero, List.set_cons_succ, List.getElem_toArray, List.getElem_cons_zero, List.getElem_cons_succ]
    refine any_take (i := 10) (v := (.slice none 0 0)) #[true, true, true, true, true, true, true, true, true, true, false, false, false, false] rfl (by kernel_rfl) (by kernel_rfl) (by kernel_rfl) (by kernel_rfl) (fun _ _ _ h => h) (.inl ⟨by kernel_rfl, fun x_ hu => by kernel_rfl⟩) hG ?_
    simp only [Act.put, List.setIfInBounds_toArray, List.set_cons_zero, List.set_cons_succ, List.getElem_toArray, List.getElem_cons_zero, List.getElem_cons_succ]
    refine any_take (i := 11) (v := (.int .i64 241)) #[true, true, true, true, true, true, true, true, true, true, true, false, false, false] rfl (by kernel_rfl) (by kernel_rfl) (by kernel_rfl) (by kernel_rfl) (fun _ _ _ h => h) (.inl ⟨by kernel_rfl, fun x_ hu => by kernel_rfl⟩) hG ?_
    simp only [Act.put, List.setIfInBounds_toArray, List.set_cons_zero, List.set_cons_succ, List.getElem_toArray, List.getElem_cons_zero, List.getElem_cons_succ]
    refine any_one (i := 12) (by kernel_rfl) rfl (fun K hK => ?_)
    replace hK := hide hK
    go_simp
    refine (unhide hK).out _ _ hG (fun _ => ?_)
    clear hK K
    refine any_one (i := 13) (by kernel_rfl) rfl (fun K hK => ?_)
    replace hK := hide hK
    go_simp
    refine (unhide hK).out _ _ hG (fun _ => ?_)
    clear hK K
    refine any_done (by kernel_rfl) ?_
    replace hvb5 := hide (hG.blk (unhide hvb5))
    replace hlast := hide (range_gr (unhide hlast) hG)
    replace hpre := hide ((unhide hpre).gr hG)
    replace hGB := hide ((unhide hGB).trans hG)
    clear hG
    go_upto_region 6 with fail
    refine any_start (S := fun (x : World) => Gr z1 x) (by kernel_rfl) ?_
    have hG : Gr z1 (World.drew z1) := (Gr.refl _).drew
    generalize World.drew _ = x1 at *
    simp only [List.size_toArray, List.length_cons, List.length_nil, Array.replicate, List.replicate]
    refine any_take (i := 0) (v := (.slice (some ⟨po, qo, none⟩) (n + 1) co)) #[false, false, false, false, false, false, false, false, false, false, false, false, false, false, false, false, false, false, false] rfl (by kernel_rfl) (by kernel_rfl) (by kernel_rfl) (by kernel_rfl) (fun _ _ _ h => h) (.inl ⟨by kernel_rfl, fun x_ hu => by kernel_rfl⟩) hG ?_
    simp only [Act.put, List.setIfInBounds_toArray, List.set_cons_zero, List.set_cons_succ, List.getElem_toArray, List.getElem_cons_zero, List.getElem_cons_succ]
    refine any_take (i := 1) (v := (.pointer (some ⟨w.heap.size, 1, none⟩))) #[true, false, false, false, false, false, false, false, false, false, false, false, false, false, false, false, false, false, false] rfl (by kernel_rfl) (by kernel_rfl) (by kernel_rfl) (by kernel_rfl) (fun _ _ _ h => h) (.inl ⟨by kernel_rfl, fun x_ hu => by kernel_rfl⟩) hG ?_
    simp only [Act.put, List.setIfInBounds_toArray, List.set_cons_zero, List.set_cons_succ, List.getElem_toArray, List.getElem_cons_zero, List.getElem_cons_succ]
    refine any_take (i := 2) (v := (.slice (some ⟨p, q, none⟩) n c)) #[true, true, false, false, false, false, false, false, false, false, false, false, false, false, false, false, false, false, false] rfl (by kernel_rfl) (by kernel_rfl) (by kernel_rfl) (by kernel_rfl) (fun _ _ _ h => h) (.inl ⟨by kernel_rfl, fun x_ hu => exec_sks _ (.tmp 39) rfl (w.heap.size) 1 (by kernel_rfl) (some ⟨p, q, none⟩) n c (cell_of (hu.blk (unhide hvb5)) (i := 1) rfl)⟩) hG ?_
    simp only [Act.put, List.setIfInBounds_toArray, List.set_cons_zero, List.set_cons_succ, List.getElem_toArray, List.getElem_cons_zero, List.getElem_cons_succ]
    refine any_take (i := 3) (v := (.int .i64 ((n : Nat) : Int))) #[true, true, true, false, false, false, false, false, false, false, false, false, false, false, false, false, false, false, false] rfl (by kernel_rfl) (by kernel_rfl) (by kernel_rfl) (by kernel_rfl) (fun _ _ _ h => h) (.inl ⟨by kernel_rfl, fun x_ hu => by kernel_rfl⟩) hG ?_
    simp only [Act.put, List.setIfInBounds_toArray, List.set_cons_zero, List.set_cons_succ, List.getElem_toArray, List.getElem_cons_zero, List.getElem_cons_succ]
    refine any_take (i := 4) (v := (.slice (some ⟨po, qo, none⟩) n co)) #[true, true, true, true, false, false, false, false, false, false, false, false, false, false, false, false, false, false, false] rfl (by kernel_rfl) (by kernel_rfl) (by kernel_rfl) (by kernel_rfl) (fun _ _ _ h => h) (.inl ⟨by kernel_rfl, fun x_ hu => exec_uptok _ (.tmp 38) (.tmp 41) rfl (some ⟨po, qo, none⟩) (n + 1) co n (by kernel_rfl) (by kernel_rfl) (unhide hcap) (by omega)⟩) hG ?_
    simp only [Act.put, List.setIfInBounds_toArray, List.set_cons_zero, List.set_cons_succ, List.getElem_toArray, List.getElem_cons_zero, List.getElem_cons_succ]
    refine any_take (i := 5) (v := (.pointer (some ⟨w.heap.size, 1, none⟩))) #[true, true, true, true, true, false, false, false, false, false, false, false, false, false, false, false, false, false, false] rfl (by kernel_rfl) (by kernel_rfl) (by kernel_rfl) (by kernel_rfl) (fun _ _ _ h => h) (.inl ⟨by kernel_rfl, fun x_ hu => by kernel_rfl⟩) hG ?_
    simp only [Act.put, List.setIfInBounds_toArray, List.set_cons_zero, List.set_cons_succ, List.getElem_toArray, List.getElem_cons_zero, List.getElem_cons_succ]
    refine any_take (i := 6) (v := (.slice (some ⟨p, q, none⟩) n c)) #[true, true, true, true, true, true, false, false, false, false, false, false, false, false, false, false, false, false, false] rfl (by kernel_rfl) (by kernel_rfl) (by kernel_rfl) (by kernel_rfl) (fun _ _ _ h => h) (.inl ⟨by kernel_rfl, fun x_ hu => exec_sks _ (.tmp 43) rfl (w.heap.size) 1 (by kernel_rfl) (some ⟨p, q, none⟩) n c (cell_of (hu.blk (unhide hvb5)) (i := 1) rfl)⟩) hG ?_
    simp only [Act.put, List.setIfInBounds_toArray, List.set_cons_zero, List.set_cons_succ, List.getElem_toArray, List.getElem_cons_zero, List.getElem_cons_succ]
    refine any_one (i := 7) (by kernel_rfl) rfl (fun K hK => ?_)
    refine step_callw (by kernel_rfl) 7 #[.slice (some ⟨po, qo, none⟩) n co, .slice (some ⟨p, q, none⟩) n c] (by kernel_rfl) ((jhops_some ks (unhide hks) po qo n co p q c x1 ((unhide hpre).gr hG) (((unhide lk).gr (unhide hGB)).gr hG)).mono ?_)
    rintro r z2 ⟨rfl, hg⟩
    refine ⟨_, rfl, ?_⟩
    replace hG := hG.trans hg
    clear hg
    refine hK.out _ _ hG (fun _ => ?_)
    clear hK K
    simp only [Act.put, List.setIfInBounds_toArray, List.set_cons_zero, List.set_cons_succ, List.getElem_toArray, List.getElem_cons_zero, List.getElem_cons_succ]
    refine any_take (i := 8) (v := (.bool false)) #[true, true, true, true, true, true, true, true, false, false, false, false, false, false, false, false, false, false, false] rfl (by kernel_rfl) (by kernel_rfl) (by kernel_rfl) (by kernel_rfl) (fun _ _ _ h => h) (.inl ⟨by kernel_rfl, fun x_ hu => by kernel_rfl⟩) hG ?_
    simp only [Act.put, List.setIfInBounds_toArray, List.set_cons_zero, List.set_cons_succ, List.getElem_toArray, List.getElem_cons_zero, List.getElem_cons_succ]
    refine any_take (i := 9) (v := (.bool false)) #[true, true, true, true, true, true, true, true, true, false, false, false, false, false, false, false, false, false, false] rfl (by kernel_rfl) (by kernel_rfl) (by kernel_rfl) (by kernel_rfl) (fun _ _ _ h => h) (.inl ⟨by kernel_rfl, fun x_ hu => by kernel_rfl⟩) hG ?_
    simp only [Act.put, List.setIfInBounds_toArray, List.set_cons_zero, List.set_cons_succ, List.getElem_toArray, List.getElem_cons_zero, List.getElem_cons_succ]
    refine any_take (i := 10) (v := (.slice (some ⟨po, qo, none⟩) (n + 1) co)) #[true, true, true, true, true, true, true, true, true, true, false, false, false, false, false, false, false, false, false] rfl (by kernel_rfl) (by kernel_rfl) (by kernel_rfl) (by kernel_rfl) (fun _ _ _ h => h) (.inl ⟨by kernel_rfl, fun x_ hu => by kernel_rfl⟩) hG ?_
    simp only [Act.put, List.setIfInBounds_toArray, List.set_cons_zero, List.set_cons_succ, List.getElem_toArray, List.getElem_cons_zero, List.getElem_cons_succ]
    refine any_take (i := 11) (v := (.pointer (some ⟨w.heap.size, 1, none⟩))) #[true, true, true, true, true, true, true, true, true, true, true, false, false, false, false, false, false, false, false] rfl (by kernel_rfl) (by kernel_rfl) (by kernel_rfl) (by kernel_rfl) (fun _ _ _ h => h) (.inl ⟨by kernel_rfl, fun x_ hu => by kernel_rfl⟩) hG ?_
    simp only [Act.put, List.setIfInBounds_toArray, List.set_cons_zero, List.set_cons_succ, List.getElem_toArray, List.getElem_cons_zero, List.getElem_cons_succ]
    refine any_take (i := 12) (v := (.slice (some ⟨p, q, none⟩) n c)) #[true, true, true, true, true, true, true, true, true, true, true, true, false, false, false, false, false, false, false] rfl (by kernel_rfl) (by kernel_rfl) (by kernel_rfl) (by kernel_rfl) (fun _ _ _ h => h) (.inl ⟨by kernel_rfl, fun x_ hu => exec_sks _ (.tmp 49) rfl (w.heap.size) 1 (by kernel_rfl) (some ⟨p, q, none⟩) n c (cell_of (hu.blk (unhide hvb5)) (i := 1) rfl)⟩) hG ?_
    simp only [Act.put, List.setIfInBounds_toArray, List.set_cons_zero, List.set_cons_succ, List.getElem_toArray, List.getElem_cons_zero, List.getElem_cons_succ]
    refine any_take (i := 13) (v := (.int .i64 ((n : Nat) : Int))) #[true, true, true, true, true, true, true, true, true, true, true, true, true, false, false, false, false, false, false] rfl (by kernel_rfl) (by kernel_rfl) (by kernel_rfl) (by kernel_rfl) (fun _ _ _ h => h) (.inl ⟨by kernel_rfl, fun x_ hu => by kernel_rfl⟩) hG ?_
    simp only [Act.put, List.setIfInBounds_toArray, List.set_cons_zero, List.set_cons_succ, List.getElem_toArray, List.getElem_cons_zero, List.getElem_cons_succ]
    refine any_take (i := 14) (v := (.pointer (some ⟨po, qo + 32 * n, none⟩))) #[true, true, true, true, true, true, true, true, true, true, true, true, true, true, false, false, false, false, false] rfl (by kernel_rfl) (by kernel_rfl) (by kernel_rfl) (by kernel_rfl) (fun _ _ _ h => h) (.inl ⟨by kernel_rfl, fun x_ hu => exec_iks _ (.tmp 48) (.tmp 51) rfl po qo (n + 1) co n (by kernel_rfl) (by kernel_rfl) (by omega)⟩) hG ?_
    simp only [Act.put, List.setIfInBounds_toArray, List.set_cons_zero, List.set_cons_succ, List.getElem_toArray, List.getElem_cons_zero, List.getElem_cons_succ]
    refine any_take (i := 15) (v := (.agg (kc K9))) #[true, true, true, true, true, true, true, true, true, true, true, true, true, true, true, false, false, false, false] rfl (by kernel_rfl) (by kernel_rfl) (by kernel_rfl) (by kernel_rfl) (fun _ _ _ h => h) (.inl ⟨by kernel_rfl, fun x_ hu => exec_row _ 30 (.tmp 52) rfl po (qo + 32 * n) (by kernel_rfl) (bv K9) _ (range_gr (unhide hlast) hu) Try.underlying30 rfl (by rw [Try.infoKy]; rfl)⟩) hG ?_
    simp only [Act.put, List.setIfInBounds_toArray, List.set_cons_zero, List.set_cons_succ, List.getElem_toArray, List.getElem_cons_zero, List.getElem_cons_succ]
    refine any_take (i := 16) (v := (.agg (kc K9))) #[true, true, true, true, true, true, true, true, true, true, true, true, true, true, true, true, false, false, false] rfl (by kernel_rfl) (by kernel_rfl) (by kernel_rfl) (by kernel_rfl) (fun _ _ _ h => h) (.inl ⟨by kernel_rfl, fun x_ hu => by kernel_rfl⟩) hG ?_
    simp only [Act.put, List.setIfInBounds_toArray, List.set_cons_zero, List.set_cons_succ, List.getElem_toArray, List.getElem_cons_zero, List.getElem_cons_succ]
    refine any_take (i := 17) (v := (.bool false)) #[true, true, true, true, true, true, true, true, true, true, true, true, true, true, true, true, true, false, false] rfl (by kernel_rfl) (by kernel_rfl) (by kernel_rfl) (by kernel_rfl) (fun _ _ _ h => h) (.inl ⟨by kernel_rfl, fun x_ hu => exec_neq_k _ (.tmp 53) (.tmp 54) rfl (kc K9) (by kernel_rfl) (by kernel_rfl) (by kernel_rfl) (eq_kc rfl _)⟩) hG ?_
    simp only [Act.put, List.setIfInBounds_toArray, List.set_cons_zero, List.set_cons_succ, List.getElem_toArray, List.getElem_cons_zero, List.getElem_cons_succ]
    refine any_take (i := 18) (v := (.bool false)) #[true, true, true, true, true, true, true, true, true, true, true, true, true, true, true, true, true, true, false] rfl (by kernel_rfl) (by kernel_rfl) (by kernel_rfl) (by kernel_rfl) (fun _ _ _ h => h) (.inl ⟨by kernel_rfl, fun x_ hu => by kernel_rfl⟩) hG ?_
    simp only [Act.put, List.setIfInBounds_toArray, List.set_cons_zero, List.set_cons_succ, List.getElem_toArray, List.getElem_cons_zero, List.getElem_cons_succ]
    refine any_done (by kernel_rfl) ?_
    replace hvb5 := hide (hG.blk (unhide hvb5))
    replace hGB := hide ((unhide hGB).trans hG)
    clear hG
    go_upto_region 8 with fail
    refine wp_region_lit ?_
    refine list_val (.agg (#[.int .u64 r, .slice (some ⟨p, q, none⟩) n c] : Array Value)) (by kernel_rfl) (exec_arr _ 25 (.tmp 2) rfl (w.heap.size) (by kernel_rfl) (#[.int .u64 r, .slice (some ⟨p, q, none⟩) n c] : Array Value) 25 _ (unhide hvb5) Try.underlying25 rfl (by rw [Try.infoAnn]; rfl)) ?_
    simp only [Act.put, List.setIfInBounds_toArray, List.set_cons_zero, List.set_cons_succ, List.getElem_toArray, List.getElem_cons_zero, List.getElem_cons_succ]
    refine list_call 8 #[.agg (#[.int .u64 r, .slice (some ⟨p, q, none⟩) n c] : Array Value)] (by kernel_rfl) (by kernel_rfl) ((qran_ok r (some ⟨p, q, none⟩) n c z2).mono ?_)
    rintro r_ z3 ⟨rfl, hg⟩
    rw [hR]
    replace hvb5 := hide (hg.blk (unhide hvb5))
    replace hGB := hide ((unhide hGB).trans hg)
    clear hg
    refine ⟨_, rfl, ?_⟩
    simp only [Act.put, List.setIfInBounds_toArray, List.set_cons_zero, List.set_cons_succ, List.getElem_toArray, List.getElem_cons_zero, List.getElem_cons_succ]
    refine wpList_nil ?_
    go_upto_region 11 with fail
    refine wp_region_lit ?_
    refine list_val (.int .i64 241) (by kernel_rfl) (by kernel_rfl) ?_
    simp only [Act.put, List.setIfInBounds_toArray, List.set_cons_zero, List.set_cons_succ, List.getElem_toArray, List.getElem_cons_zero, List.getElem_cons_succ]
    refine list_val (.bool false) (by kernel_rfl) (by kernel_rfl) ?_
    simp only [Act.put, List.setIfInBounds_toArray, List.set_cons_zero, List.set_cons_succ, List.getElem_toArray, List.getElem_cons_zero, List.getElem_cons_succ]
    refine list_val (.bool false) (by kernel_rfl) (by kernel_rfl) ?_
    simp only [Act.put, List.setIfInBounds_toArray, List.set_cons_zero, List.set_cons_succ, List.getElem_toArray, List.getElem_cons_zero, List.getElem_cons_succ]
    refine list_val (.slice none 0 0) (by kernel_rfl) (by kernel_rfl) ?_
    simp only [Act.put, List.setIfInBounds_toArray, List.set_cons_zero, List.set_cons_succ, List.getElem_toArray, List.getElem_cons_zero, List.getElem_cons_succ]
    refine list_val (.int .i64 0) (by kernel_rfl) (by kernel_rfl) ?_
    simp only [Act.put, List.setIfInBounds_toArray, List.set_cons_zero, List.set_cons_succ, List.getElem_toArray, List.getElem_cons_zero, List.getElem_cons_succ]
    refine list_val (.bool false) (by kernel_rfl) (by kernel_rfl) ?_
    simp only [Act.put, List.setIfInBounds_toArray, List.set_cons_zero, List.set_cons_succ, List.getElem_toArray, List.getElem_cons_zero, List.getElem_cons_succ]
    refine list_val (.bool false) (by kernel_rfl) (by kernel_rfl) ?_
    simp only [Act.put, List.setIfInBounds_toArray, List.set_cons_zero, List.set_cons_succ, List.getElem_toArray, List.getElem_cons_zero, List.getElem_cons_succ]
    refine wpList_nil ?_
    rename_i K1_ hK1_ K0_ hK0_
    refine hK0_ _ _ ?_
    refine wp_cond_false rfl ?_
    refine wp_skip ?_
    show K1_ _ _
    refine hK1_ _ _ ?_
    refine wp_code_eq (c := getC) (by kernel_rfl) ?_
    exact ann_get w _ (fun t w' hg ht => bodyPost_ret (v := .bool true) (by rw [results_tmp Try.results3, ht]) rfl (by rw [unhide hT]; exact ⟨rfl, hg⟩)) L s1 m cap hm9 z3 (unhide hGB) ((unhide hl).gr (unhide hGB)) _ _ _ _ _ _ _ _ _ _ _ _ _ _ _ _ _ _ _ _ _ _ _ _ _ _ _ _ _ _ _ _ _ _ _ _ _ _ _ _ _ _ _ _ _ _ _ _ _ _ _ _ _ _ _ _ _ _ _ _ _ _ _ _ _ _ _ _ _ _ _ _ _ _ _ _ _ _ _ _ _ _ _ _ _ _ _ _ _ _ _ _ _ _ _ _ _ _ _ _ _ _ _ _ _ _ _ _ _ _ _ _ _ _ _ _ _ _ _ _ _ _ _ _ _ _ _ _ _ _ _ _
set_option maxHeartbeats 4000000 in
theorem ann_nil (r : Int) (hr : 0 ≤ r ∧ r < 18446744073709551616) (a : Option Addr) (n c : Nat) (ks : List (List Int)) (hks : KsOk ks) (hkn : ks.length = n) (hnb : n ≤ 4398046511104) (w : World) (hsl : n = 0 ∨ ∃ p q, a = some ⟨p, q, none⟩ ∧ Ls 32 w (some ⟨p, q, none⟩) n c (ks.map bv)) (l : List Int) (t : Option Addr) (len cap : Nat) (lb : Lb w t len cap l) (hn1 : n = 0) (hR : anR r 0 = false) : Calls Try.prog 3 #[.agg (#[.int .u64 r, .slice a n c] : Array Value), .slice t len cap] w (Woke w) := by
  obtain ⟨T, hT⟩ : ∃ T, T = Woke w := ⟨_, rfl⟩
  rw [← hT]
  replace hT := hide hT
  subst hn1
  have hk0 : ks = [] := List.eq_nil_of_length_eq_zero hkn
  subst hk0
  clear hkn
  obtain ⟨SA, hSA⟩ : ∃ S, S = (#[.int .u64 r, .slice a 0 c] : Array Value) := ⟨_, rfl⟩
  rw [← hSA]
  replace hSA := hide hSA
  replace lb := hide lb
  replace hks := hide hks
  go_enter Try.func3, Try.ntmps3
  go_upto_region 1 with fail
  have hB := (Bl.nil w).new SA 25
  simp only [List.nil_append] at hB
  generalize World.alloc _ _ = u at *
  rw [unhide hSA] at hB
  replace hB : Bl w [⟨w.heap.size, (#[.int .u64 r, .slice a 0 c] : Array Value), 25⟩] u := hB
  refine wp_region_lit ?_
  refine list_call 4 #[] (by kernel_rfl) (by kernel_rfl) ((jwakes_ok u).mono ?_)
  rintro r_ u1 ⟨rfl, hg⟩
  replace hB := hB.more hg
  clear hg
  refine ⟨_, rfl, ?_⟩
  simp only [Act.put, List.setIfInBounds_toArray, List.set_cons_zero, List.set_cons_succ, List.getElem_toArray, List.getElem_cons_zero, List.getElem_cons_succ]
  refine list_val (.bool false) (by kernel_rfl) (by kernel_rfl) ?_
  simp only [Act.put, List.setIfInBounds_toArray, List.set_cons_zero, List.set_cons_succ, List.getElem_toArray, List.getElem_cons_zero, List.getElem_cons_succ]
  refine wpList_nil ?_
  replace hB := hide hB
  go_upto_region 3 with fail
  replace hB := unhide hB
  refine wp_region_lit ?_
  refine list_val (.slice t len cap) (by kernel_rfl) (by kernel_rfl) ?_
  simp only [Act.put, List.setIfInBounds_toArray, List.set_cons_zero, List.set_cons_succ, List.getElem_toArray, List.getElem_cons_zero, List.getElem_cons_succ]
  refine list_call 5 #[.slice t len cap] (by kernel_rfl) (by kernel_rfl) ((jcut_ok l t len cap u1 ((unhide lb).gr hB.gr)).mono ?_)
  rintro r_ u2 ⟨s1, rfl, hs1, rfl⟩
  have hl := hs1 w (unhide lb)
  obtain ⟨m, hm0⟩ : ∃ m, m = min len 1000 := ⟨_, rfl⟩
  obtain ⟨L, hL0⟩ : ∃ L, L = l.take (min len 1000) := ⟨_, rfl⟩
  rw [← hL0] at hl
  rw [← hm0] at hl ⊢
  have hm9 : m ≤ 1000 := by omega
  clear hs1 lb hL0 hm0
  replace hl := hide hl
  refine ⟨_, rfl, ?_⟩
  simp only [Act.put, List.setIfInBounds_toArray, List.set_cons_zero, List.set_cons_succ, List.getElem_toArray, List.getElem_cons_zero, List.getElem_cons_succ]
  (refine wpList_step fun K hK => ?_; replace hK := hide hK; go_simp; refine unhide hK _ _ ?_; clear hK K)
  refine wpList_nil ?_
  replace hB := hide hB
  go_upto_region 4 with fail
  replace hB := unhide hB
  have hvb := hide (hB.get 0 (x := ⟨w.heap.size, (#[.int .u64 r, .slice a 0 c] : Array Value), 25⟩) rfl)
  dsimp only at hvb
  have hGB := hide hB.gr
  clear hB
  generalize hA0 : Act.mk _ _ = A0
  have ev2 : A0.eval (.tmp 2) = .pointer (some ⟨w.heap.size, 0, none⟩) := by rw [← hA0]; rfl
  have hs0 : A0.tmps.size = 133 := by rw [← hA0]; rfl
  obtain ⟨W0, hW0⟩ : ∃ W0, W0 = w.heap.size := ⟨_, rfl⟩
  rw [← hW0] at ev2 hvb
  have hlk : Hid (([] : List (List Value)) = [] ∨ ∃ p9 o9, (a : Option Addr) = some ⟨p9, o9, none⟩ ∧ u2.rangeAt p9 o9 ([] : List (List Value)).flatten) := hide (.inl rfl)
  refine flow (J := fun l f w => Gr u2 w ∧ (l 0 = true → f 0 = .pointer (some ⟨W0, 1, none⟩)) ∧ (l 1 = true → f 1 = .slice a 0 c) ∧ (l 2 = true → f 2 = .int .i64 ((0 : Nat) : Int)) ∧ (l 3 = true → f 3 = .int .i64 ((0 + 2 : Nat) : Int)) ∧ (l 4 = true → (l 7 = false → Or_ 32 30 u2.heap.size w (f 4) [])) ∧ (l 5 = true → f 5 = .pointer (some ⟨W0, 1, none⟩)) ∧ (l 6 = true → f 6 = .slice a 0 c) ∧ (l 7 = true → (l 10 = false → Or_ 32 30 u2.heap.size w (f 7) ([]))) ∧ (l 8 = true → f 8 = .agg (kc K9)) ∧ (l 9 = true → (l 10 = false → ∃ p, f 9 = .slice (some ⟨p, 0, none⟩) 1 1 ∧ w.heap[p]? = some (.cells (kc K9) 30 (0, 0)) ∧ (l 4 = true → l 7 = false → (f 4).ownBlock ≠ some p))) ∧ (l 10 = true → Or_ 32 30 u2.heap.size w (f 10) (([]) ++ [bv K9])) ∧ (l 11 = true → f 11 = f 10)) (by kernel_rfl) (by kernel_rfl) (by kernel_rfl) ?_ ?_ ?_
  · exact ⟨(Gr.refl u2).drew, (fun e => by cases e), (fun e => by cases e), (fun e => by cases e), (fun e => by cases e), (fun e => by cases e), (fun e => by cases e), (fun e => by cases e), (fun e => by cases e), (fun e => by cases e), (fun e => by cases e), (fun e => by cases e), (fun e => by cases e)⟩
  · intro i o l f w_ ho hl_ hp hcl hJ K hK
    obtain ⟨hG, t0, t1, t2, t3, t4, t5, t6, t7, t8, t9, t10, t11⟩ := hJ
    match i, ho with
    | 0, ho =>
      obtain rfl := Option.some.inj ho
      exact op_val (.pointer (some ⟨W0, 1, none⟩)) rfl rfl (y1_f _ W0 (.tmp 2) 1 (by decide) rfl ((ev_off 2 (by kernel_rfl)).trans ev2)) (hK _ _ ⟨hG, (fun _ => rfl), t1, t2, t3, t4, t5, t6, t7, t8, t9, t10, t11⟩)
    | 1, ho =>
      obtain rfl := Option.some.inj ho
      have p0 := pre_at hp 0 (by kernel_rfl)
      exact op_val (.slice a 0 c) rfl rfl (exec_sks _ (.tmp 15) rfl W0 1 ((ev_at 0 15 _ (by kernel_rfl) rfl rfl p0 (by rw [hs0]; decide)).trans (t0 p0)) a 0 c (cell_of (hG.blk (unhide hvb)) (i := 1) rfl)) (hK _ _ ⟨hG, t0, (fun _ => rfl), t2, t3, t4, t5, t6, t7, t8, t9, t10, t11⟩)
    | 2, ho =>
      obtain rfl := Option.some.inj ho
      have p1 := pre_at hp 1 (by kernel_rfl)
      exact op_val (.int .i64 ((0 : Nat) : Int)) rfl rfl (y1_l _ (.tmp 16) rfl a 0 c ((ev_at 1 16 _ (by kernel_rfl) rfl rfl p1 (by rw [hs0]; decide)).trans (t1 p1))) (hK _ _ ⟨hG, t0, t1, (fun _ => rfl), t3, t4, t5, t6, t7, t8, t9, t10, t11⟩)
    | 3, ho =>
      obtain rfl := Option.some.inj ho
      have p2 := pre_at hp 2 (by kernel_rfl)
      exact op_val (.int .i64 ((0 + 2 : Nat) : Int)) rfl rfl (y4_2 _ (.tmp 17) rfl 0 (by omega) ((ev_at 2 17 _ (by kernel_rfl) rfl rfl p2 (by rw [hs0]; decide)).trans (t2 p2))) (hK _ _ ⟨hG, t0, t1, t2, (fun _ => rfl), t4, t5, t6, t7, t8, t9, t10, t11⟩)
    | 4, ho =>
      obtain rfl := Option.some.inj ho
      have p3 := pre_at hp 3 (by kernel_rfl)
      have hC : (madeCells (Value.agg (kc Z32)).cells ((0 + 2) * 32)).size = (0 + 2) * 32 := size_madeCells _ _
      have hg := (Gr.refl w_).alloc (.cells (madeCells (Value.agg (kc Z32)).cells ((0 + 2) * 32)) 30 (0, 0))
      have hG2 := hG.trans hg
      have hor : Or_ 32 30 u2.heap.size (w_.alloc (.cells (madeCells (Value.agg (kc Z32)).cells ((0 + 2) * 32)) 30 (0, 0))) (.slice (some ⟨w_.heap.size, 0, none⟩) 0 (0 + 2)) [] := ⟨(fun r hr => by cases hr), World.ownsRow_made w_ _ (0 + 2) hG.size (by unfold maxLen; omega) hC⟩
      exact op_val (.slice (some ⟨w_.heap.size, 0, none⟩) 0 (0 + 2)) rfl rfl (exec_mk w_ (.tmp 18) rfl (0 + 2) (by omega) ((ev_at 3 18 _ (by kernel_rfl) rfl rfl p3 (by rw [hs0]; decide)).trans (t3 p3))) (hK _ _ ⟨hG2, t0, t1, t2, t3, (fun _ _ => hor), t5, t6, (fun e => absurd (pre_at (hcl 7 _ rfl e) 4 (by kernel_rfl)) (by rw [hl_]; decide)), t8, (fun e e2 => by obtain ⟨p9, h1, h2, h3⟩ := t9 e e2; exact ⟨p9, h1, hg.blk h2, fun _ _ h => by have h4 := lt_of_block h2; have h5 : w_.heap.size = p9 := Option.some.inj h; omega⟩), (fun e => (t10 e).gr hg), t11⟩)
    | 5, ho =>
      obtain rfl := Option.some.inj ho
      exact op_val (.pointer (some ⟨W0, 1, none⟩)) rfl rfl (y1_f _ W0 (.tmp 2) 1 (by decide) rfl ((ev_off 2 (by kernel_rfl)).trans ev2)) (hK _ _ ⟨hG, t0, t1, t2, t3, t4, (fun _ => rfl), t6, t7, t8, t9, t10, t11⟩)
    | 6, ho =>
      obtain rfl := Option.some.inj ho
      have p5 := pre_at hp 5 (by kernel_rfl)
      exact op_val (.slice a 0 c) rfl rfl (exec_sks _ (.tmp 20) rfl W0 1 ((ev_at 5 20 _ (by kernel_rfl) rfl rfl p5 (by rw [hs0]; decide)).trans (t5 p5)) a 0 c (cell_of (hG.blk (unhide hvb)) (i := 1) rfl)) (hK _ _ ⟨hG, t0, t1, t2, t3, t4, t5, (fun _ => rfl), t7, t8, t9, t10, t11⟩)
    | 7, ho =>
      obtain rfl := Option.some.inj ho
      have p4 := pre_at hp 4 (by kernel_rfl)
      have p6 := pre_at hp 6 (by kernel_rfl)
      have hown := t4 p4 hl_
      refine op_wp rfl rfl (app_rows0 lt_k (.tmp 19) (.tmp 21) rfl u2.heap.size (f 4) [] (ev_at 4 19 _ (by kernel_rfl) rfl rfl p4 (by rw [hs0]; decide)) hown a 0 c ([]) ((ev_at 6 21 _ (by kernel_rfl) rfl rfl p6 (by rw [hs0]; decide)).trans (t6 p6)) (rfl) (fun r hr => by cases hr) (by
        rcases unhide hlk with h | ⟨p9, o9, h1, h2⟩
        · exact .inl h
        · exact .inr ⟨p9, o9, h1, range_gr h2 hG⟩) (fun x hx => by cases hx) (by rw [List.length_nil]; omega) hG.size ?_)
      intro v9 w9 hor hgr
      rw [List.nil_append] at hor
      have hG2 := grown_owned hown.2 (Nat.le_refl _) hG hgr
      exact hK _ _ ⟨hG2, t0, t1, t2, t3, (fun _ h => by cases h), t5, t6, (fun _ _ => hor), t8, (fun e e2 => by obtain ⟨p9, h1, h2, h3⟩ := t9 e e2; exact ⟨p9, h1, (hgr.block p9 (lt_of_block h2) (fun h => h3 p4 hl_ h.symm)).trans h2, fun _ h => by cases h⟩), (fun e => absurd (pre_at (hcl 10 _ rfl e) 7 (by kernel_rfl)) (by rw [hl_]; decide)), t11⟩
    | 8, ho =>
      obtain rfl := Option.some.inj ho
      exact op_val (.agg (kc K9)) rfl rfl (y4_b _ rfl) (hK _ _ ⟨hG, t0, t1, t2, t3, t4, t5, t6, t7, (fun _ => rfl), t9, t10, t11⟩)
    | 9, ho =>
      obtain rfl := Option.some.inj ho
      have p8 := pre_at hp 8 (by kernel_rfl)
      have hg := (Gr.refl w_).alloc (.cells (kc K9) 30 (0, 0))
      have hG2 := hG.trans hg
      have hb9 : (w_.alloc (.cells (kc K9) 30 (0, 0))).heap[w_.heap.size]? = some (.cells (kc K9) 30 (0, 0)) := blk_new _ _
      exact op_val (.slice (some ⟨w_.heap.size, 0, none⟩) 1 1) rfl rfl (exec_bk1 _ (.tmp 23) rfl K9 rfl ((ev_at 8 23 _ (by kernel_rfl) rfl rfl p8 (by rw [hs0]; decide)).trans (t8 p8))) (hK _ _ ⟨hG2, t0, t1, t2, t3, (fun e e2 => (t4 e e2).gr hg), t5, t6, (fun e e2 => (t7 e e2).gr hg), t8, (fun _ _ => ⟨_, rfl, hb9, fun e e2 h => by have h4 := (World.ownsRow.lt (t4 e e2).2 _ h).2; omega⟩), (fun e => absurd (pre_at (hcl 10 _ rfl e) 9 (by kernel_rfl)) (by rw [hl_]; decide)), t11⟩)
    | 10, ho =>
      obtain rfl := Option.some.inj ho
      have p7 := pre_at hp 7 (by kernel_rfl)
      have p9 := pre_at hp 9 (by kernel_rfl)
      have hown := t7 p7 hl_
      have q9 := p9
      obtain ⟨p9, h1, h2, h3⟩ := t9 p9 hl_
      refine op_wp rfl rfl (app_rows0 lt_k (.tmp 22) (.tmp 24) rfl u2.heap.size (f 7) ([]) (ev_at 7 22 _ (by kernel_rfl) rfl rfl p7 (by rw [hs0]; decide)) hown (some ⟨p9, 0, none⟩) 1 1 [bv K9] ((ev_at 9 24 _ (by kernel_rfl) rfl rfl q9 (by rw [hs0]; decide)).trans h1) rfl (by intro x hx; rw [List.mem_singleton.1 hx]; rfl) (.inr ⟨p9, 0, rfl, by
        have h5 : [bv K9].flatten = bv K9 := by simp
        rw [h5]
        exact range_row (by rw [← kc_bv]; exact h2)⟩) (by intro x hx u hu; rw [List.mem_singleton.1 hx] at hu; exact bv_K9 u hu) (by rw [List.length_nil]; omega) hG.size ?_)
      intro v9 w9 hor hgr
      have hG2 := grown_owned hown.2 (Nat.le_refl _) hG hgr
      exact hK _ _ ⟨hG2, t0, t1, t2, t3, (fun _ h => absurd (h.symm.trans p7) (by decide)), t5, t6, (fun _ h => by cases h), t8, (fun _ h => by cases h), (fun _ => hor), (fun e => absurd (pre_at (hcl 11 _ rfl e) 10 (by kernel_rfl)) (by rw [hl_]; decide))⟩
    | 11, ho =>
      obtain rfl := Option.some.inj ho
      have p0 := pre_at hp 0 (by kernel_rfl)
      have p1 := pre_at hp 1 (by kernel_rfl)
      have p2 := pre_at hp 2 (by kernel_rfl)
      have p3 := pre_at hp 3 (by kernel_rfl)
      have p4 := pre_at hp 4 (by kernel_rfl)
      have p5 := pre_at hp 5 (by kernel_rfl)
      have p6 := pre_at hp 6 (by kernel_rfl)
      have p7 := pre_at hp 7 (by kernel_rfl)
      have p8 := pre_at hp 8 (by kernel_rfl)
      have p9 := pre_at hp 9 (by kernel_rfl)
      have p10 := pre_at hp 10 (by kernel_rfl)
      exact op_val (f 10) rfl rfl (y1_a _ (.tmp 25) rfl _ (ev_at 10 25 _ (by kernel_rfl) rfl rfl p10 (by rw [hs0]; decide))) (hK _ _ ⟨hG, t0, t1, t2, t3, t4, t5, t6, t7, t8, t9, t10, (fun _ => rfl)⟩)
    | n + 12, ho => cases ho
  · intro l_ f_ v5 hall hJ
    obtain ⟨hG, t0, t1, t2, t3, t4, t5, t6, t7, t8, t9, t10, t11⟩ := hJ
    have o10 := t10 (hall 10 (by decide))
    have e11 := t11 (hall 11 (by decide))
    subst hA0
    simp only [putF, if_true]
    simp only [Act.put, List.setIfInBounds_toArray, List.set_cons_zero, List.set_cons_succ, List.getElem_toArray, List.getElem_cons_zero, List.getElem_cons_succ]
    rw [e11]
    clear t0 t1 t2 t3 t4 t5 t6 t7 t8 t9 t10 t11 e11 hall ev2 hs0 hlk
    obtain ⟨ao, co, eo, hls⟩ := o10.ls
    rw [show (([] : List (List Value)) ++ [bv K9]).length = 0 + 1 from by rfl] at eo hls
    obtain ⟨po, qo, rfl⟩ := ls_some hls (by omega)
    rw [eo]
    have hvb5 := hide (hG.blk (unhide hvb))
    replace hGB := hide ((unhide hGB).trans hG)
    rw [hW0] at hvb5
    have hcap0 := hide hls.cap
    have hpre := hide (hls.pre (rfl))
    have hlast : v5.rangeAt po (qo + 32 * 0) (bv K9) := by
      obtain ⟨p', q', e, h⟩ := hls.at_ 0 (by omega)
      have e2 := Option.some.inj e
      injection e2 with e3 e4 _
      subst e3 e4
      have e5 : (([] : List (List Value)) ++ [bv K9]).getD 0 [] = bv K9 := by
        have hle : ([] : List (List Value)).length = 0 := by rfl
        rw [List.getD_eq_getElem?_getD, List.getElem?_append_right (by omega), hle, Nat.sub_self]
        rfl
      rw [e5] at h
      exact h
    replace hlast := hide hlast
    clear o10 eo hls hG hW0 hvb
    generalize f_ 0 = y0; generalize f_ 1 = y1; generalize f_ 2 = y2; generalize f_ 3 = y3; generalize f_ 4 = y4; generalize f_ 5 = y5; generalize f_ 6 = y6; generalize f_ 7 = y7; generalize f_ 8 = y8; generalize f_ 9 = y9
    go_upto_region 5 with fail
    have hcap : Hid (0 + 1 ≤ co) := hide (by have h := unhide hcap0; exact h)
    refine any_start (S := fun (x : World) => Gr v5 x) (by kernel_rfl) ?_
    have hG : Gr v5 (World.drew v5) := (Gr.refl _).drew
    generalize World.drew _ = x0 at *
    simp only [List.size_toArray, List.length_cons, List.length_nil, Array.replicate, List.replicate]
    refine any_take (i := 0) (v := (.pointer (some ⟨w.heap.size, 0, none⟩))) #[false, false, false, false, false, false, false, false, false, false, false, false, false, false] rfl (by kernel_rfl) (by kernel_rfl) (by kernel_rfl) (by kernel_rfl) (fun _ _ _ h => h) (.inl ⟨by kernel_rfl, fun x_ hu => by kernel_rfl⟩) hG ?_
    simp only [Act.put, List.setIfInBounds_toArray, List.set_cons_zero, List.set_cons_succ, List.getElem_toArray, List.getElem_cons_zero, List.getElem_cons_succ]
    refine any_take (i := 1) (v := (.int .u64 r)) #[true, false, false, false, false, false, false, false, false, false, false, false, false, false] rfl (by kernel_rfl) (by kernel_rfl) (by kernel_rfl) (by kernel_rfl) (fun _ _ _ h => h) (.inl ⟨by kernel_rfl, fun x_ hu => exec_u64 _ (.tmp 27) rfl (w.heap.size) 0 (by kernel_rfl) r (cell_of (hu.blk (unhide hvb5)) (i := 0) rfl)⟩) hG ?_
    simp only [Act.put, List.setIfInBounds_toArray, List.set_cons_zero, List.set_cons_succ, List.getElem_toArray, List.getElem_cons_zero, List.getElem_cons_succ]
    refine any_take (i := 2) (v := (.slice (some ⟨po, qo, none⟩) (0 + 1) co)) #[true, true, false, false, false, false, false, false, false, false, false, false, false, false] rfl (by kernel_rfl) (by kernel_rfl) (by kernel_rfl) (by kernel_rfl) (fun _ _ _ h => h) (.inl ⟨by kernel_rfl, fun x_ hu => by kernel_rfl⟩) hG ?_
    simp only [Act.put, List.setIfInBounds_toArray, List.set_cons_zero, List.set_cons_succ, List.getElem_toArray, List.getElem_cons_zero, List.getElem_cons_succ]
    refine any_take (i := 3) (v := (.pointer (some ⟨w.heap.size, 1, none⟩))) #[true, true, true, false, false, false, false, false, false, false, false, false, false, false] rfl (by kernel_rfl) (by kernel_rfl) (by kernel_rfl) (by kernel_rfl) (fun _ _ _ h => h) (.inl ⟨by kernel_rfl, fun x_ hu => by kernel_rfl⟩) hG ?_
    simp only [Act.put, List.setIfInBounds_toArray, List.set_cons_zero, List.set_cons_succ, List.getElem_toArray, List.getElem_cons_zero, List.getElem_cons_succ]
    refine any_take (i := 4) (v := (.slice a 0 c)) #[true, true, true, true, false, false, false, false, false, false, false, false, false, false] rfl (by kernel_rfl) (by kernel_rfl) (by kernel_rfl) (by kernel_rfl) (fun _ _ _ h => h) (.inl ⟨by kernel_rfl, fun x_ hu => exec_sks _ (.tmp 30) rfl (w.heap.size) 1 (by kernel_rfl) a 0 c (cell_of (hu.blk (unhide hvb5)) (i := 1) rfl)⟩) hG ?_
    simp only [Act.put, List.setIfInBounds_toArray, List.set_cons_zero, List.set_cons_succ, List.getElem_toArray, List.getElem_cons_zero, List.getElem_cons_succ]
    refine any_take (i := 5) (v := (.int .i64 ((0 : Nat) : Int))) #[true, true, true, true, true, false, false, false, false, false, false, false, false, false] rfl (by kernel_rfl) (by kernel_rfl) (by kernel_rfl) (by kernel_rfl) (fun _ _ _ h => h) (.inl ⟨by kernel_rfl, fun x_ hu => by kernel_rfl⟩) hG ?_
    simp only [Act.put, List.setIfInBounds_toArray, List.set_cons_zero, List.set_cons_succ, List.getElem_toArray, List.getElem_cons_zero, List.getElem_cons_succ]
    refine any_take (i := 6) (v := (.slice (some ⟨po, qo, none⟩) 0 co)) #[true, true, true, true, true, true, false, false, false, false, false, false, false, false] rfl (by kernel_rfl) (by kernel_rfl) (by kernel_rfl) (by kernel_rfl) (fun _ _ _ h => h) (.inl ⟨by kernel_rfl, fun x_ hu => exec_uptok _ (.tmp 29) (.tmp 32) rfl (some ⟨po, qo, none⟩) (0 + 1) co 0 (by kernel_rfl) (by kernel_rfl) (unhide hcap) (by omega)⟩) hG ?_
    simp only [Act.put, List.setIfInBounds_toArray, List.set_cons_zero, List.set_cons_succ, List.getElem_toArray, List.getElem_cons_zero, List.getElem_cons_succ]
    refine any_take (i := 7) (v := (.agg #[.int .u64 r, .slice (some ⟨po, qo, none⟩) 0 co])) #[true, true, true, true, true, true, true, false, false, false, false, false, false, false] rfl (by kernel_rfl) (by kernel_rfl) (by kernel_rfl) (by kernel_rfl) (fun _ _ _ h => h) (.inl ⟨by kernel_rfl, fun x_ hu => by kernel_rfl⟩) hG ?_
    simp only [Act.put, List.setIfInBounds_toArray, List.set_cons_zero, List.set_cons_succ, List.getElem_toArray, List.getElem_cons_zero, List.getElem_cons_succ]
    refine any_one (i := 8) (by kernel_rfl) rfl (fun K hK => ?_)
    refine step_callw (by kernel_rfl) 6 #[.agg #[.int .u64 r, .slice (some ⟨po, qo, none⟩) 0 co]] (by kernel_rfl) ((fputa_no r (some ⟨po, qo, none⟩) 0 co hR x0).mono ?_)
    rintro r z1 ⟨rfl, hg⟩
    refine ⟨_, rfl, ?_⟩
    replace hG := hG.trans hg
    clear hg
    refine hK.out _ _ hG (fun _ => ?_)
    clear hK K
    simp only [Act.put, List.setIfInBounds_toArray, List.set_cons_zero, List.set_cons_succ, List.getElem_toArray, List.getElem_cons_zero, List.getElem_cons_succ]
    refine any_take (i := 9) (v := (.tuple #[.slice none 0 0, .int .i64 241])) #[true, true, true, true, true, true, true, true, true, false, false, false, false, false] rfl (by kernel_rfl) (by kernel_rfl) (by kernel_rfl) (by kernel_rfl) (fun _ _ _ h => h) (.inl ⟨by kernel_rfl, fun x_ hu => by kernel_rfl⟩) hG ?_
    simp only [Act.put, List.setIfInBounds_toArray, List.set_cons_zero, List.set_cons_succ, List.getElem_toArray, List.getElem_cons_zero, List.getElem_cons_succ]
    refine any_take (i := 10) (v := (.slice none 0 0)) #[true, true, true, true, true, true, true, true, true, true, false, false, false, false] rfl (by kernel_rfl) (by kernel_rfl) (by kernel_rfl) (by kernel_rfl) (fun _ _ _ h => h) (.inl ⟨by kernel_rfl, fun x_ hu => by kernel_rfl⟩) hG ?_
    simp only [Act.put, List.setIfInBounds_toArray, List.set_cons_zero, List.set_cons_succ, List.getElem_toArray, List.getElem_cons_zero, List.getElem_cons_succ]
    refine any_take (i := 11) (v := (.int .i64 241)) #[true, true, true, true, true, true, true, true, true, true, true, false, false, false] rfl (by kernel_rfl) (by kernel_rfl) (by kernel_rfl) (by kernel_rfl) (fun _ _ _ h => h) (.inl ⟨by kernel_rfl, fun x_ hu => by kernel_rfl⟩) hG ?_
    simp only [Act.put, List.setIfInBounds_toArray, List.set_cons_zero, List.set_cons_succ, List.getElem_toArray, List.getElem_cons_zero, List.getElem_cons_succ]
    refine any_one (i := 12) (by kernel_rfl) rfl (fun K hK => ?_)
    replace hK := hide hK
    go_simp
    refine (unhide hK).out _ _ hG (fun _ => ?_)
    clear hK K
    refine any_one (i := 13) (by kernel_rfl) rfl (fun K hK => ?_)
    replace hK := hide hK
    go_simp
    refine (unhide hK).out _ _ hG (fun _ => ?_)
    clear hK K
    refine any_done (by kernel_rfl) ?_
    replace hvb5 := hide (hG.blk (unhide hvb5))
    replace hlast := hide (range_gr (unhide hlast) hG)
    replace hpre := hide ((unhide hpre).gr hG)
    replace hGB := hide ((unhide hGB).trans hG)
    clear hG
    go_upto_region 6 with fail
    refine any_start (S := fun (x : World) => Gr z1 x) (by kernel_rfl) ?_
    have hG : Gr z1 (World.drew z1) := (Gr.refl _).drew
    generalize World.drew _ = x1 at *
    simp only [List.size_toArray, List.length_cons, List.length_nil, Array.replicate, List.replicate]
    refine any_take (i := 0) (v := (.slice (some ⟨po, qo, none⟩) (0 + 1) co)) #[false, false, false, false, false, false, false, false, false, false, false, false, false, false, false, false, false, false, false] rfl (by kernel_rfl) (by kernel_rfl) (by kernel_rfl) (by kernel_rfl) (fun _ _ _ h => h) (.inl ⟨by kernel_rfl, fun x_ hu => by kernel_rfl⟩) hG ?_
    simp only [Act.put, List.setIfInBounds_toArray, List.set_cons_zero, List.set_cons_succ, List.getElem_toArray, List.getElem_cons_zero, List.getElem_cons_succ]
    refine any_take (i := 1) (v := (.pointer (some ⟨w.heap.size, 1, none⟩))) #[true, false, false, false, false, false, false, false, false, false, false, false, false, false, false, false, false, false, false] rfl (by kernel_rfl) (by kernel_rfl) (by kernel_rfl) (by kernel_rfl) (fun _ _ _ h => h) (.inl ⟨by kernel_rfl, fun x_ hu => by kernel_rfl⟩) hG ?_
    simp only [Act.put, List.setIfInBounds_toArray, List.set_cons_zero, List.set_cons_succ, List.getElem_toArray, List.getElem_cons_zero, List.getElem_cons_succ]
    refine any_take (i := 2) (v := (.slice a 0 c)) #[true, true, false, false, false, false, false, false, false, false, false, false, false, false, false, false, false, false, false] rfl (by kernel_rfl) (by kernel_rfl) (by kernel_rfl) (by kernel_rfl) (fun _ _ _ h => h) (.inl ⟨by kernel_rfl, fun x_ hu => exec_sks _ (.tmp 39) rfl (w.heap.size) 1 (by kernel_rfl) a 0 c (cell_of (hu.blk (unhide hvb5)) (i := 1) rfl)⟩) hG ?_
    simp only [Act.put, List.setIfInBounds_toArray, List.set_cons_zero, List.set_cons_succ, List.getElem_toArray, List.getElem_cons_zero, List.getElem_cons_succ]
    refine any_take (i := 3) (v := (.int .i64 ((0 : Nat) : Int))) #[true, true, true, false, false, false, false, false, false, false, false, false, false, false, false, false, false, false, false] rfl (by kernel_rfl) (by kernel_rfl) (by kernel_rfl) (by kernel_rfl) (fun _ _ _ h => h) (.inl ⟨by kernel_rfl, fun x_ hu => by kernel_rfl⟩) hG ?_
    simp only [Act.put, List.setIfInBounds_toArray, List.set_cons_zero, List.set_cons_succ, List.getElem_toArray, List.getElem_cons_zero, List.getElem_cons_succ]
    refine any_take (i := 4) (v := (.slice (some ⟨po, qo, none⟩) 0 co)) #[true, true, true, true, false, false, false, false, false, false, false, false, false, false, false, false, false, false, false] rfl (by kernel_rfl) (by kernel_rfl) (by kernel_rfl) (by kernel_rfl) (fun _ _ _ h => h) (.inl ⟨by kernel_rfl, fun x_ hu => exec_uptok _ (.tmp 38) (.tmp 41) rfl (some ⟨po, qo, none⟩) (0 + 1) co 0 (by kernel_rfl) (by kernel_rfl) (unhide hcap) (by omega)⟩) hG ?_
    simp only [Act.put, List.setIfInBounds_toArray, List.set_cons_zero, List.set_cons_succ, List.getElem_toArray, List.getElem_cons_zero, List.getElem_cons_succ]
    refine any_take (i := 5) (v := (.pointer (some ⟨w.heap.size, 1, none⟩))) #[true, true, true, true, true, false, false, false, false, false, false, false, false, false, false, false, false, false, false] rfl (by kernel_rfl) (by kernel_rfl) (by kernel_rfl) (by kernel_rfl) (fun _ _ _ h => h) (.inl ⟨by kernel_rfl, fun x_ hu => by kernel_rfl⟩) hG ?_
    simp only [Act.put, List.setIfInBounds_toArray, List.set_cons_zero, List.set_cons_succ, List.getElem_toArray, List.getElem_cons_zero, List.getElem_cons_succ]
    refine any_take (i := 6) (v := (.slice a 0 c)) #[true, true, true, true, true, true, false, false, false, false, false, false, false, false, false, false, false, false, false] rfl (by kernel_rfl) (by kernel_rfl) (by kernel_rfl) (by kernel_rfl) (fun _ _ _ h => h) (.inl ⟨by kernel_rfl, fun x_ hu => exec_sks _ (.tmp 43) rfl (w.heap.size) 1 (by kernel_rfl) a 0 c (cell_of (hu.blk (unhide hvb5)) (i := 1) rfl)⟩) hG ?_
    simp only [Act.put, List.setIfInBounds_toArray, List.set_cons_zero, List.set_cons_succ, List.getElem_toArray, List.getElem_cons_zero, List.getElem_cons_succ]
    refine any_one (i := 7) (by kernel_rfl) rfl (fun K hK => ?_)
    refine step_callw (by kernel_rfl) 7 #[.slice (some ⟨po, qo, none⟩) 0 co, .slice a 0 c] (by kernel_rfl) ((jhops_nil (some ⟨po, qo, none⟩) a co c x1).mono ?_)
    rintro r z2 ⟨rfl, hg⟩
    refine ⟨_, rfl, ?_⟩
    replace hG := hG.trans hg
    clear hg
    refine hK.out _ _ hG (fun _ => ?_)
    clear hK K
    simp only [Act.put, List.setIfInBounds_toArray, List.set_cons_zero, List.set_cons_succ, List.getElem_toArray, List.getElem_cons_zero, List.getElem_cons_succ]
    refine any_take (i := 8) (v := (.bool false)) #[true, true, true, true, true, true, true, true, false, false, false, false, false, false, false, false, false, false, false] rfl (by kernel_rfl) (by kernel_rfl) (by kernel_rfl) (by kernel_rfl) (fun _ _ _ h => h) (.inl ⟨by kernel_rfl, fun x_ hu => by kernel_rfl⟩) hG ?_
    simp only [Act.put, List.setIfInBounds_toArray, List.set_cons_zero, List.set_cons_succ, List.getElem_toArray, List.getElem_cons_zero, List.getElem_cons_succ]
    refine any_take (i := 9) (v := (.bool false)) #[true, true, true, true, true, true, true, true, true, false, false, false, false, false, false, false, false, false, false] rfl (by kernel_rfl) (by kernel_rfl) (by kernel_rfl) (by kernel_rfl) (fun _ _ _ h => h) (.inl ⟨by kernel_rfl, fun x_ hu => by kernel_rfl⟩) hG ?_
    simp only [Act.put, List.setIfInBounds_toArray, List.set_cons_zero, List.set_cons_succ, List.getElem_toArray, List.getElem_cons_zero, List.getElem_cons_succ]
    refine any_take (i := 10) (v := (.slice (some ⟨po, qo, none⟩) (0 + 1) co)) #[true, true, true, true, true, true, true, true, true, true, false, false, false, false, false, false, false, false, false] rfl (by kernel_rfl) (by kernel_rfl) (by kernel_rfl) (by kernel_rfl) (fun _ _ _ h => h) (.inl ⟨by kernel_rfl, fun x_ hu => by kernel_rfl⟩) hG ?_
    simp only [Act.put, List.setIfInBounds_toArray, List.set_cons_zero, List.set_cons_succ, List.getElem_toArray, List.getElem_cons_zero, List.getElem_cons_succ]
    refine any_take (i := 11) (v := (.pointer (some ⟨w.heap.size, 1, none⟩))) #[true, true, true, true, true, true, true, true, true, true, true, false, false, false, false, false, false, false, false] rfl (by kernel_rfl) (by kernel_rfl) (by kernel_rfl) (by kernel_rfl) (fun _ _ _ h => h) (.inl ⟨by kernel_rfl, fun x_ hu => by kernel_rfl⟩) hG ?_
    simp only [Act.put, List.setIfInBounds_toArray, List.set_cons_zero, List.set_cons_succ, List.getElem_toArray, List.getElem_cons_zero, List.getElem_cons_succ]
    refine any_take (i := 12) (v := (.slice a 0 c)) #[true, true, true, true, true, true, true, true, true, true, true, true, false, false, false, false, false, false, false] rfl (by kernel_rfl) (by kernel_rfl) (by kernel_rfl) (by kernel_rfl) (fun _ _ _ h => h) (.inl ⟨by kernel_rfl, fun x_ hu => exec_sks _ (.tmp 49) rfl (w.heap.size) 1 (by kernel_rfl) a 0 c (cell_of (hu.blk (unhide hvb5)) (i := 1) rfl)⟩) hG ?_
    simp only [Act.put, List.setIfInBounds_toArray, List.set_cons_zero, List.set_cons_succ, List.getElem_toArray, List.getElem_cons_zero, List.getElem_cons_succ]
    refine any_take (i := 13) (v := (.int .i64 ((0 : Nat) : Int))) #[true, true, true, true, true, true, true, true, true, true, true, true, true, false, false, false, false, false, false] rfl (by kernel_rfl) (by kernel_rfl) (by kernel_rfl) (by kernel_rfl) (fun _ _ _ h => h) (.inl ⟨by kernel_rfl, fun x_ hu => by kernel_rfl⟩) hG ?_
    simp only [Act.put, List.setIfInBounds_toArray, List.set_cons_zero, List.set_cons_succ, List.getElem_toArray, List.getElem_cons_zero, List.getElem_cons_succ]
    refine any_take (i := 14) (v := (.pointer (some ⟨po, qo + 32 * 0, none⟩))) #[true, true, true, true, true, true, true, true, true, true, true, true, true, true, false, false, false, false, false] rfl (by kernel_rfl) (by kernel_rfl) (by kernel_rfl) (by kernel_rfl) (fun _ _ _ h => h) (.inl ⟨by kernel_rfl, fun x_ hu => exec_iks _ (.tmp 48) (.tmp 51) rfl po qo (0 + 1) co 0 (by kernel_rfl) (by kernel_rfl) (by omega)⟩) hG ?_
    simp only [Act.put, List.setIfInBounds_toArray, List.set_cons_zero, List.set_cons_succ, List.getElem_toArray, List.getElem_cons_zero, List.getElem_cons_succ]
    refine any_take (i := 15) (v := (.agg (kc K9))) #[true, true, true, true, true, true, true, true, true, true, true, true, true, true, true, false, false, false, false] rfl (by kernel_rfl) (by kernel_rfl) (by kernel_rfl) (by kernel_rfl) (fun _ _ _ h => h) (.inl ⟨by kernel_rfl, fun x_ hu => exec_row _ 30 (.tmp 52) rfl po (qo + 32 * 0) (by kernel_rfl) (bv K9) _ (range_gr (unhide hlast) hu) Try.underlying30 rfl (by rw [Try.infoKy]; rfl)⟩) hG ?_
    simp only [Act.put, List.setIfInBounds_toArray, List.set_cons_zero, List.set_cons_succ, List.getElem_toArray, List.getElem_cons_zero, List.getElem_cons_succ]
    refine any_take (i := 16) (v := (.agg (kc K9))) #[true, true, true, true, true, true, true, true, true, true, true, true, true, true, true, true, false, false, false] rfl (by kernel_rfl) (by kernel_rfl) (by kernel_rfl) (by kernel_rfl) (fun _ _ _ h => h) (.inl ⟨by kernel_rfl, fun x_ hu => by kernel_rfl⟩) hG ?_
    simp only [Act.put, List.setIfInBounds_toArray, List.set_cons_zero, List.set_cons_succ, List.getElem_toArray, List.getElem_cons_zero, List.getElem_cons_succ]
    refine any_take (i := 17) (v := (.bool false)) #[true, true, true, true, true, true, true, true, true, true, true, true, true, true, true, true, true, false, false] rfl (by kernel_rfl) (by kernel_rfl) (by kernel_rfl) (by kernel_rfl) (fun _ _ _ h => h) (.inl ⟨by kernel_rfl, fun x_ hu => exec_neq_k _ (.tmp 53) (.tmp 54) rfl (kc K9) (by kernel_rfl) (by kernel_rfl) (by kernel_rfl) (eq_kc rfl _)⟩) hG ?_
    simp only [Act.put, List.setIfInBounds_toArray, List.set_cons_zero, List.set_cons_succ, List.getElem_toArray, List.getElem_cons_zero, List.getElem_cons_succ]
    refine any_take (i := 18) (v := (.bool false)) #[true, true, true, true, true, true, true, true, true, true, true, true, true, true, true, true, true, true, false] rfl (by kernel_rfl) (by kernel_rfl) (by kernel_rfl) (by kernel_rfl) (fun _ _ _ h => h) (.inl ⟨by kernel_rfl, fun x_ hu => by kernel_rfl⟩) hG ?_
    simp only [Act.put, List.setIfInBounds_toArray, List.set_cons_zero, List.set_cons_succ, List.getElem_toArray, List.getElem_cons_zero, List.getElem_cons_succ]
    refine any_done (by kernel_rfl) ?_
    replace hvb5 := hide (hG.blk (unhide hvb5))
    replace hGB := hide ((unhide hGB).trans hG)
    clear hG
    go_upto_region 8 with fail
    refine wp_region_lit ?_
    refine list_val (.agg (#[.int .u64 r, .slice a 0 c] : Array Value)) (by kernel_rfl) (exec_arr _ 25 (.tmp 2) rfl (w.heap.size) (by kernel_rfl) (#[.int .u64 r, .slice a 0 c] : Array Value) 25 _ (unhide hvb5) Try.underlying25 rfl (by rw [Try.infoAnn]; rfl)) ?_
    simp only [Act.put, List.setIfInBounds_toArray, List.set_cons_zero, List.set_cons_succ, List.getElem_toArray, List.getElem_cons_zero, List.getElem_cons_succ]
    refine list_call 8 #[.agg (#[.int .u64 r, .slice a 0 c] : Array Value)] (by kernel_rfl) (by kernel_rfl) ((qran_ok r a 0 c z2).mono ?_)
    rintro r_ z3 ⟨rfl, hg⟩
    rw [hR]
    replace hvb5 := hide (hg.blk (unhide hvb5))
    replace hGB := hide ((unhide hGB).trans hg)
    clear hg
    refine ⟨_, rfl, ?_⟩
    simp only [Act.put, List.setIfInBounds_toArray, List.set_cons_zero, List.set_cons_succ, List.getElem_toArray, List.getElem_cons_zero, List.getElem_cons_succ]
    refine wpList_nil ?_
    go_upto_region 11 with fail
    refine wp_region_lit ?_
    refine list_val (.int .i64 241) (by kernel_rfl) (by kernel_rfl) ?_
    simp only [Act.put, List.setIfInBounds_toArray, List.set_cons_zero, List.set_cons_succ, List.getElem_toArray, List.getElem_cons_zero, List.getElem_cons_succ]
    refine list_val (.bool false) (by kernel_rfl) (by kernel_rfl) ?_
    simp only [Act.put, List.setIfInBounds_toArray, List.set_cons_zero, List.set_cons_succ, List.getElem_toArray, List.getElem_cons_zero, List.getElem_cons_succ]
    refine list_val (.bool false) (by kernel_rfl) (by kernel_rfl) ?_
    simp only [Act.put, List.setIfInBounds_toArray, List.set_cons_zero, List.set_cons_succ, List.getElem_toArray, List.getElem_cons_zero, List.getElem_cons_succ]
    refine list_val (.slice none 0 0) (by kernel_rfl) (by kernel_rfl) ?_
    simp only [Act.put, List.setIfInBounds_toArray, List.set_cons_zero, List.set_cons_succ, List.getElem_toArray, List.getElem_cons_zero, List.getElem_cons_succ]
    refine list_val (.int .i64 0) (by kernel_rfl) (by kernel_rfl) ?_
    simp only [Act.put, List.setIfInBounds_toArray, List.set_cons_zero, List.set_cons_succ, List.getElem_toArray, List.getElem_cons_zero, List.getElem_cons_succ]
    refine list_val (.bool false) (by kernel_rfl) (by kernel_rfl) ?_
    simp only [Act.put, List.setIfInBounds_toArray, List.set_cons_zero, List.set_cons_succ, List.getElem_toArray, List.getElem_cons_zero, List.getElem_cons_succ]
    refine list_val (.bool false) (by kernel_rfl) (by kernel_rfl) ?_
    simp only [Act.put, List.setIfInBounds_toArray, List.set_cons_zero, List.set_cons_succ, List.getElem_toArray, List.getElem_cons_zero, List.getElem_cons_succ]
    refine wpList_nil ?_
    rename_i K1_ hK1_ K0_ hK0_
    refine hK0_ _ _ ?_
    refine wp_cond_false rfl ?_
    refine wp_skip ?_
    show K1_ _ _
    refine hK1_ _ _ ?_
    refine wp_code_eq (c := getC) (by kernel_rfl) ?_
    exact ann_get w _ (fun t w' hg ht => bodyPost_ret (v := .bool true) (by rw [results_tmp Try.results3, ht]) rfl (by rw [unhide hT]; exact ⟨rfl, hg⟩)) L s1 m cap hm9 z3 (unhide hGB) ((unhide hl).gr (unhide hGB)) _ _ _ _ _ _ _ _ _ _ _ _ _ _ _ _ _ _ _ _ _ _ _ _ _ _ _ _ _ _ _ _ _ _ _ _ _ _ _ _ _ _ _ _ _ _ _ _ _ _ _ _ _ _ _ _ _ _ _ _ _ _ _ _ _ _ _ _ _ _ _ _ _ _ _ _ _ _ _ _ _ _ _ _ _ _ _ _ _ _ _ _ _ _ _ _ _ _ _ _ _ _ _ _ _ _ _ _ _ _ _ _ _ _ _ _ _ _ _ _ _ _ _ _ _ _ _ _ _ _ _ _
theorem announces_law (r : Int) (hr : 0 ≤ r ∧ r < 18446744073709551616) (a : Option Addr) (n c : Nat) (ks : List (List Int)) (hks : KsOk ks) (hkn : ks.length = n) (hnb : n ≤ 4398046511104) (w : World) (hsl : n = 0 ∨ ∃ p q, a = some ⟨p, q, none⟩ ∧ Ls 32 w (some ⟨p, q, none⟩) n c (ks.map bv)) (l : List Int) (t : Option Addr) (len cap : Nat) (lb : Lb w t len cap l) : Calls Try.prog 3 #[.agg (#[.int .u64 r, .slice a n c] : Array Value), .slice t len cap] w (Woke w) := by
  by_cases hn : n = 0
  · exact ann_nil r hr a n c ks hks hkn hnb w hsl l t len cap lb hn (by unfold anR; simp)
  · cases hR : anR r n with
    | true => exact ann_yes r hr a n c ks hks hkn hnb w hsl l t len cap lb (by omega) hR
    | false => exact ann_no r hr a n c ks hks hkn hnb w hsl l t len cap lb (by omega) hR
end Go.Proofs.Ytiejdpodffkdpaa
