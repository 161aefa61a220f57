/-
  The law's short: lists that are cut, with a row behind them.
-/
import Derived.Test.YtcefkkoombmndaaUM
namespace Go.Proofs.Ytcefkkoombmndaa
open Go.RowKit
set_option maxRecDepth 100000
set_option linter.unusedSimpArgs false
set_option linter.unusedVariables false
theorem exec_upO {a : Act} {o : Oper} (w : World) (x y : Operand) (ho : o.op = .slice 23 x none (some y) none) (s : Option Addr) (len cap n : Nat) (hx : a.eval x = .slice s len cap) (hy : a.eval y = .int .i64 n) (hn : n ≤ cap) :
    (execOp a.eval o).run Try.prog w = .ok (.value (.slice s n cap)) w := by
  have h1 : (0 : Int) ≤ n := by omega
  have h2 : (n : Int) ≤ cap := by omega
  have hu : Try.prog.underlying 23 = some (.slice (Try.prog.elem 23)) := by kernel_rfl
  have hz : (sizeOf (Try.prog.elem 23)).run Try.prog w = .ok 106 w := by kernel_rfl
  have e : (if cap = 0 then s else s.map (·.add 0)) = s := by cases s <;> simp [Addr.add]
  simp [execOp, ho, hx, hy, run_sliceAt_slice _ _ _ _ _ _ hu, run_slice_h _ _ _ _ _ hu _ _ h1 h2, hz, sliced, e]
theorem y_lO {a : Act} {o : Oper} (w : World) (x : Operand) (ho : o.op = .call { callee := .builtin .len, args := #[x], argTypes := #[23] }) (u : Option Addr) (m d : Nat) (hx : a.eval x = .slice u m d) : (execOp a.eval o).run Try.prog w = .ok (.value (.int .i64 (m : Int))) w := by
  simp only [execOp, ho, resolve, List.map_toArray, List.map_cons, List.map_nil, hx]
  kernel_rfl
theorem Try.infO3 : (Try.prog.info? 39).map (fun i => (i.zero, i.size, i.bytes)) = some (some (.agg (fl [[.int .u32 0], bw Z105])), 106, 112) := by kernel_rfl
theorem exec_mkO {a : Act} {o : Oper} (w : World) (ho : o.op = .makeSlice 23 (.const (.int .i64 0)) (.const (.int .i64 12))) :
    (execOp a.eval o).run Try.prog w = .ok (.value (.slice (some ⟨w.heap.size, 0, none⟩) 0 12)) (w.alloc (.cells (madeCells (Value.agg (fl [[.int .u32 0], bw Z105])).cells (12 * 106)) 39 (0, 0))) := by
  obtain ⟨i, h2, h3, h4, h5⟩ := info_parts Try.infO3
  have hrun := run_make (P := Try.prog) w 23 39 i (.agg (fl [[.int .u32 0], bw Z105])) Try.underlying23 h2 h3 .i64 .i64 (0 : Int) (12 : Int) (by omega) (by omega) (by rw [h5]; omega) (by omega)
  rw [h4] at hrun
  have hz : a.eval (.const (.int .i64 0)) = .int .i64 0 := rfl
  have hx : a.eval (.const (.int .i64 12)) = .int .i64 12 := rfl
  simp only [execOp, ho, hz, hx, Sem.run_bind, hrun, Result.andThen, Sem.run_pure]
  rfl
theorem exec_upI {a : Act} {o : Oper} (w : World) (x y : Operand) (ho : o.op = .slice 24 x none (some y) none) (s : Option Addr) (len cap n : Nat) (hx : a.eval x = .slice s len cap) (hy : a.eval y = .int .i64 n) (hn : n ≤ cap) :
    (execOp a.eval o).run Try.prog w = .ok (.value (.slice s n cap)) w := by
  have h1 : (0 : Int) ≤ n := by omega
  have h2 : (n : Int) ≤ cap := by omega
  have hu : Try.prog.underlying 24 = some (.slice (Try.prog.elem 24)) := by kernel_rfl
  have hz : (sizeOf (Try.prog.elem 24)).run Try.prog w = .ok 2 w := by kernel_rfl
  have e : (if cap = 0 then s else s.map (·.add 0)) = s := by cases s <;> simp [Addr.add]
  simp [execOp, ho, hx, hy, run_sliceAt_slice _ _ _ _ _ _ hu, run_slice_h _ _ _ _ _ hu _ _ h1 h2, hz, sliced, e]
theorem y_lI {a : Act} {o : Oper} (w : World) (x : Operand) (ho : o.op = .call { callee := .builtin .len, args := #[x], argTypes := #[24] }) (u : Option Addr) (m d : Nat) (hx : a.eval x = .slice u m d) : (execOp a.eval o).run Try.prog w = .ok (.value (.int .i64 (m : Int))) w := by
  simp only [execOp, ho, resolve, List.map_toArray, List.map_cons, List.map_nil, hx]
  kernel_rfl
theorem Try.infI3 : (Try.prog.info? 47).map (fun i => (i.zero, i.size, i.bytes)) = some (some (.agg (fl [[.int .u32 0], [.string ByteArray.empty]])), 2, 24) := by kernel_rfl
theorem exec_mkI {a : Act} {o : Oper} (w : World) (ho : o.op = .makeSlice 24 (.const (.int .i64 0)) (.const (.int .i64 12))) :
    (execOp a.eval o).run Try.prog w = .ok (.value (.slice (some ⟨w.heap.size, 0, none⟩) 0 12)) (w.alloc (.cells (madeCells (Value.agg (fl [[.int .u32 0], [.string ByteArray.empty]])).cells (12 * 2)) 47 (0, 0))) := by
  obtain ⟨i, h2, h3, h4, h5⟩ := info_parts Try.infI3
  have hrun := run_make (P := Try.prog) w 24 47 i (.agg (fl [[.int .u32 0], [.string ByteArray.empty]])) Try.underlying24 h2 h3 .i64 .i64 (0 : Int) (12 : Int) (by omega) (by omega) (by rw [h5]; omega) (by omega)
  rw [h4] at hrun
  have hz : a.eval (.const (.int .i64 0)) = .int .i64 0 := rfl
  have hx : a.eval (.const (.int .i64 12)) = .int .i64 12 := rfl
  simp only [execOp, ho, hz, hx, Sem.run_bind, hrun, Result.andThen, Sem.run_pure]
  rfl
theorem faC {a : Act} {o : Oper} (w : World) (g : Nat) (x : Operand) (k : Nat) (hk : k < 5) (ho : o.op = .fieldAddr 26 x k) (hx : a.eval x = .pointer (some ⟨g, 0, none⟩)) : (execOp a.eval o).run Try.prog w = .ok (.value (.pointer (some ⟨g, k, none⟩))) w := by
  unfold execOp
  simp only [ho, hx]
  rcases k with _ | _ | _ | _ | _ | k
  · kernel_rfl
  · kernel_rfl
  · kernel_rfl
  · kernel_rfl
  · kernel_rfl
  · omega
theorem Lz.take {k : Nat} {w : World} {a : Option Addr} {n c : Nat} {R : List (List Value)} (h : Lz k w a n c R) (m : Nat) (hm : m ≤ n) : Lz k w a m c (R.take m) := by
  refine ⟨by rw [List.length_take, h.len]; omega, fun r hr => h.row r (List.mem_of_mem_take hr), ?_, by have := h.cap; omega, h.max⟩
  rcases h.sl with h1 | ⟨p, o, h1, h2⟩
  · exact .inl (by rw [h1]; simp)
  · refine .inr ⟨p, o, h1, fun j x hj => h2 j x ?_⟩
    rw [← List.take_append_drop m R, List.flatten_append, List.getElem?_append_left (List.getElem?_eq_some_iff.1 hj).1]
    exact hj
theorem Lz.pre {k : Nat} {w : World} {a : Option Addr} {n m c : Nat} {R S : List (List Value)} (h : Lz k w a n c (R ++ S)) (hR : R.length = m) : Lz k w a m c R := by
  have h1 := h.len
  rw [List.length_append] at h1
  have h2 := h.take m (by omega)
  subst hR
  rwa [List.take_left] at h2
theorem of_if {c : Prop} [Decidable c] {A B : Prop} (hc : c) (h : if c then A else B) : A := by rwa [if_pos hc] at h
def s77 : Ot := ⟨77, Z105⟩
def i77 : It := ⟨77, ByteArray.empty⟩
theorem s77_ok : s77.Ok := ⟨by decide, rfl, by
  intro x hx
  have h : x ∈ Z105 := hx
  unfold Z105 at h
  rw [List.eq_of_mem_replicate h]
  decide⟩
theorem i77_ok : i77.Ok := ⟨by decide, by decide⟩
/-- a list with a row behind it -/
def Rm (k : Nat) (e : TypeId) (b : Nat) (w : World) (a : Option Addr) (n c : Nat) (R : List (List Value)) (r : List Value) : Prop := ∃ g, a = some ⟨g, 0, none⟩ ∧ Or_ k e b w (.slice (some ⟨g, 0, none⟩) (n + 1) c) (R ++ [r])
theorem Rm.gr {k : Nat} {e : TypeId} {b : Nat} {w v : World} {a : Option Addr} {n c : Nat} {R : List (List Value)} {r : List Value} (h : Rm k e b w a n c R r) (g : Gr w v) : Rm k e b v a n c R r := by
  obtain ⟨q, h1, h2⟩ := h
  exact ⟨q, h1, h2.gr g⟩
theorem Rm.bz {k : Nat} {e : TypeId} {b g : Nat} {w v : World} {a : Option Addr} {n c : Nat} {R : List (List Value)} {r : List Value} (h : Rm k e b w a n c R r) {C : Array Value} {t : TypeId} (hg : w.heap[g]? = Option.some (Obj.cells C t (0, 0))) (m : Bt g w v) (h1 : t ≠ e := by decide) : Rm k e b v a n c R r := by
  obtain ⟨q, h2, h3⟩ := h
  exact ⟨q, h2, or_bt h3 hg h1 m⟩
theorem Rm.lz {k : Nat} {e : TypeId} {b : Nat} {w : World} {a : Option Addr} {n c : Nat} {R : List (List Value)} {r : List Value} (h : Rm k e b w a n c R r) : Lz k w a n c R := by
  obtain ⟨q, rfl, h3⟩ := h
  obtain ⟨h4, h5⟩ := or_slice h3
  rw [List.length_append, List.length_singleton] at h4
  exact h5.pre (by omega)
theorem Rm.cell {k : Nat} {e : TypeId} {b : Nat} {w : World} {a : Option Addr} {n c : Nat} {R : List (List Value)} {r : List Value} (h : Rm k e b w a n c R r) : ∃ g, a = some ⟨g, 0, none⟩ ∧ n + 1 ≤ c ∧ w.rangeAt g (k * n) r := by
  obtain ⟨q, rfl, h3⟩ := h
  obtain ⟨h4, h5⟩ := or_slice h3
  rw [List.length_append, List.length_singleton] at h4
  obtain ⟨p, o, h6, h7⟩ := h5.at_ n (by omega)
  injection h6 with h6
  injection h6 with h6 h8
  subst h6 h8
  refine ⟨_, rfl, h5.cap, ?_⟩
  have e1 : (R ++ [r]).getD n [] = r := by
    have : n = R.length := by omega
    rw [this]; simp
  rwa [e1, Nat.zero_add] at h7
def ct (c : Cm) : Cm := { c with O := c.O.take 8, H := c.H.take 8 }
structure Sh (b : Nat) (w : World) (c : Cm) (x : Lc) : Prop where
  o : Rm 106 39 b w x.ao x.no x.co (c.O.map otr) (otr s77)
  h : Rm 2 47 b w x.ah x.nh x.ch (c.H.map itr) (itr i77)
theorem Sh.gr {b : Nat} {w v : World} {c : Cm} {x : Lc} (h : Sh b w c x) (g : Gr w v) : Sh b v c x := ⟨h.o.gr g, h.h.gr g⟩
theorem Sh.cin {b : Nat} {w : World} {c : Cm} {x : Lc} (h : Sh b w c x) (n : Nums c) : Cin w c x := ⟨⟨n.O, h.o.lz⟩, ⟨n.H, h.h.lz⟩, n.nx, n.tn, n.dl⟩
theorem Nums.ct {c : Cm} (h : Nums c) : Nums (ct c) := ⟨fun s hs => h.O s (List.mem_of_mem_take hs), fun s hs => h.H s (List.mem_of_mem_take hs), h.nx, h.tn, h.dl⟩
set_option maxHeartbeats 4000000 in
theorem short_ok (c : Cm) (x : Lc) (w : World) (hc : Cin w c x) : Calls Try.prog 10 #[.agg (fl [[.int .u32 c.nx], [.slice x.ao x.no x.co], [.int .i64 c.tn], [.int .u32 c.dl], [.slice x.ah x.nh x.ch]])] w (fun r w' => ∃ x', r = .returned (.agg (fl (cvs (ct c) x'))) ∧ Sh w.heap.size w' (ct c) x' ∧ Gr w w') := by
  obtain ⟨T, hT⟩ : ∃ T : Ending → World → Prop, T = (fun r w' => ∃ x', r = .returned (.agg (fl (cvs (ct c) x'))) ∧ Sh w.heap.size w' (ct c) x' ∧ Gr w w') := ⟨_, rfl⟩
  rw [← hT]
  replace hT := hide hT
  have hno := hc.o.len
  have hnh := hc.h.len
  have hOm := hc.o.2.max
  have hHm := hc.h.2.max
  have hOc := hc.o.2.cap
  have hHc := hc.h.2.cap
  replace hc := hide hc
  obtain ⟨A0_, hA0_⟩ : ∃ S_, S_ = fl [[.int .u32 c.nx], [.slice x.ao x.no x.co], [.int .i64 c.tn], [.int .u32 c.dl], [.slice x.ah x.nh x.ch]] := ⟨_, rfl⟩
  rw [← hA0_]
  replace hA0_ := hide hA0_
  go_enter Try.func10, Try.ntmps10
  go_upto_region 1 with fail
  have hB := (((Bl.nil w).new A0_ 26).new (fl [[.int .u32 0], [.slice none 0 0], [.int .i64 0], [.int .u32 0], [.slice none 0 0]]) 26)
  simp only [size_alloc, List.nil_append, List.cons_append] at hB
  rw [unhide hA0_] at hB
  generalize hu_ : World.alloc _ _ = u0
  replace hB : Bl w [⟨w.heap.size, fl [[.int .u32 c.nx], [.slice x.ao x.no x.co], [.int .i64 c.tn], [.int .u32 c.dl], [.slice x.ah x.nh x.ch]], 26⟩, ⟨w.heap.size + 1, fl [[.int .u32 0], [.slice none 0 0], [.int .i64 0], [.int .u32 0], [.slice none 0 0]], 26⟩] u0 := by
    rw [← hu_]
    rw [unhide hA0_]
    exact hB
  clear hu_ hA0_
  have hvb := hide (hB.get 0 (x := ⟨w.heap.size, fl [[.int .u32 c.nx], [.slice x.ao x.no x.co], [.int .i64 c.tn], [.int .u32 c.dl], [.slice x.ah x.nh x.ch]], 26⟩) rfl)
  dsimp only at hvb
  have hB0 := hide hB
  have hwS := hB.gr.size
  clear hB
  generalize hA0 : Act.mk _ _ = A0
  have ev1 : A0.eval (.tmp 1) = .pointer (some ⟨w.heap.size, 0, none⟩) := by rw [← hA0]; rfl
  have hs0 : A0.tmps.size = 40 := by rw [← hA0]; rfl
  obtain ⟨m, hm⟩ : ∃ m, m = min x.no 8 := ⟨_, rfl⟩
  have hm1 : m ≤ x.no := by omega
  have hm8 : m ≤ 8 := by omega
  have hmI : min (x.no : Int) 8 = (m : Int) := by omega
  obtain ⟨L9, hL9⟩ : ∃ L9, L9 = (c.O.map otr).take m := ⟨_, rfl⟩
  have hL9n : L9.length = m := by rw [hL9, List.length_take, List.length_map, hno]; omega
  have hL9r : ∀ r ∈ L9, r.length = 106 := by rw [hL9]; exact fun r hr => ((unhide hc).o.2).row r (List.mem_of_mem_take hr)
  have hL9o : ∀ r ∈ L9, ∀ u ∈ r, u.oneCell' = true := by
    rw [hL9]
    intro r hr u hu
    obtain ⟨s, _, rfl⟩ := List.mem_map.1 (List.mem_of_mem_take hr)
    exact otr_one s u hu
  have hL9z : Lz 106 u0 x.ao m x.co L9 := by rw [hL9]; exact (((unhide hc).o.2).gr (unhide hB0).gr).take m hm1
  replace hm := hide hm; replace hL9 := hide hL9; replace hL9n := hide hL9n; replace hL9r := hide hL9r; replace hL9o := hide hL9o; replace hL9z := hide hL9z
  refine flow (J := fun l f z_ => (l 18 = false → Gr u0 z_) ∧ (l 0 = true → l 8 = false → Or_ 106 39 u0.heap.size z_ (f 0) []) ∧ (l 1 = true → f 1 = .pointer (some ⟨w.heap.size, 1, none⟩)) ∧ (l 2 = true → f 2 = .slice x.ao x.no x.co) ∧ (l 3 = true → f 3 = .pointer (some ⟨w.heap.size, 1, none⟩)) ∧ (l 4 = true → f 4 = .slice x.ao x.no x.co) ∧ (l 5 = true → f 5 = .int .i64 (x.no : Int)) ∧ (l 6 = true → f 6 = .int .i64 (m : Int)) ∧ (l 7 = true → f 7 = .slice x.ao m x.co) ∧ (l 8 = true → l 11 = false → Or_ 106 39 u0.heap.size z_ (f 8) L9) ∧ (l 9 = true → f 9 = .agg (fl [[.int .u32 77], bw Z105])) ∧ (l 10 = true → l 11 = false → ∃ p, f 10 = .slice (some ⟨p, 0, none⟩) 1 1 ∧ z_.heap[p]? = some (.cells (fl [[.int .u32 77], bw Z105]) 39 (0, 0)) ∧ (l 0 = true → l 8 = false → (f 0).ownBlock ≠ some p)) ∧ (l 11 = true → l 18 = false → Or_ 106 39 u0.heap.size z_ (f 11) (L9 ++ [otr s77])) ∧ (l 12 = true → f 12 = .pointer (some ⟨w.heap.size, 1, none⟩)) ∧ (l 13 = true → f 13 = .slice x.ao x.no x.co) ∧ (l 14 = true → f 14 = .int .i64 (x.no : Int)) ∧ (l 15 = true → f 15 = .int .i64 (m : Int)) ∧ (l 16 = true → ∃ g c_, f 11 = .slice (some ⟨g, 0, none⟩) (m + 1) c_ ∧ f 16 = .slice (some ⟨g, 0, none⟩) m c_) ∧ (l 17 = true → f 17 = .pointer (some ⟨w.heap.size, 1, none⟩)) ∧ (l 18 = true → ∃ gg cc v_, Gr u0 v_ ∧ Bt (w.heap.size) v_ z_ ∧ Bl w [⟨w.heap.size, fl [[.int .u32 c.nx], [.slice (some ⟨gg, 0, none⟩) m cc], [.int .i64 c.tn], [.int .u32 c.dl], [.slice x.ah x.nh x.ch]], 26⟩, ⟨w.heap.size + 1, fl [[.int .u32 0], [.slice none 0 0], [.int .i64 0], [.int .u32 0], [.slice none 0 0]], 26⟩] z_ ∧ Or_ 106 39 u0.heap.size z_ (.slice (some ⟨gg, 0, none⟩) (m + 1) cc) (L9 ++ [otr s77]))) (by kernel_rfl) (by kernel_rfl) (by kernel_rfl) ?_ ?_ ?_
  · exact ⟨fun _ => (Gr.refl u0).drew, (fun e => by cases e), (fun e => by cases e), (fun e => by cases e), (fun e => by cases e), (fun e => by cases e), (fun e => by cases e), (fun e => by cases e), (fun e => by cases e), (fun e => by cases e), (fun e => by cases e), (fun e => by cases e), (fun e => by cases e), (fun e => by cases e), (fun e => by cases e), (fun e => by cases e), (fun e => by cases e), (fun e => by cases e), (fun e => by cases e), (fun e => by cases e)⟩
  · intro i o l f w_ ho hl_ hp hcl hJ K hK
    obtain ⟨hG0, t0, t1, t2, t3, t4, t5, t6, t7, t8, t9, t10, t11, t12, t13, t14, t15, t16, t17, t18⟩ := hJ
    match i, ho with
    | 0, ho =>
      obtain rfl := Option.some.inj ho
      have hG := hG0 (Bool.eq_false_iff.2 fun e => absurd (pre_at (hcl 18 _ rfl e) 0 (by kernel_rfl)) (by rw [hl_]; decide))
      have hC : (madeCells (Value.agg (fl [[.int .u32 0], bw Z105])).cells (12 * 106)).size = 12 * 106 := size_madeCells _ _
      have hg := (Gr.refl w_).alloc (.cells (madeCells (Value.agg (fl [[.int .u32 0], bw Z105])).cells (12 * 106)) 39 (0, 0))
      have hG2 := hG.trans hg
      have hor : Or_ 106 39 u0.heap.size (w_.alloc (.cells (madeCells (Value.agg (fl [[.int .u32 0], bw Z105])).cells (12 * 106)) 39 (0, 0))) (.slice (some ⟨w_.heap.size, 0, none⟩) 0 12) [] := ⟨(fun r hr => by cases hr), World.ownsRow_made w_ _ 12 hG.size (by unfold maxLen; omega) hC⟩
      exact op_val (.slice (some ⟨w_.heap.size, 0, none⟩) 0 12) rfl rfl (exec_mkO w_ rfl) (hK _ _ ⟨(fun _ => hG2), (fun _ _ => hor), t1, t2, t3, t4, t5, t6, t7, (fun e => absurd (pre_at (hcl 8 _ rfl e) 0 (by kernel_rfl)) (by rw [hl_]; decide)), t9, (fun e e2 => by obtain ⟨p9, h1, h2, h3⟩ := t10 e e2; exact ⟨p9, h1, hg.blk h2, fun _ _ h => by have h4 := lt_of_block h2; have h5 : w_.heap.size = p9 := Option.some.inj h; omega⟩), (fun e e2 => (t11 e e2).gr hg), t12, t13, t14, t15, t16, t17, (fun e => absurd (pre_at (hcl 18 _ rfl e) 0 (by kernel_rfl)) (by rw [hl_]; decide))⟩)
    | 1, ho =>
      obtain rfl := Option.some.inj ho
      have hG := hG0 (Bool.eq_false_iff.2 fun e => absurd (pre_at (hcl 18 _ rfl e) 1 (by kernel_rfl)) (by rw [hl_]; decide))
      exact op_val (.pointer (some ⟨w.heap.size, 1, none⟩)) rfl rfl (faC _ (w.heap.size) (.tmp 1) 1 (by decide) rfl ((ev_off 1 (by kernel_rfl)).trans ev1)) (hK _ _ ⟨(fun _ => hG), t0, (fun _ => rfl), t2, t3, t4, t5, t6, t7, t8, t9, t10, t11, t12, t13, t14, t15, t16, t17, (fun e => absurd (pre_at (hcl 18 _ rfl e) 1 (by kernel_rfl)) (by rw [hl_]; decide))⟩)
    | 2, ho =>
      obtain rfl := Option.some.inj ho
      have hG := hG0 (Bool.eq_false_iff.2 fun e => absurd (pre_at (hcl 18 _ rfl e) 2 (by kernel_rfl)) (by rw [hl_]; decide))
      have p1 := pre_at hp 1 (by kernel_rfl)
      exact op_val (.slice x.ao x.no x.co) rfl rfl (exec_csO _ (.tmp 4) rfl (w.heap.size) 1 ((ev_at 1 4 _ (by kernel_rfl) rfl rfl p1 (by rw [hs0]; decide)).trans (t1 p1)) x.ao x.no x.co (cell_of (hG.blk (unhide hvb)) (i := 1) rfl)) (hK _ _ ⟨(fun _ => hG), t0, t1, (fun _ => rfl), t3, t4, t5, t6, t7, t8, t9, t10, t11, t12, t13, t14, t15, t16, t17, (fun e => absurd (pre_at (hcl 18 _ rfl e) 2 (by kernel_rfl)) (by rw [hl_]; decide))⟩)
    | 3, ho =>
      obtain rfl := Option.some.inj ho
      have hG := hG0 (Bool.eq_false_iff.2 fun e => absurd (pre_at (hcl 18 _ rfl e) 3 (by kernel_rfl)) (by rw [hl_]; decide))
      exact op_val (.pointer (some ⟨w.heap.size, 1, none⟩)) rfl rfl (faC _ (w.heap.size) (.tmp 1) 1 (by decide) rfl ((ev_off 1 (by kernel_rfl)).trans ev1)) (hK _ _ ⟨(fun _ => hG), t0, t1, t2, (fun _ => rfl), t4, t5, t6, t7, t8, t9, t10, t11, t12, t13, t14, t15, t16, t17, (fun e => absurd (pre_at (hcl 18 _ rfl e) 3 (by kernel_rfl)) (by rw [hl_]; decide))⟩)
    | 4, ho =>
      obtain rfl := Option.some.inj ho
      have hG := hG0 (Bool.eq_false_iff.2 fun e => absurd (pre_at (hcl 18 _ rfl e) 4 (by kernel_rfl)) (by rw [hl_]; decide))
      have p3 := pre_at hp 3 (by kernel_rfl)
      exact op_val (.slice x.ao x.no x.co) rfl rfl (exec_csO _ (.tmp 6) rfl (w.heap.size) 1 ((ev_at 3 6 _ (by kernel_rfl) rfl rfl p3 (by rw [hs0]; decide)).trans (t3 p3)) x.ao x.no x.co (cell_of (hG.blk (unhide hvb)) (i := 1) rfl)) (hK _ _ ⟨(fun _ => hG), t0, t1, t2, t3, (fun _ => rfl), t5, t6, t7, t8, t9, t10, t11, t12, t13, t14, t15, t16, t17, (fun e => absurd (pre_at (hcl 18 _ rfl e) 4 (by kernel_rfl)) (by rw [hl_]; decide))⟩)
    | 5, ho =>
      obtain rfl := Option.some.inj ho
      have hG := hG0 (Bool.eq_false_iff.2 fun e => absurd (pre_at (hcl 18 _ rfl e) 5 (by kernel_rfl)) (by rw [hl_]; decide))
      have p4 := pre_at hp 4 (by kernel_rfl)
      exact op_val (.int .i64 (x.no : Int)) rfl rfl (y_lO _ (.tmp 7) rfl x.ao x.no x.co ((ev_at 4 7 _ (by kernel_rfl) rfl rfl p4 (by rw [hs0]; decide)).trans (t4 p4))) (hK _ _ ⟨(fun _ => hG), t0, t1, t2, t3, t4, (fun _ => rfl), t6, t7, t8, t9, t10, t11, t12, t13, t14, t15, t16, t17, (fun e => absurd (pre_at (hcl 18 _ rfl e) 5 (by kernel_rfl)) (by rw [hl_]; decide))⟩)
    | 6, ho =>
      obtain rfl := Option.some.inj ho
      have hG := hG0 (Bool.eq_false_iff.2 fun e => absurd (pre_at (hcl 18 _ rfl e) 6 (by kernel_rfl)) (by rw [hl_]; decide))
      have p5 := pre_at hp 5 (by kernel_rfl)
      exact op_val (.int .i64 (m : Int)) rfl rfl (min_i _ (.tmp 8) (.const (.int .i64 8)) (x.no : Int) 8 rfl ((ev_at 5 8 _ (by kernel_rfl) rfl rfl p5 (by rw [hs0]; decide)).trans (t5 p5)) rfl _ hmI) (hK _ _ ⟨(fun _ => hG), t0, t1, t2, t3, t4, t5, (fun _ => rfl), t7, t8, t9, t10, t11, t12, t13, t14, t15, t16, t17, (fun e => absurd (pre_at (hcl 18 _ rfl e) 6 (by kernel_rfl)) (by rw [hl_]; decide))⟩)
    | 7, ho =>
      obtain rfl := Option.some.inj ho
      have hG := hG0 (Bool.eq_false_iff.2 fun e => absurd (pre_at (hcl 18 _ rfl e) 7 (by kernel_rfl)) (by rw [hl_]; decide))
      have p2 := pre_at hp 2 (by kernel_rfl)
      have p6 := pre_at hp 6 (by kernel_rfl)
      exact op_val (.slice x.ao m x.co) rfl rfl (exec_upO _ (.tmp 5) (.tmp 9) rfl x.ao x.no x.co m ((ev_at 2 5 _ (by kernel_rfl) rfl rfl p2 (by rw [hs0]; decide)).trans (t2 p2)) ((ev_at 6 9 _ (by kernel_rfl) rfl rfl p6 (by rw [hs0]; decide)).trans (t6 p6)) (by omega)) (hK _ _ ⟨(fun _ => hG), t0, t1, t2, t3, t4, t5, t6, (fun _ => rfl), t8, t9, t10, t11, t12, t13, t14, t15, t16, t17, (fun e => absurd (pre_at (hcl 18 _ rfl e) 7 (by kernel_rfl)) (by rw [hl_]; decide))⟩)
    | 8, ho =>
      obtain rfl := Option.some.inj ho
      have hG := hG0 (Bool.eq_false_iff.2 fun e => absurd (pre_at (hcl 18 _ rfl e) 8 (by kernel_rfl)) (by rw [hl_]; decide))
      have p0 := pre_at hp 0 (by kernel_rfl)
      have p7 := pre_at hp 7 (by kernel_rfl)
      have hown := t0 p0 hl_
      refine op_wp rfl rfl (app_rowsW ltO (.tmp 3) (.tmp 10) rfl u0.heap.size (f 0) [] (ev_at 0 3 _ (by kernel_rfl) rfl rfl p0 (by rw [hs0]; decide)) hown x.ao m x.co L9 ((ev_at 7 10 _ (by kernel_rfl) rfl rfl p7 (by rw [hs0]; decide)).trans (t7 p7)) ((unhide hL9z).gr hG) (unhide hL9o) (by rw [List.length_nil]; omega) hG.size ?_)
      intro v9 w9 hor hgr
      rw [List.nil_append] at hor
      have hG2 := grown_owned hown.2 (Nat.le_refl _) hG hgr
      exact hK _ _ ⟨(fun _ => hG2), (fun _ h => by cases h), t1, t2, t3, t4, t5, t6, t7, (fun _ _ => hor), t9, (fun e e2 => by obtain ⟨p9, h1, h2, h3⟩ := t10 e e2; exact ⟨p9, h1, (hgr.block p9 (lt_of_block h2) (fun h => h3 p0 hl_ h.symm)).trans h2, fun _ h => by cases h⟩), (fun e => absurd (pre_at (hcl 11 _ rfl e) 8 (by kernel_rfl)) (by rw [hl_]; decide)), t12, t13, t14, t15, t16, t17, (fun e => absurd (pre_at (hcl 18 _ rfl e) 8 (by kernel_rfl)) (by rw [hl_]; decide))⟩
    | 9, ho =>
      obtain rfl := Option.some.inj ho
      have hG := hG0 (Bool.eq_false_iff.2 fun e => absurd (pre_at (hcl 18 _ rfl e) 9 (by kernel_rfl)) (by rw [hl_]; decide))
      exact op_val (.agg (fl [[.int .u32 77], bw Z105])) rfl rfl (bO0 _ (.const (.int .u32 77)) rfl rfl) (hK _ _ ⟨(fun _ => hG), t0, t1, t2, t3, t4, t5, t6, t7, t8, (fun _ => rfl), t10, t11, t12, t13, t14, t15, t16, t17, (fun e => absurd (pre_at (hcl 18 _ rfl e) 9 (by kernel_rfl)) (by rw [hl_]; decide))⟩)
    | 10, ho =>
      obtain rfl := Option.some.inj ho
      have hG := hG0 (Bool.eq_false_iff.2 fun e => absurd (pre_at (hcl 18 _ rfl e) 10 (by kernel_rfl)) (by rw [hl_]; decide))
      have p9 := pre_at hp 9 (by kernel_rfl)
      have hg := (Gr.refl w_).alloc (.cells (fl [[.int .u32 77], bw Z105]) 39 (0, 0))
      have hG2 := hG.trans hg
      have hb9 : (w_.alloc (.cells (fl [[.int .u32 77], bw Z105]) 39 (0, 0))).heap[w_.heap.size]? = some (.cells (fl [[.int .u32 77], bw Z105]) 39 (0, 0)) := blk_new _ _
      exact op_val (.slice (some ⟨w_.heap.size, 0, none⟩) 1 1) rfl rfl (exec_bso _ (.tmp 12) rfl s77 rfl ((ev_at 9 12 _ (by kernel_rfl) rfl rfl p9 (by rw [hs0]; decide)).trans (t9 p9))) (hK _ _ ⟨(fun _ => hG2), (fun e e2 => (t0 e e2).gr hg), t1, t2, t3, t4, t5, t6, t7, (fun e e2 => (t8 e e2).gr hg), t9, (fun _ _ => ⟨_, rfl, hb9, fun e e2 h => by have h4 := (World.ownsRow.lt (t0 e e2).2 _ h).2; omega⟩), (fun e => absurd (pre_at (hcl 11 _ rfl e) 10 (by kernel_rfl)) (by rw [hl_]; decide)), t12, t13, t14, t15, t16, t17, (fun e => absurd (pre_at (hcl 18 _ rfl e) 10 (by kernel_rfl)) (by rw [hl_]; decide))⟩)
    | 11, ho =>
      obtain rfl := Option.some.inj ho
      have hG := hG0 (Bool.eq_false_iff.2 fun e => absurd (pre_at (hcl 18 _ rfl e) 11 (by kernel_rfl)) (by rw [hl_]; decide))
      have p8 := pre_at hp 8 (by kernel_rfl)
      have p10 := pre_at hp 10 (by kernel_rfl)
      have hown := t8 p8 hl_
      have q10 := p10
      obtain ⟨p9, h1, h2, h3⟩ := t10 p10 hl_
      have hz9 : Lz 106 w_ (some ⟨p9, 0, none⟩) 1 1 [otr s77] := ⟨rfl, by intro r_ hr_; obtain rfl := List.mem_singleton.1 hr_; exact otr_len s77_ok, .inr ⟨p9, 0, rfl, by rw [List.flatten_cons, List.flatten_nil, List.append_nil]; exact range_row h2⟩, by omega, by omega⟩
      refine op_wp rfl rfl (app_rowsW ltO (.tmp 11) (.tmp 13) rfl u0.heap.size (f 8) L9 (ev_at 8 11 _ (by kernel_rfl) rfl rfl p8 (by rw [hs0]; decide)) hown (some ⟨p9, 0, none⟩) 1 1 [otr s77] ((ev_at 10 13 _ (by kernel_rfl) rfl rfl q10 (by rw [hs0]; decide)).trans h1) hz9 (by intro x hx u hu; obtain rfl := List.mem_singleton.1 hx; exact otr_one _ u hu) (by have := unhide hL9n; omega) hG.size ?_)
      intro v9 w9 hor hgr
      have hG2 := grown_owned hown.2 (Nat.le_refl _) hG hgr
      exact hK _ _ ⟨(fun _ => hG2), (fun _ h => absurd (h.symm.trans p8) (by decide)), t1, t2, t3, t4, t5, t6, t7, (fun _ h => by cases h), t9, (fun _ h => by cases h), (fun _ _ => hor), t12, t13, t14, t15, (fun e => absurd (pre_at (hcl 16 _ rfl e) 11 (by kernel_rfl)) (by rw [hl_]; decide)), t17, (fun e => absurd (pre_at (hcl 18 _ rfl e) 11 (by kernel_rfl)) (by rw [hl_]; decide))⟩
    | 12, ho =>
      obtain rfl := Option.some.inj ho
      have hG := hG0 (Bool.eq_false_iff.2 fun e => absurd (pre_at (hcl 18 _ rfl e) 12 (by kernel_rfl)) (by rw [hl_]; decide))
      exact op_val (.pointer (some ⟨w.heap.size, 1, none⟩)) rfl rfl (faC _ (w.heap.size) (.tmp 1) 1 (by decide) rfl ((ev_off 1 (by kernel_rfl)).trans ev1)) (hK _ _ ⟨(fun _ => hG), t0, t1, t2, t3, t4, t5, t6, t7, t8, t9, t10, t11, (fun _ => rfl), t13, t14, t15, t16, t17, (fun e => absurd (pre_at (hcl 18 _ rfl e) 12 (by kernel_rfl)) (by rw [hl_]; decide))⟩)
    | 13, ho =>
      obtain rfl := Option.some.inj ho
      have hG := hG0 (Bool.eq_false_iff.2 fun e => absurd (pre_at (hcl 18 _ rfl e) 13 (by kernel_rfl)) (by rw [hl_]; decide))
      have p12 := pre_at hp 12 (by kernel_rfl)
      exact op_val (.slice x.ao x.no x.co) rfl rfl (exec_csO _ (.tmp 15) rfl (w.heap.size) 1 ((ev_at 12 15 _ (by kernel_rfl) rfl rfl p12 (by rw [hs0]; decide)).trans (t12 p12)) x.ao x.no x.co (cell_of (hG.blk (unhide hvb)) (i := 1) rfl)) (hK _ _ ⟨(fun _ => hG), t0, t1, t2, t3, t4, t5, t6, t7, t8, t9, t10, t11, t12, (fun _ => rfl), t14, t15, t16, t17, (fun e => absurd (pre_at (hcl 18 _ rfl e) 13 (by kernel_rfl)) (by rw [hl_]; decide))⟩)
    | 14, ho =>
      obtain rfl := Option.some.inj ho
      have hG := hG0 (Bool.eq_false_iff.2 fun e => absurd (pre_at (hcl 18 _ rfl e) 14 (by kernel_rfl)) (by rw [hl_]; decide))
      have p13 := pre_at hp 13 (by kernel_rfl)
      exact op_val (.int .i64 (x.no : Int)) rfl rfl (y_lO _ (.tmp 16) rfl x.ao x.no x.co ((ev_at 13 16 _ (by kernel_rfl) rfl rfl p13 (by rw [hs0]; decide)).trans (t13 p13))) (hK _ _ ⟨(fun _ => hG), t0, t1, t2, t3, t4, t5, t6, t7, t8, t9, t10, t11, t12, t13, (fun _ => rfl), t15, t16, t17, (fun e => absurd (pre_at (hcl 18 _ rfl e) 14 (by kernel_rfl)) (by rw [hl_]; decide))⟩)
    | 15, ho =>
      obtain rfl := Option.some.inj ho
      have hG := hG0 (Bool.eq_false_iff.2 fun e => absurd (pre_at (hcl 18 _ rfl e) 15 (by kernel_rfl)) (by rw [hl_]; decide))
      have p14 := pre_at hp 14 (by kernel_rfl)
      exact op_val (.int .i64 (m : Int)) rfl rfl (min_i _ (.tmp 17) (.const (.int .i64 8)) (x.no : Int) 8 rfl ((ev_at 14 17 _ (by kernel_rfl) rfl rfl p14 (by rw [hs0]; decide)).trans (t14 p14)) rfl _ hmI) (hK _ _ ⟨(fun _ => hG), t0, t1, t2, t3, t4, t5, t6, t7, t8, t9, t10, t11, t12, t13, t14, (fun _ => rfl), t16, t17, (fun e => absurd (pre_at (hcl 18 _ rfl e) 15 (by kernel_rfl)) (by rw [hl_]; decide))⟩)
    | 16, ho =>
      obtain rfl := Option.some.inj ho
      have hG := hG0 (Bool.eq_false_iff.2 fun e => absurd (pre_at (hcl 18 _ rfl e) 16 (by kernel_rfl)) (by rw [hl_]; decide))
      have p11 := pre_at hp 11 (by kernel_rfl)
      have p15 := pre_at hp 15 (by kernel_rfl)
      have hor := t11 p11 (Bool.eq_false_iff.2 fun e => absurd (pre_at (hcl 18 _ rfl e) 16 (by kernel_rfl)) (by rw [hl_]; decide))
      obtain ⟨g, c_, C_, e1, h1, h2, h3, h4, h5, h6⟩ := Or_.some hor (by simp)
      rw [List.length_append, List.length_singleton, unhide hL9n] at e1
      exact op_val (.slice (some ⟨g, 0, none⟩) m c_) rfl rfl (exec_upO _ (.tmp 14) (.tmp 18) rfl (some ⟨g, 0, none⟩) (m + 1) c_ m ((ev_at 11 14 _ (by kernel_rfl) rfl rfl p11 (by rw [hs0]; decide)).trans e1) ((ev_at 15 18 _ (by kernel_rfl) rfl rfl p15 (by rw [hs0]; decide)).trans (t15 p15)) (by rw [List.length_append, List.length_singleton, unhide hL9n] at h3; omega)) (hK _ _ ⟨(fun _ => hG), t0, t1, t2, t3, t4, t5, t6, t7, t8, t9, t10, t11, t12, t13, t14, t15, (fun _ => ⟨g, c_, e1, rfl⟩), t17, (fun e => absurd (pre_at (hcl 18 _ rfl e) 16 (by kernel_rfl)) (by rw [hl_]; decide))⟩)
    | 17, ho =>
      obtain rfl := Option.some.inj ho
      have hG := hG0 (Bool.eq_false_iff.2 fun e => absurd (pre_at (hcl 18 _ rfl e) 17 (by kernel_rfl)) (by rw [hl_]; decide))
      have p0 := pre_at hp 0 (by kernel_rfl)
      have p1 := pre_at hp 1 (by kernel_rfl)
      have p2 := pre_at hp 2 (by kernel_rfl)
      have p3 := pre_at hp 3 (by kernel_rfl)
      have p4 := pre_at hp 4 (by kernel_rfl)
      have p5 := pre_at hp 5 (by kernel_rfl)
      have p6 := pre_at hp 6 (by kernel_rfl)
      have p7 := pre_at hp 7 (by kernel_rfl)
      have p8 := pre_at hp 8 (by kernel_rfl)
      have p9 := pre_at hp 9 (by kernel_rfl)
      have p10 := pre_at hp 10 (by kernel_rfl)
      have p11 := pre_at hp 11 (by kernel_rfl)
      have p12 := pre_at hp 12 (by kernel_rfl)
      have p13 := pre_at hp 13 (by kernel_rfl)
      have p14 := pre_at hp 14 (by kernel_rfl)
      have p15 := pre_at hp 15 (by kernel_rfl)
      have p16 := pre_at hp 16 (by kernel_rfl)
      exact op_val (.pointer (some ⟨w.heap.size, 1, none⟩)) rfl rfl (faC _ (w.heap.size) (.tmp 1) 1 (by decide) rfl ((ev_off 1 (by kernel_rfl)).trans ev1)) (hK _ _ ⟨(fun _ => hG), t0, t1, t2, t3, t4, t5, t6, t7, t8, t9, t10, t11, t12, t13, t14, t15, t16, (fun _ => rfl), (fun e => absurd (pre_at (hcl 18 _ rfl e) 17 (by kernel_rfl)) (by rw [hl_]; decide))⟩)
    | 18, ho =>
      obtain rfl := Option.some.inj ho
      have p0 := pre_at hp 0 (by kernel_rfl)
      have p1 := pre_at hp 1 (by kernel_rfl)
      have p2 := pre_at hp 2 (by kernel_rfl)
      have p3 := pre_at hp 3 (by kernel_rfl)
      have p4 := pre_at hp 4 (by kernel_rfl)
      have p5 := pre_at hp 5 (by kernel_rfl)
      have p6 := pre_at hp 6 (by kernel_rfl)
      have p7 := pre_at hp 7 (by kernel_rfl)
      have p8 := pre_at hp 8 (by kernel_rfl)
      have p9 := pre_at hp 9 (by kernel_rfl)
      have p10 := pre_at hp 10 (by kernel_rfl)
      have p11 := pre_at hp 11 (by kernel_rfl)
      have p12 := pre_at hp 12 (by kernel_rfl)
      have p13 := pre_at hp 13 (by kernel_rfl)
      have p14 := pre_at hp 14 (by kernel_rfl)
      have p15 := pre_at hp 15 (by kernel_rfl)
      have p16 := pre_at hp 16 (by kernel_rfl)
      have p17 := pre_at hp 17 (by kernel_rfl)
      have hG := hG0 hl_
      have hor := t11 p11 hl_
      obtain ⟨g, c_, e1, e2⟩ := t16 p16
      rw [e1] at hor
      have hB1 := (unhide hB0).more hG
      refine op_wp rfl rfl (of_if (c := Region.wanted _ (yielded #[] (Act.tmps _)) = true) (by kernel_rfl) (step_csO (ops := #[]) (.tmp 20) (.tmp 19) (w.heap.size) 1 (some ⟨g, 0, none⟩) m c_ (by kernel_rfl) rfl ((ev_at 17 20 _ (by kernel_rfl) rfl rfl p17 (by rw [hs0]; decide)).trans (t17 p17)) ((ev_at 16 19 _ (by kernel_rfl) rfl rfl p16 (by rw [hs0]; decide)).trans e2) hB1 0 rfl NC (nC _ _ _ _ _) 1 _ rfl rfl fun v_ hb_ ht_ => hK _ _ ⟨fun e => (by cases e), (fun e h => (t0 e h).bz (t := 26) (hB1.get 0 (x := ⟨w.heap.size, fl [[.int .u32 c.nx], [.slice x.ao x.no x.co], [.int .i64 c.tn], [.int .u32 c.dl], [.slice x.ah x.nh x.ch]], 26⟩) rfl) ht_), t1, t2, t3, t4, t5, t6, t7, (fun e h => absurd (h.symm.trans p11) (by decide)), t9, (fun e h => absurd (h.symm.trans p11) (by decide)), (fun _ h => by cases h), t12, t13, t14, t15, t16, t17, (fun _ => ⟨g, c_, w_, hG, ht_, hb_, hor.bz (t := 26) (hB1.get 0 (x := ⟨w.heap.size, fl [[.int .u32 c.nx], [.slice x.ao x.no x.co], [.int .i64 c.tn], [.int .u32 c.dl], [.slice x.ah x.nh x.ch]], 26⟩) rfl) ht_⟩)⟩))
    | n + 19, ho => cases ho
  · intro l_ f_ u1 hall hJ
    obtain ⟨hG0, t0, t1, t2, t3, t4, t5, t6, t7, t8, t9, t10, t11, t12, t13, t14, t15, t16, t17, t18⟩ := hJ
    obtain ⟨gg, cc, v_, hg1, ht1, hb1, ho1⟩ := t18 (hall 18 (by decide))
    subst hA0
    simp only [putF, if_true]
    simp only [nrm]
    have hbk_ := hg1.blk (unhide hvb)
    clear t0 t1 t2 t3 t4 t5 t6 t7 t8 t9 t10 t11 t12 t13 t14 t15 t16 t17 t18 hG0 hall ev1 hs0 hvb hB0
    have hB := hb1
    have e9 : L9 = ((ct c).O.map otr) := by
      rw [unhide hL9]
      unfold ct
      dsimp only
      rw [List.map_take, unhide hm]
      have hl9 : (c.O.map otr).length = x.no := by rw [List.length_map, hno]
      by_cases h9 : x.no ≤ 8
      · rw [Nat.min_eq_left h9, List.take_of_length_le (by omega), List.take_of_length_le (by omega)]
      · rw [Nat.min_eq_right (by omega)]
    rw [e9] at ho1
    have hO := hide (show Rm 106 39 w.heap.size u1 (some ⟨gg, 0, none⟩) m cc ((ct c).O.map otr) (otr s77) from ⟨gg, rfl, or_base ho1 hwS⟩)
    clear hb1 e9 ho1 hg1 ht1 hbk_ hL9 hL9n hL9r hL9o hL9z hm hm1 hm8 hmI hwS
    obtain ⟨aO, haO⟩ : ∃ a_, a_ = (some (⟨gg, 0, none⟩ : Addr)) := ⟨_, rfl⟩
    rw [← haO] at hB hO
    clear haO
    obtain ⟨nO, hnO⟩ : ∃ a_, a_ = m := ⟨_, rfl⟩
    rw [← hnO] at hB hO
    clear hnO
    obtain ⟨ccO, hcc⟩ : ∃ a_, a_ = cc := ⟨_, rfl⟩
    rw [← hcc] at hB hO
    clear hcc
    have hB2 : Bl w [⟨w.heap.size, fl [[.int .u32 c.nx], [.slice aO nO ccO], [.int .i64 c.tn], [.int .u32 c.dl], [.slice x.ah x.nh x.ch]], 26⟩, ⟨w.heap.size + 1, fl [[.int .u32 0], [.slice none 0 0], [.int .i64 0], [.int .u32 0], [.slice none 0 0]], 26⟩] u1 := hB
    clear hB
    have hB := hB2
    clear hB2
    replace hB := hide hB
    go_upto_region 2 with fail
    replace hB := unhide hB
    have hvb := hide (hB.get 0 (x := ⟨w.heap.size, fl [[.int .u32 c.nx], [.slice aO nO ccO], [.int .i64 c.tn], [.int .u32 c.dl], [.slice x.ah x.nh x.ch]], 26⟩) rfl)
    dsimp only at hvb
    have hB0 := hide hB
    have hwS := hB.gr.size
    clear hB
    generalize hA0 : Act.mk _ _ = A0
    have ev1 : A0.eval (.tmp 1) = .pointer (some ⟨w.heap.size, 0, none⟩) := by rw [← hA0]; rfl
    have hs0 : A0.tmps.size = 40 := by rw [← hA0]; rfl
    obtain ⟨m, hm⟩ : ∃ m, m = min x.nh 8 := ⟨_, rfl⟩
    have hm1 : m ≤ x.nh := by omega
    have hm8 : m ≤ 8 := by omega
    have hmI : min (x.nh : Int) 8 = (m : Int) := by omega
    obtain ⟨L9, hL9⟩ : ∃ L9, L9 = (c.H.map itr).take m := ⟨_, rfl⟩
    have hL9n : L9.length = m := by rw [hL9, List.length_take, List.length_map, hnh]; omega
    have hL9r : ∀ r ∈ L9, r.length = 2 := by rw [hL9]; exact fun r hr => ((unhide hc).h.2).row r (List.mem_of_mem_take hr)
    have hL9o : ∀ r ∈ L9, ∀ u ∈ r, u.oneCell' = true := by
      rw [hL9]
      intro r hr u hu
      obtain ⟨s, _, rfl⟩ := List.mem_map.1 (List.mem_of_mem_take hr)
      exact itr_one s u hu
    have hL9z : Lz 2 u1 x.ah m x.ch L9 := by rw [hL9]; exact (((unhide hc).h.2).gr (unhide hB0).gr).take m hm1
    replace hm := hide hm; replace hL9 := hide hL9; replace hL9n := hide hL9n; replace hL9r := hide hL9r; replace hL9o := hide hL9o; replace hL9z := hide hL9z
    refine flow (J := fun l f z_ => (l 18 = false → Gr u1 z_) ∧ (l 0 = true → l 8 = false → Or_ 2 47 u1.heap.size z_ (f 0) []) ∧ (l 1 = true → f 1 = .pointer (some ⟨w.heap.size, 4, none⟩)) ∧ (l 2 = true → f 2 = .slice x.ah x.nh x.ch) ∧ (l 3 = true → f 3 = .pointer (some ⟨w.heap.size, 4, none⟩)) ∧ (l 4 = true → f 4 = .slice x.ah x.nh x.ch) ∧ (l 5 = true → f 5 = .int .i64 (x.nh : Int)) ∧ (l 6 = true → f 6 = .int .i64 (m : Int)) ∧ (l 7 = true → f 7 = .slice x.ah m x.ch) ∧ (l 8 = true → l 11 = false → Or_ 2 47 u1.heap.size z_ (f 8) L9) ∧ (l 9 = true → f 9 = .agg (fl [[.int .u32 77], [.string ByteArray.empty]])) ∧ (l 10 = true → l 11 = false → ∃ p, f 10 = .slice (some ⟨p, 0, none⟩) 1 1 ∧ z_.heap[p]? = some (.cells (fl [[.int .u32 77], [.string ByteArray.empty]]) 47 (0, 0)) ∧ (l 0 = true → l 8 = false → (f 0).ownBlock ≠ some p)) ∧ (l 11 = true → l 18 = false → Or_ 2 47 u1.heap.size z_ (f 11) (L9 ++ [itr i77])) ∧ (l 12 = true → f 12 = .pointer (some ⟨w.heap.size, 4, none⟩)) ∧ (l 13 = true → f 13 = .slice x.ah x.nh x.ch) ∧ (l 14 = true → f 14 = .int .i64 (x.nh : Int)) ∧ (l 15 = true → f 15 = .int .i64 (m : Int)) ∧ (l 16 = true → ∃ g c_, f 11 = .slice (some ⟨g, 0, none⟩) (m + 1) c_ ∧ f 16 = .slice (some ⟨g, 0, none⟩) m c_) ∧ (l 17 = true → f 17 = .pointer (some ⟨w.heap.size, 4, none⟩)) ∧ (l 18 = true → ∃ gg cc v_, Gr u1 v_ ∧ Bt (w.heap.size) v_ z_ ∧ Bl w [⟨w.heap.size, fl [[.int .u32 c.nx], [.slice aO nO ccO], [.int .i64 c.tn], [.int .u32 c.dl], [.slice (some ⟨gg, 0, none⟩) m cc]], 26⟩, ⟨w.heap.size + 1, fl [[.int .u32 0], [.slice none 0 0], [.int .i64 0], [.int .u32 0], [.slice none 0 0]], 26⟩] z_ ∧ Or_ 2 47 u1.heap.size z_ (.slice (some ⟨gg, 0, none⟩) (m + 1) cc) (L9 ++ [itr i77]))) (by kernel_rfl) (by kernel_rfl) (by kernel_rfl) ?_ ?_ ?_
    · exact ⟨fun _ => (Gr.refl u1).drew, (fun e => by cases e), (fun e => by cases e), (fun e => by cases e), (fun e => by cases e), (fun e => by cases e), (fun e => by cases e), (fun e => by cases e), (fun e => by cases e), (fun e => by cases e), (fun e => by cases e), (fun e => by cases e), (fun e => by cases e), (fun e => by cases e), (fun e => by cases e), (fun e => by cases e), (fun e => by cases e), (fun e => by cases e), (fun e => by cases e), (fun e => by cases e)⟩
    · intro i o l f w_ ho hl_ hp hcl hJ K hK
      obtain ⟨hG0, t0, t1, t2, t3, t4, t5, t6, t7, t8, t9, t10, t11, t12, t13, t14, t15, t16, t17, t18⟩ := hJ
      match i, ho with
      | 0, ho =>
        obtain rfl := Option.some.inj ho
        have hG := hG0 (Bool.eq_false_iff.2 fun e => absurd (pre_at (hcl 18 _ rfl e) 0 (by kernel_rfl)) (by rw [hl_]; decide))
        have hC : (madeCells (Value.agg (fl [[.int .u32 0], [.string ByteArray.empty]])).cells (12 * 2)).size = 12 * 2 := size_madeCells _ _
        have hg := (Gr.refl w_).alloc (.cells (madeCells (Value.agg (fl [[.int .u32 0], [.string ByteArray.empty]])).cells (12 * 2)) 47 (0, 0))
        have hG2 := hG.trans hg
        have hor : Or_ 2 47 u1.heap.size (w_.alloc (.cells (madeCells (Value.agg (fl [[.int .u32 0], [.string ByteArray.empty]])).cells (12 * 2)) 47 (0, 0))) (.slice (some ⟨w_.heap.size, 0, none⟩) 0 12) [] := ⟨(fun r hr => by cases hr), World.ownsRow_made w_ _ 12 hG.size (by unfold maxLen; omega) hC⟩
        exact op_val (.slice (some ⟨w_.heap.size, 0, none⟩) 0 12) rfl rfl (exec_mkI w_ rfl) (hK _ _ ⟨(fun _ => hG2), (fun _ _ => hor), t1, t2, t3, t4, t5, t6, t7, (fun e => absurd (pre_at (hcl 8 _ rfl e) 0 (by kernel_rfl)) (by rw [hl_]; decide)), t9, (fun e e2 => by obtain ⟨p9, h1, h2, h3⟩ := t10 e e2; exact ⟨p9, h1, hg.blk h2, fun _ _ h => by have h4 := lt_of_block h2; have h5 : w_.heap.size = p9 := Option.some.inj h; omega⟩), (fun e e2 => (t11 e e2).gr hg), t12, t13, t14, t15, t16, t17, (fun e => absurd (pre_at (hcl 18 _ rfl e) 0 (by kernel_rfl)) (by rw [hl_]; decide))⟩)
      | 1, ho =>
        obtain rfl := Option.some.inj ho
        have hG := hG0 (Bool.eq_false_iff.2 fun e => absurd (pre_at (hcl 18 _ rfl e) 1 (by kernel_rfl)) (by rw [hl_]; decide))
        exact op_val (.pointer (some ⟨w.heap.size, 4, none⟩)) rfl rfl (faC _ (w.heap.size) (.tmp 1) 4 (by decide) rfl ((ev_off 1 (by kernel_rfl)).trans ev1)) (hK _ _ ⟨(fun _ => hG), t0, (fun _ => rfl), t2, t3, t4, t5, t6, t7, t8, t9, t10, t11, t12, t13, t14, t15, t16, t17, (fun e => absurd (pre_at (hcl 18 _ rfl e) 1 (by kernel_rfl)) (by rw [hl_]; decide))⟩)
      | 2, ho =>
        obtain rfl := Option.some.inj ho
        have hG := hG0 (Bool.eq_false_iff.2 fun e => absurd (pre_at (hcl 18 _ rfl e) 2 (by kernel_rfl)) (by rw [hl_]; decide))
        have p1 := pre_at hp 1 (by kernel_rfl)
        exact op_val (.slice x.ah x.nh x.ch) rfl rfl (exec_csI _ (.tmp 22) rfl (w.heap.size) 4 ((ev_at 1 22 _ (by kernel_rfl) rfl rfl p1 (by rw [hs0]; decide)).trans (t1 p1)) x.ah x.nh x.ch (cell_of (hG.blk (unhide hvb)) (i := 4) rfl)) (hK _ _ ⟨(fun _ => hG), t0, t1, (fun _ => rfl), t3, t4, t5, t6, t7, t8, t9, t10, t11, t12, t13, t14, t15, t16, t17, (fun e => absurd (pre_at (hcl 18 _ rfl e) 2 (by kernel_rfl)) (by rw [hl_]; decide))⟩)
      | 3, ho =>
        obtain rfl := Option.some.inj ho
        have hG := hG0 (Bool.eq_false_iff.2 fun e => absurd (pre_at (hcl 18 _ rfl e) 3 (by kernel_rfl)) (by rw [hl_]; decide))
        exact op_val (.pointer (some ⟨w.heap.size, 4, none⟩)) rfl rfl (faC _ (w.heap.size) (.tmp 1) 4 (by decide) rfl ((ev_off 1 (by kernel_rfl)).trans ev1)) (hK _ _ ⟨(fun _ => hG), t0, t1, t2, (fun _ => rfl), t4, t5, t6, t7, t8, t9, t10, t11, t12, t13, t14, t15, t16, t17, (fun e => absurd (pre_at (hcl 18 _ rfl e) 3 (by kernel_rfl)) (by rw [hl_]; decide))⟩)
      | 4, ho =>
        obtain rfl := Option.some.inj ho
        have hG := hG0 (Bool.eq_false_iff.2 fun e => absurd (pre_at (hcl 18 _ rfl e) 4 (by kernel_rfl)) (by rw [hl_]; decide))
        have p3 := pre_at hp 3 (by kernel_rfl)
        exact op_val (.slice x.ah x.nh x.ch) rfl rfl (exec_csI _ (.tmp 24) rfl (w.heap.size) 4 ((ev_at 3 24 _ (by kernel_rfl) rfl rfl p3 (by rw [hs0]; decide)).trans (t3 p3)) x.ah x.nh x.ch (cell_of (hG.blk (unhide hvb)) (i := 4) rfl)) (hK _ _ ⟨(fun _ => hG), t0, t1, t2, t3, (fun _ => rfl), t5, t6, t7, t8, t9, t10, t11, t12, t13, t14, t15, t16, t17, (fun e => absurd (pre_at (hcl 18 _ rfl e) 4 (by kernel_rfl)) (by rw [hl_]; decide))⟩)
      | 5, ho =>
        obtain rfl := Option.some.inj ho
        have hG := hG0 (Bool.eq_false_iff.2 fun e => absurd (pre_at (hcl 18 _ rfl e) 5 (by kernel_rfl)) (by rw [hl_]; decide))
        have p4 := pre_at hp 4 (by kernel_rfl)
        exact op_val (.int .i64 (x.nh : Int)) rfl rfl (y_lI _ (.tmp 25) rfl x.ah x.nh x.ch ((ev_at 4 25 _ (by kernel_rfl) rfl rfl p4 (by rw [hs0]; decide)).trans (t4 p4))) (hK _ _ ⟨(fun _ => hG), t0, t1, t2, t3, t4, (fun _ => rfl), t6, t7, t8, t9, t10, t11, t12, t13, t14, t15, t16, t17, (fun e => absurd (pre_at (hcl 18 _ rfl e) 5 (by kernel_rfl)) (by rw [hl_]; decide))⟩)
      | 6, ho =>
        obtain rfl := Option.some.inj ho
        have hG := hG0 (Bool.eq_false_iff.2 fun e => absurd (pre_at (hcl 18 _ rfl e) 6 (by kernel_rfl)) (by rw [hl_]; decide))
        have p5 := pre_at hp 5 (by kernel_rfl)
        exact op_val (.int .i64 (m : Int)) rfl rfl (min_i _ (.tmp 26) (.const (.int .i64 8)) (x.nh : Int) 8 rfl ((ev_at 5 26 _ (by kernel_rfl) rfl rfl p5 (by rw [hs0]; decide)).trans (t5 p5)) rfl _ hmI) (hK _ _ ⟨(fun _ => hG), t0, t1, t2, t3, t4, t5, (fun _ => rfl), t7, t8, t9, t10, t11, t12, t13, t14, t15, t16, t17, (fun e => absurd (pre_at (hcl 18 _ rfl e) 6 (by kernel_rfl)) (by rw [hl_]; decide))⟩)
      | 7, ho =>
        obtain rfl := Option.some.inj ho
        have hG := hG0 (Bool.eq_false_iff.2 fun e => absurd (pre_at (hcl 18 _ rfl e) 7 (by kernel_rfl)) (by rw [hl_]; decide))
        have p2 := pre_at hp 2 (by kernel_rfl)
        have p6 := pre_at hp 6 (by kernel_rfl)
        exact op_val (.slice x.ah m x.ch) rfl rfl (exec_upI _ (.tmp 23) (.tmp 27) rfl x.ah x.nh x.ch m ((ev_at 2 23 _ (by kernel_rfl) rfl rfl p2 (by rw [hs0]; decide)).trans (t2 p2)) ((ev_at 6 27 _ (by kernel_rfl) rfl rfl p6 (by rw [hs0]; decide)).trans (t6 p6)) (by omega)) (hK _ _ ⟨(fun _ => hG), t0, t1, t2, t3, t4, t5, t6, (fun _ => rfl), t8, t9, t10, t11, t12, t13, t14, t15, t16, t17, (fun e => absurd (pre_at (hcl 18 _ rfl e) 7 (by kernel_rfl)) (by rw [hl_]; decide))⟩)
      | 8, ho =>
        obtain rfl := Option.some.inj ho
        have hG := hG0 (Bool.eq_false_iff.2 fun e => absurd (pre_at (hcl 18 _ rfl e) 8 (by kernel_rfl)) (by rw [hl_]; decide))
        have p0 := pre_at hp 0 (by kernel_rfl)
        have p7 := pre_at hp 7 (by kernel_rfl)
        have hown := t0 p0 hl_
        refine op_wp rfl rfl (app_rowsW ltI (.tmp 21) (.tmp 28) rfl u1.heap.size (f 0) [] (ev_at 0 21 _ (by kernel_rfl) rfl rfl p0 (by rw [hs0]; decide)) hown x.ah m x.ch L9 ((ev_at 7 28 _ (by kernel_rfl) rfl rfl p7 (by rw [hs0]; decide)).trans (t7 p7)) ((unhide hL9z).gr hG) (unhide hL9o) (by rw [List.length_nil]; omega) hG.size ?_)
        intro v9 w9 hor hgr
        rw [List.nil_append] at hor
        have hG2 := grown_owned hown.2 (Nat.le_refl _) hG hgr
        exact hK _ _ ⟨(fun _ => hG2), (fun _ h => by cases h), t1, t2, t3, t4, t5, t6, t7, (fun _ _ => hor), t9, (fun e e2 => by obtain ⟨p9, h1, h2, h3⟩ := t10 e e2; exact ⟨p9, h1, (hgr.block p9 (lt_of_block h2) (fun h => h3 p0 hl_ h.symm)).trans h2, fun _ h => by cases h⟩), (fun e => absurd (pre_at (hcl 11 _ rfl e) 8 (by kernel_rfl)) (by rw [hl_]; decide)), t12, t13, t14, t15, t16, t17, (fun e => absurd (pre_at (hcl 18 _ rfl e) 8 (by kernel_rfl)) (by rw [hl_]; decide))⟩
      | 9, ho =>
        obtain rfl := Option.some.inj ho
        have hG := hG0 (Bool.eq_false_iff.2 fun e => absurd (pre_at (hcl 18 _ rfl e) 9 (by kernel_rfl)) (by rw [hl_]; decide))
        exact op_val (.agg (fl [[.int .u32 77], [.string ByteArray.empty]])) rfl rfl (bI0 _ (.const (.int .u32 77)) rfl rfl) (hK _ _ ⟨(fun _ => hG), t0, t1, t2, t3, t4, t5, t6, t7, t8, (fun _ => rfl), t10, t11, t12, t13, t14, t15, t16, t17, (fun e => absurd (pre_at (hcl 18 _ rfl e) 9 (by kernel_rfl)) (by rw [hl_]; decide))⟩)
      | 10, ho =>
        obtain rfl := Option.some.inj ho
        have hG := hG0 (Bool.eq_false_iff.2 fun e => absurd (pre_at (hcl 18 _ rfl e) 10 (by kernel_rfl)) (by rw [hl_]; decide))
        have p9 := pre_at hp 9 (by kernel_rfl)
        have hg := (Gr.refl w_).alloc (.cells (fl [[.int .u32 77], [.string ByteArray.empty]]) 47 (0, 0))
        have hG2 := hG.trans hg
        have hb9 : (w_.alloc (.cells (fl [[.int .u32 77], [.string ByteArray.empty]]) 47 (0, 0))).heap[w_.heap.size]? = some (.cells (fl [[.int .u32 77], [.string ByteArray.empty]]) 47 (0, 0)) := blk_new _ _
        exact op_val (.slice (some ⟨w_.heap.size, 0, none⟩) 1 1) rfl rfl (exec_bsi _ (.tmp 30) rfl i77 ((ev_at 9 30 _ (by kernel_rfl) rfl rfl p9 (by rw [hs0]; decide)).trans (t9 p9))) (hK _ _ ⟨(fun _ => hG2), (fun e e2 => (t0 e e2).gr hg), t1, t2, t3, t4, t5, t6, t7, (fun e e2 => (t8 e e2).gr hg), t9, (fun _ _ => ⟨_, rfl, hb9, fun e e2 h => by have h4 := (World.ownsRow.lt (t0 e e2).2 _ h).2; omega⟩), (fun e => absurd (pre_at (hcl 11 _ rfl e) 10 (by kernel_rfl)) (by rw [hl_]; decide)), t12, t13, t14, t15, t16, t17, (fun e => absurd (pre_at (hcl 18 _ rfl e) 10 (by kernel_rfl)) (by rw [hl_]; decide))⟩)
      | 11, ho =>
        obtain rfl := Option.some.inj ho
        have hG := hG0 (Bool.eq_false_iff.2 fun e => absurd (pre_at (hcl 18 _ rfl e) 11 (by kernel_rfl)) (by rw [hl_]; decide))
        have p8 := pre_at hp 8 (by kernel_rfl)
        have p10 := pre_at hp 10 (by kernel_rfl)
        have hown := t8 p8 hl_
        have q10 := p10
        obtain ⟨p9, h1, h2, h3⟩ := t10 p10 hl_
        have hz9 : Lz 2 w_ (some ⟨p9, 0, none⟩) 1 1 [itr i77] := ⟨rfl, by intro r_ hr_; obtain rfl := List.mem_singleton.1 hr_; exact rfl, .inr ⟨p9, 0, rfl, by rw [List.flatten_cons, List.flatten_nil, List.append_nil]; exact range_row h2⟩, by omega, by omega⟩
        refine op_wp rfl rfl (app_rowsW ltI (.tmp 29) (.tmp 31) rfl u1.heap.size (f 8) L9 (ev_at 8 29 _ (by kernel_rfl) rfl rfl p8 (by rw [hs0]; decide)) hown (some ⟨p9, 0, none⟩) 1 1 [itr i77] ((ev_at 10 31 _ (by kernel_rfl) rfl rfl q10 (by rw [hs0]; decide)).trans h1) hz9 (by intro x hx u hu; obtain rfl := List.mem_singleton.1 hx; exact itr_one _ u hu) (by have := unhide hL9n; omega) hG.size ?_)
        intro v9 w9 hor hgr
        have hG2 := grown_owned hown.2 (Nat.le_refl _) hG hgr
        exact hK _ _ ⟨(fun _ => hG2), (fun _ h => absurd (h.symm.trans p8) (by decide)), t1, t2, t3, t4, t5, t6, t7, (fun _ h => by cases h), t9, (fun _ h => by cases h), (fun _ _ => hor), t12, t13, t14, t15, (fun e => absurd (pre_at (hcl 16 _ rfl e) 11 (by kernel_rfl)) (by rw [hl_]; decide)), t17, (fun e => absurd (pre_at (hcl 18 _ rfl e) 11 (by kernel_rfl)) (by rw [hl_]; decide))⟩
      | 12, ho =>
        obtain rfl := Option.some.inj ho
        have hG := hG0 (Bool.eq_false_iff.2 fun e => absurd (pre_at (hcl 18 _ rfl e) 12 (by kernel_rfl)) (by rw [hl_]; decide))
        exact op_val (.pointer (some ⟨w.heap.size, 4, none⟩)) rfl rfl (faC _ (w.heap.size) (.tmp 1) 4 (by decide) rfl ((ev_off 1 (by kernel_rfl)).trans ev1)) (hK _ _ ⟨(fun _ => hG), t0, t1, t2, t3, t4, t5, t6, t7, t8, t9, t10, t11, (fun _ => rfl), t13, t14, t15, t16, t17, (fun e => absurd (pre_at (hcl 18 _ rfl e) 12 (by kernel_rfl)) (by rw [hl_]; decide))⟩)
      | 13, ho =>
        obtain rfl := Option.some.inj ho
        have hG := hG0 (Bool.eq_false_iff.2 fun e => absurd (pre_at (hcl 18 _ rfl e) 13 (by kernel_rfl)) (by rw [hl_]; decide))
        have p12 := pre_at hp 12 (by kernel_rfl)
        exact op_val (.slice x.ah x.nh x.ch) rfl rfl (exec_csI _ (.tmp 33) rfl (w.heap.size) 4 ((ev_at 12 33 _ (by kernel_rfl) rfl rfl p12 (by rw [hs0]; decide)).trans (t12 p12)) x.ah x.nh x.ch (cell_of (hG.blk (unhide hvb)) (i := 4) rfl)) (hK _ _ ⟨(fun _ => hG), t0, t1, t2, t3, t4, t5, t6, t7, t8, t9, t10, t11, t12, (fun _ => rfl), t14, t15, t16, t17, (fun e => absurd (pre_at (hcl 18 _ rfl e) 13 (by kernel_rfl)) (by rw [hl_]; decide))⟩)
      | 14, ho =>
        obtain rfl := Option.some.inj ho
        have hG := hG0 (Bool.eq_false_iff.2 fun e => absurd (pre_at (hcl 18 _ rfl e) 14 (by kernel_rfl)) (by rw [hl_]; decide))
        have p13 := pre_at hp 13 (by kernel_rfl)
        exact op_val (.int .i64 (x.nh : Int)) rfl rfl (y_lI _ (.tmp 34) rfl x.ah x.nh x.ch ((ev_at 13 34 _ (by kernel_rfl) rfl rfl p13 (by rw [hs0]; decide)).trans (t13 p13))) (hK _ _ ⟨(fun _ => hG), t0, t1, t2, t3, t4, t5, t6, t7, t8, t9, t10, t11, t12, t13, (fun _ => rfl), t15, t16, t17, (fun e => absurd (pre_at (hcl 18 _ rfl e) 14 (by kernel_rfl)) (by rw [hl_]; decide))⟩)
      | 15, ho =>
        obtain rfl := Option.some.inj ho
        have hG := hG0 (Bool.eq_false_iff.2 fun e => absurd (pre_at (hcl 18 _ rfl e) 15 (by kernel_rfl)) (by rw [hl_]; decide))
        have p14 := pre_at hp 14 (by kernel_rfl)
        exact op_val (.int .i64 (m : Int)) rfl rfl (min_i _ (.tmp 35) (.const (.int .i64 8)) (x.nh : Int) 8 rfl ((ev_at 14 35 _ (by kernel_rfl) rfl rfl p14 (by rw [hs0]; decide)).trans (t14 p14)) rfl _ hmI) (hK _ _ ⟨(fun _ => hG), t0, t1, t2, t3, t4, t5, t6, t7, t8, t9, t10, t11, t12, t13, t14, (fun _ => rfl), t16, t17, (fun e => absurd (pre_at (hcl 18 _ rfl e) 15 (by kernel_rfl)) (by rw [hl_]; decide))⟩)
      | 16, ho =>
        obtain rfl := Option.some.inj ho
        have hG := hG0 (Bool.eq_false_iff.2 fun e => absurd (pre_at (hcl 18 _ rfl e) 16 (by kernel_rfl)) (by rw [hl_]; decide))
        have p11 := pre_at hp 11 (by kernel_rfl)
        have p15 := pre_at hp 15 (by kernel_rfl)
        have hor := t11 p11 (Bool.eq_false_iff.2 fun e => absurd (pre_at (hcl 18 _ rfl e) 16 (by kernel_rfl)) (by rw [hl_]; decide))
        obtain ⟨g, c_, C_, e1, h1, h2, h3, h4, h5, h6⟩ := Or_.some hor (by simp)
        rw [List.length_append, List.length_singleton, unhide hL9n] at e1
        exact op_val (.slice (some ⟨g, 0, none⟩) m c_) rfl rfl (exec_upI _ (.tmp 32) (.tmp 36) rfl (some ⟨g, 0, none⟩) (m + 1) c_ m ((ev_at 11 32 _ (by kernel_rfl) rfl rfl p11 (by rw [hs0]; decide)).trans e1) ((ev_at 15 36 _ (by kernel_rfl) rfl rfl p15 (by rw [hs0]; decide)).trans (t15 p15)) (by rw [List.length_append, List.length_singleton, unhide hL9n] at h3; omega)) (hK _ _ ⟨(fun _ => hG), t0, t1, t2, t3, t4, t5, t6, t7, t8, t9, t10, t11, t12, t13, t14, t15, (fun _ => ⟨g, c_, e1, rfl⟩), t17, (fun e => absurd (pre_at (hcl 18 _ rfl e) 16 (by kernel_rfl)) (by rw [hl_]; decide))⟩)
      | 17, ho =>
        obtain rfl := Option.some.inj ho
        have hG := hG0 (Bool.eq_false_iff.2 fun e => absurd (pre_at (hcl 18 _ rfl e) 17 (by kernel_rfl)) (by rw [hl_]; decide))
        have p0 := pre_at hp 0 (by kernel_rfl)
        have p1 := pre_at hp 1 (by kernel_rfl)
        have p2 := pre_at hp 2 (by kernel_rfl)
        have p3 := pre_at hp 3 (by kernel_rfl)
        have p4 := pre_at hp 4 (by kernel_rfl)
        have p5 := pre_at hp 5 (by kernel_rfl)
        have p6 := pre_at hp 6 (by kernel_rfl)
        have p7 := pre_at hp 7 (by kernel_rfl)
        have p8 := pre_at hp 8 (by kernel_rfl)
        have p9 := pre_at hp 9 (by kernel_rfl)
        have p10 := pre_at hp 10 (by kernel_rfl)
        have p11 := pre_at hp 11 (by kernel_rfl)
        have p12 := pre_at hp 12 (by kernel_rfl)
        have p13 := pre_at hp 13 (by kernel_rfl)
        have p14 := pre_at hp 14 (by kernel_rfl)
        have p15 := pre_at hp 15 (by kernel_rfl)
        have p16 := pre_at hp 16 (by kernel_rfl)
        exact op_val (.pointer (some ⟨w.heap.size, 4, none⟩)) rfl rfl (faC _ (w.heap.size) (.tmp 1) 4 (by decide) rfl ((ev_off 1 (by kernel_rfl)).trans ev1)) (hK _ _ ⟨(fun _ => hG), t0, t1, t2, t3, t4, t5, t6, t7, t8, t9, t10, t11, t12, t13, t14, t15, t16, (fun _ => rfl), (fun e => absurd (pre_at (hcl 18 _ rfl e) 17 (by kernel_rfl)) (by rw [hl_]; decide))⟩)
      | 18, ho =>
        obtain rfl := Option.some.inj ho
        have p0 := pre_at hp 0 (by kernel_rfl)
        have p1 := pre_at hp 1 (by kernel_rfl)
        have p2 := pre_at hp 2 (by kernel_rfl)
        have p3 := pre_at hp 3 (by kernel_rfl)
        have p4 := pre_at hp 4 (by kernel_rfl)
        have p5 := pre_at hp 5 (by kernel_rfl)
        have p6 := pre_at hp 6 (by kernel_rfl)
        have p7 := pre_at hp 7 (by kernel_rfl)
        have p8 := pre_at hp 8 (by kernel_rfl)
        have p9 := pre_at hp 9 (by kernel_rfl)
        have p10 := pre_at hp 10 (by kernel_rfl)
        have p11 := pre_at hp 11 (by kernel_rfl)
        have p12 := pre_at hp 12 (by kernel_rfl)
        have p13 := pre_at hp 13 (by kernel_rfl)
        have p14 := pre_at hp 14 (by kernel_rfl)
        have p15 := pre_at hp 15 (by kernel_rfl)
        have p16 := pre_at hp 16 (by kernel_rfl)
        have p17 := pre_at hp 17 (by kernel_rfl)
        have hG := hG0 hl_
        have hor := t11 p11 hl_
        obtain ⟨g, c_, e1, e2⟩ := t16 p16
        rw [e1] at hor
        have hB1 := (unhide hB0).more hG
        refine op_wp rfl rfl (of_if (c := Region.wanted _ (yielded #[] (Act.tmps _)) = true) (by kernel_rfl) (step_csI (ops := #[]) (.tmp 38) (.tmp 37) (w.heap.size) 4 (some ⟨g, 0, none⟩) m c_ (by kernel_rfl) rfl ((ev_at 17 38 _ (by kernel_rfl) rfl rfl p17 (by rw [hs0]; decide)).trans (t17 p17)) ((ev_at 16 37 _ (by kernel_rfl) rfl rfl p16 (by rw [hs0]; decide)).trans e2) hB1 0 rfl NC (nC _ _ _ _ _) 4 _ rfl rfl fun v_ hb_ ht_ => hK _ _ ⟨fun e => (by cases e), (fun e h => (t0 e h).bz (t := 26) (hB1.get 0 (x := ⟨w.heap.size, fl [[.int .u32 c.nx], [.slice aO nO ccO], [.int .i64 c.tn], [.int .u32 c.dl], [.slice x.ah x.nh x.ch]], 26⟩) rfl) ht_), t1, t2, t3, t4, t5, t6, t7, (fun e h => absurd (h.symm.trans p11) (by decide)), t9, (fun e h => absurd (h.symm.trans p11) (by decide)), (fun _ h => by cases h), t12, t13, t14, t15, t16, t17, (fun _ => ⟨g, c_, w_, hG, ht_, hb_, hor.bz (t := 26) (hB1.get 0 (x := ⟨w.heap.size, fl [[.int .u32 c.nx], [.slice aO nO ccO], [.int .i64 c.tn], [.int .u32 c.dl], [.slice x.ah x.nh x.ch]], 26⟩) rfl) ht_⟩)⟩))
      | n + 19, ho => cases ho
    · intro l_ f_ u2 hall hJ
      obtain ⟨hG0, t0, t1, t2, t3, t4, t5, t6, t7, t8, t9, t10, t11, t12, t13, t14, t15, t16, t17, t18⟩ := hJ
      obtain ⟨gg, cc, v_, hg1, ht1, hb1, ho1⟩ := t18 (hall 18 (by decide))
      subst hA0
      simp only [putF, if_true]
      simp only [nrm]
      have hbk_ := hg1.blk (unhide hvb)
      clear t0 t1 t2 t3 t4 t5 t6 t7 t8 t9 t10 t11 t12 t13 t14 t15 t16 t17 t18 hG0 hall ev1 hs0 hvb hB0
      replace hO := hide (((unhide hO).gr hg1).bz hbk_ ht1)
      have hB := hb1
      have e9 : L9 = ((ct c).H.map itr) := by
        rw [unhide hL9]
        unfold ct
        dsimp only
        rw [List.map_take, unhide hm]
        have hl9 : (c.H.map itr).length = x.nh := by rw [List.length_map, hnh]
        by_cases h9 : x.nh ≤ 8
        · rw [Nat.min_eq_left h9, List.take_of_length_le (by omega), List.take_of_length_le (by omega)]
        · rw [Nat.min_eq_right (by omega)]
      rw [e9] at ho1
      have hH := hide (show Rm 2 47 w.heap.size u2 (some ⟨gg, 0, none⟩) m cc ((ct c).H.map itr) (itr i77) from ⟨gg, rfl, or_base ho1 hwS⟩)
      clear hb1 e9 ho1 hg1 ht1 hbk_ hL9 hL9n hL9r hL9o hL9z hm hm1 hm8 hmI hwS
      obtain ⟨aI, haI⟩ : ∃ a_, a_ = (some (⟨gg, 0, none⟩ : Addr)) := ⟨_, rfl⟩
      rw [← haI] at hB hH
      clear haI
      obtain ⟨nI, hnI⟩ : ∃ a_, a_ = m := ⟨_, rfl⟩
      rw [← hnI] at hB hH
      clear hnI
      obtain ⟨ccI, hcc⟩ : ∃ a_, a_ = cc := ⟨_, rfl⟩
      rw [← hcc] at hB hH
      clear hcc
      have hB2 : Bl w [⟨w.heap.size, fl [[.int .u32 c.nx], [.slice aO nO ccO], [.int .i64 c.tn], [.int .u32 c.dl], [.slice aI nI ccI]], 26⟩, ⟨w.heap.size + 1, fl [[.int .u32 0], [.slice none 0 0], [.int .i64 0], [.int .u32 0], [.slice none 0 0]], 26⟩] u2 := hB
      clear hB
      have hB := hB2
      clear hB2
      replace hB := hide hB
      go_upto_region 3 with fail
      replace hB := unhide hB
      refine wp_region_lit ?_
      refine list_val (.agg (fl [[.int .u32 c.nx], [.slice aO nO ccO], [.int .i64 c.tn], [.int .u32 c.dl], [.slice aI nI ccI]])) (by kernel_rfl) (exec_sw _ 26 (.tmp 1) rfl (w.heap.size) (by kernel_rfl) (hB.get 0 (x := ⟨w.heap.size, fl [[.int .u32 c.nx], [.slice aO nO ccO], [.int .i64 c.tn], [.int .u32 c.dl], [.slice aI nI ccI]], 26⟩) rfl) NC (nC  _ _ _ _ _) Try.underlying26 rfl (by kernel_rfl)) ?_
      simp only [nrm]
      have hzz_ : Hid (u2.heap[w.heap.size + 1]? = some (.cells (fl [[.int .u32 0], [.slice none 0 0], [.int .i64 0], [.int .u32 0], [.slice none 0 0]]) 26 (0, 0))) := hide (hB.get 1 (x := ⟨w.heap.size + 1, fl [[.int .u32 0], [.slice none 0 0], [.int .i64 0], [.int .u32 0], [.slice none 0 0]], 26⟩) rfl)
      refine list_all 26 (.tmp 2) (.tmp 39) (w.heap.size + 1) (S2 := [[.int .u32 c.nx], [.slice aO nO ccO], [.int .i64 c.tn], [.int .u32 c.dl], [.slice aI nI ccI]]) (by kernel_rfl) rfl (by kernel_rfl) (by kernel_rfl) hB 1 rfl NC (nC  _ _ _ _ _) (nC  _ _ _ _ _) (by kernel_rfl) (oC  rfl rfl rfl rfl rfl) ?_
      intro u3 hB_ hbt_
      clear hB
      replace hB : Bl w [⟨w.heap.size, fl [[.int .u32 c.nx], [.slice aO nO ccO], [.int .i64 c.tn], [.int .u32 c.dl], [.slice aI nI ccI]], 26⟩, ⟨w.heap.size + 1, fl [[.int .u32 c.nx], [.slice aO nO ccO], [.int .i64 c.tn], [.int .u32 c.dl], [.slice aI nI ccI]], 26⟩] u3 := hB_
      clear hB_
      replace hO := hide ((unhide hO).bz (unhide hzz_) hbt_)
      replace hH := hide ((unhide hH).bz (unhide hzz_) hbt_)
      clear hbt_ hzz_
      simp only [nrm]
      refine wpList_nil ?_
      replace hB := hide hB
      go_wp2_with fail
      replace hB := unhide hB
      rw [unhide hT]
      exact bodyPost_ret (v := .agg (fl [[.int .u32 c.nx], [.slice aO nO ccO], [.int .i64 c.tn], [.int .u32 c.dl], [.slice aI nI ccI]])) (res1 Try.results10 (rv_cell (by kernel_rfl) (hB.get 1 (x := ⟨w.heap.size + 1, fl [[.int .u32 c.nx], [.slice aO nO ccO], [.int .i64 c.tn], [.int .u32 c.dl], [.slice aI nI ccI]], 26⟩) rfl) Try.underlying26 rfl (by rw [fl_size (nC  _ _ _ _ _)]; kernel_rfl))) rfl (⟨⟨aO, nO, ccO, aI, nI, ccI⟩, rfl, ⟨unhide hO, unhide hH⟩, hB.gr⟩)
end Go.Proofs.Ytcefkkoombmndaa
