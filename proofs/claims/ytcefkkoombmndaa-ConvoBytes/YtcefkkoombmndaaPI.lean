/-
  The reference's num and Put.
-/
import Derived.Test.YtcefkkoombmndaaPH
import Derived.Lib.EndianBits
namespace Go.Proofs.Ytcefkkoombmndaa
open Go.RowKit
set_option maxRecDepth 100000
set_option linter.unusedSimpArgs false
set_option linter.unusedVariables false
theorem exec_ib {a : Act} {o : Oper} (w : World) (x y : Operand) (ho : o.op = .indexAddr 53 x y) (g q len cap i : Nat) (hx : a.eval x = .slice (some ⟨g, q, none⟩) len cap) (hy : a.eval y = .int .i64 i) (hi : i < len) :
    (execOp a.eval o).run Try.prog w = .ok (.value (.pointer (some ⟨g, q + i, none⟩))) w := by
  have h1 : (i : Int) < (len : Int) := by omega
  unfold execOp
  simp only [ho, hx, hy]
  go_simp
theorem conv_832 {a : Act} {o : Oper} (w : World) (x : Operand) (m : Int) (ho : o.op = .convert 5 22 x) (hx : a.eval x = .int .u8 m) (h : 0 ≤ m ∧ m < 256) : (execOp a.eval o).run Try.prog w = .ok (.value (.int .u32 m)) w := by
  have e : IntKind.u32.wrap m = m := by rw [IntKind.wrap_u32]; omega
  unfold execOp
  simp only [ho, hx]
  go_simp
theorem shl_8 {a : Act} {o : Oper} (w : World) (x : Operand) (m : Int) (t : TypeId) (ho : o.op = .binOp .shl 22 x (.const (.int .u64 8)) t) (hx : a.eval x = .int .u32 m) (h : 0 ≤ m ∧ m < 256) (r : Int) (hr : m * 256 = r) : (execOp a.eval o).run Try.prog w = .ok (.value (.int .u32 r)) w := by
  have e : IntKind.u32.wrap r = r := by rw [IntKind.wrap_u32]; omega
  unfold execOp
  simp only [ho, hx]
  go_simp
theorem shl_16 {a : Act} {o : Oper} (w : World) (x : Operand) (m : Int) (t : TypeId) (ho : o.op = .binOp .shl 22 x (.const (.int .u64 16)) t) (hx : a.eval x = .int .u32 m) (h : 0 ≤ m ∧ m < 256) (r : Int) (hr : m * 65536 = r) : (execOp a.eval o).run Try.prog w = .ok (.value (.int .u32 r)) w := by
  have e : IntKind.u32.wrap r = r := by rw [IntKind.wrap_u32]; omega
  unfold execOp
  simp only [ho, hx]
  go_simp
theorem shl_24 {a : Act} {o : Oper} (w : World) (x : Operand) (m : Int) (t : TypeId) (ho : o.op = .binOp .shl 22 x (.const (.int .u64 24)) t) (hx : a.eval x = .int .u32 m) (h : 0 ≤ m ∧ m < 256) (r : Int) (hr : m * 16777216 = r) : (execOp a.eval o).run Try.prog w = .ok (.value (.int .u32 r)) w := by
  have e : IntKind.u32.wrap r = r := by rw [IntKind.wrap_u32]; omega
  unfold execOp
  simp only [ho, hx]
  go_simp
theorem or_32 {a : Act} {o : Oper} (w : World) (x y : Operand) (m n : Int) (ho : o.op = .binOp .or 22 x y 22) (hx : a.eval x = .int .u32 m) (hy : a.eval y = .int .u32 n) (r : Int) (hr : bits .or .u32 m n = r) : (execOp a.eval o).run Try.prog w = .ok (.value (.int .u32 r)) w := by
  unfold execOp
  simp only [ho, hx, hy]
  go_simp
theorem low4_eq {L : List Int} (h : 4 ≤ L.length) : lowN (L.take 4) = L.getD 0 0 + L.getD 1 0 * 256 + L.getD 2 0 * 65536 + L.getD 3 0 * 16777216 := by
  match L, h with
  | a :: b :: c :: d :: L, _ =>
    simp [lowN]
    omega
set_option maxHeartbeats 4000000 in
theorem rnum_ok (L : List Int) (s : Option Addr) (n c : Nat) (h4 : 4 ≤ n) (w : World) (lb : Lb w s n c L) : Calls Try.prog 48 #[.slice s n c] w (Vl (.int .u32 (lowN (L.take 4))) w) := by
  obtain ⟨T, hT⟩ : ∃ T : Ending → World → Prop, T = (Vl (.int .u32 (lowN (L.take 4))) w) := ⟨_, rfl⟩
  rw [← hT]
  replace hT := hide hT
  have hLl := lb.len
  have hB := lb.isB
  have b0 := hB.at_ 0
  have b1 := hB.at_ 1
  have b2 := hB.at_ 2
  have b3 := hB.at_ 3
  have hv := low4_eq (L := L) (by omega)
  clear hB
  replace lb := hide lb
  go_enter Try.func48, Try.ntmps48
  go_upto_region 1 with fail
  obtain ⟨u0, hu_⟩ : ∃ u, u = w := ⟨_, rfl⟩
  rw [← hu_]
  have hB : Bl w [] u0 := hu_ ▸ Bl.nil w
  clear hu_
  obtain ⟨p, o, rfl, hat⟩ : ∃ p o, s = some ⟨p, o, none⟩ ∧ At w p o L := by
    rcases (unhide lb).sl with h | ⟨p, o, h, h2⟩
    · rw [h] at hLl; exact absurd hLl (by simp; omega)
    · exact ⟨p, o, h, h2⟩
  have c0 := hat 0 (by omega)
  have c1 := hat 1 (by omega)
  have c2 := hat 2 (by omega)
  have c3 := hat 3 (by omega)
  clear hat
  generalize L.getD 0 0 = x0 at *
  generalize L.getD 1 0 = x1 at *
  generalize L.getD 2 0 = x2 at *
  generalize L.getD 3 0 = x3 at *
  replace hv := hide hv; replace c0 := hide (hB.gr.cell c0); replace c1 := hide (hB.gr.cell c1); replace c2 := hide (hB.gr.cell c2); replace c3 := hide (hB.gr.cell c3)
  have hG := hide (Gr.refl u0)
  refine any_start (S := fun v_ => Gr u0 v_) (by kernel_rfl) ?_
  replace hG := hide ((unhide hG).gr ((Gr.refl u0).drew))
  replace hB := hB.drew
  generalize World.drew _ = u1 at *
  simp only [List.size_toArray, List.length_cons, List.length_nil, Array.replicate, List.replicate]
  have hS_ := hide (show (fun v_ => Gr u0 v_) u1 from (unhide hG))
  refine any_tk 0 (.slice (some ⟨p, o, none⟩) n c) (tf 23 0) rfl (fun x_ hu => by kernel_rfl) (unhide hS_) ?_
  simp only [nrm]
  refine any_tk 1 (.pointer (some ⟨p, o + 0, none⟩)) (tf 23 1) rfl (fun x_ hu => exec_ib _ (.tmp 3) (.const (.int .i64 0)) rfl p o n c 0 (by kernel_rfl) rfl (by omega)) (unhide hS_) ?_
  simp only [nrm]
  refine any_tk 2 (.int .u8 x0) (tf 23 2) rfl (fun x_ hu => exec_b _ (.tmp 4) rfl p (o + 0) (by kernel_rfl) x0 (hu.cell (unhide c0))) (unhide hS_) ?_
  simp only [nrm]
  refine any_tk 3 (.int .u32 x0) (tf 23 3) rfl (fun x_ hu => conv_832 _ (.tmp 5) x0 rfl (by kernel_rfl) b0) (unhide hS_) ?_
  simp only [nrm]
  refine any_tk 4 (.slice (some ⟨p, o, none⟩) n c) (tf 23 4) rfl (fun x_ hu => by kernel_rfl) (unhide hS_) ?_
  simp only [nrm]
  refine any_tk 5 (.pointer (some ⟨p, o + 1, none⟩)) (tf 23 5) rfl (fun x_ hu => exec_ib _ (.tmp 7) (.const (.int .i64 1)) rfl p o n c 1 (by kernel_rfl) rfl (by omega)) (unhide hS_) ?_
  simp only [nrm]
  refine any_tk 6 (.int .u8 x1) (tf 23 6) rfl (fun x_ hu => exec_b _ (.tmp 8) rfl p (o + 1) (by kernel_rfl) x1 (hu.cell (unhide c1))) (unhide hS_) ?_
  simp only [nrm]
  refine any_tk 7 (.int .u32 x1) (tf 23 7) rfl (fun x_ hu => conv_832 _ (.tmp 9) x1 rfl (by kernel_rfl) b1) (unhide hS_) ?_
  simp only [nrm]
  refine any_tk 8 (.int .u32 (x1 * 256)) (tf 23 8) rfl (fun x_ hu => shl_8 _ (.tmp 10) x1 _ rfl (by kernel_rfl) b1 _ rfl) (unhide hS_) ?_
  simp only [nrm]
  refine any_tk 9 (.int .u32 (x0 + x1 * 256)) (tf 23 9) rfl (fun x_ hu => or_32 _ (.tmp 6) (.tmp 11) x0 (x1 * 256) rfl (by kernel_rfl) (by kernel_rfl) _ (u32_or8 x0 (x1 * 256) (by omega) (by omega) (by omega) (by omega) (by omega))) (unhide hS_) ?_
  simp only [nrm]
  refine any_tk 10 (.slice (some ⟨p, o, none⟩) n c) (tf 23 10) rfl (fun x_ hu => by kernel_rfl) (unhide hS_) ?_
  simp only [nrm]
  refine any_tk 11 (.pointer (some ⟨p, o + 2, none⟩)) (tf 23 11) rfl (fun x_ hu => exec_ib _ (.tmp 13) (.const (.int .i64 2)) rfl p o n c 2 (by kernel_rfl) rfl (by omega)) (unhide hS_) ?_
  simp only [nrm]
  refine any_tk 12 (.int .u8 x2) (tf 23 12) rfl (fun x_ hu => exec_b _ (.tmp 14) rfl p (o + 2) (by kernel_rfl) x2 (hu.cell (unhide c2))) (unhide hS_) ?_
  simp only [nrm]
  refine any_tk 13 (.int .u32 x2) (tf 23 13) rfl (fun x_ hu => conv_832 _ (.tmp 15) x2 rfl (by kernel_rfl) b2) (unhide hS_) ?_
  simp only [nrm]
  refine any_tk 14 (.int .u32 (x2 * 65536)) (tf 23 14) rfl (fun x_ hu => shl_16 _ (.tmp 16) x2 _ rfl (by kernel_rfl) b2 _ rfl) (unhide hS_) ?_
  simp only [nrm]
  refine any_tk 15 (.int .u32 ((x0 + x1 * 256) + x2 * 65536)) (tf 23 15) rfl (fun x_ hu => or_32 _ (.tmp 12) (.tmp 17) (x0 + x1 * 256) (x2 * 65536) rfl (by kernel_rfl) (by kernel_rfl) _ (u32_or16 (x0 + x1 * 256) (x2 * 65536) (by omega) (by omega) (by omega) (by omega) (by omega))) (unhide hS_) ?_
  simp only [nrm]
  refine any_tk 16 (.slice (some ⟨p, o, none⟩) n c) (tf 23 16) rfl (fun x_ hu => by kernel_rfl) (unhide hS_) ?_
  simp only [nrm]
  refine any_tk 17 (.pointer (some ⟨p, o + 3, none⟩)) (tf 23 17) rfl (fun x_ hu => exec_ib _ (.tmp 19) (.const (.int .i64 3)) rfl p o n c 3 (by kernel_rfl) rfl (by omega)) (unhide hS_) ?_
  simp only [nrm]
  refine any_tk 18 (.int .u8 x3) (tf 23 18) rfl (fun x_ hu => exec_b _ (.tmp 20) rfl p (o + 3) (by kernel_rfl) x3 (hu.cell (unhide c3))) (unhide hS_) ?_
  simp only [nrm]
  refine any_tk 19 (.int .u32 x3) (tf 23 19) rfl (fun x_ hu => conv_832 _ (.tmp 21) x3 rfl (by kernel_rfl) b3) (unhide hS_) ?_
  simp only [nrm]
  refine any_tk 20 (.int .u32 (x3 * 16777216)) (tf 23 20) rfl (fun x_ hu => shl_24 _ (.tmp 22) x3 _ rfl (by kernel_rfl) b3 _ rfl) (unhide hS_) ?_
  simp only [nrm]
  refine any_tk 21 (.int .u32 (((x0 + x1 * 256) + x2 * 65536) + x3 * 16777216)) (tf 23 21) rfl (fun x_ hu => or_32 _ (.tmp 18) (.tmp 23) ((x0 + x1 * 256) + x2 * 65536) (x3 * 16777216) rfl (by kernel_rfl) (by kernel_rfl) _ (u32_or24 ((x0 + x1 * 256) + x2 * 65536) (x3 * 16777216) (by omega) (by omega) (by omega) (by omega) (by omega))) (unhide hS_) ?_
  simp only [nrm]
  refine any_one (i := 22) (by kernel_rfl) rfl (fun K hK => ?_)
  replace hK := hide hK
  go_simp
  refine (unhide hK).out _ _ (unhide hS_) (fun _ => ?_)
  clear hK K
  simp only [nrm]
  refine any_done (by kernel_rfl) ?_
  clear hS_
  replace hB := hide hB
  go_wp2_with fail
  replace hB := unhide hB
  rw [unhide hT]
  exact (⟨by rw [unhide hv] <;> rfl, hB.gr⟩)
/-- a new list of two bytes -/
def Sl82 (k m : Int) (u : World) (q : Value) : Prop := ∃ g, q = .slice (some ⟨g, 0, none⟩) 2 2 ∧ u.heap[g]? = some (.cells (kc [k, m]) 5 (0, 0))
theorem Sl82.gr {k m : Int} {u v : World} {q : Value} (h : Sl82 k m u q) (e : Gr u v) : Sl82 k m v q := by
  obtain ⟨g, h1, h2⟩ := h
  exact ⟨g, h1, e.blk h2⟩
theorem conv_3264 {a : Act} {o : Oper} (w : World) (x : Operand) (m : Int) (ho : o.op = .convert 22 74 x) (hx : a.eval x = .int .u32 m) (h : 0 ≤ m ∧ m < 4294967296) : (execOp a.eval o).run Try.prog w = .ok (.value (.int .u64 m)) w := by
  have e : IntKind.u64.wrap m = m := by rw [IntKind.wrap_u64]; omega
  unfold execOp
  simp only [ho, hx]
  go_simp
theorem bodL_no {O : List Ot} (h : ∀ s ∈ O, s.Ok) (h4 : O.length ≤ 4) {j : Nat} (hj : O.length ≤ j) (hj4 : j < 4) : ((bodL O O.length).drop (105 * j)).take 105 = Z105 := by
  have hA := bodt_len h (Nat.le_refl O.length)
  unfold bodL
  rw [List.drop_append, List.drop_eq_nil_of_le (by omega), List.nil_append, List.drop_replicate, List.take_replicate, hA]
  unfold Z105
  congr 1
  omega
theorem exec_lbR {op : Oper} {a : Act} (w : World) (x : Operand) (ho : op.op = .load 27 x) (g o : Nat) (hx : a.eval x = .pointer (some ⟨g, o + 1, none⟩)) (s : Ot) (hs : s.B.length = 105) (h : w.rangeAt g o (otr s)) :
    (execOp a.eval op).run Try.prog w = .ok (.value (.agg (fl [bw s.B]))) w := by
  have e : fl [bw s.B] = (bw s.B).toArray := by unfold fl; simp
  rw [e]
  exact exec_row (P := Try.prog) w 27 x ho g (o + 1) hx (bw s.B) _ (fun j v hj => by
    have h2 := h (j + 1) v (by unfold otr; simpa using hj)
    rwa [show o + (j + 1) = o + 1 + j by omega] at h2) Try.underlying27 rfl (by rw [bw_len, hs]; kernel_rfl)
theorem ob_bk {b g n c : Nat} {w v : World} {a : Option Addr} {L : List Int} (h : Ob b w (.slice a n c) L) (m : Bt g w v) (hn : blkOf a ≠ some g) : Ob b v (.slice a n c) L := by
  have h2 := or_bk (ob_or h) m hn
  have e : (L.map fun x => [Value.int .u8 x]).flatten = L.map (Value.int .u8) := by
    clear h h2
    induction L with
    | nil => rfl
    | cons a L ih => rw [List.map_cons, List.flatten_cons, ih]; rfl
  have h3 := h2.2
  rw [e, List.length_map] at h3
  exact h3
theorem kpad {s : ByteArray} (h : s.size ≤ 48) : (sp ((List.replicate 48 (0 : Int)).map (Value.int .u8)) 0 ((tb s).map (Value.int .u8))).toArray = kc (padT s) := by
  have h1 := pad_cells h
  have e : [bw Z48].flatten = (List.replicate 48 (0 : Int)).map (Value.int .u8) := by simp [bw, Z48]
  rw [e] at h1
  rw [h1]
  simp [fl, bw, kc]
set_option maxHeartbeats 4000000 in
theorem rput_ok (c : Cm) (x : Lc) (w : World) (hc : Cin w c x) (h1 : rt c = true) : Calls Try.prog 29 #[.agg (fl [[.int .u32 c.nx], [.slice x.ao x.no x.co], [.int .i64 c.tn], [.int .u32 c.dl], [.slice x.ah x.nh x.ch]])] w (fun r_ w' => ∃ v, r_ = .returned v ∧ Ob w.heap.size w' v (putL c) ∧ Gr w w') := by
  obtain ⟨T, hT⟩ : ∃ T : Ending → World → Prop, T = (fun r_ w' => ∃ v, r_ = .returned v ∧ Ob w.heap.size w' v (putL c) ∧ Gr w w') := ⟨_, rfl⟩
  rw [← hT]
  replace hT := hide hT
  have hnO := hc.o.len
  have hnH := hc.h.len
  have hnx := hc.nx
  have hdl := hc.dl
  have hOk := hide hc.o.1
  have hHk := hide hc.h.1
  replace hc := hide hc
  have hle := rt_le h1
  have hO4 : c.O.length ≤ 4 := hle.2.1.1
  have hH3 : c.H.length ≤ 3 := hle.2.2
  have htn : 0 ≤ c.tn ∧ c.tn < 256 := by have := hle.2.1.2.2; omega
  have hsz := hide (rises_sz _ _ _ (rt_rises h1))
  clear hle h1
  obtain ⟨A0_, hA0_⟩ : ∃ S_, S_ = fl [[.int .u32 c.nx], [.slice x.ao x.no x.co], [.int .i64 c.tn], [.int .u32 c.dl], [.slice x.ah x.nh x.ch]] := ⟨_, rfl⟩
  rw [← hA0_]
  replace hA0_ := hide hA0_
  go_enter Try.func29, Try.ntmps29
  go_upto_region 1 with fail
  have hB := ((Bl.nil w).new A0_ 26)
  simp only [size_alloc, List.nil_append, List.cons_append] at hB
  rw [unhide hA0_] at hB
  generalize hu_ : World.alloc _ _ = u0
  replace hB : Bl w [⟨w.heap.size, fl [[.int .u32 c.nx], [.slice x.ao x.no x.co], [.int .i64 c.tn], [.int .u32 c.dl], [.slice x.ah x.nh x.ch]], 26⟩] u0 := by
    rw [← hu_]
    rw [unhide hA0_]
    exact hB
  clear hu_ hA0_
  replace hB := hide hB
  go_upto_region 1 with fail
  replace hB := unhide hB
  refine any_start (S := fun v_ => v_.heap[w.heap.size]? = some (.cells (fl [[.int .u32 c.nx], [.slice x.ao x.no x.co], [.int .i64 c.tn], [.int .u32 c.dl], [.slice x.ah x.nh x.ch]]) 26 (0, 0))) (by kernel_rfl) ?_
  replace hB := hB.drew
  generalize World.drew _ = u1 at *
  simp only [List.size_toArray, List.length_cons, List.length_nil, Array.replicate, List.replicate]
  refine any_tk 0 (.pointer (some ⟨w.heap.size, 0, none⟩)) (tf 14 0) rfl (fun x_ hu => by kernel_rfl) (hB.get 0 (x := ⟨w.heap.size, fl [[.int .u32 c.nx], [.slice x.ao x.no x.co], [.int .i64 c.tn], [.int .u32 c.dl], [.slice x.ah x.nh x.ch]], 26⟩) rfl) ?_
  simp only [nrm]
  refine any_tk 1 (.int .u32 c.nx) (tf 14 1) rfl (fun x_ hu => exec_c32 _ (.tmp 9) rfl (w.heap.size) 0 (by kernel_rfl) c.nx (seg_cell (nC  _ _ _ _ _) hu 0 (v := .int .u32 c.nx) rfl rfl)) (hB.get 0 (x := ⟨w.heap.size, fl [[.int .u32 c.nx], [.slice x.ao x.no x.co], [.int .i64 c.tn], [.int .u32 c.dl], [.slice x.ah x.nh x.ch]], 26⟩) rfl) ?_
  simp only [nrm]
  refine any_tk 2 (.int .u64 c.nx) (tf 14 2) rfl (fun x_ hu => conv_3264 _ (.tmp 10) c.nx rfl (by kernel_rfl) hnx) (hB.get 0 (x := ⟨w.heap.size, fl [[.int .u32 c.nx], [.slice x.ao x.no x.co], [.int .i64 c.tn], [.int .u32 c.dl], [.slice x.ah x.nh x.ch]], 26⟩) rfl) ?_
  simp only [nrm]
  refine any_tk 4 (.pointer (some ⟨w.heap.size, 1, none⟩)) (tf 14 3) rfl (fun x_ hu => by kernel_rfl) (hB.get 0 (x := ⟨w.heap.size, fl [[.int .u32 c.nx], [.slice x.ao x.no x.co], [.int .i64 c.tn], [.int .u32 c.dl], [.slice x.ah x.nh x.ch]], 26⟩) rfl) ?_
  simp only [nrm]
  refine any_tk 5 (.slice x.ao x.no x.co) #[true, true, true, false, true, false, false, false, false, false, false, false, false, false] rfl (fun x_ hu => exec_csO _ (.tmp 13) rfl (w.heap.size) 1 (by kernel_rfl) x.ao x.no x.co (seg_cell (nC  _ _ _ _ _) hu 1 (v := .slice x.ao x.no x.co) rfl rfl)) (hB.get 0 (x := ⟨w.heap.size, fl [[.int .u32 c.nx], [.slice x.ao x.no x.co], [.int .i64 c.tn], [.int .u32 c.dl], [.slice x.ah x.nh x.ch]], 26⟩) rfl) ?_
  simp only [nrm]
  refine any_tk 6 (.int .i64 (x.no : Int)) #[true, true, true, false, true, true, false, false, false, false, false, false, false, false] rfl (fun x_ hu => by kernel_rfl) (hB.get 0 (x := ⟨w.heap.size, fl [[.int .u32 c.nx], [.slice x.ao x.no x.co], [.int .i64 c.tn], [.int .u32 c.dl], [.slice x.ah x.nh x.ch]], 26⟩) rfl) ?_
  simp only [nrm]
  refine any_tk 7 (.int .u8 (x.no : Int)) #[true, true, true, false, true, true, true, false, false, false, false, false, false, false] rfl (fun x_ hu => conv_u8 _ (.tmp 15) (x.no : Int) rfl (by kernel_rfl) (by omega)) (hB.get 0 (x := ⟨w.heap.size, fl [[.int .u32 c.nx], [.slice x.ao x.no x.co], [.int .i64 c.tn], [.int .u32 c.dl], [.slice x.ah x.nh x.ch]], 26⟩) rfl) ?_
  simp only [nrm]
  refine any_tk 8 (.pointer (some ⟨w.heap.size, 2, none⟩)) #[true, true, true, false, true, true, true, true, false, false, false, false, false, false] rfl (fun x_ hu => by kernel_rfl) (hB.get 0 (x := ⟨w.heap.size, fl [[.int .u32 c.nx], [.slice x.ao x.no x.co], [.int .i64 c.tn], [.int .u32 c.dl], [.slice x.ah x.nh x.ch]], 26⟩) rfl) ?_
  simp only [nrm]
  refine any_tk 9 (.int .i64 c.tn) #[true, true, true, false, true, true, true, true, true, false, false, false, false, false] rfl (fun x_ hu => exec_ci _ (.tmp 17) rfl (w.heap.size) 2 (by kernel_rfl) c.tn (seg_cell (nC  _ _ _ _ _) hu 2 (v := .int .i64 c.tn) rfl rfl)) (hB.get 0 (x := ⟨w.heap.size, fl [[.int .u32 c.nx], [.slice x.ao x.no x.co], [.int .i64 c.tn], [.int .u32 c.dl], [.slice x.ah x.nh x.ch]], 26⟩) rfl) ?_
  simp only [nrm]
  refine any_tk 10 (.int .u8 c.tn) #[true, true, true, false, true, true, true, true, true, true, false, false, false, false] rfl (fun x_ hu => conv_u8 _ (.tmp 18) c.tn rfl (by kernel_rfl) htn) (hB.get 0 (x := ⟨w.heap.size, fl [[.int .u32 c.nx], [.slice x.ao x.no x.co], [.int .i64 c.tn], [.int .u32 c.dl], [.slice x.ah x.nh x.ch]], 26⟩) rfl) ?_
  simp only [nrm]
  refine float_first (fun q u => Sl82 (x.no : Int) c.tn u q) 20 (fun b_ => #[true, true, true, false, true, true, true, true, true, true, true, b_, false, false]) 11 3 false rfl rfl (fun v_ g_ => g_.blk (hB.get 0 (x := ⟨w.heap.size, fl [[.int .u32 c.nx], [.slice x.ao x.no x.co], [.int .i64 c.tn], [.int .u32 c.dl], [.slice x.ah x.nh x.ch]], 26⟩) rfl)) (by kernel_rfl) (fun b_ => by cases b_ <;> rfl) ?_ ?_
  all_goals simp only [fw1, Act.put, List.setIfInBounds_toArray, List.set_cons_zero, List.set_cons_succ, List.getElem_toArray, List.getElem_cons_zero, List.getElem_cons_succ]
  · intro q_ x_ hgx K hK
    refine wpOp_step (o := _) rfl (fun K' hK' => ?_)
    replace hK' := hide hK'
    replace hK := hide hK
    refine step_val (.slice (some ⟨x_.heap.size, 0, none⟩) 2 2) (x_.alloc (.cells (kc [(x.no : Int), c.tn]) 5 (0, 0))) (by kernel_rfl) (exec_bsb2 _ (.tmp 16) (.tmp 19) rfl (x.no : Int) c.tn (by kernel_rfl) (by kernel_rfl)) ?_
    exact unhide hK' _ _ (unhide hK _ _ ((Gr.refl _).alloc _) (⟨_, rfl, blk_new _ _⟩))
  intro b1_3 q1_3 x1_3 hg hTq hall
  first | replace hO := hide ((unhide hO).gr hg) | skip
  replace hB := hB.more hg
  clear hg
  clear hall
  refine wpOp_step (o := _) rfl (fun K hK => ?_)
  replace hK := hide hK
  refine step_callw (by kernel_rfl) 44 #[.int .u64 c.nx, .int .i64 4] (by kernel_rfl) ((rlow_ok c.nx hnx.1 4 (by omega) x1_3).mono ?_)
  rintro r y1 ⟨v1, rfl, hO1, hg⟩
  refine ⟨_, rfl, ?_⟩
  replace hTq := fun e => Sl82.gr (hTq e) hg
  have hO := hide (ob_base hO1 hB.gr.size)
  replace hB := hB.more hg
  clear hO1 hg
  refine unhide hK _ _ ⟨(hB.get 0 (x := ⟨w.heap.size, fl [[.int .u32 c.nx], [.slice x.ao x.no x.co], [.int .i64 c.tn], [.int .u32 c.dl], [.slice x.ah x.nh x.ch]], 26⟩) rfl), ?_⟩
  clear hK K
  simp only [nrm]
  refine float_again (fun q u => Sl82 (x.no : Int) c.tn u q) 20 (fun b_ => #[true, true, true, true, true, true, true, true, true, true, true, b_, false, false]) 11 12 true (b := b1_3) (q := q1_3) rfl rfl hTq (fun v_ g_ => g_.blk (hB.get 0 (x := ⟨w.heap.size, fl [[.int .u32 c.nx], [.slice x.ao x.no x.co], [.int .i64 c.tn], [.int .u32 c.dl], [.slice x.ah x.nh x.ch]], 26⟩) rfl)) (by kernel_rfl) (fun b_ => by cases b_ <;> rfl) ?_ ?_
  all_goals simp only [fw1, Act.put, List.setIfInBounds_toArray, List.set_cons_zero, List.set_cons_succ, List.getElem_toArray, List.getElem_cons_zero, List.getElem_cons_succ]
  · intro q_ x_ hgx K hK
    refine wpOp_step (o := _) rfl (fun K' hK' => ?_)
    replace hK' := hide hK'
    replace hK := hide hK
    refine step_val (.slice (some ⟨x_.heap.size, 0, none⟩) 2 2) (x_.alloc (.cells (kc [(x.no : Int), c.tn]) 5 (0, 0))) (by kernel_rfl) (exec_bsb2 _ (.tmp 16) (.tmp 19) rfl (x.no : Int) c.tn (by kernel_rfl) (by kernel_rfl)) ?_
    exact unhide hK' _ _ (unhide hK _ _ ((Gr.refl _).alloc _) (⟨_, rfl, blk_new _ _⟩))
  clear hTq
  intro b1_12 q1_12 x1_12 hg hTq hall
  first | replace hO := hide ((unhide hO).gr hg) | skip
  replace hB := hB.more hg
  clear hg
  obtain rfl : b1_12 = true := hall (by trivial)
  replace hTq := hTq rfl
  clear hall
  obtain ⟨h8, rfl, h8b⟩ := hTq
  refine wpOp_step (o := _) rfl (fun K hK => ?_)
  replace hK := hide hK
  rw [if_pos (by kernel_rfl)]
  refine app_op (.tmp 12) (.tmp 20) rfl w.heap.size v1 (lowL c.nx 4) (by kernel_rfl) (unhide hO) (some ⟨h8, 0, none⟩) 2 2 [(x.no : Int), c.tn] (by kernel_rfl) rfl (.inr ⟨h8, 0, rfl, kc_at h8b⟩) (by simp [lowL_len]) hB.gr.size ?_
  intro v2 u2 hO9 hgr
  replace hB := hB.grownB (unhide hO) (Nat.le_refl _) hgr (by intro y_ hy_; simp only [List.mem_cons, List.not_mem_nil, or_false] at hy_; rcases hy_ with rfl <;> (dsimp only; decide))
  replace hO := hide hO9
  clear hO9 hgr h8b
  refine unhide hK _ _ ⟨(hB.get 0 (x := ⟨w.heap.size, fl [[.int .u32 c.nx], [.slice x.ao x.no x.co], [.int .i64 c.tn], [.int .u32 c.dl], [.slice x.ah x.nh x.ch]], 26⟩) rfl), ?_⟩
  clear hK K
  simp only [nrm]
  refine any_one (i := 13) (by kernel_rfl) rfl (fun K hK => ?_)
  replace hK := hide hK
  go_simp
  refine (unhide hK).out _ _ (hB.get 0 (x := ⟨w.heap.size, fl [[.int .u32 c.nx], [.slice x.ao x.no x.co], [.int .i64 c.tn], [.int .u32 c.dl], [.slice x.ah x.nh x.ch]], 26⟩) rfl) (fun _ => ?_)
  clear hK K
  refine any_done (by kernel_rfl) ?_
  obtain ⟨A1, hA1⟩ : ∃ A, A = lowL c.nx 4 ++ [(x.no : Int), c.tn] := ⟨_, rfl⟩
  have hAl : A1.length = 6 := by rw [hA1]; simp [lowL_len]
  have hAB : IsB A1 := by rw [hA1]; exact isB_app (lowL_isB _ _) (isB_2 (by omega) htn)
  rw [← hA1] at hO
  obtain ⟨X, hX⟩ : ∃ X, X = bodL c.O c.O.length := ⟨_, rfl⟩
  have hXl : X.length = 420 := by rw [hX]; exact bodL_len (unhide hOk) (Nat.le_refl _) hO4
  have hXB : IsB X := by rw [hX]; exact bodL_isB (unhide hOk) _
  replace hA1 := hide hA1; replace hAB := hide hAB; replace hX := hide hX; replace hXB := hide hXB
  have e0 : A1 = A1 ++ X.take (105 * 0) := by simp
  rw [e0] at hO
  clear e0
  replace hB := hide hB
  go_upto_region 2 with fail
  replace hB := unhide hB
  refine wp_region_lit ?_
  (refine wpList_step fun K hK => ?_; replace hK := hide hK; go_simp; refine unhide hK _ _ ?_; clear hK K)
  refine wpList_nil ?_
  replace hB := hide hB
  go_wp2_with fail
  go_loopw [3, 4] (fun v i wr => ∃ (j : Nat) (v' : Value), j ≤ 4 ∧ v' = v ∧ i = .int .i64 (j : Int) ∧ Hid (Ob w.heap.size wr v' (A1 ++ X.take (105 * j))) ∧ Hid (Bl w [⟨w.heap.size, fl [[.int .u32 c.nx], [.slice x.ao x.no x.co], [.int .i64 c.tn], [.int .u32 c.dl], [.slice x.ah x.nh x.ch]], 26⟩] wr)) (fun v i _ => 4 - (intOf i).toNat)
  case atStart => exact ⟨0, _, by omega, rfl, rfl, hO, hB⟩
  case round =>
  clear hB hO
  obtain ⟨j, v', hj, rfl, rfl, hO, hB⟩ := hrel
  have hB := unhide hB
  by_cases hlt : j < 4
  · have jI : (j : Int) < 4 := by omega
    obtain ⟨Y, hY⟩ : ∃ Y, Y = (X.drop (105 * j)).take 105 := ⟨_, rfl⟩
    have hYl : Y.length = 105 := by rw [hY, List.length_take, List.length_drop]; omega
    have hXj : X.take (105 * j) ++ Y = X.take (105 * (j + 1)) := by rw [hY, ← List.take_add]; congr 1
    have hXt : (X.take (105 * j)).length = 105 * j := by rw [List.length_take]; omega
    replace hXj := hide hXj; replace hYl := hide hYl
    replace hB := hide hB
    go_upto_region 5 with fail
    replace hB := unhide hB
    refine wp_region_lit ?_
    refine list_valw (.pointer (some ⟨wr.heap.size, 0, none⟩)) (wr.alloc (.cells (fl [bw Z105]) 27 (0, 0))) (by kernel_rfl) (by kernel_rfl) ?_
    replace hB := hB.new (fl [bw Z105]) 27
    simp only [List.nil_append, List.cons_append] at hB
    have hg := (Gr.refl wr).alloc (.cells (fl [bw Z105]) 27 (0, 0))
    replace hO := hide ((unhide hO).gr hg)
    clear hg
    generalize World.alloc _ _ = u3 at *
    generalize wr.heap.size = g5 at *
    simp only [nrm]
    refine wpList_nil ?_
    by_cases hjn : j < x.no
    · have jn : (j : Int) < (x.no : Int) := by omega
      obtain ⟨s, hsj⟩ : ∃ s, c.O[j]? = some s := ⟨_, List.getElem?_eq_getElem (by omega)⟩
      obtain ⟨p, o, ha, hr⟩ := ((unhide hc).gr hB.gr).o.at_ j s hsj
      have hok := (unhide hOk) s (List.mem_of_getElem? hsj)
      have hYs : s.B = Y := by rw [hY, unhide hX]; exact (bod_atO (unhide hOk) hO4 hsj).symm
      clear hY
      replace hsj := hide hsj; replace ha := hide ha; replace hr := hide hr; replace hok := hide hok; replace hYs := hide hYs
      replace hB := hide hB
      go_upto_region 6 with fail
      replace hB := unhide hB
      refine wp_region_lit ?_
      refine lvk (.int .i64 (j : Int)) ?_
      simp only [nrm]
      refine lvk (.pointer (some ⟨w.heap.size, 1, none⟩)) ?_
      simp only [nrm]
      refine list_val (.slice x.ao x.no x.co) (by kernel_rfl) (exec_csO _ (.tmp 27) rfl (w.heap.size) 1 (by kernel_rfl) x.ao x.no x.co (seg_cell (nC  _ _ _ _ _) (hB.get 0 (x := ⟨w.heap.size, fl [[.int .u32 c.nx], [.slice x.ao x.no x.co], [.int .i64 c.tn], [.int .u32 c.dl], [.slice x.ah x.nh x.ch]], 26⟩) rfl) 1 (v := .slice x.ao x.no x.co) rfl rfl)) ?_
      simp only [nrm]
      refine lvk (.int .i64 (x.no : Int)) ?_
      simp only [nrm]
      refine list_val (.bool true) (by kernel_rfl) (lss_i _ (.tmp 26) (.tmp 29) (j : Int) (x.no : Int) true rfl (by kernel_rfl) (by kernel_rfl) (decide_eq_true jn)) ?_
      simp only [nrm]
      refine wpList_nil ?_
      replace hB := hide hB
      go_upto_region 7 with fail
      replace hB := unhide hB
      refine wp_region_lit ?_
      refine lvk (.pointer (some ⟨w.heap.size, 1, none⟩)) ?_
      simp only [nrm]
      refine list_val (.slice x.ao x.no x.co) (by kernel_rfl) (exec_csO _ (.tmp 31) rfl (w.heap.size) 1 (by kernel_rfl) x.ao x.no x.co (seg_cell (nC  _ _ _ _ _) (hB.get 0 (x := ⟨w.heap.size, fl [[.int .u32 c.nx], [.slice x.ao x.no x.co], [.int .i64 c.tn], [.int .u32 c.dl], [.slice x.ah x.nh x.ch]], 26⟩) rfl) 1 (v := .slice x.ao x.no x.co) rfl rfl)) ?_
      simp only [nrm]
      refine lvk (.int .i64 (j : Int)) ?_
      simp only [nrm]
      refine list_val (.pointer (some ⟨p, o + 106 * j, none⟩)) (by kernel_rfl) (exec_iso _ (.tmp 32) (.tmp 33) rfl p o x.no x.co j (by rw [← unhide ha]; kernel_rfl) (by kernel_rfl) hjn) ?_
      simp only [nrm]
      refine lvk (.pointer (some ⟨p, o + 106 * j + 1, none⟩)) ?_
      simp only [nrm]
      refine list_val (.agg (fl [bw Y])) (by kernel_rfl) (by rw [← unhide hYs]; exact exec_lbR _ (.tmp 35) rfl p (o + 106 * j) (by kernel_rfl) s (unhide hok).2.1 (unhide hr)) ?_
      simp only [nrm]
      have hzz_ : Hid (u3.heap[g5]? = some (.cells (fl [bw Z105]) 27 (0, 0))) := hide (hB.get 1 (x := ⟨g5, fl [bw Z105], 27⟩) rfl)
      refine list_all 27 (.tmp 5) (.tmp 36) (g5) (S2 := [bw Y]) (by kernel_rfl) rfl (by kernel_rfl) (by kernel_rfl) hB 1 rfl NY (nY Z105_len) (nY (unhide hYl)) (by kernel_rfl) (oY _) ?_
      intro u4 hB_ hbt_
      clear hB
      replace hB : Bl w [⟨w.heap.size, fl [[.int .u32 c.nx], [.slice x.ao x.no x.co], [.int .i64 c.tn], [.int .u32 c.dl], [.slice x.ah x.nh x.ch]], 26⟩, ⟨g5, fl [bw Y], 27⟩] u4 := hB_
      clear hB_
      replace hO := hide ((unhide hO).bz (unhide hzz_) hbt_)
      clear hbt_ hzz_
      simp only [nrm]
      refine wpList_nil ?_
      clear hsj ha hr hok hYs
      replace hB := hide hB
      go_upto_region 8 with fail
      replace hB := unhide hB
      refine wp_region_lit ?_
      refine lvk v' ?_
      simp only [nrm]
      refine lvk (.slice (some ⟨g5, 0, none⟩) 105 105) ?_
      simp only [nrm]
      refine app_bs (by kernel_rfl) (.tmp 37) (.tmp 38) rfl w.heap.size (v') (A1 ++ X.take (105 * j)) (by kernel_rfl) (unhide hO) (some ⟨g5, 0, none⟩) 105 105 (Y) (by kernel_rfl) (unhide hYl) (.inr ⟨g5, 0, rfl, kc_at (by have h9 := hB.get 1 (x := ⟨g5, fl [bw Y], 27⟩) rfl; rw [show kc Y = fl [bw Y] by simp [fl, bw, kc]]; exact h9)⟩) (by rw [List.length_append, hAl, hXt]; omega) hB.gr.size ?_
      intro v3 u5 hO9 hgr
      replace hB := hB.grownB (unhide hO) (Nat.le_refl _) hgr (by intro y_ hy_; simp only [List.mem_cons, List.not_mem_nil, or_false] at hy_; rcases hy_ with rfl | rfl <;> (dsimp only; decide))
      replace hO := hide hO9
      clear hO9 hgr
      simp only [nrm]
      (refine wpList_step fun K hK => ?_; replace hK := hide hK; go_simp; refine unhide hK _ _ ?_; clear hK K)
      refine wpList_nil ?_
      rw [List.append_assoc, unhide hXj] at hO
      replace hB := Bl.left (L := [⟨w.heap.size, fl [[.int .u32 c.nx], [.slice x.ao x.no x.co], [.int .i64 c.tn], [.int .u32 c.dl], [.slice x.ah x.nh x.ch]], 26⟩]) (M := [⟨g5, fl [bw Y], 27⟩]) hB
      have jw : IntKind.i64.wrap ((j : Int) + 1) = (j : Int) + 1 := by rw [IntKind.wrap_i64]; omega
      replace hB := hide hB
      clear hXj hYl hXt
      go_wp2_with fail
      go_roundw
      case rel => exact ⟨j + 1, v3, by omega, rfl, by simp, hO, hB⟩
      case measure => simp [intOf]; omega
    · have jn : ¬ (j : Int) < (x.no : Int) := by omega
      have hYs : Z105 = Y := by rw [hY, unhide hX]; exact (bodL_no (unhide hOk) hO4 (by omega) hlt).symm
      clear hY
      replace hB := hide hB
      go_upto_region 6 with fail
      replace hB := unhide hB
      refine wp_region_lit ?_
      refine lvk (.int .i64 (j : Int)) ?_
      simp only [nrm]
      refine lvk (.pointer (some ⟨w.heap.size, 1, none⟩)) ?_
      simp only [nrm]
      refine list_val (.slice x.ao x.no x.co) (by kernel_rfl) (exec_csO _ (.tmp 27) rfl (w.heap.size) 1 (by kernel_rfl) x.ao x.no x.co (seg_cell (nC  _ _ _ _ _) (hB.get 0 (x := ⟨w.heap.size, fl [[.int .u32 c.nx], [.slice x.ao x.no x.co], [.int .i64 c.tn], [.int .u32 c.dl], [.slice x.ah x.nh x.ch]], 26⟩) rfl) 1 (v := .slice x.ao x.no x.co) rfl rfl)) ?_
      simp only [nrm]
      refine lvk (.int .i64 (x.no : Int)) ?_
      simp only [nrm]
      refine list_val (.bool false) (by kernel_rfl) (lss_i _ (.tmp 26) (.tmp 29) (j : Int) (x.no : Int) false rfl (by kernel_rfl) (by kernel_rfl) (decide_eq_false jn)) ?_
      simp only [nrm]
      refine wpList_nil ?_
      rw [hYs] at hB
      clear hYs
      replace hB := hide hB
      go_upto_region 8 with fail
      replace hB := unhide hB
      refine wp_region_lit ?_
      refine lvk v' ?_
      simp only [nrm]
      refine lvk (.slice (some ⟨g5, 0, none⟩) 105 105) ?_
      simp only [nrm]
      refine app_bs (by kernel_rfl) (.tmp 37) (.tmp 38) rfl w.heap.size (v') (A1 ++ X.take (105 * j)) (by kernel_rfl) (unhide hO) (some ⟨g5, 0, none⟩) 105 105 (Y) (by kernel_rfl) (unhide hYl) (.inr ⟨g5, 0, rfl, kc_at (by have h9 := hB.get 1 (x := ⟨g5, fl [bw Y], 27⟩) rfl; rw [show kc Y = fl [bw Y] by simp [fl, bw, kc]]; exact h9)⟩) (by rw [List.length_append, hAl, hXt]; omega) hB.gr.size ?_
      intro v3 u4 hO9 hgr
      replace hB := hB.grownB (unhide hO) (Nat.le_refl _) hgr (by intro y_ hy_; simp only [List.mem_cons, List.not_mem_nil, or_false] at hy_; rcases hy_ with rfl | rfl <;> (dsimp only; decide))
      replace hO := hide hO9
      clear hO9 hgr
      simp only [nrm]
      (refine wpList_step fun K hK => ?_; replace hK := hide hK; go_simp; refine unhide hK _ _ ?_; clear hK K)
      refine wpList_nil ?_
      rw [List.append_assoc, unhide hXj] at hO
      replace hB := Bl.left (L := [⟨w.heap.size, fl [[.int .u32 c.nx], [.slice x.ao x.no x.co], [.int .i64 c.tn], [.int .u32 c.dl], [.slice x.ah x.nh x.ch]], 26⟩]) (M := [⟨g5, fl [bw Y], 27⟩]) hB
      have jw : IntKind.i64.wrap ((j : Int) + 1) = (j : Int) + 1 := by rw [IntKind.wrap_i64]; omega
      replace hB := hide hB
      clear hXj hYl hXt
      go_wp2_with fail
      go_roundw
      case rel => exact ⟨j + 1, v3, by omega, rfl, by simp, hO, hB⟩
      case measure => simp [intOf]; omega
  · have jI : ¬ (j : Int) < 4 := by omega
    obtain rfl : j = 4 := by omega
    rw [show X.take (105 * 4) = X from List.take_of_length_le (by omega)] at hO
    obtain ⟨A2, hA2⟩ : ∃ A, A = A1 ++ X := ⟨_, rfl⟩
    have hAl2 : A2.length = 426 := by rw [hA2, List.length_append]; omega
    have hAB2 : IsB A2 := by rw [hA2]; exact isB_app (unhide hAB) (unhide hXB)
    rw [← hA2] at hO
    replace hA2 := hide hA2; replace hAB2 := hide hAB2
    replace hB := hide hB
    go_upto_region 9 with fail
    replace hB := unhide hB
    refine wp_region_lit ?_
    refine lvk v' ?_
    simp only [nrm]
    refine lvk (.pointer (some ⟨w.heap.size, 3, none⟩)) ?_
    simp only [nrm]
    refine list_val (.int .u32 c.dl) (by kernel_rfl) (exec_c32 _ (.tmp 41) rfl (w.heap.size) 3 (by kernel_rfl) c.dl (seg_cell (nC  _ _ _ _ _) (hB.get 0 (x := ⟨w.heap.size, fl [[.int .u32 c.nx], [.slice x.ao x.no x.co], [.int .i64 c.tn], [.int .u32 c.dl], [.slice x.ah x.nh x.ch]], 26⟩) rfl) 3 (v := .int .u32 c.dl) rfl rfl)) ?_
    simp only [nrm]
    refine list_val (.int .u64 c.dl) (by kernel_rfl) (conv_3264 _ (.tmp 42) c.dl rfl (by kernel_rfl) hdl) ?_
    simp only [nrm]
    refine list_call 44 #[.int .u64 c.dl, .int .i64 4] (by kernel_rfl) (by kernel_rfl) (((show Calls Try.prog 44 #[.int .u64 c.dl, .int .i64 4] wr (fun r w' => ∃ v, r = .returned v ∧ Ob w.heap.size w' v (lowL c.dl 4) ∧ Gr wr w') from (rlow_ok c.dl hdl.1 4 (by omega) wr).mono fun r w' h9 => (by obtain ⟨v, q1, q2, q3⟩ := h9; exact ⟨v, q1, ob_base q2 hB.gr.size, q3⟩))).mono ?_)
    rintro r_ u5 ⟨v4, rfl, hO4_, hg⟩
    replace hO := hide ((unhide hO).gr hg)
    replace hB := hB.more hg
    clear hg
    replace hO4_ := hide hO4_
    refine ⟨_, rfl, ?_⟩
    simp only [nrm]
    obtain ⟨a9, c9, e9, -, -, hsl9⟩ := (unhide hO4_).slice
    rw [lowL_len] at e9
    refine app_bs (by kernel_rfl) (.tmp 40) (.tmp 44) rfl w.heap.size (v') (A2) (by kernel_rfl) (unhide hO) a9 4 c9 (lowL c.dl 4) (by rw [← e9]; kernel_rfl) (lowL_len _ _) hsl9 (by omega) hB.gr.size ?_
    intro v5 u6 hO9 hgr
    replace hB := hB.grownB (unhide hO) (Nat.le_refl _) hgr (by intro y_ hy_; simp only [List.mem_cons, List.not_mem_nil, or_false] at hy_; rcases hy_ with rfl <;> (dsimp only; decide))
    replace hO := hide hO9
    clear hO9 hgr hsl9 e9 hO4_
    simp only [nrm]
    (refine wpList_step fun K hK => ?_; replace hK := hide hK; go_simp; refine unhide hK _ _ ?_; clear hK K)
    refine wpList_nil ?_
    replace hB := hide hB
    go_upto_region 10 with fail
    replace hB := unhide hB
    refine wp_region_lit ?_
    refine lvk v5 ?_
    simp only [nrm]
    refine lvk (.pointer (some ⟨w.heap.size, 4, none⟩)) ?_
    simp only [nrm]
    refine list_val (.slice x.ah x.nh x.ch) (by kernel_rfl) (exec_csI _ (.tmp 47) rfl (w.heap.size) 4 (by kernel_rfl) x.ah x.nh x.ch (seg_cell (nC  _ _ _ _ _) (hB.get 0 (x := ⟨w.heap.size, fl [[.int .u32 c.nx], [.slice x.ao x.no x.co], [.int .i64 c.tn], [.int .u32 c.dl], [.slice x.ah x.nh x.ch]], 26⟩) rfl) 4 (v := .slice x.ah x.nh x.ch) rfl rfl)) ?_
    simp only [nrm]
    refine lvk (.int .i64 (x.nh : Int)) ?_
    simp only [nrm]
    refine list_val (.int .u8 (x.nh : Int)) (by kernel_rfl) (conv_u8 _ (.tmp 49) (x.nh : Int) rfl (by kernel_rfl) (by omega)) ?_
    simp only [nrm]
    refine list_valw (.slice (some ⟨u6.heap.size, 0, none⟩) 1 1) (u6.alloc (.cells (kc [(x.nh : Int)]) 5 (0, 0))) (by kernel_rfl) (exec_bsb _ (.tmp 50) rfl (x.nh : Int) (by kernel_rfl)) ?_
    have hS := hide (blk_new u6 (.cells (kc [(x.nh : Int)]) 5 (0, 0)))
    have hg := (Gr.refl u6).alloc (.cells (kc [(x.nh : Int)]) 5 (0, 0))
    replace hO := hide ((unhide hO).gr hg)
    replace hB := hB.more hg
    clear hg
    generalize World.alloc _ _ = u7 at *
    generalize u6.heap.size = gs51 at *
    simp only [nrm]
    refine app_bs (by kernel_rfl) (.tmp 46) (.tmp 51) rfl w.heap.size (v5) (A2 ++ lowL c.dl 4) (by kernel_rfl) (unhide hO) (some ⟨gs51, 0, none⟩) 1 1 ([(x.nh : Int)]) (by kernel_rfl) rfl (.inr ⟨gs51, 0, rfl, kc_at (unhide hS)⟩) (by rw [List.length_append, lowL_len]; omega) hB.gr.size ?_
    intro v6 u8 hO9 hgr
    replace hB := hB.grownB (unhide hO) (Nat.le_refl _) hgr (by intro y_ hy_; simp only [List.mem_cons, List.not_mem_nil, or_false] at hy_; rcases hy_ with rfl <;> (dsimp only; decide))
    replace hO := hide hO9
    clear hO9 hgr
    simp only [nrm]
    (refine wpList_step fun K hK => ?_; replace hK := hide hK; go_simp; refine unhide hK _ _ ?_; clear hK K)
    refine wpList_nil ?_
    clear hS
    obtain ⟨A3, hA3⟩ : ∃ A, A = A2 ++ lowL c.dl 4 ++ [(x.nh : Int)] := ⟨_, rfl⟩
    have hAl3 : A3.length = 431 := by rw [hA3]; simp [lowL_len]; omega
    have hAB3 := hide (show IsB A3 from by rw [hA3]; exact isB_app (isB_app (unhide hAB2) (lowL_isB _ _)) (isB_1 (by omega)))
    rw [← hA3] at hO
    replace hA3 := hide hA3
    have e0 : A3 = A3 ++ (((fil3 c.H).take 0).map inB).flatten := by simp
    rw [e0] at hO
    clear e0
    have hF := hide (fil3_ok (unhide hHk) (unhide hsz))
    have hFl := fil3_len hH3
    replace hB := hide hB
    go_upto_region 11 with fail
    replace hB := unhide hB
    refine wp_region_lit ?_
    (refine wpList_step fun K hK => ?_; replace hK := hide hK; go_simp; refine unhide hK _ _ ?_; clear hK K)
    refine wpList_nil ?_
    replace hB := hide hB
    go_wp2_with fail
    go_loopw [3, 6] (fun v i wr => ∃ (j : Nat) (v' : Value), j ≤ 3 ∧ v' = v ∧ i = .int .i64 (j : Int) ∧ Hid (Ob w.heap.size wr v' (A3 ++ (((fil3 c.H).take j).map inB).flatten)) ∧ Hid (Bl w [⟨w.heap.size, fl [[.int .u32 c.nx], [.slice x.ao x.no x.co], [.int .i64 c.tn], [.int .u32 c.dl], [.slice x.ah x.nh x.ch]], 26⟩] wr)) (fun v i _ => 3 - (intOf i).toNat)
    case atStart => exact ⟨0, _, by omega, rfl, rfl, hO, hB⟩
    case round =>
    clear hB hO
    obtain ⟨j, v', hj, rfl, rfl, hO, hB⟩ := hrel
    have hB := unhide hB
    by_cases hlt : j < 3
    · have jI : (j : Int) < 3 := by omega
      obtain ⟨s, hsj⟩ : ∃ s, (fil3 c.H)[j]? = some s := ⟨_, List.getElem?_eq_getElem (by omega)⟩
      have hsk := (unhide hF) s (List.mem_of_getElem? hsj)
      have hsz9 := hsk.2
      have hnx9 : (((fil3 c.H).take j).map inB).flatten ++ inB s = (((fil3 c.H).take (j + 1)).map inB).flatten := by rw [List.take_add_one, hsj]; simp
      have htk : ∀ t ∈ (fil3 c.H).take j, t.s.size ≤ 48 := fun t ht => ((unhide hF) t (List.mem_of_mem_take ht)).2
      have hFj := hel_len htk
      rw [List.length_take, hFl, Nat.min_eq_left hj] at hFj
      have hend : (A3 ++ (((fil3 c.H).take j).map inB).flatten) ++ inB s = A3 ++ (((fil3 c.H).take (j + 1)).map inB).flatten := by rw [List.append_assoc, hnx9]
      have hLB : IsB (A3 ++ (((fil3 c.H).take j).map inB).flatten) := isB_app (unhide hAB3) (hel_isB htk)
      have hLl : (A3 ++ (((fil3 c.H).take j).map inB).flatten).length = 431 + 53 * j := by rw [List.length_append]; omega
      generalize A3 ++ (((fil3 c.H).take j).map inB).flatten = G at *
      replace hsk := hide hsk; replace hend := hide hend
      clear hFj hnx9 htk
      replace hB := hide hB
      go_upto_region 14 with fail
      replace hB := unhide hB
      refine wp_region_lit ?_
      refine list_valw (.pointer (some ⟨wr.heap.size, 0, none⟩)) (wr.alloc (.cells (fl [[.int .u32 0], [.string ByteArray.empty]]) 47 (0, 0))) (by kernel_rfl) (by kernel_rfl) ?_
      replace hB := hB.new (fl [[.int .u32 0], [.string ByteArray.empty]]) 47
      simp only [List.nil_append, List.cons_append] at hB
      have hg := (Gr.refl wr).alloc (.cells (fl [[.int .u32 0], [.string ByteArray.empty]]) 47 (0, 0))
      replace hO := hide ((unhide hO).gr hg)
      clear hg
      generalize World.alloc _ _ = u9 at *
      generalize wr.heap.size = g7 at *
      simp only [nrm]
      refine wpList_nil ?_
      by_cases hjn : j < x.nh
      · have jn : (j : Int) < (x.nh : Int) := by omega
        have hsj2 : c.H[j]? = some s := by
          unfold fil3 at hsj
          rwa [List.getElem?_append_left (by omega)] at hsj
        obtain ⟨p, o, ha, hr⟩ := ((unhide hc).gr hB.gr).h.at_ j s hsj2
        clear hsj hsj2
        replace ha := hide ha; replace hr := hide hr
        replace hB := hide hB
        go_upto_region 15 with fail
        replace hB := unhide hB
        refine wp_region_lit ?_
        refine lvk (.int .i64 (j : Int)) ?_
        simp only [nrm]
        refine lvk (.pointer (some ⟨w.heap.size, 4, none⟩)) ?_
        simp only [nrm]
        refine list_val (.slice x.ah x.nh x.ch) (by kernel_rfl) (exec_csI _ (.tmp 58) rfl (w.heap.size) 4 (by kernel_rfl) x.ah x.nh x.ch (seg_cell (nC  _ _ _ _ _) (hB.get 0 (x := ⟨w.heap.size, fl [[.int .u32 c.nx], [.slice x.ao x.no x.co], [.int .i64 c.tn], [.int .u32 c.dl], [.slice x.ah x.nh x.ch]], 26⟩) rfl) 4 (v := .slice x.ah x.nh x.ch) rfl rfl)) ?_
        simp only [nrm]
        refine lvk (.int .i64 (x.nh : Int)) ?_
        simp only [nrm]
        refine list_val (.bool true) (by kernel_rfl) (lss_i _ (.tmp 57) (.tmp 60) (j : Int) (x.nh : Int) true rfl (by kernel_rfl) (by kernel_rfl) (decide_eq_true jn)) ?_
        simp only [nrm]
        refine wpList_nil ?_
        replace hB := hide hB
        go_upto_region 16 with fail
        replace hB := unhide hB
        refine wp_region_lit ?_
        refine lvk (.pointer (some ⟨w.heap.size, 4, none⟩)) ?_
        simp only [nrm]
        refine list_val (.slice x.ah x.nh x.ch) (by kernel_rfl) (exec_csI _ (.tmp 62) rfl (w.heap.size) 4 (by kernel_rfl) x.ah x.nh x.ch (seg_cell (nC  _ _ _ _ _) (hB.get 0 (x := ⟨w.heap.size, fl [[.int .u32 c.nx], [.slice x.ao x.no x.co], [.int .i64 c.tn], [.int .u32 c.dl], [.slice x.ah x.nh x.ch]], 26⟩) rfl) 4 (v := .slice x.ah x.nh x.ch) rfl rfl)) ?_
        simp only [nrm]
        refine lvk (.int .i64 (j : Int)) ?_
        simp only [nrm]
        refine list_val (.pointer (some ⟨p, o + 2 * j, none⟩)) (by kernel_rfl) (exec_isi _ (.tmp 63) (.tmp 64) rfl p o x.nh x.ch j (by rw [← unhide ha]; kernel_rfl) (by kernel_rfl) hjn) ?_
        simp only [nrm]
        refine list_val (.agg (fl [[.int .u32 s.n], [.string s.s]])) (by kernel_rfl) (exec_li _ (.tmp 65) rfl p (o + 2 * j) (by kernel_rfl) s (unhide hr)) ?_
        simp only [nrm]
        have hzz_ : Hid (u9.heap[g7]? = some (.cells (fl [[.int .u32 0], [.string ByteArray.empty]]) 47 (0, 0))) := hide (hB.get 1 (x := ⟨g7, fl [[.int .u32 0], [.string ByteArray.empty]], 47⟩) rfl)
        refine list_all 47 (.tmp 7) (.tmp 66) (g7) (S2 := [[.int .u32 s.n], [.string s.s]]) (by kernel_rfl) rfl (by kernel_rfl) (by kernel_rfl) hB 1 rfl NI (nI  _ _) (nI  _ _) (by kernel_rfl) (oI  rfl rfl) ?_
        intro u10 hB_ hbt_
        clear hB
        replace hB : Bl w [⟨w.heap.size, fl [[.int .u32 c.nx], [.slice x.ao x.no x.co], [.int .i64 c.tn], [.int .u32 c.dl], [.slice x.ah x.nh x.ch]], 26⟩, ⟨g7, fl [[.int .u32 s.n], [.string s.s]], 47⟩] u10 := hB_
        clear hB_
        replace hO := hide ((unhide hO).bz (unhide hzz_) hbt_)
        clear hbt_ hzz_
        simp only [nrm]
        refine wpList_nil ?_
        clear ha hr
        have hsn := (unhide hsk).1.1
        replace hB := hide hB
        go_upto_region 17 with fail
        replace hB := unhide hB
        refine wp_region_lit ?_
        refine lvk v' ?_
        simp only [nrm]
        refine lvk (.pointer (some ⟨g7, 0, none⟩)) ?_
        simp only [nrm]
        refine list_val (.int .u32 s.n) (by kernel_rfl) (exec_c32 _ (.tmp 68) rfl (g7) 0 (by kernel_rfl) s.n (seg_cell (nI  _ _) (hB.get 1 (x := ⟨g7, fl [[.int .u32 s.n], [.string s.s]], 47⟩) rfl) 0 (v := .int .u32 s.n) rfl rfl)) ?_
        simp only [nrm]
        refine list_val (.int .u64 s.n) (by kernel_rfl) (conv_3264 _ (.tmp 69) s.n rfl (by kernel_rfl) hsn) ?_
        simp only [nrm]
        refine list_call 44 #[.int .u64 s.n, .int .i64 4] (by kernel_rfl) (by kernel_rfl) (((show Calls Try.prog 44 #[.int .u64 s.n, .int .i64 4] u10 (fun r w' => ∃ v, r = .returned v ∧ Ob w.heap.size w' v (lowL s.n 4) ∧ Gr u10 w') from (rlow_ok s.n hsn.1 4 (by omega) u10).mono fun r w' h9 => (by obtain ⟨v, q1, q2, q3⟩ := h9; exact ⟨v, q1, ob_base q2 hB.gr.size, q3⟩))).mono ?_)
        rintro r_ u11 ⟨v6, rfl, hO6_, hg⟩
        replace hO := hide ((unhide hO).gr hg)
        replace hB := hB.more hg
        clear hg
        replace hO6_ := hide hO6_
        refine ⟨_, rfl, ?_⟩
        simp only [nrm]
        obtain ⟨a9, c9, e9, -, -, hsl9⟩ := (unhide hO6_).slice
        rw [lowL_len] at e9
        refine app_bs (by kernel_rfl) (.tmp 67) (.tmp 71) rfl w.heap.size (v') (G) (by kernel_rfl) (unhide hO) a9 4 c9 (lowL s.n 4) (by rw [← e9]; kernel_rfl) (lowL_len _ _) hsl9 (by omega) hB.gr.size ?_
        intro v7 u12 hO9 hgr
        replace hB := hB.grownB (unhide hO) (Nat.le_refl _) hgr (by intro y_ hy_; simp only [List.mem_cons, List.not_mem_nil, or_false] at hy_; rcases hy_ with rfl | rfl <;> (dsimp only; decide))
        replace hO := hide hO9
        clear hO9 hgr hsl9 e9 hO6_
        simp only [nrm]
        (refine wpList_step fun K hK => ?_; replace hK := hide hK; go_simp; refine unhide hK _ _ ?_; clear hK K)
        refine wpList_nil ?_
        replace hB := hide hB
        go_upto_region 18 with fail
        replace hB := unhide hB
        refine wp_region_lit ?_
        refine lvk v7 ?_
        simp only [nrm]
        refine lvk (.pointer (some ⟨g7, 1, none⟩)) ?_
        simp only [nrm]
        refine list_val (.string s.s) (by kernel_rfl) (exec_cst _ (.tmp 74) rfl (g7) 1 (by kernel_rfl) s.s (seg_cell (nI  _ _) (hB.get 1 (x := ⟨g7, fl [[.int .u32 s.n], [.string s.s]], 47⟩) rfl) 1 (v := .string s.s) rfl rfl)) ?_
        simp only [nrm]
        refine list_val (.int .i64 (s.s.size : Int)) (by kernel_rfl) (len_st _ (.tmp 75) s.s (by omega) rfl (by kernel_rfl)) ?_
        simp only [nrm]
        refine list_val (.int .u8 (s.s.size : Int)) (by kernel_rfl) (conv_u8 _ (.tmp 76) (s.s.size : Int) rfl (by kernel_rfl) (by omega)) ?_
        simp only [nrm]
        refine list_valw (.slice (some ⟨u12.heap.size, 0, none⟩) 1 1) (u12.alloc (.cells (kc [(s.s.size : Int)]) 5 (0, 0))) (by kernel_rfl) (exec_bsb _ (.tmp 77) rfl (s.s.size : Int) (by kernel_rfl)) ?_
        have hS := hide (blk_new u12 (.cells (kc [(s.s.size : Int)]) 5 (0, 0)))
        have hg := (Gr.refl u12).alloc (.cells (kc [(s.s.size : Int)]) 5 (0, 0))
        replace hO := hide ((unhide hO).gr hg)
        replace hB := hB.more hg
        clear hg
        generalize World.alloc _ _ = u13 at *
        generalize u12.heap.size = gs78 at *
        simp only [nrm]
        refine app_bs (by kernel_rfl) (.tmp 73) (.tmp 78) rfl w.heap.size (v7) (G ++ lowL s.n 4) (by kernel_rfl) (unhide hO) (some ⟨gs78, 0, none⟩) 1 1 ([(s.s.size : Int)]) (by kernel_rfl) rfl (.inr ⟨gs78, 0, rfl, kc_at (unhide hS)⟩) (by rw [List.length_append, lowL_len]; omega) hB.gr.size ?_
        intro v8 u14 hO9 hgr
        replace hB := hB.grownB (unhide hO) (Nat.le_refl _) hgr (by intro y_ hy_; simp only [List.mem_cons, List.not_mem_nil, or_false] at hy_; rcases hy_ with rfl | rfl <;> (dsimp only; decide))
        replace hO := hide hO9
        clear hO9 hgr
        simp only [nrm]
        (refine wpList_step fun K hK => ?_; replace hK := hide hK; go_simp; refine unhide hK _ _ ?_; clear hK K)
        refine wpList_nil ?_
        clear hS
        have hGl : (G ++ lowL s.n 4 ++ [(s.s.size : Int)]).length = 436 + 53 * j := by simp [lowL_len]; omega
        have hGB : IsB (G ++ lowL s.n 4 ++ [(s.s.size : Int)]) := isB_app (isB_app hLB (lowL_isB _ _)) (isB_1 (by omega))
        replace hB := hide hB
        go_upto_region 19 with fail
        replace hB := unhide hB
        refine wp_region_lit ?_
        refine wpList_step fun K hK => ?_
        rw [if_pos (by kernel_rfl)]
        refine make_op (.const (.int .i64 48)) (.const (.int .i64 48)) rfl 48 48 rfl rfl (by omega) (by omega) ?_
        refine hK _ _ ?_
        clear hK K
        obtain ⟨a7, c7, rfl, -⟩ := ob_lb (unhide hO) hGB hGl
        have hnb := or_new (ob_or (unhide hO))
        have hS := hide (blk_new u14 (.cells (kc (List.replicate 48 0)) 5 (0, 0)))
        have hg := (Gr.refl u14).alloc (.cells (kc (List.replicate 48 0)) 5 (0, 0))
        have hlt8 : w.heap.size ≤ u14.heap.size := hB.gr.size
        replace hO := hide ((unhide hO).gr hg)
        replace hB := hB.more hg
        clear hg
        generalize World.alloc _ _ = u15 at *
        generalize u14.heap.size = g8 at *
        simp only [nrm]
        (refine wpList_step fun K hK => ?_; replace hK := hide hK; go_simp; refine unhide hK _ _ ?_; clear hK K)
        refine wpList_nil ?_
        replace hB := hide hB
        go_upto_region 20 with fail
        replace hB := unhide hB
        refine wp_region_lit ?_
        refine lvk (.slice (some ⟨g8, 0, none⟩) 48 48) ?_
        simp only [nrm]
        refine lvk (.pointer (some ⟨g7, 1, none⟩)) ?_
        simp only [nrm]
        refine list_val (.string s.s) (by kernel_rfl) (exec_cst _ (.tmp 82) rfl (g7) 1 (by kernel_rfl) s.s (seg_cell (nI  _ _) (hB.get 1 (x := ⟨g7, fl [[.int .u32 s.n], [.string s.s]], 47⟩) rfl) 1 (v := .string s.s) rfl rfl)) ?_
        simp only [nrm]
        refine wpList_step fun K hK => ?_
        refine step_copyS (.tmp 81) (.tmp 83) rfl (by kernel_rfl) g8 0 48 48 s.s (by kernel_rfl) (by kernel_rfl) hsz9 ((List.replicate 48 (0 : Int)).map (Value.int .u8)) 5 (unhide hS) (by simp; omega) ?_
        refine hK _ _ ?_
        clear hK K
        have hS2 := setCells_heap ((tb s.s).map (Value.int .u8)) _ g8 0 ((List.replicate 48 (0 : Int)).map (Value.int .u8)) 5 (unhide hS)
        rw [kpad hsz9] at hS2
        have hbt := setCells_bt ((tb s.s).map (Value.int .u8)) u15 g8 0
        replace hO := hide (ob_bk (unhide hO) hbt hnb)
        replace hB := hB.btn hbt hlt8 (unhide hS) (by intro y_ hy_; simp only [List.mem_cons, List.not_mem_nil, or_false] at hy_; rcases hy_ with rfl | rfl <;> (dsimp only; decide))
        clear hS hbt hnb hlt8
        generalize World.setCells _ _ _ _ = u16 at *
        simp only [nrm]
        refine wpList_nil ?_
        replace hB := hide hB
        go_upto_region 21 with fail
        replace hB := unhide hB
        refine wp_region_lit ?_
        refine lvk (.slice a7 (436 + 53 * j) c7) ?_
        simp only [nrm]
        refine lvk (.slice (some ⟨g8, 0, none⟩) 48 48) ?_
        simp only [nrm]
        refine app_bs (by kernel_rfl) (.tmp 85) (.tmp 86) rfl w.heap.size (.slice a7 (436 + 53 * j) c7) (G ++ lowL s.n 4 ++ [(s.s.size : Int)]) (by kernel_rfl) (unhide hO) (some ⟨g8, 0, none⟩) 48 48 (padT s.s) (by kernel_rfl) (padT_len hsz9) (.inr ⟨g8, 0, rfl, kc_at hS2⟩) (by omega) hB.gr.size ?_
        intro v9 u17 hO9 hgr
        replace hB := hB.grownB (unhide hO) (Nat.le_refl _) hgr (by intro y_ hy_; simp only [List.mem_cons, List.not_mem_nil, or_false] at hy_; rcases hy_ with rfl | rfl <;> (dsimp only; decide))
        replace hO := hide hO9
        clear hO9 hgr
        simp only [nrm]
        (refine wpList_step fun K hK => ?_; replace hK := hide hK; go_simp; refine unhide hK _ _ ?_; clear hK K)
        refine wpList_nil ?_
        have e1 : G ++ lowL s.n 4 ++ [(s.s.size : Int)] ++ padT s.s = G ++ inB s := by unfold inB; simp
        rw [e1, unhide hend] at hO
        clear e1 hS2
        replace hB := Bl.left (L := [⟨w.heap.size, fl [[.int .u32 c.nx], [.slice x.ao x.no x.co], [.int .i64 c.tn], [.int .u32 c.dl], [.slice x.ah x.nh x.ch]], 26⟩]) (M := [⟨g7, fl [[.int .u32 s.n], [.string s.s]], 47⟩]) hB
        have jw : IntKind.i64.wrap ((j : Int) + 1) = (j : Int) + 1 := by rw [IntKind.wrap_i64]; omega
        replace hB := hide hB
        clear hsk hend hLl hLB hGl hGB hsn hsz9
        go_wp2_with fail
        go_roundw
        case rel => exact ⟨j + 1, v9, by omega, rfl, by simp, hO, hB⟩
        case measure => simp [intOf]; omega
      · have jn : ¬ (j : Int) < (x.nh : Int) := by omega
        have hs0 : s = ⟨0, ByteArray.empty⟩ := by
          unfold fil3 at hsj
          rw [List.getElem?_append_right (by omega)] at hsj
          have h9 := List.mem_of_getElem? hsj
          exact (List.mem_replicate.1 h9).2
        clear hsj
        replace hB := hide hB
        go_upto_region 15 with fail
        replace hB := unhide hB
        refine wp_region_lit ?_
        refine lvk (.int .i64 (j : Int)) ?_
        simp only [nrm]
        refine lvk (.pointer (some ⟨w.heap.size, 4, none⟩)) ?_
        simp only [nrm]
        refine list_val (.slice x.ah x.nh x.ch) (by kernel_rfl) (exec_csI _ (.tmp 58) rfl (w.heap.size) 4 (by kernel_rfl) x.ah x.nh x.ch (seg_cell (nC  _ _ _ _ _) (hB.get 0 (x := ⟨w.heap.size, fl [[.int .u32 c.nx], [.slice x.ao x.no x.co], [.int .i64 c.tn], [.int .u32 c.dl], [.slice x.ah x.nh x.ch]], 26⟩) rfl) 4 (v := .slice x.ah x.nh x.ch) rfl rfl)) ?_
        simp only [nrm]
        refine lvk (.int .i64 (x.nh : Int)) ?_
        simp only [nrm]
        refine list_val (.bool false) (by kernel_rfl) (lss_i _ (.tmp 57) (.tmp 60) (j : Int) (x.nh : Int) false rfl (by kernel_rfl) (by kernel_rfl) (decide_eq_false jn)) ?_
        simp only [nrm]
        refine wpList_nil ?_
        replace hB : Bl w [⟨w.heap.size, fl [[.int .u32 c.nx], [.slice x.ao x.no x.co], [.int .i64 c.tn], [.int .u32 c.dl], [.slice x.ah x.nh x.ch]], 26⟩, ⟨g7, fl [[.int .u32 s.n], [.string s.s]], 47⟩] u9 := by rw [hs0]; exact hB
        clear hs0
        have hsn := (unhide hsk).1.1
        replace hB := hide hB
        go_upto_region 17 with fail
        replace hB := unhide hB
        refine wp_region_lit ?_
        refine lvk v' ?_
        simp only [nrm]
        refine lvk (.pointer (some ⟨g7, 0, none⟩)) ?_
        simp only [nrm]
        refine list_val (.int .u32 s.n) (by kernel_rfl) (exec_c32 _ (.tmp 68) rfl (g7) 0 (by kernel_rfl) s.n (seg_cell (nI  _ _) (hB.get 1 (x := ⟨g7, fl [[.int .u32 s.n], [.string s.s]], 47⟩) rfl) 0 (v := .int .u32 s.n) rfl rfl)) ?_
        simp only [nrm]
        refine list_val (.int .u64 s.n) (by kernel_rfl) (conv_3264 _ (.tmp 69) s.n rfl (by kernel_rfl) hsn) ?_
        simp only [nrm]
        refine list_call 44 #[.int .u64 s.n, .int .i64 4] (by kernel_rfl) (by kernel_rfl) (((show Calls Try.prog 44 #[.int .u64 s.n, .int .i64 4] u9 (fun r w' => ∃ v, r = .returned v ∧ Ob w.heap.size w' v (lowL s.n 4) ∧ Gr u9 w') from (rlow_ok s.n hsn.1 4 (by omega) u9).mono fun r w' h9 => (by obtain ⟨v, q1, q2, q3⟩ := h9; exact ⟨v, q1, ob_base q2 hB.gr.size, q3⟩))).mono ?_)
        rintro r_ u10 ⟨v6, rfl, hO6_, hg⟩
        replace hO := hide ((unhide hO).gr hg)
        replace hB := hB.more hg
        clear hg
        replace hO6_ := hide hO6_
        refine ⟨_, rfl, ?_⟩
        simp only [nrm]
        obtain ⟨a9, c9, e9, -, -, hsl9⟩ := (unhide hO6_).slice
        rw [lowL_len] at e9
        refine app_bs (by kernel_rfl) (.tmp 67) (.tmp 71) rfl w.heap.size (v') (G) (by kernel_rfl) (unhide hO) a9 4 c9 (lowL s.n 4) (by rw [← e9]; kernel_rfl) (lowL_len _ _) hsl9 (by omega) hB.gr.size ?_
        intro v7 u11 hO9 hgr
        replace hB := hB.grownB (unhide hO) (Nat.le_refl _) hgr (by intro y_ hy_; simp only [List.mem_cons, List.not_mem_nil, or_false] at hy_; rcases hy_ with rfl | rfl <;> (dsimp only; decide))
        replace hO := hide hO9
        clear hO9 hgr hsl9 e9 hO6_
        simp only [nrm]
        (refine wpList_step fun K hK => ?_; replace hK := hide hK; go_simp; refine unhide hK _ _ ?_; clear hK K)
        refine wpList_nil ?_
        replace hB := hide hB
        go_upto_region 18 with fail
        replace hB := unhide hB
        refine wp_region_lit ?_
        refine lvk v7 ?_
        simp only [nrm]
        refine lvk (.pointer (some ⟨g7, 1, none⟩)) ?_
        simp only [nrm]
        refine list_val (.string s.s) (by kernel_rfl) (exec_cst _ (.tmp 74) rfl (g7) 1 (by kernel_rfl) s.s (seg_cell (nI  _ _) (hB.get 1 (x := ⟨g7, fl [[.int .u32 s.n], [.string s.s]], 47⟩) rfl) 1 (v := .string s.s) rfl rfl)) ?_
        simp only [nrm]
        refine list_val (.int .i64 (s.s.size : Int)) (by kernel_rfl) (len_st _ (.tmp 75) s.s (by omega) rfl (by kernel_rfl)) ?_
        simp only [nrm]
        refine list_val (.int .u8 (s.s.size : Int)) (by kernel_rfl) (conv_u8 _ (.tmp 76) (s.s.size : Int) rfl (by kernel_rfl) (by omega)) ?_
        simp only [nrm]
        refine list_valw (.slice (some ⟨u11.heap.size, 0, none⟩) 1 1) (u11.alloc (.cells (kc [(s.s.size : Int)]) 5 (0, 0))) (by kernel_rfl) (exec_bsb _ (.tmp 77) rfl (s.s.size : Int) (by kernel_rfl)) ?_
        have hS := hide (blk_new u11 (.cells (kc [(s.s.size : Int)]) 5 (0, 0)))
        have hg := (Gr.refl u11).alloc (.cells (kc [(s.s.size : Int)]) 5 (0, 0))
        replace hO := hide ((unhide hO).gr hg)
        replace hB := hB.more hg
        clear hg
        generalize World.alloc _ _ = u12 at *
        generalize u11.heap.size = gs78 at *
        simp only [nrm]
        refine app_bs (by kernel_rfl) (.tmp 73) (.tmp 78) rfl w.heap.size (v7) (G ++ lowL s.n 4) (by kernel_rfl) (unhide hO) (some ⟨gs78, 0, none⟩) 1 1 ([(s.s.size : Int)]) (by kernel_rfl) rfl (.inr ⟨gs78, 0, rfl, kc_at (unhide hS)⟩) (by rw [List.length_append, lowL_len]; omega) hB.gr.size ?_
        intro v8 u13 hO9 hgr
        replace hB := hB.grownB (unhide hO) (Nat.le_refl _) hgr (by intro y_ hy_; simp only [List.mem_cons, List.not_mem_nil, or_false] at hy_; rcases hy_ with rfl | rfl <;> (dsimp only; decide))
        replace hO := hide hO9
        clear hO9 hgr
        simp only [nrm]
        (refine wpList_step fun K hK => ?_; replace hK := hide hK; go_simp; refine unhide hK _ _ ?_; clear hK K)
        refine wpList_nil ?_
        clear hS
        have hGl : (G ++ lowL s.n 4 ++ [(s.s.size : Int)]).length = 436 + 53 * j := by simp [lowL_len]; omega
        have hGB : IsB (G ++ lowL s.n 4 ++ [(s.s.size : Int)]) := isB_app (isB_app hLB (lowL_isB _ _)) (isB_1 (by omega))
        replace hB := hide hB
        go_upto_region 19 with fail
        replace hB := unhide hB
        refine wp_region_lit ?_
        refine wpList_step fun K hK => ?_
        rw [if_pos (by kernel_rfl)]
        refine make_op (.const (.int .i64 48)) (.const (.int .i64 48)) rfl 48 48 rfl rfl (by omega) (by omega) ?_
        refine hK _ _ ?_
        clear hK K
        obtain ⟨a7, c7, rfl, -⟩ := ob_lb (unhide hO) hGB hGl
        have hnb := or_new (ob_or (unhide hO))
        have hS := hide (blk_new u13 (.cells (kc (List.replicate 48 0)) 5 (0, 0)))
        have hg := (Gr.refl u13).alloc (.cells (kc (List.replicate 48 0)) 5 (0, 0))
        have hlt8 : w.heap.size ≤ u13.heap.size := hB.gr.size
        replace hO := hide ((unhide hO).gr hg)
        replace hB := hB.more hg
        clear hg
        generalize World.alloc _ _ = u14 at *
        generalize u13.heap.size = g8 at *
        simp only [nrm]
        (refine wpList_step fun K hK => ?_; replace hK := hide hK; go_simp; refine unhide hK _ _ ?_; clear hK K)
        refine wpList_nil ?_
        replace hB := hide hB
        go_upto_region 20 with fail
        replace hB := unhide hB
        refine wp_region_lit ?_
        refine lvk (.slice (some ⟨g8, 0, none⟩) 48 48) ?_
        simp only [nrm]
        refine lvk (.pointer (some ⟨g7, 1, none⟩)) ?_
        simp only [nrm]
        refine list_val (.string s.s) (by kernel_rfl) (exec_cst _ (.tmp 82) rfl (g7) 1 (by kernel_rfl) s.s (seg_cell (nI  _ _) (hB.get 1 (x := ⟨g7, fl [[.int .u32 s.n], [.string s.s]], 47⟩) rfl) 1 (v := .string s.s) rfl rfl)) ?_
        simp only [nrm]
        refine wpList_step fun K hK => ?_
        refine step_copyS (.tmp 81) (.tmp 83) rfl (by kernel_rfl) g8 0 48 48 s.s (by kernel_rfl) (by kernel_rfl) hsz9 ((List.replicate 48 (0 : Int)).map (Value.int .u8)) 5 (unhide hS) (by simp; omega) ?_
        refine hK _ _ ?_
        clear hK K
        have hS2 := setCells_heap ((tb s.s).map (Value.int .u8)) _ g8 0 ((List.replicate 48 (0 : Int)).map (Value.int .u8)) 5 (unhide hS)
        rw [kpad hsz9] at hS2
        have hbt := setCells_bt ((tb s.s).map (Value.int .u8)) u14 g8 0
        replace hO := hide (ob_bk (unhide hO) hbt hnb)
        replace hB := hB.btn hbt hlt8 (unhide hS) (by intro y_ hy_; simp only [List.mem_cons, List.not_mem_nil, or_false] at hy_; rcases hy_ with rfl | rfl <;> (dsimp only; decide))
        clear hS hbt hnb hlt8
        generalize World.setCells _ _ _ _ = u15 at *
        simp only [nrm]
        refine wpList_nil ?_
        replace hB := hide hB
        go_upto_region 21 with fail
        replace hB := unhide hB
        refine wp_region_lit ?_
        refine lvk (.slice a7 (436 + 53 * j) c7) ?_
        simp only [nrm]
        refine lvk (.slice (some ⟨g8, 0, none⟩) 48 48) ?_
        simp only [nrm]
        refine app_bs (by kernel_rfl) (.tmp 85) (.tmp 86) rfl w.heap.size (.slice a7 (436 + 53 * j) c7) (G ++ lowL s.n 4 ++ [(s.s.size : Int)]) (by kernel_rfl) (unhide hO) (some ⟨g8, 0, none⟩) 48 48 (padT s.s) (by kernel_rfl) (padT_len hsz9) (.inr ⟨g8, 0, rfl, kc_at hS2⟩) (by omega) hB.gr.size ?_
        intro v9 u16 hO9 hgr
        replace hB := hB.grownB (unhide hO) (Nat.le_refl _) hgr (by intro y_ hy_; simp only [List.mem_cons, List.not_mem_nil, or_false] at hy_; rcases hy_ with rfl | rfl <;> (dsimp only; decide))
        replace hO := hide hO9
        clear hO9 hgr
        simp only [nrm]
        (refine wpList_step fun K hK => ?_; replace hK := hide hK; go_simp; refine unhide hK _ _ ?_; clear hK K)
        refine wpList_nil ?_
        have e1 : G ++ lowL s.n 4 ++ [(s.s.size : Int)] ++ padT s.s = G ++ inB s := by unfold inB; simp
        rw [e1, unhide hend] at hO
        clear e1 hS2
        replace hB := Bl.left (L := [⟨w.heap.size, fl [[.int .u32 c.nx], [.slice x.ao x.no x.co], [.int .i64 c.tn], [.int .u32 c.dl], [.slice x.ah x.nh x.ch]], 26⟩]) (M := [⟨g7, fl [[.int .u32 s.n], [.string s.s]], 47⟩]) hB
        have jw : IntKind.i64.wrap ((j : Int) + 1) = (j : Int) + 1 := by rw [IntKind.wrap_i64]; omega
        replace hB := hide hB
        clear hsk hend hLl hLB hGl hGB hsn hsz9
        go_wp2_with fail
        go_roundw
        case rel => exact ⟨j + 1, v9, by omega, rfl, by simp, hO, hB⟩
        case measure => simp [intOf]; omega
    · have jI : ¬ (j : Int) < 3 := by omega
      obtain rfl : j = 3 := by omega
      rw [List.take_of_length_le (by omega)] at hO
      have e1 : A3 ++ ((fil3 c.H).map inB).flatten = putL c := by
        rw [unhide hA3, unhide hA2, unhide hA1, unhide hX]
        unfold putL
        rw [hnO, hnH]
        simp only [List.append_assoc]
      rw [e1] at hO
      clear e1
      replace hB := hide hB
      go_upto_region 22 with fail
      replace hB := unhide hB
      refine wp_region_lit ?_
      refine lvk v' ?_
      simp only [nrm]
      (refine wpList_step fun K hK => ?_; replace hK := hide hK; go_simp; refine unhide hK _ _ ?_; clear hK K)
      refine wpList_nil ?_
      replace hB := hide hB
      go_wp2_with fail
      replace hB := unhide hB
      rw [unhide hT]
      exact (⟨v', rfl, unhide hO, hB.gr⟩)
end Go.Proofs.Ytcefkkoombmndaa
