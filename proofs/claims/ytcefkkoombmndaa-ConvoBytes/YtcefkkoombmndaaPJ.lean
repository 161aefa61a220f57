/-
  What the reference's Get wants.
-/
import Derived.Test.YtcefkkoombmndaaPI
namespace Go.Proofs.Ytcefkkoombmndaa
open Go.RowKit
set_option maxRecDepth 100000
set_option linter.unusedSimpArgs false
set_option linter.unusedVariables false
theorem bC02 {z0 z2 : Int} (w : World) {a : Act} {o : Oper} (x0 x2 : Operand) (ho : o.op = .build 26 #[(0, x0), (2, x2)]) (e0 : a.eval x0 = .int .u32 z0) (e2 : a.eval x2 = .int .i64 z2) :
    (execOp a.eval o).run Try.prog w = .ok (.value (.agg (fl [[.int .u32 z0], [.slice none 0 0], [.int .i64 z2], [.int .u32 0], [.slice none 0 0]]))) w := by
  refine exec_bld w _ _ [(0, .int .u32 z0), (2, .int .i64 z2)] ho (by simp [e0, e2]) _ ?_
  rw [bltC]
  rw [fill_seg (N := NC) (nC _ _ _ _ _) (vs := [.int .u32 z0]) rfl 0 0 rfl rfl]
  simp only [List.set_cons_zero, List.set_cons_succ]
  rw [fill_seg (N := NC) (nC _ _ _ _ _) (vs := [.int .i64 z2]) rfl 2 2 rfl rfl]
  simp only [List.set_cons_zero, List.set_cons_succ]
  exact fill_nil _ _
theorem conv_8i {a : Act} {o : Oper} (w : World) (x : Operand) (m : Int) (ho : o.op = .convert 5 3 x) (hx : a.eval x = .int .u8 m) (h : 0 ≤ m ∧ m < 256) : (execOp a.eval o).run Try.prog w = .ok (.value (.int .i64 m)) w := by
  have e : IntKind.i64.wrap m = m := by rw [IntKind.wrap_i64]; omega
  unfold execOp
  simp only [ho, hx]
  go_simp
theorem exec_fb {a : Act} {o : Oper} (w : World) (x y : Operand) (ho : o.op = .slice 53 x (some y) none none) (p q len cap n : Nat) (hx : a.eval x = .slice (some ⟨p, q, none⟩) len cap) (hy : a.eval y = .int .i64 n) (hc : len ≤ cap) (hn : n < len) :
    (execOp a.eval o).run Try.prog w = .ok (.value (.slice (some ⟨p, q + n, none⟩) (len - n) (cap - n))) w := by
  have h := exec_from w x y ho (some ⟨p, q, none⟩) len cap n hx hy hc (by omega)
  rw [if_neg (by omega), Option.map_some, Addr.add_mid] at h
  exact h
theorem exec_lhb {a : Act} {o : Oper} (w : World) (x y z : Operand) (ho : o.op = .slice 53 x (some y) (some z) none) (p q len cap n m k : Nat) (hx : a.eval x = .slice (some ⟨p, q, none⟩) len cap) (hy : a.eval y = .int .i64 n) (hz : a.eval z = .int .i64 m) (h1 : n ≤ m) (h2 : m ≤ cap) (h3 : n < cap) (hk : m - n = k) :
    (execOp a.eval o).run Try.prog w = .ok (.value (.slice (some ⟨p, q + n, none⟩) k (cap - n))) w := by
  subst hk
  have h4 : (n : Int) ≤ (m : Int) := by omega
  have h5 : (m : Int) ≤ cap := by omega
  have hu : Try.prog.underlying 53 = some (.slice (Try.prog.elem 53)) := by kernel_rfl
  have hz2 : (sizeOf (Try.prog.elem 53)).run Try.prog w = .ok 1 w := by kernel_rfl
  simp [execOp, ho, hx, hy, hz, run_sliceAt_slice _ _ _ _ _ _ hu, run_slice_lh _ _ _ _ _ hu _ _ _ _ (show (0 : Int) ≤ (n : Int) by omega) h4 h5, hz2, sliced, Addr.add_mid, if_neg (show ¬ cap = n by omega)]
theorem Lb.drop {w : World} {p q n c : Nat} {L : List Int} (h : Lb w (some ⟨p, q, none⟩) n c L) (k : Nat) (hk : k < n) : Lb w (some ⟨p, q + k, none⟩) (n - k) (c - k) (L.drop k) := by
  have hl := h.len
  have hc := h.cap
  have hm := h.max
  refine ⟨by rw [List.length_drop]; omega, fun x hx => h.isB x (List.mem_of_mem_drop hx), ?_, by omega, by omega⟩
  rcases h.sl with h1 | ⟨p2, q2, e, h2⟩
  · rw [h1] at hl; simp at hl; omega
  · injection e with e
    injection e with e1 e2 _
    subst e1 e2
    exact .inr ⟨_, _, rfl, h2.drop k⟩
def NRc (b : Nat) (C : Array Value) (t : TypeId) (u : World) (q : Value) : Prop := ∃ g, q = .pointer (some ⟨g, 0, none⟩) ∧ b ≤ g ∧ u.heap[g]? = some (.cells C t (0, 0))
theorem NRc.gr {b : Nat} {C : Array Value} {t : TypeId} {u v : World} {q : Value} (h : NRc b C t u q) (e : Gr u v) : NRc b C t v q := by
  obtain ⟨p, h1, h2, h3⟩ := h
  exact ⟨p, h1, h2, e.blk h3⟩
theorem Bl.joinz {w u x : World} {L : List Blk} {g : Nat} {c : Array Value} {t : TypeId} (h0 : Bl w L u) (h : Bl w L x) (hge : u.heap.size ≤ g) (hn : x.heap[g]? = some (.cells c t (0, 0))) : Bl w (L ++ [⟨g, c, t⟩]) x := by
  refine ⟨h.gr, fun y hy => ?_, List.pairwise_append.2 ⟨h.ne, List.pairwise_singleton _ _, fun y hy z hz => ?_⟩⟩
  · rcases List.mem_append.1 hy with hy | hy
    · exact h.at_ y hy
    · obtain rfl := List.mem_singleton.1 hy
      exact ⟨hn, Nat.le_trans h0.gr.size hge⟩
  · obtain rfl := List.mem_singleton.1 hz
    have h1 := lt_of_block (h0.at_ y hy).1
    show y.g ≠ g
    omega
/-- the counts that are put are small -/
theorem put_b4 {c : Cm} : (putL c).getD 4 0 = (c.O.length : Int) := by
  have h4 : (putL c).drop 4 = [(c.O.length : Int), c.tn] ++ (bodL c.O c.O.length ++ (lowL c.dl 4 ++ ([(c.H.length : Int)] ++ ((fil3 c.H).map inB).flatten))) := by unfold putL; rw [drop_len (lowL_len _ _)]
  rw [show (4 : Nat) = 4 + 0 from rfl, getD_drop, h4]; rfl
theorem put_430 {c : Cm} (h : rt c = true) (hn : ∀ s ∈ c.O, s.Ok) : (putL c).drop 430 = [(c.H.length : Int)] ++ ((fil3 c.H).map inB).flatten := by
  have hB := bodL_len hn (Nat.le_refl _) (rt_le h).2.1.1
  unfold putL
  rw [show 430 = 4 + (2 + (420 + 4)) from rfl, ← List.drop_drop, drop_len (lowL_len _ _), ← List.drop_drop, drop_len (k := 2) rfl, ← List.drop_drop, drop_len hB, drop_len (lowL_len _ _)]
theorem gt_bad {L : List Int} (hl : L.length = 590) (h : ¬ (rt (rdC L) = true ∧ putL (rdC L) = L)) : gtM L = (cz, 281) := by unfold gtM; rw [if_pos hl, if_neg h]
theorem gt_n {L : List Int} (hl : L.length = 590) (h : 4 < L.getD 4 0) : gtM L = (cz, 281) := gt_bad hl fun h2 => by
  have h3 := put_b4 (c := rdC L)
  rw [h2.2] at h3
  have := (rt_le h2.1).2.1.1
  omega
theorem gt_m {L : List Int} (hl : L.length = 590) (hb : IsB L) (h : 3 < L.getD 430 0) : gtM L = (cz, 281) := gt_bad hl fun h2 => by
  have h3 := put_430 h2.1 (rdC_nums hl hb).O
  rw [h2.2] at h3
  have h4 : L.getD 430 0 = ((rdC L).H.length : Int) := by rw [show (430 : Nat) = 430 + 0 from rfl, getD_drop, h3]; rfl
  have := (rt_le h2.1).2.2
  omega
theorem gt_l {L : List Int} (hl : L.length = 590) (hb : IsB L) {j : Nat} (hj : j < rdM L) (h : 48 < L.getD (431 + 53 * j + 4) 0) : gtM L = (cz, 281) := gt_bad hl fun h2 => by
  have hn := rdC_nums hl hb
  have h3 := put_430 h2.1 hn.O
  rw [h2.2] at h3
  have hH : (rdC L).H[j]? = some (inA L (431 + 53 * j)) := by
    show ((List.range (rdM L)).map fun (i : Nat) => inA L (431 + 53 * i))[j]? = _
    rw [List.getElem?_map, List.getElem?_range hj]; rfl
  have hsz := rises_sz _ _ _ (rt_rises h2.1)
  have hl2 := (List.getElem?_eq_some_iff.1 hH).1
  have hf : (fil3 (rdC L).H)[j]? = some (inA L (431 + 53 * j)) := by unfold fil3; rw [List.getElem?_append_left hl2, hH]
  have h5 := hel_drop (fun t ht => (fil3_ok hn.H hsz t ht).2) hf
  have h6 : L.drop (431 + 53 * j + 4) = [((inA L (431 + 53 * j)).s.size : Int)] ++ (padT (inA L (431 + 53 * j)).s ++ (((fil3 (rdC L).H).drop (j + 1)).map inB).flatten) := by
    rw [show 431 + 53 * j + 4 = 430 + (1 + (53 * j + 4)) by omega, ← List.drop_drop, h3, ← List.drop_drop, drop_len (k := 1) rfl, ← List.drop_drop, h5]
    unfold inB
    rw [List.append_assoc, drop_len (lowL_len _ _), List.append_assoc]
  have h7 : L.getD (431 + 53 * j + 4) 0 = ((inA L (431 + 53 * j)).s.size : Int) := by
    have := getD_drop L (431 + 53 * j + 4) 0
    rw [Nat.add_zero] at this
    rw [this, h6]; rfl
  have h8 := hsz _ (List.mem_of_getElem? hH)
  omega
end Go.Proofs.Ytcefkkoombmndaa
