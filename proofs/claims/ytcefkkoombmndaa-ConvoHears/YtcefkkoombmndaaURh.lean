/-
  The rest of a list (out of UR, which is for what is acked).
-/
import Derived.Test.YtcefkkoombmndaaUQ
import Derived.Test.YtcefkkoombmndaaUP
namespace Go.Proofs.Ytcefkkoombmndaa
open Go.RowKit
set_option maxRecDepth 100000
set_option linter.unusedSimpArgs false
set_option linter.unusedVariables false
theorem exec_frO {a : Act} {o : Oper} (w : World) (x y : Operand) (ho : o.op = .slice 23 x (some y) none none) (s : Option Addr) (len cap n : Nat) (hx : a.eval x = .slice s len cap) (hy : a.eval y = .int .i64 n) (hc : len ≤ cap) (hn : n ≤ len) :
    (execOp a.eval o).run Try.prog w = .ok (.value (.slice (if cap = n then s else s.map (·.add (n * 106))) (len - n) (cap - n))) w := by
  have h1 : (0 : Int) ≤ n := by omega
  have h2 : (n : Int) ≤ len := by omega
  have hu : Try.prog.underlying 23 = some (.slice (Try.prog.elem 23)) := by kernel_rfl
  have hz : (sizeOf (Try.prog.elem 23)).run Try.prog w = .ok 106 w := by kernel_rfl
  simp [execOp, ho, hx, hy, run_sliceAt_slice _ _ _ _ _ _ hu, run_slice_l _ _ _ _ _ hu _ _ h1 h2, hz, sliced]
theorem exec_frI {a : Act} {o : Oper} (w : World) (x y : Operand) (ho : o.op = .slice 24 x (some y) none none) (s : Option Addr) (len cap n : Nat) (hx : a.eval x = .slice s len cap) (hy : a.eval y = .int .i64 n) (hc : len ≤ cap) (hn : n ≤ len) :
    (execOp a.eval o).run Try.prog w = .ok (.value (.slice (if cap = n then s else s.map (·.add (n * 2))) (len - n) (cap - n))) w := by
  have h1 : (0 : Int) ≤ n := by omega
  have h2 : (n : Int) ≤ len := by omega
  have hu : Try.prog.underlying 24 = some (.slice (Try.prog.elem 24)) := by kernel_rfl
  have hz : (sizeOf (Try.prog.elem 24)).run Try.prog w = .ok 2 w := by kernel_rfl
  simp [execOp, ho, hx, hy, run_sliceAt_slice _ _ _ _ _ _ hu, run_slice_l _ _ _ _ _ hu _ _ h1 h2, hz, sliced]
/-- where the rest of a list lies -/
def frA (k : Nat) (a : Option Addr) (c n : Nat) : Option Addr := if c = n then a else a.map (·.add (n * k))
theorem frA_some (k p o c n : Nat) (h : n < c) : frA k (some ⟨p, o, none⟩) c n = some ⟨p, o + k * n, none⟩ := by
  unfold frA
  rw [if_neg (by omega), Option.map_some, add_some, Nat.mul_comm]
theorem Lz.from_ {k : Nat} {w : World} {a : Option Addr} {n c : Nat} {R : List (List Value)} (h : Lz k w a n c R) (m : Nat) (hm : m ≤ n) : Lz k w (frA k a c m) (n - m) (c - m) (R.drop m) := by
  have hcap := h.cap
  have hmax := h.max
  refine ⟨by rw [List.length_drop, h.len], fun r hr => h.row r (List.mem_of_mem_drop hr), ?_, by omega, by omega⟩
  by_cases he : m = n
  · left
    exact List.drop_eq_nil_of_le (by rw [h.len, he]; exact Nat.le_refl _)
  · rcases h.sl with h1 | ⟨p, o, rfl, h2⟩
    · left; rw [h1]; simp
    · refine .inr ⟨p, o + k * m, frA_some k p o c m (by omega), fun j x hj => ?_⟩
      have h3 : R.flatten[k * m + j]? = some x := by
        have h4 := List.take_append_drop m R
        rw [← h4, List.flatten_append, List.getElem?_append_right (by
          rw [flat_len _ k (fun r hr => h.row r (List.mem_of_mem_take hr)), List.length_take, h.len, Nat.min_eq_left hm, Nat.mul_comm]
          omega)]
        rw [flat_len _ k (fun r hr => h.row r (List.mem_of_mem_take hr)), List.length_take, h.len, Nat.min_eq_left hm, Nat.mul_comm m k]
        rw [show k * m + j - k * m = j by omega]
        exact hj
      have := h2 (k * m + j) x h3
      rwa [← Nat.add_assoc] at this
theorem Ow.from_ {k : Nat} {e : TypeId} {b : Nat} {w : World} {a : Option Addr} {n c : Nat} (h : Ow k e b w a n) (m : Nat) (hm : m ≤ n) (hc : n ≤ c) : Ow k e b w (frA k a c m) (n - m) := by
  by_cases he : m = n
  · left; omega
  · rcases h with h | ⟨q, o, C, rfl, h2, h3, h4⟩
    · left; omega
    · refine .inr ⟨q, o + k * m, C, frA_some k q o c m (by omega), h2, h3, ?_⟩
      rw [Nat.add_assoc, ← Nat.mul_add, show m + (n - m) = n by omega]
      exact h4
theorem Co.drop {b : Nat} {w : World} {c : Cm} {x : Lc} (h : Co b w c x) (m : Nat) (hm : m ≤ x.no) : Co b w { c with O := c.O.drop m } ⟨frA 106 x.ao x.co m, x.no - m, x.co - m, x.ah, x.nh, x.ch⟩ :=
  ⟨⟨⟨fun s hs => h.i.o.1 s (List.mem_of_mem_drop hs), by have := h.i.o.2.from_ m hm; rwa [← List.map_drop] at this⟩, h.i.h, h.i.nx, h.i.tn, h.i.dl⟩, ⟨h.o.o.from_ m hm h.i.o.2.cap, h.o.h⟩⟩
theorem Co.tn {b : Nat} {w : World} {c : Cm} {x : Lc} (h : Co b w c x) (t : Int) (ht : -9223372036854775808 ≤ t ∧ t < 9223372036854775808) : Co b w { c with tn := t } x := ⟨⟨h.i.o, h.i.h, h.i.nx, ht, h.i.dl⟩, h.o⟩
theorem Own.co {b : Nat} {w : World} {c : Cm} {x : Lc} (h : Own b w c x) (n : Nums c) : Co b w c x := ⟨h.cin n, h.owx⟩
/-- how many are acked -/
def gk (c : Cm) (n : Int) : Nat := (n - (c.nx - c.O.length)).toNat
def ak (c : Cm) (n : Int) : Cm × Int × Int :=
  if rt c = false then (cz, 0, 281) else if c.nx < n then (cz, 0, 280) else ({ c with O := c.O.drop (gk c n), tn := c.tn - min (gk c n : Int) c.tn }, gk c n, 0)
theorem ak_no {c : Cm} (n : Int) (h : rt c = false) : ak c n = (cz, 0, 281) := by unfold ak; rw [if_pos h]
theorem ak_far {c : Cm} {n : Int} (h : rt c = true) (h2 : c.nx < n) : ak c n = (cz, 0, 280) := by unfold ak; rw [if_neg (by rw [h]; decide), if_pos h2]
theorem ak_yes {c : Cm} {n : Int} (h : rt c = true) (h2 : ¬ c.nx < n) (g : Nat) (hg : gk c n = g) : ak c n = ({ c with O := c.O.drop g, tn := c.tn - min (g : Int) c.tn }, (g : Int), 0) := by unfold ak; rw [if_neg (by rw [h]; decide), if_neg h2, hg]
end Go.Proofs.Ytcefkkoombmndaa
