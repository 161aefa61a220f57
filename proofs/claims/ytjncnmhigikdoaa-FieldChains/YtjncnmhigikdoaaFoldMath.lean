/-
  Rows of digits, as numbers: plain facts, and rows of numbers in memory.
-/
import Derived.Test.YtjncnmhigikdoaaRegs
import Derived.Laws.AppendOwn
namespace Go.Proofs.Ytjncnmhigikdoaa
open Go.RowKit
set_option maxRecDepth 100000

/-- the number of a row of digits to the base 256 -/
def vl : List Int → Int
  | [] => 0
  | x :: t => x + 256 * vl t
theorem vl_set : ∀ (l : List Int) (i : Nat) (x : Int), i < l.length → vl (l.set i x) = vl l + (x - l.getD i 0) * 256 ^ i
  | [], i, x, h => by simp at h
  | y :: t, 0, x, h => by simp [vl]; omega
  | y :: t, i + 1, x, h => by
    have ih := vl_set t i x (by simpa using h)
    simp only [List.set_cons_succ, vl, List.getD_cons_succ, ih, Int.pow_succ]
    grind
theorem vl_append (l r : List Int) : vl (l ++ r) = vl l + 256 ^ l.length * vl r := by
  induction l with
  | nil => simp [vl]
  | cons y t ih => simp only [List.cons_append, vl, ih, List.length_cons, Int.pow_succ]; grind
/-- digits -/
def Dig (l : List Int) : Prop := ∀ x ∈ l, 0 ≤ x ∧ x < 256
theorem vl_bd : ∀ (l : List Int), Dig l → 0 ≤ vl l ∧ vl l < 256 ^ l.length
  | [], _ => by simp [vl]
  | y :: t, h => by
    have ih := vl_bd t (fun x hx => h x (List.mem_cons_of_mem _ hx))
    have h1 := h y List.mem_cons_self
    simp only [vl, List.length_cons, Int.pow_succ]
    omega
theorem vl_nonneg : ∀ (l : List Int), (∀ x ∈ l, 0 ≤ x) → 0 ≤ vl l
  | [], _ => by simp [vl]
  | y :: t, h => by
    have ih := vl_nonneg t (fun x hx => h x (List.mem_cons_of_mem _ hx))
    have h1 := h y List.mem_cons_self
    simp only [vl]
    omega
theorem vl_digit : ∀ (l : List Int) (i : Nat), Dig l → l.getD i 0 = vl l / 256 ^ i % 256
  | [], i, _ => by simp [vl]
  | y :: t, 0, h => by
    have h1 := h y List.mem_cons_self
    simp [vl]; omega
  | y :: t, i + 1, h => by
    have ih := vl_digit t i (fun x hx => h x (List.mem_cons_of_mem _ hx))
    have h1 := h y List.mem_cons_self
    rw [List.getD_cons_succ, ih, Int.pow_succ, Int.mul_comm (256 ^ i), ← Int.ediv_ediv_of_nonneg (by decide)]
    congr 2
    simp only [vl]
    omega

/-- a row of m numbers in block g, with room for cap -/
def OR (w : World) (g m cap : Nat) (xs : List Int) : Prop := xs.length = m ∧ m ≤ cap ∧ cap ≤ maxLen ∧ ∃ cur : Array Value, cur.size = cap ∧ w.heap[g]? = some (.cells cur 3 (0, 0)) ∧ cur.toList.take m = xs.map (Value.int .i64)
theorem OR.gr {u v : World} {g m cap : Nat} {xs : List Int} (h : OR u g m cap xs) (k : Gr u v) : OR v g m cap xs := by
  obtain ⟨h1, h2, h3, cur, h4, h5, h6⟩ := h
  exact ⟨h1, h2, h3, cur, h4, k.blk h5, h6⟩
theorem OR.blk {u v : World} {g m cap : Nat} {xs : List Int} (h : OR u g m cap xs) (k : v.heap[g]? = u.heap[g]?) : OR v g m cap xs := by
  obtain ⟨h1, h2, h3, cur, h4, h5, h6⟩ := h
  exact ⟨h1, h2, h3, cur, h4, k.trans h5, h6⟩
theorem OR.lt {u : World} {g m cap : Nat} {xs : List Int} (h : OR u g m cap xs) : g < u.heap.size := by
  obtain ⟨h1, h2, h3, cur, h4, h5, h6⟩ := h
  exact lt_of_block h5
theorem OR.cell {w : World} {g m cap : Nat} {xs : List Int} (h : OR w g m cap xs) (i : Nat) (hi : i < m) : w.cell? ⟨g, i, none⟩ = some (.int .i64 (xs.getD i 0)) := by
  obtain ⟨h1, h2, h3, cur, h4, h5, h6⟩ := h
  refine cell_of h5 ?_
  have : (cur.toList.take m)[i]? = some (.int .i64 (xs.getD i 0)) := by
    rw [h6, List.getElem?_map, List.getElem?_eq_getElem (by omega)]
    simp [List.getD, List.getElem?_eq_getElem (show i < xs.length by omega)]
  rw [List.getElem?_take, if_pos hi] at this
  simpa using this
theorem OR.froz {w : World} {g m cap : Nat} {xs : List Int} (h : OR w g m cap xs) (i : Nat) : w.frozen? ⟨g, i, none⟩ = false := by
  obtain ⟨h1, h2, h3, cur, h4, h5, h6⟩ := h
  exact froz_of h5
theorem OR.set {w : World} {g m cap : Nat} {xs : List Int} (h : OR w g m cap xs) (i : Nat) (x : Int) : OR (w.setCell ⟨g, i, none⟩ (.int .i64 x)) g m cap (xs.set i x) := by
  obtain ⟨h1, h2, h3, cur, h4, h5, h6⟩ := h
  refine ⟨by simpa using h1, h2, h3, cur.setIfInBounds i (.int .i64 x), by simpa using h4, heap_setCell_same w g i _ _ _ h5, ?_⟩
  rw [Array.toList_setIfInBounds, List.map_set, ← h6, List.take_set]
theorem OR.owns {w : World} {g m cap B : Nat} {xs : List Int} (h : OR w g m cap xs) (hB : B ≤ g) : w.ownsRow B 3 1 (.slice (some ⟨g, 0, none⟩) m cap) m (xs.map (Value.int .i64)) := by
  obtain ⟨h1, h2, h3, cur, h4, h5, h6⟩ := h
  exact ⟨by simpa using h1, .inr ⟨g, cap, cur, rfl, hB, h5, h2, h3, by omega, by simpa using h6⟩⟩
theorem or_of_owns {w : World} {m B : Nat} {v : Value} {xs : List Int} (h : w.ownsRow B 3 1 v m (xs.map (Value.int .i64))) (hm : 0 < m) : ∃ g cap, v = .slice (some ⟨g, 0, none⟩) m cap ∧ B ≤ g ∧ OR w g m cap xs := by
  obtain ⟨h1, ⟨_, h2⟩ | ⟨g, cap, cur, h2, h3, h4, h5, h6, h7, h8⟩⟩ := h
  · omega
  · exact ⟨g, cap, h2, h3, by simpa using h1, h5, h6, cur, by omega, h4, by simpa using h8⟩
end Go.Proofs.Ytjncnmhigikdoaa
