/-
  Rows of bytes that a call itself has made: what they hold, a store, a make, a copy.
-/
import Derived.Test.YtcbdjijkliknoaaKey
namespace Go.Proofs.Ytcbdjijkliknoaa
open Go.RowKit

/-- The block g holds the bytes l, and may be written. -/
def Row (w : World) (g : Nat) (l : List Int) : Prop := w.heap[g]? = some (.cells (l.map (Value.int .u8)).toArray 5 (0, 0))

theorem Row.lt {w : World} {g : Nat} {l : List Int} (h : Row w g l) : g < w.heap.size := lt_of_block h
theorem Row.cell {w : World} {g : Nat} {l : List Int} (h : Row w g l) (i : Nat) (hi : i < l.length) : w.cell? ⟨g, i, none⟩ = some (.int .u8 (l.getD i 0)) := by
  unfold Row at h
  have := map_u8 l i hi
  simpa [World.cell?, h] using this
theorem Row.frozen {w : World} {g : Nat} {l : List Int} (h : Row w g l) (i : Nat) : w.frozen? ⟨g, i, none⟩ = false := frozen_of_row w g i _ _ h
theorem Row.set {w : World} {g : Nat} {l : List Int} (h : Row w g l) (i : Nat) (x : Int) : Row (w.setCell ⟨g, i, none⟩ (.int .u8 x)) g (l.set i x) := by
  unfold Row at *
  rw [heap_setCell_same w g i _ _ _ h]
  simp [List.map_set]
theorem Row.still {w w' : World} {g : Nat} {l : List Int} (h : Row w g l) (s : Still w w') : Row w' g l := by unfold Row at *; rw [s.heap]; exact h
theorem Row.below {w w' : World} {g B : Nat} {l : List Int} (h : Row w g l) (s : Below B w w') (hg : g < B) : Row w' g l := by unfold Row at *; rw [s.block g hg]; exact h
theorem Row.bs {w : World} {g : Nat} {l : List Int} (h : Row w g l) (hl : ∀ x ∈ l, 0 ≤ x ∧ x < 256) : Bs w (some ⟨g, 0, none⟩) l.length l :=
  ⟨rfl, hl, fun _ => ⟨g, 0, rfl, fun i hi => by rw [Nat.zero_add]; exact h.cell i hi⟩⟩

theorem made_zero (n : Nat) : madeCells (Value.int .u8 0).cells n = ((List.replicate n (0 : Int)).map (Value.int .u8)).toArray := by
  apply Array.ext
  · simp [size_madeCells]
  · intro i h1 h2
    have : i % 1 = 0 := Nat.mod_one i
    simp [madeCells, Value.cells, this]

theorem wpList_make_bytes (w : World) {ops : Array Oper} {rest : List Oper} {o : Oper} {a : Act} {Q : Exit → Act → World → Prop}
    (hg : o.guard = none) (l : Operand) (hop : o.op = Op.makeSlice 22 l l) (L : Int) (n : Nat) (hl : a.eval l = .int .i64 L) (hL : L = (n : Int)) (hn : n ≤ 281474976710656)
    (hK : ∀ w', Hid (Row w' w.heap.size (List.replicate n 0)) → Below w.heap.size w w' → w'.heap.size = w.heap.size + 1 → wpList Try.prog ops Q rest (a.put o.dst (.slice (some ⟨w.heap.size, 0, none⟩) n n)) w') :
    wpList Try.prog ops Q (o :: rest) a w := by
  obtain ⟨i, h2, h3, h4, h5⟩ := info_parts Try.info5
  subst hL
  refine wpList_plain hg fun K hK' => ?_
  have hrun := run_make (P := Try.prog) w 22 5 i (.int .u8 0) Try.underlying22 h2 h3 .i64 .i64 (n : Int) (n : Int) (by omega) (by omega) (by rw [h5]; omega) (by omega)
  rw [h4] at hrun
  simp only [Int.toNat_natCast, Nat.mul_one, made_zero] at hrun
  unfold Oper.wp
  simp [execOp, hop, hl, hrun, Result.andThen]
  refine hK' _ _ (hK _ ?_ (Below.new w _) (size_new w _))
  have e : Array.replicate n (Value.int .u8 0) = ((List.replicate n (0 : Int)).map (Value.int .u8)).toArray := by simp
  rw [e]
  exact (heap_alloc_new w (.cells ((List.replicate n (0 : Int)).map (Value.int .u8)).toArray 5 (0, 0)))

theorem splice_map (old l : List Int) (k : Nat) (hk : k ≤ l.length) : splice (old.map (Value.int .u8)) 0 ((l.take k).map (Value.int .u8)) = (l.take k ++ old.drop k).map (Value.int .u8) := by
  simp [splice, List.map_drop, Nat.min_eq_left hk]

theorem wpList_copy_bytes {w : World} {ops : Array Oper} {rest : List Oper} {o : Oper} {a : Act} {Q : Exit → Act → World → Prop} (hgd : o.guard = none) (d s : Operand)
    (ho : o.op = .call { callee := .builtin .copy, args := #[d, s], argTypes := #[22, 22] }) (g n : Nat) (sp : Option Addr) (m sCap : Nat) (l old : List Int)
    (hd : a.eval d = .slice (some ⟨g, 0, none⟩) n n) (hs : a.eval s = .slice sp m sCap) (hr : Hid (Row w g old)) (hn : old.length = n) (hbs : Bs w sp m l) (k : Nat) (hk : k = min m n)
    (h : ∀ w', Hid (Row w' g (l.take k ++ old.drop k)) → Below g w w' → w'.heap.size = w.heap.size → wpList Try.prog ops Q rest (a.put o.dst (.int .i64 k)) w') :
    wpList Try.prog ops Q (o :: rest) a w := by
  have hl := hbs.1
  have hlen : ((l.take k).map (Value.int .u8)).length = k := by simp; omega
  have hkm : k ≤ l.length := by omega
  rcases Nat.eq_zero_or_pos k with h0 | h0
  · refine wpList_copy_nothing hgd d s 22 22 ho 5 Try.underlying22 Try.size5 _ _ n n m sCap hd hs (by subst h0; exact hk.symm) ?_
    have := h w (by subst h0; simpa using hr) (Below.refl _ _) rfl
    subst h0
    exact this
  · obtain ⟨b, off, hsp, hc⟩ := hbs.2.2 (by omega)
    subst hsp
    refine wpList_copy_own hgd d s 22 22 ho 5 Try.underlying22 Try.size5 g 0 n n ⟨b, off, none⟩ m sCap hd hs _ 5 hr ((l.take k).map (Value.int .u8)) (by rw [hlen]; exact hk) ?_ (by rw [hlen]; simp; omega) ?_ ?_
    · intro j v hj
      have hjn : j < k := by
        have := (List.getElem?_eq_some_iff.1 hj).1
        rw [hlen] at this
        exact this
      have e1 : (⟨b, off, none⟩ : Addr).add j = ⟨b, off + j, none⟩ := by
        rcases Nat.eq_zero_or_pos j with h0 | h0
        · subst h0; rfl
        · simp [Addr.add]; omega
      rw [map_u8 _ j (by simp; omega)] at hj
      rw [e1, hc j (by omega), ← hj]
      have e2 : (l.take k).getD j 0 = l.getD j 0 := by rw [List.getD_eq_getElem?_getD, List.getD_eq_getElem?_getD, List.getElem?_take, if_pos hjn]
      rw [e2]
    · intro v hv
      obtain ⟨x, _, rfl⟩ := List.mem_map.1 hv
      rfl
    · rw [hlen]
      have e := splice_map old l k hkm
      unfold splice at e
      rw [hlen] at e
      refine h _ ?_ (below_setRow (Below.refl _ _) (Nat.le_refl _) _) (by simp)
      show _ = _
      rw [setRow_heap w g _ _ 5 _ hr]
      simp only [] at e ⊢
      rw [e]
end Go.Proofs.Ytcbdjijkliknoaa
