/-
  What is gathered of earlier layers: bytes, numbers, Readers, rows.
-/
import Derived.Test.YtcefkkoombmndaaFlA
namespace Go.Proofs.Ytcefkkoombmndaa
open Go.RowKit
set_option maxRecDepth 100000
set_option linter.unusedSimpArgs false
set_option linter.unusedVariables false
theorem Bl.cell {w v : World} {L : List Blk} (h : Bl w L v) (k : Nat) {x : Blk} (hk : L[k]? = some x) (i : Nat) (y : Value) : Bl w (L.set k ⟨x.g, x.c.setIfInBounds i y, x.t⟩) (v.setCell ⟨x.g, i, none⟩ y) := by
  have hx := h.get k hk
  have hn : ∀ j y, L[j]? = some y → j ≠ k → y.g ≠ x.g := by
    intro j y hj hji
    obtain ⟨hjl, rfl⟩ := List.getElem?_eq_some_iff.1 hj
    obtain ⟨hil, rfl⟩ := List.getElem?_eq_some_iff.1 hk
    rcases Nat.lt_or_gt_of_ne hji with hlt | hlt
    · exact List.pairwise_iff_getElem.1 h.ne j k hjl hil hlt
    · exact (List.pairwise_iff_getElem.1 h.ne k j hil hjl hlt).symm
  refine ⟨h.gr.setCell (h.own k hk) y, ?_, ?_⟩
  · intro z hz
    obtain ⟨j, hj⟩ := List.mem_iff_getElem?.1 hz
    by_cases hji : j = k
    · subst hji
      rw [List.getElem?_set_self', hk] at hj
      simp at hj
      have ho := h.own j hk
      subst hj
      exact ⟨heap_setCell_same _ _ _ _ _ _ hx, ho⟩
    · rw [List.getElem?_set_ne (fun e => hji e.symm)] at hj
      exact ⟨(Below.heap_setCell v ⟨x.g, i, none⟩ y z.g (hn j z hj hji)).trans (h.get j hj), h.own j hj⟩
  · refine List.pairwise_iff_getElem.2 fun a b ha hb hab => ?_
    rw [List.length_set] at ha hb
    have h0 := List.pairwise_iff_getElem.1 h.ne a b ha hb hab
    obtain ⟨hil, rfl⟩ := List.getElem?_eq_some_iff.1 hk
    rw [List.getElem_set, List.getElem_set]
    split
    · rename_i e
      subst e
      split
      · omega
      · exact h0
    · split
      · rename_i e
        subst e
        exact h0
      · exact h0
def kc (l : List Int) : Array Value := (l.map (Value.int .u8)).toArray
theorem kc_size (l : List Int) : (kc l).size = l.length := by simp [kc]
theorem kc_one (l : List Int) : (kc l).all (·.oneCell') = true := by unfold kc; simp [Value.oneCell']
theorem kc_set (l : List Int) (i : Nat) (x : Int) : (kc l).setIfInBounds i (.int .u8 x) = kc (l.set i x) := by
  unfold kc
  rw [List.setIfInBounds_toArray, List.map_set]
theorem kc_get (l : List Int) (i : Nat) (hi : i < l.length) : (kc l)[i]? = some (.int .u8 (l.getD i 0)) := by
  unfold kc
  simp [hi]
theorem kc_cell {v : World} {g : Nat} {l : List Int} {t : TypeId} (h : v.heap[g]? = some (.cells (kc l) t (0, 0))) (i : Nat) (hi : i < l.length) : v.cell? ⟨g, i, none⟩ = some (.int .u8 (l.getD i 0)) := cell_of h (kc_get l i hi)
/-- bytes -/
def IsB (B : List Int) : Prop := ∀ x ∈ B, 0 ≤ x ∧ x < 256
theorem IsB.at_ {B : List Int} (h : IsB B) (j : Nat) : 0 ≤ B.getD j 0 ∧ B.getD j 0 < 256 := by
  rcases Nat.lt_or_ge j B.length with hj | hj
  · have : B.getD j 0 = B[j] := by simp [hj]
    rw [this]
    exact h _ (List.getElem_mem hj)
  · simp [List.getElem?_eq_none hj]
/-- bytes that lie somewhere -/
def At (w : World) (p o : Nat) (B : List Int) : Prop := ∀ j, j < B.length → w.cell? ⟨p, o + j, none⟩ = some (.int .u8 (B.getD j 0))
theorem At.gr {w v : World} {p o : Nat} {B : List Int} (h : At w p o B) (g : Gr w v) : At v p o B := fun j hj => g.cell (h j hj)
/-- Nothing that was there has turned but for block g. -/
structure Bt (g : Nat) (w v : World) : Prop where
  os : v.os = w.os
  tape : v.tape = w.tape
  output : v.output = w.output
  size : w.heap.size ≤ v.heap.size
  block : ∀ i, i < w.heap.size → i ≠ g → v.heap[i]? = w.heap[i]?
theorem Bt.refl (g : Nat) (w : World) : Bt g w w := ⟨rfl, rfl, rfl, Nat.le_refl _, fun _ _ _ => rfl⟩
theorem Bt.trans {g : Nat} {a b c : World} (h : Bt g a b) (k : Bt g b c) : Bt g a c :=
  ⟨k.os.trans h.os, k.tape.trans h.tape, k.output.trans h.output, Nat.le_trans h.size k.size, fun i hi hn => (k.block i (Nat.lt_of_lt_of_le hi h.size) hn).trans (h.block i hi hn)⟩
theorem Gr.bt {w v : World} (h : Gr w v) (g : Nat) : Bt g w v := ⟨h.os, h.tape, h.output, h.size, fun i hi _ => h.block i hi⟩
theorem Bt.gr {g : Nat} {w u v : World} (h : Gr w u) (k : Bt g u v) (hg : w.heap.size ≤ g) : Gr w v :=
  ⟨k.os.trans h.os, k.tape.trans h.tape, k.output.trans h.output, Nat.le_trans h.size k.size, fun i hi => (k.block i (Nat.lt_of_lt_of_le hi h.size) (by omega)).trans (h.block i hi)⟩
theorem Bt.blk {g : Nat} {w v : World} (h : Bt g w v) {b : Nat} {o : Obj} (hp : w.heap[b]? = some o) (hb : b ≠ g) : v.heap[b]? = some o := by rw [h.block b (lt_of_block hp) hb]; exact hp
theorem cell_heap {w v : World} {p o : Nat} (h : v.heap[p]? = w.heap[p]?) : v.cell? ⟨p, o, none⟩ = w.cell? ⟨p, o, none⟩ := by simp [World.cell?, h]
theorem lt_of_cell {w : World} {p o : Nat} {x : Value} (h : w.cell? ⟨p, o, none⟩ = some x) : p < w.heap.size := by
  rcases Nat.lt_or_ge p w.heap.size with h' | h'
  · exact h'
  · simp [World.cell?, Array.getElem?_eq_none h'] at h
theorem Bt.cell {g : Nat} {w v : World} (h : Bt g w v) {p o : Nat} {x : Value} (hp : w.cell? ⟨p, o, none⟩ = some x) (hb : p ≠ g) : v.cell? ⟨p, o, none⟩ = some x := by
  rw [cell_heap (h.block p (lt_of_cell hp) hb)]; exact hp
theorem Bl.but {w u v : World} {L : List Blk} (h : Bl w L u) {g : Nat} (k : Bt g u v) (i : Nat) {x : Blk} (hi : L[i]? = some x) (hx : x.g = g) {c : Array Value} (hc : v.heap[g]? = some (.cells c x.t (0, 0))) : Bl w (L.set i ⟨g, c, x.t⟩) v := by
  have hn : ∀ j y, L[j]? = some y → j ≠ i → y.g ≠ g := by
    intro j y hj hji
    obtain ⟨hjl, rfl⟩ := List.getElem?_eq_some_iff.1 hj
    obtain ⟨hil, rfl⟩ := List.getElem?_eq_some_iff.1 hi
    rw [← hx]
    rcases Nat.lt_or_gt_of_ne hji with hlt | hlt
    · exact List.pairwise_iff_getElem.1 h.ne j i hjl hil hlt
    · exact (List.pairwise_iff_getElem.1 h.ne i j hil hjl hlt).symm
  have hog := h.own i hi
  rw [hx] at hog
  refine ⟨k.gr h.gr hog, ?_, ?_⟩
  · intro y hy
    obtain ⟨j, hj⟩ := List.mem_iff_getElem?.1 hy
    by_cases hji : j = i
    · subst hji
      rw [List.getElem?_set_self', hi] at hj
      simp at hj
      subst hj
      exact ⟨hc, hog⟩
    · rw [List.getElem?_set_ne (fun e => hji e.symm)] at hj
      exact ⟨k.blk (h.get j hj) (hn j y hj hji), h.own j hj⟩
  · refine List.pairwise_iff_getElem.2 fun a b ha hb hab => ?_
    rw [List.length_set] at ha hb
    have h0 := List.pairwise_iff_getElem.1 h.ne a b ha hb hab
    obtain ⟨hil, rfl⟩ := List.getElem?_eq_some_iff.1 hi
    rw [List.getElem_set, List.getElem_set]
    split
    · rename_i e
      subst e
      split
      · omega
      · exact fun e => h0 (hx.trans e)
    · split
      · rename_i e
        subst e
        exact fun e => h0 (e.trans hx.symm)
      · exact h0
/-- cells set one by one -/
def sp (C : List Value) : Nat → List Value → List Value
  | _, [] => C
  | o, v :: r => sp (C.set o v) (o + 1) r
theorem sp_mid : ∀ (vs A M D : List Value), vs.length = M.length → sp (A ++ (M ++ D)) A.length vs = A ++ (vs ++ D)
  | [], A, M, D, h => by
    have : M = [] := List.eq_nil_of_length_eq_zero h.symm
    subst this
    rfl
  | v :: r, A, [], D, h => by simp at h
  | v :: r, A, m :: M, D, h => by
    have h1 : (A ++ (m :: M ++ D)).set A.length v = (A ++ [v]) ++ (M ++ D) := by simp
    have h2 := sp_mid r (A ++ [v]) M D (by simpa using h)
    rw [sp, h1]
    simp only [List.length_append, List.length_cons, List.length_nil, Nat.zero_add] at h2
    rw [h2]
    simp
theorem setCells_heap : ∀ (vs : List Value) (w : World) (g o : Nat) (C : List Value) (t : TypeId), w.heap[g]? = some (.cells C.toArray t (0, 0)) → (w.setCells g o vs).heap[g]? = some (.cells (sp C o vs).toArray t (0, 0))
  | [], w, g, o, C, t, h => h
  | v :: r, w, g, o, C, t, h => by
    have h1 := heap_setCell_same w g o C.toArray t v h
    rw [List.setIfInBounds_toArray] at h1
    rw [World.setCells, sp]
    exact setCells_heap r _ g (o + 1) _ t h1
theorem setCells_other : ∀ (vs : List Value) (w : World) (g o j : Nat), j ≠ g → (w.setCells g o vs).heap[j]? = w.heap[j]?
  | [], w, g, o, j, h => rfl
  | v :: r, w, g, o, j, h => by
    rw [World.setCells, setCells_other r _ g (o + 1) j h]
    exact Below.heap_setCell w ⟨g, o, none⟩ v j h
theorem setCells_bt : ∀ (vs : List Value) (w : World) (g o : Nat), Bt g w (w.setCells g o vs)
  | [], w, g, o => Bt.refl g w
  | v :: r, w, g, o => by
    rw [World.setCells]
    refine Bt.trans ?_ (setCells_bt r _ g (o + 1))
    refine ⟨rfl, rfl, rfl, ?_, fun i _ hn => Below.heap_setCell w ⟨g, o, none⟩ v i hn⟩
    exact Nat.le_of_eq (by simp [World.setCell])
theorem there_of {w : World} {g o n : Nat} {C : List Value} {t : TypeId} (h : w.heap[g]? = some (.cells C.toArray t (0, 0))) (hn : o + n ≤ C.length) : w.there g o n := by
  intro j hj
  refine ⟨?_, froz_of h⟩
  have : C.toArray[o + j]? = some (C[o + j]'(by omega)) := by simp
  rw [cell_of h this]
  rfl
/-- the cells of a Hash -/
def hcl (s l : List Int) (n : Int) : List Value := s.map (Value.int .u32) ++ (l.map (Value.int .u8) ++ [.int .i64 n])
def hc (s l : List Int) (n : Int) : Array Value := (hcl s l n).toArray
theorem list_store_mid {P : Program} {ops : Array Oper} {Q : Exit → Act → World → Prop} {a : Act} {w : World} {o : Oper} {K : Act → World → Prop} (ty : TypeId) (x y : Operand) (g off : Nat) (c : Array Value) (hw : Region.wanted o (yielded ops a.tmps) = true) (ho : o.op = .store ty x y)
    (hx : a.eval x = .pointer (some ⟨g, off, none⟩)) (hy : a.eval y = .agg c) (ht : w.there g off c.size) (hi : (P.info? ty).map (·.size) = some c.size) (h1 : c.all (·.oneCell') = true)
    (h : K (a.put o.dst undef) (w.setCells g off c.toList)) : if Region.wanted o (yielded ops a.tmps) = true then Oper.wp P o a w K Q else K (a.put o.dst undef) w := by
  rw [if_pos hw]
  exact wp_store_mid ty x y ho g off c hx hy ht hi h1 h
theorem At.bt {g : Nat} {w v : World} {p o : Nat} {B : List Int} (h : At w p o B) (k : Bt g w v) (hp : p ≠ g) : At v p o B := fun j hj => k.cell (h j hj) hp
theorem Try.info5 : (Try.prog.info? 5).map (fun i => (i.zero, i.size, i.bytes)) = some (some (.int .u8 0), 1, 1) := by kernel_rfl
/-- a slice is made, with room behind it -/
theorem wpList_make_room (w : World) {ops : Array Oper} {rest : List Oper} {o : Oper} {a : Act} {Q : Exit → Act → World → Prop}
    (hg : o.guard = none) (l c : Operand) (hop : o.op = Op.makeSlice 53 l c) (L C : Int) (n m : Nat) (hl : a.eval l = .int .i64 L) (hc : a.eval c = .int .i64 C) (hL : L = (n : Int)) (hC : C = (m : Int)) (hnm : n ≤ m) (hn : m ≤ 281474976710656)
    (hK : wpList Try.prog ops Q rest (a.put o.dst (.slice (some ⟨w.heap.size, 0, none⟩) n m)) (w.alloc (.cells (kc (List.replicate m 0)) 5 (0, 0)))) :
    wpList Try.prog ops Q (o :: rest) a w := by
  obtain ⟨i, h2, h3, h4, h5⟩ := info_parts Try.info5
  subst hL hC
  refine wpList_plain hg fun K hK' => ?_
  have hrun := run_make (P := Try.prog) w 53 5 i (.int .u8 0) Try.underlying53 h2 h3 .i64 .i64 (n : Int) (m : Int) (by omega) (by omega) (by rw [h5]; omega) (by omega)
  rw [h4] at hrun
  have e : madeCells (Value.int .u8 0).cells m = kc (List.replicate m 0) := by
    apply Array.ext
    · simp [size_madeCells, kc]
    · intro i h1 h2
      have : i % 1 = 0 := Nat.mod_one i
      simp [madeCells, Value.cells, this, kc]
  simp only [Int.toNat_natCast, Nat.mul_one, e] at hrun
  unfold Oper.wp
  simp [execOp, hop, hl, hc, hrun, Result.andThen]
  exact hK' _ _ hK
theorem own_gr {B m : Nat} {v : Value} {xs : List Value} {w u : World} (h : w.ownsRow B 5 1 v m xs) (k : Gr w u) : u.ownsRow B 5 1 v m xs := by
  obtain ⟨h1, h2 | ⟨g, cap, cur, h2, h3, h4, h5⟩⟩ := h
  · exact ⟨h1, .inl h2⟩
  · exact ⟨h1, .inr ⟨g, cap, cur, h2, h3, k.blk h4, h5⟩⟩
theorem grown_gr {w u v : World} {g : Nat} (h : Gr w u) (k : u.grownBy v (some g)) (hg : w.heap.size ≤ g) : Gr w v :=
  ⟨k.os.trans h.os, k.tape.trans h.tape, k.output.trans h.output, Nat.le_trans h.size k.size, fun i hi => (k.block i (Nat.lt_of_lt_of_le hi h.size) (by simp; omega)).trans (h.block i hi)⟩
theorem At.take {w : World} {p o : Nat} {B : List Int} (h : At w p o B) (k : Nat) : At w p o (B.take k) := by
  intro j hj
  rw [List.length_take] at hj
  rw [h j (by omega)]
  have hk2 : j < k := by omega
  simp [List.getElem?_take, hk2]
theorem At.drop {w : World} {p o : Nat} {B : List Int} (h : At w p o B) (k : Nat) : At w p (o + k) (B.drop k) := by
  intro j hj
  rw [List.length_drop] at hj
  rw [Nat.add_assoc, h (k + j) (by omega)]
  simp
theorem isB_take {B : List Int} (h : IsB B) (k : Nat) : IsB (B.take k) := fun x hx => h x (List.mem_of_mem_take hx)
theorem isB_drop {B : List Int} (h : IsB B) (k : Nat) : IsB (B.drop k) := fun x hx => h x (List.mem_of_mem_drop hx)
theorem isB_append {B C : List Int} (h : IsB B) (k : IsB C) : IsB (B ++ C) := fun x hx => (List.mem_append.1 hx).elim (h x) (k x)
theorem Try.size5 : (Try.prog.info? 5).map (·.size) = some 1 := by kernel_rfl
/-- copy -/
theorem copy_wp {o : Oper} {a : Act} {w : World} {K : Act → World → Prop} {Q : Exit → Act → World → Prop} (d s : Operand) (ho : o.op = .call { callee := .builtin .copy, args := #[d, s], argTypes := #[53, 53] })
    (g off dLen dCap : Nat) (sp : Option Addr) (sLen sCap : Nat) (hd : a.eval d = .slice (some ⟨g, off, none⟩) dLen dCap) (hs : a.eval s = .slice sp sLen sCap)
    (C : List Value) (t : TypeId) (hg : w.heap[g]? = some (.cells C.toArray t (0, 0))) (B : List Int) (hn : B.length = Nat.min sLen dLen) (hsrc : B = [] ∨ ∃ p q, sp = some ⟨p, q, none⟩ ∧ At w p q B) (hfit : off + B.length ≤ C.length)
    (h : K (a.put o.dst (.int .i64 B.length)) (w.setCells g off (B.map (Value.int .u8)))) : o.wp Try.prog a w K Q := by
  rcases hsrc with rfl | ⟨p, q, rfl, hat⟩
  · have hrun := run_copy_none (P := Try.prog) w 53 53 o.type 5 (some ⟨g, off, none⟩) sp dLen dCap sLen sCap Try.underlying53 Try.size5 hn.symm
    unfold Oper.wp
    simp [execOp, ho, resolve, invoke, builtin, hd, hs, hrun, Result.andThen]
    exact h
  · have hth := there_of (n := B.length) hg hfit
    have hrun := run_copy_cells (P := Try.prog) w 53 53 o.type 5 g off dLen dCap ⟨p, q, none⟩ sLen sCap (B.map (Value.int .u8)) Try.underlying53 Try.size5 (by simpa using hn) (by
      intro j v hj
      have hj2 : j < B.length := by have := (List.getElem?_eq_some_iff.1 hj).1; simpa using this
      rw [Addr.add_mid, hat j hj2]
      simp [hj2] at hj ⊢
      exact hj) (fun j hj => (hth j (by simpa using hj)).1) (fun j hj => (hth j (by simpa using hj)).2) (by intro v hv; obtain ⟨x, _, rfl⟩ := List.mem_map.1 hv; rfl)
    unfold Oper.wp
    simp [execOp, ho, resolve, invoke, builtin, hd, hs, hrun, Result.andThen]
    exact h
theorem list_valw {P : Program} {ops : Array Oper} {Q : Exit → Act → World → Prop} {a : Act} {w : World} {o : Oper} {rest : List Oper} (v : Value) (w' : World) (hw : Region.wanted o (yielded ops a.tmps) = true) (hx : (execOp a.eval o).run P w = .ok (.value v) w') (h : wpList P ops Q rest (a.put o.dst v) w') : wpList P ops Q (o :: rest) a w := by
  refine wpList_step fun K hK => ?_
  rw [if_pos hw]
  unfold Oper.wp
  rw [hx]
  exact hK _ _ h
/-- bytes behind a slice -/
def Sl (w : World) (a : Option Addr) (B : List Int) : Prop := B = [] ∨ ∃ p o, a = some ⟨p, o, none⟩ ∧ At w p o B
theorem Sl.gr {w v : World} {a : Option Addr} {B : List Int} (h : Sl w a B) (k : Gr w v) : Sl v a B := by
  rcases h with h | ⟨p, o, h1, h2⟩
  · exact .inl h
  · exact .inr ⟨p, o, h1, h2.gr k⟩
/-- bytes as a text -/
theorem Sl.text {w : World} {a : Option Addr} {B : List Int} (h : Sl w a B) (n c : Nat) (hn : B.length = n) : (convert 53 9 (.slice a n c)).run Try.prog w = .ok (.string (strOfNums B)) w := by
  subst hn
  rcases h with rfl | ⟨p, o, rfl, h2⟩
  · rw [run_convert_bytes_string w 53 9 5 _ _ c Try.underlying53 Try.underlying5 Try.underlying9]
    cases a <;> simp [Conv.bytesToString, loadCells]
    all_goals rfl
  · exact run_convert_bytes_arg (P := Try.prog) w 53 5 Try.underlying53 Try.underlying5 p o _ c B rfl (fun i hi => h2 i hi) 9 Try.underlying9
/-- a list of bytes that the call itself has made -/
def Ob (b : Nat) (w : World) (v : Value) (L : List Int) : Prop := w.ownsRow b 5 1 v L.length (L.map (Value.int .u8))
theorem Ob.gr {b : Nat} {w u : World} {v : Value} {L : List Int} (h : Ob b w v L) (k : Gr w u) : Ob b u v L := own_gr h k
theorem Ob.slice {b : Nat} {w : World} {v : Value} {L : List Int} (h : Ob b w v L) : ∃ a c, v = .slice a L.length c ∧ L.length ≤ c ∧ c ≤ maxLen ∧ Sl w a L := by
  rcases h.2 with ⟨h1, h2⟩ | ⟨g, cap, cur, h1, h2, h3, h4, h5, h6, h7⟩
  · have : L = [] := List.eq_nil_of_length_eq_zero h2
    subst this
    exact ⟨none, 0, h1, Nat.le_refl _, Nat.zero_le _, .inl rfl⟩
  · refine ⟨_, cap, h1, h4, h5, .inr ⟨g, 0, rfl, fun j hj => ?_⟩⟩
    rw [Nat.zero_add]
    refine cell_of h3 ?_
    rw [← Array.getElem?_toList]
    have e : (L.map (Value.int .u8))[j]? = some (.int .u8 (L.getD j 0)) := by simp [hj]
    rw [← h7, Nat.mul_one, List.getElem?_take, if_pos hj] at e
    exact e
theorem Ob.grown {b : Nat} {w u u' : World} {v : Value} {L : List Int} (h : Ob b u v L) (hb : w.heap.size ≤ b) (k : Gr w u) (g : u.grownBy u' v.ownBlock) : Gr w u' := by
  refine ⟨g.os.trans k.os, g.tape.trans k.tape, g.output.trans k.output, Nat.le_trans k.size g.size, fun i hi => (g.block i (Nat.lt_of_lt_of_le hi k.size) ?_).trans (k.block i hi)⟩
  intro e
  have := (World.ownsRow.lt h i e.symm).1
  omega
/-- bytes are put behind bytes of one's own -/
theorem app_bs {w : World} {ops : Array Oper} {rest : List Oper} {o : Oper} {a : Act} {Q : Exit → Act → World → Prop} (hw : Region.wanted o (yielded ops a.tmps) = true) (s x : Operand)
    (ho : o.op = .call { callee := .builtin .append, args := #[s, x], argTypes := #[53, 53] }) (b : Nat) (v : Value) (L : List Int) (hs : a.eval s = v) (hown : Ob b w v L)
    (sp : Option Addr) (n sc : Nat) (l : List Int) (hx : a.eval x = .slice sp n sc) (hn : l.length = n) (hsl : Sl w sp l) (hbig : L.length + n ≤ 180000000000000) (hB : b ≤ w.heap.size)
    (h : ∀ v' w', Ob b w' v' (L ++ l) → w.grownBy w' v.ownBlock → wpList Try.prog ops Q rest (a.put o.dst v') w') :
    wpList Try.prog ops Q (o :: rest) a w := by
  subst hn
  obtain ⟨i0, hi, hz0, hz1, hz2⟩ := info_parts Try.info5
  rw [wpList, if_pos hw]
  refine Or.inl ?_
  rcases hsl with rfl | ⟨p, q, rfl, hat⟩
  · obtain ⟨a', c', rfl, hc, _, _⟩ := hown.slice
    have hrun : (Builtin.append_ #[53, 53] o.type #[.slice a' L.length c', .slice sp 0 sc]).run Try.prog w = .ok (.slice a' L.length c') w := by
      cases a' <;> cases sp <;> simp [Builtin.append_, run_underlying Try.underlying53, sizeOf, typeInfo, hi, Builtin.lenOf, Builtin.firstCells, loadCells, loadCellsFrom, storeCells, hc]
    unfold Oper.wp
    simp [execOp, ho, resolve, invoke, builtin, hs, hx, hrun, Result.andThen]
    exact h _ _ (by rw [List.append_nil]; exact hown) (World.grownBy.refl _ _)
  · refine wp_append_own_wide w s x 53 ho b 5 i0 (.int .u8 0) 1 1 Try.underlying53 hi hz0 hz1 hz2 rfl (by decide) v L.length _ hs hown ⟨p, q, none⟩ l.length sc (l.map (Value.int .u8)) hx (by simp) ?_ ?_ (by unfold maxLen; omega) (by omega) hB ?_
    · intro j u hj
      have hjl : j < l.length := by have := (List.getElem?_eq_some_iff.1 hj).1; simpa using this
      rw [Addr.add_mid, hat j hjl]
      simp [hjl] at hj ⊢
      exact hj
    · intro u hu
      obtain ⟨y, _, rfl⟩ := List.mem_map.1 hu
      rfl
    · intro v' w' h1 h2 _
      refine h v' w' ?_ h2
      unfold Ob
      rw [List.length_append, List.map_append]
      exact h1
theorem blk_bytes {w : World} {b : Nat} (l : List Int) (hb : b ≤ w.heap.size) (h1 : l.length ≤ maxLen) : Ob b (w.alloc (.cells (kc l) 5 (0, 0))) (.slice (some ⟨w.heap.size, 0, none⟩) l.length l.length) l :=
  ⟨by simp, .inr ⟨w.heap.size, l.length, kc l, rfl, hb, blk_new _ _, Nat.le_refl _, h1, by rw [kc_size, Nat.mul_one], by unfold kc; rw [Nat.mul_one]; exact List.take_of_length_le (by simp)⟩⟩
theorem Bl.left {w v : World} {L M : List Blk} (h : Bl w (L ++ M) v) : Bl w L v := ⟨h.gr, fun x hx => h.at_ x (List.mem_append_left _ hx), (List.pairwise_append.1 h.ne).1⟩
theorem own : ownKnob Try.prog.godebug = none := by kernel_rfl
theorem u8_xor_nat (a b : Nat) (ha : a < 256) (hb : b < 256) : bits .xor .u8 (a : Int) (b : Int) = ((a ^^^ b : Nat) : Int) := by
  have hx : a ^^^ b < 2 ^ 8 := Nat.xor_lt_two_pow (by omega) (by omega)
  have h1 : (BitVec.ofInt 8 (a : Int)).toNat = a := by
    rw [BitVec.ofInt_natCast, BitVec.toNat_ofNat]; exact Nat.mod_eq_of_lt (by omega)
  have h2 : (BitVec.ofInt 8 (b : Int)).toNat = b := by
    rw [BitVec.ofInt_natCast, BitVec.toNat_ofNat]; exact Nat.mod_eq_of_lt (by omega)
  show IntKind.u8.wrap ((BitVec.ofInt 8 (a : Int) ^^^ BitVec.ofInt 8 (b : Int)).toNat : Int) = _
  rw [BitVec.toNat_xor, h1, h2, IntKind.wrap_u8]
  omega
theorem kc_at {w : World} {g : Nat} {l : List Int} {t : TypeId} (h : w.heap[g]? = some (.cells (kc l) t (0, 0))) : At w g 0 l := fun j hj => by rw [Nat.zero_add]; exact kc_cell h j hj
theorem results_cell_tmp {P : Program} {fn : Func} {p q : Tmp} {ty : TypeId} (h : fn.results = #[.cell p ty, .tmp q]) (tmps : Array Value) (w : World) (g : Nat) (t : TypeId) (cs : Array Value) (fr : Nat × Nat) (d : TypeDesc)
    (hp : tmps.getD p undef = .pointer (some ⟨g, 0, none⟩)) (v : Value) (hq : tmps.getD q undef = v) (hg : w.heap[g]? = some (.cells cs t fr))
    (hu : P.underlying ty = some d) (hd : (match d with | .struct _ | .array _ _ => true | _ => false) = true) (hi : (P.info? ty).map (·.size) = some cs.size) :
    (results fn tmps).run P w = .ok (.tuple #[.agg cs, v]) w := by
  have hp' : tmps[p]?.getD undef = .pointer (some ⟨g, 0, none⟩) := by simpa using hp
  have hq' : tmps[q]?.getD undef = v := by simpa using hq
  simp [results, h, hp', hq', asAddr, run_loadVar_row w g t ty cs fr d hg hu hd hi]
theorem exec_i64 {op : Oper} {a : Act} (w : World) (x : Operand) (ho : op.op = .load 3 x) (g i : Nat) (hx : a.eval x = .pointer (some ⟨g, i, none⟩)) (v : Int) (hc : w.cell? ⟨g, i, none⟩ = some (.int .i64 v)) : (execOp a.eval op).run Try.prog w = .ok (.value (.int .i64 v)) w := by
  unfold execOp
  simp only [ho, hx, Instr.loadAt, Instr.sureAddr, Sem.run_bind, Sem.run_pure, Result.andThen_ok]
  go_simp
theorem exec_b {op : Oper} {a : Act} (w : World) (x : Operand) (ho : op.op = .load 5 x) (g i : Nat) (hx : a.eval x = .pointer (some ⟨g, i, none⟩)) (v : Int) (hc : w.cell? ⟨g, i, none⟩ = some (.int .u8 v)) : (execOp a.eval op).run Try.prog w = .ok (.value (.int .u8 v)) w := by
  unfold execOp
  simp only [ho, hx, Instr.loadAt, Instr.sureAddr, Sem.run_bind, Sem.run_pure, Result.andThen_ok]
  go_simp
theorem Bt.setCell {g : Nat} (w : World) (o : Nat) (x : Value) : Bt g w (w.setCell ⟨g, o, none⟩ x) := setCells_bt [x] w g o
theorem Bt.own {g b : Nat} {w u v : World} (h : Bt g w u) (k : Bt b u v) (hb : w.heap.size ≤ b) : Bt g w v :=
  ⟨k.os.trans h.os, k.tape.trans h.tape, k.output.trans h.output, Nat.le_trans h.size k.size, fun i hi hn => (k.block i (Nat.lt_of_lt_of_le hi h.size) (by omega)).trans (h.block i hi hn)⟩
theorem Bt.row {g b : Nat} {w u : World} (h : Bt g w u) (hb : w.heap.size ≤ b) (cs : Array Value) : Bt g w (u.setRow b cs) :=
  h.own ⟨rfl, rfl, rfl, by simp, fun i _ hn => setRow_other u b i cs hn⟩ hb
theorem Bt.row_self {b : Nat} {w u : World} (h : Bt b w u) (cs : Array Value) : Bt b w (u.setRow b cs) :=
  h.trans ⟨rfl, rfl, rfl, by simp, fun i _ hn => setRow_other u b i cs hn⟩
theorem Bl.add {w v : World} {L : List Blk} (h : Bl w L v) (x : Blk) (hx : v.heap[x.g]? = some x.obj) (hw : w.heap.size ≤ x.g) (hn : ∀ y ∈ L, y.g ≠ x.g) : Bl w (L ++ [x]) v := by
  refine ⟨h.gr, fun y hy => ?_, List.pairwise_append.2 ⟨h.ne, List.pairwise_singleton _ _, fun y hy z hz => ?_⟩⟩
  · rcases List.mem_append.1 hy with hy | hy
    · exact h.at_ y hy
    · rw [List.mem_singleton] at hy
      subst hy
      exact ⟨hx, hw⟩
  · rw [List.mem_singleton] at hz
    subst hz
    exact hn y hy
/-- a block's bytes -/
def BB (b : List Int) : Prop := b.length = 64 ∧ IsB b
def ZB : List Int := List.replicate 64 0
theorem ZB_bb : BB ZB := ⟨rfl, fun x hx => by have := List.eq_of_mem_replicate hx; omega⟩
theorem mem_of_getD {α : Type} {l : List α} {d : α} {i : Nat} (h : i < l.length) : l.getD i d ∈ l := by
  rw [List.getD_eq_getElem?_getD, List.getElem?_eq_getElem h]
  exact List.getElem_mem h
/-- a block's cells, a write's cells -/
def bv (b : List Int) : List Value := b.map (Value.int .u8)
theorem bv_len (b : List Int) : (bv b).length = b.length := by unfold bv; simp
theorem kc_bv (b : List Int) : kc b = (bv b).toArray := rfl
theorem bv_one (b : List Int) : (bv b).toArray.all (·.oneCell') = true := kc_one b
/-- rows of k cells lie there, one behind the other -/
structure Ls (k : Nat) (w : World) (a : Option Addr) (n c : Nat) (R : List (List Value)) : Prop where
  len : R.length = n
  row : ∀ r ∈ R, r.length = k
  sl : R = [] ∨ ∃ p o, a = some ⟨p, o, none⟩ ∧ w.rangeAt p o R.flatten
  cap : n ≤ c
  max : c < 9223372036854775808
  low : ∀ p, a.map (·.block) = some p → p < w.heap.size
theorem range_gr {w v : World} {p o : Nat} {L : List Value} (h : w.rangeAt p o L) (g : Gr w v) : v.rangeAt p o L := fun j x hj => g.cell (h j x hj)
theorem range_bt {g : Nat} {w v : World} {p o : Nat} {L : List Value} (h : w.rangeAt p o L) (k : Bt g w v) (hp : p ≠ g) : v.rangeAt p o L := fun j x hj => k.cell (h j x hj) hp
theorem Ls.gr {k : Nat} {w v : World} {a : Option Addr} {n c : Nat} {R : List (List Value)} (h : Ls k w a n c R) (g : Gr w v) : Ls k v a n c R := by
  refine ⟨h.len, h.row, ?_, h.cap, h.max, fun p e => Nat.lt_of_lt_of_le (h.low p e) g.size⟩
  rcases h.sl with h | ⟨p, o, h1, h2⟩
  · exact .inl h
  · exact .inr ⟨p, o, h1, range_gr h2 g⟩
theorem flat_row : ∀ (R : List (List Value)) (k : Nat), (∀ r ∈ R, r.length = k) → ∀ (i j : Nat), i < R.length → j < k → R.flatten[k * i + j]? = (R.getD i [])[j]?
  | [], _, _, i, _, hi, _ => absurd hi (Nat.not_lt_zero i)
  | r :: R, k, h, 0, j, _, hj => by
    have hr := h r List.mem_cons_self
    rw [List.flatten_cons, Nat.mul_zero, Nat.zero_add, List.getElem?_append_left (by omega)]
    rfl
  | r :: R, k, h, i + 1, j, hi, hj => by
    have hr := h r List.mem_cons_self
    have ih := flat_row R k (fun x hx => h x (List.mem_cons_of_mem _ hx)) i j (by simpa using hi) hj
    rw [List.flatten_cons, List.getElem?_append_right (by rw [hr, Nat.mul_succ]; omega), hr, show k * (i + 1) + j - k = k * i + j from by rw [Nat.mul_succ]; omega, ih]
    rfl
theorem Ls.at_ {k : Nat} {w : World} {a : Option Addr} {n c : Nat} {R : List (List Value)} (h : Ls k w a n c R) (i : Nat) (hi : i < n) : ∃ p o, a = some ⟨p, o, none⟩ ∧ w.rangeAt p (o + k * i) (R.getD i []) := by
  have hl := h.len
  rcases h.sl with h0 | ⟨p, o, h1, h2⟩
  · rw [h0] at hl
    simp at hl
    omega
  · refine ⟨p, o, h1, fun j x hj => ?_⟩
    have hrl := h.row _ (mem_of_getD (d := []) (show i < R.length by omega))
    have hj2 : j < k := by have := (List.getElem?_eq_some_iff.1 hj).1; omega
    rw [Nat.add_assoc]
    exact h2 _ _ (by rw [flat_row R k h.row i j (by omega) hj2]; exact hj)
/-- the block of an address -/
def blkOf (a : Option Addr) : Option Nat := a.map (·.block)
/-- an address lies where another one does, or in what is new -/
def Fr2 (w : World) (a a' : Option Addr) : Prop := ∀ p, blkOf a' = some p → blkOf a = some p ∨ w.heap.size ≤ p
theorem Fr2.refl (w : World) (a : Option Addr) : Fr2 w a a := fun p h => .inl h
theorem Fr2.none (w : World) (a : Option Addr) : Fr2 w a none := fun p h => by cases h
theorem Fr2.new {w : World} (a : Option Addr) {g o : Nat} (h : w.heap.size ≤ g) : Fr2 w a (some ⟨g, o, Option.none⟩) := fun p e => by
  have : g = p := by simpa [blkOf] using e
  exact .inr (by omega)
theorem Fr2.trans {w v : World} {a a' : Option Addr} (h : Fr2 v a a') (hs : w.heap.size ≤ v.heap.size) : Fr2 w a a' := fun p e => by
  rcases h p e with h | h
  · exact .inl h
  · exact .inr (Nat.le_trans hs h)
theorem Ls.bt {k : Nat} {g : Nat} {w v : World} {a : Option Addr} {n c : Nat} {R : List (List Value)} (h : Ls k w a n c R) (b : Bt g w v) (hg : blkOf a ≠ some g) : Ls k v a n c R := by
  refine ⟨h.len, h.row, ?_, h.cap, h.max, fun p e => Nat.lt_of_lt_of_le (h.low p e) b.size⟩
  rcases h.sl with h | ⟨p, o, rfl, h2⟩
  · exact .inl h
  · exact .inr ⟨p, o, rfl, range_bt h2 b (fun e => hg (by rw [← e]; rfl))⟩
theorem exec_bool {op : Oper} {a : Act} (w : World) (x : Operand) (ho : op.op = .load 4 x) (g i : Nat) (hx : a.eval x = .pointer (some ⟨g, i, none⟩)) (v : Bool) (hc : w.cell? ⟨g, i, none⟩ = some (.bool v)) : (execOp a.eval op).run Try.prog w = .ok (.value (.bool v)) w := by
  unfold execOp
  simp only [ho, hx, Instr.loadAt, Instr.sureAddr, Sem.run_bind, Sem.run_pure, Result.andThen_ok]
  go_simp
theorem ZB_len : ZB.length = 64 := rfl
/-- rows that the call itself has made -/
def Or_ (k : Nat) (e : TypeId) (b : Nat) (w : World) (v : Value) (R : List (List Value)) : Prop := (∀ r ∈ R, r.length = k) ∧ w.ownsRow b e k v R.length R.flatten
theorem flat_len : ∀ (R : List (List Value)) (k : Nat), (∀ r ∈ R, r.length = k) → R.flatten.length = R.length * k
  | [], _, _ => by simp
  | r :: R, k, h => by
    have h1 := h r List.mem_cons_self
    have ih := flat_len R k (fun x hx => h x (List.mem_cons_of_mem _ hx))
    rw [List.flatten_cons, List.length_append, ih, h1, List.length_cons, Nat.add_mul]
    omega
theorem ownsRow_gr {k : Nat} {e : TypeId} {b : Nat} {w u : World} {v : Value} {n : Nat} {xs : List Value} (h : w.ownsRow b e k v n xs) (g : Gr w u) : u.ownsRow b e k v n xs := by
  obtain ⟨h1, h2 | ⟨p, cap, cur, h2, h3, h4, h5⟩⟩ := h
  · exact ⟨h1, .inl h2⟩
  · exact ⟨h1, .inr ⟨p, cap, cur, h2, h3, g.blk h4, h5⟩⟩
theorem Or_.gr {k : Nat} {e : TypeId} {b : Nat} {w u : World} {v : Value} {R : List (List Value)} (h : Or_ k e b w v R) (g : Gr w u) : Or_ k e b u v R := ⟨h.1, ownsRow_gr h.2 g⟩
theorem Or_.ls {k : Nat} {e : TypeId} {b : Nat} {w : World} {v : Value} {R : List (List Value)} (h : Or_ k e b w v R) : ∃ a c, v = .slice a R.length c ∧ Ls k w a R.length c R := by
  rcases h.2.2 with ⟨h1, h2⟩ | ⟨g, cap, cur, h1, h2, h3, h4, h5, h6, h7⟩
  · have e : R = [] := List.eq_nil_of_length_eq_zero h2
    subst e
    exact ⟨none, 0, h1, rfl, (fun r hr => by cases hr), .inl rfl, Nat.le_refl _, by omega, (fun p e => by cases e)⟩
  · refine ⟨_, cap, h1, rfl, h.1, .inr ⟨g, 0, rfl, fun j x hj => ?_⟩, h4, by unfold maxLen at h5; omega, fun p e => by have e3 := Option.some.inj e; rw [← e3]; exact lt_of_block h3⟩
    rw [Nat.zero_add]
    refine cell_of h3 ?_
    rw [← Array.getElem?_toList]
    have hjl := (List.getElem?_eq_some_iff.1 hj).1
    rw [h.2.1] at hjl
    rw [← h7, List.getElem?_take, if_pos hjl] at hj
    exact hj
theorem grown_owned {k : Nat} {e : TypeId} {b : Nat} {w u u' : World} {v : Value} {n : Nat} {xs : List Value} (h : u.ownsRow b e k v n xs) (hb : w.heap.size ≤ b) (g : Gr w u) (k : u.grownBy u' v.ownBlock) : Gr w u' := by
  refine ⟨k.os.trans g.os, k.tape.trans g.tape, k.output.trans g.output, Nat.le_trans g.size k.size, fun i hi => (k.block i (Nat.lt_of_lt_of_le hi g.size) ?_).trans (g.block i hi)⟩
  intro e
  have := (World.ownsRow.lt h i e.symm).1
  omega
/-- what is asked of a list's type -/
structure Lt (t e : TypeId) (k n : Nat) : Prop where
  ht : Try.prog.underlying t = some (.slice e)
  hi : ∃ i z, Try.prog.info? e = some i ∧ i.zero = some z ∧ i.size = k ∧ i.bytes = n ∧ z.cells.size = k
  hk : 0 < k
  hn : n ≤ 100
/-- rows are put behind rows of one's own -/
theorem app_rows0 {t e : TypeId} {k nb : Nat} (L : Lt t e k nb) {w : World} {o : Oper} {a : Act} {K : Act → World → Prop} {Q : Exit → Act → World → Prop} (s x : Operand)
    (ho : o.op = .call { callee := .builtin .append, args := #[s, x], argTypes := #[t, t] }) (b : Nat) (v : Value) (R : List (List Value)) (hs : a.eval s = v) (hown : Or_ k e b w v R)
    (sp : Option Addr) (n sc : Nat) (l : List (List Value)) (hx : a.eval x = .slice sp n sc) (hn : l.length = n) (hrow : ∀ r ∈ l, r.length = k) (hsl : l = [] ∨ ∃ p o, sp = some ⟨p, o, none⟩ ∧ w.rangeAt p o l.flatten) (h1 : ∀ r ∈ l, ∀ u ∈ r, u.oneCell' = true) (hbig : ((R.length + n) + (R.length + n) / 4 + 192) * nb ≤ 281474976710656 ∧ R.length + n ≤ 4611686018427387904) (hB : b ≤ w.heap.size)
    (h : ∀ v' w', Or_ k e b w' v' (R ++ l) → w.grownBy w' v.ownBlock → K (a.put o.dst v') w') : o.wp Try.prog a w K Q := by
  obtain ⟨i0, z0, hi, hz0, hz1, hz2, hz3⟩ := L.hi
  have hnb := L.hn
  rcases hsl with rfl | ⟨p, q, rfl, hat⟩
  · obtain rfl : 0 = n := hn
    obtain ⟨a', c', rfl, hls⟩ := hown.ls
    have hc := hls.cap
    have hrun : (Builtin.append_ #[t, t] o.type #[.slice a' R.length c', .slice sp 0 sc]).run Try.prog w = .ok (.slice a' R.length c') w := by
      cases a' <;> cases sp <;> simp [Builtin.append_, run_underlying L.ht, sizeOf, typeInfo, hi, Builtin.lenOf, Builtin.firstCells, loadCells, loadCellsFrom, storeCells, hc]
    unfold Oper.wp
    simp [execOp, ho, resolve, invoke, builtin, hs, hx, hrun, Result.andThen]
    exact h _ _ (by rw [List.append_nil]; exact hown) (World.grownBy.refl _ _)
  · have hfl := flat_len l k hrow
    refine wp_append_own_wide w s x t ho b e i0 z0 k nb L.ht hi hz0 hz1 hz2 hz3 L.hk v R.length _ hs hown.2 ⟨p, q, none⟩ n sc l.flatten hx (by rw [hfl, hn]) ?_ ?_ (by unfold maxLen; omega) hbig.1 hB ?_
    · intro j u hj
      rw [Addr.add_mid]
      exact hat j u hj
    · intro u hu
      obtain ⟨r, hr, hu⟩ := List.mem_flatten.1 hu
      exact h1 r hr u hu
    · intro v' w' h1 h2 _
      refine h v' w' ⟨?_, ?_⟩ h2
      · intro r hr
        rcases List.mem_append.1 hr with hr | hr
        · exact hown.1 r hr
        · exact hrow r hr
      · rw [List.length_append, List.flatten_append, hn]
        exact h1
theorem app_rows {t e : TypeId} {k nb : Nat} (L : Lt t e k nb) {w : World} {o : Oper} {a : Act} {K : Act → World → Prop} {Q : Exit → Act → World → Prop} (s x : Operand)
    (ho : o.op = .call { callee := .builtin .append, args := #[s, x], argTypes := #[t, t] }) (b : Nat) (v : Value) (R : List (List Value)) (hs : a.eval s = v) (hown : Or_ k e b w v R)
    (sp : Option Addr) (n sc : Nat) (l : List (List Value)) (hx : a.eval x = .slice sp n sc) (hl : Ls k w sp n sc l) (h1 : ∀ r ∈ l, ∀ u ∈ r, u.oneCell' = true) (hbig : ((R.length + n) + (R.length + n) / 4 + 192) * nb ≤ 281474976710656 ∧ R.length + n ≤ 4611686018427387904) (hB : b ≤ w.heap.size)
    (h : ∀ v' w', Or_ k e b w' v' (R ++ l) → w.grownBy w' v.ownBlock → K (a.put o.dst v') w') : o.wp Try.prog a w K Q :=
  app_rows0 L s x ho b v R hs hown sp n sc l hx hl.len hl.row hl.sl h1 hbig hB h
/-- C holds L at its beginning -/
def Cov (C L : List Value) : Prop := ∀ (q : Nat) (x : Value), L[q]? = some x → C[q]? = some x
theorem sp_get : ∀ (vs C : List Value) (o p : Nat), o + vs.length ≤ C.length → (sp C o vs)[p]? = if o ≤ p ∧ p < o + vs.length then vs[p - o]? else C[p]?
  | [], C, o, p, _ => by rw [if_neg (by simp; try omega)]; rfl
  | v :: vs, C, o, p, h => by
    have ih := sp_get vs (C.set o v) (o + 1) p (by rw [List.length_set]; simp at h; omega)
    show (sp (C.set o v) (o + 1) vs)[p]? = _
    rw [ih]
    simp only [List.length_cons] at h ⊢
    by_cases hp : p = o
    · subst hp
      rw [if_neg (by omega), if_pos (by omega), Nat.sub_self, List.getElem?_set_self (by omega)]
      rfl
    · by_cases h2 : o + 1 ≤ p ∧ p < o + 1 + vs.length
      · rw [if_pos h2, if_pos (by omega)]
        obtain ⟨d, hd⟩ : ∃ d, p - o = d + 1 := ⟨p - o - 1, by omega⟩
        rw [hd, List.getElem?_cons_succ]
        congr 1
        omega
      · rw [if_neg h2, if_neg (by omega), List.getElem?_set_ne (by omega)]
theorem sp_length : ∀ (vs C : List Value) (o : Nat), (sp C o vs).length = C.length
  | [], C, o => rfl
  | v :: vs, C, o => by
    show (sp (C.set o v) (o + 1) vs).length = _
    rw [sp_length, List.length_set]
/-- rows of one's own: the block and its cells -/
theorem Or_.some {k : Nat} {e : TypeId} {b : Nat} {w : World} {v : Value} {R : List (List Value)} (h : Or_ k e b w v R) (hne : R ≠ []) : ∃ g c C, v = .slice (some ⟨g, 0, none⟩) R.length c ∧ b ≤ g ∧ w.heap[g]? = some (.cells (C : List Value).toArray e (0, 0)) ∧ R.length ≤ c ∧ c ≤ maxLen ∧ C.length = c * k ∧ Cov C R.flatten := by
  rcases h.2.2 with ⟨h1, h2⟩ | ⟨g, cap, cur, h1, h2, h3, h4, h5, h6, h7⟩
  · exact absurd (List.eq_nil_of_length_eq_zero h2) hne
  · refine ⟨g, cap, cur.toList, h1, h2, by simpa using h3, h4, h5, by simpa using h6, fun q x hq => ?_⟩
    have hql := (List.getElem?_eq_some_iff.1 hq).1
    rw [h.2.1] at hql
    rw [← h7, List.getElem?_take, if_pos hql] at hq
    exact hq
theorem Bl.grownR {w v v' : World} {L : List Blk} (h : Bl w L v) {k : Nat} {e : TypeId} {b : Nat} {x : Value} {R : List (List Value)} (ho : Or_ k e b v x R) (hb : w.heap.size ≤ b) (g : v.grownBy v' x.ownBlock) (ht : ∀ y ∈ L, y.t ≠ e) : Bl w L v' := by
  refine ⟨grown_owned ho.2 hb h.gr g, fun y hy => ⟨?_, (h.at_ y hy).2⟩, h.ne⟩
  have h1 := (h.at_ y hy).1
  rw [g.block y.g (lt_of_block h1) ?_]
  · exact h1
  · intro e2
    rcases ho.2.2 with ⟨rfl, _⟩ | ⟨p, cap, cur, rfl, _, h4, _⟩
    · simp [Value.ownBlock] at e2
    · have e3 : y.g = p := by simpa [Value.ownBlock] using e2
      rw [e3, h4] at h1
      have := Option.some.inj h1
      unfold Blk.obj at this
      injection this with _ h6 _
      exact ht y hy h6.symm
theorem Bl.apart {w v : World} {L : List Blk} (h : Bl w L v) {g : Nat} {c : Array Value} {t : TypeId} (hg : v.heap[g]? = some (.cells c t (0, 0))) (ht : ∀ y ∈ L, y.t ≠ t) : ∀ y ∈ L, y.g ≠ g := by
  intro y hy e
  have h1 := (h.at_ y hy).1
  rw [e, hg] at h1
  have := Option.some.inj h1
  unfold Blk.obj at this
  injection this with _ h6 _
  exact ht y hy h6.symm
theorem Fr2.ne {w : World} {a a' : Option Addr} (h : Fr2 w a a') {g : Nat} (hg : g < w.heap.size) (ha : blkOf a ≠ some g) : blkOf a' ≠ some g := fun e => by
  rcases h g e with h | h
  · exact ha h
  · omega
theorem Try.cells_b : Try.prog.cellsOf 5 = 1 := by kernel_rfl
theorem Try.plain_b : Try.prog.plainKey 5 = true := by kernel_rfl
theorem eqs_b (k m : List Int) (hl : k.length = m.length) (d : Nat) (is : List Nat) (h : ∀ i ∈ is, i < k.length) (w : World) : (Op.eqItems (d + 1) 5 1 (kc k) (kc m) is).run Try.prog w = .ok (decide (∀ i ∈ is, k.getD i 0 = m.getD i 0)) w := by
  induction is with
  | nil => simp [Op.eqItems]
  | cons i is ih =>
    have hi : i < k.length := h i (by simp)
    have hp : ∀ m : List Int, i < m.length → (part 5 (kc m) (i * 1)).run Try.prog w = .ok (.int .u8 (m.getD i 0)) w := by
      intro m hm
      refine run_part_plain w Try.plain_b ?_
      simp [kc, List.getD, List.getElem?_eq_getElem hm]
    have he := run_equalIn_int (P := Try.prog) w d 5 .u8 .u8 (k.getD i 0) (m.getD i 0) Try.underlying5
    simp only [Op.eqItems, Sem.run_bind, hp k hi, hp m (by omega), he, Result.andThen_ok]
    have ih := ih (fun j hj => h j (List.mem_cons_of_mem _ hj))
    by_cases hq : k.getD i 0 = m.getD i 0
    · simp only [hq, beq_self_eq_true, if_true, List.mem_cons, forall_eq_or_imp, true_and]
      exact ih
    · have hq2 : (k.getD i 0 == m.getD i 0) = false := by simpa using hq
      simp only [hq2, List.mem_cons, forall_eq_or_imp, hq, false_and, decide_false]
      rfl
/-- but for the blocks F nothing that was there has turned; F' are theirs, or new -/
structure Chg (F F' : List Nat) (w v : World) : Prop where
  os : v.os = w.os
  tape : v.tape = w.tape
  output : v.output = w.output
  size : w.heap.size ≤ v.heap.size
  block : ∀ i, i < w.heap.size → i ∉ F → v.heap[i]? = w.heap[i]?
  new : ∀ i ∈ F', i ∈ F ∨ w.heap.size ≤ i
theorem Gr.chg0 {w v : World} (h : Gr w v) (F : List Nat) : Chg F F w v := ⟨h.os, h.tape, h.output, h.size, fun i hi _ => h.block i hi, fun i hi => .inl hi⟩
theorem Gr.chg {F F' : List Nat} {w u v : World} (h : Gr w u) (k : Chg F F' u v) : Chg F F' w v :=
  ⟨k.os.trans h.os, k.tape.trans h.tape, k.output.trans h.output, Nat.le_trans h.size k.size, fun i hi hn => (k.block i (Nat.lt_of_lt_of_le hi h.size) hn).trans (h.block i hi), fun i hi => (k.new i hi).imp id (Nat.le_trans h.size)⟩
theorem Chg.gr {F F' : List Nat} {w u v : World} (h : Chg F F' w u) (k : Gr u v) : Chg F F' w v :=
  ⟨k.os.trans h.os, k.tape.trans h.tape, k.output.trans h.output, Nat.le_trans h.size k.size, fun i hi hn => (k.block i (Nat.lt_of_lt_of_le hi h.size)).trans (h.block i hi hn), h.new⟩
theorem Chg.bt {F F' : List Nat} {w u v : World} {b : Nat} (h : Chg F F' w u) (k : Bt b u v) (hb : w.heap.size ≤ b) : Chg F F' w v :=
  ⟨k.os.trans h.os, k.tape.trans h.tape, k.output.trans h.output, Nat.le_trans h.size k.size, fun i hi hn => (k.block i (Nat.lt_of_lt_of_le hi h.size) (by omega)).trans (h.block i hi hn), h.new⟩
theorem Chg.blk {F F' : List Nat} {w v : World} (h : Chg F F' w v) {b : Nat} {o : Obj} (hp : w.heap[b]? = some o) (hb : b ∉ F) : v.heap[b]? = some o := by rw [h.block b (lt_of_block hp) hb]; exact hp
theorem Chg.own {F F' : List Nat} {w u v : World} (h : Gr w u) (k : Chg F F' u v) (hF : ∀ i ∈ F, w.heap.size ≤ i) : Gr w v :=
  ⟨k.os.trans h.os, k.tape.trans h.tape, k.output.trans h.output, Nat.le_trans h.size k.size, fun i hi => (k.block i (Nat.lt_of_lt_of_le hi h.size) (fun hm => by have := hF i hm; omega)).trans (h.block i hi)⟩
theorem Chg.bt2 {F : List Nat} {w u v : World} {b : Nat} (h : Chg F F w u) (k : Bt b u v) (hb : b ∈ F ∨ w.heap.size ≤ b) : Chg F F w v :=
  ⟨k.os.trans h.os, k.tape.trans h.tape, k.output.trans h.output, Nat.le_trans h.size k.size, fun i hi hn => (k.block i (Nat.lt_of_lt_of_le hi h.size) (by
    rintro rfl
    rcases hb with hb | hb
    · exact hn hb
    · omega)).trans (h.block i hi hn), fun i hi => .inl hi⟩
theorem Chg.trans {F : List Nat} {w u v : World} (h : Chg F F w u) (k : Chg F F u v) : Chg F F w v :=
  ⟨k.os.trans h.os, k.tape.trans h.tape, k.output.trans h.output, Nat.le_trans h.size k.size, fun i hi hn => (k.block i (Nat.lt_of_lt_of_le hi h.size) hn).trans (h.block i hi hn), fun i hi => .inl hi⟩
theorem Chg.cell {F F' : List Nat} {w v : World} (h : Chg F F' w v) {p o : Nat} {x : Value} (hp : w.cell? ⟨p, o, none⟩ = some x) (hb : p ∉ F) : v.cell? ⟨p, o, none⟩ = some x := by
  rw [cell_heap (h.block p (lt_of_cell hp) hb)]; exact hp
/-- a world without blocks -/
def bare (w : World) : World := { w with heap := #[] }
/-- blocks of the call's own, or of F, which may be turned -/
structure Bc (F : List Nat) (w : World) (L : List Blk) (v : World) : Prop where
  bl : Bl (bare w) L v
  chg : Chg F F w v
  fo : ∀ x ∈ L, x.g ∈ F ∨ w.heap.size ≤ x.g
theorem fo_set {P : Nat → Prop} {L : List Blk} (h : ∀ x ∈ L, P x.g) (i : Nat) {x : Blk} (hi : L[i]? = some x) (c : Array Value) (t : TypeId) : ∀ y ∈ L.set i ⟨x.g, c, t⟩, P y.g := fun y hy =>
  (List.mem_or_eq_of_mem_set hy).elim (h y) (fun e => by rw [e]; exact h x (List.mem_of_getElem? hi))
theorem Bc.get {F : List Nat} {w v : World} {L : List Blk} (h : Bc F w L v) (i : Nat) {x : Blk} (hi : L[i]? = some x) : v.heap[x.g]? = some (.cells x.c x.t (0, 0)) := h.bl.get i hi
theorem Bc.own {F : List Nat} {w v : World} {L : List Blk} (h : Bc F w L v) (i : Nat) {x : Blk} (hi : L[i]? = some x) : x.g ∈ F ∨ w.heap.size ≤ x.g := h.fo x (List.mem_of_getElem? hi)
theorem Bc.more {F : List Nat} {w u v : World} {L : List Blk} (h : Bc F w L u) (k : Gr u v) : Bc F w L v := ⟨h.bl.more k, h.chg.gr k, h.fo⟩
theorem Bc.drew {F : List Nat} {w v : World} {L : List Blk} (h : Bc F w L v) : Bc F w L v.drew := h.more (Gr.refl v).drew
theorem Bc.cell {F : List Nat} {w v : World} {L : List Blk} (h : Bc F w L v) (k : Nat) {x : Blk} (hk : L[k]? = some x) (i : Nat) (y : Value) : Bc F w (L.set k ⟨x.g, x.c.setIfInBounds i y, x.t⟩) (v.setCell ⟨x.g, i, none⟩ y) :=
  ⟨h.bl.cell k hk i y, h.chg.bt2 (Bt.setCell v i y) (h.own k hk), fo_set (P := fun g => g ∈ F ∨ w.heap.size ≤ g) h.fo k hk _ _⟩
theorem Bc.set {F : List Nat} {w v : World} {L : List Blk} (h : Bc F w L v) (k : Nat) {x : Blk} (hk : L[k]? = some x) (c : Array Value) : Bc F w (L.set k ⟨x.g, c, x.t⟩) (v.setRow x.g c) :=
  ⟨h.bl.set k hk c, h.chg.bt2 ((Bt.refl x.g v).row_self c) (h.own k hk), fo_set (P := fun g => g ∈ F ∨ w.heap.size ≤ g) h.fo k hk _ _⟩
theorem Bc.but {F : List Nat} {w u v : World} {L : List Blk} (h : Bc F w L u) {g : Nat} (k : Bt g u v) (i : Nat) {x : Blk} (hi : L[i]? = some x) (hx : x.g = g) {c : Array Value} (hc : v.heap[g]? = some (.cells c x.t (0, 0))) : Bc F w (L.set i ⟨g, c, x.t⟩) v := by
  subst hx
  exact ⟨h.bl.but k i hi rfl hc, h.chg.bt2 k (h.own i hi), fo_set (P := fun g => g ∈ F ∨ w.heap.size ≤ g) h.fo i hi _ _⟩
theorem Bc.new {F : List Nat} {w v : World} {L : List Blk} (h : Bc F w L v) (c : Array Value) (t : TypeId) : Bc F w (L ++ [⟨v.heap.size, c, t⟩]) (v.alloc (.cells c t (0, 0))) :=
  ⟨h.bl.new c t, h.chg.gr ((Gr.refl v).alloc _), fun x hx => (List.mem_append.1 hx).elim (h.fo x) (fun e => by rw [List.mem_singleton] at e; rw [e]; exact .inr h.chg.size)⟩
theorem Bc.nil (F : List Nat) (w : World) : Bc F w [] w := ⟨⟨⟨rfl, rfl, rfl, Nat.zero_le _, fun i hi => absurd hi (Nat.not_lt_zero i)⟩, (fun _ h => by cases h), List.Pairwise.nil⟩, (Gr.refl w).chg0 F, fun _ h => by cases h⟩
theorem Bc.add {F : List Nat} {w v : World} {L : List Blk} (h : Bc F w L v) (x : Blk) (hx : v.heap[x.g]? = some x.obj) (hw : x.g ∈ F ∨ w.heap.size ≤ x.g) (hn : ∀ y ∈ L, y.g ≠ x.g) : Bc F w (L ++ [x]) v :=
  ⟨h.bl.add x hx (Nat.zero_le _) hn, h.chg, fun y hy => (List.mem_append.1 hy).elim (h.fo y) (fun e => by rw [List.mem_singleton] at e; rw [e]; exact hw)⟩
/-- blocks of unlike types are two -/
theorem ty_ne {v : World} {a b : Nat} {c d : Array Value} {s t : TypeId} (ha : v.heap[a]? = some (.cells c s (0, 0))) (hb : v.heap[b]? = some (.cells d t (0, 0))) (hn : s ≠ t) : a ≠ b := by
  rintro rfl
  rw [ha] at hb
  have := Option.some.inj hb
  injection this with _ h6 _
  exact hn h6
theorem or_blk_lt {k : Nat} {e : TypeId} {b : Nat} {w : World} {a : Option Addr} {n c : Nat} {R : List (List Value)} (h : Or_ k e b w (.slice a n c) R) {i : Nat} (hi : blkOf a = some i) : ∃ cur, w.heap[i]? = some (.cells cur e (0, 0)) := by
  rcases h.2.2 with ⟨h1, _⟩ | ⟨g, cap, cur, h1, _, h3, _⟩
  · injection h1 with h1 _ _
    rw [h1] at hi
    cases hi
  · injection h1 with h1 _ _
    rw [h1] at hi
    have : g = i := by simpa [blkOf] using hi
    subst this
    exact ⟨cur, h3⟩
theorem or_keep {k : Nat} {e : TypeId} {b : Nat} {w u : World} {a : Option Addr} {n c : Nat} {R : List (List Value)} (h : Or_ k e b w (.slice a n c) R) (hk : ∀ i, blkOf a = some i → u.heap[i]? = w.heap[i]?) : Or_ k e b u (.slice a n c) R := by
  refine ⟨h.1, h.2.1, ?_⟩
  rcases h.2.2 with ⟨h1, h2⟩ | ⟨g, cap, cur, h1, h2, h3, h4⟩
  · exact .inl ⟨h1, h2⟩
  · refine .inr ⟨g, cap, cur, h1, h2, ?_, h4⟩
    injection h1 with h1 _ _
    rw [hk g (by rw [h1]; rfl)]
    exact h3
abbrev P0 (g : Nat) : Value := .pointer (some ⟨g, 0, none⟩)
def Vl (v : Value) (w : World) (r : Ending) (w' : World) : Prop := r = .returned v ∧ Gr w w'
theorem or_base {k : Nat} {e : TypeId} {b c : Nat} {w : World} {v : Value} {R : List (List Value)} (h : Or_ k e b w v R) (hc : c ≤ b) : Or_ k e c w v R := by
  refine ⟨h.1, h.2.1, ?_⟩
  rcases h.2.2 with h1 | ⟨g, cap, cur, h1, h2, h3⟩
  · exact .inl h1
  · exact .inr ⟨g, cap, cur, h1, Nat.le_trans hc h2, h3⟩
theorem or_bt {k : Nat} {e : TypeId} {b : Nat} {u u' : World} {v : Value} {R : List (List Value)} (h : Or_ k e b u v R) {g : Nat} {c : Array Value} {t : TypeId} (hg : u.heap[g]? = some (.cells c t (0, 0))) (ht : t ≠ e) (hk : Bt g u u') : Or_ k e b u' v R := by
  refine ⟨h.1, h.2.1, ?_⟩
  rcases h.2.2 with h1 | ⟨p, cap, cur, h1, h2, h3, h4⟩
  · exact .inl h1
  · exact .inr ⟨p, cap, cur, h1, h2, hk.blk h3 (ty_ne h3 hg (Ne.symm ht)), h4⟩
/-- a row is put behind rows: they lie where they lay, or in what is new -/
theorem app_row1 {t e : TypeId} {k nb : Nat} (L : Lt t e k nb) {w : World} {o : Oper} {a : Act} {K : Act → World → Prop} {Q : Exit → Act → World → Prop} (s x : Operand)
    (ho : o.op = .call { callee := .builtin .append, args := #[s, x], argTypes := #[t, t] }) (v : Value) (R : List (List Value)) (hs : a.eval s = v) (hown : Or_ k e 0 w v R)
    (p q sc : Nat) (r : List Value) (hx : a.eval x = .slice (some ⟨p, q, none⟩) 1 sc) (hrow : r.length = k) (hat : w.rangeAt p q r) (h1 : ∀ u ∈ r, u.oneCell' = true) (hbig : ((R.length + 1) + (R.length + 1) / 4 + 192) * nb ≤ 281474976710656 ∧ R.length + 1 ≤ 4611686018427387904)
    (h : ∀ v' w', Or_ k e 0 w' v' (R ++ [r]) → w.grownBy w' v.ownBlock → (v'.ownBlock = v.ownBlock ∨ v'.ownBlock = some w.heap.size) → K (a.put o.dst v') w') : o.wp Try.prog a w K Q := by
  obtain ⟨i0, z0, hi, hz0, hz1, hz2, hz3⟩ := L.hi
  have hat2 : ∀ j u, r[j]? = some u → w.cell? ((⟨p, q, none⟩ : Addr).add j) = some u := fun j u hj => by rw [Addr.add_mid]; exact hat j u hj
  have hrl : r.length = 1 * k := by omega
  obtain ⟨v', w', hr, h2, h3, -⟩ := run_append_own_wide (P := Try.prog) w 0 t o.type e i0 z0 k nb L.ht hi hz0 hz1 hz2 hz3 L.hk v R.length _ hown.2 ⟨p, q, none⟩ 1 sc r hrl hat2 h1 (by unfold maxLen; omega) hbig.1 (Nat.zero_le _)
  have hwh : v'.ownBlock = v.ownBlock ∨ v'.ownBlock = some w.heap.size := by
    subst hz1 hz2
    rcases hown.2.2 with ⟨e1, e2⟩ | ⟨g, cap, cur, e1, hbg, hg, hnc, hcm, hcs, htake⟩
    · subst e1
      have hr2 := run_append_nil (P := Try.prog) w t o.type e i0 z0 L.ht hi hz0 ⟨p, q, none⟩ 1 sc r hrl hat2 (by omega) (by omega) (Nat.le_trans (Nat.mul_le_mul_right _ (by omega)) hbig.1)
      rw [hr2] at hr
      injection hr with hr _
      rw [← hr]
      exact .inr rfl
    · subst e1
      by_cases hroom : R.length + 1 ≤ cap
      · have hfit : R.length * i0.size + r.length ≤ cur.size := by rw [hrl, hcs, ← Nat.add_mul]; exact Nat.mul_le_mul_right _ hroom
        have hr2 := run_append_room (P := Try.prog) w t o.type e i0 L.ht hi g R.length cap cur hg ⟨p, q, none⟩ 1 sc r hrl hat2 h1 hroom hfit
        rw [hr2] at hr
        injection hr with hr _
        rw [← hr]
        exact .inl rfl
      · have hr2 := run_append_grow (P := Try.prog) w t o.type e i0 z0 L.ht hi hz0 ⟨g, 0, none⟩ R.length cap _ hown.2.1 (hown.2.cells (g := g) rfl) ⟨p, q, none⟩ 1 sc r hrl hat2 (by omega) (by omega) (growslice_fits_wide (by omega) hbig.1)
        rw [hr2] at hr
        injection hr with hr _
        rw [← hr]
        exact .inr rfl
  unfold Oper.wp execOp
  simp only [ho, resolve, invoke, builtin, Sem.run_bind, Sem.run_pure, Result.andThen_ok, List.map_toArray, List.map_cons, List.map_nil, hs, hx, hr]
  refine h v' w' ⟨?_, ?_⟩ h3 hwh
  · intro x hx
    rcases List.mem_append.1 hx with hx | hx
    · exact hown.1 x hx
    · rw [List.mem_singleton] at hx
      rw [hx]
      exact hrow
  · rw [List.length_append, List.flatten_append]
    simpa using h2
theorem Ls.chg {k : Nat} {F F' : List Nat} {w v : World} {a : Option Addr} {n c : Nat} {R : List (List Value)} (h : Ls k w a n c R) (b : Chg F F' w v) (hg : ∀ i ∈ F, blkOf a ≠ some i) : Ls k v a n c R := by
  refine ⟨h.len, h.row, ?_, h.cap, h.max, fun p e => Nat.lt_of_lt_of_le (h.low p e) b.size⟩
  rcases h.sl with h0 | ⟨p, o, rfl, h2⟩
  · exact .inl h0
  · refine .inr ⟨p, o, rfl, fun j x hj => ?_⟩
    have h3 := h2 j x hj
    rw [cell_heap (b.block p (lt_of_cell h3) (fun hm => hg p hm rfl))]
    exact h3
/-- the low form of x, of k bytes -/
def lowL (x : Int) : Nat → List Int
  | 0 => []
  | k + 1 => x % 256 :: lowL (x / 256) k
theorem lowL_len (x : Int) (k : Nat) : (lowL x k).length = k := by
  induction k generalizing x with
  | zero => rfl
  | succ k ih => simp [lowL, ih]
theorem lowL_isB (x : Int) (k : Nat) : IsB (lowL x k) := by
  induction k generalizing x with
  | zero => intro y hy; cases hy
  | succ k ih =>
    intro y hy
    simp only [lowL, List.mem_cons] at hy
    rcases hy with rfl | hy
    · omega
    · exact ih _ y hy
/-- the number whose low form is l -/
def lowN : List Int → Int
  | [] => 0
  | x :: r => x + 256 * lowN r
theorem lowN_bd (l : List Int) (h : IsB l) : 0 ≤ lowN l ∧ lowN l < 256 ^ l.length := by
  induction l with
  | nil => simp [lowN]
  | cons x r ih =>
    have := ih (fun y hy => h y (List.mem_cons_of_mem _ hy))
    have hx := h x (List.mem_cons_self ..)
    simp only [lowN, List.length_cons]
    rw [Int.pow_succ]
    omega
theorem lowN_lowL : ∀ (k : Nat) (x : Int), 0 ≤ x → x < 256 ^ k → lowN (lowL x k) = x
  | 0, x, h1, h2 => by
    rw [Int.pow_zero] at h2
    show (0 : Int) = x
    omega
  | k + 1, x, h1, h2 => by
    rw [Int.pow_succ] at h2
    have ih := lowN_lowL k (x / 256) (by omega) (by omega)
    rw [lowL, lowN, ih]
    omega
theorem lowL_lowN : ∀ (l : List Int), IsB l → lowL (lowN l) l.length = l
  | [], _ => rfl
  | x :: r, h => by
    have hx := h x List.mem_cons_self
    have ih := lowL_lowN r (fun y hy => h y (List.mem_cons_of_mem _ hy))
    rw [lowN, List.length_cons, lowL]
    have e1 : (x + 256 * lowN r) % 256 = x := by omega
    have e2 : (x + 256 * lowN r) / 256 = lowN r := by omega
    rw [e1, e2, ih]
/-- a list of bytes somewhere -/
structure Lb (w : World) (a : Option Addr) (n c : Nat) (P : List Int) : Prop where
  len : P.length = n
  isB : IsB P
  sl : Sl w a P
  cap : n ≤ c
  max : c < 9223372036854775808
theorem Lb.gr {w v : World} {a : Option Addr} {n c : Nat} {P : List Int} (h : Lb w a n c P) (k : Gr w v) : Lb v a n c P := ⟨h.len, h.isB, h.sl.gr k, h.cap, h.max⟩
theorem Lb.nil (w : World) : Lb w none 0 0 [] := ⟨rfl, (by intro x hx; cases hx), .inl rfl, by omega, by omega⟩
def Infd (L : List Int) (w : World) (r : Ending) (w' : World) : Prop := ∃ v, r = .returned v ∧ Ob w.heap.size w' v L ∧ Gr w w'
theorem Lb.cellAt {w : World} {a : Option Addr} {n c : Nat} {B : List Int} (h : Lb w a n c B) {k : Nat} (hk : k < n) : ∃ p o, a = some ⟨p, o, none⟩ ∧ w.cell? ⟨p, o + k, none⟩ = some (.int .u8 (B.getD k 0)) := by
  have hl := h.len
  rcases h.sl with h1 | ⟨p, o, h1, h2⟩
  · rw [h1] at hl; simp at hl; omega
  · exact ⟨p, o, h1, h2 k (by omega)⟩
theorem take_next (B : List Int) (k : Nat) (h : k < B.length) : B.take (k + 1) = B.take k ++ [B.getD k 0] := by
  rw [List.take_add_one, List.getElem?_eq_getElem h]
  simp [h]
theorem lowL_snoc (x : Int) (k : Nat) : lowL x (k + 1) = lowL x k ++ [x / 256 ^ k % 256] := by
  induction k generalizing x with
  | zero => simp [lowL]
  | succ k ih =>
    have e : x / 256 / 256 ^ k = x / 256 ^ (k + 1) := by rw [Int.pow_succ, Int.mul_comm, Int.ediv_ediv_of_nonneg (by omega)]
    rw [lowL, ih, lowL, List.cons_append, e]
/-- new bytes -/
def Nwb (L : List Int) (n : Nat) (w : World) (r : Ending) (w' : World) : Prop := ∃ g, r = .returned (.slice (some ⟨g, 0, none⟩) n n) ∧ w.heap.size ≤ g ∧ w'.heap[g]? = some (.cells (kc L) 5 (0, 0)) ∧ Gr w w'
theorem ob_base {b c : Nat} {w : World} {v : Value} {L : List Int} (h : Ob b w v L) (hc : c ≤ b) : Ob c w v L := by
  refine ⟨h.1, ?_⟩
  rcases h.2 with h1 | ⟨g, cap, cur, h1, h2, h3⟩
  · exact .inl h1
  · exact .inr ⟨g, cap, cur, h1, Nat.le_trans hc h2, h3⟩
theorem exec_const {op : Oper} {a : Act} (w : World) (x : Operand) (ho : op.op = .convert 53 53 x) (C : Array Value) (n c : Nat) (hx : a.eval x = .slice (some ⟨w.heap.size, 0, none⟩) n c) :
    (execOp a.eval op).run Try.prog (w.alloc (.cells C 5 (0, 0))) = .ok (.value (.slice (some ⟨w.heap.size, 0, none⟩) n c)) (w.alloc (.cells C 5 (C.size, C.size + 1))) := by
  have h := Lib.run_convert_bytes_const (P := Try.prog) w 53 5 C n c Try.underlying53 Try.underlying5
  unfold execOp
  simp only [ho, hx, Sem.run_bind, h, Result.andThen_ok, Sem.run_pure]
theorem ob_lb {b : Nat} {w : World} {v : Value} {L : List Int} (h : Ob b w v L) (hb : IsB L) {n : Nat} (hn : L.length = n) : ∃ a c, v = .slice a n c ∧ Lb w a n c L := by
  obtain ⟨a, c, h1, h2, h3, h4⟩ := h.slice
  subst hn
  exact ⟨a, c, h1, rfl, hb, h4, h2, by unfold maxLen at h3; omega⟩
theorem isB_app {A B : List Int} (ha : IsB A) (hb : IsB B) : IsB (A ++ B) := fun x hx => (List.mem_append.1 hx).elim (ha x) (hb x)
theorem sub_lb {v : World} {g : Nat} {b : List Int} {t : TypeId} (h : v.heap[g]? = some (.cells (kc b) t (0, 0))) (hb : IsB b) (o n c : Nat) (hon : o + n ≤ b.length) (hc : n ≤ c) (hm : c < 9223372036854775808) : Lb v (some ⟨g, o, none⟩) n c ((b.drop o).take n) := by
  refine ⟨by rw [List.length_take, List.length_drop]; omega, fun x hx => hb x (List.mem_of_mem_drop (List.mem_of_mem_take hx)), .inr ⟨g, o, rfl, fun j hj => ?_⟩, hc, hm⟩
  rw [List.length_take, List.length_drop] at hj
  rw [kc_cell h (o + j) (by omega), List.getD_eq_getElem?_getD, List.getD_eq_getElem?_getD, List.getElem?_take, if_pos (by omega), List.getElem?_drop]
theorem ob_fr {w u : World} {b : Nat} {a : Option Addr} {n c : Nat} {L : List Int} (h : Ob b u (.slice a n c) L) (hb : w.heap.size ≤ b) : Fr2 w none a := by
  rcases h.2 with ⟨h1, _⟩ | ⟨g, cap, cur, h1, h2, _⟩
  · injection h1 with h1 _ _
    rw [h1]
    exact Fr2.refl _ _
  · injection h1 with h1 _ _
    rw [h1]
    exact Fr2.new none (Nat.le_trans hb h2)
theorem ob_bt {b : Nat} {u u' : World} {v : Value} {L : List Int} (h : Ob b u v L) {g : Nat} {c : Array Value} {t : TypeId} (hg : u.heap[g]? = some (.cells c t (0, 0))) (ht : t ≠ 5) (hk : Bt g u u') : Ob b u' v L := by
  refine ⟨h.1, ?_⟩
  rcases h.2 with h1 | ⟨p, cap, cur, h1, h2, h3, h4⟩
  · exact .inl h1
  · exact .inr ⟨p, cap, cur, h1, h2, hk.blk h3 (ty_ne h3 hg (Ne.symm ht)), h4⟩
theorem ob_lb2 {b : Nat} {w : World} {a : Option Addr} {n c : Nat} {L : List Int} (h : Ob b w (.slice a n c) L) (hb : IsB L) (hn : L.length = n) : Lb w a n c L := by
  obtain ⟨a', c', e, h2⟩ := ob_lb h hb hn
  injection e with e1 e2 e3
  rw [e1, e3]
  exact h2
theorem exec_u64 {op : Oper} {a : Act} (w : World) (x : Operand) (ho : op.op = .load 74 x) (g i : Nat) (hx : a.eval x = .pointer (some ⟨g, i, none⟩)) (v : Int) (hc : w.cell? ⟨g, i, none⟩ = some (.int .u64 v)) : (execOp a.eval op).run Try.prog w = .ok (.value (.int .u64 v)) w := by
  unfold execOp
  simp only [ho, hx, Instr.loadAt, Instr.sureAddr, Sem.run_bind, Sem.run_pure, Result.andThen_ok]
  go_simp
theorem bl_join {w u v : World} {L : List Blk} (h : Bl w L u) (k : Gr u v) (M : List Blk) (hM : ∀ x ∈ M, v.heap[x.g]? = some x.obj ∧ u.heap.size ≤ x.g) (hne : M.Pairwise (fun x y => x.g ≠ y.g)) : Bl w (L ++ M) v := by
  have h1 := h.more k
  refine ⟨h1.gr, fun x hx => ?_, List.pairwise_append.2 ⟨h1.ne, hne, fun x hx y hy e => ?_⟩⟩
  · rcases List.mem_append.1 hx with hx | hx
    · exact h1.at_ x hx
    · exact ⟨(hM x hx).1, Nat.le_trans h.gr.size (hM x hx).2⟩
  · have a := lt_of_block (h.at_ x hx).1
    have b := (hM y hy).2
    omega
theorem exec_sby {op : Oper} {a : Act} (w : World) (x : Operand) (ho : op.op = .load 53 x) (g i : Nat) (hx : a.eval x = .pointer (some ⟨g, i, none⟩)) (s : Option Addr) (n c : Nat) (hc : w.cell? ⟨g, i, none⟩ = some (.slice s n c)) : (execOp a.eval op).run Try.prog w = .ok (.value (.slice s n c)) w := by
  unfold execOp
  simp only [ho, hx, Instr.loadAt, Instr.sureAddr, Sem.run_bind, Sem.run_pure, Result.andThen_ok]
  go_simp
theorem Lb.pre {w : World} {a : Option Addr} {n c : Nat} {P : List Int} (h : Lb w a n c P) (m : Nat) (hm : m ≤ n) : Lb w a m c (P.take m) := by
  have h1 := h.len
  have h2 := h.cap
  refine ⟨by rw [List.length_take]; omega, fun x hx => h.isB x (List.mem_of_mem_take hx), ?_, by omega, h.max⟩
  rcases h.sl with h3 | ⟨p, o, h3, h4⟩
  · left; rw [h3]; exact List.take_nil
  · right; exact ⟨p, o, h3, h4.take m⟩
theorem ob_none (b : Nat) (w : World) : Ob b w (.slice none 0 0) [] := ⟨rfl, .inl ⟨rfl, rfl⟩⟩
theorem IsB.take {B : List Int} (h : IsB B) (n : Nat) : IsB (B.take n) := fun x hx => h x (List.mem_of_mem_take hx)
theorem IsB.drop {B : List Int} (h : IsB B) (n : Nat) : IsB (B.drop n) := fun x hx => h x (List.mem_of_mem_drop hx)
/-- new memory is a list of bytes -/
theorem kc_lb {w : World} {g : Nat} {X : List Int} {t : TypeId} {n : Nat} (h : w.heap[g]? = some (.cells (kc X) t (0, 0))) (hn : X.length = n) (hX : IsB X) (hb : n < 9223372036854775808) : Lb w (some ⟨g, 0, none⟩) n n X := ⟨hn, hX, .inr ⟨g, 0, rfl, kc_at h⟩, Nat.le_refl _, hb⟩
theorem ob_of {w : World} {b g n : Nat} {X : List Int} (h : w.heap[g]? = some (.cells (kc X) 5 (0, 0))) (hn : X.length = n) (hg : b ≤ g) (hb : n ≤ 140737488351232) : Ob b w (.slice (some ⟨g, 0, none⟩) n n) X := by
  subst hn
  exact ⟨by simp, .inr ⟨g, X.length, kc X, rfl, hg, h, Nat.le_refl _, by unfold maxLen; omega, by rw [kc_size, Nat.mul_one], by unfold kc; rw [Nat.mul_one]; exact List.take_of_length_le (by simp)⟩⟩
theorem Ob.lb {b : Nat} {w : World} {v : Value} {L : List Int} (h : Ob b w v L) (hb : IsB L) : ∃ a c, v = .slice a L.length c ∧ Lb w a L.length c L := by
  obtain ⟨a, c, h1, h2, h3, h4⟩ := h.slice
  exact ⟨a, c, h1, rfl, hb, h4, h2, by unfold maxLen at h3; omega⟩
/-- a slice is made, as an operation of a region that draws its order -/
theorem make_op {w : World} {o : Oper} {a : Act} {K : Act → World → Prop} {Q : Exit → Act → World → Prop} (l c : Operand) (hop : o.op = Op.makeSlice 53 l c) (n m : Nat) (hl : a.eval l = .int .i64 n) (hc : a.eval c = .int .i64 m) (hnm : n ≤ m) (hn : m ≤ 281474976710656)
    (h : K (a.put o.dst (.slice (some ⟨w.heap.size, 0, none⟩) n m)) (w.alloc (.cells (kc (List.replicate m 0)) 5 (0, 0)))) : o.wp Try.prog a w K Q := by
  obtain ⟨i, h2, h3, h4, h5⟩ := info_parts Try.info5
  have hrun := run_make (P := Try.prog) w 53 5 i (.int .u8 0) Try.underlying53 h2 h3 .i64 .i64 (n : Int) (m : Int) (by omega) (by omega) (by rw [h5]; omega) (by omega)
  rw [h4] at hrun
  have e : madeCells (Value.int .u8 0).cells m = kc (List.replicate m 0) := by
    apply Array.ext
    · simp [size_madeCells, kc]
    · intro i h1 h2
      have : i % 1 = 0 := Nat.mod_one i
      simp [madeCells, Value.cells, this, kc]
  simp only [Int.toNat_natCast, Nat.mul_one, e] at hrun
  unfold Oper.wp
  simp [execOp, hop, hl, hc, hrun, Result.andThen]
  exact h
theorem exec_upto {a : Act} {o : Oper} (w : World) (x y : Operand) (ho : o.op = .slice 53 x none (some y) none) (s : Option Addr) (len cap n : Nat) (hx : a.eval x = .slice s len cap) (hy : a.eval y = .int .i64 n) (hc : len ≤ cap) (hn : n ≤ len) :
    (execOp a.eval o).run Try.prog w = .ok (.value (.slice (if cap = 0 then s else s.map (·.add 0)) n cap)) w := by
  have h1 : (0 : Int) ≤ n := by omega
  have h2 : (n : Int) ≤ cap := by omega
  have hu : Try.prog.underlying 53 = some (.slice (Try.prog.elem 53)) := by kernel_rfl
  have hz : (sizeOf (Try.prog.elem 53)).run Try.prog w = .ok 1 w := by kernel_rfl
  simp [execOp, ho, hx, hy, run_sliceAt_slice _ _ _ _ _ _ hu, run_slice_h _ _ _ _ _ hu _ _ h1 h2, hz, sliced]
theorem exec_from {a : Act} {o : Oper} (w : World) (x y : Operand) (ho : o.op = .slice 53 x (some y) none none) (s : Option Addr) (len cap n : Nat) (hx : a.eval x = .slice s len cap) (hy : a.eval y = .int .i64 n) (hc : len ≤ cap) (hn : n ≤ len) :
    (execOp a.eval o).run Try.prog w = .ok (.value (.slice (if cap = n then s else s.map (·.add n)) (len - n) (cap - n))) w := by
  have h1 : (0 : Int) ≤ n := by omega
  have h2 : (n : Int) ≤ len := by omega
  have hu : Try.prog.underlying 53 = some (.slice (Try.prog.elem 53)) := by kernel_rfl
  have hz : (sizeOf (Try.prog.elem 53)).run Try.prog w = .ok 1 w := by kernel_rfl
  simp [execOp, ho, hx, hy, run_sliceAt_slice _ _ _ _ _ _ hu, run_slice_l _ _ _ _ _ hu _ _ h1 h2, hz, sliced]
theorem Ob.up {b b' : Nat} {w : World} {v : Value} {L : List Int} (h : Ob b w v L) (k : b' ≤ b) : Ob b' w v L := by
  obtain ⟨h1, h2 | ⟨g, cap, cur, h2, h3, h4, h5⟩⟩ := h
  · exact ⟨h1, .inl h2⟩
  · exact ⟨h1, .inr ⟨g, cap, cur, h2, by omega, h4, h5⟩⟩
theorem lowN_append (l m : List Int) : lowN (l ++ m) = lowN l + 256 ^ l.length * lowN m := by
  induction l with
  | nil => simp [lowN]
  | cons x r ih =>
    simp only [List.cons_append, lowN, ih, List.length_cons, Int.pow_succ, Int.mul_add]
    rw [Int.add_assoc, ← Int.mul_assoc, Int.mul_comm 256 (256 ^ _)]
theorem lowN_snoc (l : List Int) (c : Int) : lowN (l ++ [c]) = lowN l + c * 256 ^ l.length := by
  rw [lowN_append, Int.mul_comm]
  simp [lowN]
theorem or_step (X y : Int) (k : Nat) (hk : k < 8) (h0 : 0 ≤ X) (h1 : X < 256 ^ k) (hy0 : 0 ≤ y) (hy1 : y < 256) :
    bits .or .u64 X (IntKind.u64.wrap (y * 2 ^ (8 * k))) = X + y * 256 ^ k := by
  obtain ⟨N, rfl⟩ := Int.eq_ofNat_of_zero_le h0
  obtain ⟨Y, rfl⟩ := Int.eq_ofNat_of_zero_le hy0
  have e : (256 : Nat) ^ k = 2 ^ (8 * k) := by rw [Nat.pow_mul]
  have e1 : (256 : Int) ^ k = ((2 ^ (8 * k) : Nat) : Int) := by rw [← e]; simp
  have e2 : (2 : Int) ^ (8 * k) = ((2 ^ (8 * k) : Nat) : Int) := by simp
  have hN : N < 2 ^ (8 * k) := by rw [e1] at h1; omega
  have hY : Y < 256 := by omega
  have hle : 2 ^ (8 * k) ≤ 2 ^ 56 := Nat.pow_le_pow_right (by omega) (by omega)
  rw [e1, e2]
  generalize hP : 2 ^ (8 * k) = P at *
  have hYP : Y * P < 18446744073709551616 := by
    have : Y * P ≤ 255 * P := Nat.mul_le_mul_right _ (by omega)
    omega
  have e3 : IntKind.u64.wrap ((Y : Int) * (P : Int)) = ((Y * P : Nat) : Int) := by
    rw [IntKind.wrap_u64]
    rw [← Int.natCast_mul]
    omega
  rw [e3, u64_or_nat N (Y * P) (by omega) hYP]
  have := nat_join (8 * k) (Y * P) N (by rw [hP]; exact Nat.mul_mod_left _ _) (by rw [hP]; exact hN)
  rw [Nat.or_comm] at this
  rw [this]
  rw [← Int.natCast_mul]
  omega
theorem take_snoc_getD (l : List Int) (k : Nat) (h : k < l.length) : l.take (k + 1) = l.take k ++ [l.getD k 0] := by
  rw [List.take_succ_eq_append_getElem h, List.getD_eq_getElem?_getD, List.getElem?_eq_getElem h]; rfl
theorem lowN_step (l : List Int) (k : Nat) (y : Int) (h : k < l.length) (h8 : l.length ≤ 8) (hb : IsB l) (hy : y = l.getD k 0) :
    bits .or .u64 (lowN (l.take k)) (IntKind.u64.wrap (y * 2 ^ (8 * k))) = lowN (l.take (k + 1)) := by
  have hm := hb.at_ k
  have hbd := lowN_bd (l.take k) (hb.take k)
  have hlen : (l.take k).length = k := by simp; omega
  rw [hlen] at hbd
  rw [take_snoc_getD l k h, lowN_snoc, hlen, ← hy]
  rw [← hy] at hm
  exact or_step _ _ k (by omega) hbd.1 hbd.2 hm.1 hm.2
set_option maxHeartbeats 400000 in
theorem onum_ok (p o n c : Nat) (l : List Int) (w : World) (hl : l.length = n) (hn : n ≤ 8) (hb : IsB l) (hat : At w p o l) :
    Calls Try.prog 68 #[.slice (some ⟨p, o, none⟩) n c] w fun e w' => e = .returned (.int .u64 (lowN l)) ∧ w' = w := by
  have hc : ∀ i, i < n → w.cell? ⟨p, o + i, none⟩ = some (.int .u8 (l.getD i 0)) := fun i hi => hat i (by omega)
  clear hat
  go_enter Try.func68, Try.ntmps68
  go_wp2
  go_loop [3, 8] (fun x i => ∃ k : Nat, k ≤ n ∧ i = .int .i64 k ∧ x = .int .u64 (lowN (l.take k))) (fun _ i => n - (intOf i).toNat)
  case atStart => exact ⟨0, Nat.zero_le _, rfl, by simp [lowN]⟩
  case round =>
    obtain ⟨k, hk, rfl, rfl⟩ := hrel
    by_cases hlt : k < n
    · have hck := hc k hlt
      have hx := hb.at_ k
      obtain ⟨y, hy⟩ : ∃ y, y = l.getD k 0 := ⟨_, rfl⟩
      rw [← hy] at hck hx
      have HB : Hid (∀ y, y = l.getD k 0 → bits .or .u64 (lowN (l.take k)) (IntKind.u64.wrap (y * 2 ^ (8 * k))) = lowN (l.take (k + 1))) := fun y hy => lowN_step l k y (by omega) (by omega) hb hy
      have HY := hide hy
      obtain ⟨hx0, hx1⟩ := hx
      clear hy hc hb
      go_wp2
      go_round
      case rel => exact ⟨k + 1, by omega, by go_num, by rw [unhide HB y HY]⟩
      case measure => simp [intOf]; omega
    · go_wp2
      go_ret
      rw [List.take_of_length_le (by omega)]
      exact ⟨rfl, rfl⟩
/-- bytes laid over bytes -/
def lay (C : List Int) (o : Nat) (S : List Int) : List Int := C.take o ++ (S ++ C.drop (o + S.length))
theorem sp_lay (C S : List Int) (o : Nat) (h : o + S.length ≤ C.length) : sp (C.map (Value.int .u8)) o (S.map (Value.int .u8)) = (lay C o S).map (Value.int .u8) := by
  have e : C = C.take o ++ ((C.drop o).take S.length ++ C.drop (o + S.length)) := by rw [← List.drop_drop, List.take_append_drop, List.take_append_drop]
  have h1 := sp_mid (S.map (Value.int .u8)) ((C.take o).map (Value.int .u8)) (((C.drop o).take S.length).map (Value.int .u8)) ((C.drop (o + S.length)).map (Value.int .u8)) (by simp; omega)
  rw [List.length_map, List.length_take, Nat.min_eq_left (by omega), ← List.map_append, ← List.map_append, ← e] at h1
  rw [h1]
  simp [lay]
/-- copy into a row of bytes -/
theorem laid {w : World} {g o : Nat} {C S : List Int} {t : TypeId} (h : w.heap[g]? = some (.cells (kc C) t (0, 0))) (ho : o + S.length ≤ C.length) : (w.setCells g o (S.map (Value.int .u8))).heap[g]? = some (.cells (kc (lay C o S)) t (0, 0)) := by
  rw [setCells_heap _ w g o (C.map (Value.int .u8)) t h, sp_lay C S o ho]
  rfl
theorem lay_all (C S : List Int) (h : S.length = C.length) : lay C 0 S = S := by
  unfold lay
  rw [List.take_zero, List.nil_append, Nat.zero_add, List.drop_of_length_le (by omega), List.append_nil]
theorem u8_or_nat (a b : Nat) (ha : a < 256) (hb : b < 256) : bits .or .u8 (a : Int) (b : Int) = ((a ||| b : Nat) : Int) := by
  have hx : a ||| b < 2 ^ 8 := Nat.or_lt_two_pow (by omega) (by omega)
  have h1 : (BitVec.ofInt 8 (a : Int)).toNat = a := by
    rw [BitVec.ofInt_natCast, BitVec.toNat_ofNat]; exact Nat.mod_eq_of_lt (by omega)
  have h2 : (BitVec.ofInt 8 (b : Int)).toNat = b := by
    rw [BitVec.ofInt_natCast, BitVec.toNat_ofNat]; exact Nat.mod_eq_of_lt (by omega)
  show IntKind.u8.wrap ((BitVec.ofInt 8 (a : Int) ||| BitVec.ofInt 8 (b : Int)).toNat : Int) = _
  rw [BitVec.toNat_or, h1, h2, IntKind.wrap_u8]
  omega
theorem nat_or_zero (a b : Nat) : a ||| b = 0 ↔ a = 0 ∧ b = 0 := by
  constructor
  · intro h
    have h1 := Nat.left_le_or (n := a) (m := b)
    have h2 := Nat.right_le_or (n := a) (m := b)
    omega
  · rintro ⟨rfl, rfl⟩; rfl
theorem nat_xor_zero (a b : Nat) : a ^^^ b = 0 ↔ a = b := by
  constructor
  · intro h
    have : a ^^^ b ^^^ b = 0 ^^^ b := by rw [h]
    rw [Nat.xor_assoc, Nat.xor_self, Nat.xor_zero, Nat.zero_xor] at this
    exact this
  · rintro rfl; exact Nat.xor_self a
theorem or_xor (u x y : Int) (hu : 0 ≤ u ∧ u < 256) (hx : 0 ≤ x ∧ x < 256) (hy : 0 ≤ y ∧ y < 256) :
    (0 ≤ bits .or .u8 u (bits .xor .u8 x y) ∧ bits .or .u8 u (bits .xor .u8 x y) < 256) ∧ (bits .or .u8 u (bits .xor .u8 x y) = 0 ↔ u = 0 ∧ x = y) := by
  obtain ⟨U, rfl⟩ := Int.eq_ofNat_of_zero_le hu.1
  obtain ⟨X, rfl⟩ := Int.eq_ofNat_of_zero_le hx.1
  obtain ⟨Y, rfl⟩ := Int.eq_ofNat_of_zero_le hy.1
  have h1 : X ^^^ Y < 256 := Nat.xor_lt_two_pow (n := 8) (by omega) (by omega)
  rw [u8_xor_nat X Y (by omega) (by omega), u8_or_nat U (X ^^^ Y) (by omega) h1]
  have h2 : U ||| (X ^^^ Y) < 256 := Nat.or_lt_two_pow (n := 8) (by omega) h1
  have h3 := nat_or_zero U (X ^^^ Y)
  have h4 := nat_xor_zero X Y
  refine ⟨by omega, ?_⟩
  constructor
  · intro h
    have := h3.1 (by omega)
    exact ⟨by omega, by have := h4.1 this.2; omega⟩
  · rintro ⟨h, h'⟩
    have := h3.2 ⟨by omega, h4.2 (by omega)⟩
    omega
theorem take_eq_step (l m : List Int) (k : Nat) (hl : k < l.length) (hm : k < m.length) : l.take (k + 1) = m.take (k + 1) ↔ l.take k = m.take k ∧ l.getD k 0 = m.getD k 0 := by
  have e : ∀ x : List Int, k < x.length → x.take (k + 1) = x.take k ++ [x.getD k 0] := fun x hx => by
    rw [List.take_add_one, List.getElem?_eq_getElem hx]
    simp [hx]
  rw [e l hl, e m hm]
  constructor
  · intro h
    have := List.append_inj h (by simp; omega)
    exact ⟨this.1, by simpa using this.2⟩
  · rintro ⟨h1, h2⟩; rw [h1, h2]
/-- what the loop has gathered so far -/
def Unl (l m : List Int) (k : Nat) (u : Int) : Prop := (0 ≤ u ∧ u < 256) ∧ (u = 0 ↔ l.take k = m.take k)
/-- The row behind k rounds. -/
def filled (l : List Int) (x : Int) (size k : Nat) : List Int := l ++ (lowL x k ++ List.replicate (size - k) 0)
theorem filled_len (l : List Int) (x : Int) (size k : Nat) (h : k ≤ size) : (filled l x size k).length = l.length + size := by simp [filled, lowL_len]; omega
theorem filled_step (l : List Int) (x : Int) (size k : Nat) (h : k < size) : (filled l x size k).set (l.length + k) (x / 256 ^ k % 256) = filled l x size (k + 1) := by
  unfold filled
  rw [List.set_append_right _ _ (by omega), Nat.add_sub_cancel_left, List.set_append_right _ _ (by rw [lowL_len]; exact Nat.le_refl _), lowL_len, Nat.sub_self, lowL_snoc]
  obtain ⟨j, hj⟩ : ∃ j, size - k = j + 1 := ⟨size - k - 1, by omega⟩
  rw [hj, show size - (k + 1) = j by omega]
  simp [List.replicate_succ]
theorem lay_len (C : List Int) (o : Nat) (S : List Int) (h : o + S.length ≤ C.length) : (lay C o S).length = C.length := by
  unfold lay
  simp only [List.length_append, List.length_take, List.length_drop]
  omega
theorem lay_isB {C : List Int} {o : Nat} {S : List Int} (hC : IsB C) (hS : IsB S) : IsB (lay C o S) := fun x hx => by
  unfold lay at hx
  rcases List.mem_append.1 hx with h | h
  · exact hC.take _ x h
  · rcases List.mem_append.1 h with h | h
    · exact hS x h
    · exact hC.drop _ x h
/-- new bytes in a block of their own -/
def Mkd (L : List Int) (w : World) (r : Ending) (w' : World) : Prop := ∃ g, r = .returned (.slice (some ⟨g, 0, none⟩) L.length L.length) ∧ w.heap.size ≤ g ∧ w'.heap[g]? = some (.cells (kc L) 5 (0, 0)) ∧ Gr w w'
set_option maxHeartbeats 4000000 in
theorem put_ok (B : List Int) (s : Option Addr) (n cap : Nat) (x : Int) (hx : 0 ≤ x) (hn : n ≤ 1000) (w : World) (lb : Lb w s n cap B) : Calls Try.prog 60 #[.slice s n cap, .int .u64 x, .int .i64 8] w (Mkd (B ++ lowL x 8) w) := by
  obtain ⟨T, hT⟩ : ∃ T, T = Mkd (B ++ lowL x 8) w := ⟨_, rfl⟩
  rw [← hT]
  replace hT := hide hT
  obtain ⟨m, hm⟩ : ∃ m, m = n + 8 := ⟨_, rfl⟩
  have i1 : (n : Int) + 8 = (m : Int) := by omega
  have i2 : IntKind.i64.wrap (m : Int) = (m : Int) := by rw [IntKind.wrap_i64]; omega
  replace lb := hide lb
  replace hm := hide hm
  go_enter Try.func60, Try.ntmps60
  go_upto_region 1 with fail
  have hmb : m ≤ 1008 := by have := unhide hm; omega
  refine wp_region_lit ?_
  refine list_val (.slice s n cap) (by kernel_rfl) (by kernel_rfl) ?_
  simp only [Act.put, List.setIfInBounds_toArray, List.set_cons_zero, List.set_cons_succ, List.getElem_toArray, List.getElem_cons_zero, List.getElem_cons_succ]
  refine list_val (.int .i64 n) (by kernel_rfl) (by kernel_rfl) ?_
  simp only [Act.put, List.setIfInBounds_toArray, List.set_cons_zero, List.set_cons_succ, List.getElem_toArray, List.getElem_cons_zero, List.getElem_cons_succ]
  refine list_val (.int .i64 8) (by kernel_rfl) (by kernel_rfl) ?_
  simp only [Act.put, List.setIfInBounds_toArray, List.set_cons_zero, List.set_cons_succ, List.getElem_toArray, List.getElem_cons_zero, List.getElem_cons_succ]
  refine list_val (.int .i64 m) (by kernel_rfl) (by go_simp) ?_
  simp only [Act.put, List.setIfInBounds_toArray, List.set_cons_zero, List.set_cons_succ, List.getElem_toArray, List.getElem_cons_zero, List.getElem_cons_succ]
  refine wpList_make_room _ rfl (.tmp 12) (.tmp 12) rfl (m : Int) (m : Int) m m (by kernel_rfl) (by kernel_rfl) rfl rfl (Nat.le_refl _) (by omega) ?_
  simp only [Act.put, List.setIfInBounds_toArray, List.set_cons_zero, List.set_cons_succ, List.getElem_toArray, List.getElem_cons_zero, List.getElem_cons_succ]
  have hB := (Bl.nil w).new (kc (List.replicate m 0)) 5
  simp only [List.nil_append] at hB
  generalize World.alloc _ _ = u at *
  replace hB := hide hB
  (refine wpList_step fun K hK => ?_; replace hK := hide hK; go_simp; refine unhide hK _ _ ?_; clear hK K)
  refine wpList_nil ?_
  go_upto_region 2 with fail
  replace hB := unhide hB
  have hnm : n ≤ m := by have := unhide hm; omega
  have lb2 : Hid (Lb u s n cap B) := (unhide lb).gr hB.gr
  refine wp_region_lit ?_
  refine list_val (.slice (some ⟨w.heap.size, 0, none⟩) m m) (by kernel_rfl) (by kernel_rfl) ?_
  simp only [Act.put, List.setIfInBounds_toArray, List.set_cons_zero, List.set_cons_succ, List.getElem_toArray, List.getElem_cons_zero, List.getElem_cons_succ]
  refine list_val (.slice s n cap) (by kernel_rfl) (by kernel_rfl) ?_
  simp only [Act.put, List.setIfInBounds_toArray, List.set_cons_zero, List.set_cons_succ, List.getElem_toArray, List.getElem_cons_zero, List.getElem_cons_succ]
  refine wpList_plain rfl fun K hK => ?_
  refine copy_wp (.tmp 14) (.tmp 15) rfl w.heap.size 0 m m s n cap (by kernel_rfl) (by kernel_rfl) ((List.replicate m 0).map (Value.int .u8)) 5 (hB.get 0 (x := ⟨w.heap.size, kc (List.replicate m 0), 5⟩) rfl) B (by rw [(unhide lb).len]; exact (Nat.min_eq_left (by omega)).symm) (unhide lb2).sl (by rw [(unhide lb).len, List.length_map, List.length_replicate]; omega) ?_
  have hcell := laid (S := B) (o := 0) (hB.get 0 (x := ⟨w.heap.size, kc (List.replicate m 0), 5⟩) rfl) (by rw [(unhide lb).len, List.length_replicate]; omega)
  have hB2 := hB.but (setCells_bt (B.map (Value.int .u8)) u w.heap.size 0) 0 (x := ⟨w.heap.size, kc (List.replicate m 0), 5⟩) rfl rfl hcell
  simp only [List.set_cons_zero] at hB2
  refine hK _ _ ?_
  clear hK K hcell hB
  simp only [Act.put, List.setIfInBounds_toArray, List.set_cons_zero, List.set_cons_succ, List.getElem_toArray, List.getElem_cons_zero, List.getElem_cons_succ]
  generalize World.setCells _ _ _ _ = u1 at *
  rw [(unhide lb).len]
  (refine wpList_step fun K hK => ?_; replace hK := hide hK; go_simp; refine unhide hK _ _ ?_; clear hK K)
  refine wpList_nil ?_
  have hL : lay (List.replicate m 0) 0 B = filled B x 8 0 := by
    unfold lay filled
    rw [List.take_zero, List.nil_append, Nat.zero_add, List.drop_replicate, (unhide lb).len, show m - n = 8 from by have := unhide hm; omega]
    rfl
  rw [hL] at hB2
  replace hB2 := hide hB2
  clear hL lb2
  go_wp2_with fail
  go_loopw [1, 8] (fun y i wr => ∃ k : Nat, k ≤ 8 ∧ y = .int .u64 (x / 256 ^ k) ∧ i = .int .i64 (n + k : Nat) ∧ Hid (Bl w [⟨w.heap.size, kc (filled B x 8 k), 5⟩] wr)) (fun _ i _ => m - (intOf i).toNat)
  case atStart => exact ⟨0, Nat.zero_le _, by simp, rfl, hB2⟩
  case round =>
  clear hB2
  obtain ⟨k, hk, rfl, rfl, hB⟩ := hrel
  have hBn : B.length = n := (unhide lb).len
  have hlen := filled_len B x 8 k hk
  rw [hBn] at hlen
  by_cases hlt : k < 8
  · obtain ⟨q, hq⟩ : ∃ q, q = n + k := ⟨_, rfl⟩
    rw [← hq]
    have hqm : q < m := by have := unhide hm; omega
    have qI : (q : Int) < (m : Int) := by omega
    have c1 := kc_cell ((unhide hB).get 0 (x := ⟨w.heap.size, kc (filled B x 8 k), 5⟩) rfl) q (by omega)
    generalize (filled B x 8 k).getD q 0 = z at c1
    have f1 := froz_of (i := q) ((unhide hB).get 0 (x := ⟨w.heap.size, kc (filled B x 8 k), 5⟩) rfl)
    have hy0 : 0 ≤ x / 256 ^ k := Int.ediv_nonneg hx (Int.pow_nonneg (by omega))
    have hst := filled_step B x 8 k hlt
    have hdv : x / 256 ^ k / 256 = x / 256 ^ (k + 1) := by rw [Int.pow_succ, Int.ediv_ediv_of_nonneg (Int.pow_nonneg (by omega))]
    rw [hBn, ← hq] at hst
    generalize x / 256 ^ k = y at *
    have hB1 := (unhide hB).cell 0 (x := ⟨w.heap.size, kc (filled B x 8 k), 5⟩) rfl q (.int .u8 (y % 256))
    simp only [List.set_cons_zero, List.set_cons_succ, kc_set, hst] at hB1
    replace hB1 := hide hB1
    replace hdv := hide hdv
    replace hq := hide hq
    replace hy0 := hide hy0
    have i3 : IntKind.i64.wrap ((q : Int) + 1) = (q : Int) + 1 := by rw [IntKind.wrap_i64]; omega
    have i4 : IntKind.u8.wrap y = y % 256 := by rw [IntKind.wrap_u8]
    replace hy0 := unhide hy0
    clear hst hlen hB hBn
    go_wp2_with fail
    go_roundw
    case rel => exact ⟨k + 1, by omega, by rw [unhide hdv], by have := unhide hq; go_num, hB1⟩
    case measure => have := unhide hq; simp [intOf]; omega
  · have hqm : ¬ n + k < m := by have := unhide hm; omega
    have qI : ¬ ((n + k : Nat) : Int) < (m : Int) := by omega
    have hk8 : k = 8 := by omega
    have hF : Hid (Mkd (B ++ lowL x 8) w (.returned (.slice (some ⟨w.heap.size, 0, none⟩) m m)) wr) := by
      refine ⟨w.heap.size, ?_, (unhide hB).own 0 (x := ⟨w.heap.size, kc (filled B x 8 k), 5⟩) rfl, ?_, (unhide hB).gr⟩
      · rw [List.length_append, lowL_len, hBn, ← unhide hm]
      · have h := (unhide hB).get 0 (x := ⟨w.heap.size, kc (filled B x 8 k), 5⟩) rfl
        rw [hk8] at h
        have e : filled B x 8 8 = B ++ lowL x 8 := by simp [filled]
        rw [e] at h
        exact h
    clear hlen hB hBn
    generalize n + k = q at *
    go_wp2_with fail
    rw [unhide hT]
    exact unhide hF
set_option maxHeartbeats 4000000 in
theorem put4_ok (B : List Int) (s : Option Addr) (n cap : Nat) (x : Int) (hx : 0 ≤ x) (hn : n ≤ 1000) (w : World) (lb : Lb w s n cap B) : Calls Try.prog 60 #[.slice s n cap, .int .u64 x, .int .i64 4] w (Mkd (B ++ lowL x 4) w) := by
  obtain ⟨T, hT⟩ : ∃ T, T = Mkd (B ++ lowL x 4) w := ⟨_, rfl⟩
  rw [← hT]
  replace hT := hide hT
  obtain ⟨m, hm⟩ : ∃ m, m = n + 4 := ⟨_, rfl⟩
  have i1 : (n : Int) + 4 = (m : Int) := by omega
  have i2 : IntKind.i64.wrap (m : Int) = (m : Int) := by rw [IntKind.wrap_i64]; omega
  replace lb := hide lb
  replace hm := hide hm
  go_enter Try.func60, Try.ntmps60
  go_upto_region 1 with fail
  have hmb : m ≤ 1008 := by have := unhide hm; omega
  refine wp_region_lit ?_
  refine list_val (.slice s n cap) (by kernel_rfl) (by kernel_rfl) ?_
  simp only [Act.put, List.setIfInBounds_toArray, List.set_cons_zero, List.set_cons_succ, List.getElem_toArray, List.getElem_cons_zero, List.getElem_cons_succ]
  refine list_val (.int .i64 n) (by kernel_rfl) (by kernel_rfl) ?_
  simp only [Act.put, List.setIfInBounds_toArray, List.set_cons_zero, List.set_cons_succ, List.getElem_toArray, List.getElem_cons_zero, List.getElem_cons_succ]
  refine list_val (.int .i64 4) (by kernel_rfl) (by kernel_rfl) ?_
  simp only [Act.put, List.setIfInBounds_toArray, List.set_cons_zero, List.set_cons_succ, List.getElem_toArray, List.getElem_cons_zero, List.getElem_cons_succ]
  refine list_val (.int .i64 m) (by kernel_rfl) (by go_simp) ?_
  simp only [Act.put, List.setIfInBounds_toArray, List.set_cons_zero, List.set_cons_succ, List.getElem_toArray, List.getElem_cons_zero, List.getElem_cons_succ]
  refine wpList_make_room _ rfl (.tmp 12) (.tmp 12) rfl (m : Int) (m : Int) m m (by kernel_rfl) (by kernel_rfl) rfl rfl (Nat.le_refl _) (by omega) ?_
  simp only [Act.put, List.setIfInBounds_toArray, List.set_cons_zero, List.set_cons_succ, List.getElem_toArray, List.getElem_cons_zero, List.getElem_cons_succ]
  have hB := (Bl.nil w).new (kc (List.replicate m 0)) 5
  simp only [List.nil_append] at hB
  generalize World.alloc _ _ = u at *
  replace hB := hide hB
  (refine wpList_step fun K hK => ?_; replace hK := hide hK; go_simp; refine unhide hK _ _ ?_; clear hK K)
  refine wpList_nil ?_
  go_upto_region 2 with fail
  replace hB := unhide hB
  have hnm : n ≤ m := by have := unhide hm; omega
  have lb2 : Hid (Lb u s n cap B) := (unhide lb).gr hB.gr
  refine wp_region_lit ?_
  refine list_val (.slice (some ⟨w.heap.size, 0, none⟩) m m) (by kernel_rfl) (by kernel_rfl) ?_
  simp only [Act.put, List.setIfInBounds_toArray, List.set_cons_zero, List.set_cons_succ, List.getElem_toArray, List.getElem_cons_zero, List.getElem_cons_succ]
  refine list_val (.slice s n cap) (by kernel_rfl) (by kernel_rfl) ?_
  simp only [Act.put, List.setIfInBounds_toArray, List.set_cons_zero, List.set_cons_succ, List.getElem_toArray, List.getElem_cons_zero, List.getElem_cons_succ]
  refine wpList_plain rfl fun K hK => ?_
  refine copy_wp (.tmp 14) (.tmp 15) rfl w.heap.size 0 m m s n cap (by kernel_rfl) (by kernel_rfl) ((List.replicate m 0).map (Value.int .u8)) 5 (hB.get 0 (x := ⟨w.heap.size, kc (List.replicate m 0), 5⟩) rfl) B (by rw [(unhide lb).len]; exact (Nat.min_eq_left (by omega)).symm) (unhide lb2).sl (by rw [(unhide lb).len, List.length_map, List.length_replicate]; omega) ?_
  have hcell := laid (S := B) (o := 0) (hB.get 0 (x := ⟨w.heap.size, kc (List.replicate m 0), 5⟩) rfl) (by rw [(unhide lb).len, List.length_replicate]; omega)
  have hB2 := hB.but (setCells_bt (B.map (Value.int .u8)) u w.heap.size 0) 0 (x := ⟨w.heap.size, kc (List.replicate m 0), 5⟩) rfl rfl hcell
  simp only [List.set_cons_zero] at hB2
  refine hK _ _ ?_
  clear hK K hcell hB
  simp only [Act.put, List.setIfInBounds_toArray, List.set_cons_zero, List.set_cons_succ, List.getElem_toArray, List.getElem_cons_zero, List.getElem_cons_succ]
  generalize World.setCells _ _ _ _ = u1 at *
  rw [(unhide lb).len]
  (refine wpList_step fun K hK => ?_; replace hK := hide hK; go_simp; refine unhide hK _ _ ?_; clear hK K)
  refine wpList_nil ?_
  have hL : lay (List.replicate m 0) 0 B = filled B x 4 0 := by
    unfold lay filled
    rw [List.take_zero, List.nil_append, Nat.zero_add, List.drop_replicate, (unhide lb).len, show m - n = 4 from by have := unhide hm; omega]
    rfl
  rw [hL] at hB2
  replace hB2 := hide hB2
  clear hL lb2
  go_wp2_with fail
  go_loopw [1, 8] (fun y i wr => ∃ k : Nat, k ≤ 4 ∧ y = .int .u64 (x / 256 ^ k) ∧ i = .int .i64 (n + k : Nat) ∧ Hid (Bl w [⟨w.heap.size, kc (filled B x 4 k), 5⟩] wr)) (fun _ i _ => m - (intOf i).toNat)
  case atStart => exact ⟨0, Nat.zero_le _, by simp, rfl, hB2⟩
  case round =>
  clear hB2
  obtain ⟨k, hk, rfl, rfl, hB⟩ := hrel
  have hBn : B.length = n := (unhide lb).len
  have hlen := filled_len B x 4 k hk
  rw [hBn] at hlen
  by_cases hlt : k < 4
  · obtain ⟨q, hq⟩ : ∃ q, q = n + k := ⟨_, rfl⟩
    rw [← hq]
    have hqm : q < m := by have := unhide hm; omega
    have qI : (q : Int) < (m : Int) := by omega
    have c1 := kc_cell ((unhide hB).get 0 (x := ⟨w.heap.size, kc (filled B x 4 k), 5⟩) rfl) q (by omega)
    generalize (filled B x 4 k).getD q 0 = z at c1
    have f1 := froz_of (i := q) ((unhide hB).get 0 (x := ⟨w.heap.size, kc (filled B x 4 k), 5⟩) rfl)
    have hy0 : 0 ≤ x / 256 ^ k := Int.ediv_nonneg hx (Int.pow_nonneg (by omega))
    have hst := filled_step B x 4 k hlt
    have hdv : x / 256 ^ k / 256 = x / 256 ^ (k + 1) := by rw [Int.pow_succ, Int.ediv_ediv_of_nonneg (Int.pow_nonneg (by omega))]
    rw [hBn, ← hq] at hst
    generalize x / 256 ^ k = y at *
    have hB1 := (unhide hB).cell 0 (x := ⟨w.heap.size, kc (filled B x 4 k), 5⟩) rfl q (.int .u8 (y % 256))
    simp only [List.set_cons_zero, List.set_cons_succ, kc_set, hst] at hB1
    replace hB1 := hide hB1
    replace hdv := hide hdv
    replace hq := hide hq
    replace hy0 := hide hy0
    have i3 : IntKind.i64.wrap ((q : Int) + 1) = (q : Int) + 1 := by rw [IntKind.wrap_i64]; omega
    have i4 : IntKind.u8.wrap y = y % 256 := by rw [IntKind.wrap_u8]
    replace hy0 := unhide hy0
    clear hst hlen hB hBn
    go_wp2_with fail
    go_roundw
    case rel => exact ⟨k + 1, by omega, by rw [unhide hdv], by have := unhide hq; go_num, hB1⟩
    case measure => have := unhide hq; simp [intOf]; omega
  · have hqm : ¬ n + k < m := by have := unhide hm; omega
    have qI : ¬ ((n + k : Nat) : Int) < (m : Int) := by omega
    have hk8 : k = 4 := by omega
    have hF : Hid (Mkd (B ++ lowL x 4) w (.returned (.slice (some ⟨w.heap.size, 0, none⟩) m m)) wr) := by
      refine ⟨w.heap.size, ?_, (unhide hB).own 0 (x := ⟨w.heap.size, kc (filled B x 4 k), 5⟩) rfl, ?_, (unhide hB).gr⟩
      · rw [List.length_append, lowL_len, hBn, ← unhide hm]
      · have h := (unhide hB).get 0 (x := ⟨w.heap.size, kc (filled B x 4 k), 5⟩) rfl
        rw [hk8] at h
        have e : filled B x 4 4 = B ++ lowL x 4 := by simp [filled]
        rw [e] at h
        exact h
    clear hlen hB hBn
    generalize n + k = q at *
    go_wp2_with fail
    rw [unhide hT]
    exact unhide hF
theorem exec_win {a : Act} {o : Oper} (w : World) (x y z : Operand) (ho : o.op = .slice 53 x (some y) (some z) none) (p len cap l h m : Nat) (hx : a.eval x = .slice (some ⟨p, 0, none⟩) len cap) (hy : a.eval y = .int .i64 l) (hz : a.eval z = .int .i64 h) (h1 : h = l + m) (h0 : 0 < m) (h2 : h ≤ cap) :
    (execOp a.eval o).run Try.prog w = .ok (.value (.slice (some ⟨p, l, none⟩) m (cap - l))) w := by
  have e0 : h - l = m := by omega
  have e1 : (0 : Int) ≤ l := by omega
  have e2 : (l : Int) ≤ h := by omega
  have e3 : (h : Int) ≤ cap := by omega
  have hu : Try.prog.underlying 53 = some (.slice (Try.prog.elem 53)) := by kernel_rfl
  have hs : (sizeOf (Try.prog.elem 53)).run Try.prog w = .ok 1 w := by kernel_rfl
  have hne : ¬ cap = l := by omega
  simp [execOp, ho, hx, hy, hz, run_sliceAt_slice _ _ _ _ _ _ hu, run_slice_lh _ _ _ _ _ hu _ _ _ _ e1 e2 e3, hs, sliced, hne, Addr.add_mid, e0]
theorem ob_at {b : Nat} {w : World} {v : Value} {L : List Int} (h : Ob b w v L) (hn : L ≠ []) : ∃ p c, v = .slice (some ⟨p, 0, none⟩) L.length c ∧ b ≤ p ∧ At w p 0 L ∧ L.length ≤ c ∧ c < 9223372036854775808 ∧ ∃ cur, w.heap[p]? = some (.cells cur 5 (0, 0)) := by
  obtain ⟨a, c, e, h1, h2, h3⟩ := h.slice
  rcases h.2 with ⟨_, e2⟩ | ⟨g, cap, cur, f1, f2, f3, _⟩
  · exact absurd (List.eq_nil_of_length_eq_zero e2) hn
  · rw [e] at f1
    injection f1 with g1 g2 g3
    subst g1 g3
    rcases h3 with h3 | ⟨p, o, h4, h5⟩
    · exact absurd h3 hn
    · have h6 := Option.some.inj h4
      injection h6 with h7 h8 _
      subst h7 h8
      exact ⟨g, c, e, f2, h5, h1, by unfold maxLen at h2; omega, cur, f3⟩
theorem exec_err {op : Oper} {a : Act} (w : World) (x : Operand) (ho : op.op = .load 31 x) (g i : Nat) (hx : a.eval x = .pointer (some ⟨g, i, none⟩)) (v : Int) (hc : w.cell? ⟨g, i, none⟩ = some (.int .i64 v)) : (execOp a.eval op).run Try.prog w = .ok (.value (.int .i64 v)) w := by
  unfold execOp
  simp only [ho, hx, Instr.loadAt, Instr.sureAddr, Sem.run_bind, Sem.run_pure, Result.andThen_ok]
  go_simp
theorem Chg.bt1 {g : Nat} {w v : World} (h : Chg [g] [g] w v) : Bt g w v := ⟨h.os, h.tape, h.output, h.size, fun i hi hn => h.block i hi (by simp [hn])⟩
set_option maxHeartbeats 4000000 in
theorem clone_ok (B : List Int) (p q n c : Nat) (w : World) (hB0 : Lb w (some ⟨p, q, none⟩) n c B) (hn : n ≤ 100000) : Calls Try.prog 65 #[.slice (some ⟨p, q, none⟩) n c] w (Infd B w) := by
  obtain ⟨T, hT⟩ : ∃ T, T = Infd B w := ⟨_, rfl⟩
  rw [← hT]
  replace hT := hide hT
  replace hB0 := hide hB0
  go_enter Try.func65, Try.ntmps65
  go_upto_region 1 with fail
  refine wp_region_lit ?_
  refine list_val (.slice (some ⟨p, q, none⟩) n c) (by kernel_rfl) (by kernel_rfl) ?_
  simp only [Act.put, List.setIfInBounds_toArray, List.set_cons_zero, List.set_cons_succ, List.getElem_toArray, List.getElem_cons_zero, List.getElem_cons_succ]
  refine list_val (.bool false) (by kernel_rfl) (by kernel_rfl) ?_
  simp only [Act.put, List.setIfInBounds_toArray, List.set_cons_zero, List.set_cons_succ, List.getElem_toArray, List.getElem_cons_zero, List.getElem_cons_succ]
  refine wpList_nil ?_
  go_upto_region 3 with fail
  refine wp_region_lit ?_
  refine list_valw (.slice (some ⟨w.heap.size, 0, none⟩) 0 0) (w.alloc (.cells #[] 5 (0, 0))) (by kernel_rfl) (by kernel_rfl) ?_
  have hO : Ob w.heap.size (w.alloc (.cells #[] 5 (0, 0))) (.slice (some ⟨w.heap.size, 0, none⟩) 0 0) [] := blk_bytes [] (Nat.le_refl _) (Nat.zero_le _)
  have hG := (Gr.refl w).alloc (.cells #[] 5 (0, 0))
  generalize World.alloc _ _ = u at *
  simp only [Act.put, List.setIfInBounds_toArray, List.set_cons_zero, List.set_cons_succ, List.getElem_toArray, List.getElem_cons_zero, List.getElem_cons_succ]
  refine list_val (.slice (some ⟨p, q, none⟩) n c) (by kernel_rfl) (by kernel_rfl) ?_
  simp only [Act.put, List.setIfInBounds_toArray, List.set_cons_zero, List.set_cons_succ, List.getElem_toArray, List.getElem_cons_zero, List.getElem_cons_succ]
  refine app_bs (by kernel_rfl) (.tmp 5) (.tmp 6) rfl w.heap.size _ [] rfl hO (some ⟨p, q, none⟩) n c B rfl (unhide hB0).len ((unhide hB0).gr hG).sl (by simp only [List.length_nil, Nat.zero_add]; omega) hG.size ?_
  intro v9 u9 hO9 hgr
  rw [List.nil_append] at hO9
  have hZ : Hid (Infd B w (.returned v9) u9) := ⟨v9, rfl, hO9, hO.grown (Nat.le_refl _) hG hgr⟩
  clear hO9 hgr hO hG
  simp only [Act.put, List.setIfInBounds_toArray, List.set_cons_zero, List.set_cons_succ, List.getElem_toArray, List.getElem_cons_zero, List.getElem_cons_succ]
  (refine wpList_step fun K hK => ?_; replace hK := hide hK; go_simp; refine unhide hK _ _ ?_; clear hK K)
  refine wpList_nil ?_
  go_wp2_with fail
  rw [unhide hT]
  exact unhide hZ
/-- a Reader's cells -/
def rdr (k p n c : Nat) : Array Value := #[.int .i64 (k : Int), .int .i64 0, .slice (some ⟨p, 0, none⟩) n c]
/-- a Reader lies at g: of these bytes, at the k-th one -/
structure Rdr (g p n c k : Nat) (L : List Int) (w : World) : Prop where
  cel : w.heap[g]? = some (.cells (rdr k p n c) 100 (0, 0))
  at_ : At w p 0 L
  ne : p ≠ g
  len : L.length = n
  isB : IsB L
  cap : n ≤ c
  max : c < 9223372036854775808
theorem Rdr.gr {g p n c k : Nat} {L : List Int} {w v : World} (h : Rdr g p n c k L w) (e : Gr w v) : Rdr g p n c k L v := ⟨e.blk h.cel, fun j hj => e.cell (h.at_ j hj), h.ne, h.len, h.isB, h.cap, h.max⟩
theorem Rdr.bt {g p n c k q : Nat} {L : List Int} {w v : World} (h : Rdr g p n c k L w) (e : Bt q w v) (hq : g ≠ q) (hp : p ≠ q) : Rdr g p n c k L v := ⟨e.blk h.cel hq, h.at_.bt e hp, h.ne, h.len, h.isB, h.cap, h.max⟩
theorem Rdr.to {g p n c k m : Nat} {L : List Int} {w v : World} (h : Rdr g p n c k L w) (e : Bt g w v) (hc : v.heap[g]? = some (.cells (rdr m p n c) 100 (0, 0))) : Rdr g p n c m L v := ⟨hc, h.at_.bt e h.ne, h.ne, h.len, h.isB, h.cap, h.max⟩
/-- what Read answers -/
def Rea (L : List Int) (w : World) (r : Ending) (w' : World) : Prop := ∃ g p c, r = .returned (.pointer (some ⟨g, 0, none⟩)) ∧ w.heap.size ≤ g ∧ w.heap.size ≤ p ∧ Rdr g p L.length c 0 L w' ∧ Gr w w'
set_option maxHeartbeats 4000000 in
theorem oread_ok (B : List Int) (p q n c : Nat) (w : World) (hB0 : Lb w (some ⟨p, q, none⟩) n c B) (hn : n ≤ 100000) (h0 : 0 < n) : Calls Try.prog 46 #[.slice (some ⟨p, q, none⟩) n c] w (Rea B w) := by
  obtain ⟨T, hT⟩ : ∃ T, T = Rea B w := ⟨_, rfl⟩
  rw [← hT]
  replace hT := hide hT
  replace hB0 := hide hB0
  go_enter Try.func46, Try.ntmps46
  go_upto_region 1 with fail
  refine wp_region_lit ?_
  refine list_val (.slice (some ⟨p, q, none⟩) n c) (by kernel_rfl) (by kernel_rfl) ?_
  simp only [Act.put, List.setIfInBounds_toArray, List.set_cons_zero, List.set_cons_succ, List.getElem_toArray, List.getElem_cons_zero, List.getElem_cons_succ]
  refine list_call 65 #[.slice (some ⟨p, q, none⟩) n c] (by kernel_rfl) (by kernel_rfl) ((clone_ok B p q n c w (unhide hB0) hn).mono ?_)
  rintro r u ⟨v, rfl, hO, hG⟩
  have hl := (unhide hB0).len
  obtain ⟨p2, c2, rfl, h1, h2, h3, h4, cur, h5⟩ := ob_at hO (by intro e; rw [e] at hl; simp at hl; omega)
  refine ⟨_, rfl, ?_⟩
  clear hO
  replace h2 := hide h2; replace h5 := hide h5; replace hG := hide hG
  rw [hl] at h3
  rw [hl]
  simp only [Act.put, List.setIfInBounds_toArray, List.set_cons_zero, List.set_cons_succ, List.getElem_toArray, List.getElem_cons_zero, List.getElem_cons_succ]
  refine list_val (.agg (rdr 0 p2 n c2)) (by kernel_rfl) (by kernel_rfl) ?_
  simp only [Act.put, List.setIfInBounds_toArray, List.set_cons_zero, List.set_cons_succ, List.getElem_toArray, List.getElem_cons_zero, List.getElem_cons_succ]
  refine list_valw (.pointer (some ⟨u.heap.size, 0, none⟩)) (u.alloc (.cells (rdr 0 p2 n c2) 100 (0, 0))) (by kernel_rfl) (by kernel_rfl) ?_
  have hZ : Hid (Rea B w (.returned (.pointer (some ⟨u.heap.size, 0, none⟩))) (u.alloc (.cells (rdr 0 p2 n c2) 100 (0, 0)))) := by
    have hg2 := (Gr.refl u).alloc (.cells (rdr 0 p2 n c2) 100 (0, 0))
    have hp := lt_of_block (unhide h5)
    show Rea B w _ _
    unfold Rea
    rw [hl]
    exact ⟨u.heap.size, p2, c2, rfl, (unhide hG).size, h1, ⟨blk_new _ _, fun j hj => hg2.cell (unhide h2 j hj), (fun e => by omega), hl, (unhide hB0).isB, h3, h4⟩, (unhide hG).trans hg2⟩
  generalize World.alloc _ _ = u2 at *
  simp only [Act.put, List.setIfInBounds_toArray, List.set_cons_zero, List.set_cons_succ, List.getElem_toArray, List.getElem_cons_zero, List.getElem_cons_succ]
  (refine wpList_step fun K hK => ?_; replace hK := hide hK; go_simp; refine unhide hK _ _ ?_; clear hK K)
  refine wpList_nil ?_
  go_wp2_with fail
  rw [unhide hT]
  exact unhide hZ
set_option maxHeartbeats 4000000 in
theorem rerr_ok (g p n c k : Nat) (w : World) (hc : w.heap[g]? = some (.cells (rdr k p n c) 100 (0, 0))) : Calls Try.prog 72 #[P0 g] w (Vl (.int .i64 0) w) := by
  obtain ⟨T, hT⟩ : ∃ T, T = Vl (.int .i64 0) w := ⟨_, rfl⟩
  rw [← hT]
  replace hT := hide hT
  replace hc := hide hc
  go_enter Try.func72, Try.ntmps72
  go_upto_region 3 with fail
  have hcl := hc
  refine wp_region_lit ?_
  refine list_val (.pointer (some ⟨g, 0, none⟩)) (by kernel_rfl) (by kernel_rfl) ?_
  simp only [Act.put, List.setIfInBounds_toArray, List.set_cons_zero, List.set_cons_succ, List.getElem_toArray, List.getElem_cons_zero, List.getElem_cons_succ]
  refine list_val (.pointer (some ⟨g, 0, none⟩)) (by kernel_rfl) (by kernel_rfl) ?_
  simp only [Act.put, List.setIfInBounds_toArray, List.set_cons_zero, List.set_cons_succ, List.getElem_toArray, List.getElem_cons_zero, List.getElem_cons_succ]
  refine list_val (.pointer (some ⟨g, 0, none⟩)) (by kernel_rfl) (by kernel_rfl) ?_
  simp only [Act.put, List.setIfInBounds_toArray, List.set_cons_zero, List.set_cons_succ, List.getElem_toArray, List.getElem_cons_zero, List.getElem_cons_succ]
  refine list_val (.pointer (some ⟨g, 1, none⟩)) (by kernel_rfl) (by kernel_rfl) ?_
  simp only [Act.put, List.setIfInBounds_toArray, List.set_cons_zero, List.set_cons_succ, List.getElem_toArray, List.getElem_cons_zero, List.getElem_cons_succ]
  refine list_val (.int .i64 0) (by kernel_rfl) (exec_err _ (.tmp 8) rfl g 1 (by kernel_rfl) 0 (cell_of (unhide hc) (i := 1) rfl)) ?_
  simp only [Act.put, List.setIfInBounds_toArray, List.set_cons_zero, List.set_cons_succ, List.getElem_toArray, List.getElem_cons_zero, List.getElem_cons_succ]
  (refine wpList_step fun K hK => ?_; replace hK := hide hK; go_simp; refine unhide hK _ _ ?_; clear hK K)
  refine wpList_nil ?_
  have hZ : Hid (Vl (.int .i64 0) w (.returned (.int .i64 0)) w) := ⟨rfl, Gr.refl w⟩
  go_wp2_with fail
  rw [unhide hT]
  exact unhide hZ
set_option maxHeartbeats 4000000 in
theorem rleft_ok (g p n c k : Nat) (hkn : k ≤ n) (hn : n ≤ 100000) (w : World) (hc : w.heap[g]? = some (.cells (rdr k p n c) 100 (0, 0))) : Calls Try.prog 73 #[P0 g] w (Vl (.int .i64 ((n - k : Nat) : Int)) w) := by
  obtain ⟨T, hT⟩ : ∃ T, T = Vl (.int .i64 ((n - k : Nat) : Int)) w := ⟨_, rfl⟩
  rw [← hT]
  replace hT := hide hT
  obtain ⟨j, hj⟩ : ∃ j, j = n - k := ⟨_, rfl⟩
  rw [← hj] at hT
  have hw : IntKind.i64.wrap ((n : Int) - (k : Int)) = (j : Int) := by rw [IntKind.wrap_i64]; omega
  clear hj
  replace hc := hide hc
  go_enter Try.func73, Try.ntmps73
  go_upto_region 3 with fail
  refine any_start (S := fun (v : World) => v.heap[g]? = some (.cells (rdr k p n c) 100 (0, 0))) (by kernel_rfl) ?_
  have hG := (Gr.refl w).drew
  have hS : (fun (v : World) => v.heap[g]? = some (.cells (rdr k p n c) 100 (0, 0))) w.drew := hG.blk (unhide hc)
  generalize World.drew _ = x0 at *
  simp only [List.size_toArray, List.length_cons, List.length_nil, Array.replicate, List.replicate]
  refine any_take (i := 0) (v := (.pointer (some ⟨g, 0, none⟩))) #[false, false, false, false, false, false, false, false, false, false, false, false] rfl (by kernel_rfl) (by kernel_rfl) (by kernel_rfl) (by kernel_rfl) (fun _ _ _ h => h) (.inl ⟨by kernel_rfl, fun x_ hu => by kernel_rfl⟩) hS ?_
  simp only [Act.put, List.setIfInBounds_toArray, List.set_cons_zero, List.set_cons_succ, List.getElem_toArray, List.getElem_cons_zero, List.getElem_cons_succ]
  refine any_take (i := 1) (v := (.pointer (some ⟨g, 0, none⟩))) #[true, false, false, false, false, false, false, false, false, false, false, false] rfl (by kernel_rfl) (by kernel_rfl) (by kernel_rfl) (by kernel_rfl) (fun _ _ _ h => h) (.inl ⟨by kernel_rfl, fun x_ hu => by kernel_rfl⟩) hS ?_
  simp only [Act.put, List.setIfInBounds_toArray, List.set_cons_zero, List.set_cons_succ, List.getElem_toArray, List.getElem_cons_zero, List.getElem_cons_succ]
  refine any_take (i := 2) (v := (.pointer (some ⟨g, 2, none⟩))) #[true, true, false, false, false, false, false, false, false, false, false, false] rfl (by kernel_rfl) (by kernel_rfl) (by kernel_rfl) (by kernel_rfl) (fun _ _ _ h => h) (.inl ⟨by kernel_rfl, fun x_ hu => by kernel_rfl⟩) hS ?_
  simp only [Act.put, List.setIfInBounds_toArray, List.set_cons_zero, List.set_cons_succ, List.getElem_toArray, List.getElem_cons_zero, List.getElem_cons_succ]
  refine any_take (i := 3) (v := (.slice (some ⟨p, 0, none⟩) n c)) #[true, true, true, false, false, false, false, false, false, false, false, false] rfl (by kernel_rfl) (by kernel_rfl) (by kernel_rfl) (by kernel_rfl) (fun _ _ _ h => h) (.inl ⟨by kernel_rfl, fun x_ hu => exec_sby _ (.tmp 7) rfl g 2 (by kernel_rfl) (some ⟨p, 0, none⟩) n c (cell_of hu (i := 2) rfl)⟩) hS ?_
  simp only [Act.put, List.setIfInBounds_toArray, List.set_cons_zero, List.set_cons_succ, List.getElem_toArray, List.getElem_cons_zero, List.getElem_cons_succ]
  refine any_take (i := 4) (v := (.int .i64 (n : Int))) #[true, true, true, true, false, false, false, false, false, false, false, false] rfl (by kernel_rfl) (by kernel_rfl) (by kernel_rfl) (by kernel_rfl) (fun _ _ _ h => h) (.inl ⟨by kernel_rfl, fun x_ hu => by kernel_rfl⟩) hS ?_
  simp only [Act.put, List.setIfInBounds_toArray, List.set_cons_zero, List.set_cons_succ, List.getElem_toArray, List.getElem_cons_zero, List.getElem_cons_succ]
  refine any_take (i := 5) (v := (.pointer (some ⟨g, 0, none⟩))) #[true, true, true, true, true, false, false, false, false, false, false, false] rfl (by kernel_rfl) (by kernel_rfl) (by kernel_rfl) (by kernel_rfl) (fun _ _ _ h => h) (.inl ⟨by kernel_rfl, fun x_ hu => by kernel_rfl⟩) hS ?_
  simp only [Act.put, List.setIfInBounds_toArray, List.set_cons_zero, List.set_cons_succ, List.getElem_toArray, List.getElem_cons_zero, List.getElem_cons_succ]
  refine any_take (i := 6) (v := (.pointer (some ⟨g, 0, none⟩))) #[true, true, true, true, true, true, false, false, false, false, false, false] rfl (by kernel_rfl) (by kernel_rfl) (by kernel_rfl) (by kernel_rfl) (fun _ _ _ h => h) (.inl ⟨by kernel_rfl, fun x_ hu => by kernel_rfl⟩) hS ?_
  simp only [Act.put, List.setIfInBounds_toArray, List.set_cons_zero, List.set_cons_succ, List.getElem_toArray, List.getElem_cons_zero, List.getElem_cons_succ]
  refine any_take (i := 7) (v := (.pointer (some ⟨g, 0, none⟩))) #[true, true, true, true, true, true, true, false, false, false, false, false] rfl (by kernel_rfl) (by kernel_rfl) (by kernel_rfl) (by kernel_rfl) (fun _ _ _ h => h) (.inl ⟨by kernel_rfl, fun x_ hu => by kernel_rfl⟩) hS ?_
  simp only [Act.put, List.setIfInBounds_toArray, List.set_cons_zero, List.set_cons_succ, List.getElem_toArray, List.getElem_cons_zero, List.getElem_cons_succ]
  refine any_take (i := 8) (v := (.pointer (some ⟨g, 0, none⟩))) #[true, true, true, true, true, true, true, true, false, false, false, false] rfl (by kernel_rfl) (by kernel_rfl) (by kernel_rfl) (by kernel_rfl) (fun _ _ _ h => h) (.inl ⟨by kernel_rfl, fun x_ hu => by kernel_rfl⟩) hS ?_
  simp only [Act.put, List.setIfInBounds_toArray, List.set_cons_zero, List.set_cons_succ, List.getElem_toArray, List.getElem_cons_zero, List.getElem_cons_succ]
  refine any_take (i := 9) (v := (.int .i64 (k : Int))) #[true, true, true, true, true, true, true, true, true, false, false, false] rfl (by kernel_rfl) (by kernel_rfl) (by kernel_rfl) (by kernel_rfl) (fun _ _ _ h => h) (.inl ⟨by kernel_rfl, fun x_ hu => exec_i64 _ (.tmp 13) rfl g 0 (by kernel_rfl) (k : Int) (cell_of hu (i := 0) rfl)⟩) hS ?_
  simp only [Act.put, List.setIfInBounds_toArray, List.set_cons_zero, List.set_cons_succ, List.getElem_toArray, List.getElem_cons_zero, List.getElem_cons_succ]
  refine any_take (i := 10) (v := (.int .i64 (j : Int))) #[true, true, true, true, true, true, true, true, true, true, false, false] rfl (by kernel_rfl) (by kernel_rfl) (by kernel_rfl) (by kernel_rfl) (fun _ _ _ h => h) (.inl ⟨by kernel_rfl, fun x_ hu => by go_simp⟩) hS ?_
  simp only [Act.put, List.setIfInBounds_toArray, List.set_cons_zero, List.set_cons_succ, List.getElem_toArray, List.getElem_cons_zero, List.getElem_cons_succ]
  refine any_one (i := 11) (by kernel_rfl) rfl (fun K_ hQ => ?_)
  replace hQ := hide hQ
  go_simp
  refine (unhide hQ).out _ _ hS (fun _ => ?_)
  clear hQ K_
  refine any_done (by kernel_rfl) ?_
  have hZ : Hid (Vl (.int .i64 (j : Int)) w (.returned (.int .i64 (j : Int))) x0) := ⟨rfl, hG⟩
  replace hG := hide hG
  go_wp2_with fail
  rw [unhide hT]
  exact unhide hZ
def Tkn (g p n c k m : Nat) (L : List Int) (w : World) (r : Ending) (w' : World) : Prop := r = .returned (.slice (some ⟨p, k, none⟩) m (c - k)) ∧ Rdr g p n c (k + m) L w' ∧ Bt g w w'
set_option maxHeartbeats 4000000 in
theorem rtake_ok (g p n c k m : Nat) (L : List Int) (w : World) (hR : Rdr g p n c k L w) (hkn : k + m ≤ n) (hm : 0 < m) (hn : n ≤ 100000) : Calls Try.prog 69 #[P0 g, .int .i64 (m : Int)] w (Tkn g p n c k m L w) := by
  obtain ⟨T, hT⟩ : ∃ T, T = Tkn g p n c k m L w := ⟨_, rfl⟩
  rw [← hT]
  replace hT := hide hT
  have hcn := hR.cap
  obtain ⟨km, hkm⟩ : ∃ x, x = k + m := ⟨_, rfl⟩
  have hw1 : IntKind.i64.wrap ((k : Int) + (m : Int)) = (km : Int) := by rw [IntKind.wrap_i64]; omega
  obtain ⟨j, hj⟩ : ∃ j, j = n - k := ⟨_, rfl⟩
  have hmj : ¬ (j : Int) < (m : Int) := by omega
  have hB := (Bc.nil [g] w).add ⟨g, rdr k p n c, 100⟩ hR.cel (.inl (by simp)) (fun y hy => by cases hy)
  replace hB : Bc [g] w [⟨g, rdr k p n c, 100⟩] w := hB
  replace hR := hide hR; replace hB := hide hB; replace hkm := hide hkm; replace hj := hide hj
  go_enter Try.func69, Try.ntmps69
  go_upto_region 1 with fail
  replace hB := unhide hB
  refine wp_region_lit ?_
  refine list_val (.pointer (some ⟨g, 0, none⟩)) (by kernel_rfl) (by kernel_rfl) ?_
  simp only [Act.put, List.setIfInBounds_toArray, List.set_cons_zero, List.set_cons_succ, List.getElem_toArray, List.getElem_cons_zero, List.getElem_cons_succ]
  refine list_call 72 #[.pointer (some ⟨g, 0, none⟩)] (by kernel_rfl) (by kernel_rfl) ((rerr_ok g p n c k _ (hB.get 0 (x := ⟨g, rdr k p n c, 100⟩) rfl)).mono ?_)
  rintro r u1 ⟨rfl, hg⟩
  refine ⟨_, rfl, ?_⟩
  replace hB := hB.more hg
  clear hg
  simp only [Act.put, List.setIfInBounds_toArray, List.set_cons_zero, List.set_cons_succ, List.getElem_toArray, List.getElem_cons_zero, List.getElem_cons_succ]
  refine list_val (.bool false) (by kernel_rfl) (by go_simp) ?_
  simp only [Act.put, List.setIfInBounds_toArray, List.set_cons_zero, List.set_cons_succ, List.getElem_toArray, List.getElem_cons_zero, List.getElem_cons_succ]
  refine wpList_nil ?_
  replace hB := hide hB
  go_upto_region 6 with fail
  replace hB := unhide hB
  refine wp_region_lit ?_
  refine list_val (.int .i64 (m : Int)) (by kernel_rfl) (by kernel_rfl) ?_
  simp only [Act.put, List.setIfInBounds_toArray, List.set_cons_zero, List.set_cons_succ, List.getElem_toArray, List.getElem_cons_zero, List.getElem_cons_succ]
  refine list_val (.pointer (some ⟨g, 0, none⟩)) (by kernel_rfl) (by kernel_rfl) ?_
  simp only [Act.put, List.setIfInBounds_toArray, List.set_cons_zero, List.set_cons_succ, List.getElem_toArray, List.getElem_cons_zero, List.getElem_cons_succ]
  refine list_call 73 #[.pointer (some ⟨g, 0, none⟩)] (by kernel_rfl) (by kernel_rfl) ((rleft_ok g p n c k (by omega) hn _ (hB.get 0 (x := ⟨g, rdr k p n c, 100⟩) rfl)).mono ?_)
  rintro r u2 ⟨rfl, hg⟩
  refine ⟨_, rfl, ?_⟩
  rw [← unhide hj]
  replace hB := hB.more hg
  clear hg
  simp only [Act.put, List.setIfInBounds_toArray, List.set_cons_zero, List.set_cons_succ, List.getElem_toArray, List.getElem_cons_zero, List.getElem_cons_succ]
  refine list_val (.bool false) (by kernel_rfl) (by go_simp) ?_
  simp only [Act.put, List.setIfInBounds_toArray, List.set_cons_zero, List.set_cons_succ, List.getElem_toArray, List.getElem_cons_zero, List.getElem_cons_succ]
  refine wpList_nil ?_
  replace hB := hide hB
  go_upto_region 9 with fail
  replace hB := unhide hB
  refine wp_region_lit ?_
  refine list_val (.pointer (some ⟨g, 0, none⟩)) (by kernel_rfl) (by kernel_rfl) ?_
  simp only [Act.put, List.setIfInBounds_toArray, List.set_cons_zero, List.set_cons_succ, List.getElem_toArray, List.getElem_cons_zero, List.getElem_cons_succ]
  refine list_val (.pointer (some ⟨g, 0, none⟩)) (by kernel_rfl) (by kernel_rfl) ?_
  simp only [Act.put, List.setIfInBounds_toArray, List.set_cons_zero, List.set_cons_succ, List.getElem_toArray, List.getElem_cons_zero, List.getElem_cons_succ]
  refine list_val (.pointer (some ⟨g, 0, none⟩)) (by kernel_rfl) (by kernel_rfl) ?_
  simp only [Act.put, List.setIfInBounds_toArray, List.set_cons_zero, List.set_cons_succ, List.getElem_toArray, List.getElem_cons_zero, List.getElem_cons_succ]
  refine list_val (.pointer (some ⟨g, 0, none⟩)) (by kernel_rfl) (by kernel_rfl) ?_
  simp only [Act.put, List.setIfInBounds_toArray, List.set_cons_zero, List.set_cons_succ, List.getElem_toArray, List.getElem_cons_zero, List.getElem_cons_succ]
  refine list_val (.int .i64 (k : Int)) (by kernel_rfl) (exec_i64 _ (.tmp 26) rfl g 0 (by kernel_rfl) (k : Int) (cell_of (hB.get 0 (x := ⟨g, rdr k p n c, 100⟩) rfl) (i := 0) rfl)) ?_
  simp only [Act.put, List.setIfInBounds_toArray, List.set_cons_zero, List.set_cons_succ, List.getElem_toArray, List.getElem_cons_zero, List.getElem_cons_succ]
  (refine wpList_step fun K hK => ?_; replace hK := hide hK; go_simp; refine unhide hK _ _ ?_; clear hK K)
  refine wpList_nil ?_
  replace hB := hide hB
  go_upto_region 10 with fail
  replace hB := unhide hB
  refine wp_region_lit ?_
  refine list_val (.pointer (some ⟨g, 0, none⟩)) (by kernel_rfl) (by kernel_rfl) ?_
  simp only [Act.put, List.setIfInBounds_toArray, List.set_cons_zero, List.set_cons_succ, List.getElem_toArray, List.getElem_cons_zero, List.getElem_cons_succ]
  refine list_val (.pointer (some ⟨g, 0, none⟩)) (by kernel_rfl) (by kernel_rfl) ?_
  simp only [Act.put, List.setIfInBounds_toArray, List.set_cons_zero, List.set_cons_succ, List.getElem_toArray, List.getElem_cons_zero, List.getElem_cons_succ]
  refine list_val (.pointer (some ⟨g, 0, none⟩)) (by kernel_rfl) (by kernel_rfl) ?_
  simp only [Act.put, List.setIfInBounds_toArray, List.set_cons_zero, List.set_cons_succ, List.getElem_toArray, List.getElem_cons_zero, List.getElem_cons_succ]
  refine list_val (.pointer (some ⟨g, 0, none⟩)) (by kernel_rfl) (by kernel_rfl) ?_
  simp only [Act.put, List.setIfInBounds_toArray, List.set_cons_zero, List.set_cons_succ, List.getElem_toArray, List.getElem_cons_zero, List.getElem_cons_succ]
  refine list_val (.int .i64 (k : Int)) (by kernel_rfl) (exec_i64 _ (.tmp 31) rfl g 0 (by kernel_rfl) (k : Int) (cell_of (hB.get 0 (x := ⟨g, rdr k p n c, 100⟩) rfl) (i := 0) rfl)) ?_
  simp only [Act.put, List.setIfInBounds_toArray, List.set_cons_zero, List.set_cons_succ, List.getElem_toArray, List.getElem_cons_zero, List.getElem_cons_succ]
  refine list_val (.int .i64 (m : Int)) (by kernel_rfl) (by kernel_rfl) ?_
  simp only [Act.put, List.setIfInBounds_toArray, List.set_cons_zero, List.set_cons_succ, List.getElem_toArray, List.getElem_cons_zero, List.getElem_cons_succ]
  refine list_val (.int .i64 (km : Int)) (by kernel_rfl) (by go_simp) ?_
  simp only [Act.put, List.setIfInBounds_toArray, List.set_cons_zero, List.set_cons_succ, List.getElem_toArray, List.getElem_cons_zero, List.getElem_cons_succ]
  refine list_val (.pointer (some ⟨g, 0, none⟩)) (by kernel_rfl) (by kernel_rfl) ?_
  simp only [Act.put, List.setIfInBounds_toArray, List.set_cons_zero, List.set_cons_succ, List.getElem_toArray, List.getElem_cons_zero, List.getElem_cons_succ]
  refine list_val (.pointer (some ⟨g, 0, none⟩)) (by kernel_rfl) (by kernel_rfl) ?_
  simp only [Act.put, List.setIfInBounds_toArray, List.set_cons_zero, List.set_cons_succ, List.getElem_toArray, List.getElem_cons_zero, List.getElem_cons_succ]
  refine list_val (.pointer (some ⟨g, 0, none⟩)) (by kernel_rfl) (by kernel_rfl) ?_
  simp only [Act.put, List.setIfInBounds_toArray, List.set_cons_zero, List.set_cons_succ, List.getElem_toArray, List.getElem_cons_zero, List.getElem_cons_succ]
  have c4 := cell_of (hB.get 0 (x := ⟨g, rdr k p n c, 100⟩) rfl) (i := 0) rfl
  have fz := froz_of (i := 0) (hB.get 0 (x := ⟨g, rdr k p n c, 100⟩) rfl)
  have hB2 := hB.cell 0 (x := ⟨g, rdr k p n c, 100⟩) rfl 0 (.int .i64 (km : Int))
  simp only [List.set_cons_zero, List.set_cons_succ] at hB2
  replace hB2 : Bc [g] w [⟨g, rdr km p n c, 100⟩] _ := hB2
  clear hB
  replace hB2 := hide hB2
  dsimp only at c4 fz
  (refine wpList_step fun K hK => ?_; replace hK := hide hK; go_simp; refine unhide hK _ _ ?_; clear hK K)
  clear c4 fz
  have hB := unhide hB2
  clear hB2
  generalize World.setCell _ _ _ = u3 at *
  refine wpList_nil ?_
  clear hw1
  replace hB := hide hB
  go_upto_region 11 with fail
  replace hB := unhide hB
  refine any_start (S := fun (v : World) => v.heap[g]? = some (.cells (rdr km p n c) 100 (0, 0))) (by kernel_rfl) ?_
  replace hB := hB.drew
  generalize World.drew _ = x0 at *
  have hS : (fun (v : World) => v.heap[g]? = some (.cells (rdr km p n c) 100 (0, 0))) x0 := (hB.get 0 (x := ⟨g, rdr km p n c, 100⟩) rfl)
  replace hB := hide hB
  simp only [List.size_toArray, List.length_cons, List.length_nil, Array.replicate, List.replicate]
  refine any_take (i := 0) (v := (.pointer (some ⟨g, 0, none⟩))) #[false, false, false, false, false, false, false, false, false, false, false, false] rfl (by kernel_rfl) (by kernel_rfl) (by kernel_rfl) (by kernel_rfl) (fun _ _ _ h => h) (.inl ⟨by kernel_rfl, fun x_ hu => by kernel_rfl⟩) hS ?_
  simp only [Act.put, List.setIfInBounds_toArray, List.set_cons_zero, List.set_cons_succ, List.getElem_toArray, List.getElem_cons_zero, List.getElem_cons_succ]
  refine any_take (i := 1) (v := (.pointer (some ⟨g, 0, none⟩))) #[true, false, false, false, false, false, false, false, false, false, false, false] rfl (by kernel_rfl) (by kernel_rfl) (by kernel_rfl) (by kernel_rfl) (fun _ _ _ h => h) (.inl ⟨by kernel_rfl, fun x_ hu => by kernel_rfl⟩) hS ?_
  simp only [Act.put, List.setIfInBounds_toArray, List.set_cons_zero, List.set_cons_succ, List.getElem_toArray, List.getElem_cons_zero, List.getElem_cons_succ]
  refine any_take (i := 2) (v := (.pointer (some ⟨g, 2, none⟩))) #[true, true, false, false, false, false, false, false, false, false, false, false] rfl (by kernel_rfl) (by kernel_rfl) (by kernel_rfl) (by kernel_rfl) (fun _ _ _ h => h) (.inl ⟨by kernel_rfl, fun x_ hu => by kernel_rfl⟩) hS ?_
  simp only [Act.put, List.setIfInBounds_toArray, List.set_cons_zero, List.set_cons_succ, List.getElem_toArray, List.getElem_cons_zero, List.getElem_cons_succ]
  refine any_take (i := 3) (v := (.slice (some ⟨p, 0, none⟩) n c)) #[true, true, true, false, false, false, false, false, false, false, false, false] rfl (by kernel_rfl) (by kernel_rfl) (by kernel_rfl) (by kernel_rfl) (fun _ _ _ h => h) (.inl ⟨by kernel_rfl, fun x_ hu => exec_sby _ (.tmp 40) rfl g 2 (by kernel_rfl) (some ⟨p, 0, none⟩) n c (cell_of hu (i := 2) rfl)⟩) hS ?_
  simp only [Act.put, List.setIfInBounds_toArray, List.set_cons_zero, List.set_cons_succ, List.getElem_toArray, List.getElem_cons_zero, List.getElem_cons_succ]
  refine any_take (i := 4) (v := (.int .i64 (k : Int))) #[true, true, true, true, false, false, false, false, false, false, false, false] rfl (by kernel_rfl) (by kernel_rfl) (by kernel_rfl) (by kernel_rfl) (fun _ _ _ h => h) (.inl ⟨by kernel_rfl, fun x_ hu => by kernel_rfl⟩) hS ?_
  simp only [Act.put, List.setIfInBounds_toArray, List.set_cons_zero, List.set_cons_succ, List.getElem_toArray, List.getElem_cons_zero, List.getElem_cons_succ]
  refine any_take (i := 5) (v := (.pointer (some ⟨g, 0, none⟩))) #[true, true, true, true, true, false, false, false, false, false, false, false] rfl (by kernel_rfl) (by kernel_rfl) (by kernel_rfl) (by kernel_rfl) (fun _ _ _ h => h) (.inl ⟨by kernel_rfl, fun x_ hu => by kernel_rfl⟩) hS ?_
  simp only [Act.put, List.setIfInBounds_toArray, List.set_cons_zero, List.set_cons_succ, List.getElem_toArray, List.getElem_cons_zero, List.getElem_cons_succ]
  refine any_take (i := 6) (v := (.pointer (some ⟨g, 0, none⟩))) #[true, true, true, true, true, true, false, false, false, false, false, false] rfl (by kernel_rfl) (by kernel_rfl) (by kernel_rfl) (by kernel_rfl) (fun _ _ _ h => h) (.inl ⟨by kernel_rfl, fun x_ hu => by kernel_rfl⟩) hS ?_
  simp only [Act.put, List.setIfInBounds_toArray, List.set_cons_zero, List.set_cons_succ, List.getElem_toArray, List.getElem_cons_zero, List.getElem_cons_succ]
  refine any_take (i := 7) (v := (.pointer (some ⟨g, 0, none⟩))) #[true, true, true, true, true, true, true, false, false, false, false, false] rfl (by kernel_rfl) (by kernel_rfl) (by kernel_rfl) (by kernel_rfl) (fun _ _ _ h => h) (.inl ⟨by kernel_rfl, fun x_ hu => by kernel_rfl⟩) hS ?_
  simp only [Act.put, List.setIfInBounds_toArray, List.set_cons_zero, List.set_cons_succ, List.getElem_toArray, List.getElem_cons_zero, List.getElem_cons_succ]
  refine any_take (i := 8) (v := (.pointer (some ⟨g, 0, none⟩))) #[true, true, true, true, true, true, true, true, false, false, false, false] rfl (by kernel_rfl) (by kernel_rfl) (by kernel_rfl) (by kernel_rfl) (fun _ _ _ h => h) (.inl ⟨by kernel_rfl, fun x_ hu => by kernel_rfl⟩) hS ?_
  simp only [Act.put, List.setIfInBounds_toArray, List.set_cons_zero, List.set_cons_succ, List.getElem_toArray, List.getElem_cons_zero, List.getElem_cons_succ]
  refine any_take (i := 9) (v := (.int .i64 (km : Int))) #[true, true, true, true, true, true, true, true, true, false, false, false] rfl (by kernel_rfl) (by kernel_rfl) (by kernel_rfl) (by kernel_rfl) (fun _ _ _ h => h) (.inl ⟨by kernel_rfl, fun x_ hu => exec_i64 _ (.tmp 46) rfl g 0 (by kernel_rfl) (km : Int) (cell_of hu (i := 0) rfl)⟩) hS ?_
  simp only [Act.put, List.setIfInBounds_toArray, List.set_cons_zero, List.set_cons_succ, List.getElem_toArray, List.getElem_cons_zero, List.getElem_cons_succ]
  refine any_take (i := 10) (v := (.slice (some ⟨p, k, none⟩) m (c - k))) #[true, true, true, true, true, true, true, true, true, true, false, false] rfl (by kernel_rfl) (by kernel_rfl) (by kernel_rfl) (by kernel_rfl) (fun _ _ _ h => h) (.inl ⟨by kernel_rfl, fun x_ hu => exec_win _ (.tmp 41) (.tmp 42) (.tmp 47) rfl p n c k km m (by kernel_rfl) (by kernel_rfl) (by kernel_rfl) (unhide hkm) hm (by have := unhide hkm; omega)⟩) hS ?_
  simp only [Act.put, List.setIfInBounds_toArray, List.set_cons_zero, List.set_cons_succ, List.getElem_toArray, List.getElem_cons_zero, List.getElem_cons_succ]
  refine any_one (i := 11) (by kernel_rfl) rfl (fun K_ hQ => ?_)
  replace hQ := hide hQ
  go_simp
  refine (unhide hQ).out _ _ hS (fun _ => ?_)
  clear hQ K_
  refine any_done (by kernel_rfl) ?_
  have hZ : Hid (Tkn g p n c k m L w (.returned (.slice (some ⟨p, k, none⟩) m (c - k))) x0) := by
    have hb := (unhide hB).chg.bt1
    refine ⟨rfl, (unhide hR).to hb ?_, hb⟩
    rw [← unhide hkm]
    exact hS
  generalize c - k = cc at *
  clear hS
  go_wp2_with fail
  rw [unhide hT]
  exact unhide hZ
set_option maxHeartbeats 4000000 in
theorem ru32_ok (g p n c k : Nat) (L : List Int) (w : World) (hR : Rdr g p n c k L w) (hkn : k + 4 ≤ n) (hn : n ≤ 100000) : Calls Try.prog 61 #[P0 g] w (fun r w' => r = .returned (.int .u32 (lowN ((L.drop k).take 4))) ∧ Rdr g p n c (k + 4) L w' ∧ Bt g w w') := by
  obtain ⟨T, hT⟩ : ∃ T : Ending → World → Prop, T = fun r w' => r = .returned (.int .u32 (lowN ((L.drop k).take 4))) ∧ Rdr g p n c (k + 4) L w' ∧ Bt g w w' := ⟨_, rfl⟩
  rw [← hT]
  replace hT := hide hT
  have hl : ((L.drop k).take 4).length = 4 := by rw [List.length_take, List.length_drop, hR.len]; omega
  have hb : IsB ((L.drop k).take 4) := fun x hx => hR.isB x (List.mem_of_mem_drop (List.mem_of_mem_take hx))
  have hbd := lowN_bd _ hb
  rw [hl] at hbd
  replace hR := hide hR; replace hb := hide hb
  go_enter Try.func61, Try.ntmps61
  go_upto_region 1 with fail
  refine wp_region_lit ?_
  refine list_val (.pointer (some ⟨g, 0, none⟩)) (by kernel_rfl) (by kernel_rfl) ?_
  simp only [Act.put, List.setIfInBounds_toArray, List.set_cons_zero, List.set_cons_succ, List.getElem_toArray, List.getElem_cons_zero, List.getElem_cons_succ]
  refine list_call 69 #[P0 g, .int .i64 (4 : Nat)] (by kernel_rfl) (by kernel_rfl) ((rtake_ok g p n c k 4 L w (unhide hR) hkn (by omega) hn).mono ?_)
  rintro r u1 ⟨rfl, hR1, hb1⟩
  refine ⟨_, rfl, ?_⟩
  have hat : At u1 p k ((L.drop k).take 4) := by
    have h := (hR1.at_.drop k).take 4
    rw [Nat.zero_add] at h
    exact h
  replace hat := hide hat; replace hR1 := hide hR1; replace hb1 := hide hb1
  simp only [Act.put, List.setIfInBounds_toArray, List.set_cons_zero, List.set_cons_succ, List.getElem_toArray, List.getElem_cons_zero, List.getElem_cons_succ]
  refine list_call 68 #[.slice (some ⟨p, k, none⟩) 4 (c - k)] (by kernel_rfl) (by kernel_rfl) ((onum_ok p k 4 (c - k) _ u1 hl (by omega) (unhide hb) (unhide hat)).mono ?_)
  rintro r u2 ⟨rfl, rfl⟩
  refine ⟨_, rfl, ?_⟩
  generalize lowN ((L.drop k).take 4) = y at *
  rw [show (256 : Int) ^ 4 = 4294967296 from by decide] at hbd
  have e9 : IntKind.u32.wrap y = y := by rw [IntKind.wrap_u32]; omega
  simp only [Act.put, List.setIfInBounds_toArray, List.set_cons_zero, List.set_cons_succ, List.getElem_toArray, List.getElem_cons_zero, List.getElem_cons_succ]
  refine list_val (.int .u32 y) (by kernel_rfl) (by go_simp) ?_
  simp only [Act.put, List.setIfInBounds_toArray, List.set_cons_zero, List.set_cons_succ, List.getElem_toArray, List.getElem_cons_zero, List.getElem_cons_succ]
  (refine wpList_step fun K hK => ?_; replace hK := hide hK; go_simp; refine unhide hK _ _ ?_; clear hK K)
  refine wpList_nil ?_
  have hZ : Hid (T (.returned (.int .u32 y)) u2) := by
    rw [unhide hT]
    exact ⟨rfl, unhide hR1, unhide hb1⟩
  clear hbd
  go_wp2_with fail
  exact unhide hZ
set_option maxHeartbeats 4000000 in
theorem rraw_ok (g p n c k m : Nat) (L : List Int) (w : World) (hR : Rdr g p n c k L w) (hkn : k + m ≤ n) (hm : 0 < m) (hn : n ≤ 100000) : Calls Try.prog 63 #[P0 g, .int .i64 (m : Int)] w (fun r w' => ∃ v, r = .returned v ∧ Ob w.heap.size w' v ((L.drop k).take m) ∧ Rdr g p n c (k + m) L w' ∧ Bt g w w') := by
  obtain ⟨T, hT⟩ : ∃ T : Ending → World → Prop, T = fun r w' => ∃ v, r = .returned v ∧ Ob w.heap.size w' v ((L.drop k).take m) ∧ Rdr g p n c (k + m) L w' ∧ Bt g w w' := ⟨_, rfl⟩
  rw [← hT]
  replace hT := hide hT
  have hl : ((L.drop k).take m).length = m := by rw [List.length_take, List.length_drop, hR.len]; omega
  have hb : IsB ((L.drop k).take m) := fun x hx => hR.isB x (List.mem_of_mem_drop (List.mem_of_mem_take hx))
  replace hR := hide hR; replace hb := hide hb
  go_enter Try.func63, Try.ntmps63
  go_upto_region 1 with fail
  refine wp_region_lit ?_
  refine list_val (.pointer (some ⟨g, 0, none⟩)) (by kernel_rfl) (by kernel_rfl) ?_
  simp only [Act.put, List.setIfInBounds_toArray, List.set_cons_zero, List.set_cons_succ, List.getElem_toArray, List.getElem_cons_zero, List.getElem_cons_succ]
  refine list_val (.int .i64 (m : Int)) (by kernel_rfl) (by kernel_rfl) ?_
  simp only [Act.put, List.setIfInBounds_toArray, List.set_cons_zero, List.set_cons_succ, List.getElem_toArray, List.getElem_cons_zero, List.getElem_cons_succ]
  refine list_call 69 #[P0 g, .int .i64 (m : Int)] (by kernel_rfl) (by kernel_rfl) ((rtake_ok g p n c k m L w (unhide hR) hkn hm hn).mono ?_)
  rintro r u1 ⟨rfl, hR1, hb1⟩
  refine ⟨_, rfl, ?_⟩
  have hlb : Lb u1 (some ⟨p, k, none⟩) m (c - k) ((L.drop k).take m) := by
    have h := (hR1.at_.drop k).take m
    rw [Nat.zero_add] at h
    exact ⟨hl, unhide hb, .inr ⟨p, k, rfl, h⟩, by have := hR1.cap; omega, by have := hR1.max; omega⟩
  replace hlb := hide hlb; replace hR1 := hide hR1; replace hb1 := hide hb1
  simp only [Act.put, List.setIfInBounds_toArray, List.set_cons_zero, List.set_cons_succ, List.getElem_toArray, List.getElem_cons_zero, List.getElem_cons_succ]
  refine list_call 65 #[.slice (some ⟨p, k, none⟩) m (c - k)] (by kernel_rfl) (by kernel_rfl) ((clone_ok _ p k m (c - k) u1 (unhide hlb) (by omega)).mono ?_)
  rintro r u2 ⟨v, rfl, hO, hG⟩
  refine ⟨_, rfl, ?_⟩
  have hZ : Hid (T (.returned v) u2) := by
    rw [unhide hT]
    exact ⟨v, rfl, ob_base hO (unhide hb1).size, (unhide hR1).gr hG, (unhide hb1).trans (hG.bt g)⟩
  clear hO hG
  simp only [Act.put, List.setIfInBounds_toArray, List.set_cons_zero, List.set_cons_succ, List.getElem_toArray, List.getElem_cons_zero, List.getElem_cons_succ]
  (refine wpList_step fun K hK => ?_; replace hK := hide hK; go_simp; refine unhide hK _ _ ?_; clear hK K)
  refine wpList_nil ?_
  go_wp2_with fail
  exact unhide hZ
theorem run_append_zeros (w : World) (ty : TypeId) (b : Addr) (olds : List Value) (hlo : olds.length = 64) (holds : ∀ j v, olds[j]? = some v → w.cell? (b.add j) = some v) :
    (Builtin.append_ #[53, 3] ty #[.slice (some b) 64 64, .int .i64 64]).run Try.prog w =
      .ok (.slice (some ⟨w.heap.size, 0, none⟩) 128 (grownCap w 128 64 5))
        (w.drew.alloc (.cells (olds.toArray ++ Builtin.zeroCells (Value.int .u8 0).cells 64 ++ Builtin.zeroCells (Value.int .u8 0).cells (grownCap w 128 64 5 - 128)) 5)) := by
  obtain ⟨i0, hi, hz0, hz1, hz2⟩ := info_parts Try.info5
  have hfo := run_firstCells_some (P := Try.prog) w.drew i0.size 64 b 64 64 olds (by rw [hlo, hz1]) (by simpa using holds)
  rw [hz1] at hfo
  have hfit : ¬ (281474976710656 < Builtin.nextslicecap 128 64) := by decide
  simp [Builtin.append_, run_underlying Try.underlying53, run_underlying Try.underlying3, sizeOf, typeInfo, zeroValue, hi, hz0, hz1, hz2, asInt, asIntOf, IntKind.wrap_i64, Question.forced, hfo, newRow, grownCap, hfit]
  intro h
  exfalso
  omega
theorem zero64 : Builtin.zeroCells (Value.int .u8 0).cells 64 = kc ZB := by kernel_rfl
/-- 64 noughts are put behind a block -/
theorem app_zeros {w : World} {ops : Array Oper} {rest : List Oper} {o : Oper} {a : Act} {Q : Exit → Act → World → Prop} (hw : Region.wanted o (yielded ops a.tmps) = true) (s : Operand)
    (ho : o.op = .call { callee := .builtin .append, args := #[s, .const (.int .i64 64)], argTypes := #[53, 3] }) (g : Nat) (B : List Int) (hB : BB B) (hs : a.eval s = .slice (some ⟨g, 0, none⟩) 64 64) (hat : At w g 0 B)
    (h : ∀ a' c' w', Lb w' a' 128 c' (B ++ ZB) → (∀ i, blkOf a' = some i → w.heap.size ≤ i) → Gr w w' → wpList Try.prog ops Q rest (a.put o.dst (.slice a' 128 c')) w') :
    wpList Try.prog ops Q (o :: rest) a w := by
  have hl := hB.1
  rw [wpList, if_pos hw]
  refine Or.inl ?_
  have hold : ∀ j v, (B.map (Value.int .u8))[j]? = some v → w.cell? ((⟨g, 0, none⟩ : Addr).add j) = some v := by
    intro j v hj
    have hjl : j < B.length := by have := (List.getElem?_eq_some_iff.1 hj).1; simpa using this
    rw [Addr.add_mid, hat j hjl]
    simp [hjl] at hj ⊢
    exact hj
  have hrun := run_append_zeros w o.type ⟨g, 0, none⟩ (B.map (Value.int .u8)) (by rw [List.length_map, hl]) hold
  have hcm := grownCap_le_maxLen w 128 64 5 (by unfold maxLen; omega)
  have hcg := grownCap_ge w 128 64 5
  have hev : a.eval (.const (.int .i64 64)) = .int .i64 64 := rfl
  unfold Oper.wp
  simp only [execOp, ho, resolve, invoke, builtin, Sem.run_bind, Sem.run_pure, Result.andThen_ok, List.map_toArray, List.map_cons, List.map_nil, hs, hev, hrun]
  refine h _ _ _ ⟨by rw [List.length_append, hl]; rfl, isB_app hB.2 ZB_bb.2, .inr ⟨_, 0, rfl, fun j hj => ?_⟩, hcg, by unfold maxLen at hcm; omega⟩ (fun i hi => ?_) ((Gr.refl w).drew.alloc _)
  · rw [List.length_append, hl, ZB_len] at hj
    rw [Nat.zero_add]
    refine cell_of (blk_new w.drew _) ?_
    rw [zero64, Array.getElem?_append_left (by simp [kc_size, hl, ZB_len]; omega)]
    unfold kc
    rw [List.append_toArray, List.getElem?_toArray, ← List.map_append, List.getElem?_map, List.getElem?_eq_getElem (by rw [List.length_append, hl, ZB_len]; exact hj)]
    simp [List.getD_eq_getElem?_getD, List.getElem?_eq_getElem (show j < (B ++ ZB).length from by rw [List.length_append, hl, ZB_len]; exact hj)]
  · have e : w.heap.size = i := Option.some.inj hi
    omega
/-- a list of lists, of whatever room -/
structure Lq (W : World) (a : Option Addr) (n c : Nat) (ps : List (List Int)) : Prop where
  len : ps.length = n
  sl : n = 0 ∨ ∃ p o, a = some ⟨p, o, none⟩ ∧ ∀ i, i < n → ∃ ai ni ci, W.cell? ⟨p, o + i, none⟩ = some (.slice ai ni ci) ∧ Lb W ai ni ci (ps.getD i []) ∧ ni ≤ 140737488351232
  cap : n ≤ c
  max : c < 9223372036854775808
theorem Lq.gr {w v : World} {a : Option Addr} {n c : Nat} {ps : List (List Int)} (h : Lq w a n c ps) (g : Gr w v) : Lq v a n c ps := by
  refine ⟨h.len, ?_, h.cap, h.max⟩
  rcases h.sl with h | ⟨p, o, h1, h2⟩
  · exact .inl h
  · refine .inr ⟨p, o, h1, fun i hi => ?_⟩
    obtain ⟨ai, ni, ci, h3, h4, h5⟩ := h2 i hi
    exact ⟨ai, ni, ci, g.cell h3, h4.gr g, h5⟩
theorem Lq.at_ {w : World} {a : Option Addr} {n c : Nat} {ps : List (List Int)} (h : Lq w a n c ps) (i : Nat) (hi : i < n) : ∃ p o ai ni ci, a = some ⟨p, o, none⟩ ∧ w.cell? ⟨p, o + i, none⟩ = some (.slice ai ni ci) ∧ Lb w ai ni ci (ps.getD i []) ∧ ni ≤ 140737488351232 := by
  rcases h.sl with h0 | ⟨p, o, h1, h2⟩
  · omega
  · obtain ⟨ai, ni, ci, h3, h4, h5⟩ := h2 i hi
    exact ⟨p, o, ai, ni, ci, h1, h3, h4, h5⟩
theorem str_inj {A B : List Int} (hA : IsB A) (hB : IsB B) (h : strOfNums A = strOfNums B) : A = B := by
  have h1 : (strOfNums A).data.toList = (strOfNums B).data.toList := by rw [h]
  rw [strOfNums_data, strOfNums_data] at h1
  have hl : A.length = B.length := by simpa using congrArg List.length h1
  apply List.ext_getElem hl
  intro i h2 h3
  have h4 : (A.map fun n => UInt8.ofNat n.toNat)[i]? = (B.map fun n => UInt8.ofNat n.toNat)[i]? := by rw [h1]
  simp only [List.getElem?_map, List.getElem?_eq_getElem h2, List.getElem?_eq_getElem h3, Option.map_some, Option.some.injEq] at h4
  have h5 := congrArg UInt8.toNat h4
  simp only [UInt8.toNat_ofNat'] at h5
  have a1 := hA _ (List.getElem_mem h2)
  have b1 := hB _ (List.getElem_mem h3)
  omega
/-- the same bytes are equal -/
theorem equal_same (B : List Int) (a b : Option Addr) (n c d : Nat) (hn : B.length = n) (w : World) (ha : Sl w a B) (hb : Sl w b B) : Calls Try.prog 28 #[.slice a n c, .slice b n d] w (fun r w' => r = .returned (.bool true) ∧ w' = w) := by
  have h1 := ha.text n c hn
  have h2 := hb.text n d hn
  clear ha hb
  go_enter Try.func28, Try.ntmps28
  go_wp2_with fail
  refine bodyPost_ret (v := .bool true) ?_ rfl ⟨rfl, rfl⟩
  simp [results, Try.results28, go_sem]
/-- others are not -/
theorem equal_not (A B : List Int) (a b : Option Addr) (n m c d : Nat) (hn : A.length = n) (hm : B.length = m) (bA : IsB A) (bB : IsB B) (hne : A ≠ B) (w : World) (ha : Sl w a A) (hb : Sl w b B) : Calls Try.prog 28 #[.slice a n c, .slice b m d] w (fun r w' => r = .returned (.bool false) ∧ w' = w) := by
  have h1 := ha.text n c hn
  have h2 := hb.text m d hm
  have h3 : ¬ (strOfNums A).toList = (strOfNums B).toList := fun e => hne (str_inj bA bB (by
    rw [ByteArray.toList_eq, ByteArray.toList_eq] at e
    exact WideShapes.bytes_inj e))
  clear ha hb hne
  generalize strOfNums A = sa at *
  generalize strOfNums B = sb at *
  go_enter Try.func28, Try.ntmps28
  go_wp2_with fail
  refine bodyPost_ret (v := .bool false) ?_ rfl ⟨rfl, rfl⟩
  simp [results, Try.results28, go_sem, h3]
/-- bytes.Equal -/
theorem beq_ok (A B : List Int) (a b : Option Addr) (n m c d : Nat) (w : World) (ha : Lb w a n c A) (hb : Lb w b m d B) : Calls Try.prog 28 #[.slice a n c, .slice b m d] w (Vl (.bool (decide (A = B))) w) := by
  by_cases h : A = B
  · subst h
    have e : m = n := hb.len.symm.trans ha.len
    subst e
    refine (equal_same A a b m c d ha.len w ha.sl hb.sl).mono ?_
    rintro r w' ⟨rfl, rfl⟩
    exact ⟨by rw [decide_eq_true rfl], Gr.refl _⟩
  · refine (equal_not A B a b n m c d ha.len hb.len ha.isB hb.isB h w ha.sl hb.sl).mono ?_
    rintro r w' ⟨rfl, rfl⟩
    exact ⟨by rw [decide_eq_false h], Gr.refl _⟩
theorem add_zero (p o : Nat) : (⟨p, o, none⟩ : Addr).add 0 = ⟨p, o, none⟩ := rfl
theorem add_some (p o k : Nat) : (⟨p, o, none⟩ : Addr).add k = ⟨p, o + k, none⟩ := by
  rcases Nat.eq_zero_or_pos k with h0 | h0
  · subst h0; rfl
  · simp [Addr.add]; omega
/-- the first bytes of a list, and the others -/
theorem Lb.upto {v : World} {s : Option Addr} {len cap : Nat} {B : List Int} (h : Lb v s len cap B) (n : Nat) (hn : n ≤ len) : Lb v (if cap = 0 then s else s.map (·.add 0)) n cap (B.take n) := by
  refine ⟨by rw [List.length_take, h.len]; omega, h.isB.take n, ?_, Nat.le_trans hn h.cap, h.max⟩
  rcases h.sl with rfl | ⟨p, o, rfl, hat⟩
  · exact .inl (by simp)
  · refine .inr ⟨p, o, ?_, fun j hj => ?_⟩
    · split
      · rfl
      · rfl
    · rw [List.length_take] at hj
      rw [hat j (by omega)]
      congr 2
      rw [List.getD_eq_getElem?_getD, List.getD_eq_getElem?_getD, List.getElem?_take, if_pos (by omega)]
theorem Lb.rest {v : World} {s : Option Addr} {len cap : Nat} {B : List Int} (h : Lb v s len cap B) (n : Nat) (hn : n ≤ len) : Lb v (if cap = n then s else s.map (·.add n)) (len - n) (cap - n) (B.drop n) := by
  have hc := h.cap
  have hl := h.len
  refine ⟨by rw [List.length_drop, h.len], h.isB.drop n, ?_, by omega, by have := h.max; omega⟩
  rcases h.sl with rfl | ⟨p, o, rfl, hat⟩
  · exact .inl (by simp)
  · by_cases hcn : cap = n
    · exact .inl (List.drop_eq_nil_of_le (by omega))
    · refine .inr ⟨p, o + n, by rw [if_neg hcn, Option.map_some, add_some], fun j hj => ?_⟩
      rw [List.length_drop] at hj
      rw [Nat.add_assoc, hat (n + j) (by omega)]
      congr 2
      rw [List.getD_eq_getElem?_getD, List.getD_eq_getElem?_getD, List.getElem?_drop]
/-- append, as an operation of a region that draws its order -/
theorem app_op {w : World} {o : Oper} {a : Act} {K : Act → World → Prop} {Q : Exit → Act → World → Prop} (s x : Operand)
    (ho : o.op = .call { callee := .builtin .append, args := #[s, x], argTypes := #[53, 53] }) (b : Nat) (v : Value) (L : List Int) (hs : a.eval s = v) (hown : Ob b w v L)
    (sp : Option Addr) (n sc : Nat) (l : List Int) (hx : a.eval x = .slice sp n sc) (hn : l.length = n) (hsl : Sl w sp l) (hbig : L.length + n ≤ 180000000000000) (hB : b ≤ w.heap.size)
    (h : ∀ v' w', Ob b w' v' (L ++ l) → w.grownBy w' v.ownBlock → K (a.put o.dst v') w') : o.wp Try.prog a w K Q := by
  subst hn
  obtain ⟨i0, hi, hz0, hz1, hz2⟩ := info_parts Try.info5
  rcases hsl with rfl | ⟨p, q, rfl, hat⟩
  · obtain ⟨a', c', rfl, hc, _, _⟩ := hown.slice
    have hrun : (Builtin.append_ #[53, 53] o.type #[.slice a' L.length c', .slice sp 0 sc]).run Try.prog w = .ok (.slice a' L.length c') w := by
      cases a' <;> cases sp <;> simp [Builtin.append_, run_underlying Try.underlying53, sizeOf, typeInfo, hi, Builtin.lenOf, Builtin.firstCells, loadCells, loadCellsFrom, storeCells, hc]
    unfold Oper.wp
    simp [execOp, ho, resolve, invoke, builtin, hs, hx, hrun, Result.andThen]
    exact h _ _ (by rw [List.append_nil]; exact hown) (World.grownBy.refl _ _)
  · refine wp_append_own_wide w s x 53 ho b 5 i0 (.int .u8 0) 1 1 Try.underlying53 hi hz0 hz1 hz2 rfl (by decide) v L.length _ hs hown ⟨p, q, none⟩ l.length sc (l.map (Value.int .u8)) hx (by simp) ?_ ?_ (by unfold maxLen; omega) (by omega) hB ?_
    · intro j u hj
      have hjl : j < l.length := by have := (List.getElem?_eq_some_iff.1 hj).1; simpa using this
      rw [Addr.add_mid, hat j hjl]
      simp [hjl] at hj ⊢
      exact hj
    · intro u hu
      obtain ⟨y, _, rfl⟩ := List.mem_map.1 hu
      rfl
    · intro v' w' h1 h2 _
      refine h v' w' ?_ h2
      unfold Ob
      rw [List.length_append, List.map_append]
      exact h1
theorem IsB.append {A B : List Int} (h : IsB A) (k : IsB B) : IsB (A ++ B) := fun x hx => by
  rcases List.mem_append.1 hx with h1 | h1
  · exact h x h1
  · exact k x h1
theorem IsB.nil : IsB [] := fun x hx => by cases hx
theorem list_upto {ops : Array Oper} {Q : Exit → Act → World → Prop} {a : Act} {w : World} {o : Oper} {rest : List Oper} (x y : Operand) (hw : Region.wanted o (yielded ops a.tmps) = true) (ho : o.op = .slice 53 x none (some y) none)
    (s : Option Addr) (len cap n : Nat) (hx : a.eval x = .slice s len cap) (hy : a.eval y = .int .i64 n) (B : List Int) (hb : Lb w s len cap B) (hn : n ≤ len)
    (h : ∀ s', (∀ v, Lb v s len cap B → Lb v s' n cap (B.take n)) → wpList Try.prog ops Q rest (a.put o.dst (.slice s' n cap)) w) : wpList Try.prog ops Q (o :: rest) a w := by
  refine list_val (.slice (if cap = 0 then s else s.map (·.add 0)) n cap) hw ?_ (h _ fun v hv => hv.upto n hn)
  exact exec_upto w x y ho s len cap n hx hy hb.cap hn
theorem list_from {ops : Array Oper} {Q : Exit → Act → World → Prop} {a : Act} {w : World} {o : Oper} {rest : List Oper} (x y : Operand) (hw : Region.wanted o (yielded ops a.tmps) = true) (ho : o.op = .slice 53 x (some y) none none)
    (s : Option Addr) (len cap n : Nat) (hx : a.eval x = .slice s len cap) (hy : a.eval y = .int .i64 n) (B : List Int) (hb : Lb w s len cap B) (hn : n ≤ len)
    (h : ∀ s', (∀ v, Lb v s len cap B → Lb v s' (len - n) (cap - n) (B.drop n)) → wpList Try.prog ops Q rest (a.put o.dst (.slice s' (len - n) (cap - n))) w) : wpList Try.prog ops Q (o :: rest) a w := by
  refine list_val (.slice (if cap = n then s else s.map (·.add n)) (len - n) (cap - n)) hw ?_ (h _ fun v hv => hv.rest n hn)
  exact exec_from w x y ho s len cap n hx hy hb.cap hn
theorem Ob.some {b : Nat} {w : World} {v : Value} {L : List Int} (h : Ob b w v L) (hL : L ≠ []) : ∃ g c cur, v = .slice (some ⟨g, 0, none⟩) L.length c ∧ b ≤ g ∧ w.heap[g]? = some (.cells cur 5 (0, 0)) ∧ L.length ≤ c ∧ c ≤ maxLen ∧ cur.size = c ∧ cur.toList.take L.length = L.map (Value.int .u8) := by
  rcases h.2 with ⟨h1, h2⟩ | ⟨g, cap, cur, h1, h2, h3, h4, h5, h6, h7⟩
  · exact absurd (List.eq_nil_of_length_eq_zero h2) hL
  · exact ⟨g, cap, cur, h1, h2, h3, h4, h5, by rw [h6, Nat.mul_one], by rw [Nat.mul_one] at h7; exact h7⟩
/-- the first cells of a block are these bytes -/
theorem at_take {w : World} {g : Nat} {cur : Array Value} {L : List Int} {t : TypeId} (h : w.heap[g]? = some (.cells cur t (0, 0))) (hc : cur.toList.take L.length = L.map (Value.int .u8)) : At w g 0 L := fun j hj => by
  rw [Nat.zero_add]
  refine cell_of h ?_
  rw [← Array.getElem?_toList]
  have e : (L.map (Value.int .u8))[j]? = some (.int .u8 (L.getD j 0)) := by simp [hj]
  rw [← hc, List.getElem?_take, if_pos hj] at e
  exact e
theorem ob_room {w : World} {b g m : Nat} (h : w.heap[g]? = some (.cells (kc (List.replicate m 0)) 5 (0, 0))) (hg : b ≤ g) (hb : m ≤ 140737488351232) : Ob b w (.slice (some ⟨g, 0, none⟩) 0 m) [] :=
  ⟨rfl, .inr ⟨g, m, _, rfl, hg, h, Nat.zero_le _, by unfold maxLen; omega, by rw [kc_size, List.length_replicate, Nat.mul_one], by simp⟩⟩
theorem isB_snoc {B : List Int} (h : IsB B) : IsB (B ++ [7]) := fun x hx => by
  rcases List.mem_append.1 hx with h1 | h1
  · exact h x h1
  · simp at h1
    omega
theorem take_snoc (B : List Int) (n : Nat) (h : B.length = n) : (B ++ [7]).take n = B := by rw [← h]; simp
theorem get_snoc (B : List Int) (n : Nat) (h : B.length = n) : (B ++ [7]).getD n 0 = 7 := by rw [← h]; simp
/-- bytes are put behind bytes of one's own: in the same block, or in a new one -/
theorem app_b2 {w : World} {ops : Array Oper} {rest : List Oper} {o : Oper} {a : Act} {Q : Exit → Act → World → Prop} (hw : Region.wanted o (yielded ops a.tmps) = true) (s x : Operand)
    (ho : o.op = .call { callee := .builtin .append, args := #[s, x], argTypes := #[53, 53] }) (b : Nat) (v : Value) (L : List Int) (hs : a.eval s = v) (hown : Ob b w v L)
    (sp : Option Addr) (n sc : Nat) (l : List Int) (hx : a.eval x = .slice sp n sc) (hn : l.length = n) (hsl : Sl w sp l) (hbig : L.length + n ≤ 180000000000000) (hB : b ≤ w.heap.size)
    (h : ∀ v' w', Ob b w' v' (L ++ l) → w.grownBy w' v.ownBlock → (v'.ownBlock = v.ownBlock ∨ v'.ownBlock = some w.heap.size) → wpList Try.prog ops Q rest (a.put o.dst v') w') :
    wpList Try.prog ops Q (o :: rest) a w := by
  subst hn
  obtain ⟨i0, hi, hz0, hz1, hz2⟩ := info_parts Try.info5
  rw [wpList, if_pos hw]
  refine Or.inl ?_
  rcases hsl with rfl | ⟨p, q, rfl, hat⟩
  · obtain ⟨a', c', rfl, hc, _, _⟩ := hown.slice
    have hrun : (Builtin.append_ #[53, 53] o.type #[.slice a' L.length c', .slice sp 0 sc]).run Try.prog w = .ok (.slice a' L.length c') w := by
      cases a' <;> cases sp <;> simp [Builtin.append_, run_underlying Try.underlying53, sizeOf, typeInfo, hi, Builtin.lenOf, Builtin.firstCells, loadCells, loadCellsFrom, storeCells, hc]
    unfold Oper.wp
    simp [execOp, ho, resolve, invoke, builtin, hs, hx, hrun, Result.andThen]
    exact h _ _ (by rw [List.append_nil]; exact hown) (World.grownBy.refl _ _) (.inl rfl)
  · by_cases hl0 : l.length = 0
    · have hl00 := List.eq_nil_of_length_eq_zero hl0
      subst hl00
      obtain ⟨a', c', rfl, hc, _, _⟩ := hown.slice
      have hrun : (Builtin.append_ #[53, 53] o.type #[.slice a' L.length c', .slice (some ⟨p, q, none⟩) 0 sc]).run Try.prog w = .ok (.slice a' L.length c') w := by
        cases a' <;> simp [Builtin.append_, run_underlying Try.underlying53, sizeOf, typeInfo, hi, Builtin.lenOf, Builtin.firstCells, loadCells, loadCellsFrom, storeCells, hc]
      unfold Oper.wp
      simp [execOp, ho, resolve, invoke, builtin, hs, hx, hrun, Result.andThen]
      exact h _ _ (by rw [List.append_nil]; exact hown) (World.grownBy.refl _ _) (.inl rfl)
    have hat2 : ∀ j u, (l.map (Value.int .u8))[j]? = some u → w.cell? ((⟨p, q, none⟩ : Addr).add j) = some u := by
      intro j u hj
      have hjl : j < l.length := by have := (List.getElem?_eq_some_iff.1 hj).1; simpa using this
      rw [Addr.add_mid, hat j hjl]
      simp [hjl] at hj ⊢
      exact hj
    have h1 : ∀ u ∈ l.map (Value.int .u8), u.oneCell' = true := by
      intro u hu
      obtain ⟨y, _, rfl⟩ := List.mem_map.1 hu
      rfl
    have hrl : (l.map (Value.int .u8)).length = l.length * 1 := by simp
    obtain ⟨v', w', hr, h2, h3, -⟩ := run_append_own_wide (P := Try.prog) w b 53 o.type 5 i0 (.int .u8 0) 1 1 Try.underlying53 hi hz0 hz1 hz2 rfl (by decide) v L.length _ hown ⟨p, q, none⟩ l.length sc (l.map (Value.int .u8)) hrl hat2 h1 (by unfold maxLen; omega) (by omega) hB
    have hwh : v'.ownBlock = v.ownBlock ∨ v'.ownBlock = some w.heap.size := by
      rcases hown.2 with ⟨e1, e2⟩ | ⟨g, cap, cur, e1, hbg, hg, hnc, hcm, hcs, htake⟩
      · subst e1
        have hr2 := run_append_nil (P := Try.prog) w 53 o.type 5 i0 (.int .u8 0) Try.underlying53 hi hz0 ⟨p, q, none⟩ l.length sc (l.map (Value.int .u8)) (by rw [hz1]; exact hrl) hat2 (by omega) (by omega) (by rw [hz2]; omega)
        rw [hr2] at hr
        injection hr with hr _
        rw [← hr]
        exact .inr rfl
      · subst e1
        by_cases hroom : L.length + l.length ≤ cap
        · have hfit : L.length * i0.size + (l.map (Value.int .u8)).length ≤ cur.size := by rw [hrl, hcs, hz1, ← Nat.add_mul]; exact Nat.mul_le_mul_right _ hroom
          have hr2 := run_append_room (P := Try.prog) w 53 o.type 5 i0 Try.underlying53 hi g L.length cap cur hg ⟨p, q, none⟩ l.length sc (l.map (Value.int .u8)) (by rw [hz1]; exact hrl) hat2 h1 hroom hfit
          rw [hr2] at hr
          injection hr with hr _
          rw [← hr]
          exact .inl rfl
        · have hr2 := run_append_grow (P := Try.prog) w 53 o.type 5 i0 (.int .u8 0) Try.underlying53 hi hz0 ⟨g, 0, none⟩ L.length cap _ (by rw [hz1]; exact hown.1) (World.ownsRow.cells (g := g) hown rfl) ⟨p, q, none⟩ l.length sc (l.map (Value.int .u8)) (by rw [hz1]; exact hrl) hat2 (by omega) (by omega) (by rw [hz2]; exact growslice_fits_wide (by omega) (by omega))
          rw [hr2] at hr
          injection hr with hr _
          rw [← hr]
          exact .inr rfl
    unfold Oper.wp execOp
    simp only [ho, resolve, invoke, builtin, Sem.run_bind, Sem.run_pure, Result.andThen_ok, List.map_toArray, List.map_cons, List.map_nil, hs, hx, hr]
    refine h v' w' ?_ h3 hwh
    unfold Ob
    rw [List.length_append, List.map_append]
    exact h2
theorem Ob.sl {b : Nat} {w : World} {v : Value} {L : List Int} (h : Ob b w v L) : ∃ a c, v = .slice a L.length c := by
  rcases h.2 with ⟨e, e2⟩ | ⟨g, cap, cur, e, _⟩
  · exact ⟨none, 0, by rw [e, e2]⟩
  · exact ⟨_, cap, e⟩
theorem exec_win0 {a : Act} {o : Oper} (w : World) (x y z : Operand) (ho : o.op = .slice 53 x (some y) (some z) none) (p len cap l h m q : Nat) (hx : a.eval x = .slice (some ⟨p, 0, none⟩) len cap) (hy : a.eval y = .int .i64 l) (hz : a.eval z = .int .i64 h) (h1 : h = l + m) (hq : q = if cap = l then 0 else l) (h2 : h ≤ cap) :
    (execOp a.eval o).run Try.prog w = .ok (.value (.slice (some ⟨p, q, none⟩) m (cap - l))) w := by
  have e0 : h - l = m := by omega
  have e1 : (0 : Int) ≤ l := by omega
  have e2 : (l : Int) ≤ h := by omega
  have e3 : (h : Int) ≤ cap := by omega
  have hu : Try.prog.underlying 53 = some (.slice (Try.prog.elem 53)) := by kernel_rfl
  have hs : (sizeOf (Try.prog.elem 53)).run Try.prog w = .ok 1 w := by kernel_rfl
  subst hq
  by_cases hne : cap = l
  · subst hne
    simp [execOp, ho, hx, hy, hz, run_sliceAt_slice _ _ _ _ _ _ hu, run_slice_lh _ _ _ _ _ hu _ _ _ _ e1 e2 e3, hs, sliced, Addr.add_mid, e0]
  · simp [execOp, ho, hx, hy, hz, run_sliceAt_slice _ _ _ _ _ _ hu, run_slice_lh _ _ _ _ _ hu _ _ _ _ e1 e2 e3, hs, sliced, hne, Addr.add_mid, e0]
def Tk0 (g p n c k m : Nat) (L : List Int) (w : World) (r : Ending) (w' : World) : Prop := ∃ q, r = .returned (.slice (some ⟨p, q, none⟩) m (c - k)) ∧ Rdr g p n c (k + m) L w' ∧ Bt g w w'
set_option maxHeartbeats 4000000 in
theorem rtake0_ok (g p n c k m : Nat) (L : List Int) (w : World) (hR : Rdr g p n c k L w) (hkn : k + m ≤ n) (hn : n ≤ 100000) : Calls Try.prog 69 #[P0 g, .int .i64 (m : Int)] w (Tk0 g p n c k m L w) := by
  obtain ⟨T, hT⟩ : ∃ T, T = Tk0 g p n c k m L w := ⟨_, rfl⟩
  rw [← hT]
  replace hT := hide hT
  obtain ⟨q9, hq9⟩ : ∃ q9, q9 = if c = k then 0 else k := ⟨_, rfl⟩
  replace hq9 := hide hq9
  have hcn := hR.cap
  obtain ⟨km, hkm⟩ : ∃ x, x = k + m := ⟨_, rfl⟩
  have hw1 : IntKind.i64.wrap ((k : Int) + (m : Int)) = (km : Int) := by rw [IntKind.wrap_i64]; omega
  obtain ⟨j, hj⟩ : ∃ j, j = n - k := ⟨_, rfl⟩
  have hmj : ¬ (j : Int) < (m : Int) := by omega
  have hB := (Bc.nil [g] w).add ⟨g, rdr k p n c, 100⟩ hR.cel (.inl (by simp)) (fun y hy => by cases hy)
  replace hB : Bc [g] w [⟨g, rdr k p n c, 100⟩] w := hB
  replace hR := hide hR; replace hB := hide hB; replace hkm := hide hkm; replace hj := hide hj
  go_enter Try.func69, Try.ntmps69
  go_upto_region 1 with fail
  replace hB := unhide hB
  refine wp_region_lit ?_
  refine list_val (.pointer (some ⟨g, 0, none⟩)) (by kernel_rfl) (by kernel_rfl) ?_
  simp only [Act.put, List.setIfInBounds_toArray, List.set_cons_zero, List.set_cons_succ, List.getElem_toArray, List.getElem_cons_zero, List.getElem_cons_succ]
  refine list_call 72 #[.pointer (some ⟨g, 0, none⟩)] (by kernel_rfl) (by kernel_rfl) ((rerr_ok g p n c k _ (hB.get 0 (x := ⟨g, rdr k p n c, 100⟩) rfl)).mono ?_)
  rintro r u1 ⟨rfl, hg⟩
  refine ⟨_, rfl, ?_⟩
  replace hB := hB.more hg
  clear hg
  simp only [Act.put, List.setIfInBounds_toArray, List.set_cons_zero, List.set_cons_succ, List.getElem_toArray, List.getElem_cons_zero, List.getElem_cons_succ]
  refine list_val (.bool false) (by kernel_rfl) (by go_simp) ?_
  simp only [Act.put, List.setIfInBounds_toArray, List.set_cons_zero, List.set_cons_succ, List.getElem_toArray, List.getElem_cons_zero, List.getElem_cons_succ]
  refine wpList_nil ?_
  replace hB := hide hB
  go_upto_region 6 with fail
  replace hB := unhide hB
  refine wp_region_lit ?_
  refine list_val (.int .i64 (m : Int)) (by kernel_rfl) (by kernel_rfl) ?_
  simp only [Act.put, List.setIfInBounds_toArray, List.set_cons_zero, List.set_cons_succ, List.getElem_toArray, List.getElem_cons_zero, List.getElem_cons_succ]
  refine list_val (.pointer (some ⟨g, 0, none⟩)) (by kernel_rfl) (by kernel_rfl) ?_
  simp only [Act.put, List.setIfInBounds_toArray, List.set_cons_zero, List.set_cons_succ, List.getElem_toArray, List.getElem_cons_zero, List.getElem_cons_succ]
  refine list_call 73 #[.pointer (some ⟨g, 0, none⟩)] (by kernel_rfl) (by kernel_rfl) ((rleft_ok g p n c k (by omega) hn _ (hB.get 0 (x := ⟨g, rdr k p n c, 100⟩) rfl)).mono ?_)
  rintro r u2 ⟨rfl, hg⟩
  refine ⟨_, rfl, ?_⟩
  rw [← unhide hj]
  replace hB := hB.more hg
  clear hg
  simp only [Act.put, List.setIfInBounds_toArray, List.set_cons_zero, List.set_cons_succ, List.getElem_toArray, List.getElem_cons_zero, List.getElem_cons_succ]
  refine list_val (.bool false) (by kernel_rfl) (by go_simp) ?_
  simp only [Act.put, List.setIfInBounds_toArray, List.set_cons_zero, List.set_cons_succ, List.getElem_toArray, List.getElem_cons_zero, List.getElem_cons_succ]
  refine wpList_nil ?_
  replace hB := hide hB
  go_upto_region 9 with fail
  replace hB := unhide hB
  refine wp_region_lit ?_
  refine list_val (.pointer (some ⟨g, 0, none⟩)) (by kernel_rfl) (by kernel_rfl) ?_
  simp only [Act.put, List.setIfInBounds_toArray, List.set_cons_zero, List.set_cons_succ, List.getElem_toArray, List.getElem_cons_zero, List.getElem_cons_succ]
  refine list_val (.pointer (some ⟨g, 0, none⟩)) (by kernel_rfl) (by kernel_rfl) ?_
  simp only [Act.put, List.setIfInBounds_toArray, List.set_cons_zero, List.set_cons_succ, List.getElem_toArray, List.getElem_cons_zero, List.getElem_cons_succ]
  refine list_val (.pointer (some ⟨g, 0, none⟩)) (by kernel_rfl) (by kernel_rfl) ?_
  simp only [Act.put, List.setIfInBounds_toArray, List.set_cons_zero, List.set_cons_succ, List.getElem_toArray, List.getElem_cons_zero, List.getElem_cons_succ]
  refine list_val (.pointer (some ⟨g, 0, none⟩)) (by kernel_rfl) (by kernel_rfl) ?_
  simp only [Act.put, List.setIfInBounds_toArray, List.set_cons_zero, List.set_cons_succ, List.getElem_toArray, List.getElem_cons_zero, List.getElem_cons_succ]
  refine list_val (.int .i64 (k : Int)) (by kernel_rfl) (exec_i64 _ (.tmp 26) rfl g 0 (by kernel_rfl) (k : Int) (cell_of (hB.get 0 (x := ⟨g, rdr k p n c, 100⟩) rfl) (i := 0) rfl)) ?_
  simp only [Act.put, List.setIfInBounds_toArray, List.set_cons_zero, List.set_cons_succ, List.getElem_toArray, List.getElem_cons_zero, List.getElem_cons_succ]
  (refine wpList_step fun K hK => ?_; replace hK := hide hK; go_simp; refine unhide hK _ _ ?_; clear hK K)
  refine wpList_nil ?_
  replace hB := hide hB
  go_upto_region 10 with fail
  replace hB := unhide hB
  refine wp_region_lit ?_
  refine list_val (.pointer (some ⟨g, 0, none⟩)) (by kernel_rfl) (by kernel_rfl) ?_
  simp only [Act.put, List.setIfInBounds_toArray, List.set_cons_zero, List.set_cons_succ, List.getElem_toArray, List.getElem_cons_zero, List.getElem_cons_succ]
  refine list_val (.pointer (some ⟨g, 0, none⟩)) (by kernel_rfl) (by kernel_rfl) ?_
  simp only [Act.put, List.setIfInBounds_toArray, List.set_cons_zero, List.set_cons_succ, List.getElem_toArray, List.getElem_cons_zero, List.getElem_cons_succ]
  refine list_val (.pointer (some ⟨g, 0, none⟩)) (by kernel_rfl) (by kernel_rfl) ?_
  simp only [Act.put, List.setIfInBounds_toArray, List.set_cons_zero, List.set_cons_succ, List.getElem_toArray, List.getElem_cons_zero, List.getElem_cons_succ]
  refine list_val (.pointer (some ⟨g, 0, none⟩)) (by kernel_rfl) (by kernel_rfl) ?_
  simp only [Act.put, List.setIfInBounds_toArray, List.set_cons_zero, List.set_cons_succ, List.getElem_toArray, List.getElem_cons_zero, List.getElem_cons_succ]
  refine list_val (.int .i64 (k : Int)) (by kernel_rfl) (exec_i64 _ (.tmp 31) rfl g 0 (by kernel_rfl) (k : Int) (cell_of (hB.get 0 (x := ⟨g, rdr k p n c, 100⟩) rfl) (i := 0) rfl)) ?_
  simp only [Act.put, List.setIfInBounds_toArray, List.set_cons_zero, List.set_cons_succ, List.getElem_toArray, List.getElem_cons_zero, List.getElem_cons_succ]
  refine list_val (.int .i64 (m : Int)) (by kernel_rfl) (by kernel_rfl) ?_
  simp only [Act.put, List.setIfInBounds_toArray, List.set_cons_zero, List.set_cons_succ, List.getElem_toArray, List.getElem_cons_zero, List.getElem_cons_succ]
  refine list_val (.int .i64 (km : Int)) (by kernel_rfl) (by go_simp) ?_
  simp only [Act.put, List.setIfInBounds_toArray, List.set_cons_zero, List.set_cons_succ, List.getElem_toArray, List.getElem_cons_zero, List.getElem_cons_succ]
  refine list_val (.pointer (some ⟨g, 0, none⟩)) (by kernel_rfl) (by kernel_rfl) ?_
  simp only [Act.put, List.setIfInBounds_toArray, List.set_cons_zero, List.set_cons_succ, List.getElem_toArray, List.getElem_cons_zero, List.getElem_cons_succ]
  refine list_val (.pointer (some ⟨g, 0, none⟩)) (by kernel_rfl) (by kernel_rfl) ?_
  simp only [Act.put, List.setIfInBounds_toArray, List.set_cons_zero, List.set_cons_succ, List.getElem_toArray, List.getElem_cons_zero, List.getElem_cons_succ]
  refine list_val (.pointer (some ⟨g, 0, none⟩)) (by kernel_rfl) (by kernel_rfl) ?_
  simp only [Act.put, List.setIfInBounds_toArray, List.set_cons_zero, List.set_cons_succ, List.getElem_toArray, List.getElem_cons_zero, List.getElem_cons_succ]
  have c4 := cell_of (hB.get 0 (x := ⟨g, rdr k p n c, 100⟩) rfl) (i := 0) rfl
  have fz := froz_of (i := 0) (hB.get 0 (x := ⟨g, rdr k p n c, 100⟩) rfl)
  have hB2 := hB.cell 0 (x := ⟨g, rdr k p n c, 100⟩) rfl 0 (.int .i64 (km : Int))
  simp only [List.set_cons_zero, List.set_cons_succ] at hB2
  replace hB2 : Bc [g] w [⟨g, rdr km p n c, 100⟩] _ := hB2
  clear hB
  replace hB2 := hide hB2
  dsimp only at c4 fz
  (refine wpList_step fun K hK => ?_; replace hK := hide hK; go_simp; refine unhide hK _ _ ?_; clear hK K)
  clear c4 fz
  have hB := unhide hB2
  clear hB2
  generalize World.setCell _ _ _ = u3 at *
  refine wpList_nil ?_
  clear hw1
  replace hB := hide hB
  go_upto_region 11 with fail
  replace hB := unhide hB
  refine any_start (S := fun (v : World) => v.heap[g]? = some (.cells (rdr km p n c) 100 (0, 0))) (by kernel_rfl) ?_
  replace hB := hB.drew
  generalize World.drew _ = x0 at *
  have hS : (fun (v : World) => v.heap[g]? = some (.cells (rdr km p n c) 100 (0, 0))) x0 := (hB.get 0 (x := ⟨g, rdr km p n c, 100⟩) rfl)
  replace hB := hide hB
  simp only [List.size_toArray, List.length_cons, List.length_nil, Array.replicate, List.replicate]
  refine any_take (i := 0) (v := (.pointer (some ⟨g, 0, none⟩))) #[false, false, false, false, false, false, false, false, false, false, false, false] rfl (by kernel_rfl) (by kernel_rfl) (by kernel_rfl) (by kernel_rfl) (fun _ _ _ h => h) (.inl ⟨by kernel_rfl, fun x_ hu => by kernel_rfl⟩) hS ?_
  simp only [Act.put, List.setIfInBounds_toArray, List.set_cons_zero, List.set_cons_succ, List.getElem_toArray, List.getElem_cons_zero, List.getElem_cons_succ]
  refine any_take (i := 1) (v := (.pointer (some ⟨g, 0, none⟩))) #[true, false, false, false, false, false, false, false, false, false, false, false] rfl (by kernel_rfl) (by kernel_rfl) (by kernel_rfl) (by kernel_rfl) (fun _ _ _ h => h) (.inl ⟨by kernel_rfl, fun x_ hu => by kernel_rfl⟩) hS ?_
  simp only [Act.put, List.setIfInBounds_toArray, List.set_cons_zero, List.set_cons_succ, List.getElem_toArray, List.getElem_cons_zero, List.getElem_cons_succ]
  refine any_take (i := 2) (v := (.pointer (some ⟨g, 2, none⟩))) #[true, true, false, false, false, false, false, false, false, false, false, false] rfl (by kernel_rfl) (by kernel_rfl) (by kernel_rfl) (by kernel_rfl) (fun _ _ _ h => h) (.inl ⟨by kernel_rfl, fun x_ hu => by kernel_rfl⟩) hS ?_
  simp only [Act.put, List.setIfInBounds_toArray, List.set_cons_zero, List.set_cons_succ, List.getElem_toArray, List.getElem_cons_zero, List.getElem_cons_succ]
  refine any_take (i := 3) (v := (.slice (some ⟨p, 0, none⟩) n c)) #[true, true, true, false, false, false, false, false, false, false, false, false] rfl (by kernel_rfl) (by kernel_rfl) (by kernel_rfl) (by kernel_rfl) (fun _ _ _ h => h) (.inl ⟨by kernel_rfl, fun x_ hu => exec_sby _ (.tmp 40) rfl g 2 (by kernel_rfl) (some ⟨p, 0, none⟩) n c (cell_of hu (i := 2) rfl)⟩) hS ?_
  simp only [Act.put, List.setIfInBounds_toArray, List.set_cons_zero, List.set_cons_succ, List.getElem_toArray, List.getElem_cons_zero, List.getElem_cons_succ]
  refine any_take (i := 4) (v := (.int .i64 (k : Int))) #[true, true, true, true, false, false, false, false, false, false, false, false] rfl (by kernel_rfl) (by kernel_rfl) (by kernel_rfl) (by kernel_rfl) (fun _ _ _ h => h) (.inl ⟨by kernel_rfl, fun x_ hu => by kernel_rfl⟩) hS ?_
  simp only [Act.put, List.setIfInBounds_toArray, List.set_cons_zero, List.set_cons_succ, List.getElem_toArray, List.getElem_cons_zero, List.getElem_cons_succ]
  refine any_take (i := 5) (v := (.pointer (some ⟨g, 0, none⟩))) #[true, true, true, true, true, false, false, false, false, false, false, false] rfl (by kernel_rfl) (by kernel_rfl) (by kernel_rfl) (by kernel_rfl) (fun _ _ _ h => h) (.inl ⟨by kernel_rfl, fun x_ hu => by kernel_rfl⟩) hS ?_
  simp only [Act.put, List.setIfInBounds_toArray, List.set_cons_zero, List.set_cons_succ, List.getElem_toArray, List.getElem_cons_zero, List.getElem_cons_succ]
  refine any_take (i := 6) (v := (.pointer (some ⟨g, 0, none⟩))) #[true, true, true, true, true, true, false, false, false, false, false, false] rfl (by kernel_rfl) (by kernel_rfl) (by kernel_rfl) (by kernel_rfl) (fun _ _ _ h => h) (.inl ⟨by kernel_rfl, fun x_ hu => by kernel_rfl⟩) hS ?_
  simp only [Act.put, List.setIfInBounds_toArray, List.set_cons_zero, List.set_cons_succ, List.getElem_toArray, List.getElem_cons_zero, List.getElem_cons_succ]
  refine any_take (i := 7) (v := (.pointer (some ⟨g, 0, none⟩))) #[true, true, true, true, true, true, true, false, false, false, false, false] rfl (by kernel_rfl) (by kernel_rfl) (by kernel_rfl) (by kernel_rfl) (fun _ _ _ h => h) (.inl ⟨by kernel_rfl, fun x_ hu => by kernel_rfl⟩) hS ?_
  simp only [Act.put, List.setIfInBounds_toArray, List.set_cons_zero, List.set_cons_succ, List.getElem_toArray, List.getElem_cons_zero, List.getElem_cons_succ]
  refine any_take (i := 8) (v := (.pointer (some ⟨g, 0, none⟩))) #[true, true, true, true, true, true, true, true, false, false, false, false] rfl (by kernel_rfl) (by kernel_rfl) (by kernel_rfl) (by kernel_rfl) (fun _ _ _ h => h) (.inl ⟨by kernel_rfl, fun x_ hu => by kernel_rfl⟩) hS ?_
  simp only [Act.put, List.setIfInBounds_toArray, List.set_cons_zero, List.set_cons_succ, List.getElem_toArray, List.getElem_cons_zero, List.getElem_cons_succ]
  refine any_take (i := 9) (v := (.int .i64 (km : Int))) #[true, true, true, true, true, true, true, true, true, false, false, false] rfl (by kernel_rfl) (by kernel_rfl) (by kernel_rfl) (by kernel_rfl) (fun _ _ _ h => h) (.inl ⟨by kernel_rfl, fun x_ hu => exec_i64 _ (.tmp 46) rfl g 0 (by kernel_rfl) (km : Int) (cell_of hu (i := 0) rfl)⟩) hS ?_
  simp only [Act.put, List.setIfInBounds_toArray, List.set_cons_zero, List.set_cons_succ, List.getElem_toArray, List.getElem_cons_zero, List.getElem_cons_succ]
  refine any_take (i := 10) (v := (.slice (some ⟨p, q9, none⟩) m (c - k))) #[true, true, true, true, true, true, true, true, true, true, false, false] rfl (by kernel_rfl) (by kernel_rfl) (by kernel_rfl) (by kernel_rfl) (fun _ _ _ h => h) (.inl ⟨by kernel_rfl, fun x_ hu => exec_win0 _ (.tmp 41) (.tmp 42) (.tmp 47) rfl p n c k km m q9 (by kernel_rfl) (by kernel_rfl) (by kernel_rfl) (unhide hkm) (unhide hq9) (by have := unhide hkm; omega)⟩) hS ?_
  simp only [Act.put, List.setIfInBounds_toArray, List.set_cons_zero, List.set_cons_succ, List.getElem_toArray, List.getElem_cons_zero, List.getElem_cons_succ]
  refine any_one (i := 11) (by kernel_rfl) rfl (fun K_ hQ => ?_)
  replace hQ := hide hQ
  go_simp
  refine (unhide hQ).out _ _ hS (fun _ => ?_)
  clear hQ K_
  refine any_done (by kernel_rfl) ?_
  have hZ : Hid (Tk0 g p n c k m L w (.returned (.slice (some ⟨p, q9, none⟩) m (c - k))) x0) := by
    have hb := (unhide hB).chg.bt1
    refine ⟨_, rfl, (unhide hR).to hb ?_, hb⟩
    rw [← unhide hkm]
    exact hS
  generalize c - k = cc at *
  clear hS
  go_wp2_with fail
  rw [unhide hT]
  exact unhide hZ
set_option maxHeartbeats 4000000 in
theorem rraw0_ok (g p n c k : Nat) (L : List Int) (w : World) (hR : Rdr g p n c k L w) (hkn : k ≤ n) (hn : n ≤ 100000) : Calls Try.prog 63 #[P0 g, .int .i64 (0 : Nat)] w (fun r w' => ∃ v, r = .returned v ∧ Ob w.heap.size w' v ((L.drop k).take 0) ∧ Rdr g p n c (k + 0) L w' ∧ Bt g w w') := by
  obtain ⟨T, hT⟩ : ∃ T : Ending → World → Prop, T = fun r w' => ∃ v, r = .returned v ∧ Ob w.heap.size w' v ((L.drop k).take 0) ∧ Rdr g p n c (k + 0) L w' ∧ Bt g w w' := ⟨_, rfl⟩
  rw [← hT]
  replace hT := hide hT
  have hl : ((L.drop k).take 0).length = 0 := by rw [List.length_take, List.length_drop, hR.len]; omega
  have hb : IsB ((L.drop k).take 0) := fun x hx => hR.isB x (List.mem_of_mem_drop (List.mem_of_mem_take hx))
  replace hR := hide hR; replace hb := hide hb
  go_enter Try.func63, Try.ntmps63
  go_upto_region 1 with fail
  refine wp_region_lit ?_
  refine list_val (.pointer (some ⟨g, 0, none⟩)) (by kernel_rfl) (by kernel_rfl) ?_
  simp only [Act.put, List.setIfInBounds_toArray, List.set_cons_zero, List.set_cons_succ, List.getElem_toArray, List.getElem_cons_zero, List.getElem_cons_succ]
  refine list_val (.int .i64 (0 : Nat)) (by kernel_rfl) (by kernel_rfl) ?_
  simp only [Act.put, List.setIfInBounds_toArray, List.set_cons_zero, List.set_cons_succ, List.getElem_toArray, List.getElem_cons_zero, List.getElem_cons_succ]
  refine list_call 69 #[P0 g, .int .i64 (0 : Nat)] (by kernel_rfl) (by kernel_rfl) ((rtake0_ok g p n c k 0 L w (unhide hR) hkn hn).mono ?_)
  rintro r u1 ⟨q9, rfl, hR1, hb1⟩
  refine ⟨_, rfl, ?_⟩
  have hlb : Lb u1 (some ⟨p, q9, none⟩) 0 (c - k) ((L.drop k).take 0) := by
    exact ⟨hl, unhide hb, .inl rfl, by have := hR1.cap; omega, by have := hR1.max; omega⟩
  replace hlb := hide hlb; replace hR1 := hide hR1; replace hb1 := hide hb1
  simp only [Act.put, List.setIfInBounds_toArray, List.set_cons_zero, List.set_cons_succ, List.getElem_toArray, List.getElem_cons_zero, List.getElem_cons_succ]
  refine list_call 65 #[.slice (some ⟨p, q9, none⟩) 0 (c - k)] (by kernel_rfl) (by kernel_rfl) ((clone_ok _ p q9 0 (c - k) u1 (unhide hlb) (by omega)).mono ?_)
  rintro r u2 ⟨v, rfl, hO, hG⟩
  refine ⟨_, rfl, ?_⟩
  have hZ : Hid (T (.returned v) u2) := by
    rw [unhide hT]
    exact ⟨v, rfl, ob_base hO (unhide hb1).size, (unhide hR1).gr hG, (unhide hb1).trans (hG.bt g)⟩
  clear hO hG
  simp only [Act.put, List.setIfInBounds_toArray, List.set_cons_zero, List.set_cons_succ, List.getElem_toArray, List.getElem_cons_zero, List.getElem_cons_succ]
  (refine wpList_step fun K hK => ?_; replace hK := hide hK; go_simp; refine unhide hK _ _ ?_; clear hK K)
  refine wpList_nil ?_
  go_wp2_with fail
  exact unhide hZ
/-- so many bytes, none too -/
theorem rrawn_ok (g p n c k m : Nat) (L : List Int) (w : World) (hR : Rdr g p n c k L w) (hkn : k + m ≤ n) (hn : n ≤ 100000) : Calls Try.prog 63 #[P0 g, .int .i64 (m : Int)] w (fun r w' => ∃ v, r = .returned v ∧ Ob w.heap.size w' v ((L.drop k).take m) ∧ Rdr g p n c (k + m) L w' ∧ Bt g w w') := by
  rcases Nat.eq_zero_or_pos m with rfl | h
  · exact rraw0_ok g p n c k L w hR hkn hn
  · exact rraw_ok g p n c k m L w hR hkn h hn
end Go.Proofs.Ytcefkkoombmndaa
