/-
  Where the walk of OctetReads is within a round, and what becomes of it.
-/
import Derived.Test.YtcbdjijkliknoaaDoAny
import Derived.Test.YtcbdjijkliknoaaBoth
import Derived.Test.YtcbdjijkliknoaaPutsWalk
import Derived.Deep.RegionHeld
namespace Go.Proofs.Ytcbdjijkliknoaa
open Go.RowKit
set_option linter.unusedVariables false

/-- The asks: the i-th is f i, g i. -/
def Asks (w : World) (a : Option Addr) (n : Nat) (f g : Nat → Int) : Prop :=
  0 < n → ∃ b off, a = some ⟨b, off, none⟩ ∧ ∀ i, i < n → w.cell? ⟨b, off + i * 2, none⟩ = some (.int .i64 (f i)) ∧ w.cell? ⟨b, off + i * 2 + 1, none⟩ = some (.int .i64 (g i))

/-- The document's reader in memory. -/
def Doc (w : World) (M : Nat) (S : Value) (i : Nat) (e : Int) : Prop := w.heap[M]? = some (.cells #[S, .int .i64 i, .int .i64 e] 41 (0, 0))
theorem Doc.c0 {w : World} {M i : Nat} {S : Value} {e : Int} (h : Doc w M S i e) : w.cell? ⟨M, 0, none⟩ = some S := by unfold Doc at h; simp [World.cell?, h]
theorem Doc.c1 {w : World} {M i : Nat} {S : Value} {e : Int} (h : Doc w M S i e) : w.cell? ⟨M, 1, none⟩ = some (.int .i64 i) := by unfold Doc at h; simp [World.cell?, h]
theorem Doc.c2 {w : World} {M i : Nat} {S : Value} {e : Int} (h : Doc w M S i e) : w.cell? ⟨M, 2, none⟩ = some (.int .i64 e) := by unfold Doc at h; simp [World.cell?, h]
theorem Doc.f {w : World} {M i : Nat} {S : Value} {e : Int} (h : Doc w M S i e) (o : Nat) : w.frozen? ⟨M, o, none⟩ = false := by unfold Doc at h; simp [World.frozen?, h]
theorem Doc.lt {w : World} {M i : Nat} {S : Value} {e : Int} (h : Doc w M S i e) : M < w.heap.size := lt_of_block h
theorem Doc.below {w w' : World} {M i B : Nat} {S : Value} {e : Int} (h : Doc w M S i e) (b : Below B w w') (hB : M < B) : Doc w' M S i e := by unfold Doc at *; rw [b.block M hB]; exact h
/-- What is told, in memory. -/
def Tol (w : World) (M : Nat) (x : Int) (v : Value) : Prop := w.heap[M]? = some (.cells #[.int .u64 x, v] 45 (0, 0))
theorem Tol.c0 {w : World} {M : Nat} {x : Int} {v : Value} (h : Tol w M x v) : w.cell? ⟨M, 0, none⟩ = some (.int .u64 x) := by unfold Tol at h; simp [World.cell?, h]
theorem Tol.c1 {w : World} {M : Nat} {x : Int} {v : Value} (h : Tol w M x v) : w.cell? ⟨M, 1, none⟩ = some v := by unfold Tol at h; simp [World.cell?, h]
theorem Tol.f {w : World} {M : Nat} {x : Int} {v : Value} (h : Tol w M x v) (o : Nat) : w.frozen? ⟨M, o, none⟩ = false := by unfold Tol at h; simp [World.frozen?, h]

theorem two_set0 {w : World} {b : Nat} {x y u : Value} {t : TypeId} (h : w.heap[b]? = some (.cells #[x, y] t (0, 0))) : (w.setCell ⟨b, 0, none⟩ u).heap[b]? = some (.cells #[u, y] t (0, 0)) := by
  rw [heap_setCell_same w b 0 _ _ _ h]; rfl
theorem two_set1 {w : World} {b : Nat} {x y u : Value} {t : TypeId} (h : w.heap[b]? = some (.cells #[x, y] t (0, 0))) : (w.setCell ⟨b, 1, none⟩ u).heap[b]? = some (.cells #[x, u] t (0, 0)) := by
  rw [heap_setCell_same w b 1 _ _ _ h]; rfl
theorem three_set2 {w : World} {b : Nat} {x y z u : Value} {t : TypeId} (h : w.heap[b]? = some (.cells #[x, y, z] t (0, 0))) : (w.setCell ⟨b, 2, none⟩ u).heap[b]? = some (.cells #[x, y, u] t (0, 0)) := by
  rw [heap_setCell_same w b 2 _ _ _ h]; rfl

/-- Old blocks are as they were but for p; nothing else has turned. -/
def Keeps (p : Nat) (w w' : World) : Prop := (∀ k, k < w.heap.size → k ≠ p → w'.heap[k]? = w.heap[k]?) ∧ Below 0 w w'
theorem Keeps.refl (p : Nat) (w : World) : Keeps p w w := ⟨fun _ _ _ => rfl, Below.refl _ _⟩
theorem Keeps.trans {p : Nat} {a b c : World} (h : Keeps p a b) (k : Keeps p b c) : Keeps p a c :=
  ⟨fun j hj hjp => (k.1 j (by have := h.2.size; omega) hjp).trans (h.1 j hj hjp), h.2.trans k.2⟩
theorem Keeps.of_below {p : Nat} {a b : World} (h : Below a.heap.size a b) : Keeps p a b := ⟨fun j hj _ => h.block j hj, h.mono (Nat.zero_le _)⟩
theorem Keeps.of_but {p : Nat} {a b : World} (h : But p a b) : Keeps p a b := ⟨fun j _ hjp => h.block j hjp, h.below (Nat.zero_le _)⟩
theorem Keeps.of_kept {p i : Nat} {v : Value} {e : Int} {a b : World} (h : Kept p v i e a b) : Keeps p a b := h.2
theorem Keeps.kept {p i : Nat} {v : Value} {e : Int} {a b : World} (h : Keeps p a b) (r : Rd b p i e v) : Kept p v i e a b := ⟨r, h⟩

/-- The state at a round's beginning. -/
structure Inv (w4 wr : World) (p : Nat) (v S : Value) (l : List Int) (i : Nat) (e : Int) : Prop where
  rd : Rd wr p i e v
  keep : Keeps p w4 wr
  doc : Doc wr w4.heap.size S i e
  le : i ≤ l.length

theorem below3 {B : Nat} {w0 w : World} (h : Below B w0 w) (hB : B ≤ w.heap.size) (x y z : Obj) : Below B w0 (((w.alloc x).alloc y).alloc z) :=
  ((h.alloc hB _).alloc (by simp; omega) _).alloc (by simp; omega) _
/-- The state within a round, when what was got stands beside what is wanted. -/
structure Mid (w4 W : World) (p : Nat) (v S : Value) (l : List Int) (i : Nat) (e : Int) (Nx Wt Gt : Nat) (i' : Nat) (e' x y : Int) (gv wv : Value) : Prop where
  rd : Rd W p i' e' v
  keep : Keeps p w4 W
  doc : Doc W w4.heap.size S i e
  le : i' ≤ l.length
  next : Doc W Nx S i' e'
  want : Tol W Wt y wv
  got : Tol W Gt x gv
  ord : p < w4.heap.size ∧ w4.heap.size < Nx ∧ Nx < Wt ∧ Wt < Gt
theorem Mid.step {w4 W W' : World} {p : Nat} {v S : Value} {l : List Int} {i : Nat} {e : Int} {Nx Wt Gt i' : Nat} {e' x y : Int} {gv wv : Value} (h : Mid w4 W p v S l i e Nx Wt Gt i' e' x y gv wv) (s : Below W.heap.size W W') : Mid w4 W' p v S l i e Nx Wt Gt i' e' x y gv wv := by
  obtain ⟨h1, h2, h3, h4, h5, h6, h7, h8⟩ := h
  have b3 := lt_of_block h3
  have b5 := lt_of_block h5
  have b6 := lt_of_block h6
  have b7 := lt_of_block h7
  refine ⟨h1.below s h1.lt, h2.trans (Keeps.of_below s), h3.below s b3, h4, h5.below s b5, ?_, ?_, h8⟩
  · unfold Tol at *; rw [s.block _ b6]; exact h6
  · unfold Tol at *; rw [s.block _ b7]; exact h7
theorem Mid.still {w4 W W' : World} {p : Nat} {v S : Value} {l : List Int} {i : Nat} {e : Int} {Nx Wt Gt i' : Nat} {e' x y : Int} {gv wv : Value} (h : Mid w4 W p v S l i e Nx Wt Gt i' e' x y gv wv) (s : Still W W') : Mid w4 W' p v S l i e Nx Wt Gt i' e' x y gv wv := h.step (s.below _)
/-- The cells that are read when both are held against each other. -/
theorem Mid.cells {w4 W : World} {p : Nat} {v S : Value} {l : List Int} {i : Nat} {e : Int} {Nx Wt Gt i' : Nat} {e' x y : Int} {gv wv : Value} (h : Mid w4 W p v S l i e Nx Wt Gt i' e' x y gv wv) :
    W.cell? ⟨Gt, 0, none⟩ = some (.int .u64 x) ∧ W.cell? ⟨Gt, 1, none⟩ = some gv ∧ W.cell? ⟨Wt, 0, none⟩ = some (.int .u64 y) ∧ W.cell? ⟨Wt, 1, none⟩ = some wv ∧ W.cell? ⟨Nx, 1, none⟩ = some (.int .i64 i') ∧ W.cell? ⟨Nx, 2, none⟩ = some (.int .i64 e') :=
  ⟨h.got.c0, h.got.c1, h.want.c0, h.want.c1, h.next.c1, h.next.c2⟩
theorem keeps_set {p b o : Nat} {w W : World} (h : Keeps p w W) (hb : w.heap.size ≤ b) (u : Value) : Keeps p w (W.setCell ⟨b, o, none⟩ u) :=
  ⟨fun k hk hkp => (Below.heap_setCell W ⟨b, o, none⟩ u k (by show k ≠ b; omega)).trans (h.1 k hk hkp), ⟨h.2.os, h.2.tape, h.2.output, by simpa using h.2.size, fun k hk => by omega⟩⟩
/-- A store into what was got. -/
theorem Mid.set0 {w4 W : World} {p : Nat} {v S : Value} {l : List Int} {i : Nat} {e : Int} {Nx Wt Gt i' : Nat} {e' x y : Int} {gv wv : Value} (h : Mid w4 W p v S l i e Nx Wt Gt i' e' x y gv wv) (z : Int) : Mid w4 (W.setCell ⟨Gt, 0, none⟩ (.int .u64 z)) p v S l i e Nx Wt Gt i' e' z y gv wv := by
  obtain ⟨h1, h2, h3, h4, h5, h6, h7, h8⟩ := h
  have hs := fun k (hk : k ≠ Gt) => Below.heap_setCell W ⟨Gt, 0, none⟩ (.int .u64 z) k hk
  refine ⟨?_, keeps_set h2 (by omega) _, ?_, h4, ?_, ?_, two_set0 h7, h8⟩
  · unfold Rd at *; rw [hs _ (by omega)]; exact h1
  · unfold Doc at *; rw [hs _ (by omega)]; exact h3
  · unfold Doc at *; rw [hs _ (by omega)]; exact h5
  · unfold Tol at *; rw [hs _ (by omega)]; exact h6
theorem Mid.set1 {w4 W : World} {p : Nat} {v S : Value} {l : List Int} {i : Nat} {e : Int} {Nx Wt Gt i' : Nat} {e' x y : Int} {gv wv : Value} (h : Mid w4 W p v S l i e Nx Wt Gt i' e' x y gv wv) (z : Value) : Mid w4 (W.setCell ⟨Gt, 1, none⟩ z) p v S l i e Nx Wt Gt i' e' x y z wv := by
  obtain ⟨h1, h2, h3, h4, h5, h6, h7, h8⟩ := h
  have hs := fun k (hk : k ≠ Gt) => Below.heap_setCell W ⟨Gt, 1, none⟩ z k hk
  refine ⟨?_, keeps_set h2 (by omega) _, ?_, h4, ?_, ?_, two_set1 h7, h8⟩
  · unfold Rd at *; rw [hs _ (by omega)]; exact h1
  · unfold Doc at *; rw [hs _ (by omega)]; exact h3
  · unfold Doc at *; rw [hs _ (by omega)]; exact h5
  · unfold Tol at *; rw [hs _ (by omega)]; exact h6
/-- Bytes stay behind a store into what was got. -/
theorem Bs.tol {W : World} {a : Option Addr} {n Gt : Nat} {L : List Int} {x : Int} {sa : Option Addr} {sn sc : Nat} (h : Bs W a n L) (t : Tol W Gt x (.slice sa sn sc)) (o : Nat) (u : Value) : Bs (W.setCell ⟨Gt, o, none⟩ u) a n L := by
  obtain ⟨h1, h2, h3⟩ := h
  refine ⟨h1, h2, fun hn => ?_⟩
  obtain ⟨b, off, ha, hc⟩ := h3 hn
  have hb : b ≠ Gt := by
    rintro rfl
    have := hc 0 hn
    unfold Tol at t
    simp only [World.cell?, t] at this
    match off, this with
    | 0, h => simp at h
    | 1, h => simp at h
    | k + 2, h => simp at h
  refine ⟨b, off, ha, fun j hj => ?_⟩
  rw [World.cell?_of_block (w := W) (a := ⟨b, off + j, none⟩) (Below.heap_setCell W ⟨Gt, o, none⟩ u b hb)]
  exact hc j hj
/-- The state when the reader has been asked. -/
theorem mid_of {w4 wr w5 w6 : World} {p : Nat} {v S : Value} {l : List Int} {i : Nat} {e : Int} {i' : Nat} {e' y : Int} {wv : Value} (hI : Inv w4 wr p v S l i e) (hp : p < w4.heap.size) (hb : Below wr.heap.size wr w5) (hz : wr.heap.size < w5.heap.size) (hi : i' ≤ l.length)
    (k : Keeps p (((w5.alloc (.cells #[S, .int .i64 i', .int .i64 e'] 41)).alloc (.cells #[.int .u64 y, wv] 45)).alloc (.cells #[.int .u64 0, .slice none 0 0] 45)) w6) (hr : Rd w6 p i' e' v) :
    Mid w4 w6 p v S l i e w5.heap.size (w5.heap.size + 1) (w5.heap.size + 1 + 1) i' e' 0 y (.slice none 0 0) wv := by
  have hM := hI.doc.lt
  have hs : (((w5.alloc (.cells #[S, .int .i64 i', .int .i64 e'] 41)).alloc (.cells #[.int .u64 y, wv] 45)).alloc (.cells #[.int .u64 0, .slice none 0 0] 45)).heap.size = w5.heap.size + 1 + 1 + 1 := by simp
  have hb3 := below3 (w0 := wr) (B := wr.heap.size) hb (by omega) (.cells #[S, .int .i64 i', .int .i64 e'] 41) (.cells #[.int .u64 y, wv] 45) (.cells #[.int .u64 0, .slice none 0 0] 45)
  refine ⟨hr, (hI.keep.trans (Keeps.of_below hb3)).trans k, ?_, hi, ?_, ?_, ?_, by omega⟩
  · have := hI.doc.below hb3 hM
    unfold Doc at *
    rw [k.1 _ (by omega) (by omega)]
    exact this
  · unfold Doc
    rw [k.1 _ (by omega) (by omega), Below.heap_alloc _ _ _ (by simp; omega), Below.heap_alloc _ _ _ (by simp)]
    exact heap_alloc_new w5 _
  · unfold Tol
    rw [k.1 _ (by omega) (by omega), Below.heap_alloc _ _ _ (by simp)]
    have := heap_alloc_new (w5.alloc (.cells #[S, .int .i64 i', .int .i64 e'] 41)) (.cells #[.int .u64 y, wv] 45 (0, 0))
    rw [size_new] at this
    exact this
  · unfold Tol
    rw [k.1 _ (by omega) (by omega)]
    have := heap_alloc_new ((w5.alloc (.cells #[S, .int .i64 i', .int .i64 e'] 41)).alloc (.cells #[.int .u64 y, wv] 45)) (.cells #[.int .u64 0, .slice none 0 0] 45 (0, 0))
    simp only [size_new] at this
    exact this
/-- The round is over. -/
theorem Mid.done {w4 W : World} {p : Nat} {v S : Value} {l : List Int} {i : Nat} {e : Int} {Nx Wt Gt i' : Nat} {e' x y : Int} {gv wv : Value} (h : Mid w4 W p v S l i e Nx Wt Gt i' e' x y gv wv) :
    Inv w4 (((W.setCell ⟨w4.heap.size, 0, none⟩ S).setCell ⟨w4.heap.size, 1, none⟩ (.int .i64 i')).setCell ⟨w4.heap.size, 2, none⟩ (.int .i64 e')) p v S l i' e' := by
  obtain ⟨h1, h2, h3, h4, h5, h6, h7, h8⟩ := h
  refine ⟨?_, keeps_set (keeps_set (keeps_set h2 (Nat.le_refl _) _) (Nat.le_refl _) _) (Nat.le_refl _) _, three_set2 (three_set1 (three_set0 h3)), h4⟩
  unfold Rd at *
  rw [Below.heap_setCell _ ⟨w4.heap.size, 2, none⟩ _ p (by show p ≠ w4.heap.size; omega), Below.heap_setCell _ ⟨w4.heap.size, 1, none⟩ _ p (by show p ≠ w4.heap.size; omega), Below.heap_setCell _ ⟨w4.heap.size, 0, none⟩ _ p (by show p ≠ w4.heap.size; omega)]
  exact h1

theorem cell3 {w : World} (x y z : Obj) {p : Addr} {v : Value} (h : w.cell? p = some v) : (((w.alloc x).alloc y).alloc z).cell? p = some v :=
  Lib.cell?_alloc_some _ (Lib.cell?_alloc_some _ (Lib.cell?_alloc_some _ h))

/-- What the tail of a round leans on: at W7 and wherever nothing has turned since. -/
structure Tail (w4 W7 : World) (p : Nat) (v S : Value) (l : List Int) (i : Nat) (e : Int) (Nx Wt Gt : Nat) (i' : Nat) (e' x : Int) (ga : Option Addr) (gn gc : Nat) (wa : Option Addr) (wn wc : Nat) (B : List Int) : Prop where
  mid : Mid w4 W7 p v S l i e Nx Wt Gt i' e' x x (.slice ga gn gc) (.slice wa wn wc)
  bg : Bs W7 ga gn B
  bw : Bs W7 wa wn B
  hn : gn ≤ 281474976710656
  sl : ∃ va vc, v = .slice va l.length vc
  ll : l.length ≤ 140737488355328
theorem rd_same {w4 W7 W : World} {p : Nat} {v S : Value} {l : List Int} {i : Nat} {e : Int} {Nx Wt Gt i' : Nat} {e' x : Int} {ga : Option Addr} {gn gc : Nat} {wa : Option Addr} {wn wc : Nat} {B : List Int} (h : Hid (Tail w4 W7 p v S l i e Nx Wt Gt i' e' x ga gn gc wa wn wc B)) (s : Still W7 W) :
    Calls Try.prog 14 #[.slice ga gn gc, .slice wa wn wc] W fun z W' => z = .returned (.bool true) ∧ Still W7 W' :=
  (pusame gc wc ((unhide h).bg.still s) ((unhide h).bw.still s) (unhide h).hn).mono fun _ _ hh => ⟨hh.1, s.trans hh.2⟩
theorem rd_left {w4 W7 W : World} {p : Nat} {v S : Value} {l : List Int} {i : Nat} {e : Int} {Nx Wt Gt i' : Nat} {e' x : Int} {ga : Option Addr} {gn gc : Nat} {wa : Option Addr} {wn wc : Nat} {B : List Int} (h : Hid (Tail w4 W7 p v S l i e Nx Wt Gt i' e' x ga gn gc wa wn wc B)) (s : Still W7 W) :
    Calls Try.prog 28 #[.pointer (some ⟨p, 0, none⟩)] W fun z W' => z = .returned (.int .i64 (l.length - i')) ∧ Still W7 W' := by
  obtain ⟨h1, h2, h3, h4, ⟨va, vc, rfl⟩, h6⟩ := unhide h
  exact (left_any p i' e' va l.length vc W (h1.rd.still s) (by omega) (by have := h1.le; omega) h6).mono fun _ _ hh => ⟨hh.1, s.trans hh.2⟩
theorem rd_err {w4 W7 W : World} {p : Nat} {v S : Value} {l : List Int} {i : Nat} {e : Int} {Nx Wt Gt i' : Nat} {e' x : Int} {ga : Option Addr} {gn gc : Nat} {wa : Option Addr} {wn wc : Nat} {B : List Int} (h : Hid (Tail w4 W7 p v S l i e Nx Wt Gt i' e' x ga gn gc wa wn wc B)) (s : Still W7 W) :
    Calls Try.prog 29 #[.pointer (some ⟨p, 0, none⟩)] W fun z W' => z = .returned (.int .i64 e') ∧ W' = W :=
  err_any p i' e' v W ((unhide h).mid.rd.still s)
theorem Tail.cells {w4 W7 W : World} {p : Nat} {v S : Value} {l : List Int} {i : Nat} {e : Int} {Nx Wt Gt i' : Nat} {e' x : Int} {ga : Option Addr} {gn gc : Nat} {wa : Option Addr} {wn wc : Nat} {B : List Int} (h : Hid (Tail w4 W7 p v S l i e Nx Wt Gt i' e' x ga gn gc wa wn wc B)) (s : Still W7 W) :
    W.cell? ⟨Gt, 0, none⟩ = some (.int .u64 x) ∧ W.cell? ⟨Gt, 1, none⟩ = some (.slice ga gn gc) ∧ W.cell? ⟨Wt, 0, none⟩ = some (.int .u64 x) ∧ W.cell? ⟨Wt, 1, none⟩ = some (.slice wa wn wc) ∧ W.cell? ⟨Nx, 1, none⟩ = some (.int .i64 i') ∧ W.cell? ⟨Nx, 2, none⟩ = some (.int .i64 e') :=
  ((unhide h).mid.still s).cells

theorem kind_is (kd : Int) : ∃ K : Nat, K ≤ 4 ∧ (wrap64 (kd.tmod 5 + 5)).tmod 5 = K := by
  have h1 := Int.tmod_lt_of_pos kd (show (0 : Int) < 5 by omega)
  have h2 := Int.lt_tmod_of_pos kd (show (0 : Int) < 5 by omega)
  have e : wrap64 (kd.tmod 5 + 5) = kd.tmod 5 + 5 := by
    generalize kd.tmod 5 = y at *
    unfold wrap64
    omega
  rw [e, Int.tmod_eq_emod_of_nonneg (by omega)]
  exact ⟨((kd.tmod 5 + 5) % 5).toNat, by omega, by omega⟩

theorem do_kk (K : Nat) (hK : K ≤ 4) (kk : Int) (hkk : kk = K) (b off C : Nat) (l : List Int) (i : Nat) (e N : Int) (w : World) (hB : Bs w (some ⟨b, off, none⟩) l.length l) (hil : i ≤ l.length) (hl : l.length ≤ 140737488355328) (hC : l.length ≤ C) :
    Calls Try.prog 22 #[.agg #[.slice (some ⟨b, off, none⟩) l.length C, .int .i64 i, .int .i64 e], .agg #[.int .i64 kk, .int .i64 N]] w (Done K b off C l (takeM l i e (askN K N)) w) := by
  subst hkk
  exact do_any K hK b off C l i e N w hB hil hl hC

/-- The bytes of the document's reader lie where they lay. -/
theorem Inv.bs {w4 wr : World} {p : Nat} {v S : Value} {l : List Int} {i : Nat} {e : Int} (h : Inv w4 wr p v S l i e) {G : Nat} (hp : G ≠ p) (hB : Bs w4 (some ⟨G, 0, none⟩) l.length l) : Bs wr (some ⟨G, 0, none⟩) l.length l := by
  obtain ⟨h1, h2, h3⟩ := hB
  refine ⟨h1, h2, fun hn => ?_⟩
  obtain ⟨b, off, ha, hc⟩ := h3 hn
  simp only [Option.some.injEq, Addr.mk.injEq] at ha
  obtain ⟨rfl, rfl, _⟩ := ha
  refine ⟨_, _, rfl, fun j hj => ?_⟩
  rw [World.cell?_of_block (w := w4) (a := ⟨G, 0 + j, none⟩) (h.keep.1 G (lt_of_cell (hc j hj)) hp)]
  exact hc j hj
theorem Asks.below {w w' : World} {a : Option Addr} {n : Nat} {f g : Nat → Int} (h : Asks w a n f g) (s : Below w.heap.size w w') : Asks w' a n f g := by
  intro hn
  obtain ⟨b, off, ha, hc⟩ := h hn
  refine ⟨b, off, ha, fun i hi => ⟨?_, ?_⟩⟩
  · rw [s.cell (p := ⟨b, off + i * 2, none⟩) (lt_of_cell (hc i hi).1)]; exact (hc i hi).1
  · rw [s.cell (p := ⟨b, off + i * 2 + 1, none⟩) (lt_of_cell (hc i hi).2)]; exact (hc i hi).2
theorem Keeps.cell {p : Nat} {w w' : World} (h : Keeps p w w') {b o : Nat} {u : Value} (hc : w.cell? ⟨b, o, none⟩ = some u) (hb : b ≠ p) : w'.cell? ⟨b, o, none⟩ = some u := by
  rw [World.cell?_of_block (w := w) (a := ⟨b, o, none⟩) (h.1 b (lt_of_cell hc) hb)]; exact hc
theorem Bs.keeps {p : Nat} {w w' : World} {a : Option Addr} {n : Nat} {L : List Int} (h : Bs w a n L) (k : Keeps p w w') (hp : ∀ y, a = some y → y.block ≠ p) : Bs w' a n L := by
  obtain ⟨h1, h2, h3⟩ := h
  refine ⟨h1, h2, fun hn => ?_⟩
  obtain ⟨b, off, ha, hc⟩ := h3 hn
  exact ⟨b, off, ha, fun j hj => k.cell (hc j hj) (hp _ ha)⟩

/-- A key's cells laid into a row that has just been made. -/
theorem wpList_store_key {w : World} {ops : Array Oper} {rest : List Oper} {o : Oper} {a : Act} {Q : Exit → Act → World → Prop} (hgd : o.guard = none) (x y : Operand) (ho : o.op = .store 53 x y) (hd : o.dst = none)
    (g : Nat) (T : List Int) (hT : T.length ≤ 32) (hx : a.eval x = .pointer (some ⟨g, 0, none⟩)) (hy : a.eval y = .agg (keyL T).toArray) (old : Array Value) (hg : w.heap[g]? = some (.cells old 53 (0, 0))) (hold : old.size = 32)
    (h : ∀ W, Hid (W.heap[g]? = some (.cells (keyL T).toArray 53 (0, 0))) → Below g w W → wpList Try.prog ops Q rest a W) : wpList Try.prog ops Q (o :: rest) a w := by
  refine wpList_store_row hgd 53 x y ho g (keyL T).toArray hx hy 53 old hg (by rw [Try.info53]; simp [keyL_len T hT]) (by rw [hold]; simp [keyL_len T hT]) (keyL_one T) ?_
  rw [hd]
  exact h _ (setRow_heap w g _ _ 53 _ hg) (below_setRow (Below.refl _ _) (Nat.le_refl _) _)
theorem toldB4_len (T : List Int) (h : T.length ≤ 32) : (toldB 4 T).length = 32 := by
  show (T ++ List.replicate (32 - T.length) 0).length = 32
  simp; omega
theorem keyL_told (T : List Int) (h : T.length ≤ 32) : keyL T = (toldB 4 T).map (Value.int .u8) := by
  show splice zer 0 (T.map (Value.int .u8)) = (T ++ List.replicate (32 - T.length) 0).map (Value.int .u8)
  unfold splice zer
  rw [List.take_zero, List.nil_append, Nat.zero_add, List.length_map, List.drop_replicate, List.map_append, List.map_replicate]
theorem takeM_lel (l : List Int) (i : Nat) (e n : Int) : (takeM l i e n).1.length ≤ l.length := by
  unfold takeM
  split
  · simp
  · split
    · simp
    · split
      · simp
      · simp; omega
theorem key_row_bs {W : World} {g : Nat} {T : List Int} (h : W.heap[g]? = some (.cells (keyL T).toArray 53 (0, 0))) (hT : T.length ≤ 32) (hb : ∀ x ∈ T, 0 ≤ x ∧ x < 256) : Bs W (some ⟨g, 0, none⟩) 32 (toldB 4 T) := by
  have hl := toldB4_len T hT
  refine ⟨hl, ?_, fun _ => ⟨g, 0, rfl, fun i hi => ?_⟩⟩
  · intro x hx
    have hx' : x ∈ T ++ List.replicate (32 - T.length) 0 := hx
    rcases List.mem_append.1 hx' with h | h
    · exact hb x h
    · have := List.eq_of_mem_replicate h; omega
  · have := map_u8 (toldB 4 T) i (by omega)
    rw [← keyL_told T hT] at this
    simpa [World.cell?, h] using this
theorem Inv.rdr {w4 wr : World} {p : Nat} {v S : Value} {l : List Int} {i : Nat} {e : Int} (h : Inv w4 wr p v S l i e) (hR : Rdr w4 p v l 0 0) : Rdr wr p v l i e := Kept.rdr hR (h.keep.kept h.rd) h.le
end Go.Proofs.Ytcbdjijkliknoaa
