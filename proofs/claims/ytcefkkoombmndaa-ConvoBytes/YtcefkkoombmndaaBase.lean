/-
  Plain facts: a world that has only grown, and the values of numbers of the field.
-/
import Derived.Test.YtcefkkoombmndaaChecked
import Derived.WalkKit
import Derived.WalkSpells
import Derived.WalkLawsBesides
import Derived.Laws.BitsAllLaws
import Derived.Laws.ShiftsVarLaws
import Derived.Laws.Bits64b
import Derived.Laws.Externs
import Derived.Lib.Mul64
import Derived.LoopN
namespace Go.Proofs.Ytcefkkoombmndaa
open Go.RowKit

theorem hide {p : Prop} (h : p) : Hid p := h
theorem unhide {p : Prop} (h : Hid p) : p := h

/-- Nothing that was there has turned. -/
def Gr (w w' : World) : Prop := Below w.heap.size w w'

theorem Gr.refl (w : World) : Gr w w := ⟨rfl, rfl, rfl, Nat.le_refl _, fun _ _ => rfl⟩
theorem Gr.trans {a b c : World} (h : Gr a b) (k : Gr b c) : Gr a c :=
  ⟨k.os.trans h.os, k.tape.trans h.tape, k.output.trans h.output, Nat.le_trans h.size k.size, fun i hi => (k.block i (Nat.lt_of_lt_of_le hi h.size)).trans (h.block i hi)⟩

theorem Gr.alloc {a w : World} (h : Gr a w) (o : Obj) : Gr a (w.alloc o) := Below.alloc h h.size o
theorem Gr.drew {a w : World} (h : Gr a w) : Gr a w.drew := Below.drew h
theorem Gr.drewN {a w : World} (h : Gr a w) (n : Nat) : Gr a (w.drewN n) := ⟨h.os, h.tape, h.output, h.size, h.block⟩
theorem Gr.cell {w w' : World} (h : Gr w w') {p : Addr} {v : Value} (hp : w.cell? p = some v) : w'.cell? p = some v := by
  have hlt : p.block < w.heap.size := by
    rcases Nat.lt_or_ge p.block w.heap.size with h' | h'
    · exact h'
    · simp [World.cell?, Array.getElem?_eq_none h'] at hp
  rw [Below.cell h hlt]; exact hp
theorem Gr.blk {w w' : World} (h : Gr w w') {b : Nat} {o : Obj} (hp : w.heap[b]? = some o) : w'.heap[b]? = some o := by
  rw [h.block b (lt_of_block hp)]; exact hp

theorem blk_alloc (w : World) (o : Obj) (i : Nat) : (w.alloc o).heap[i]? = if i = w.heap.size then some o else w.heap[i]? := by
  show (w.heap.push o)[i]? = _
  rw [Array.getElem?_push]
theorem size_alloc (w : World) (o : Obj) : (w.alloc o).heap.size = w.heap.size + 1 := by
  show (w.heap.push o).size = _
  simp

theorem blk_new (w : World) (o : Obj) : (w.alloc o).heap[w.heap.size]? = some o := by rw [blk_alloc, if_pos rfl]
theorem cell_of {w : World} {b i : Nat} {cs : Array Value} {t : TypeId} {z : Nat × Nat} {v : Value} (h : w.heap[b]? = some (.cells cs t z)) (hi : cs[i]? = some v) : w.cell? ⟨b, i, none⟩ = some v := by
  simp [World.cell?, h, hi]
theorem froz_of {w : World} {b i : Nat} {cs : Array Value} {t : TypeId} (h : w.heap[b]? = some (.cells cs t (0, 0))) : w.frozen? ⟨b, i, none⟩ = false := by
  simp [World.frozen?, h]

theorem Gr.setCell {a w : World} (h : Gr a w) {p : Addr} (hp : a.heap.size ≤ p.block) (u : Value) : Gr a (w.setCell p u) := Below.setCell h hp u

/-- A block of n cells of the call's own, whatever they hold. -/
def Res (w : World) (b n : Nat) (t : TypeId) (v : World) : Prop := Gr w v ∧ w.heap.size ≤ b ∧ ∃ cs : Array Value, cs.size = n ∧ v.heap[b]? = some (.cells cs t (0, 0))
theorem Res.gr {w u v : World} {b n : Nat} {t : TypeId} (h : Res w b n t u) (g : Gr u v) : Res w b n t v := by
  obtain ⟨h1, h2, cs, h3, h4⟩ := h
  exact ⟨h1.trans g, h2, cs, h3, g.blk h4⟩
theorem Res.cell {w v : World} {b n : Nat} {t : TypeId} (h : Res w b n t v) (i : Nat) (hi : i < n) : ∃ x, v.cell? ⟨b, i, none⟩ = some x := by
  obtain ⟨h1, h2, cs, h3, h4⟩ := h
  exact ⟨cs[i]'(by omega), cell_of h4 (Array.getElem?_eq_getElem (by omega))⟩
theorem Res.froz {w v : World} {b n : Nat} {t : TypeId} (h : Res w b n t v) (i : Nat) : v.frozen? ⟨b, i, none⟩ = false := by
  obtain ⟨h1, h2, cs, h3, h4⟩ := h
  exact froz_of h4
theorem Res.set {w v : World} {b n : Nat} {t : TypeId} (h : Res w b n t v) (i : Nat) (x : Value) : Res w b n t (v.setCell ⟨b, i, none⟩ x) := by
  obtain ⟨h1, h2, cs, h3, h4⟩ := h
  refine ⟨h1.setCell h2 x, h2, cs.setIfInBounds i x, by simpa using h3, ?_⟩
  have hlt := lt_of_block h4
  have h' : v.heap[b] = .cells cs t (0, 0) := by simpa [Array.getElem?_eq_getElem hlt] using h4
  show (v.heap.modify b _)[b]? = _
  rw [Array.getElem?_eq_getElem (by simpa using hlt), Array.getElem_modify_self, h']
  rfl

/-- five limbs, two words -/
def five (a b c d e : Int) : Value := .agg #[.int .u64 a, .int .u64 b, .int .u64 c, .int .u64 d, .int .u64 e]
def two (a b : Int) : Value := .agg #[.int .u64 a, .int .u64 b]

/-- the number of five digits -/
def val (a b c d e : Int) : Int := a + b * 2251799813685248 + c * 5070602400912917605986812821504 + d * 11417981541647679048466287755595961091061972992 + e * 25711008708143844408671393477458601640355247900524685364822016
/-- the prime -/
def pp : Int := 57896044618658097711785492504343953926634992332820282019728792003956564819949

/-- limbs that are in order -/
def Fit (a b c d e : Int) : Prop := (0 ≤ a ∧ a < 4503599627370496) ∧ (0 ≤ b ∧ b < 2251799813685248) ∧ (0 ≤ c ∧ c < 2251799813685248) ∧ (0 ≤ d ∧ d < 2251799813685248) ∧ (0 ≤ e ∧ e < 2251799813685248)

/-- limbs in order, of the number n -/
def Rep (n a b c d e : Int) : Prop := Fit a b c d e ∧ val a b c d e % pp = n % pp

/-- what a call answers that reckons -/
def Reck (n : Int) (w : World) (r : Ending) (w' : World) : Prop := ∃ a b c d e, r = .returned (five a b c d e) ∧ Rep n a b c d e ∧ Gr w w'

theorem Reck.same {n m : Int} {w w' : World} {r : Ending} (h : Reck n w r w') (e : n % pp = m % pp) : Reck m w r w' := by
  obtain ⟨a, b, c, d, x, h1, h2, h3⟩ := h
  exact ⟨a, b, c, d, x, h1, ⟨h2.1, h2.2.trans e⟩, h3⟩

/-- .. and makes but one block -/
def Reck1 (n : Int) (w : World) (r : Ending) (w' : World) : Prop := ∃ a b c d e o, r = .returned (five a b c d e) ∧ Rep n a b c d e ∧ w' = w.alloc o
theorem Reck1.all {n : Int} {w w' : World} {r : Ending} (h : Reck1 n w r w') : Reck n w r w' := by
  obtain ⟨a, b, c, d, x, o, h1, h2, h3⟩ := h
  exact ⟨a, b, c, d, x, h1, h2, h3 ▸ (Gr.refl _).alloc _⟩

theorem mask51 (a : Int) (h : 0 ≤ a) (h2 : a < 18446744073709551616) : bits .and .u64 a 2251799813685247 = a % 2251799813685248 := by
  obtain ⟨n, rfl⟩ := Int.eq_ofNat_of_zero_le h
  have h3 := bits_and_u64_nat n 2251799813685247 (by omega) (by omega)
  have e : n &&& 2251799813685247 = n % 2251799813685248 := Nat.and_two_pow_sub_one_eq_mod n 51
  rw [e] at h3
  simpa using h3
theorem wrap_id (a : Int) (h : 0 ≤ a) (h2 : a < 18446744073709551616) : IntKind.u64.wrap a = a := by rw [IntKind.wrap_u64]; omega

/-- one carry -/
theorem carries (a b c d e : Int) : val (a % 2251799813685248 + (e + (d + (c + (b + a / 2251799813685248) / 2251799813685248) / 2251799813685248) / 2251799813685248) / 2251799813685248 * 19)
    ((b + a / 2251799813685248) % 2251799813685248) ((c + (b + a / 2251799813685248) / 2251799813685248) % 2251799813685248)
    ((d + (c + (b + a / 2251799813685248) / 2251799813685248) / 2251799813685248) % 2251799813685248)
    ((e + (d + (c + (b + a / 2251799813685248) / 2251799813685248) / 2251799813685248) / 2251799813685248) % 2251799813685248) % pp = val a b c d e % pp := by
  unfold val pp
  omega
end Go.Proofs.Ytcefkkoombmndaa
