/-
  What octet.Reader's inner call take does where there are enough bytes.
-/
import Derived.Test.YtcbdjijkliknoaaTake
namespace Go.Proofs.Ytcbdjijkliknoaa
open Go.RowKit

theorem getD_dt (l : List Int) (i n j : Nat) (h : j < n) : ((l.drop i).take n).getD j 0 = l.getD (i + j) 0 := by
  simp [List.getD_eq_getElem?_getD, h, List.getElem?_drop]

theorem Bs.cut {w : World} {b off m c i n : Nat} {l : List Int} (h : Bs w (some ⟨b, off, none⟩) m l) (him : i + n ≤ m) (hmc : m ≤ c) :
    Bs w (if c = i then some ⟨b, off, none⟩ else some ⟨b, off + i, none⟩) n ((l.drop i).take n) := by
  obtain ⟨h1, h2, h3⟩ := h
  refine ⟨by simp; omega, fun x hx => h2 x (List.mem_of_mem_drop (List.mem_of_mem_take hx)), fun hn => ?_⟩
  rw [if_neg (by omega)]
  obtain ⟨b', off', ha, hc⟩ := h3 (by omega)
  simp only [Option.some.injEq, Addr.mk.injEq] at ha
  obtain ⟨rfl, rfl, _⟩ := ha
  refine ⟨_, _, rfl, fun j hj => ?_⟩
  rw [getD_dt l i n j hj, ← hc (i + j) (by omega), Nat.add_assoc]

/-- A slice of the bytes l that lies nowhere in the block p. -/
def Sl (p : Nat) (w : World) (v : Value) (l : List Int) : Prop :=
  ∃ a c, v = .slice a l.length c ∧ l.length ≤ c ∧ c ≤ 9223372036854775807 ∧ (a = none → c = 0) ∧ (∀ x, a = some x → x.block ≠ p ∧ x.spot = none) ∧ Bs w a l.length l

/-- What take has done. -/
def Took (p : Nat) (i n : Int) (d : Value) (l : List Int) (w : World) (e : Ending) (w' : World) : Prop :=
  ∃ v, e = .returned v ∧ Sl p w' v ((l.drop i.toNat).take n.toNat) ∧ Rd w' p (i + n) 0 d ∧ But p w w'

theorem took_of (p : Nat) (i n : Int) (b off : Nat) (m c q : Nat) (l : List Int) (w w1 : World) (s : Still w w1) (h : Rd w p i 0 (.slice (some ⟨b, off, none⟩) m c)) (hd : Bs w (some ⟨b, off, none⟩) m l) (hp : b ≠ p) (hi : 0 ≤ i) (him : i ≤ m) (hmc : m ≤ c) (hm : m ≤ 140737488355328) (hc : c ≤ 9223372036854775807) (hn : n ≤ m - i) (hn0 : 0 ≤ n) (k k2 : Nat) (a : Addr) (hk : k = (i + n).toNat - i.toNat) (hk2 : k2 = c - i.toNat)
    (ha : some a = if c = i.toNat then some ⟨b, off, none⟩ else some ⟨b, off + i.toNat, none⟩) :
    Took p i n (.slice (some ⟨b, off, none⟩) m c) l w (.returned (.slice (some a) k k2)) ((w1.setCell ⟨p, 0, none⟩ (.int .i64 (i + n))).drewN q) := by
  have hl : ((l.drop i.toNat).take n.toNat).length = k := by have := hd.1; simp; omega
  have b1 : But p w ((w1.setCell ⟨p, 0, none⟩ (.int .i64 (i + n))).drewN q) := ((s.but p).trans (But.set _ _ _ _)).trans ((Still.drewN _ _).but p)
  have b2 : ∀ x, (some a : Option Addr) = some x → x.block ≠ p ∧ x.spot = none := by
    intro x hx
    rw [← hx.symm.trans rfl] at ha
    split at ha <;> (simp only [Option.some.injEq] at ha; subst ha; exact ⟨hp, rfl⟩)
  refine ⟨_, rfl, ⟨some a, k2, by rw [hl], by rw [hl]; omega, by omega, fun h => by simp at h, b2, ?_⟩, ?_, b1⟩
  · rw [hl, ha]
    have := Bs.cut (i := i.toNat) (n := n.toNat) hd (by omega) hmc
    rw [show n.toNat = k by omega] at this ⊢
    refine this.but b1 fun x hx => ?_
    rw [← ha] at hx
    exact (b2 x hx).1
  · exact (three_set0 (h.still s)).trans rfl

set_option maxHeartbeats 400000 in
theorem take_some (p : Nat) (i n : Int) (b off : Nat) (m c : Nat) (l : List Int) (w : World) (hR : Rd w p i 0 (.slice (some ⟨b, off, none⟩) m c)) (hd : Bs w (some ⟨b, off, none⟩) m l) (hp : b ≠ p) (hi : 0 ≤ i) (him : i ≤ m) (hmc : m ≤ c) (hm : m ≤ 140737488355328) (hc : c ≤ 9223372036854775807) (hn : n ≤ m - i) (hn0 : 0 ≤ n) :
    Calls Try.prog 33 #[.pointer (some ⟨p, 0, none⟩), .int .i64 n] w (Took p i n (.slice (some ⟨b, off, none⟩) m c) l w) := by
  have hn1 : ¬ n < 0 := by omega
  have F := fun w1 q s k k2 a => took_of p i n b off m c q l w w1 s hR hd hp hi him hmc hm hc hn hn0 k k2 a
  have HF := hide F
  clear F
  go_enter Try.func33, Try.ntmps33
  go_wp2_with (first | (go_at_call 29; refine (err_any _ _ _ _ _ hR).mono ?_; rintro e w' ⟨rfl, hw⟩; have hw2 := hw.symm; subst hw2) | (go_at_call 28; refine (left_any _ _ _ _ _ _ _ hR hi him (by omega)).mono ?_; rintro e w1 ⟨rfl, hs⟩; have h0 := (hR.still hs).c0; have h2 := (hR.still hs).c2; have hf := (hR.still hs).f 0))
  go_quiet (fail)
  go_wp2
  · go_ret
    subst h
    exact unhide HF _ _ hs _ _ _ rfl (by omega) (by simp)
  · go_ret
    exact unhide HF _ _ hs _ _ _ rfl rfl (by rw [if_neg h])

set_option maxHeartbeats 400000 in
theorem take_none (p : Nat) (w : World) (hR : Rd w p 0 0 (.slice none 0 0)) :
    Calls Try.prog 33 #[.pointer (some ⟨p, 0, none⟩), .int .i64 0] w (Took p 0 0 (.slice none 0 0) [] w) := by
  have F : ∀ w1 q, Still w w1 → Took p 0 0 (.slice none 0 0) [] w (.returned (.slice none 0 0)) ((w1.setCell ⟨p, 0, none⟩ (.int .i64 0)).drewN q) := fun w1 q s =>
    ⟨_, rfl, ⟨none, 0, rfl, Nat.le_refl _, by omega, fun _ => rfl, fun x h => by simp at h, Bs.nil _ _⟩, three_set0 (hR.still s), ((s.but p).trans (But.set _ _ _ _)).trans ((Still.drewN _ _).but p)⟩
  have HF := hide F
  clear F
  go_enter Try.func33, Try.ntmps33
  go_wp2_with (first | (go_at_call 29; refine (err_any _ _ _ _ _ hR).mono ?_; rintro e w' ⟨rfl, hw⟩; have hw2 := hw.symm; subst hw2) | (go_at_call 28; refine (left_any _ _ _ _ _ _ _ hR (by omega) (by omega) (by omega)).mono ?_; rintro e w1 ⟨rfl, hs⟩; have h0 := (hR.still hs).c0; have h2 := (hR.still hs).c2; have hf := (hR.still hs).f 0))
  go_quiet (fail)
  go_wp2
  go_ret
  exact unhide HF _ _ hs
end Go.Proofs.Ytcbdjijkliknoaa
