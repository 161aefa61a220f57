/-
  What bytes.Clone and octet.Read do.
-/
import Derived.Test.YtcbdjijkliknoaaNumber
import Derived.Lib.SliceRun
namespace Go.Proofs.Ytcbdjijkliknoaa
open Go.RowKit

theorem Try.info5 : (Try.prog.info? 5).map (fun i => (i.zero, i.size, i.bytes)) = some (some (.int .u8 0), 1, 1) := by kernel_rfl

theorem map_u8 (l : List Int) (j : Nat) (h : j < l.length) : (l.map (Value.int .u8))[j]? = some (Value.int .u8 (l.getD j 0)) := by simp [List.getD, List.getElem?_eq_getElem h]

/-- What is owned lies in new memory and holds the bytes. -/
theorem sl_of_owns {p : Nat} {w : World} {B : Nat} {v : Value} {l : List Int} (h : w.ownsRow B 5 1 v l.length (l.map (Value.int .u8))) (hl : ∀ x ∈ l, 0 ≤ x ∧ x < 256) (hp : v.ownBlock ≠ some p) : Sl p w v l := by
  obtain ⟨_, h2⟩ := h
  rcases h2 with ⟨rfl, h0⟩ | ⟨g, cap, cur, rfl, hg, hh, hn, hm, _, ht⟩
  · obtain rfl := List.eq_nil_of_length_eq_zero h0
    exact ⟨none, 0, rfl, Nat.le_refl _, by omega, fun _ => rfl, fun x h => by simp at h, Bs.nil _ _⟩
  · refine ⟨_, cap, rfl, hn, by unfold maxLen at hm; exact hm, fun h => by simp at h, fun x hx => ?_, rfl, hl, fun _ => ⟨g, 0, rfl, fun i hi => ?_⟩⟩
    · simp only [Option.some.injEq] at hx; subst hx; exact ⟨fun e => hp (by simp only [Value.ownBlock]; exact congrArg some e), rfl⟩
    · have := map_u8 l i hi
      rw [← ht, List.getElem?_take, if_pos (by omega)] at this
      simpa [World.cell?, hh] using this

set_option maxHeartbeats 1000000 in
theorem clone_some (a : Addr) (n c : Nat) (l : List Int) (w : World) (h : Bs w (some a) n l) (hbig : n ≤ 140737488355328) :
    Calls Try.prog 32 #[.slice (some a) n c] w fun e w' => ∃ v', e = .returned v' ∧ w'.ownsRow w.heap.size 5 1 v' n (l.map (Value.int .u8)) ∧ v' ≠ .slice none 0 0 ∧ Below w.heap.size w w' := by
  obtain ⟨i0, hi, hz0, hz1, hz2⟩ := info_parts Try.info5
  have q22 : ∀ (w : World) (a : Option Addr) (n c n' c' : Nat), (binOp .eql 22 (.slice a n c) (.slice none n' c')).run Try.prog w = .ok (.bool a.isNone) w := fun w a n c n' c' => Lib.run_eql_slice_nil w _ _ a n c n' c' Try.underlying22
  have A := hide h
  clear h
  go_enter Try.func32, Try.ntmps32
  go_wp2_with (at_builtin; refine wpList_append_own _ rfl _ _ 22 rfl w.heap.size 5 i0 (.int .u8 0) 1 1 Try.underlying22 hi hz0 hz1 hz2 rfl (by decide) _ _ _ rfl (World.ownsRow_made w #[] 0 (Nat.le_refl _) (Nat.zero_le _) rfl) a n c (l.map (Value.int .u8)) rfl ?qc1 ?qc2 ?qc3 ?qc4 ?qc5 ?qc6 ?_)
  case qc1 => have := A.out.1; simp; omega
  case qc2 =>
    obtain ⟨h1, h2, h3⟩ := A.out
    intro j u hj
    have hjn : j < n := by
      have := (List.getElem?_eq_some_iff.1 hj).1
      simp at this
      omega
    obtain ⟨b, off, ha, hc⟩ := h3 (by omega)
    simp only [Option.some.injEq] at ha
    subst ha
    refine Lib.cell?_alloc_some _ ?_
    rw [map_u8 l j (by omega)] at hj
    have e1 : (⟨b, off, none⟩ : Addr).add j = ⟨b, off + j, none⟩ := by
      rcases Nat.eq_zero_or_pos j with h0 | h0
      · subst h0; rfl
      · simp [Addr.add]; omega
    rw [e1]
    exact (hc j hjn).trans hj
  case qc3 => intro u hu; obtain ⟨x, _, rfl⟩ := List.mem_map.1 hu; rfl
  case qc4 => unfold maxLen; omega
  case qc5 => omega
  case qc6 => simp
  intro v' w1 hown hgrow hnil
  go_wp2
  go_ret
  refine ⟨v', rfl, by simpa using hown, ?_, ?_⟩
  · first | exact hnil | (intro e; exact absurd (hnil.1 e).1 (by simp))
  · exact ((Below.refl _ w).alloc (Nat.le_refl _) _).grown hgrow (by simp) (by intro k hk; simp [Value.ownBlock] at hk; omega)

set_option maxHeartbeats 1000000 in
theorem clone_none (n c : Nat) (w : World) :
    Calls Try.prog 32 #[.slice none n c] w fun e w' => e = .returned (.slice none 0 0) ∧ w' = w := by
  have q22 : ∀ (w : World) (a : Option Addr) (n c n' c' : Nat), (binOp .eql 22 (.slice a n c) (.slice none n' c')).run Try.prog w = .ok (.bool a.isNone) w := fun w a n c n' c' => Lib.run_eql_slice_nil w _ _ a n c n' c' Try.underlying22
  go_enter Try.func32, Try.ntmps32
  go_wp2
  go_ret
  exact ⟨rfl, rfl⟩

theorem own_slice {w : World} {B : Nat} {e : TypeId} {s : Nat} {v : Value} {n : Nat} {xs : List Value} (h : w.ownsRow B e s v n xs) : ∃ a c, v = .slice a n c := by
  obtain ⟨_, h2⟩ := h
  rcases h2 with ⟨rfl, rfl⟩ | ⟨g, cap, cur, rfl, _⟩
  · exact ⟨_, _, rfl⟩
  · exact ⟨_, _, rfl⟩

theorem clone_any (a : Option Addr) (n c : Nat) (l : List Int) (w : World) (h : Bs w a n l) (hbig : n ≤ 140737488355328) :
    Calls Try.prog 32 #[.slice a n c] w fun e w' => ∃ a' c', e = .returned (.slice a' n c') ∧ w'.ownsRow w.heap.size 5 1 (.slice a' n c') n (l.map (Value.int .u8)) ∧ Below w.heap.size w w' := by
  rcases a with _ | a
  · have h0 : n = 0 := by
      rcases Nat.eq_zero_or_pos n with h0 | h0
      · exact h0
      · obtain ⟨_, _, h, _⟩ := h.2.2 h0; simp at h
    subst h0
    obtain rfl := List.eq_nil_of_length_eq_zero h.1
    exact (clone_none 0 c w).mono fun e w' ⟨he, hw⟩ => by subst hw; exact ⟨none, 0, he, World.ownsRow_nil _ _ _ _, Below.refl _ _⟩
  · exact (clone_some a n c l w h hbig).mono fun e w' ⟨v', he, h1, _, h2⟩ => by obtain ⟨a', c', rfl⟩ := own_slice h1; exact ⟨a', c', he, h1, h2⟩

/-- What is owned lies below the heap's end. -/
theorem own_lt {w : World} {B : Nat} {e : TypeId} {s : Nat} {v : Value} {n : Nat} {xs : List Value} (h : w.ownsRow B e s v n xs) : v.ownBlock ≠ some w.heap.size := by
  obtain ⟨_, h2⟩ := h
  rcases h2 with ⟨rfl, _⟩ | ⟨g, cap, cur, rfl, _, hh, _⟩
  · simp [Value.ownBlock]
  · have := lt_of_block hh
    simp only [Value.ownBlock, ne_eq, Option.some.injEq]; omega

/-- A new reader of the bytes l. -/
def Fresh (l : List Int) (w : World) (e : Ending) (w' : World) : Prop :=
  ∃ p v, e = .returned (.pointer (some ⟨p, 0, none⟩)) ∧ w.heap.size ≤ p ∧ Rd w' p 0 0 v ∧ Sl p w' v l ∧ Below w.heap.size w w'

theorem fresh_of {l : List Int} {w w1 : World} {v : Value} (hl : ∀ x ∈ l, 0 ≤ x ∧ x < 256) (h : w1.ownsRow w.heap.size 5 1 v l.length (l.map (Value.int .u8))) (b : Below w.heap.size w w1) :
    Fresh l w (.returned (.pointer (some ⟨w1.heap.size, 0, none⟩))) (w1.alloc (.cells #[.int .i64 0, .int .i64 0, v] 67)) :=
  ⟨w1.heap.size, v, rfl, b.size, heap_alloc_new _ _, sl_of_owns (h.alloc _) hl (own_lt h), b.alloc b.size _⟩

set_option maxHeartbeats 1000000 in
theorem read_any (a : Option Addr) (n c : Nat) (l : List Int) (w : World) (h : Bs w a n l) (hbig : n ≤ 140737488355328) :
    Calls Try.prog 21 #[.slice a n c] w (Fresh l w) := by
  have hl := h.1
  subst hl
  have F : ∀ w1 v, w1.ownsRow w.heap.size 5 1 v l.length (l.map (Value.int .u8)) → Below w.heap.size w w1 → Fresh l w (.returned (.pointer (some ⟨w1.heap.size, 0, none⟩))) (w1.alloc (.cells #[.int .i64 0, .int .i64 0, v] 67)) := fun w1 v => fresh_of h.2.1
  have HF := hide F
  clear F
  go_enter Try.func21, Try.ntmps21
  go_wp2_with (go_at_call 32; refine (clone_any a l.length c l _ h hbig).mono ?_; rintro e w1 ⟨a', c', rfl, hown, hb⟩)
  go_ret
  exact unhide HF _ _ hown hb
end Go.Proofs.Ytcbdjijkliknoaa
