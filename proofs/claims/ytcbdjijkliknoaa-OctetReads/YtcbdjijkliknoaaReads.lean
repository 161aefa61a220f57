/-
  What a reader's calls do: of whatever state, as one function says.
-/
import Derived.Test.YtcbdjijkliknoaaClone
namespace Go.Proofs.Ytcbdjijkliknoaa
open Go.RowKit

/-- The reader at p: of the bytes l, behind i of them, with the error e. -/
def Rdr (w : World) (p : Nat) (v : Value) (l : List Int) (i : Nat) (e : Int) : Prop :=
  i ≤ l.length ∧ l.length ≤ 140737488355328 ∧ Rd w p i e v ∧ Sl p w v l

theorem Sl.below {p : Nat} {w w' : World} {v : Value} {l : List Int} (h : Sl p w v l) (s : Below w.heap.size w w') : Sl p w' v l := by
  obtain ⟨a, c, h1, h2, h3, h4, h5, h6⟩ := h
  exact ⟨a, c, h1, h2, h3, h4, h5, h6.below s⟩
theorem Sl.but {p : Nat} {w w' : World} {v : Value} {l : List Int} (h : Sl p w v l) (s : But p w w') : Sl p w' v l := by
  obtain ⟨a, c, h1, h2, h3, h4, h5, h6⟩ := h
  exact ⟨a, c, h1, h2, h3, h4, h5, h6.but s fun x hx => (h5 x hx).1⟩
theorem Rdr.below {p i : Nat} {w w' : World} {v : Value} {l : List Int} {e : Int} (h : Rdr w p v l i e) (s : Below w.heap.size w w') : Rdr w' p v l i e := by
  obtain ⟨h1, h2, h3, h4⟩ := h
  exact ⟨h1, h2, h3.below s h3.lt, h4.below s⟩
theorem Rdr.lt {p i : Nat} {w : World} {v : Value} {l : List Int} {e : Int} (h : Rdr w p v l i e) : p < w.heap.size := by
  obtain ⟨h1, h2, h3, h4⟩ := h
  exact h3.lt

/-- What is taken; where the reader is then; its error. -/
def takeM (l : List Int) (i : Nat) (e n : Int) : List Int × Nat × Int :=
  if e ≠ 0 then ([], i, e) else if n < 0 then ([], i, 2) else if (l.length : Int) - i < n then ([], i, 110) else ((l.drop i).take n.toNat, i + n.toNat, 0)

def TookM (p : Nat) (v : Value) (l : List Int) (r : List Int × Nat × Int) (w : World) (e : Ending) (w' : World) : Prop :=
  ∃ a c, e = .returned (.slice a r.1.length c) ∧ Bs w' a r.1.length r.1 ∧ r.1.length ≤ 140737488355328 ∧ Rdr w' p v l r.2.1 r.2.2 ∧ But p w w'

theorem take_any (p : Nat) (v : Value) (l : List Int) (i : Nat) (e n : Int) (w : World) (h : Rdr w p v l i e) :
    Calls Try.prog 33 #[.pointer (some ⟨p, 0, none⟩), .int .i64 n] w (TookM p v l (takeM l i e n) w) := by
  obtain ⟨h1, h2, h3, a, c, rfl, h5, h6, h7, h8, h9⟩ := h
  have hsl : Sl p w (.slice a l.length c) l := ⟨a, c, rfl, h5, h6, h7, h8, h9⟩
  unfold takeM
  by_cases he : e = 0
  · subst he
    rw [if_neg (by simp)]
    by_cases hn : n < 0
    · rw [if_pos hn]
      exact (take_neg p i n _ w h3 hn).mono fun e w' ⟨he, hr, hb⟩ => ⟨none, 0, he, Bs.nil _ _, by simp, ⟨h1, h2, hr, hsl.but hb⟩, hb⟩
    · rw [if_neg hn]
      by_cases hs : (l.length : Int) - i < n
      · rw [if_pos hs]
        exact (take_short p i n a l.length c w h3 (by omega) (by omega) h2 hs).mono fun e w' ⟨he, hr, hb⟩ => ⟨none, 0, he, Bs.nil _ _, by simp, ⟨h1, h2, hr, hsl.but hb⟩, hb⟩
      · rw [if_neg hs]
        have K : ∀ (d : Value) (e : Ending) (w' : World), Sl p w d l → Took p i n d l w e w' → TookM p d l ((l.drop i).take n.toNat, i + n.toNat, 0) w e w' := by
          intro d e w' hd ⟨v, he, ⟨a', c', hv, _, _, _, _, hbs⟩, hrd, hb⟩
          rw [Int.toNat_natCast] at hv hbs
          have e1 : ((i + n.toNat : Nat) : Int) = (i : Int) + n := by omega
          refine ⟨a', c', by rw [he, hv], hbs, by simp only [List.length_take, List.length_drop]; omega, ⟨by simp only []; omega, h2, by simp only []; rw [e1]; exact hrd, hd.but hb⟩, hb⟩
        rcases a with _ | ⟨b, off, sp⟩
        · have h0 := h7 rfl
          subst h0
          have hl0 : l.length = 0 := by omega
          have hn0 : n = 0 := by omega
          have hi0 : i = 0 := by omega
          subst hn0; subst hi0
          obtain rfl := List.eq_nil_of_length_eq_zero hl0
          exact (take_none p w h3).mono fun e w' hh => K _ e w' hsl hh
        · obtain ⟨hbp, hsp⟩ := h8 _ rfl
          simp only at hsp
          subst hsp
          exact (take_some p i n b off l.length c l w h3 h9 hbp (by omega) (by omega) h5 h2 h6 (by omega) (by omega)).mono fun e w' hh => K _ e w' hsl hh
  · rw [if_pos he]
    exact (take_err p i e n _ w h3 he).mono fun e w' ⟨he, hw⟩ => by subst hw; exact ⟨none, 0, he, Bs.nil _ _, by simp, ⟨h1, h2, h3, hsl⟩, But.refl _ _⟩

theorem takeM_len (l : List Int) (i : Nat) (e n : Int) : ((takeM l i e n).1.length : Int) ≤ max 0 n := by
  unfold takeM
  split
  · simp; omega
  · split
    · simp; omega
    · split
      · simp; omega
      · simp; omega
theorem takeM_mem (l : List Int) (i : Nat) (e n : Int) (h : ∀ x ∈ l, 0 ≤ x ∧ x < 256) : ∀ x ∈ (takeM l i e n).1, 0 ≤ x ∧ x < 256 := by
  unfold takeM
  split
  · simp
  · split
    · simp
    · split
      · simp
      · exact fun x hx => h x (List.mem_of_mem_drop (List.mem_of_mem_take hx))

theorem pow_le (a b : Nat) (h : a ≤ b) : (256 : Int) ^ a ≤ 256 ^ b := by
  have := Nat.pow_le_pow_right (n := 256) (by omega) h
  have e : ∀ k : Nat, (256 : Int) ^ k = ((256 ^ k : Nat) : Int) := fun k => by simp
  rw [e, e]; omega

theorem low_bd (l : List Int) (i : Nat) (e : Int) (n : Nat) (hl : ∀ x ∈ l, 0 ≤ x ∧ x < 256) : 0 ≤ lowN (takeM l i e n).1 ∧ lowN (takeM l i e n).1 < 256 ^ n := by
  have h1 := lowN_bd _ (takeM_mem l i e n hl)
  have h2 := takeM_len l i e n
  have h3 := pow_le (takeM l i e n).1.length n (by omega)
  exact ⟨h1.1, Int.lt_of_lt_of_le h1.2 h3⟩

/-- What a read of a number has done. -/
def Num (k : IntKind) (p : Nat) (v : Value) (l : List Int) (r : List Int × Nat × Int) (w : World) (e : Ending) (w' : World) : Prop :=
  e = .returned (.int k (lowN r.1)) ∧ Rdr w' p v l r.2.1 r.2.2 ∧ But p w w'

set_option maxHeartbeats 400000 in
theorem u16_any (p : Nat) (v : Value) (l : List Int) (i : Nat) (e : Int) (w : World) (h : Rdr w p v l i e) (hl : ∀ x ∈ l, 0 ≤ x ∧ x < 256) :
    Calls Try.prog 23 #[.pointer (some ⟨p, 0, none⟩)] w (Num .u16 p v l (takeM l i e 2) w) := by
  have hb : 0 ≤ lowN (takeM l i e 2).1 ∧ lowN (takeM l i e 2).1 < 65536 := low_bd l i e 2 hl
  have hlen := takeM_len l i e 2
  have ht := take_any p v l i e 2 w h
  generalize takeM l i e 2 = r at *
  have hb1 := hb.1
  have hb2 := hb.2
  have HT := hide ht
  clear h hl hb ht
  go_enter Try.func23, Try.ntmps23
  go_wp2_with (first | (go_at_call 33; refine (unhide HT).mono ?_; rintro e w1 ⟨a, c, rfl, hbs, hlen2, hrd, hbut⟩) | (go_at_call 31; refine (number_any _ _ _ r.1 _ hbs (by omega)).mono ?_; rintro e w2 ⟨rfl, hw⟩; have hw2 := hw.symm; subst hw2))
  go_ret
  exact ⟨rfl, hrd, hbut⟩

set_option maxHeartbeats 400000 in
theorem u32_any (p : Nat) (v : Value) (l : List Int) (i : Nat) (e : Int) (w : World) (h : Rdr w p v l i e) (hl : ∀ x ∈ l, 0 ≤ x ∧ x < 256) :
    Calls Try.prog 24 #[.pointer (some ⟨p, 0, none⟩)] w (Num .u32 p v l (takeM l i e 4) w) := by
  have hb : 0 ≤ lowN (takeM l i e 4).1 ∧ lowN (takeM l i e 4).1 < 4294967296 := low_bd l i e 4 hl
  have hlen := takeM_len l i e 4
  have ht := take_any p v l i e 4 w h
  generalize takeM l i e 4 = r at *
  have hb1 := hb.1
  have hb2 := hb.2
  have HT := hide ht
  clear h hl hb ht
  go_enter Try.func24, Try.ntmps24
  go_wp2_with (first | (go_at_call 33; refine (unhide HT).mono ?_; rintro e w1 ⟨a, c, rfl, hbs, hlen2, hrd, hbut⟩) | (go_at_call 31; refine (number_any _ _ _ r.1 _ hbs (by omega)).mono ?_; rintro e w2 ⟨rfl, hw⟩; have hw2 := hw.symm; subst hw2))
  go_ret
  exact ⟨rfl, hrd, hbut⟩

set_option maxHeartbeats 400000 in
theorem u64_any (p : Nat) (v : Value) (l : List Int) (i : Nat) (e : Int) (w : World) (h : Rdr w p v l i e) :
    Calls Try.prog 25 #[.pointer (some ⟨p, 0, none⟩)] w (Num .u64 p v l (takeM l i e 8) w) := by
  have hlen := takeM_len l i e 8
  have ht := take_any p v l i e 8 w h
  generalize takeM l i e 8 = r at *
  have HT := hide ht
  clear h ht
  go_enter Try.func25, Try.ntmps25
  go_wp2_with (first | (go_at_call 33; refine (unhide HT).mono ?_; rintro e w1 ⟨a, c, rfl, hbs, hlen2, hrd, hbut⟩) | (go_at_call 31; refine (number_any _ _ _ r.1 _ hbs (by omega)).mono ?_; rintro e w2 ⟨rfl, hw⟩; have hw2 := hw.symm; subst hw2))
  go_ret
  exact ⟨rfl, hrd, hbut⟩

/-- What Raw has done: bytes in new memory. -/
def Rawd (p : Nat) (v : Value) (l : List Int) (r : List Int × Nat × Int) (w : World) (e : Ending) (w' : World) : Prop :=
  ∃ a c, e = .returned (.slice a r.1.length c) ∧ Bs w' a r.1.length r.1 ∧ Rdr w' p v l r.2.1 r.2.2 ∧ (∀ k, k < w.heap.size → k ≠ p → w'.heap[k]? = w.heap[k]?) ∧ Below 0 w w'

theorem owns_bs {w : World} {B n : Nat} {a : Option Addr} {c : Nat} {l : List Int} (h : w.ownsRow B 5 1 (.slice a n c) n (l.map (Value.int .u8))) (hl : ∀ x ∈ l, 0 ≤ x ∧ x < 256) (hn : l.length = n) : Bs w a n l := by
  subst hn
  have hb : ∃ p, (Value.slice a l.length c).ownBlock ≠ some p := by
    rcases a with _ | a
    · exact ⟨0, by simp [Value.ownBlock]⟩
    · exact ⟨a.block + 1, by simp [Value.ownBlock]⟩
  obtain ⟨p, hp⟩ := hb
  obtain ⟨a', c', h1, _, _, _, _, h6⟩ := sl_of_owns (p := p) h hl hp
  simp only [Value.slice.injEq] at h1
  obtain ⟨rfl, _, _⟩ := h1
  exact h6

theorem rawd_of {p : Nat} {v : Value} {l : List Int} {r : List Int × Nat × Int} {w w1 w2 : World} {a : Option Addr} {c : Nat} (hbs : ∀ x ∈ r.1, 0 ≤ x ∧ x < 256) (hrd : Rdr w1 p v l r.2.1 r.2.2) (hbut : But p w w1)
    (hown : w2.ownsRow w1.heap.size 5 1 (.slice a r.1.length c) r.1.length (r.1.map (Value.int .u8))) (hb : Below w1.heap.size w1 w2) : Rawd p v l r w (.returned (.slice a r.1.length c)) w2 :=
  ⟨a, c, rfl, owns_bs hown hbs rfl, hrd.below hb, fun k hk hkp => (hb.block k (by rw [hbut.size]; exact hk)).trans (hbut.block k hkp), (hbut.below (Nat.zero_le _)).trans (hb.mono (Nat.zero_le _))⟩

set_option maxHeartbeats 400000 in
theorem raw_any (p : Nat) (v : Value) (l : List Int) (i : Nat) (e n : Int) (w : World) (h : Rdr w p v l i e) (hl : ∀ x ∈ l, 0 ≤ x ∧ x < 256) :
    Calls Try.prog 26 #[.pointer (some ⟨p, 0, none⟩), .int .i64 n] w (Rawd p v l (takeM l i e n) w) := by
  have ht := take_any p v l i e n w h
  have hm := takeM_mem l i e n hl
  generalize takeM l i e n = r at *
  have F := @rawd_of p v l r w
  have HT := hide ht
  have HF := hide (fun w1 w2 a c => @F w1 w2 a c hm)
  clear h ht F hm hl
  go_enter Try.func26, Try.ntmps26
  go_wp2_with (first | (go_at_call 33; refine (unhide HT).mono ?_; rintro e w1 ⟨a, c, rfl, hbs, hlen2, hrd, hbut⟩) | (go_at_call 32; refine (clone_any _ _ _ r.1 _ hbs hlen2).mono ?_; rintro e w2 ⟨a2, c2, rfl, hown, hb⟩))
  go_ret
  exact unhide HF _ _ _ _ hrd hbut hown hb

theorem err_rdr (p : Nat) (v : Value) (l : List Int) (i : Nat) (x : Int) (w : World) (h : Rdr w p v l i x) : Calls Try.prog 29 #[.pointer (some ⟨p, 0, none⟩)] w fun e w' => e = .returned (.int .i64 x) ∧ w' = w := by
  obtain ⟨_, _, h3, _⟩ := h
  exact err_any p i x v w h3
theorem left_rdr (p : Nat) (v : Value) (l : List Int) (i : Nat) (x : Int) (w : World) (h : Rdr w p v l i x) : Calls Try.prog 28 #[.pointer (some ⟨p, 0, none⟩)] w fun e w' => e = .returned (.int .i64 (l.length - i)) ∧ Still w w' := by
  obtain ⟨h1, h2, h3, a, c, rfl, _⟩ := h
  exact left_any p i x a _ c w h3 (by omega) (by omega) h2
theorem Rdr.still {p i : Nat} {w w' : World} {v : Value} {l : List Int} {e : Int} (h : Rdr w p v l i e) (s : Still w w') : Rdr w' p v l i e := h.below (s.below _)
end Go.Proofs.Ytcbdjijkliknoaa
