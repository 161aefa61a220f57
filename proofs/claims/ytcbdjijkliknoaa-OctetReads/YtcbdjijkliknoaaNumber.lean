/-
  What octet's inner function number does.
-/
import Derived.Test.YtcbdjijkliknoaaTakeok
namespace Go.Proofs.Ytcbdjijkliknoaa
open Go.RowKit

/-- The number whose low form is l. -/
def lowN : List Int → Int
  | [] => 0
  | x :: r => x + 256 * lowN r

theorem lowN_bd (l : List Int) (h : ∀ x ∈ l, 0 ≤ x ∧ x < 256) : 0 ≤ lowN l ∧ lowN l < 256 ^ l.length := by
  induction l with
  | nil => simp [lowN]
  | cons x r ih =>
    have := ih (fun y hy => h y (List.mem_cons_of_mem _ hy))
    have hx := h x (List.mem_cons_self ..)
    simp only [lowN, List.length_cons]
    rw [Int.pow_succ]
    omega

theorem lowN_snoc (l : List Int) (c : Int) : lowN (l ++ [c]) = lowN l + c * 256 ^ l.length := by
  induction l with
  | nil => simp [lowN]
  | cons x r ih =>
    simp only [List.cons_append, lowN, ih, List.length_cons, Int.pow_succ, Int.mul_add]
    rw [Int.add_assoc, ← Int.mul_assoc, Int.mul_comm 256 c, Int.mul_assoc, Int.mul_comm 256 (256 ^ _)]

theorem or_step (X y : Int) (k : Nat) (hk : k < 8) (h0 : 0 ≤ X) (h1 : X < 256 ^ k) (hy0 : 0 ≤ y) (hy1 : y < 256) :
    bits .or .u64 X (IntKind.u64.wrap (y * 2 ^ (8 * k))) = X + y * 256 ^ k := by
  obtain ⟨N, rfl⟩ := Int.eq_ofNat_of_zero_le h0
  obtain ⟨Y, rfl⟩ := Int.eq_ofNat_of_zero_le hy0
  have e : (256 : Nat) ^ k = 2 ^ (8 * k) := by rw [Nat.pow_mul]
  have e1 : (256 : Int) ^ k = ((2 ^ (8 * k) : Nat) : Int) := by rw [← e]; simp
  have e2 : (2 : Int) ^ (8 * k) = ((2 ^ (8 * k) : Nat) : Int) := by simp
  have hN : N < 2 ^ (8 * k) := by rw [e1] at h1; omega
  have hY : Y < 256 := by omega
  have hle : 2 ^ (8 * k) ≤ 2 ^ 56 := Nat.pow_le_pow_right (by omega) (by omega)
  rw [e1, e2]
  generalize hP : 2 ^ (8 * k) = P at *
  have hYP : Y * P < 18446744073709551616 := by
    have : Y * P ≤ 255 * P := Nat.mul_le_mul_right _ (by omega)
    omega
  have e3 : IntKind.u64.wrap ((Y : Int) * (P : Int)) = ((Y * P : Nat) : Int) := by
    rw [IntKind.wrap_u64]
    rw [← Int.natCast_mul]
    omega
  rw [e3, u64_or_nat N (Y * P) (by omega) hYP]
  have := nat_join (8 * k) (Y * P) N (by rw [hP]; exact Nat.mul_mod_left _ _) (by rw [hP]; exact hN)
  rw [Nat.or_comm] at this
  rw [this]
  rw [← Int.natCast_mul]
  omega

theorem take_snoc_getD (l : List Int) (k : Nat) (h : k < l.length) : l.take (k + 1) = l.take k ++ [l.getD k 0] := by
  rw [List.take_succ_eq_append_getElem h, List.getD_eq_getElem?_getD, List.getElem?_eq_getElem h]; rfl

theorem lowN_step (l : List Int) (k : Nat) (y : Int) (h : k < l.length) (h8 : l.length ≤ 8) (hb : ∀ x ∈ l, 0 ≤ x ∧ x < 256) (hy : y = l.getD k 0) :
    bits .or .u64 (lowN (l.take k)) (IntKind.u64.wrap (y * 2 ^ (8 * k))) = lowN (l.take (k + 1)) := by
  have hm : l.getD k 0 ∈ l := by rw [List.getD_eq_getElem?_getD, List.getElem?_eq_getElem h]; exact List.getElem_mem _
  have hbd := lowN_bd (l.take k) (fun x hx => hb x (List.mem_of_mem_take hx))
  have hlen : (l.take k).length = k := by simp; omega
  rw [hlen] at hbd
  rw [take_snoc_getD l k h, lowN_snoc, hlen, ← hy]
  rw [← hy] at hm
  exact or_step _ _ k (by omega) hbd.1 hbd.2 (hb _ hm).1 (hb _ hm).2

set_option maxHeartbeats 400000 in
theorem number_some (b off n c : Nat) (l : List Int) (w : World) (hl : l.length = n) (hn : n ≤ 8) (hb : ∀ x ∈ l, 0 ≤ x ∧ x < 256) (hc : ∀ i, i < n → w.cell? ⟨b, off + i, none⟩ = some (.int .u8 (l.getD i 0))) :
    Calls Try.prog 31 #[.slice (some ⟨b, off, none⟩) n c] w fun e w' => e = .returned (.int .u64 (lowN l)) ∧ w' = w := by
  go_enter Try.func31, Try.ntmps31
  go_wp2
  go_loop [3, 8] (fun x i => ∃ k : Nat, k ≤ n ∧ i = .int .i64 k ∧ x = .int .u64 (lowN (l.take k))) (fun _ i => n - (intOf i).toNat)
  case atStart => exact ⟨0, Nat.zero_le _, rfl, by simp [lowN]⟩
  case round =>
    obtain ⟨k, hk, rfl, rfl⟩ := hrel
    by_cases hlt : k < n
    · have hck := hc k hlt
      have hx := hb (l.getD k 0) (by rw [List.getD_eq_getElem?_getD, List.getElem?_eq_getElem (by omega)]; exact List.getElem_mem _)
      obtain ⟨y, hy⟩ : ∃ y, y = l.getD k 0 := ⟨_, rfl⟩
      rw [← hy] at hck hx
      have HB : Hid (∀ y, y = l.getD k 0 → bits .or .u64 (lowN (l.take k)) (IntKind.u64.wrap (y * 2 ^ (8 * k))) = lowN (l.take (k + 1))) := fun y hy => lowN_step l k y (by omega) (by omega) hb hy
      have HY := hide hy
      obtain ⟨hx0, hx1⟩ := hx
      clear hy hc hb
      go_wp2
      go_round
      case rel => exact ⟨k + 1, by omega, by go_num, by rw [unhide HB y HY]⟩
      case measure => simp [intOf]; omega
    · go_wp2
      go_ret
      rw [List.take_of_length_le (by omega)]
      exact ⟨rfl, rfl⟩

set_option maxHeartbeats 400000 in
theorem number_none (a : Option Addr) (c : Nat) (w : World) :
    Calls Try.prog 31 #[.slice a 0 c] w fun e w' => e = .returned (.int .u64 0) ∧ w' = w := by
  go_enter Try.func31, Try.ntmps31
  go_wp2
  refine wp_loop_rounds 1 ?_
  rw [rounds_succ]
  go_wp2
  go_ret
  exact ⟨rfl, rfl⟩

theorem number_any (a : Option Addr) (n c : Nat) (l : List Int) (w : World) (h : Bs w a n l) (hn : n ≤ 8) :
    Calls Try.prog 31 #[.slice a n c] w fun e w' => e = .returned (.int .u64 (lowN l)) ∧ w' = w := by
  obtain ⟨h1, h2, h3⟩ := h
  rcases Nat.eq_zero_or_pos n with h0 | h0
  · subst h0
    obtain rfl := List.eq_nil_of_length_eq_zero h1
    exact number_none a c w
  · obtain ⟨b, off, rfl, hc⟩ := h3 h0
    exact number_some b off n c l w h1 hn h2 hc
end Go.Proofs.Ytcbdjijkliknoaa
