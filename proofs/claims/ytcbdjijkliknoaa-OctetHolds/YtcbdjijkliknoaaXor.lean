/-
  What octet's Zero, Xor and Get64 do.
-/
import Derived.Test.YtcbdjijkliknoaaPut
import Derived.BigRegion
namespace Go.Proofs.Ytcbdjijkliknoaa
open Go.RowKit

theorem or_zero (u x : Int) (hu : 0 ≤ u ∧ u < 256) (hx : 0 ≤ x ∧ x < 256) :
    (0 ≤ bits .or .u8 u x ∧ bits .or .u8 u x < 256) ∧ (bits .or .u8 u x = 0 ↔ u = 0 ∧ x = 0) := by
  obtain ⟨U, rfl⟩ := Int.eq_ofNat_of_zero_le hu.1
  obtain ⟨X, rfl⟩ := Int.eq_ofNat_of_zero_le hx.1
  rw [u8_or_nat U X (by omega) (by omega)]
  have h2 := or_lt U X (by omega) (by omega)
  have h3 := nat_or_zero U X
  refine ⟨by omega, ?_⟩
  constructor
  · intro h
    have := h3.1 (by omega)
    exact ⟨by omega, by omega⟩
  · rintro ⟨h, h'⟩
    have := h3.2 ⟨by omega, by omega⟩
    omega

/-- Are all of these 0? -/
def allZ (l : List Int) : Bool := l.all (· == 0)
theorem allZ_snoc (l : List Int) (k : Nat) (h : k < l.length) : allZ (l.take (k + 1)) = (allZ (l.take k) && (l.getD k 0 == 0)) := by
  rw [take_snoc_getD l k h]; simp [allZ]

def Zed (l : List Int) (k : Nat) (u : Int) : Prop := (0 ≤ u ∧ u < 256) ∧ (u == 0) = allZ (l.take k)
theorem Zed.step {l : List Int} {k : Nat} {u x : Int} (h : Zed l k u) (hl : k < l.length) (hx : x = l.getD k 0) (bl : ∀ x ∈ l, 0 ≤ x ∧ x < 256) : Zed l (k + 1) (bits .or .u8 u x) := by
  subst hx
  have := or_zero u _ h.1 (bl _ (getD_mem l k hl))
  refine ⟨this.1, ?_⟩
  rw [allZ_snoc l k hl, ← h.2, Bool.eq_iff_iff]
  simpa using this.2

set_option maxHeartbeats 400000 in
theorem zero_some (b off n c : Nat) (l : List Int) (w : World) (hl : l.length = n) (hn : n ≤ 140737488355328) (bl : ∀ x ∈ l, 0 ≤ x ∧ x < 256)
    (hc : ∀ i, i < n → w.cell? ⟨b, off + i, none⟩ = some (.int .u8 (l.getD i 0))) :
    Calls Try.prog 17 #[.slice (some ⟨b, off, none⟩) n c] w fun e w' => e = .returned (.bool (allZ l)) ∧ w' = w := by
  go_enter Try.func17, Try.ntmps17
  go_wp2
  go_loop [3, 8] (fun x i => ∃ (k : Nat) (u : Int), k ≤ n ∧ i = .int .i64 k ∧ x = .int .u8 u ∧ Zed l k u) (fun _ i => n - (intOf i).toNat)
  case atStart => exact ⟨0, 0, Nat.zero_le _, rfl, rfl, ⟨by omega, by simp [allZ]⟩⟩
  case round =>
    obtain ⟨k, u, hk, rfl, rfl, hU⟩ := hrel
    by_cases hlt : k < n
    · have hck := hc k hlt
      obtain ⟨x, hx⟩ : ∃ x, x = l.getD k 0 := ⟨_, rfl⟩
      rw [← hx] at hck
      have HS := hide (hU.step (by omega) hx bl)
      clear hx hc bl hU
      go_wp2
      go_round
      case rel => exact ⟨k + 1, _, by omega, by go_num, rfl, unhide HS⟩
      case measure => simp [intOf]; omega
    · have e : l.take k = l := List.take_of_length_le (by omega)
      have hU2 := hU.2
      rw [e] at hU2
      have HU := hide hU2
      clear hU hU2 e
      go_wp2
      go_ret
      exact ⟨ret_bool (unhide HU), rfl⟩

set_option maxHeartbeats 400000 in
theorem zero_none (a : Option Addr) (c : Nat) (w : World) :
    Calls Try.prog 17 #[.slice a 0 c] w fun e w' => e = .returned (.bool true) ∧ w' = w := by
  go_enter Try.func17, Try.ntmps17
  go_wp2
  refine wp_loop_rounds 1 ?_
  rw [rounds_succ]
  go_wp2
  go_ret
  exact ⟨rfl, rfl⟩

theorem zero_any (a : Option Addr) (n c : Nat) (l : List Int) (w : World) (h : Bs w a n l) (hn : n ≤ 140737488355328) :
    Calls Try.prog 17 #[.slice a n c] w fun e w' => e = .returned (.bool (allZ l)) ∧ w' = w := by
  obtain ⟨h1, h2, h3⟩ := h
  rcases Nat.eq_zero_or_pos n with h0 | h0
  · subst h0
    obtain rfl := List.eq_nil_of_length_eq_zero h1
    exact zero_none a c w
  · obtain ⟨b, off, rfl, hc⟩ := h3 h0
    exact zero_some b off n c l w h1 hn h2 hc

theorem Bs.first {w : World} {a : Option Addr} {n k : Nat} {l : List Int} (h : Bs w a n l) (hk : k ≤ n) : Bs w a k (l.take k) := by
  obtain ⟨h1, h2, h3⟩ := h
  refine ⟨by simp; omega, fun x hx => h2 x (List.mem_of_mem_take hx), fun h0 => ?_⟩
  obtain ⟨b, off, ha, hc⟩ := h3 (by omega)
  refine ⟨b, off, ha, fun i hi => ?_⟩
  rw [hc i (by omega), List.getD_eq_getElem?_getD, List.getD_eq_getElem?_getD, List.getElem?_take, if_pos hi]

set_option maxHeartbeats 400000 in
theorem get64_long (x : Addr) (n c : Nat) (l : List Int) (w : World) (hB : Bs w (some x) n l) (hn : n ≤ 140737488355328) (hnc : n ≤ c) (h8 : 8 < n) :
    Calls Try.prog 19 #[.slice (some x) n c] w fun e w' => e = .returned (.int .u64 (lowN (l.take 8))) ∧ w' = w := by
  have hp := hide (number_any (some x) 8 c _ w (hB.first (by omega)) (Nat.le_refl _))
  clear hB
  go_enter Try.func19, Try.ntmps19
  go_wp2_with (go_at_call 31; refine (unhide hp).mono ?_; rintro e w' ⟨rfl, rfl⟩)
  go_ret
  exact ⟨rfl, rfl⟩
set_option maxHeartbeats 400000 in
theorem get64_short (x : Addr) (n c : Nat) (l : List Int) (w : World) (hB : Bs w (some x) n l) (hnc : n ≤ c) (h8 : n ≤ 8) :
    Calls Try.prog 19 #[.slice (some x) n c] w fun e w' => e = .returned (.int .u64 (lowN (l.take 8))) ∧ w' = w := by
  have e : l.take 8 = l := List.take_of_length_le (by have := hB.1; omega)
  rw [e]
  have hp := hide (number_any (some x) n c _ w hB h8)
  clear hB e
  go_enter Try.func19, Try.ntmps19
  go_wp2_with (go_at_call 31; refine (unhide hp).mono ?_; rintro e w' ⟨rfl, rfl⟩)
  go_ret
  exact ⟨rfl, rfl⟩
set_option maxHeartbeats 400000 in
theorem get64_none (w : World) :
    Calls Try.prog 19 #[.slice none 0 0] w fun e w' => e = .returned (.int .u64 0) ∧ w' = w := by
  go_enter Try.func19, Try.ntmps19
  go_wp2_with (go_at_call 31; refine (number_none _ _ _).mono ?_; rintro e w' ⟨rfl, rfl⟩)
  go_ret
  exact ⟨rfl, rfl⟩
theorem get64_any (a : Option Addr) (n c : Nat) (l : List Int) (w : World) (hB : Bs w a n l) (ha : a = none → c = 0) (hn : n ≤ 140737488355328) (hnc : n ≤ c) :
    Calls Try.prog 19 #[.slice a n c] w fun e w' => e = .returned (.int .u64 (lowN (l.take 8))) ∧ w' = w := by
  rcases a with _ | x
  · have hc := ha rfl
    subst hc
    have h0 : n = 0 := by omega
    subst h0
    obtain rfl := List.eq_nil_of_length_eq_zero hB.1
    exact get64_none w
  · rcases Nat.lt_or_ge 8 n with h | h
    · exact get64_long x n c l w hB hn hnc h
    · exact get64_short x n c l w hB hnc h

/-- Byte for byte the exclusive or. -/
def xorB (x y : Int) : Int := bits .xor .u8 x y
def xorL (l m : List Int) : List Int := List.zipWith xorB l m
theorem xorB_bd (x y : Int) (hx : 0 ≤ x ∧ x < 256) (hy : 0 ≤ y ∧ y < 256) : 0 ≤ xorB x y ∧ xorB x y < 256 := by
  obtain ⟨X, rfl⟩ := Int.eq_ofNat_of_zero_le hx.1
  obtain ⟨Y, rfl⟩ := Int.eq_ofNat_of_zero_le hy.1
  unfold xorB
  rw [u8_xor_nat X Y (by omega) (by omega)]
  have := xor_lt X Y (by omega) (by omega)
  omega

/-- The row behind k rounds: the first k are xored. -/
def xored (l m : List Int) (k : Nat) : List Int := xorL (l.take k) (m.take k) ++ l.drop k
theorem xored_len (l m : List Int) (k : Nat) (h : l.length = m.length) (hk : k ≤ l.length) : (xored l m k).length = l.length := by simp [xored, xorL]; omega
theorem xored_get (l m : List Int) (k : Nat) (h : l.length = m.length) (hk : k < l.length) : (xored l m k).getD k 0 = l.getD k 0 := by
  have hlen : (xorL (l.take k) (m.take k)).length = k := by simp [xorL]; omega
  unfold xored
  rw [List.getD_eq_getElem?_getD, List.getD_eq_getElem?_getD, List.getElem?_append_right (by omega), hlen, Nat.sub_self, List.getElem?_drop, Nat.add_zero]
theorem xored_step (l m : List Int) (k : Nat) (x y : Int) (h : l.length = m.length) (hk : k < l.length) (hx : x = l.getD k 0) (hy : y = m.getD k 0) : (xored l m k).set k (xorB x y) = xored l m (k + 1) := by
  subst hx; subst hy
  have hlen : (xorL (l.take k) (m.take k)).length = k := by simp [xorL]; omega
  unfold xored
  rw [List.set_append_right _ _ (by omega), hlen, Nat.sub_self, take_snoc_getD l k hk, take_snoc_getD m k (by omega)]
  have e : xorL (l.take k ++ [l.getD k 0]) (m.take k ++ [m.getD k 0]) = xorL (l.take k) (m.take k) ++ [xorB (l.getD k 0) (m.getD k 0)] := by
    unfold xorL
    rw [List.zipWith_append (by simp; omega)]
    rfl
  have e2 : l.drop k = l.getD k 0 :: l.drop (k + 1) := by
    rw [List.drop_eq_getElem_cons hk, List.getD_eq_getElem?_getD, List.getElem?_eq_getElem hk]; rfl
  rw [e, e2]
  simp

theorem xored_zero (l m : List Int) : xored l m 0 = l := by simp [xored, xorL]
theorem xored_all (l m : List Int) (k : Nat) (hk : k = min l.length m.length) : xored (l.take k) (m.take k) k = xorL l m := by
  unfold xored xorL
  rw [List.take_take, List.take_take, Nat.min_self, List.drop_eq_nil_of_le (by simp; omega), List.append_nil]
  have e1 : l.take k = l.take (min l.length m.length) := by rw [hk]
  have e2 : m.take k = m.take (min l.length m.length) := by rw [hk]
  rw [← List.take_zipWith, List.take_of_length_le (by simp; omega)]
theorem xorL_len (l m : List Int) : (xorL l m).length = min l.length m.length := by simp [xorL]
theorem xorL_mem (l m : List Int) (hl : ∀ x ∈ l, 0 ≤ x ∧ x < 256) (hm : ∀ x ∈ m, 0 ≤ x ∧ x < 256) : ∀ x ∈ xorL l m, 0 ≤ x ∧ x < 256 := by
  induction l generalizing m with
  | nil => simp [xorL]
  | cons a l ih =>
    cases m with
    | nil => simp [xorL]
    | cons b m =>
      intro x hx
      simp only [xorL, List.zipWith_cons_cons, List.mem_cons] at hx
      rcases hx with rfl | hx
      · exact xorB_bd a b (hl a (by simp)) (hm b (by simp))
      · exact ih m (fun y hy => hl y (List.mem_cons_of_mem _ hy)) (fun y hy => hm y (List.mem_cons_of_mem _ hy)) x hx

set_option maxHeartbeats 1000000 in
theorem xor_some (a : Option Addr) (b' off' n m c c' : Nat) (l r : List Int) (w : World) (hB : Bs w a n l) (hB' : Bs w (some ⟨b', off', none⟩) m r) (hn : n ≤ 140737488355328) (k0 : Nat) (hk0 : k0 = min n m) :
    Calls Try.prog 18 #[.slice a n c, .slice (some ⟨b', off', none⟩) m c'] w (Made (xorL l r) w) := by
  have hl := hB.1
  have hr := hB'.1
  have hk1 : k0 ≤ n := by omega
  have hk2 : k0 ≤ m := by omega
  have HK := hide hk0
  have HC : Hid (∀ i, i < k0 → w.cell? ⟨b', off' + i, none⟩ = some (.int .u8 ((r.take k0).getD i 0))) := by
    intro i hi
    obtain ⟨b, off, ha, hc⟩ := hB'.2.2 (by omega)
    simp only [Option.some.injEq, Addr.mk.injEq] at ha
    obtain ⟨rfl, rfl, _⟩ := ha
    rw [hc i (by omega), List.getD_eq_getElem?_getD, List.getD_eq_getElem?_getD, List.getElem?_take, if_pos hi]
  have HA := hide (xored_all l r k0 (by omega))
  have HL : Hid ((xorL l r).length = k0) := by show _ = _; rw [xorL_len]; omega
  have HX : Hid ((l.take k0).length = (r.take k0).length ∧ (l.take k0).length = k0) := ⟨by simp; omega, by simp; omega⟩
  clear hk0 hB'
  go_enter Try.func18, Try.ntmps18
  go_wp2_with (first | (at_make; refine wpList_make_bytes _ rfl (.tmp 11) rfl _ k0 rfl (by have := unhide HK; omega) (by omega) ?_; intro w1 hr1 hb1 hz1) | (refine wpList_copy_bytes rfl (.tmp 13) (.tmp 14) rfl w.heap.size k0 _ _ _ l (List.replicate k0 0) rfl rfl hr1 (by simp) (hB.below hb1) k0 (by omega) ?_; intro w2 hr2 hb2 hz2))
  all_goals
    have hb3 : Below w.heap.size w w2 := hb1.trans hb2
    have hr3 : Hid (Row w2 w.heap.size (xored (l.take k0) (r.take k0) 0)) := by
      have := unhide hr2
      rw [List.drop_eq_nil_of_le (by simp), List.append_nil] at this
      rw [xored_zero]
      exact this
    have hz3 : w2.heap.size = w.heap.size + 1 := by omega
    clear hr1 hb1 hz1 hr2 hb2 hz2 hB HK
    generalize l.take k0 = L at *
    generalize r.take k0 = R at *
    go_loopw [18] (fun i wr => ∃ k : Nat, k ≤ k0 ∧ i = .int .i64 k ∧ Hid (Row wr w.heap.size (xored L R k)) ∧ Below w.heap.size w wr ∧ wr.heap.size = w.heap.size + 1) (fun i _ => k0 - (intOf i).toNat)
    case atStart => exact ⟨0, Nat.zero_le _, rfl, hr3, hb3, hz3⟩
    case round =>
      obtain ⟨k, hk, rfl, hrow, hb, hz⟩ := hrel
      obtain ⟨hx1, hx2⟩ := unhide HX
      by_cases hlt : k < k0
      · have hck := (unhide hrow).cell k (by rw [xored_len L R k hx1 (by omega)]; omega)
        rw [xored_get L R k hx1 (by omega)] at hck
        have hfk := (unhide hrow).frozen k
        have hdk : wr.cell? ⟨b', off' + k, none⟩ = some (.int .u8 (R.getD k 0)) := by
          rw [hb.cell (p := ⟨b', off' + k, none⟩) (lt_of_cell (unhide HC k hlt))]; exact unhide HC k hlt
        obtain ⟨x, hx⟩ : ∃ x, x = L.getD k 0 := ⟨_, rfl⟩
        obtain ⟨y, hy⟩ : ∃ y, y = R.getD k 0 := ⟨_, rfl⟩
        have HS := hide (xored_step L R k x y hx1 (by omega) hx hy)
        rw [← hx] at hck
        rw [← hy] at hdk
        clear hx hy hx1 hx2 hr3 hb3 hz3
        go_wp2
        go_region
        go_wp2
        go_roundw
        case rel =>
          have hR : Hid (Row (wr.setCell ⟨w.heap.size, k, none⟩ (.int .u8 (bits .xor .u8 x y))) w.heap.size (xored L R (k + 1))) := by
            have := (unhide hrow).set k (xorB x y)
            rw [unhide HS] at this
            exact this
          exact ⟨k + 1, by omega, by go_num, (unhide hR).still (Still.refl _).drew, (hb.setCell (Nat.le_refl _) _).drew, by show (World.setCell wr _ _).heap.size = _; rw [← hz]; simp⟩
        case measure => simp [intOf]; omega
      · obtain rfl : k = k0 := by omega
        have hF : Made (xorL l r) w (.returned (.slice (some ⟨w.heap.size, 0, none⟩) k k)) wr := by
          have hr' := unhide hrow
          rw [unhide HA] at hr'
          exact ⟨by rw [unhide HL], hr', hb, hz⟩
        have HF := hide hF
        clear hF hrow hr3 hb3 hz3 hx1 hx2 HL HX HA HC
        go_wp2
        go_ret
        exact unhide HF

set_option maxHeartbeats 400000 in
theorem xor_zero (a a' : Option Addr) (n m c c' : Nat) (l : List Int) (w : World) (hB : Bs w a n l) (hn : n ≤ 140737488355328) (h0 : n = 0 ∨ m = 0) :
    Calls Try.prog 18 #[.slice a n c, .slice a' m c'] w (Made [] w) := by
  go_enter Try.func18, Try.ntmps18
  go_wp2_with (first | (at_make; refine wpList_make_bytes _ rfl (.tmp 11) rfl _ 0 rfl (by omega) (by omega) ?_; intro w1 hr1 hb1 hz1) | (refine wpList_copy_bytes rfl (.tmp 13) (.tmp 14) rfl w.heap.size 0 _ _ _ l (List.replicate 0 0) rfl rfl hr1 (by simp) (hB.below hb1) 0 (by omega) ?_; intro w2 hr2 hb2 hz2))
  all_goals
    refine wp_loop_rounds 1 ?_
    rw [rounds_succ]
    go_wp2
    go_ret
    exact ⟨rfl, hr2, hb1.trans hb2, by omega⟩

theorem xor_any (a a' : Option Addr) (n m c c' : Nat) (l r : List Int) (w : World) (hB : Bs w a n l) (hB' : Bs w a' m r) (hn : n ≤ 140737488355328) :
    Calls Try.prog 18 #[.slice a n c, .slice a' m c'] w (Made (xorL l r) w) := by
  rcases Nat.eq_zero_or_pos m with h | h
  · have e : xorL l r = [] := by have := hB'.1; subst h; obtain rfl := List.eq_nil_of_length_eq_zero this; simp [xorL]
    rw [e]
    exact xor_zero a a' n m c c' l w hB hn (.inr h)
  · obtain ⟨b, off, rfl, _⟩ := hB'.2.2 h
    exact xor_some a b off n m c c' l r w hB hB' hn _ rfl
end Go.Proofs.Ytcbdjijkliknoaa
