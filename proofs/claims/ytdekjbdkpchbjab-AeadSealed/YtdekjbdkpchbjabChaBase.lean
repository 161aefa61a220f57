/-
  Words of 32 bits, turns, sums; cells of words and bytes; rows that are filled from the left.
-/
import Derived.Test.YtdekjbdkpchbjabMade
import Derived.Test.YtdekjbdkpchbjabMake5
import Derived.WalkMore
import Derived.Deep.Cut
import Derived.StillTailTactics
namespace Go.Proofs.Ytdekjbdkpchbjab
open Go.RowKit
set_option maxRecDepth 100000
set_option linter.unusedSimpArgs false
set_option linter.unusedVariables false

theorem Bl.cell {w v : World} {L : List Blk} (h : Bl w L v) (k : Nat) {x : Blk} (hk : L[k]? = some x) (i : Nat) (y : Value) : Bl w (L.set k ⟨x.g, x.c.setIfInBounds i y, x.t⟩) (v.setCell ⟨x.g, i, none⟩ y) := by
  have hx := h.get k hk
  have hn : ∀ j y, L[j]? = some y → j ≠ k → y.g ≠ x.g := by
    intro j y hj hji
    obtain ⟨hjl, rfl⟩ := List.getElem?_eq_some_iff.1 hj
    obtain ⟨hil, rfl⟩ := List.getElem?_eq_some_iff.1 hk
    rcases Nat.lt_or_gt_of_ne hji with hlt | hlt
    · exact List.pairwise_iff_getElem.1 h.ne j k hjl hil hlt
    · exact (List.pairwise_iff_getElem.1 h.ne k j hil hjl hlt).symm
  refine ⟨h.gr.setCell (h.own k hk) y, ?_, ?_⟩
  · intro z hz
    obtain ⟨j, hj⟩ := List.mem_iff_getElem?.1 hz
    by_cases hji : j = k
    · subst hji
      rw [List.getElem?_set_self', hk] at hj
      simp at hj
      have ho := h.own j hk
      subst hj
      exact ⟨heap_setCell_same _ _ _ _ _ _ hx, ho⟩
    · rw [List.getElem?_set_ne (fun e => hji e.symm)] at hj
      exact ⟨(Below.heap_setCell v ⟨x.g, i, none⟩ y z.g (hn j z hj hji)).trans (h.get j hj), h.own j hj⟩
  · refine List.pairwise_iff_getElem.2 fun a b ha hb hab => ?_
    rw [List.length_set] at ha hb
    have h0 := List.pairwise_iff_getElem.1 h.ne a b ha hb hab
    obtain ⟨hil, rfl⟩ := List.getElem?_eq_some_iff.1 hk
    rw [List.getElem_set, List.getElem_set]
    split
    · rename_i e
      subst e
      split
      · omega
      · exact h0
    · split
      · rename_i e
        subst e
        exact h0
      · exact h0

/-- cells of words, of bytes -/
def uc (l : List Int) : Array Value := (l.map (Value.int .u32)).toArray
theorem uc_size (l : List Int) : (uc l).size = l.length := by simp [uc]
theorem uc_one (l : List Int) : (uc l).all (·.oneCell') = true := by unfold uc; simp [Value.oneCell']
theorem uc_set (l : List Int) (i : Nat) (x : Int) : (uc l).setIfInBounds i (.int .u32 x) = uc (l.set i x) := by
  unfold uc
  rw [List.setIfInBounds_toArray, List.map_set]
theorem uc_get (l : List Int) (i : Nat) (hi : i < l.length) : (uc l)[i]? = some (.int .u32 (l.getD i 0)) := by
  unfold uc
  simp [hi]
theorem uc_cell {v : World} {g : Nat} {l : List Int} {t : TypeId} (h : v.heap[g]? = some (.cells (uc l) t (0, 0))) (i : Nat) (hi : i < l.length) : v.cell? ⟨g, i, none⟩ = some (.int .u32 (l.getD i 0)) := cell_of h (uc_get l i hi)
def kc (l : List Int) : Array Value := (l.map (Value.int .u8)).toArray
theorem kc_size (l : List Int) : (kc l).size = l.length := by simp [kc]
theorem kc_one (l : List Int) : (kc l).all (·.oneCell') = true := by unfold kc; simp [Value.oneCell']
theorem kc_set (l : List Int) (i : Nat) (x : Int) : (kc l).setIfInBounds i (.int .u8 x) = kc (l.set i x) := by
  unfold kc
  rw [List.setIfInBounds_toArray, List.map_set]
theorem kc_get (l : List Int) (i : Nat) (hi : i < l.length) : (kc l)[i]? = some (.int .u8 (l.getD i 0)) := by
  unfold kc
  simp [hi]
theorem kc_cell {v : World} {g : Nat} {l : List Int} {t : TypeId} (h : v.heap[g]? = some (.cells (kc l) t (0, 0))) (i : Nat) (hi : i < l.length) : v.cell? ⟨g, i, none⟩ = some (.int .u8 (l.getD i 0)) := cell_of h (kc_get l i hi)
theorem getD_set (l : List Int) (i j : Nat) (x : Int) (hi : i < l.length) : (l.set i x).getD j 0 = if j = i then x else l.getD j 0 := by
  by_cases h : j = i
  · subst h
    simp [hi]
  · rw [if_neg h]
    simp [List.getElem?_set_ne (fun e => h e.symm)]


/-- words of 32 bits -/
def W32 (x : Int) : Prop := 0 ≤ x ∧ x < 4294967296
def xr (a b : Int) : Int := bits .xor .u32 a b
def ad (a b : Int) : Int := IntKind.u32.wrap (a + b)
theorem ad_eq (a b : Int) : ad a b = (a + b) % 4294967296 := by unfold ad; rw [IntKind.wrap_u32]
/-- a left turn, a right turn -/
def lt (x : Int) (n : Nat) : Int := bits .or .u32 (IntKind.u32.wrap (x * 2 ^ n)) (x / 2 ^ (32 - n))
def tn (x : Int) (n : Nat) : Int := bits .or .u32 (x / 2 ^ n) (IntKind.u32.wrap (x * 2 ^ (32 - n)))
theorem w32_bits (op : BinOp) (a b : Int) : W32 (bits op .u32 a b) := by
  unfold W32 bits
  simp only [IntKind.wrap_u32]
  omega
theorem w32_ad (a b : Int) : W32 (ad a b) := by
  unfold W32
  rw [ad_eq]
  omega
theorem w32_xr (a b : Int) : W32 (xr a b) := w32_bits _ _ _
theorem w32_lt (a : Int) (n : Nat) : W32 (lt a n) := w32_bits _ _ _
theorem w32_tn (a : Int) (n : Nat) : W32 (tn a n) := w32_bits _ _ _
theorem u32_or_nat (a b : Nat) (ha : a < 4294967296) (hb : b < 4294967296) : bits .or .u32 (a : Int) (b : Int) = ((a ||| b : Nat) : Int) := by
  have hx : a ||| b < 2 ^ 32 := Nat.or_lt_two_pow (by omega) (by omega)
  have h1 : (BitVec.ofInt 32 (a : Int)).toNat = a := by
    rw [BitVec.ofInt_natCast, BitVec.toNat_ofNat]; exact Nat.mod_eq_of_lt (by omega)
  have h2 : (BitVec.ofInt 32 (b : Int)).toNat = b := by
    rw [BitVec.ofInt_natCast, BitVec.toNat_ofNat]; exact Nat.mod_eq_of_lt (by omega)
  show IntKind.u32.wrap ((BitVec.ofInt 32 (a : Int) ||| BitVec.ofInt 32 (b : Int)).toNat : Int) = _
  rw [BitVec.toNat_or, h1, h2, IntKind.wrap_u32]
  omega
theorem u32_xor_nat (a b : Nat) (ha : a < 4294967296) (hb : b < 4294967296) : bits .xor .u32 (a : Int) (b : Int) = ((a ^^^ b : Nat) : Int) := by
  have hx : a ^^^ b < 2 ^ 32 := Nat.xor_lt_two_pow (by omega) (by omega)
  have h1 : (BitVec.ofInt 32 (a : Int)).toNat = a := by
    rw [BitVec.ofInt_natCast, BitVec.toNat_ofNat]; exact Nat.mod_eq_of_lt (by omega)
  have h2 : (BitVec.ofInt 32 (b : Int)).toNat = b := by
    rw [BitVec.ofInt_natCast, BitVec.toNat_ofNat]; exact Nat.mod_eq_of_lt (by omega)
  show IntKind.u32.wrap ((BitVec.ofInt 32 (a : Int) ^^^ BitVec.ofInt 32 (b : Int)).toNat : Int) = _
  rw [BitVec.toNat_xor, h1, h2, IntKind.wrap_u32]
  omega
theorem u8_xor_nat (a b : Nat) (ha : a < 256) (hb : b < 256) : bits .xor .u8 (a : Int) (b : Int) = ((a ^^^ b : Nat) : Int) := by
  have hx : a ^^^ b < 2 ^ 8 := Nat.xor_lt_two_pow (by omega) (by omega)
  have h1 : (BitVec.ofInt 8 (a : Int)).toNat = a := by
    rw [BitVec.ofInt_natCast, BitVec.toNat_ofNat]; exact Nat.mod_eq_of_lt (by omega)
  have h2 : (BitVec.ofInt 8 (b : Int)).toNat = b := by
    rw [BitVec.ofInt_natCast, BitVec.toNat_ofNat]; exact Nat.mod_eq_of_lt (by omega)
  show IntKind.u8.wrap ((BitVec.ofInt 8 (a : Int) ^^^ BitVec.ofInt 8 (b : Int)).toNat : Int) = _
  rw [BitVec.toNat_xor, h1, h2, IntKind.wrap_u8]
  omega
/-- two words that have no bit in common -/
theorem or_apart (h l m : Nat) (n : Nat) (hl : l < 2 ^ n) (hm : h * 2 ^ n = m) (hb : m < 4294967296) (hc : l < 4294967296) : bits .or .u32 (m : Int) (l : Int) = (m : Int) + (l : Int) := by
  rw [u32_or_nat m l hb hc]
  have e := Nat.shiftLeft_add_eq_or_of_lt hl h
  rw [Nat.shiftLeft_eq, hm] at e
  omega
theorem or_comm32 (a b : Int) : bits .or .u32 a b = bits .or .u32 b a := by
  unfold bits
  simp only [BitVec.or_comm]
theorem xr_twice (x y : Int) (hx : W32 x) (hy : W32 y) : xr (xr x y) y = x := by
  obtain ⟨X, rfl⟩ := Int.eq_ofNat_of_zero_le hx.1
  obtain ⟨Y, rfl⟩ := Int.eq_ofNat_of_zero_le hy.1
  have h1 := hx.2
  have h2 := hy.2
  have hl : X ^^^ Y < 2 ^ 32 := Nat.xor_lt_two_pow (by omega) (by omega)
  unfold xr
  rw [u32_xor_nat X Y (by omega) (by omega), u32_xor_nat (X ^^^ Y) Y (by omega) (by omega), Nat.xor_assoc, Nat.xor_self, Nat.xor_zero]
/-- bytes xored -/
def xb (a b : Int) : Int := bits .xor .u8 a b
theorem xb_rng (a b : Int) : 0 ≤ xb a b ∧ xb a b < 256 := by
  unfold xb bits
  simp only [IntKind.wrap_u8]
  omega
theorem xb_twice (x y : Int) (hx : 0 ≤ x ∧ x < 256) (hy : 0 ≤ y ∧ y < 256) : xb (xb x y) y = x := by
  obtain ⟨X, rfl⟩ := Int.eq_ofNat_of_zero_le hx.1
  obtain ⟨Y, rfl⟩ := Int.eq_ofNat_of_zero_le hy.1
  have hl : X ^^^ Y < 2 ^ 8 := Nat.xor_lt_two_pow (by omega) (by omega)
  unfold xb
  rw [u8_xor_nat X Y (by omega) (by omega), u8_xor_nat (X ^^^ Y) Y (by omega) (by omega), Nat.xor_assoc, Nat.xor_self, Nat.xor_zero]
theorem xb_zero (x : Int) (hx : 0 ≤ x ∧ x < 256) : xb 0 x = x := by
  obtain ⟨X, rfl⟩ := Int.eq_ofNat_of_zero_le hx.1
  unfold xb
  have h := u8_xor_nat 0 X (by omega) (by omega)
  rw [Nat.zero_xor] at h
  exact h
theorem or_zero (x : Int) (hx : W32 x) : bits .or .u32 0 x = x := by
  obtain ⟨X, rfl⟩ := Int.eq_ofNat_of_zero_le hx.1
  have h1 := hx.2
  have h := u32_or_nat 0 X (by omega) (by omega)
  rw [Nat.zero_or] at h
  exact h
theorem lt_16 (h l : Int) (hh : 0 ≤ h ∧ h < 65536) (hl : 0 ≤ l ∧ l < 65536) : lt (h * 65536 + l) 16 = l * 65536 + h := by
  obtain ⟨H, rfl⟩ := Int.eq_ofNat_of_zero_le hh.1
  obtain ⟨L, rfl⟩ := Int.eq_ofNat_of_zero_le hl.1
  have e := or_apart L H (L * 65536) 16 (by omega) rfl (by omega) (by omega)
  have e1 : IntKind.u32.wrap ((H * 65536 + L : Int) * 2 ^ 16) = ((L * 65536 : Nat) : Int) := by
    rw [IntKind.wrap_u32]
    omega
  have e2 : (H * 65536 + L : Int) / 2 ^ (32 - 16) = (H : Int) := by omega
  unfold lt
  rw [e1, e2, e]
  omega
theorem tn_16 (h l : Int) (hh : 0 ≤ h ∧ h < 65536) (hl : 0 ≤ l ∧ l < 65536) : tn (l * 65536 + h) 16 = h * 65536 + l := by
  obtain ⟨H, rfl⟩ := Int.eq_ofNat_of_zero_le hh.1
  obtain ⟨L, rfl⟩ := Int.eq_ofNat_of_zero_le hl.1
  have e := or_apart H L (H * 65536) 16 (by omega) rfl (by omega) (by omega)
  have e1 : IntKind.u32.wrap ((L * 65536 + H : Int) * 2 ^ (32 - 16)) = ((H * 65536 : Nat) : Int) := by
    rw [IntKind.wrap_u32]
    omega
  have e2 : (L * 65536 + H : Int) / 2 ^ 16 = (L : Int) := by omega
  unfold tn
  rw [e1, e2, or_comm32, e]
  omega
theorem tn_lt_16 (x : Int) (hx : W32 x) : tn (lt x 16) 16 = x := by
  have h1 := hx.1
  have h2 := hx.2
  obtain ⟨h, l, rfl, hh, hl⟩ : ∃ h l : Int, x = h * 65536 + l ∧ (0 ≤ h ∧ h < 65536) ∧ 0 ≤ l ∧ l < 65536 := ⟨x / 65536, x % 65536, by omega, by omega, by omega⟩
  rw [lt_16 h l hh hl, tn_16 h l hh hl]
theorem lt_tn_16 (x : Int) (hx : W32 x) : lt (tn x 16) 16 = x := by
  have h1 := hx.1
  have h2 := hx.2
  obtain ⟨h, l, rfl, hh, hl⟩ : ∃ h l : Int, x = l * 65536 + h ∧ (0 ≤ h ∧ h < 65536) ∧ 0 ≤ l ∧ l < 65536 := ⟨x % 65536, x / 65536, by omega, by omega, by omega⟩
  rw [tn_16 h l hh hl, lt_16 h l hh hl]
theorem lt_12 (h l : Int) (hh : 0 ≤ h ∧ h < 4096) (hl : 0 ≤ l ∧ l < 1048576) : lt (h * 1048576 + l) 12 = l * 4096 + h := by
  obtain ⟨H, rfl⟩ := Int.eq_ofNat_of_zero_le hh.1
  obtain ⟨L, rfl⟩ := Int.eq_ofNat_of_zero_le hl.1
  have e := or_apart L H (L * 4096) 12 (by omega) rfl (by omega) (by omega)
  have e1 : IntKind.u32.wrap ((H * 1048576 + L : Int) * 2 ^ 12) = ((L * 4096 : Nat) : Int) := by
    rw [IntKind.wrap_u32]
    omega
  have e2 : (H * 1048576 + L : Int) / 2 ^ (32 - 12) = (H : Int) := by omega
  unfold lt
  rw [e1, e2, e]
  omega
theorem tn_12 (h l : Int) (hh : 0 ≤ h ∧ h < 4096) (hl : 0 ≤ l ∧ l < 1048576) : tn (l * 4096 + h) 12 = h * 1048576 + l := by
  obtain ⟨H, rfl⟩ := Int.eq_ofNat_of_zero_le hh.1
  obtain ⟨L, rfl⟩ := Int.eq_ofNat_of_zero_le hl.1
  have e := or_apart H L (H * 1048576) 20 (by omega) rfl (by omega) (by omega)
  have e1 : IntKind.u32.wrap ((L * 4096 + H : Int) * 2 ^ (32 - 12)) = ((H * 1048576 : Nat) : Int) := by
    rw [IntKind.wrap_u32]
    omega
  have e2 : (L * 4096 + H : Int) / 2 ^ 12 = (L : Int) := by omega
  unfold tn
  rw [e1, e2, or_comm32, e]
  omega
theorem tn_lt_12 (x : Int) (hx : W32 x) : tn (lt x 12) 12 = x := by
  have h1 := hx.1
  have h2 := hx.2
  obtain ⟨h, l, rfl, hh, hl⟩ : ∃ h l : Int, x = h * 1048576 + l ∧ (0 ≤ h ∧ h < 4096) ∧ 0 ≤ l ∧ l < 1048576 := ⟨x / 1048576, x % 1048576, by omega, by omega, by omega⟩
  rw [lt_12 h l hh hl, tn_12 h l hh hl]
theorem lt_tn_12 (x : Int) (hx : W32 x) : lt (tn x 12) 12 = x := by
  have h1 := hx.1
  have h2 := hx.2
  obtain ⟨h, l, rfl, hh, hl⟩ : ∃ h l : Int, x = l * 4096 + h ∧ (0 ≤ h ∧ h < 4096) ∧ 0 ≤ l ∧ l < 1048576 := ⟨x % 4096, x / 4096, by omega, by omega, by omega⟩
  rw [tn_12 h l hh hl, lt_12 h l hh hl]
theorem lt_8 (h l : Int) (hh : 0 ≤ h ∧ h < 256) (hl : 0 ≤ l ∧ l < 16777216) : lt (h * 16777216 + l) 8 = l * 256 + h := by
  obtain ⟨H, rfl⟩ := Int.eq_ofNat_of_zero_le hh.1
  obtain ⟨L, rfl⟩ := Int.eq_ofNat_of_zero_le hl.1
  have e := or_apart L H (L * 256) 8 (by omega) rfl (by omega) (by omega)
  have e1 : IntKind.u32.wrap ((H * 16777216 + L : Int) * 2 ^ 8) = ((L * 256 : Nat) : Int) := by
    rw [IntKind.wrap_u32]
    omega
  have e2 : (H * 16777216 + L : Int) / 2 ^ (32 - 8) = (H : Int) := by omega
  unfold lt
  rw [e1, e2, e]
  omega
theorem tn_8 (h l : Int) (hh : 0 ≤ h ∧ h < 256) (hl : 0 ≤ l ∧ l < 16777216) : tn (l * 256 + h) 8 = h * 16777216 + l := by
  obtain ⟨H, rfl⟩ := Int.eq_ofNat_of_zero_le hh.1
  obtain ⟨L, rfl⟩ := Int.eq_ofNat_of_zero_le hl.1
  have e := or_apart H L (H * 16777216) 24 (by omega) rfl (by omega) (by omega)
  have e1 : IntKind.u32.wrap ((L * 256 + H : Int) * 2 ^ (32 - 8)) = ((H * 16777216 : Nat) : Int) := by
    rw [IntKind.wrap_u32]
    omega
  have e2 : (L * 256 + H : Int) / 2 ^ 8 = (L : Int) := by omega
  unfold tn
  rw [e1, e2, or_comm32, e]
  omega
theorem tn_lt_8 (x : Int) (hx : W32 x) : tn (lt x 8) 8 = x := by
  have h1 := hx.1
  have h2 := hx.2
  obtain ⟨h, l, rfl, hh, hl⟩ : ∃ h l : Int, x = h * 16777216 + l ∧ (0 ≤ h ∧ h < 256) ∧ 0 ≤ l ∧ l < 16777216 := ⟨x / 16777216, x % 16777216, by omega, by omega, by omega⟩
  rw [lt_8 h l hh hl, tn_8 h l hh hl]
theorem lt_tn_8 (x : Int) (hx : W32 x) : lt (tn x 8) 8 = x := by
  have h1 := hx.1
  have h2 := hx.2
  obtain ⟨h, l, rfl, hh, hl⟩ : ∃ h l : Int, x = l * 256 + h ∧ (0 ≤ h ∧ h < 256) ∧ 0 ≤ l ∧ l < 16777216 := ⟨x % 256, x / 256, by omega, by omega, by omega⟩
  rw [tn_8 h l hh hl, lt_8 h l hh hl]
theorem lt_7 (h l : Int) (hh : 0 ≤ h ∧ h < 128) (hl : 0 ≤ l ∧ l < 33554432) : lt (h * 33554432 + l) 7 = l * 128 + h := by
  obtain ⟨H, rfl⟩ := Int.eq_ofNat_of_zero_le hh.1
  obtain ⟨L, rfl⟩ := Int.eq_ofNat_of_zero_le hl.1
  have e := or_apart L H (L * 128) 7 (by omega) rfl (by omega) (by omega)
  have e1 : IntKind.u32.wrap ((H * 33554432 + L : Int) * 2 ^ 7) = ((L * 128 : Nat) : Int) := by
    rw [IntKind.wrap_u32]
    omega
  have e2 : (H * 33554432 + L : Int) / 2 ^ (32 - 7) = (H : Int) := by omega
  unfold lt
  rw [e1, e2, e]
  omega
theorem tn_7 (h l : Int) (hh : 0 ≤ h ∧ h < 128) (hl : 0 ≤ l ∧ l < 33554432) : tn (l * 128 + h) 7 = h * 33554432 + l := by
  obtain ⟨H, rfl⟩ := Int.eq_ofNat_of_zero_le hh.1
  obtain ⟨L, rfl⟩ := Int.eq_ofNat_of_zero_le hl.1
  have e := or_apart H L (H * 33554432) 25 (by omega) rfl (by omega) (by omega)
  have e1 : IntKind.u32.wrap ((L * 128 + H : Int) * 2 ^ (32 - 7)) = ((H * 33554432 : Nat) : Int) := by
    rw [IntKind.wrap_u32]
    omega
  have e2 : (L * 128 + H : Int) / 2 ^ 7 = (L : Int) := by omega
  unfold tn
  rw [e1, e2, or_comm32, e]
  omega
theorem tn_lt_7 (x : Int) (hx : W32 x) : tn (lt x 7) 7 = x := by
  have h1 := hx.1
  have h2 := hx.2
  obtain ⟨h, l, rfl, hh, hl⟩ : ∃ h l : Int, x = h * 33554432 + l ∧ (0 ≤ h ∧ h < 128) ∧ 0 ≤ l ∧ l < 33554432 := ⟨x / 33554432, x % 33554432, by omega, by omega, by omega⟩
  rw [lt_7 h l hh hl, tn_7 h l hh hl]
theorem lt_tn_7 (x : Int) (hx : W32 x) : lt (tn x 7) 7 = x := by
  have h1 := hx.1
  have h2 := hx.2
  obtain ⟨h, l, rfl, hh, hl⟩ : ∃ h l : Int, x = l * 128 + h ∧ (0 ≤ h ∧ h < 128) ∧ 0 ≤ l ∧ l < 33554432 := ⟨x % 128, x / 128, by omega, by omega, by omega⟩
  rw [tn_7 h l hh hl, lt_7 h l hh hl]
theorem back_ad (a b : Int) (ha : W32 a) : IntKind.u32.wrap (ad a b - b) = a := by
  have := ha.1
  have := ha.2
  rw [ad_eq, IntKind.wrap_u32]
  omega
theorem ad_back (a b : Int) (ha : W32 a) : ad (IntKind.u32.wrap (a - b)) b = a := by
  have := ha.1
  have := ha.2
  rw [ad_eq, IntKind.wrap_u32]
  omega
/-- a row whose first n entries are f's -/
def fil (f : Nat → Int) (n : Nat) (l : List Int) : List Int := (List.range n).map f ++ l.drop n
theorem fil_zero (f : Nat → Int) (l : List Int) : fil f 0 l = l := by simp [fil]
theorem fil_len (f : Nat → Int) (n : Nat) (l : List Int) (h : n ≤ l.length) : (fil f n l).length = l.length := by
  simp [fil]
  omega
theorem fil_set (f : Nat → Int) (n : Nat) (l : List Int) (h : n < l.length) : (fil f n l).set n (f n) = fil f (n + 1) l := by
  unfold fil
  rw [List.set_append_right _ _ (by simp), List.range_succ, List.map_append, List.append_assoc]
  congr 1
  simp only [List.length_map, List.length_range, Nat.sub_self, List.map_cons, List.map_nil, List.cons_append, List.nil_append]
  rw [List.drop_eq_getElem_cons h, List.set_cons_zero]
theorem fil_all (f : Nat → Int) (l : List Int) : fil f l.length l = (List.range l.length).map f := by simp [fil]
theorem fil_hi (f : Nat → Int) (n j : Nat) (l : List Int) (h : n ≤ j) (hl : n ≤ l.length) : (fil f n l).getD j 0 = l.getD j 0 := by
  unfold fil
  rw [List.getD_eq_getElem?_getD, List.getElem?_append_right (by simp; omega)]
  simp only [List.length_map, List.length_range, List.getElem?_drop]
  rw [List.getD_eq_getElem?_getD]
  congr 2
  omega
theorem fil_lo (f : Nat → Int) (n j : Nat) (l : List Int) (h : j < n) : (fil f n l).getD j 0 = f j := by
  unfold fil
  rw [List.getD_eq_getElem?_getD, List.getElem?_append_left (by simp; omega)]
  simp [h]

/-- four words -/
structure Q4 where
  (a b c d : Int)
/-- the quarter -/
def quar (a b c d : Int) : Q4 :=
  let a1 := ad a b
  let d1 := lt (xr d a1) 16
  let c1 := ad c d1
  let b1 := lt (xr b c1) 12
  let a2 := ad a1 b1
  let d2 := lt (xr d1 a2) 8
  let c2 := ad c1 d2
  let b2 := lt (xr b1 c2) 7
  ⟨a2, b2, c2, d2⟩
end Go.Proofs.Ytdekjbdkpchbjab
