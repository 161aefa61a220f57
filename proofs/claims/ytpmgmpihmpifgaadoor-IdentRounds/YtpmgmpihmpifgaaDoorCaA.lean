/-
  Words of 32 bits, turns, sums; cells of words and bytes; rows that are filled from the left. A region that draws its order: a condition that is held until one operation comes up, and is dropped behind it (loads ahead of a call, stores behind it). A left turn and the quarter of four words, by the program. The quarter of the words at four places, by the closure of the rounds. Twenty rounds; the words added; their bytes.
-/
import Derived.Test.YtpmgmpihmpifgaaDoorFloat
import Derived.WalkMore
import Derived.Deep.Cut
import Derived.StillTailTactics
namespace Go.Proofs.YtpmgmpihmpifgaaDoor
open Go.RowKit
set_option maxRecDepth 100000
set_option linter.unusedSimpArgs false
set_option linter.unusedVariables false

/-- words of 32 bits -/
def W32 (x : Int) : Prop := 0 ≤ x ∧ x < 4294967296
/-- a left turn, a right turn -/
def lt (x : Int) (n : Nat) : Int := bits .or .u32 (IntKind.u32.wrap (x * 2 ^ n)) (x / 2 ^ (32 - n))
theorem w32_bits (op : BinOp) (a b : Int) : W32 (bits op .u32 a b) := by
  unfold W32 bits
  simp only [IntKind.wrap_u32]
  omega
theorem w32_ad (a b : Int) : W32 (ad a b) := by
  unfold W32
  rw [ad_eq]
  omega
theorem w32_xr (a b : Int) : W32 (xr a b) := w32_bits _ _ _
theorem w32_lt (a : Int) (n : Nat) : W32 (lt a n) := w32_bits _ _ _
theorem w32_tn (a : Int) (n : Nat) : W32 (tn a n) := w32_bits _ _ _
theorem u32_or_nat (a b : Nat) (ha : a < 4294967296) (hb : b < 4294967296) : bits .or .u32 (a : Int) (b : Int) = ((a ||| b : Nat) : Int) := by
  have hx : a ||| b < 2 ^ 32 := Nat.or_lt_two_pow (by omega) (by omega)
  have h1 : (BitVec.ofInt 32 (a : Int)).toNat = a := by
    rw [BitVec.ofInt_natCast, BitVec.toNat_ofNat]; exact Nat.mod_eq_of_lt (by omega)
  have h2 : (BitVec.ofInt 32 (b : Int)).toNat = b := by
    rw [BitVec.ofInt_natCast, BitVec.toNat_ofNat]; exact Nat.mod_eq_of_lt (by omega)
  show IntKind.u32.wrap ((BitVec.ofInt 32 (a : Int) ||| BitVec.ofInt 32 (b : Int)).toNat : Int) = _
  rw [BitVec.toNat_or, h1, h2, IntKind.wrap_u32]
  omega
theorem u32_xor_nat (a b : Nat) (ha : a < 4294967296) (hb : b < 4294967296) : bits .xor .u32 (a : Int) (b : Int) = ((a ^^^ b : Nat) : Int) := by
  have hx : a ^^^ b < 2 ^ 32 := Nat.xor_lt_two_pow (by omega) (by omega)
  have h1 : (BitVec.ofInt 32 (a : Int)).toNat = a := by
    rw [BitVec.ofInt_natCast, BitVec.toNat_ofNat]; exact Nat.mod_eq_of_lt (by omega)
  have h2 : (BitVec.ofInt 32 (b : Int)).toNat = b := by
    rw [BitVec.ofInt_natCast, BitVec.toNat_ofNat]; exact Nat.mod_eq_of_lt (by omega)
  show IntKind.u32.wrap ((BitVec.ofInt 32 (a : Int) ^^^ BitVec.ofInt 32 (b : Int)).toNat : Int) = _
  rw [BitVec.toNat_xor, h1, h2, IntKind.wrap_u32]
  omega
theorem u8_xor_nat (a b : Nat) (ha : a < 256) (hb : b < 256) : bits .xor .u8 (a : Int) (b : Int) = ((a ^^^ b : Nat) : Int) := by
  have hx : a ^^^ b < 2 ^ 8 := Nat.xor_lt_two_pow (by omega) (by omega)
  have h1 : (BitVec.ofInt 8 (a : Int)).toNat = a := by
    rw [BitVec.ofInt_natCast, BitVec.toNat_ofNat]; exact Nat.mod_eq_of_lt (by omega)
  have h2 : (BitVec.ofInt 8 (b : Int)).toNat = b := by
    rw [BitVec.ofInt_natCast, BitVec.toNat_ofNat]; exact Nat.mod_eq_of_lt (by omega)
  show IntKind.u8.wrap ((BitVec.ofInt 8 (a : Int) ^^^ BitVec.ofInt 8 (b : Int)).toNat : Int) = _
  rw [BitVec.toNat_xor, h1, h2, IntKind.wrap_u8]
  omega
/-- two words that have no bit in common -/
theorem or_apart (h l m : Nat) (n : Nat) (hl : l < 2 ^ n) (hm : h * 2 ^ n = m) (hb : m < 4294967296) (hc : l < 4294967296) : bits .or .u32 (m : Int) (l : Int) = (m : Int) + (l : Int) := by
  rw [u32_or_nat m l hb hc]
  have e := Nat.shiftLeft_add_eq_or_of_lt hl h
  rw [Nat.shiftLeft_eq, hm] at e
  omega
theorem or_comm32 (a b : Int) : bits .or .u32 a b = bits .or .u32 b a := by
  unfold bits
  simp only [BitVec.or_comm]
theorem xr_twice (x y : Int) (hx : W32 x) (hy : W32 y) : xr (xr x y) y = x := by
  obtain ⟨X, rfl⟩ := Int.eq_ofNat_of_zero_le hx.1
  obtain ⟨Y, rfl⟩ := Int.eq_ofNat_of_zero_le hy.1
  have h1 := hx.2
  have h2 := hy.2
  have hl : X ^^^ Y < 2 ^ 32 := Nat.xor_lt_two_pow (by omega) (by omega)
  unfold xr
  rw [u32_xor_nat X Y (by omega) (by omega), u32_xor_nat (X ^^^ Y) Y (by omega) (by omega), Nat.xor_assoc, Nat.xor_self, Nat.xor_zero]
/-- bytes xored -/
def xb (a b : Int) : Int := bits .xor .u8 a b
theorem xb_rng (a b : Int) : 0 ≤ xb a b ∧ xb a b < 256 := by
  unfold xb bits
  simp only [IntKind.wrap_u8]
  omega
theorem xb_twice (x y : Int) (hx : 0 ≤ x ∧ x < 256) (hy : 0 ≤ y ∧ y < 256) : xb (xb x y) y = x := by
  obtain ⟨X, rfl⟩ := Int.eq_ofNat_of_zero_le hx.1
  obtain ⟨Y, rfl⟩ := Int.eq_ofNat_of_zero_le hy.1
  have hl : X ^^^ Y < 2 ^ 8 := Nat.xor_lt_two_pow (by omega) (by omega)
  unfold xb
  rw [u8_xor_nat X Y (by omega) (by omega), u8_xor_nat (X ^^^ Y) Y (by omega) (by omega), Nat.xor_assoc, Nat.xor_self, Nat.xor_zero]
theorem xb_zero (x : Int) (hx : 0 ≤ x ∧ x < 256) : xb 0 x = x := by
  obtain ⟨X, rfl⟩ := Int.eq_ofNat_of_zero_le hx.1
  unfold xb
  have h := u8_xor_nat 0 X (by omega) (by omega)
  rw [Nat.zero_xor] at h
  exact h
theorem or_zero (x : Int) (hx : W32 x) : bits .or .u32 0 x = x := by
  obtain ⟨X, rfl⟩ := Int.eq_ofNat_of_zero_le hx.1
  have h1 := hx.2
  have h := u32_or_nat 0 X (by omega) (by omega)
  rw [Nat.zero_or] at h
  exact h
theorem lt_16 (h l : Int) (hh : 0 ≤ h ∧ h < 65536) (hl : 0 ≤ l ∧ l < 65536) : lt (h * 65536 + l) 16 = l * 65536 + h := by
  obtain ⟨H, rfl⟩ := Int.eq_ofNat_of_zero_le hh.1
  obtain ⟨L, rfl⟩ := Int.eq_ofNat_of_zero_le hl.1
  have e := or_apart L H (L * 65536) 16 (by omega) rfl (by omega) (by omega)
  have e1 : IntKind.u32.wrap ((H * 65536 + L : Int) * 2 ^ 16) = ((L * 65536 : Nat) : Int) := by
    rw [IntKind.wrap_u32]
    omega
  have e2 : (H * 65536 + L : Int) / 2 ^ (32 - 16) = (H : Int) := by omega
  unfold lt
  rw [e1, e2, e]
  omega
theorem tn_16 (h l : Int) (hh : 0 ≤ h ∧ h < 65536) (hl : 0 ≤ l ∧ l < 65536) : tn (l * 65536 + h) 16 = h * 65536 + l := by
  obtain ⟨H, rfl⟩ := Int.eq_ofNat_of_zero_le hh.1
  obtain ⟨L, rfl⟩ := Int.eq_ofNat_of_zero_le hl.1
  have e := or_apart H L (H * 65536) 16 (by omega) rfl (by omega) (by omega)
  have e1 : IntKind.u32.wrap ((L * 65536 + H : Int) * 2 ^ (32 - 16)) = ((H * 65536 : Nat) : Int) := by
    rw [IntKind.wrap_u32]
    omega
  have e2 : (L * 65536 + H : Int) / 2 ^ 16 = (L : Int) := by omega
  unfold tn
  rw [e1, e2, or_comm32, e]
  omega
theorem tn_lt_16 (x : Int) (hx : W32 x) : tn (lt x 16) 16 = x := by
  have h1 := hx.1
  have h2 := hx.2
  obtain ⟨h, l, rfl, hh, hl⟩ : ∃ h l : Int, x = h * 65536 + l ∧ (0 ≤ h ∧ h < 65536) ∧ 0 ≤ l ∧ l < 65536 := ⟨x / 65536, x % 65536, by omega, by omega, by omega⟩
  rw [lt_16 h l hh hl, tn_16 h l hh hl]
theorem lt_tn_16 (x : Int) (hx : W32 x) : lt (tn x 16) 16 = x := by
  have h1 := hx.1
  have h2 := hx.2
  obtain ⟨h, l, rfl, hh, hl⟩ : ∃ h l : Int, x = l * 65536 + h ∧ (0 ≤ h ∧ h < 65536) ∧ 0 ≤ l ∧ l < 65536 := ⟨x % 65536, x / 65536, by omega, by omega, by omega⟩
  rw [tn_16 h l hh hl, lt_16 h l hh hl]
theorem lt_12 (h l : Int) (hh : 0 ≤ h ∧ h < 4096) (hl : 0 ≤ l ∧ l < 1048576) : lt (h * 1048576 + l) 12 = l * 4096 + h := by
  obtain ⟨H, rfl⟩ := Int.eq_ofNat_of_zero_le hh.1
  obtain ⟨L, rfl⟩ := Int.eq_ofNat_of_zero_le hl.1
  have e := or_apart L H (L * 4096) 12 (by omega) rfl (by omega) (by omega)
  have e1 : IntKind.u32.wrap ((H * 1048576 + L : Int) * 2 ^ 12) = ((L * 4096 : Nat) : Int) := by
    rw [IntKind.wrap_u32]
    omega
  have e2 : (H * 1048576 + L : Int) / 2 ^ (32 - 12) = (H : Int) := by omega
  unfold lt
  rw [e1, e2, e]
  omega
theorem tn_12 (h l : Int) (hh : 0 ≤ h ∧ h < 4096) (hl : 0 ≤ l ∧ l < 1048576) : tn (l * 4096 + h) 12 = h * 1048576 + l := by
  obtain ⟨H, rfl⟩ := Int.eq_ofNat_of_zero_le hh.1
  obtain ⟨L, rfl⟩ := Int.eq_ofNat_of_zero_le hl.1
  have e := or_apart H L (H * 1048576) 20 (by omega) rfl (by omega) (by omega)
  have e1 : IntKind.u32.wrap ((L * 4096 + H : Int) * 2 ^ (32 - 12)) = ((H * 1048576 : Nat) : Int) := by
    rw [IntKind.wrap_u32]
    omega
  have e2 : (L * 4096 + H : Int) / 2 ^ 12 = (L : Int) := by omega
  unfold tn
  rw [e1, e2, or_comm32, e]
  omega
theorem tn_lt_12 (x : Int) (hx : W32 x) : tn (lt x 12) 12 = x := by
  have h1 := hx.1
  have h2 := hx.2
  obtain ⟨h, l, rfl, hh, hl⟩ : ∃ h l : Int, x = h * 1048576 + l ∧ (0 ≤ h ∧ h < 4096) ∧ 0 ≤ l ∧ l < 1048576 := ⟨x / 1048576, x % 1048576, by omega, by omega, by omega⟩
  rw [lt_12 h l hh hl, tn_12 h l hh hl]
theorem lt_tn_12 (x : Int) (hx : W32 x) : lt (tn x 12) 12 = x := by
  have h1 := hx.1
  have h2 := hx.2
  obtain ⟨h, l, rfl, hh, hl⟩ : ∃ h l : Int, x = l * 4096 + h ∧ (0 ≤ h ∧ h < 4096) ∧ 0 ≤ l ∧ l < 1048576 := ⟨x % 4096, x / 4096, by omega, by omega, by omega⟩
  rw [tn_12 h l hh hl, lt_12 h l hh hl]
theorem lt_8 (h l : Int) (hh : 0 ≤ h ∧ h < 256) (hl : 0 ≤ l ∧ l < 16777216) : lt (h * 16777216 + l) 8 = l * 256 + h := by
  obtain ⟨H, rfl⟩ := Int.eq_ofNat_of_zero_le hh.1
  obtain ⟨L, rfl⟩ := Int.eq_ofNat_of_zero_le hl.1
  have e := or_apart L H (L * 256) 8 (by omega) rfl (by omega) (by omega)
  have e1 : IntKind.u32.wrap ((H * 16777216 + L : Int) * 2 ^ 8) = ((L * 256 : Nat) : Int) := by
    rw [IntKind.wrap_u32]
    omega
  have e2 : (H * 16777216 + L : Int) / 2 ^ (32 - 8) = (H : Int) := by omega
  unfold lt
  rw [e1, e2, e]
  omega
theorem tn_8 (h l : Int) (hh : 0 ≤ h ∧ h < 256) (hl : 0 ≤ l ∧ l < 16777216) : tn (l * 256 + h) 8 = h * 16777216 + l := by
  obtain ⟨H, rfl⟩ := Int.eq_ofNat_of_zero_le hh.1
  obtain ⟨L, rfl⟩ := Int.eq_ofNat_of_zero_le hl.1
  have e := or_apart H L (H * 16777216) 24 (by omega) rfl (by omega) (by omega)
  have e1 : IntKind.u32.wrap ((L * 256 + H : Int) * 2 ^ (32 - 8)) = ((H * 16777216 : Nat) : Int) := by
    rw [IntKind.wrap_u32]
    omega
  have e2 : (L * 256 + H : Int) / 2 ^ 8 = (L : Int) := by omega
  unfold tn
  rw [e1, e2, or_comm32, e]
  omega
theorem tn_lt_8 (x : Int) (hx : W32 x) : tn (lt x 8) 8 = x := by
  have h1 := hx.1
  have h2 := hx.2
  obtain ⟨h, l, rfl, hh, hl⟩ : ∃ h l : Int, x = h * 16777216 + l ∧ (0 ≤ h ∧ h < 256) ∧ 0 ≤ l ∧ l < 16777216 := ⟨x / 16777216, x % 16777216, by omega, by omega, by omega⟩
  rw [lt_8 h l hh hl, tn_8 h l hh hl]
theorem lt_tn_8 (x : Int) (hx : W32 x) : lt (tn x 8) 8 = x := by
  have h1 := hx.1
  have h2 := hx.2
  obtain ⟨h, l, rfl, hh, hl⟩ : ∃ h l : Int, x = l * 256 + h ∧ (0 ≤ h ∧ h < 256) ∧ 0 ≤ l ∧ l < 16777216 := ⟨x % 256, x / 256, by omega, by omega, by omega⟩
  rw [tn_8 h l hh hl, lt_8 h l hh hl]
theorem lt_7 (h l : Int) (hh : 0 ≤ h ∧ h < 128) (hl : 0 ≤ l ∧ l < 33554432) : lt (h * 33554432 + l) 7 = l * 128 + h := by
  obtain ⟨H, rfl⟩ := Int.eq_ofNat_of_zero_le hh.1
  obtain ⟨L, rfl⟩ := Int.eq_ofNat_of_zero_le hl.1
  have e := or_apart L H (L * 128) 7 (by omega) rfl (by omega) (by omega)
  have e1 : IntKind.u32.wrap ((H * 33554432 + L : Int) * 2 ^ 7) = ((L * 128 : Nat) : Int) := by
    rw [IntKind.wrap_u32]
    omega
  have e2 : (H * 33554432 + L : Int) / 2 ^ (32 - 7) = (H : Int) := by omega
  unfold lt
  rw [e1, e2, e]
  omega
theorem tn_7 (h l : Int) (hh : 0 ≤ h ∧ h < 128) (hl : 0 ≤ l ∧ l < 33554432) : tn (l * 128 + h) 7 = h * 33554432 + l := by
  obtain ⟨H, rfl⟩ := Int.eq_ofNat_of_zero_le hh.1
  obtain ⟨L, rfl⟩ := Int.eq_ofNat_of_zero_le hl.1
  have e := or_apart H L (H * 33554432) 25 (by omega) rfl (by omega) (by omega)
  have e1 : IntKind.u32.wrap ((L * 128 + H : Int) * 2 ^ (32 - 7)) = ((H * 33554432 : Nat) : Int) := by
    rw [IntKind.wrap_u32]
    omega
  have e2 : (L * 128 + H : Int) / 2 ^ 7 = (L : Int) := by omega
  unfold tn
  rw [e1, e2, or_comm32, e]
  omega
theorem tn_lt_7 (x : Int) (hx : W32 x) : tn (lt x 7) 7 = x := by
  have h1 := hx.1
  have h2 := hx.2
  obtain ⟨h, l, rfl, hh, hl⟩ : ∃ h l : Int, x = h * 33554432 + l ∧ (0 ≤ h ∧ h < 128) ∧ 0 ≤ l ∧ l < 33554432 := ⟨x / 33554432, x % 33554432, by omega, by omega, by omega⟩
  rw [lt_7 h l hh hl, tn_7 h l hh hl]
theorem lt_tn_7 (x : Int) (hx : W32 x) : lt (tn x 7) 7 = x := by
  have h1 := hx.1
  have h2 := hx.2
  obtain ⟨h, l, rfl, hh, hl⟩ : ∃ h l : Int, x = l * 128 + h ∧ (0 ≤ h ∧ h < 128) ∧ 0 ≤ l ∧ l < 33554432 := ⟨x % 128, x / 128, by omega, by omega, by omega⟩
  rw [tn_7 h l hh hl, lt_7 h l hh hl]
theorem back_ad (a b : Int) (ha : W32 a) : IntKind.u32.wrap (ad a b - b) = a := by
  have := ha.1
  have := ha.2
  rw [ad_eq, IntKind.wrap_u32]
  omega
theorem ad_back (a b : Int) (ha : W32 a) : ad (IntKind.u32.wrap (a - b)) b = a := by
  have := ha.1
  have := ha.2
  rw [ad_eq, IntKind.wrap_u32]
  omega
/-- a row whose first n entries are f's -/
def fil (f : Nat → Int) (n : Nat) (l : List Int) : List Int := (List.range n).map f ++ l.drop n
theorem fil_zero (f : Nat → Int) (l : List Int) : fil f 0 l = l := by simp [fil]
theorem fil_len (f : Nat → Int) (n : Nat) (l : List Int) (h : n ≤ l.length) : (fil f n l).length = l.length := by
  simp [fil]
  omega
theorem fil_set (f : Nat → Int) (n : Nat) (l : List Int) (h : n < l.length) : (fil f n l).set n (f n) = fil f (n + 1) l := by
  unfold fil
  rw [List.set_append_right _ _ (by simp), List.range_succ, List.map_append, List.append_assoc]
  congr 1
  simp only [List.length_map, List.length_range, Nat.sub_self, List.map_cons, List.map_nil, List.cons_append, List.nil_append]
  rw [List.drop_eq_getElem_cons h, List.set_cons_zero]
theorem fil_all (f : Nat → Int) (l : List Int) : fil f l.length l = (List.range l.length).map f := by simp [fil]
theorem fil_hi (f : Nat → Int) (n j : Nat) (l : List Int) (h : n ≤ j) (hl : n ≤ l.length) : (fil f n l).getD j 0 = l.getD j 0 := by
  unfold fil
  rw [List.getD_eq_getElem?_getD, List.getElem?_append_right (by simp; omega)]
  simp only [List.length_map, List.length_range, List.getElem?_drop]
  rw [List.getD_eq_getElem?_getD]
  congr 2
  omega
theorem fil_lo (f : Nat → Int) (n j : Nat) (l : List Int) (h : j < n) : (fil f n l).getD j 0 = f j := by
  unfold fil
  rw [List.getD_eq_getElem?_getD, List.getElem?_append_left (by simp; omega)]
  simp [h]

/-- four words -/
structure Q4 where
  (a b c d : Int)
/-- the quarter -/
def quar (a b c d : Int) : Q4 :=
  let a1 := ad a b
  let d1 := lt (xr d a1) 16
  let c1 := ad c d1
  let b1 := lt (xr b c1) 12
  let a2 := ad a1 b1
  let d2 := lt (xr d1 a2) 8
  let c2 := ad c1 d2
  let b2 := lt (xr b1 c2) 7
  ⟨a2, b2, c2, d2⟩

section
variable {P : Program} {md : Region.Mode} {ops : Array Oper} {Q : Exit → Act → World → Prop} {S : World → Prop} {c : Nat}
/-- whatever order is picked, S holds as long as operation c has not come up -/
def wpAnyC (P : Program) (md : Region.Mode) (ops : Array Oper) (Q : Exit → Act → World → Prop) (S : World → Prop) (c : Nat) : Nat → Array Bool → Act → World → Prop
  | 0, l, a, w => Region.ready md ops l = [] ∧ Q .normal a w
  | f + 1, l, a, w => (Region.ready md ops l = [] → Q .normal a w) ∧
      ∀ i ∈ Region.ready md ops l, wpOp P ops Q i (fun a' w' => ((l.setIfInBounds i true).getD c false = false → S w') ∧ wpAnyC P md ops Q S c f (l.setIfInBounds i true) a' w') a w
theorem wpAny_of_C : ∀ (f : Nat) (l : Array Bool) (a : Act) (w : World), wpAnyC P md ops Q S c f l a w → wpAny P md ops Q f l a w
  | 0, _, _, _, h => h
  | f + 1, _, _, _, h => ⟨h.1, fun i hi => wpOp_mono (fun a' w' h' => wpAny_of_C f _ a' w' h'.2) (h.2 i hi)⟩
theorem wpAnyC_free : ∀ (f : Nat) (l : Array Bool) (a : Act) (w : World), l.getD c false = true → wpAnyH P md ops Q (fun _ => True) f l a w → wpAnyC P md ops Q S c f l a w
  | 0, _, _, _, _, h => h
  | f + 1, l, _, _, hl, h => ⟨h.1, fun i hi => wpOp_mono (fun a' w' h' => ⟨fun e => (by rw [getD_set_true hl] at e; cases e), wpAnyC_free f _ a' w' (getD_set_true hl) h'.2⟩) (h.2 i hi)⟩
theorem wpAnyC_first {i : Nat} {oi oc : Oper} {v : Value} (hi : ops[i]? = some oi) (hsel : ∀ (j : Nat) (o : Oper) cs b, ops[j]? = some o → o.op ≠ .select cs b)
    (hQ : ∀ c a w, Q (.panic c) (a.put oi.dst v) w → Q (.panic c) a w) (hci : i ≠ c) (T : World → Prop) (hTS : ∀ w, S w → T w) (hoc : ops[c]? = some oc) (hT : (∀ w, T w) ∨ ∃ e ∈ oc.after, Region.binds md e = true ∧ e.on = i) :
    ∀ (fuel : Nat) (listed : Array Bool) (a : Act) (w : World),
      (∀ j oj, ops[j]? = some oj → j ≠ i → listed.getD j true = false → (∀ e ∈ oj.after, Region.binds md e = true → e.on ≠ i) → oi.apart ops oj = true) →
      i ∈ Region.ready md ops listed → YieldsIf P ops T oi v a → (listed.getD c false = false → S w) → ((∀ w, T w) ∨ listed.getD c false = false) →
      wpAnyC P md ops Q S c fuel (listed.setIfInBounds i true) (a.put oi.dst v) w → wpAnyC P md ops Q S c (fuel + 1) listed a w := by
  intro fuel
  have now : ∀ (l : Array Bool) (w : World), (l.getD c false = false → S w) → ((∀ w, T w) ∨ l.getD c false = false) → T w := fun l w hS hB => by
    rcases hB with h | h
    · exact h w
    · exact hTS w (hS h)
  induction fuel with
  | zero =>
    intro listed a w _ hr hy hS hB H
    refine ⟨fun h => (by rw [h] at hr; cases hr), fun j hj => ?_⟩
    by_cases hji : j = i
    · subst hji
      exact hy.wpOp hi (now _ _ hS hB) ⟨fun e => hS (by rw [getD_set_ne false hci] at e; exact e), H⟩
    · have := ready_mono hj hji
      rw [H.1] at this
      cases this
  | succ fuel ih =>
    intro listed a w hfree hr hy hS hB H
    refine ⟨fun h => (by rw [h] at hr; cases hr), fun j hj => ?_⟩
    by_cases hji : j = i
    · subst hji
      exact hy.wpOp hi (now _ _ hS hB) ⟨fun e => hS (by rw [getD_set_ne false hci] at e; exact e), H⟩
    · have h1 := H.2 j (ready_mono hj hji)
      obtain ⟨hjun, oj, hoj, hall⟩ := mem_ready.1 hj
      have hnot : ∀ e ∈ oj.after, Region.binds md e = true → e.on ≠ i := fun e he hb heq => by
        have h1 := hall e he hb
        have h0 := (mem_ready.1 hr).1
        rw [heq] at h1
        rcases Nat.lt_or_ge i listed.size with h' | h'
        · simp [h'] at h0 h1; rw [h0] at h1; cases h1
        · simp [Array.getElem?_eq_none h'] at h1
      have h2 := wpOp_putIf hoj (hfree j oj hoj hji hjun hnot) (fun cs b => hsel i oi cs b hi) (fun cs b => hsel j oj cs b hoj) hQ hy h1
      have hfree' : ∀ k ok, ops[k]? = some ok → k ≠ i → (listed.setIfInBounds j true).getD k true = false →
          (∀ e ∈ ok.after, Region.binds md e = true → e.on ≠ i) → oi.apart ops ok = true := fun k ok hk hki hun hno => by
        refine hfree k ok hk hki ?_ hno
        by_cases hjk : j = k
        · subst hjk; exact hjun
        · rw [getD_set_ne true hjk] at hun; exact hun
      refine wpOp_mono (fun a' w' h3 => ?_) h2
      have hS' : (listed.setIfInBounds j true).getD c false = false → S w' := fun e => by
        refine h3.2.1 ?_
        rw [Array.setIfInBounds_comm _ _ (Ne.symm hji), getD_set_ne false hci]
        exact e
      have hB' : (∀ w, T w) ∨ (listed.setIfInBounds j true).getD c false = false := by
        rcases hB with h | h
        · exact .inl h
        · rcases hT with h' | ⟨e, he, hb, heq⟩
          · exact .inl h'
          · refine .inr ?_
            have hjc : j ≠ c := by
              rintro rfl
              rw [hoj] at hoc
              cases hoc
              exact hnot e he hb heq
            rw [getD_set_ne false hjc]
            exact h
      refine ⟨hS', ih (listed.setIfInBounds j true) a' w' hfree' (ready_mono hr (Ne.symm hji)) h3.1 hS' hB' ?_⟩
      rw [Array.setIfInBounds_comm _ _ hji]
      exact h3.2.2
/-- what is left, in whatever order -/
def AnyC (P : Program) (md : Region.Mode) (ops : Array Oper) (Q : Exit → Act → World → Prop) (S : World → Prop) (c : Nat) (l : Array Bool) (a : Act) (w : World) : Prop :=
  ∀ fuel, (l.toList.filter (!·)).length ≤ fuel → wpAnyC P md ops Q S c fuel l a w
theorem anyC_start {id : Nat} {a : Act} {w : World} (c : Nat) (S : World → Prop) (hm : P.follows .mixedOrders = true) (h : AnyC P .any ops Q S c (Array.replicate ops.size false) a w.drew) : (Code.region id ops true).wp P Q a w := by
  refine wp_region_any hm (wpAny_of_C _ _ _ _ (h ops.size ?_))
  simp
def depB (md : Region.Mode) (ops : Array Oper) (c i : Nat) : Bool := ((ops[c]?).map (·.after.any fun e => Region.binds md e && e.on == i)).getD false
theorem anyC_take {i : Nat} {oi : Oper} {v : Value} {l : Array Bool} {a : Act} {w : World} (T : World → Prop) (hTS : ∀ w, S w → T w) (hT : (∀ w, T w) ∨ depB md ops c i = true) (hi : ops[i]? = some oi)
    (hs : Region.noSelect ops = true) (hf : Region.free md ops l i = true) (hr : rdB md ops l i = true) (hci : i ≠ c) (hl : l.getD c true = false) (hc : c < ops.size)
    (hQ : ∀ c a w, Q (.panic c) (a.put oi.dst v) w → Q (.panic c) a w) (hy : YieldsIf P ops T oi v a) (hS : S w)
    (h : AnyC P md ops Q S c (l.setIfInBounds i true) (a.put oi.dst v) w) : AnyC P md ops Q S c l a w := by
  intro fuel hfu
  have hm := rdB_mem hr
  have h1 := left_of (mem_ready.1 hm).1
  obtain ⟨f, rfl⟩ : ∃ f, fuel = f + 1 := ⟨fuel - 1, by omega⟩
  have hlc : l.getD c false = false := by
    rcases Nat.lt_or_ge c l.size with h' | h'
    · simp [h'] at hl ⊢
      exact hl
    · simp [Array.getElem?_eq_none h']
  refine wpAnyC_first hi (Region.noSelect_spec hs) hQ hci T hTS (Array.getElem?_eq_getElem hc) ?_ f l a w (Region.free_spec hi hf) hm hy (fun _ => hS) (.inr hlc) (h f (by omega))
  rcases hT with h | h
  · exact .inl h
  · refine .inr ?_
    unfold depB at h
    rw [Array.getElem?_eq_getElem hc] at h
    simp only [Option.map_some, Option.getD_some, Array.any_eq_true'] at h
    obtain ⟨e, he, h⟩ := h
    rw [Bool.and_eq_true] at h
    exact ⟨e, he, h.1, by simpa using h.2⟩
/-- nothing but c is left to come up: S is dropped behind it -/
theorem anyC_last {o : Oper} {l : Array Bool} {a : Act} {w : World} (hr : Region.ready md ops l = [c]) (ho : ops[c]? = some o)
    (h : ∀ K' : Act → World → Prop, Shut (∀ a w, Any P md ops Q (fun _ => True) (l.setIfInBounds c true) a w → K' a w) → if Region.wanted o (yielded ops a.tmps) = true then Oper.wp P o a w K' Q else K' (a.put o.dst undef) w) : AnyC P md ops Q S c l a w := by
  intro fuel hfu
  have hm : c ∈ Region.ready md ops l := by rw [hr]; exact List.mem_cons_self
  have h1 := left_of (mem_ready.1 hm).1
  obtain ⟨f, rfl⟩ : ∃ f, fuel = f + 1 := ⟨fuel - 1, by omega⟩
  have hsz : c < l.size := by
    rcases Nat.lt_or_ge c l.size with h' | h'
    · exact h'
    · have := (mem_ready.1 hm).1
      simp [Array.getElem?_eq_none h'] at this
  have hlc : (l.setIfInBounds c true).getD c false = true := by simp [hsz]
  refine ⟨fun h => (by rw [h] at hr; cases hr), fun j hj => ?_⟩
  rw [hr] at hj
  obtain rfl : j = c := by simpa using hj
  refine wpOp_step ho (fun K' hK => h K' (fun a w hA => hK a w ⟨fun e => ?_, ?_⟩))
  · rw [hlc] at e
    cases e
  · exact wpAnyC_free f _ a w hlc (hA f (by omega))
end


/-- four words as they are handed back -/
def qv (q : Q4) : Value := .tuple #[.int .u32 q.a, .int .u32 q.b, .int .u32 q.c, .int .u32 q.d]
/-- the quarter of the words at four places -/
def qp (W : List Int) (a b c d : Nat) : List Int :=
  let q := quar (W.getD a 0) (W.getD b 0) (W.getD c 0) (W.getD d 0)
  (((W.set a q.a).set b q.b).set c q.c).set d q.d
theorem qp_len (W : List Int) (a b c d : Nat) : (qp W a b c d).length = W.length := by simp [qp]
/-- what four cells hold -/
def QS (g a b c d : Nat) (xa xb xc xd : Int) (v : World) : Prop := True ∧ v.cell? ⟨g, a, none⟩ = some (.int .u32 xa) ∧ v.cell? ⟨g, b, none⟩ = some (.int .u32 xb) ∧ v.cell? ⟨g, c, none⟩ = some (.int .u32 xc) ∧ v.cell? ⟨g, d, none⟩ = some (.int .u32 xd)
/-- two rounds -/
def dbl (W : List Int) : List Int := qp (qp (qp (qp (qp (qp (qp (qp W 0 4 8 12) 1 5 9 13) 2 6 10 14) 3 7 11 15) 0 5 10 15) 1 6 11 12) 2 7 8 13) 3 4 9 14
theorem dbl_len (W : List Int) : (dbl W).length = W.length := by
  unfold dbl
  simp only [qp_len]
/-- so many double rounds -/
def rn (W : List Int) : Nat → List Int
  | 0 => W
  | n + 1 => dbl (rn W n)
theorem rn_len (W : List Int) : ∀ n, (rn W n).length = W.length
  | 0 => rfl
  | n + 1 => by rw [rn, dbl_len, rn_len W n]
def Z16 : List Int := List.replicate 16 0
theorem Tryd.info64 : (Tryd.prog.info? 97).map (·.size) = some 64 := by kernel_rfl
def Rnd (W : List Int) (w : World) (r : Ending) (w' : World) : Prop := r = .returned (.agg (uc W)) ∧ Gr w w'
end Go.Proofs.YtpmgmpihmpifgaaDoor
