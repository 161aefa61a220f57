/-
  Parts of bytes in a list; feed; a key's pads.
-/
import Derived.Test.YtpmgmpihmpifgabDoorCaC
import Derived.OpenShut
namespace Go.Proofs.YtpmgmpihmpifgabDoor
open Go.RowKit
set_option maxRecDepth 100000
set_option linter.unusedSimpArgs false
set_option linter.unusedVariables false

/-- lists of bytes in a row -/
def Pq (w : World) (p o : Nat) (ps : List (List Int)) : Prop := ∀ j, j < ps.length → ∃ a n c, w.cell? ⟨p, o + j, none⟩ = some (.slice a n c) ∧ (ps.getD j []).length = n ∧ IsB (ps.getD j []) ∧ Sl w a (ps.getD j []) ∧ n ≤ c ∧ c < 9223372036854775808
theorem Pq.gr {w v : World} {p o : Nat} {ps : List (List Int)} (h : Pq w p o ps) (k : Gr w v) : Pq v p o ps := by
  intro j hj
  obtain ⟨a, n, c, h1, h2, h3, h4, h5⟩ := h j hj
  exact ⟨a, n, c, k.cell h1, h2, h3, h4.gr k, h5⟩
def Pr (w : World) (a : Option Addr) (ps : List (List Int)) : Prop := ps = [] ∨ ∃ p o, a = some ⟨p, o, none⟩ ∧ Pq w p o ps
theorem Pr.gr {w v : World} {a : Option Addr} {ps : List (List Int)} (h : Pr w a ps) (k : Gr w v) : Pr v a ps := by
  rcases h with h | ⟨p, o, h1, h2⟩
  · exact .inl h
  · exact .inr ⟨p, o, h1, h2.gr k⟩
/-- .. none of them in block g -/
def PqX (g : Nat) (w : World) (p o : Nat) (ps : List (List Int)) : Prop := ∀ j, j < ps.length → ∃ a n c, w.cell? ⟨p, o + j, none⟩ = some (.slice a n c) ∧ p ≠ g ∧ (ps.getD j []).length = n ∧ IsB (ps.getD j []) ∧ SlX g w a (ps.getD j []) ∧ n ≤ c ∧ c < 9223372036854775808
theorem PqX.bt {g : Nat} {w v : World} {p o : Nat} {ps : List (List Int)} (h : PqX g w p o ps) (k : Bt g w v) : PqX g v p o ps := by
  intro j hj
  obtain ⟨a, n, c, h1, h2, h3, h4, h5, h6⟩ := h j hj
  exact ⟨a, n, c, k.cell h1 h2, h2, h3, h4, h5.bt k, h6⟩
def PrX (g : Nat) (w : World) (a : Option Addr) (ps : List (List Int)) : Prop := ps = [] ∨ ∃ p o, a = some ⟨p, o, none⟩ ∧ PqX g w p o ps
theorem Pr.far {w v : World} {a : Option Addr} {ps : List (List Int)} (h : Pr w a ps) (k : Gr w v) {g : Nat} (hg : w.heap.size ≤ g) : PrX g v a ps := by
  rcases h with h | ⟨p, o, h1, h2⟩
  · exact .inl h
  · refine .inr ⟨p, o, h1, fun j hj => ?_⟩
    obtain ⟨a, n, c, h3, h4, h5, h6, h7⟩ := h2 j hj
    exact ⟨a, n, c, k.cell h3, (by have := lt_of_cell h3; omega), h4, h5, h6.far k hg, h7⟩
/-- the method Write of the Hash at g -/
def wrf (g : Nat) : Value := .func (.func 16) #[.pointer (some ⟨g, 0, none⟩)] #[]
theorem flat_next (ps : List (List Int)) (k : Nat) (h : k < ps.length) : (ps.take (k + 1)).flatten = (ps.take k).flatten ++ ps.getD k [] := by
  rw [List.take_add_one, List.getElem?_eq_getElem h, List.flatten_append]
  simp [h]
theorem flat_le (ps : List (List Int)) (k : Nat) : (ps.take k).flatten.length ≤ ps.flatten.length := by
  have h : ps.flatten = (ps.take k).flatten ++ (ps.drop k).flatten := by rw [← List.flatten_append, List.take_append_drop]
  rw [h, List.length_append]
  omega
/-- a byte xored -/
def kxb (a x : Int) : Int := bits .xor .u8 a x
theorem kxb_rng (a x : Int) : 0 ≤ kxb a x ∧ kxb a x < 256 := by
  have := bounds_u8 (wf_bits .xor .u8 a x)
  unfold kxb
  omega
/-- the first n bytes xored -/
def XK (K : List Int) (x : Int) : Nat → List Int
  | 0 => K
  | n + 1 => (XK K x n).set n (kxb ((XK K x n).getD n 0) x)
theorem XK_len (K : List Int) (x : Int) : ∀ n, (XK K x n).length = K.length
  | 0 => rfl
  | n + 1 => by rw [XK, List.length_set, XK_len K x n]
theorem XK_get (K : List Int) (x : Int) (j : Nat) : ∀ n, n ≤ K.length → (XK K x n).getD j 0 = if j < n then kxb (K.getD j 0) x else K.getD j 0
  | 0, _ => by simp [XK]
  | n + 1, h => by
    rw [XK, getD_set _ _ _ _ (by rw [XK_len]; omega), XK_get K x n n (by omega), if_neg (Nat.lt_irrefl n)]
    by_cases e : j = n
    · subst e
      rw [if_pos rfl, if_pos (by omega)]
    · rw [if_neg e, XK_get K x j n (by omega)]
      by_cases h2 : j < n
      · rw [if_pos h2, if_pos (by omega)]
      · rw [if_neg h2, if_neg (by omega)]
/-- a key of at most a block -/
def k6 (B : List Int) : List Int := if 64 < B.length then sumL B else B
/-- a key's pad -/
def padK (B : List Int) (x : Int) : List Int := (List.range 64).map fun i => kxb ((k6 B).getD i 0) x
theorem padK_len (B : List Int) (x : Int) : (padK B x).length = 64 := by unfold padK; simp
theorem padK_isB (B : List Int) (x : Int) : IsB (padK B x) := by
  intro y hy
  unfold padK at hy
  obtain ⟨i, _, rfl⟩ := List.mem_map.1 hy
  exact kxb_rng _ _
def z6 (B : List Int) : List Int := k6 B ++ List.replicate (64 - (k6 B).length) 0
theorem k6_len (B : List Int) : (k6 B).length ≤ 64 := by
  unfold k6
  split
  · rw [sumL_len]; omega
  · omega
theorem z6_len (B : List Int) : (z6 B).length = 64 := by
  have := k6_len B
  unfold z6
  rw [List.length_append, List.length_replicate]
  omega
theorem z6_get (B : List Int) (j : Nat) : (z6 B).getD j 0 = (k6 B).getD j 0 := by
  unfold z6
  simp only [List.getD_eq_getElem?_getD, List.getElem?_append]
  split
  · rfl
  · rename_i h
    rw [List.getElem?_eq_none (by omega : (k6 B).length ≤ j)]
    simp only [List.getElem?_replicate]
    split <;> rfl
theorem pad_all (B : List Int) (x : Int) : XK (z6 B) x 64 = padK B x := by
  apply List.ext_getElem (by rw [XK_len, z6_len, padK_len])
  intro i h1 h2
  have h3 := XK_get (z6 B) x i 64 (by rw [z6_len]; omega)
  have hi : i < 64 := by rw [padK_len] at h2; exact h2
  rw [if_pos hi, z6_get] at h3
  rw [List.getD_eq_getElem?_getD, List.getElem?_eq_getElem h1] at h3
  simp only [Option.getD_some] at h3
  rw [h3]
  unfold padK
  simp
theorem Tryd.infoL : (Tryd.prog.info? 48).map (·.size) = some 64 := by kernel_rfl
def Z6 : List Int := List.replicate 64 0
/-- what a pad is -/
def Padd (K : List Int) (x : Int) (w : World) (r : Ending) (w' : World) : Prop := ∃ g, r = .returned (.slice (some ⟨g, 0, none⟩) 64 64) ∧ w.heap.size ≤ g ∧ w'.heap[g]? = some (.cells (kc (XK K x 64)) 48 (0, 0)) ∧ Gr w w'
theorem sp_kc (L Z : List Int) (h : L.length ≤ Z.length) : sp (Z.map (Value.int .u8)) 0 (L.map (Value.int .u8)) = (L ++ Z.drop L.length).map (Value.int .u8) := by
  have h1 := sp_mid (L.map (Value.int .u8)) [] ((Z.take L.length).map (Value.int .u8)) ((Z.drop L.length).map (Value.int .u8)) (by simp; omega)
  simp only [List.nil_append, List.length_nil, ← List.map_append, List.take_append_drop] at h1
  exact h1
end Go.Proofs.YtpmgmpihmpifgabDoor
