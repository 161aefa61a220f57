/-
  Names, keys as texts, which key is less: the plain facts.
-/
import Derived.Test.YtpmgmpihmpifgaaDoorSaB
namespace Go.Proofs.YtpmgmpihmpifgaaDoor
open Go.RowKit
set_option maxRecDepth 100000
set_option linter.unusedSimpArgs false
set_option linter.unusedVariables false

/-- a digit's sign -/
def hx (n : Int) : Int := if n < 10 then 48 + n else 87 + n
/-- bytes as digits -/
def txL : List Int → List Int
  | [] => []
  | b :: K => hx (b / 16) :: hx (b % 16) :: txL K
/-- a digit -/
def isD (c : Int) : Bool := (decide (48 ≤ c) && decide (c ≤ 57)) || (decide (97 ≤ c) && decide (c ≤ 102))
/-- what it stands for -/
def dv (c : Int) : Int := if c ≤ 57 then c - 48 else c - 87
/-- how many digits lead, at most n -/
def kfA : List Int → Nat → Nat
  | [], _ => 0
  | _ :: _, 0 => 0
  | c :: l, n + 1 => if isD c then kfA l n + 1 else 0
def kf (L : List Int) : Nat := kfA L 64
/-- the key as far as p digits are read -/
def kyS (L : List Int) : Nat → List Int
  | 0 => List.replicate 32 0
  | p + 1 => (kyS L p).set (p / 2) (bits .or .u8 (IntKind.u8.wrap ((kyS L p).getD (p / 2) 0 * 16)) (dv (L.getD p 0)))
/-- a sign of a name -/
def isN (c : Int) : Bool := (decide (97 ≤ c) && decide (c ≤ 122)) || (decide (48 ≤ c) && decide (c ≤ 57)) || decide (c = 45)
def nmL (L : List Int) : Bool := decide (1 ≤ L.length) && decide (L.length ≤ 16) && L.all isN
/-- which key is less -/
def ltL : List Int → List Int → Bool
  | a :: x, b :: y => if a = b then ltL x y else decide (a < b)
  | _, _ => false
/-- a fingerprint, as far as n bytes are shown -/
def fpL (H : List Int) : Nat → List Int
  | 0 => []
  | n + 1 => (if 0 < n ∧ n % 2 = 0 then fpL H n ++ [45] else fpL H n) ++ [hx (H.getD n 0 / 16), hx (H.getD n 0 % 16)]

theorem txL_len : ∀ K : List Int, (txL K).length = 2 * K.length
  | [] => rfl
  | b :: K => by simp only [txL, List.length_cons, txL_len K]; omega
theorem txL_app : ∀ K M : List Int, txL (K ++ M) = txL K ++ txL M
  | [], _ => rfl
  | b :: K, M => by simp only [List.cons_append, txL, txL_app K M]
theorem hx_rng (n : Int) (h : 0 ≤ n) (h2 : n < 16) : 0 ≤ hx n ∧ hx n < 256 := by unfold hx; split <;> omega
theorem txL_isB : ∀ K : List Int, IsB K → IsB (txL K)
  | [], _ => by intro x hx; cases hx
  | b :: K, h => by
    have hb := h b (List.mem_cons_self ..)
    intro x hx
    simp only [txL, List.mem_cons] at hx
    rcases hx with rfl | rfl | hx
    · exact hx_rng _ (by omega) (by omega)
    · exact hx_rng _ (by omega) (by omega)
    · exact txL_isB K (fun y hy => h y (List.mem_cons_of_mem _ hy)) x hx
theorem txL_at : ∀ (K : List Int) (j : Nat), j < K.length → (txL K).getD (2 * j) 0 = hx (K.getD j 0 / 16) ∧ (txL K).getD (2 * j + 1) 0 = hx (K.getD j 0 % 16)
  | [], j, h => by simp at h
  | b :: K, 0, _ => ⟨rfl, rfl⟩
  | b :: K, j + 1, h => by
    have := txL_at K j (by simpa using h)
    rw [show 2 * (j + 1) = 2 * j + 1 + 1 from by omega]
    simp only [txL, List.getD_cons_succ]
    exact this
theorem hx_isD (n : Int) (h : 0 ≤ n) (h2 : n < 16) : isD (hx n) = true := by
  unfold isD hx
  split <;> simp <;> omega
theorem dv_hx (n : Int) (h : 0 ≤ n) (h2 : n < 16) : dv (hx n) = n := by
  unfold dv hx
  split <;> split <;> omega
theorem isD_cases {c : Int} (h : isD c = true) : (48 ≤ c ∧ c ≤ 57) ∨ (97 ≤ c ∧ c ≤ 102) := by
  unfold isD at h
  simpa using h
theorem isD_of {c : Int} (h : (48 ≤ c ∧ c ≤ 57) ∨ (97 ≤ c ∧ c ≤ 102)) : isD c = true := by
  unfold isD
  simpa using h
theorem isD_not {c : Int} (h : isD c = false) : ¬ ((48 ≤ c ∧ c ≤ 57) ∨ (97 ≤ c ∧ c ≤ 102)) := by
  intro k
  rw [isD_of k] at h
  cases h
theorem dv_rng {c : Int} (h : isD c = true) : 0 ≤ dv c ∧ dv c < 16 := by
  have := isD_cases h
  unfold dv
  split <;> omega
theorem hx_dv {c : Int} (h : isD c = true) : hx (dv c) = c := by
  have := isD_cases h
  unfold hx dv
  split <;> split <;> omega
theorem kfA_eq : ∀ (L : List Int) (n p : Nat), (∀ i, i < p → isD (L.getD i 0) = true) → p ≤ n → p ≤ L.length → (p = n ∨ p = L.length ∨ isD (L.getD p 0) = false) → kfA L n = p
  | [], n, p, _, _, h3, _ => by
    have : p = 0 := by simpa using h3
    subst this
    rfl
  | c :: l, 0, p, _, h2, _, _ => by
    have : p = 0 := by omega
    subst this
    rfl
  | c :: l, n + 1, 0, _, _, _, h4 => by
    rcases h4 with h | h | h
    · omega
    · simp at h
    · have h : isD c = false := h
      unfold kfA
      rw [h]
      rfl
  | c :: l, n + 1, p + 1, h1, h2, h3, h4 => by
    have hc : isD c = true := h1 0 (by omega)
    unfold kfA
    rw [hc, if_pos rfl, kfA_eq l n p (fun i hi => h1 (i + 1) (by omega)) (by omega) (by simpa using h3) ?_]
    rcases h4 with h | h | h
    · exact .inl (by omega)
    · exact .inr (.inl (by simpa using h))
    · exact .inr (.inr h)
theorem kf_eq {L : List Int} {p : Nat} (h1 : ∀ i, i < p → isD (L.getD i 0) = true) (h2 : p ≤ 64) (h3 : p ≤ L.length) (h4 : p = 64 ∨ p = L.length ∨ isD (L.getD p 0) = false) : kf L = p := kfA_eq L 64 p h1 h2 h3 h4
theorem kfA_le : ∀ (L : List Int) (n : Nat), kfA L n ≤ n ∧ kfA L n ≤ L.length
  | [], n => ⟨Nat.zero_le _, Nat.zero_le _⟩
  | c :: l, 0 => ⟨Nat.le_refl _, Nat.zero_le _⟩
  | c :: l, n + 1 => by
    have := kfA_le l n
    unfold kfA
    split
    · simp only [List.length_cons]
      omega
    · omega
theorem kfA_dig : ∀ (L : List Int) (n i : Nat), i < kfA L n → isD (L.getD i 0) = true
  | [], n, i, h => by
    unfold kfA at h
    omega
  | c :: l, 0, i, h => by
    unfold kfA at h
    omega
  | c :: l, n + 1, i, h => by
    unfold kfA at h
    split at h
    · rename_i hc
      cases i with
      | zero => exact hc
      | succ i => exact kfA_dig l n i (by omega)
    · omega
theorem kyS_len (L : List Int) : ∀ p, (kyS L p).length = 32
  | 0 => List.length_replicate ..
  | p + 1 => by rw [kyS, List.length_set, kyS_len L p]
theorem or_dig (x v : Int) (hx : 0 ≤ x) (hx2 : x < 16) (hv : 0 ≤ v) (hv2 : v < 16) : bits .or .u8 (IntKind.u8.wrap (x * 16)) v = 16 * x + v := by
  have h : ∀ a b : Fin 16, bits .or .u8 (IntKind.u8.wrap ((a.val : Int) * 16)) (b.val : Int) = 16 * (a.val : Int) + (b.val : Int) := by decide +kernel
  have h1 := h ⟨x.toNat, by omega⟩ ⟨v.toNat, by omega⟩
  have e1 : ((x.toNat : Nat) : Int) = x := Int.toNat_of_nonneg hx
  have e2 : ((v.toNat : Nat) : Int) = v := Int.toNat_of_nonneg hv
  simpa only [e1, e2] using h1
/-- the key's byte j as far as p digits are read -/
def kAt (L : List Int) (p j : Nat) : Int := if 2 * j + 1 < p then 16 * dv (L.getD (2 * j) 0) + dv (L.getD (2 * j + 1) 0) else if 2 * j < p then dv (L.getD (2 * j) 0) else 0
theorem gset_at (l : List Int) (i j : Nat) (x : Int) : (l.set i x).getD j 0 = if i = j ∧ j < l.length then x else l.getD j 0 := by
  simp only [List.getD_eq_getElem?_getD, List.getElem?_set]
  by_cases h : i = j
  · subst h
    by_cases h2 : i < l.length
    · simp [h2]
    · simp [h2]
  · simp [h]
theorem kyS_at (L : List Int) : ∀ p, p ≤ 64 → (∀ i, i < p → isD (L.getD i 0) = true) → ∀ j, j < 32 → (kyS L p).getD j 0 = kAt L p j
  | 0, _, _, j, hj => by
    unfold kyS kAt
    rw [if_neg (by omega), if_neg (by omega), List.getD_eq_getElem?_getD, List.getElem?_replicate, if_pos hj]
    rfl
  | p + 1, hp, hd, j, hj => by
    have ih := kyS_at L p (by omega) (fun i hi => hd i (by omega))
    have hv := dv_rng (hd p (by omega))
    rw [kyS, gset_at, kyS_len]
    by_cases e : p / 2 = j
    · rw [if_pos ⟨e, hj⟩, e, ih j hj]
      unfold kAt
      rcases Nat.mod_two_eq_zero_or_one p with h | h
      · have e2 : 2 * j = p := by omega
        rw [if_neg (by omega), if_neg (by omega), if_neg (by omega), if_pos (by omega), e2]
        have := or_dig 0 _ (by omega) (by omega) hv.1 hv.2
        simpa using this
      · have e2 : 2 * j + 1 = p := by omega
        have hv2 := dv_rng (hd (2 * j) (by omega))
        rw [if_neg (by omega), if_pos (by omega), if_pos (by omega), e2]
        exact or_dig _ _ hv2.1 hv2.2 hv.1 hv.2
    · rw [if_neg (fun h => e h.1), ih j hj]
      unfold kAt
      by_cases h1 : 2 * j + 1 < p
      · rw [if_pos h1, if_pos (by omega)]
      · rw [if_neg h1]
        by_cases h2 : 2 * j < p
        · exfalso
          omega
        · rw [if_neg h2, if_neg (by omega), if_neg (by omega)]
theorem list_of_getD {l m : List Int} (hl : l.length = m.length) (h : ∀ j, j < l.length → l.getD j 0 = m.getD j 0) : l = m := by
  refine List.ext_getElem hl fun i h1 h2 => ?_
  have := h i h1
  simpa [h1, h2] using this
theorem kyS_isB (L : List Int) (p : Nat) (hp : p ≤ 64) (hd : ∀ i, i < p → isD (L.getD i 0) = true) : IsB (kyS L p) := by
  intro x hx
  obtain ⟨j, hj, rfl⟩ := List.getElem_of_mem hx
  have hj2 : j < 32 := by rw [kyS_len] at hj; exact hj
  have e : (kyS L p)[j] = (kyS L p).getD j 0 := by simp [hj]
  rw [e, kyS_at L p hp hd j hj2]
  unfold kAt
  split
  · have h1 := dv_rng (hd (2 * j) (by omega))
    have h2 := dv_rng (hd (2 * j + 1) (by omega))
    omega
  · split
    · have h1 := dv_rng (hd (2 * j) (by omega))
      omega
    · omega
/-- a key's text is digits, 64 of them -/
theorem txL_dig (K : List Int) (hK : IsB K) (i : Nat) (hi : i < 2 * K.length) : isD ((txL K).getD i 0) = true := by
  have h := txL_at K (i / 2) (by omega)
  have hb := hK.at_ (i / 2)
  rcases Nat.mod_two_eq_zero_or_one i with e | e
  · rw [show i = 2 * (i / 2) from by omega, h.1]
    exact hx_isD _ (by omega) (by omega)
  · rw [show i = 2 * (i / 2) + 1 from by omega, h.2]
    exact hx_isD _ (by omega) (by omega)
theorem kf_txL (K : List Int) (hl : K.length = 32) (hK : IsB K) : kf (txL K) = 64 :=
  kf_eq (fun i hi => txL_dig K hK i (by omega)) (Nat.le_refl _) (by rw [txL_len]; omega) (.inl rfl)
/-- a key's text is read as the key -/
theorem kyS_txL (K : List Int) (hl : K.length = 32) (hK : IsB K) : kyS (txL K) 64 = K := by
  refine list_of_getD (by rw [kyS_len, hl]) fun j hj => ?_
  rw [kyS_len] at hj
  rw [kyS_at _ 64 (Nat.le_refl _) (fun i hi => txL_dig K hK i (by omega)) j hj]
  have h := txL_at K j (by omega)
  have hb := hK.at_ j
  unfold kAt
  rw [if_pos (by omega), h.1, h.2, dv_hx _ (by omega) (by omega), dv_hx _ (by omega) (by omega)]
  omega
/-- what is read as a key is its text -/
theorem txL_kyS (L : List Int) (hl : L.length = 64) (hd : ∀ i, i < 64 → isD (L.getD i 0) = true) : txL (kyS L 64) = L := by
  refine list_of_getD (by rw [txL_len, kyS_len, hl]) fun i hi => ?_
  rw [txL_len, kyS_len] at hi
  have h := txL_at (kyS L 64) (i / 2) (by rw [kyS_len]; omega)
  have hk := kyS_at L 64 (Nat.le_refl _) hd (i / 2) (by omega)
  unfold kAt at hk
  rw [if_pos (by omega)] at hk
  have h1 := dv_rng (hd (2 * (i / 2)) (by omega))
  have h2 := dv_rng (hd (2 * (i / 2) + 1) (by omega))
  rcases Nat.mod_two_eq_zero_or_one i with e | e
  · have e2 : 2 * (i / 2) = i := by omega
    rw [e2] at h hk h1 h2
    rw [h.1, hk, show (16 * dv (L.getD i 0) + dv (L.getD (i + 1) 0)) / 16 = dv (L.getD i 0) from by omega]
    exact hx_dv (hd i (by omega))
  · have e2 : 2 * (i / 2) + 1 = i := by omega
    rw [e2] at h hk h2
    rw [h.2, hk, show (16 * dv (L.getD (2 * (i / 2)) 0) + dv (L.getD i 0)) % 16 = dv (L.getD i 0) from by omega]
    exact hx_dv (hd i (by omega))
/-- keys are in one order -/
theorem ltL_irr : ∀ A : List Int, ltL A A = false
  | [] => rfl
  | a :: x => by simp only [ltL, if_pos, ltL_irr x]
theorem ltL_at : ∀ (A B : List Int) (i : Nat), (∀ j, j < i → A.getD j 0 = B.getD j 0) → i < A.length → i < B.length → A.getD i 0 ≠ B.getD i 0 → ltL A B = decide (A.getD i 0 < B.getD i 0)
  | [], _, i, _, h, _, _ => by simp at h
  | _ :: _, [], i, _, _, h, _ => by simp at h
  | a :: x, b :: y, 0, _, _, _, h => by
    have h : a ≠ b := h
    simp only [ltL, if_neg h]
    rfl
  | a :: x, b :: y, i + 1, h1, h2, h3, h4 => by
    have h0 : a = b := h1 0 (by omega)
    simp only [ltL, if_pos h0]
    exact ltL_at x y i (fun j hj => h1 (j + 1) (by omega)) (by simpa using h2) (by simpa using h3) h4
theorem ltL_asym : ∀ A B : List Int, A.length = B.length → A ≠ B → ltL A B = !ltL B A
  | [], [], _, h => absurd rfl h
  | [], _ :: _, h, _ => by simp at h
  | _ :: _, [], h, _ => by simp at h
  | a :: x, b :: y, hl, hn => by
    by_cases e : a = b
    · subst e
      simp only [ltL, if_pos]
      exact ltL_asym x y (by simpa using hl) (fun h => hn (by rw [h]))
    · simp only [ltL, if_neg e, if_neg (Ne.symm e)]
      by_cases h : a < b
      · simp [h]; omega
      · simp [h]; omega
theorem ltL_trans : ∀ A B C : List Int, ltL A B = true → ltL B C = true → ltL A C = true
  | [], _, _, h, _ => by simp [ltL] at h
  | _ :: _, [], _, h, _ => by simp [ltL] at h
  | _ :: _, _ :: _, [], _, h => by simp [ltL] at h
  | a :: x, b :: y, c :: z, h1, h2 => by
    simp only [ltL] at h1 h2 ⊢
    split at h1
    · rename_i e1
      subst e1
      split at h2
      · rename_i e2
        subst e2
        rw [if_pos rfl]
        exact ltL_trans x y z h1 h2
      · rename_i e2
        rw [if_neg e2]
        exact h2
    · rename_i e1
      split at h2
      · rename_i e2
        subst e2
        rw [if_neg e1]
        exact h1
      · simp at h1 h2
        rw [if_neg (by omega)]
        simp
        omega
/-- a fingerprint as the document cuts it -/
theorem fpL_cut (H : List Int) (hl : 8 ≤ H.length) : fpL H 8 = (txL (H.take 8)).take 4 ++ [45] ++ ((txL (H.take 8)).drop 4).take 4 ++ [45] ++ ((txL (H.take 8)).drop 8).take 4 ++ [45] ++ (txL (H.take 8)).drop 12 := by
  match H, hl with
  | a :: b :: c :: d :: e :: f :: g :: h :: r, _ => rfl
theorem fpL_len (H : List Int) : (fpL H 8).length = 19 := rfl
end Go.Proofs.YtpmgmpihmpifgaaDoor
