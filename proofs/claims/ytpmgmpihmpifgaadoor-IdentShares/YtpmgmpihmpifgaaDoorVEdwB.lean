/-
  Several texts in one.
-/
import Derived.Test.YtpmgmpihmpifgaaDoorVEdwA
/-
  Plain facts, of no program: as many times a point as there are points is the zero.
-/
namespace Go.Proofs.YtpmgmpihmpifgaaDoor.Ed
open Go.Proofs.YtpmgmpihmpifgaaDoor.Pr
set_option maxRecDepth 100000

deriving instance DecidableEq for Pt

theorem perm_of : ∀ (l l' : List Pt), l.Nodup → (∀ x ∈ l, x ∈ l') → l'.length ≤ l.length → l.Perm l'
  | [], l', _, _, hl => by
    have : l' = [] := List.length_eq_zero_iff.1 (by simpa using hl)
    rw [this]
  | a :: t, l', hn, hs, hl => by
    have ha : a ∈ l' := hs a (by simp)
    have hn2 := List.nodup_cons.1 hn
    have h1 : t.Perm (l'.erase a) := by
      refine perm_of t _ hn2.2 ?_ ?_
      · intro x hx
        have hne : x ≠ a := fun e => hn2.1 (e ▸ hx)
        exact (List.mem_erase_of_ne hne).2 (hs x (List.mem_cons_of_mem _ hx))
      · rw [List.length_erase_of_mem ha]
        simp only [List.length_cons] at hl
        omega
    exact (h1.cons a).trans (List.perm_cons_erase ha).symm

/-- the sum of a list of points -/
def sum (d : Int) : List Pt → Pt
  | [] => zero
  | P :: l => add d P (sum d l)
theorem sum_on {d : Int} (hd : NS d) : ∀ l : List Pt, (∀ x ∈ l, On d x) → On d (sum d l)
  | [], _ => zero_on d
  | P :: l, h => add_on hd (h P (by simp)) (sum_on hd l fun x hx => h x (List.mem_cons_of_mem _ hx))
theorem sum_rd (d : Int) : ∀ l : List Pt, Rd (sum d l)
  | [] => zero_rd
  | _ :: _ => add_rd _ _ _
theorem sum_perm {d : Int} (hd : NS d) {l l' : List Pt} (h : l.Perm l') : (∀ x ∈ l, On d x) → sum d l = sum d l' := by
  induction h with
  | nil => intro _; rfl
  | cons a _ ih =>
    intro ho
    show add d a _ = add d a _
    rw [ih fun x hx => ho x (List.mem_cons_of_mem _ hx)]
  | swap a b l =>
    intro ho
    have h1 := ho a (by simp)
    have h2 := ho b (by simp)
    have h3 := sum_on hd l fun x hx => ho x (List.mem_cons_of_mem _ (List.mem_cons_of_mem _ hx))
    show add d b (add d a (sum d l)) = add d a (add d b (sum d l))
    rw [← add_assoc hd h2 h1 h3, ← add_assoc hd h1 h2 h3, add_comm d a b]
  | trans h1 _ ih1 ih2 =>
    intro ho
    rw [ih1 ho, ih2 fun x hx => ho x (h1.mem_iff.2 hx)]
theorem sum_move {d : Int} {P : Pt} (hd : NS d) (hP : On d P) : ∀ l : List Pt, (∀ x ∈ l, On d x) → sum d (l.map fun x => add d x P) = add d (sum d l) (mul d l.length P)
  | [], _ => (zero_add hd (zero_on d) zero_rd).symm
  | Q :: l, h => by
    have h1 := h Q (by simp)
    have h2 : ∀ x ∈ l, On d x := fun x hx => h x (List.mem_cons_of_mem _ hx)
    have h3 := sum_on hd l h2
    have h4 := mul_on hd hP l.length
    show add d (add d Q P) (sum d (l.map fun x => add d x P)) = add d (add d Q (sum d l)) (add d (mul d l.length P) P)
    rw [sum_move hd hP l h2, add_assoc hd h1 hP (add_on hd h3 h4), add_assoc hd h1 h3 (add_on hd h4 hP), add_comm d P, add_assoc hd h3 h4 hP]
theorem back2 {d : Int} {P Q : Pt} (hd : NS d) (hP : On d P) (hQ : On d Q) (hr : Rd Q) : add d (add d Q P) (neg P) = Q := by
  rw [add_comm d Q P]
  exact back hd hQ hr hP
/-- the list of all points -/
def All (d : Int) (l : List Pt) : Prop := l.Nodup ∧ ∀ P, P ∈ l ↔ On d P ∧ Rd P
theorem lagrange {d : Int} {P : Pt} {l : List Pt} (hd : NS d) (hl : All d l) (hP : On d P) : mul d l.length P = zero := by
  obtain ⟨hn, hm⟩ := hl
  have ho : ∀ x ∈ l, On d x := fun x hx => ((hm x).1 hx).1
  have hp : (l.map fun x => add d x P).Perm l := by
    refine perm_of _ _ ?_ ?_ ?_
    · refine List.pairwise_map.2 (List.Pairwise.imp_of_mem ?_ hn)
      intro a b ha hb hab e
      apply hab
      rw [← back2 hd hP (ho a ha) ((hm a).1 ha).2, e, back2 hd hP (ho b hb) ((hm b).1 hb).2]
    · intro x hx
      obtain ⟨y, hy, rfl⟩ := List.mem_map.1 hx
      exact (hm _).2 ⟨add_on hd (ho y hy) hP, add_rd _ _ _⟩
    · rw [List.length_map]
      exact Nat.le_refl _
  have ho2 : ∀ x ∈ (l.map fun x => add d x P), On d x := fun x hx => ho x (hp.mem_iff.1 hx)
  have h1 := sum_perm hd hp ho2
  rw [sum_move hd hP l ho] at h1
  have h2 := back hd (mul_on hd hP l.length) (mul_rd d P _) (sum_on hd l ho)
  rw [h1, add_neg hd (sum_on hd l ho)] at h2
  exact h2.symm
end Go.Proofs.YtpmgmpihmpifgaaDoor.Ed

/-
  Plain facts, of no program: how many roots a number has; t and D1 t have two together.
-/
namespace Go.Proofs.YtpmgmpihmpifgaaDoor.Ed
open Go.Proofs.YtpmgmpihmpifgaaDoor.Pr
set_option maxRecDepth 100000

theorem len_le {α : Type} [DecidableEq α] : ∀ (l l' : List α), l.Nodup → (∀ x ∈ l, x ∈ l') → l.length ≤ l'.length
  | [], _, _, _ => Nat.zero_le _
  | a :: t, l', hn, hs => by
    have ha : a ∈ l' := hs a (by simp)
    have hn2 := List.nodup_cons.1 hn
    have h1 := len_le t (l'.erase a) hn2.2 (fun x hx => (List.mem_erase_of_ne (show x ≠ a from fun e => hn2.1 (e ▸ hx))).2 (hs x (List.mem_cons_of_mem _ hx)))
    rw [List.length_erase_of_mem ha] at h1
    have h2 := List.length_pos_of_mem ha
    simp only [List.length_cons]
    omega
theorem len_eq {α : Type} [DecidableEq α] (l l' : List α) (h1 : l.Nodup) (h2 : l'.Nodup) (h : ∀ x, x ∈ l ↔ x ∈ l') : l.length = l'.length :=
  Nat.le_antisymm (len_le l l' h1 fun x => (h x).1) (len_le l' l h2 fun x => (h x).2)

theorem as_lt (z : Int) : ∃ k : Nat, k < PP ∧ p ∣ z - (k : Int) := by
  obtain ⟨k, hk⟩ := Int.eq_ofNat_of_zero_le (Int.emod_nonneg z (show p ≠ 0 by decide))
  have h1 := Int.emod_lt_of_pos z (show 0 < p by decide)
  refine ⟨k, ?_, ?_⟩
  · rw [hk, p_PP] at h1
    exact Int.ofNat_lt.1 h1
  · have := mod_sub z
    rw [hk] at this
    have := Int.dvd_neg.2 this
    rwa [show -((k : Int) - z) = z - k from by omega] at this
theorem lt_eq {j k : Nat} (hj : j < PP) (hk : k < PP) (h : p ∣ (j : Int) - k) : j = k := by
  have h1 : (j : Int) < p := by rw [p_PP]; exact Int.ofNat_lt.2 hj
  have h2 : (k : Int) < p := by rw [p_PP]; exact Int.ofNat_lt.2 hk
  have := eq_of ⟨Int.natCast_nonneg j, h1⟩ ⟨Int.natCast_nonneg k, h2⟩ h
  exact Int.ofNat_inj.1 this

/-- how many roots -/
def rc (t : Int) : Nat := ((List.range PP).filter fun x : Nat => decide (p ∣ (x : Int) * x - t)).length
theorem rc_of {t : Int} (l : List Nat) (hn : l.Nodup) (h : ∀ x : Nat, x ∈ l ↔ x < PP ∧ p ∣ (x : Int) * x - t) : rc t = l.length := by
  unfold rc
  refine len_eq _ _ (List.Pairwise.filter _ List.nodup_range) hn ?_
  intro x
  rw [h x, List.mem_filter, List.mem_range, decide_eq_true_iff]
theorem rc_zero {t : Int} (ht : p ∣ t) : rc t = 1 := by
  refine rc_of [0] (by simp) ?_
  intro x
  constructor
  · intro h
    have : x = 0 := by simpa using h
    subst this
    refine ⟨by decide +kernel, ?_⟩
    rw [show ((0 : Nat) : Int) * ((0 : Nat) : Int) - t = -t from by simp]
    exact Int.dvd_neg.2 ht
  · rintro ⟨h1, h2⟩
    have h3 := Int.dvd_add h2 ht
    rw [show (x : Int) * x - t + t = x * x from by omega] at h3
    have h4 : p ∣ (x : Int) := by rcases prime_int h3 with h | h <;> exact h
    have : x = 0 := lt_eq h1 (by decide +kernel) (by rwa [show (x : Int) - ((0 : Nat) : Int) = x from by simp])
    simp [this]
theorem rc_none {t : Int} (h : ∀ r : Int, ¬ p ∣ r * r - t) : rc t = 0 := by
  refine rc_of [] (by simp) ?_
  intro x
  constructor
  · intro h; simp at h
  · rintro ⟨_, h2⟩
    exact absurd h2 (h _)
theorem rc_two {t r : Int} (ht : ¬ p ∣ t) (hr : p ∣ r * r - t) : rc t = 2 := by
  obtain ⟨k, hk, hrk⟩ := as_lt r
  have hk2 : p ∣ (k : Int) * k - t := by
    rw [show (k : Int) * k - t = (r * r - t) - (r - k) * (r + k) from by grind]
    exact Int.dvd_sub hr (Int.dvd_mul_of_dvd_left hrk)
  have hk0 : k ≠ 0 := by
    intro e
    subst e
    apply ht
    have := Int.dvd_neg.2 hk2
    rwa [show -(((0 : Nat) : Int) * ((0 : Nat) : Int) - t) = t from by simp] at this
  have hcast : ((PP - k : Nat) : Int) = p - k := by rw [p_PP]; omega
  have hPP : PP % 2 = 1 := by decide +kernel
  refine rc_of [k, PP - k] ?_ ?_
  · have : k ≠ PP - k := by omega
    simp [this]
  · intro x
    constructor
    · intro h
      have h' : x = k ∨ x = PP - k := by simpa using h
      rcases h' with e | e
      · subst e; exact ⟨hk, hk2⟩
      · subst e
        refine ⟨by omega, ?_⟩
        rw [hcast, show (p - (k : Int)) * (p - k) - t = ((k : Int) * k - t) + p * (p - 2 * k) from by generalize p = q; grind]
        exact Int.dvd_add hk2 ⟨_, rfl⟩
    · rintro ⟨h1, h2⟩
      have h3 := Int.dvd_sub h2 hk2
      rw [show (x : Int) * x - t - ((k : Int) * k - t) = (x - k) * (x + k) from by grind] at h3
      rcases prime_int h3 with h | h
      · have := lt_eq h1 hk h
        simp [this]
      · have : x = PP - k := by
          refine lt_eq h1 (by omega) ?_
          rw [hcast, show (x : Int) - (p - k) = (x + k) - p * 1 from by omega]
          exact Int.dvd_sub h ⟨1, rfl⟩
        simp [this]
/-- two together -/
theorem rc_both (t : Int) : rc t + rc (D1 * t) = 2 := by
  by_cases ht : p ∣ t
  · rw [rc_zero ht, rc_zero (Int.dvd_mul_of_dvd_right ht)]
  · have hd := not_mul d1_ne ht
    have hno : ∀ r s : Int, p ∣ r * r - t → p ∣ s * s - D1 * t → False := by
      intro r s hr hs
      have h1 : p ∣ s * s - D1 * (r * r) := by
        rw [show s * s - D1 * (r * r) = (s * s - D1 * t) - D1 * (r * r - t) from by generalize D1 = d; grind]
        exact Int.dvd_sub hs (Int.dvd_mul_of_dvd_right hr)
      have h2 : ¬ p ∣ r := by
        intro h
        apply ht
        have hq : p ∣ r * r := Int.dvd_mul_of_dvd_left h
        have := Int.dvd_sub hq hr
        rwa [show r * r - (r * r - t) = t from by omega] at this
      obtain ⟨q, hq⟩ := square_of h1 h2
      exact ns1 q hq
    obtain ⟨r, hr | hr⟩ := root_or t
    · rw [rc_two ht hr, rc_none fun s hs => hno r s hr hs]
    · rw [rc_two hd hr, rc_none fun s hs => hno s r hs hr]
end Go.Proofs.YtpmgmpihmpifgaaDoor.Ed

/-
  Plain facts, of no program: the points of both curves, counted together.
-/
namespace Go.Proofs.YtpmgmpihmpifgaaDoor.Ed
open Go.Proofs.YtpmgmpihmpifgaaDoor.Pr
set_option maxRecDepth 100000

theorem perm_any {α : Type} [DecidableEq α] : ∀ (l l' : List α), l.Nodup → (∀ x ∈ l, x ∈ l') → l'.length ≤ l.length → l.Perm l'
  | [], l', _, _, hl => by
    have : l' = [] := List.length_eq_zero_iff.1 (by simpa using hl)
    rw [this]
  | a :: t, l', hn, hs, hl => by
    have ha : a ∈ l' := hs a (by simp)
    have hn2 := List.nodup_cons.1 hn
    have h1 : t.Perm (l'.erase a) := by
      refine perm_any t _ hn2.2 ?_ ?_
      · intro x hx
        have hne : x ≠ a := fun e => hn2.1 (e ▸ hx)
        exact (List.mem_erase_of_ne hne).2 (hs x (List.mem_cons_of_mem _ hx))
      · rw [List.length_erase_of_mem ha]
        simp only [List.length_cons] at hl
        omega
    exact (h1.cons a).trans (List.perm_cons_erase ha).symm

/-- the points of one y -/
def col (d : Int) (y : Nat) : List Pt := ((List.range PP).filter fun x : Nat => decide (p ∣ C d (x : Int) (y : Int))).map fun x : Nat => (⟨(x : Int), (y : Int)⟩ : Pt)
def pts (d : Int) : List Pt := (List.range PP).flatMap (col d)
theorem mem_col {d : Int} {y : Nat} {P : Pt} : P ∈ col d y ↔ ∃ x : Nat, (x < PP ∧ p ∣ C d (x : Int) (y : Int)) ∧ (⟨(x : Int), (y : Int)⟩ : Pt) = P := by
  unfold col
  rw [List.mem_map]
  constructor
  · rintro ⟨x, hx, e⟩
    rw [List.mem_filter, List.mem_range, decide_eq_true_iff] at hx
    exact ⟨x, hx, e⟩
  · rintro ⟨x, hx, e⟩
    refine ⟨x, ?_, e⟩
    rw [List.mem_filter, List.mem_range, decide_eq_true_iff]
    exact hx
theorem pts_all (d : Int) : All d (pts d) := by
  constructor
  · unfold pts
    refine List.pairwise_flatMap.2 ⟨?_, ?_⟩
    · intro y _
      refine List.pairwise_map.2 (List.Pairwise.imp ?_ (List.Pairwise.filter _ List.nodup_range))
      intro a b hab e
      apply hab
      exact Int.ofNat_inj.1 (congrArg Pt.x e)
    · refine List.Pairwise.imp ?_ (List.nodup_range (n := PP))
      intro a b hab P hP Q hQ e
      obtain ⟨x, _, h1⟩ := mem_col.1 hP
      obtain ⟨x', _, h2⟩ := mem_col.1 hQ
      apply hab
      rw [← h1, ← h2] at e
      exact Int.ofNat_inj.1 (congrArg Pt.y e)
  · intro P
    unfold pts
    rw [List.mem_flatMap]
    constructor
    · rintro ⟨y, hy, h⟩
      obtain ⟨x, ⟨hx, hC⟩, e⟩ := mem_col.1 h
      rw [List.mem_range] at hy
      subst e
      refine ⟨hC, ⟨⟨Int.natCast_nonneg _, ?_⟩, ⟨Int.natCast_nonneg _, ?_⟩⟩⟩
      · rw [p_PP]; exact Int.ofNat_lt.2 hx
      · rw [p_PP]; exact Int.ofNat_lt.2 hy
    · rintro ⟨hC, ⟨⟨a1, a2⟩, ⟨b1, b2⟩⟩⟩
      obtain ⟨X, Y⟩ := P
      simp only at a1 a2 b1 b2
      obtain ⟨x, rfl⟩ := Int.eq_ofNat_of_zero_le a1
      obtain ⟨y, rfl⟩ := Int.eq_ofNat_of_zero_le b1
      rw [p_PP] at a2 b2
      exact ⟨y, List.mem_range.2 (Int.ofNat_lt.1 b2), mem_col.2 ⟨x, ⟨Int.ofNat_lt.1 a2, hC⟩, rfl⟩⟩

def cnt (d : Int) (y : Nat) : Nat := (col d y).length
theorem len_pts (d : Int) : (pts d).length = ((List.range PP).map (cnt d)).sum := by
  unfold pts
  rw [List.length_flatMap]
  rfl
theorem cnt_rc {d t : Int} {y : Nat} (h : ∀ x : Int, p ∣ C d x (y : Int) ↔ p ∣ x * x - t) : cnt d y = rc t := by
  unfold cnt col rc
  rw [List.length_map]
  generalize List.range PP = l
  have e : (l.filter fun x : Nat => decide (p ∣ C d (x : Int) (y : Int))) = l.filter fun x : Nat => decide (p ∣ (x : Int) * x - t) :=
    List.filter_congr fun x _ => decide_eq_decide.2 (h x)
  rw [e]

/-- the inverse, among the numbers below the prime -/
def iv (y : Nat) : Nat := (inv (y : Int) % p).toNat
theorem iv_cast (y : Nat) : ((iv y : Nat) : Int) = inv (y : Int) % p := Int.toNat_of_nonneg (Int.emod_nonneg _ (by decide))
theorem iv_lt (y : Nat) : iv y < PP := by
  have h := Int.emod_lt_of_pos (inv (y : Int)) (show 0 < p by decide)
  rw [← iv_cast, p_PP] at h
  exact Int.ofNat_lt.1 h
theorem nd {y : Nat} (h : y < PP) (h0 : y ≠ 0) : ¬ p ∣ (y : Int) := by
  intro hd
  apply h0
  refine lt_eq h (by decide +kernel) ?_
  rw [show (y : Int) - ((0 : Nat) : Int) = y from by simp]
  exact hd
theorem iv_ok {y : Nat} (h : y < PP) (h0 : y ≠ 0) : p ∣ (y : Int) * (iv y : Int) - 1 := by
  have h1 := inv_ok _ (nd h h0)
  have h2 := mod_sub (inv (y : Int))
  rw [← iv_cast] at h2
  generalize inv (y : Int) = w at *
  rw [show (y : Int) * (iv y : Int) - 1 = (y * w - 1) + y * (iv y - w) from by grind]
  exact Int.dvd_add h1 (Int.dvd_mul_of_dvd_right h2)
theorem iv_zero : iv 0 = 0 := by
  unfold iv
  rw [inv_zero (z := ((0 : Nat) : Int)) ⟨0, rfl⟩]
  rfl
theorem iv_inj {y z : Nat} (hy : y < PP) (hz : z < PP) (h : iv y = iv z) : y = z := by
  by_cases y0 : y = 0
  · by_cases z0 : z = 0
    · rw [y0, z0]
    · exfalso
      have h2 := iv_ok hz z0
      rw [← h, y0, iv_zero] at h2
      apply not_one
      have := Int.dvd_neg.2 h2
      rwa [show -((z : Int) * ((0 : Nat) : Int) - 1) = 1 from by simp] at this
  · have h1 := iv_ok hy y0
    by_cases z0 : z = 0
    · exfalso
      rw [h, z0, iv_zero] at h1
      apply not_one
      have := Int.dvd_neg.2 h1
      rwa [show -((y : Int) * ((0 : Nat) : Int) - 1) = 1 from by simp] at this
    · have h2 := iv_ok hz z0
      rw [← h] at h2
      generalize (iv y : Int) = w at *
      refine lt_eq hy hz ?_
      rw [show (y : Int) - z = (z * w - 1) * -y + (y * w - 1) * z from by grind]
      exact Int.dvd_add (Int.dvd_mul_of_dvd_left h2) (Int.dvd_mul_of_dvd_left h1)
theorem iv_perm : ((List.range PP).map iv).Perm (List.range PP) := by
  refine perm_any _ _ ?_ ?_ ?_
  · refine List.pairwise_map.2 (List.Pairwise.imp_of_mem ?_ List.nodup_range)
    intro a b ha hb hab e
    exact hab (iv_inj (List.mem_range.1 ha) (List.mem_range.1 hb) e)
  · intro x hx
    obtain ⟨y, _, rfl⟩ := List.mem_map.1 hx
    exact List.mem_range.2 (iv_lt y)
  · rw [List.length_map]
    exact Nat.le_refl _
theorem sums (f g : Nat → Nat) : ∀ n, (∀ y, y < n → f y + g y = if y = 0 then 4 else 2) → ((List.range n).map f).sum + ((List.range n).map g).sum = if n = 0 then 0 else 2 * n + 2
  | 0, _ => by simp
  | n + 1, h => by
    have ih := sums f g n fun y hy => h y (by omega)
    have h1 := h n (by omega)
    rw [List.range_succ, List.map_append, List.map_append, List.sum_append, List.sum_append]
    simp only [List.map_cons, List.map_nil, List.sum_cons, List.sum_nil]
    split at ih <;> split at h1 <;> split <;> omega

theorem cnt_nil (d : Int) : cnt d 0 = 2 := by
  rw [cnt_rc (t := 1), rc_two not_one (r := 1) ⟨0, by decide⟩]
  intro x
  rw [show C d x ((0 : Nat) : Int) = x * x - 1 from by unfold C; simp only [Int.natCast_zero]; grind]
theorem cnt_two {y : Nat} (h : y < PP) (h0 : y ≠ 0) : cnt D1 y + cnt D2 (iv y) = 2 := by
  have hw := iv_ok h h0
  have hy := nd h h0
  have n := ns_y ns1 (y : Int)
  have i3 := inv_ok _ n
  have hd := d12
  have hd0 := not_mul d1_ne (not_mul hy hy)
  rw [← rc_both ((1 - (y : Int) * y) * inv (1 - D1 * y * y)), cnt_rc (d := D1) (t := (1 - (y : Int) * y) * inv (1 - D1 * y * y)), cnt_rc (d := D2) (t := D1 * ((1 - (y : Int) * y) * inv (1 - D1 * y * y)))]
  · intro r
    generalize inv (1 - D1 * y * y) = m at *
    generalize D1 = d at *
    generalize D2 = d' at *
    generalize (iv y : Int) = y' at *
    generalize (y : Int) = y at *
    have e : d * (y * y) * C d' r y' = ((y * y' - 1) * ((y * y' + 1) * (d - r * r)) - (d * d' - 1) * (r * r * (y * y') * (y * y')))
        - ((r * r - d * ((1 - y * y) * m)) * (1 - d * y * y) + ((1 - d * y * y) * m - 1) * (d * (1 - y * y))) := by unfold C; grind
    have hA : p ∣ (y * y' - 1) * ((y * y' + 1) * (d - r * r)) - (d * d' - 1) * (r * r * (y * y') * (y * y')) := Int.dvd_sub (Int.dvd_mul_of_dvd_left hw) (Int.dvd_mul_of_dvd_left hd)
    have hB : p ∣ ((1 - d * y * y) * m - 1) * (d * (1 - y * y)) := Int.dvd_mul_of_dvd_left i3
    constructor
    · intro hC
      have h1 : p ∣ d * (y * y) * C d' r y' := Int.dvd_mul_of_dvd_right hC
      refine cancel n ?_
      rw [show (1 - d * y * y) * (r * r - d * ((1 - y * y) * m)) = ((y * y' - 1) * ((y * y' + 1) * (d - r * r)) - (d * d' - 1) * (r * r * (y * y') * (y * y'))) - ((1 - d * y * y) * m - 1) * (d * (1 - y * y)) - d * (y * y) * C d' r y' from by rw [e]; grind]
      exact Int.dvd_sub (Int.dvd_sub hA hB) h1
    · intro hr
      refine cancel hd0 ?_
      rw [e]
      exact Int.dvd_sub hA (Int.dvd_add (Int.dvd_mul_of_dvd_left hr) hB)
  · intro r
    generalize inv (1 - D1 * y * y) = m at *
    generalize D1 = d at *
    generalize (y : Int) = y at *
    have e : C d r y = (r * r - (1 - y * y) * m) * (1 - d * y * y) + ((1 - d * y * y) * m - 1) * (1 - y * y) := by unfold C; grind
    have hB : p ∣ ((1 - d * y * y) * m - 1) * (1 - y * y) := Int.dvd_mul_of_dvd_left i3
    constructor
    · intro hC
      refine cancel n ?_
      rw [show (1 - d * y * y) * (r * r - (1 - y * y) * m) = C d r y - ((1 - d * y * y) * m - 1) * (1 - y * y) from by rw [e]; grind]
      exact Int.dvd_sub hC hB
    · intro hr
      rw [e]
      exact Int.dvd_add (Int.dvd_mul_of_dvd_left hr) hB
/-- both curves have 2 p + 2 points together -/
theorem both_count : (pts D1).length + (pts D2).length = 2 * PP + 2 := by
  rw [len_pts, len_pts, ← (iv_perm.map (cnt D2)).sum_nat, List.map_map]
  have h := sums (cnt D1) (cnt D2 ∘ iv) PP ?_
  · rw [h, if_neg (by decide +kernel)]
  · intro y hy
    by_cases h0 : y = 0
    · subst h0
      rw [if_pos rfl, Function.comp_apply, iv_zero, cnt_nil, cnt_nil]
    · rw [if_neg h0, Function.comp_apply]
      exact cnt_two hy h0
end Go.Proofs.YtpmgmpihmpifgaaDoor.Ed

/-
  Plain facts, of no program: the primes of both curves' orders.
-/
namespace Go.Proofs.YtpmgmpihmpifgaaDoor.Ed
open Go.Proofs.YtpmgmpihmpifgaaDoor.Pr
set_option maxRecDepth 100000

theorem q28859 : IsP 28859 := isP_small (k := 170) (by omega) (by omega) (by decide +kernel)
theorem q2281 : IsP 2281 := isP_small (k := 48) (by omega) (by omega) (by decide +kernel)
theorem o1 : IsP 5171003929967 := by
  refine pockm 28 (F := 28859 * (2281 * 1)) (x := 3802426853813) (L := [28859, 2281]) (by decide) (by decide) (by decide)
    (by decide +kernel) (by decide) (cover_mul q28859 (cover_mul q2281 cover_one)) (by decide +kernel) (by decide +kernel)
theorem o2 : IsP 22561162540501040539 := by
  refine pockm 45 (F := 5171003929967 * 1) (x := 1881923577665948218) (L := [5171003929967]) (by decide) (by decide) (by decide)
    (by decide +kernel) (by decide) (cover_mul o1 cover_one) (by decide +kernel) (by decide +kernel)
theorem q8053 : IsP 8053 := isP_small (k := 90) (by omega) (by omega) (by decide +kernel)
theorem q3911 : IsP 3911 := isP_small (k := 63) (by omega) (by omega) (by decide +kernel)
theorem o3 : IsP 1013266244677 := by
  refine pockm 27 (F := 8053 * (3911 * 1)) (x := 484471897703) (L := [8053, 3911]) (by decide) (by decide) (by decide)
    (by decide +kernel) (by decide) (cover_mul q8053 (cover_mul q3911 cover_one)) (by decide +kernel) (by decide +kernel)
theorem o4 : IsP 203852586375664218368381551393371968928013 := by
  refine pockm 107 (F := 22561162540501040539 * (1013266244677 * 1)) (x := 94930959057102947935939901771808483782174) (L := [22561162540501040539, 1013266244677]) (by decide) (by decide) (by decide)
    (by decide +kernel) (by decide) (cover_mul o2 (cover_mul o3 cover_one)) (by decide +kernel) (by decide +kernel)
theorem o5 : IsP 104719073621178708975837602950775180438320278101 := by
  refine pockm 140 (F := 203852586375664218368381551393371968928013 * 1) (x := 40201969824907835965098388450003519734389074471) (L := [203852586375664218368381551393371968928013]) (by decide) (by decide) (by decide)
    (by decide +kernel) (by decide) (cover_mul o4 cover_one) (by decide +kernel) (by decide +kernel)
theorem o6 : IsP 27413359092552162435694767700453926735143482401279781 := by
  refine pockm 159 (F := 104719073621178708975837602950775180438320278101 * 1) (x := 6041092171163918423393132352399868606647826176154689) (L := [104719073621178708975837602950775180438320278101]) (by decide) (by decide) (by decide)
    (by decide +kernel) (by decide) (cover_mul o5 cover_one) (by decide +kernel) (by decide +kernel)
/-- the second order is 4 times this -/
def l2 : Nat := 14474011154664524427946373126085988481603263447650325797860494125407373907997
theorem lp2 : IsP 14474011154664524427946373126085988481603263447650325797860494125407373907997 := by
  refine pockm 177 (F := 27413359092552162435694767700453926735143482401279781 * 1) (x := 3680285710178017958321162512429685261641070754575808221617538005008727093239) (L := [27413359092552162435694767700453926735143482401279781]) (by decide) (by decide) (by decide)
    (by decide +kernel) (by decide) (cover_mul o6 cover_one) (by decide +kernel) (by decide +kernel)
theorem q1224481 : IsP 1224481 := isP_small (k := 1107) (by omega) (by omega) (by decide +kernel)
theorem q531581 : IsP 531581 := isP_small (k := 730) (by omega) (by omega) (by decide +kernel)
theorem o8 : IsP 1257559732178653 := by
  refine pockm 42 (F := 1224481 * (531581 * 1)) (x := 896025394887893) (L := [1224481, 531581]) (by decide) (by decide) (by decide)
    (by decide +kernel) (by decide) (cover_mul q1224481 (cover_mul q531581 cover_one)) (by decide +kernel) (by decide +kernel)
theorem o9 : IsP 4434155615661930479 := by
  refine pockm 53 (F := 1257559732178653 * 1) (x := 415787812636281767) (L := [1257559732178653]) (by decide) (by decide) (by decide)
    (by decide +kernel) (by decide) (cover_mul o8 cover_one) (by decide +kernel) (by decide +kernel)
theorem o10 : IsP 172054593956031949258510691 := by
  refine pockm 64 (F := 4434155615661930479 * 1) (x := 81982237619807054769897707) (L := [4434155615661930479]) (by decide) (by decide) (by decide)
    (by decide +kernel) (by decide) (cover_mul o9 cover_one) (by decide +kernel) (by decide +kernel)
theorem o11 : IsP 19757330305831588566944191468367130476339 := by
  refine pockm 90 (F := 172054593956031949258510691 * 1) (x := 9148758478138211201771971577098600188172) (L := [172054593956031949258510691]) (by decide) (by decide) (by decide)
    (by decide +kernel) (by decide) (cover_mul o10 cover_one) (by decide +kernel) (by decide +kernel)
theorem o12 : IsP 276602624281642239937218680557139826668747 := by
  refine pockm 136 (F := 19757330305831588566944191468367130476339 * 1) (x := 16384) (L := [19757330305831588566944191468367130476339]) (by decide) (by decide) (by decide)
    (by decide +kernel) (by decide) (cover_mul o11 cover_one) (by decide +kernel) (by decide +kernel)
/-- the first order is 8 times this -/
def l1 : Nat := 7237005577332262213973186563042994240857116359379907606001950938285454250989
theorem lp : IsP 7237005577332262213973186563042994240857116359379907606001950938285454250989 := by
  refine pockm 140 (F := 276602624281642239937218680557139826668747 * 1) (x := 2975531125133123119648879457563281269120703404158613135195788908093573672641) (L := [276602624281642239937218680557139826668747]) (by decide) (by decide) (by decide)
    (by decide +kernel) (by decide) (cover_mul o12 cover_one) (by decide +kernel) (by decide +kernel)

end Go.Proofs.YtpmgmpihmpifgaaDoor.Ed

/-
  Plain facts, of no program: what both counts can be; a point's order, if it is a prime, divides the count.
-/
namespace Go.Proofs.YtpmgmpihmpifgaaDoor.Ed
open Go.Proofs.YtpmgmpihmpifgaaDoor.Pr
set_option maxRecDepth 100000

theorem few : ∀ a : Fin 17, a.val ≠ 16 → (2 * PP + 2 - a.val * l1) % l2 = 0 → a.val = 8 := by decide +kernel
theorem big : 2 * PP + 2 < 17 * l1 := by decide +kernel
theorem sixteen : 2 * PP + 2 < 16 * l1 + l2 := by decide +kernel
theorem eight : 2 * PP + 2 = 8 * l1 + 4 * l2 := by decide +kernel
theorem l2_pos : 0 < l2 := by decide +kernel
/-- what both counts can be -/
theorem one_way (a b : Nat) (h : a * l1 + b * l2 = 2 * PP + 2) (hb : b ≠ 0) : a = 8 ∧ b = 4 := by
  have h1 : a < 17 := by
    apply Classical.byContradiction
    intro hn
    have := Nat.mul_le_mul_right l1 (show 17 ≤ a by omega)
    have := big
    omega
  have h2 : a ≠ 16 := by
    intro e
    subst e
    have := Nat.mul_le_mul_right l2 (show 1 ≤ b by omega)
    have := sixteen
    omega
  have h3 : (2 * PP + 2 - a * l1) % l2 = 0 := by
    rw [← h, Nat.add_sub_cancel_left]
    exact Nat.mul_mod_left b l2
  have ha : a = 8 := few ⟨a, h1⟩ h2 h3
  subst ha
  refine ⟨rfl, ?_⟩
  rw [eight] at h
  exact Nat.eq_of_mul_eq_mul_right l2_pos (by omega)
theorem mul_zero_pt {d : Int} (hd : NS d) : ∀ n, mul d n zero = zero
  | 0 => rfl
  | n + 1 => by
    show add d (mul d n zero) zero = zero
    rw [mul_zero_pt hd n]
    exact zero_add hd (zero_on d) zero_rd
/-- coprime numbers do not both make zero of a point -/
theorem both_zero {d : Int} {P : Pt} (hd : NS d) (hP : On d P) : ∀ m n, mul d m P = zero → mul d n P = zero → mul d (Nat.gcd m n) P = zero := by
  intro m n
  induction m, n using Nat.gcd.induction with
  | H0 n => intro _ h; rw [Nat.gcd_zero_left]; exact h
  | H1 m n _ ih =>
    intro hm hn
    rw [Nat.gcd_rec]
    refine ih ?_ hm
    have h1 : mul d (m * (n / m) + n % m) P = zero := by rw [Nat.div_add_mod]; exact hn
    rw [mul_add hd hP, Nat.mul_comm m, ← mul_mul hd hP, hm, mul_zero_pt hd, zero_add hd (mul_on hd hP _) (mul_rd d P _)] at h1
    exact h1
theorem divides {d : Int} {P : Pt} {l n : Nat} (hd : NS d) (hP : On d P) (hr : Rd P) (hl : IsP l) (h0 : P ≠ zero) (h1 : mul d l P = zero) (h2 : mul d n P = zero) : l ∣ n := by
  apply Classical.byContradiction
  intro hn
  have hc := hl.coprime hn
  have h3 := both_zero hd hP n l h2 h1
  rw [hc, mul_one hd hP hr] at h3
  exact h0 h3
end Go.Proofs.YtpmgmpihmpifgaaDoor.Ed

/-
  Plain facts, of no program: sums of points reckoned.
-/
namespace Go.Proofs.YtpmgmpihmpifgaaDoor.Ed
open Go.Proofs.YtpmgmpihmpifgaaDoor.Pr
set_option maxRecDepth 100000

/-- the inverse, reckoned -/
def qinv (z : Int) : Int := (mp PP 256 (z % p).toNat (PP - 2) : Int)
theorem qinv_ok (z : Int) : p ∣ qinv z - inv z := by
  unfold qinv inv
  rw [mp_eq PP 256 _ _ (by decide +kernel)]
  obtain ⟨k, hk⟩ := Int.eq_ofNat_of_zero_le (Int.emod_nonneg z (show p ≠ 0 by decide))
  rw [hk, Int.toNat_natCast, Int.natCast_emod, Int.natCast_pow, ← p_PP]
  exact mod_sub _
def qadd (d : Int) (P Q : Pt) : Pt := ⟨(P.x * Q.y + Q.x * P.y) * qinv (1 + tt d P Q) % p, (P.y * Q.y - P.x * Q.x) * qinv (1 - tt d P Q) % p⟩
theorem q_mod (a z : Int) : a * qinv z % p = a * inv z % p := by
  rw [Int.emod_eq_emod_iff_emod_sub_eq_zero, ← Int.mul_sub]
  exact Int.emod_eq_zero_of_dvd (Int.dvd_mul_of_dvd_right (qinv_ok z))
theorem qadd_eq (d : Int) (P Q : Pt) : qadd d P Q = add d P Q := by
  unfold qadd add
  rw [q_mod, q_mod]
/-- so many times a point, reckoned -/
def qm (d : Int) (P : Pt) : Nat → Nat → Pt
  | 0, _ => zero
  | f + 1, n => if n % 2 = 1 then qadd d (qadd d (qm d P f (n / 2)) (qm d P f (n / 2))) P else qadd d (qm d P f (n / 2)) (qm d P f (n / 2))
theorem qm_eq {d : Int} {P : Pt} (hd : NS d) (hP : On d P) (hr : Rd P) : ∀ f n, n < 2 ^ f → qm d P f n = mul d n P
  | 0, n, h => by
    have : n = 0 := by simpa using h
    subst this
    rfl
  | f + 1, n, h => by
    have ih := qm_eq hd hP hr f (n / 2) (by rw [Nat.pow_succ] at h; omega)
    unfold qm
    rw [ih, qadd_eq, qadd_eq, ← mul_add hd hP]
    split
    · rw [← mul_succ hd hP hr]
      congr 1
      omega
    · congr 1
      omega
def B1 : Pt := ⟨9394551262927898868852727153423767310731794289451526212250369117256482226003, 9677746192703328013283531742046342896310160271887462984216952246948724820864⟩
def B2 : Pt := ⟨7187142602868701393915311041425352675501700653280906968417865536000458017717, 19086858129437210180043019786304437153791795188116486686021403990866808495198⟩
theorem b1_on : On D1 B1 := by unfold On; decide +kernel
theorem b2_on : On D2 B2 := by unfold On; decide +kernel
theorem b1_rd : Rd B1 := ⟨⟨by decide +kernel, by decide +kernel⟩, ⟨by decide +kernel, by decide +kernel⟩⟩
theorem b2_rd : Rd B2 := ⟨⟨by decide +kernel, by decide +kernel⟩, ⟨by decide +kernel, by decide +kernel⟩⟩
theorem b1_ne : B1 ≠ zero := by decide +kernel
theorem b2_ne : B2 ≠ zero := by decide +kernel
end Go.Proofs.YtpmgmpihmpifgaaDoor.Ed

/-
  Plain facts, of no program: a point of each great order, reckoned by the kernel; how many points each curve has.
-/
namespace Go.Proofs.YtpmgmpihmpifgaaDoor.Ed
open Go.Proofs.YtpmgmpihmpifgaaDoor.Pr
set_option maxRecDepth 100000
theorem b1_q : qm D1 B1 253 l1 = zero := by decide +kernel
theorem b2_q : qm D2 B2 253 l2 = zero := by decide +kernel
theorem b1_zero : mul D1 l1 B1 = zero := by
  rw [← qm_eq ns1 b1_on b1_rd 253 l1 (by decide +kernel)]
  exact b1_q
theorem b2_zero : mul D2 l2 B2 = zero := by
  rw [← qm_eq ns2 b2_on b2_rd 253 l2 (by decide +kernel)]
  exact b2_q
theorem counts : (pts D1).length = 8 * l1 ∧ (pts D2).length = 4 * l2 := by
  obtain ⟨a, ha⟩ := divides (l := l1) ns1 b1_on b1_rd lp b1_ne b1_zero (lagrange ns1 (pts_all D1) b1_on)
  obtain ⟨b, hb⟩ := divides (l := l2) ns2 b2_on b2_rd lp2 b2_ne b2_zero (lagrange ns2 (pts_all D2) b2_on)
  have h := both_count
  rw [ha, hb] at h
  have hb0 : b ≠ 0 := by
    intro e
    subst e
    have hm := ((pts_all D2).2 B2).2 ⟨b2_on, b2_rd⟩
    have := List.length_pos_of_mem hm
    rw [hb] at this
    exact absurd this (Nat.lt_irrefl 0)
  obtain ⟨e1, e2⟩ := one_way a b (by rw [← h, Nat.mul_comm l1, Nat.mul_comm l2]) hb0
  rw [ha, hb, e1, e2]
  exact ⟨Nat.mul_comm _ _, Nat.mul_comm _ _⟩
theorem exp1 {P : Pt} (h : On D1 P) : mul D1 (8 * l1) P = zero := by
  rw [← counts.1]
  exact lagrange ns1 (pts_all D1) h
theorem exp2 {P : Pt} (h : On D2 P) : mul D2 (4 * l2) P = zero := by
  rw [← counts.2]
  exact lagrange ns2 (pts_all D2) h
end Go.Proofs.YtpmgmpihmpifgaaDoor.Ed

/-
  Plain facts, of no program: of which places the ladder of a clamped number makes 0: just of the five low ones.
-/
namespace Go.Proofs.YtpmgmpihmpifgaaDoor.Ed
open Go.Proofs.YtpmgmpihmpifgaaDoor.Pr
set_option maxRecDepth 100000

theorem eq_zero {d : Int} {P Q : Pt} (hx : p ∣ (add d P Q).x) (hy : p ∣ (add d P Q).y - 1) : add d P Q = zero := by
  have r := add_rd d P Q
  have e1 : (add d P Q).x = zero.x := eq_of r.1 zero_rd.1 (by unfold zero; simp only; rw [Int.sub_zero]; exact hx)
  have e2 : (add d P Q).y = zero.y := eq_of r.2 zero_rd.2 hy
  revert e1 e2
  generalize add d P Q = S
  cases S
  intro e1 e2
  unfold zero at *
  simp only at e1 e2
  rw [e1, e2]
/-- the double's x -/
theorem dbl_x {d : Int} {Q : Pt} (hd : NS d) (hQ : On d Q) : p ∣ (add d Q Q).x ↔ p ∣ Q.x * Q.y := by
  have hx := add_x hd hQ hQ
  have n := (dens hd hQ hQ).1
  generalize (add d Q Q).x = X at *
  generalize 1 + tt d Q Q = t at *
  generalize Q.x = x at *
  generalize Q.y = y at *
  constructor
  · intro h
    refine cancel not_two ?_
    rw [show 2 * (x * y) = X * t - (X * t - (x * y + x * y)) from by grind]
    exact Int.dvd_sub (Int.dvd_mul_of_dvd_left h) hx
  · intro h
    refine cancel n ?_
    rw [show t * X = (X * t - (x * y + x * y)) + x * y * 2 from by grind]
    exact Int.dvd_add hx (Int.dvd_mul_of_dvd_left h)
theorem tw_of_x {d : Int} {Q : Pt} (hQ : On d Q) (h : p ∣ Q.x) : Tw d Q := by
  refine ⟨hQ, ?_⟩
  unfold On at hQ
  generalize Q.x = x at *
  generalize Q.y = y at *
  rw [show (1 + y) * (1 - y) = x * (x - d * x * y * y) - C d x y from by unfold C; grind]
  exact Int.dvd_sub (Int.dvd_mul_of_dvd_left h) hQ
theorem tw_zero (d : Int) : Tw d zero := ⟨zero_on d, by show p ∣ (1 + 1) * (1 - 1); exact ⟨0, by decide⟩⟩
theorem tw_dbl {d : Int} {Q : Pt} (hd : NS d) (h : Tw d Q) : add d Q Q = zero := by
  have hx := tw_x hd h
  refine eq_zero ((dbl_x hd h.1).2 (Int.dvd_mul_of_dvd_left hx)) ?_
  have hy := add_y hd h.1 h.1
  have h2 := h.2
  have et : tt d Q Q = d * Q.x * Q.x * Q.y * Q.y := rfl
  rw [et] at hy
  generalize (add d Q Q).y = Y at *
  generalize Q.x = x at *
  generalize Q.y = y at *
  rw [show Y - 1 = (Y * (1 - d * x * x * y * y) - (y * y - x * x)) + x * (Y * d * x * y * y - x) - (1 + y) * (1 - y) from by grind]
  exact Int.dvd_sub (Int.dvd_add hy (Int.dvd_mul_of_dvd_left hx)) h2
theorem dbl_tw {d : Int} {Q : Pt} (hd : NS d) (hQ : On d Q) (h : add d Q Q = zero) : Tw d Q := by
  have hx : p ∣ Q.x * Q.y := (dbl_x hd hQ).1 (by rw [h]; exact ⟨0, rfl⟩)
  rcases prime_int hx with h1 | h1
  · exact tw_of_x hQ h1
  · exfalso
    have hy := add_y hd hQ hQ
    rw [h] at hy
    have et : tt d Q Q = d * Q.x * Q.x * Q.y * Q.y := rfl
    have ez : zero.y = 1 := rfl
    rw [et, ez] at hy
    unfold On at hQ
    generalize Q.x = x at *
    generalize Q.y = y at *
    apply not_two
    rw [show (2 : Int) = (1 * (1 - d * x * x * y * y) - (y * y - x * x)) - C d x y + y * (2 * y) from by unfold C; grind]
    exact Int.dvd_add (Int.dvd_sub hy hQ) (Int.dvd_mul_of_dvd_left h1)
theorem mul_dbl {d : Int} {P : Pt} (hd : NS d) (hP : On d P) (k : Nat) : mul d (2 * k) P = add d (mul d k P) (mul d k P) := by
  rw [show 2 * k = k + k from by omega, mul_add hd hP]

def c8 : Int := 325606250916557431795983626356110631294008115727848805560023387167927233504
def c9 : Int := 39382357235489614581723060781553021112529911719440698176882885853963445705823
def ct : Int := 18188081132251925698266448096434822182811072497651735037285882762825191880626
def cr : Int := 26402813219654675586542773408509770576479238778896978333912918715778701145895
theorem ca1 : p ∣ ct + (c8 + c9) - 4 := by decide +kernel
theorem ca2 : p ∣ 1946651 + (c8 + c9) * ct + c8 * c9 := by decide +kernel
theorem ca3 : p ∣ (c8 + c9) + c8 * c9 * ct - 4 := by decide +kernel
theorem ca4 : p ∣ c8 * c9 - 1 := by decide +kernel
theorem ca5 : p ∣ (ct * ct - 4) * cr * cr - D1 := by decide +kernel
theorem no_root (u : Int) : ¬ p ∣ u * u - ct * u + 1 := by
  intro h
  apply ns1 ((2 * u - ct) * cr)
  have h5 := ca5
  generalize ct = t at *
  generalize cr = r at *
  generalize D1 = d at *
  rw [show (2 * u - t) * r * ((2 * u - t) * r) - d = (u * u - t * u + 1) * (4 * r * r) + ((t * t - 4) * r * r - d) from by grind]
  exact Int.dvd_add (Int.dvd_mul_of_dvd_left h) h5
theorem quart_id (u a b t : Int) : ((u + 1) * (u + 1)) * ((u - 1) * (u - 1)) - ((u + 1) * (u + 1) - (u - 1) * (u - 1)) * ((u + 1) * (u + 1) + 121665 * ((u + 1) * (u + 1) - (u - 1) * (u - 1))) =
    (u - a) * ((u - b) * (u * u - t * u + 1)) + ((t + (a + b) - 4) * (u * u * u) - (1946651 + (a + b) * t + a * b) * (u * u) + ((a + b) + a * b * t - 4) * u - (a * b - 1)) := by grind
/-- the place of a point whose double has y = 0 -/
theorem quart (u : Int) : p ∣ ((u + 1) * (u + 1)) * ((u - 1) * (u - 1)) - ((u + 1) * (u + 1) - (u - 1) * (u - 1)) * ((u + 1) * (u + 1) + 121665 * ((u + 1) * (u + 1) - (u - 1) * (u - 1))) ↔ p ∣ u - c8 ∨ p ∣ u - c9 := by
  have h1 := ca1
  have h2 := ca2
  have h3 := ca3
  have h4 := ca4
  have hn := no_root u
  rw [quart_id u c8 c9 ct]
  generalize c8 = a at *
  generalize c9 = b at *
  generalize ct = t at *
  have hr : p ∣ (t + (a + b) - 4) * (u * u * u) - (1946651 + (a + b) * t + a * b) * (u * u) + ((a + b) + a * b * t - 4) * u - (a * b - 1) :=
    Int.dvd_sub (Int.dvd_add (Int.dvd_sub (Int.dvd_mul_of_dvd_left h1) (Int.dvd_mul_of_dvd_left h2)) (Int.dvd_mul_of_dvd_left h3)) h4
  constructor
  · intro h
    have h5 := Int.dvd_sub h hr
    rw [Int.add_sub_cancel] at h5
    rcases prime_int h5 with h6 | h6
    · exact .inl h6
    · rcases prime_int h6 with h7 | h7
      · exact .inr h7
      · exact absurd h7 hn
  · intro h
    refine Int.dvd_add ?_ hr
    rcases h with h | h
    · exact Int.dvd_mul_of_dvd_left h
    · exact Int.dvd_mul_of_dvd_right (Int.dvd_mul_of_dvd_left h)

/-- the five low places -/
def LowP (u : Int) : Prop := p ∣ u ∨ p ∣ u - 1 ∨ p ∣ u + 1 ∨ p ∣ u - c8 ∨ p ∣ u - c9

theorem prime_not {l a b : Nat} (hl : IsP l) (ha : ¬ l ∣ a) (hb : ¬ l ∣ b) : ¬ l ∣ a * b := by
  intro h
  exact hb (Nat.Coprime.dvd_of_dvd_mul_left (IsP.coprime hl ha).symm h)
theorem gcd8 {m : Nat} (h : ¬ l1 ∣ m) : Nat.gcd (16 * m) (8 * l1) = 8 := by
  have hc : Nat.Coprime (2 * m) l1 := IsP.coprime lp (prime_not lp (by decide +kernel) h)
  rw [show 16 * m = 8 * (2 * m) from by omega, Nat.gcd_mul_left, hc]
theorem gcd4 {m : Nat} (h : ¬ l2 ∣ m) : Nat.gcd (16 * m) (4 * l2) = 4 := by
  have hc : Nat.Coprime (4 * m) l2 := IsP.coprime lp2 (prime_not lp2 (by decide +kernel) h)
  rw [show 16 * m = 4 * (4 * m) from by omega, Nat.gcd_mul_left, hc]

/-- a point whose double has x = 0, by its place -/
theorem low_place {e d u : Int} {P : Pt} (ha : At e d u P) (hu0 : ¬ p ∣ u) (h : p ∣ (mul d 2 P).x) : p ∣ u - e := by
  obtain ⟨hc, hP, hr, hu⟩ := ha
  have he := hc.sq
  have h1 : p ∣ P.x * P.y := by
    rw [show (2 : Nat) = 2 * 1 from rfl, mul_dbl hc.ns hP, mul_one hc.ns hP hr] at h
    exact (dbl_x hc.ns hP).1 h
  have ny := place_ne hu
  have ne : ¬ p ∣ e := by
    intro h
    apply not_one
    rw [← he]
    exact Int.dvd_mul_of_dvd_left h
  rcases prime_int h1 with h2 | h2
  · exfalso
    rcases prime_int (tw_of_x hP h2).2 with h3 | h3
    · apply hu0
      refine cancel (not_mul not_two ne) ?_
      have := hu.1
      generalize P.y = y at *
      rw [show 2 * e * u = (e * u - 1 - y * (e * u + 1)) + (1 + y) * (e * u + 1) from by grind]
      exact Int.dvd_add this (Int.dvd_mul_of_dvd_left h3)
    · exact ny h3
  · have := hu.1
    generalize P.y = y at *
    have h3 : p ∣ e * u - 1 := by
      rw [show e * u - 1 = (e * u - 1 - y * (e * u + 1)) + y * (e * u + 1) from by grind]
      exact Int.dvd_add this (Int.dvd_mul_of_dvd_left h2)
    rw [show u - e = e * (e * u - 1) - (e * e - 1) * u from by grind, he]
    exact Int.dvd_sub (Int.dvd_mul_of_dvd_right h3) ⟨0, by omega⟩

theorem low_core {e d u : Int} {P : Pt} (ha : At e d u P) (hu0 : ¬ p ∣ u) {m : Nat} (hm1 : ¬ l1 ∣ m) (hm2 : ¬ l2 ∣ m) (hV : p ∣ V e (mul d (8 * m) P).y) : LowP u := by
  have hP := ha.2.1
  have hd := ha.1.ns
  have hT := tw_dbl hd ((v_tw ha.1 (mul_on hd hP _)).1 hV)
  rw [← mul_dbl hd hP, show 2 * (8 * m) = 16 * m from by omega] at hT
  clear hV
  rcases ha.1 with ⟨he, hd1⟩ | ⟨he, hd1⟩
  · subst he hd1
    have h8 := both_zero hd hP _ _ hT (exp1 hP)
    rw [gcd8 hm1, show (8 : Nat) = 2 * 4 from rfl, mul_dbl hd hP] at h8
    have h4 := tw_x hd (dbl_tw hd (mul_on hd hP _) h8)
    rw [show (4 : Nat) = 2 * 2 from rfl, mul_dbl hd hP] at h4
    rcases prime_int ((dbl_x hd (mul_on hd hP _)).1 h4) with h5 | h5
    · exact .inr (.inl (low_place ha hu0 h5))
    · have hl := low_e (k := 1) (X := u) (Z := 1) ha.1 hP (by rw [mul_one hd hP ha.2.2.1]; exact ha.2.2.2)
      have h6 := hl.1
      rw [show 2 * 1 = 2 from rfl] at h6
      generalize (mul D1 2 P).y = y at *
      refine .inr (.inr (.inr ((quart u).1 ?_)))
      generalize ((u + 1) * (u + 1)) * ((u - 1) * (u - 1)) = X at *
      generalize ((u + 1) * (u + 1) - (u - 1) * (u - 1)) * ((u + 1) * (u + 1) + 121665 * ((u + 1) * (u + 1) - (u - 1) * (u - 1))) = Z at *
      rw [show X - Z = (1 * X - Z - y * (1 * X + Z)) + y * (X + Z) from by grind]
      exact Int.dvd_add h6 (Int.dvd_mul_of_dvd_left h5)
  · subst he hd1
    have h8 := both_zero hd hP _ _ hT (exp2 hP)
    rw [gcd4 hm2, show (4 : Nat) = 2 * 2 from rfl, mul_dbl hd hP] at h8
    have h4 := tw_x hd (dbl_tw hd (mul_on hd hP _) h8)
    exact .inr (.inr (.inl (low_place ha hu0 h4)))

theorem low_of {u : Int} {bs : List Bool} {m : Nat} (hk : num bs = 8 * m) (hm1 : ¬ l1 ∣ m) (hm2 : ¬ l2 ∣ m) (h : p ∣ ans u bs) : LowP u := by
  by_cases hu0 : p ∣ u
  · exact .inl hu0
  obtain ⟨e, d, P, ha⟩ := choice u
  have hv := ans_v ha hu0 bs
  have hV : p ∣ V e (mul d (num bs) P).y := by
    have := Int.dvd_sub h hv
    generalize V e (mul d (num bs) P).y = v at *
    rwa [show ans u bs - (ans u bs - v) = v from by omega] at this
  rw [hk] at hV
  exact low_core ha hu0 hm1 hm2 hV

/-- a double of x = 0 comes to nothing -/
theorem four_zero {d : Int} {P : Pt} (hd : NS d) (hP : On d P) (j : Nat) (h : p ∣ (mul d j P).y) (m : Nat) : mul d (4 * j * m) P = zero := by
  have h1 : p ∣ (mul d (2 * j) P).x := by
    rw [mul_dbl hd hP]
    exact (dbl_x hd (mul_on hd hP _)).2 (Int.dvd_mul_of_dvd_right h)
  have h2 := tw_dbl hd (tw_of_x (mul_on hd hP _) h1)
  rw [← mul_dbl hd hP] at h2
  rw [show 4 * j * m = m * (2 * (2 * j)) from by rw [Nat.mul_comm m, ← Nat.mul_assoc 2 2 j], ← mul_mul hd hP, h2, mul_zero_pt hd]
theorem of_low {u : Int} {bs : List Bool} {m : Nat} (hk : num bs = 8 * m) (h : LowP u) : p ∣ ans u bs := by
  by_cases hu0 : p ∣ u
  · exact ans_nil hu0 bs
  obtain ⟨e, d, P, ha⟩ := choice u
  have hv := ans_v ha hu0 bs
  have hP := ha.2.1
  have hd := ha.1.ns
  have key : mul d (num bs) P = zero := by
    rw [hk]
    obtain ⟨hc, _, hr, hu⟩ := ha
    have one : p ∣ u - 1 ∨ p ∣ u + 1 → mul d (8 * m) P = zero := by
      intro h
      have hy : p ∣ (mul d 1 P).y := by
        rw [mul_one hd hP hr]
        have h1 := hu.1
        have h2 := hu.2
        generalize P.y = y at *
        rcases hc with ⟨he, _⟩ | ⟨he, _⟩
        · subst he
          rcases h with h | h
          · refine cancel h2 ?_
            rw [show (1 * u + 1) * y = (u - 1) - (1 * u - 1 - y * (1 * u + 1)) from by grind]
            exact Int.dvd_sub h h1
          · exact absurd (by rw [Int.one_mul]; exact h) h2
        · subst he
          rcases h with h | h
          · exfalso
            apply h2
            rw [show -1 * u + 1 = -(u - 1) from by omega]
            exact Int.dvd_neg.2 h
          · refine cancel h2 ?_
            rw [show (-1 * u + 1) * y = -(u + 1) - (-1 * u - 1 - y * (-1 * u + 1)) from by grind]
            exact Int.dvd_sub (Int.dvd_neg.2 h) h1
      have := four_zero hd hP 1 hy (2 * m)
      rwa [show 4 * 1 * (2 * m) = 8 * m from by omega] at this
    have two : p ∣ u - c8 ∨ p ∣ u - c9 → mul d (8 * m) P = zero := by
      intro h
      have hq := (quart u).2 h
      have hl := low_e (k := 1) (X := u) (Z := 1) hc hP (by rw [mul_one hd hP hr]; exact hu)
      rw [show 2 * 1 = 2 from rfl] at hl
      have hy : p ∣ (mul d 2 P).y := by
        obtain ⟨h1, h2⟩ := hl
        generalize (mul d 2 P).y = y at *
        generalize ((u + 1) * (u + 1)) * ((u - 1) * (u - 1)) = X at *
        generalize ((u + 1) * (u + 1) - (u - 1) * (u - 1)) * ((u + 1) * (u + 1) + 121665 * ((u + 1) * (u + 1) - (u - 1) * (u - 1))) = Z at *
        rcases hc with ⟨he, _⟩ | ⟨he, _⟩
        · subst he
          refine cancel h2 ?_
          rw [show (1 * X + Z) * y = (X - Z) - (1 * X - Z - y * (1 * X + Z)) from by grind]
          exact Int.dvd_sub hq h1
        · subst he
          exfalso
          apply h2
          rw [show -1 * X + Z = -(X - Z) from by omega]
          exact Int.dvd_neg.2 hq
      have := four_zero hd hP 2 hy m
      rwa [show 4 * 2 * m = 8 * m from by omega] at this
    rcases h with h | h | h | h | h
    · exact absurd h hu0
    · exact one (.inl h)
    · exact one (.inr h)
    · exact two (.inl h)
    · exact two (.inr h)
  have hT := (v_tw ha.1 (mul_on hd hP (num bs))).2 (by rw [key]; exact tw_zero d)
  have := Int.dvd_add hv hT
  generalize V e (mul d (num bs) P).y = v at *
  rwa [show ans u bs - v + v = ans u bs from by omega] at this
end Go.Proofs.YtpmgmpihmpifgaaDoor.Ed

/-
  Plain facts, of no program: two ladders, one behind the other, make nothing of no place but the low ones.
-/
namespace Go.Proofs.YtpmgmpihmpifgaaDoor.Ed
open Go.Proofs.YtpmgmpihmpifgaaDoor.Pr
set_option maxRecDepth 100000

/-- two ladders, one behind the other -/
theorem low_of2 {u w : Int} {bs cs : List Bool} {m n : Nat} (hk : num bs = 8 * m) (hj : num cs = 8 * n) (hm1 : ¬ l1 ∣ m) (hm2 : ¬ l2 ∣ m) (hn1 : ¬ l1 ∣ n) (hn2 : ¬ l2 ∣ n) (hw : p ∣ w - ans u bs) (h : p ∣ ans w cs) : LowP u := by
  by_cases hu0 : p ∣ u
  · exact .inl hu0
  obtain ⟨e, d, P, ha⟩ := choice u
  have hv := ans_again ha hu0 bs cs hw
  have hV : p ∣ V e (mul d (num cs * num bs) P).y := by
    have := Int.dvd_sub h hv
    generalize V e (mul d (num cs * num bs) P).y = v at *
    rwa [show ans w cs - (ans w cs - v) = v from by omega] at this
  rw [hk, hj, show 8 * n * (8 * m) = 8 * (8 * (n * m)) from by rw [Nat.mul_assoc, ← Nat.mul_assoc n 8 m, Nat.mul_comm n 8, Nat.mul_assoc]] at hV
  exact low_core ha hu0 (prime_not lp (by decide +kernel) (prime_not lp hn1 hm1)) (prime_not lp2 (by decide +kernel) (prime_not lp2 hn2 hm2)) hV
end Go.Proofs.YtpmgmpihmpifgaaDoor.Ed
