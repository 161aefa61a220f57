/-
  Plain facts, of no program: 2^255 - 19 is such that each number but 0 to the power one less is 1 (by the powers of 2, whose order is told by the prime factors of 2^255 - 20).
-/
namespace Go.Proofs.YtpmgmpihmpifgaaDoor.Pr

/-- prime -/
def IsP (n : Nat) : Prop := 2 ≤ n ∧ ∀ d, d ∣ n → d = 1 ∨ d = n

theorem pigeon : ∀ (n : Nat) (f : Nat → Nat), (∀ i, i < n → f i < n) →
    (∀ i j, i < n → j < n → f i = f j → i = j) → ∀ y, y < n → ∃ i, i < n ∧ f i = y := by
  intro n
  induction n with
  | zero => intro f _ _ y hy; omega
  | succ n ih =>
    intro f hf hinj y hy
    have hv := hf n (by omega)
    let g : Nat → Nat := fun i => if f i = n then f n else f i
    have hg : ∀ i, i < n → g i < n := by
      intro i hi
      have h1 := hf i (by omega)
      show (if f i = n then f n else f i) < n
      split
      · rename_i h
        have : f n ≠ n := by
          intro h2
          have := hinj i n (by omega) (by omega) (by rw [h, h2])
          omega
        omega
      · omega
    have hgi : ∀ i j, i < n → j < n → g i = g j → i = j := by
      intro i j hi hj h
      have h' : (if f i = n then f n else f i) = (if f j = n then f n else f j) := h
      split at h' <;> split at h'
      · rename_i a b; exact hinj i j (by omega) (by omega) (by rw [a, b])
      · have := hinj n j (by omega) (by omega) h'; omega
      · have := hinj i n (by omega) (by omega) h'; omega
      · exact hinj i j (by omega) (by omega) h'
    by_cases h1 : y = f n
    · exact ⟨n, by omega, h1.symm⟩
    · by_cases h2 : y = n
      · obtain ⟨i, hi, he⟩ := ih g hg hgi (f n) (by omega)
        have he' : (if f i = n then f n else f i) = f n := he
        split at he'
        · rename_i h; exact ⟨i, by omega, by omega⟩
        · have := hinj i n (by omega) (by omega) he'; omega
      · obtain ⟨i, hi, he⟩ := ih g hg hgi y (by omega)
        have he' : (if f i = n then f n else f i) = y := he
        split at he'
        · omega
        · exact ⟨i, by omega, he'⟩

theorem pigeon_le (n m : Nat) (f : Nat → Nat) (hf : ∀ i, i < n → f i < m)
    (hinj : ∀ i j, i < n → j < n → f i = f j → i = j) : n ≤ m := by
  apply Nat.le_of_not_lt
  intro h
  obtain ⟨i, hi, he⟩ := pigeon m f (fun i hi => hf i (by omega))
    (fun i j hi hj => hinj i j (by omega) (by omega)) (f m) (hf m h)
  have := hinj i m (by omega) (by omega) he
  omega

theorem pow_mod_mul (x a b r : Nat) : x ^ (a * b) % r = (x ^ a % r) ^ b % r := by
  rw [Nat.pow_mul, Nat.pow_mod]

theorem pow_one_of (x a b r : Nat) (h : x ^ a % r = 1 % r) : x ^ (a * b) % r = 1 % r := by
  rw [Nat.pow_mul, Nat.pow_mod, h, ← Nat.pow_mod, Nat.one_pow]

/-- the powers that are 1 are those by multiples of one exponent -/
theorem pow_gcd (x r : Nat) : ∀ a b, x ^ a % r = 1 % r → x ^ b % r = 1 % r →
    x ^ (Nat.gcd a b) % r = 1 % r := by
  intro a b
  induction a, b using Nat.gcd.induction with
  | H0 n => intro _ h; simpa using h
  | H1 m n hm ih =>
    intro h1 h2
    rw [Nat.gcd_rec]
    refine ih ?_ h1
    have e : n = m * (n / m) + n % m := (Nat.div_add_mod n m).symm
    rw [e, Nat.pow_add, Nat.mul_mod, pow_one_of x m _ r h1, ← Nat.mul_mod, Nat.one_mul] at h2
    exact h2

/-- each divisor but 1 is divisible by one of the list -/
def Cover (F : Nat) (L : List Nat) : Prop := ∀ m, m ∣ F → m ≠ 1 → ∃ t, t ∈ L ∧ t ∣ m

theorem cover_one : Cover 1 [] := by
  intro m h h1
  exact absurd (Nat.dvd_one.1 h) h1

theorem IsP.coprime {t m : Nat} (ht : IsP t) (h : ¬ t ∣ m) : Nat.Coprime m t := by
  have h1 := ht.2 (Nat.gcd m t) (Nat.gcd_dvd_right m t)
  cases h1 with
  | inl h => exact h
  | inr h2 => exact absurd (h2 ▸ Nat.gcd_dvd_left m t) h

theorem cover_mul {t F : Nat} {L : List Nat} (ht : IsP t) (h : Cover F L) :
    Cover (t * F) (t :: L) := by
  intro m hm h1
  by_cases hd : t ∣ m
  · exact ⟨t, by simp, hd⟩
  · obtain ⟨u, hu, hd2⟩ := h m ((ht.coprime hd).dvd_of_dvd_mul_left hm) h1
    exact ⟨u, by simp [hu], hd2⟩

/-- the order is F itself -/
theorem order {F r x : Nat} {L : List Nat} (hF : 0 < F) (hc : Cover F L) (h1 : x ^ F % r = 1 % r)
    (hL : ∀ t, t ∈ L → x ^ (F / t) % r ≠ 1 % r) : ∀ k, 0 < k → k < F → x ^ k % r ≠ 1 % r := by
  intro k hk hkF h
  have hg := pow_gcd x r k F h h1
  have hdF : Nat.gcd k F ∣ F := Nat.gcd_dvd_right k F
  have hdk : Nat.gcd k F ≤ k := Nat.le_of_dvd hk (Nat.gcd_dvd_left k F)
  have hd0 : 0 < Nat.gcd k F := Nat.gcd_pos_of_pos_left _ hk
  generalize Nat.gcd k F = d at *
  obtain ⟨m, rfl⟩ := hdF
  have hm1 : m ≠ 1 := by intro h; subst h; omega
  obtain ⟨t, ht, u, rfl⟩ := hc m ⟨d, by rw [Nat.mul_comm]⟩ hm1
  refine hL t ht ?_
  have ht0 : 0 < t := by
    rcases Nat.eq_zero_or_pos t with h | h
    · subst h; simp at hF
    · exact h
  have : d * (t * u) / t = d * u := by
    rw [Nat.mul_left_comm, Nat.mul_div_cancel_left _ ht0]
  rw [this]
  exact pow_one_of x d u r hg


theorem dvd_sub_of_mod {r a b : Nat} (h : a ≤ b) (e : a % r = b % r) : r ∣ b - a := by
  have h1 := Nat.div_add_mod a r
  have h2 := Nat.div_add_mod b r
  refine ⟨b / r - a / r, ?_⟩
  rw [Nat.mul_sub]
  omega

theorem mod_of_dvd_sub {r a b : Nat} (h : a ≤ b) (e : r ∣ b - a) : a % r = b % r := by
  obtain ⟨c, hc⟩ := e
  have : b = a + r * c := by omega
  rw [this, Nat.add_mul_mod_self_left]

/-- powers below the order are unlike, where the base can be taken away -/
theorem order_inj {F r x : Nat} (hx : 1 ≤ x) (hcop : Nat.Coprime x r)
    (ho : ∀ k, 0 < k → k < F → x ^ k % r ≠ 1 % r) :
    ∀ i j, i < F → j < F → x ^ i % r = x ^ j % r → i = j := by
  have key : ∀ i j, i < j → j < F → x ^ i % r = x ^ j % r → False := by
    intro i j hij hj h
    refine ho (j - i) (by omega) (by omega) ?_
    have e : x ^ j = x ^ i * x ^ (j - i) := by rw [← Nat.pow_add]; congr 1; omega
    have hp : 0 < x ^ (j - i) := Nat.pow_pos hx
    have hge : x ^ i ≤ x ^ i * x ^ (j - i) := Nat.le_mul_of_pos_right _ hp
    rw [e] at h
    have hdv := dvd_sub_of_mod hge h
    have e2 : x ^ i * x ^ (j - i) - x ^ i = x ^ i * (x ^ (j - i) - 1) := by
      rw [Nat.mul_sub, Nat.mul_one]
    rw [e2] at hdv
    have hc2 : Nat.Coprime r (x ^ i) := (Nat.Coprime.pow_left i hcop).symm
    have hd3 := hc2.dvd_of_dvd_mul_left hdv
    exact (mod_of_dvd_sub (by omega) hd3).symm
  intro i j hi hj h
  rcases Nat.lt_trichotomy i j with h1 | h1 | h1
  · exact (key i j h1 hj h).elim
  · exact h1
  · exact (key j i h1 hi h.symm).elim

theorem pow_dvd {x F : Nat} (hF : 0 < F) : x ∣ x ^ F := by
  obtain ⟨k, rfl⟩ : ∃ k, F = k + 1 := ⟨F - 1, by omega⟩
  rw [Nat.pow_succ]
  exact ⟨x ^ k, Nat.mul_comm _ _⟩

theorem coprime_of_pow_one {x F r : Nat} (hF : 0 < F) (hr : 1 < r) (h : x ^ F % r = 1 % r) :
    Nat.Coprime x r := by
  have hd1 : Nat.gcd x r ∣ x ^ F := Nat.dvd_trans (Nat.gcd_dvd_left x r) (pow_dvd hF)
  have hd2 : Nat.gcd x r ∣ r := Nat.gcd_dvd_right x r
  have h1 : 1 % r = 1 := Nat.mod_eq_of_lt hr
  have h3 : Nat.gcd x r ∣ x ^ F % r := (Nat.dvd_mod_iff hd2).2 hd1
  rw [h, h1] at h3
  exact Nat.dvd_one.1 h3

theorem least_factor (n : Nat) (h : 2 ≤ n) : ∃ r, IsP r ∧ r ∣ n := by
  induction n using Nat.strongRecOn with
  | _ n ih =>
    by_cases hp : IsP n
    · exact ⟨n, hp, Nat.dvd_refl n⟩
    · have : ∃ d, d ∣ n ∧ d ≠ 1 ∧ d ≠ n := by
        apply Classical.byContradiction
        intro hc
        refine hp ⟨h, fun d hd => ?_⟩
        apply Classical.byContradiction
        intro h2
        exact hc ⟨d, hd, fun e => h2 (.inl e), fun e => h2 (.inr e)⟩
      obtain ⟨d, hd, h1, h2⟩ := this
      have hle := Nat.le_of_dvd (by omega) hd
      have h0 : d ≠ 0 := by
        intro e; subst e
        have := Nat.eq_zero_of_zero_dvd hd
        omega
      obtain ⟨r, hr, hrd⟩ := ih d (by omega) (by omega)
      exact ⟨r, hr, Nat.dvd_trans hrd hd⟩

/-- a number each of whose prime factors' squares is above it is prime -/
theorem isP_of_factors {N : Nat} (h2 : 2 ≤ N) (h : ∀ r, IsP r → r ∣ N → N < r * r) : IsP N := by
  refine ⟨h2, fun d hd => ?_⟩
  apply Classical.byContradiction
  intro hc
  have hc1 : d ≠ 1 := fun e => hc (.inl e)
  have hc2 : d ≠ N := fun e => hc (.inr e)
  obtain ⟨e, rfl⟩ := hd
  have hd0 : d ≠ 0 := by intro z; subst z; omega
  have he0 : e ≠ 0 := by intro z; subst z; omega
  have he1 : e ≠ 1 := by intro z; subst z; omega
  obtain ⟨r, hr, hrd⟩ := least_factor d (by omega)
  obtain ⟨s, hs, hsd⟩ := least_factor e (by omega)
  have hA := h r hr (Nat.dvd_trans hrd ⟨e, rfl⟩)
  have hB := h s hs (Nat.dvd_trans hsd ⟨d, Nat.mul_comm d e⟩)
  have hr1 := Nat.le_of_dvd (by omega) hrd
  have hs1 := Nat.le_of_dvd (by omega) hsd
  rcases Nat.le_total d e with hle | hle
  · have : r * r ≤ d * e := Nat.mul_le_mul hr1 (by omega)
    omega
  · have : s * s ≤ d * e := Nat.mul_le_mul (by omega) hs1
    omega

/-- Pocklington -/
theorem pock {N F x : Nat} {L : List Nat} (h2 : 2 ≤ N) (hx : 1 ≤ x) (hF : 0 < F) (hFF : N < F * F) (hc : Cover F L)
    (h1 : x ^ F % N = 1) (hL : ∀ t, t ∈ L → Nat.gcd (x ^ (F / t) % N - 1) N = 1)
    (hL0 : ∀ t, t ∈ L → 1 ≤ x ^ (F / t) % N) : IsP N := by
  refine isP_of_factors h2 fun r hr hrN => ?_
  have hr1 : 1 < r := hr.1
  have e1 : 1 % r = 1 := Nat.mod_eq_of_lt hr1
  have g1 : x ^ F % r = 1 % r := by
    rw [← Nat.mod_mod_of_dvd (x ^ F) hrN, h1]
  have hcop := coprime_of_pow_one hF hr1 g1
  have g2 : ∀ t, t ∈ L → x ^ (F / t) % r ≠ 1 % r := by
    intro t ht hh
    have q1 := hL0 t ht
    rw [← Nat.mod_mod_of_dvd (x ^ (F / t)) hrN] at hh
    have hd := dvd_sub_of_mod q1 hh.symm
    have hg := Nat.dvd_gcd hd hrN
    rw [hL t ht] at hg
    have := Nat.dvd_one.1 hg
    omega
  have ho := order hF hc g1 g2
  have hin := order_inj hx hcop ho
  have hle : F ≤ r - 1 := by
    refine pigeon_le F (r - 1) (fun i => x ^ i % r - 1) ?_ ?_
    · intro i hi
      have := Nat.mod_lt (x ^ i) (show r > 0 by omega)
      show x ^ i % r - 1 < r - 1
      omega
    · intro i j hi hj h
      have h : x ^ i % r - 1 = x ^ j % r - 1 := h
      have nz : ∀ i, x ^ i % r ≠ 0 := by
        intro i hz
        have hd : r ∣ x ^ i := Nat.dvd_of_mod_eq_zero hz
        have hc2 : Nat.Coprime (x ^ i) r := Nat.Coprime.pow_left i hcop
        have : Nat.gcd (x ^ i) r = r := Nat.gcd_eq_right hd
        rw [hc2] at this
        omega
      refine hin i j hi hj ?_
      have := nz i
      have := nz j
      omega
  have : F * F ≤ r * r := Nat.mul_le_mul (by omega) (by omega)
  omega

/-- quick powers -/
def mp (m : Nat) : Nat → Nat → Nat → Nat
  | 0, _, _ => 1 % m
  | f + 1, x, n =>
    let h := mp m f (x * x % m) (n / 2)
    if n % 2 = 1 then h * x % m else h

theorem mp_eq (m : Nat) : ∀ f x n, n < 2 ^ f → mp m f x n = x ^ n % m := by
  intro f
  induction f with
  | zero => intro x n h; have : n = 0 := by simpa using h
            subst this; simp [mp]
  | succ f ih =>
    intro x n h
    have hlt : n / 2 < 2 ^ f := by rw [Nat.pow_succ] at h; omega
    have e := ih (x * x % m) (n / 2) hlt
    show (if n % 2 = 1 then mp m f (x * x % m) (n / 2) * x % m else mp m f (x * x % m) (n / 2)) = _
    rw [e]
    have e2 : (x * x % m) ^ (n / 2) % m = x ^ (2 * (n / 2)) % m := by
      rw [← Nat.pow_mod, Nat.pow_mul]
      congr 2
      rw [Nat.pow_two]
    split
    · rename_i h1
      have e3 : n = 2 * (n / 2) + 1 := by omega
      rw [e2, Nat.mul_mod, Nat.mod_mod, ← Nat.mul_mod, ← Nat.pow_succ]
      exact congrArg (fun k => x ^ k % m) e3.symm
    · have e3 : n = 2 * (n / 2) := by omega
      rw [e2, ← e3]

/-- no number from 2 on below k divides n -/
def none (n : Nat) : Nat → Bool
  | 0 => true
  | k + 1 => (k < 2 || n % k != 0) && none n k

theorem none_spec (n : Nat) : ∀ k, none n k = true → ∀ d, 2 ≤ d → d < k → ¬ d ∣ n := by
  intro k
  induction k with
  | zero => intro _ d _ h; omega
  | succ k ih =>
    intro h d h2 hd hdv
    simp only [none, Bool.and_eq_true, Bool.or_eq_true, decide_eq_true_eq, bne_iff_ne] at h
    by_cases e : d = k
    · subst e
      rcases h.1 with h1 | h1
      · omega
      · exact h1 (Nat.mod_eq_zero_of_dvd hdv)
    · exact ih h.2 d h2 (by omega) hdv

theorem isP_small {n k : Nat} (h2 : 2 ≤ n) (hk : n < k * k) (h : none n k = true) : IsP n := by
  refine isP_of_factors h2 fun r hr hrn => ?_
  by_cases hlt : r < k
  · exact absurd hrn (none_spec n k h r hr.1 hlt)
  · have : k * k ≤ r * r := Nat.mul_le_mul (by omega) (by omega)
    omega

theorem p2 : IsP 2 := isP_small (k := 2) (by omega) (by omega) (by decide)
theorem p3 : IsP 3 := isP_small (k := 2) (by omega) (by omega) (by decide)
theorem p5 : IsP 5 := isP_small (k := 3) (by omega) (by omega) (by decide)
theorem p7 : IsP 7 := isP_small (k := 3) (by omega) (by omega) (by decide)
theorem p353 : IsP 353 := isP_small (k := 19) (by omega) (by omega) (by decide +kernel)
theorem p65147 : IsP 65147 := isP_small (k := 256) (by omega) (by omega) (by decide +kernel)
theorem pu : IsP 8574133 := isP_small (k := 2929) (by omega) (by omega) (by decide +kernel)

/-- the same, reckoned -/
theorem pockm {N F x : Nat} {L : List Nat} (f : Nat) (h2 : 2 ≤ N) (hx : 1 ≤ x) (hF : 0 < F) (hf : F < 2 ^ f) (hFF : N < F * F)
    (hc : Cover F L) (h1 : mp N f x F = 1)
    (hL : ∀ t, t ∈ L → Nat.gcd (mp N f x (F / t) - 1) N = 1 ∧ 1 ≤ mp N f x (F / t)) : IsP N := by
  have hlt : ∀ t, F / t < 2 ^ f := fun t => Nat.lt_of_le_of_lt (Nat.div_le_self F t) hf
  refine pock h2 hx hF hFF hc ((mp_eq N f x F hf).symm.trans h1) (fun t ht => ?_) (fun t ht => ?_)
  · rw [← mp_eq N f x _ (hlt t)]; exact (hL t ht).1
  · rw [← mp_eq N f x _ (hlt t)]; exact (hL t ht).2

theorem pt : IsP 1919519569386763 := by
  refine pockm 64 (F := 8574133 * (7 * 1)) (x := 1183722064785962) (L := [8574133, 7]) (by decide) (by decide) (by decide)
    (by decide +kernel) (by decide) (cover_mul pu (cover_mul p7 cover_one)) (by decide +kernel) (by decide +kernel)

theorem ps : IsP 75445702479781427272750846543864801 := by
  refine pockm 64 (F := 1919519569386763 * (3 * (3 * (5 * (5 * 1))))) (x := 4364015670410457169363240382640026)
    (L := [1919519569386763, 3, 3, 5, 5]) (by decide) (by decide) (by decide) (by decide +kernel) (by decide)
    (cover_mul pt (cover_mul p3 (cover_mul p3 (cover_mul p5 (cover_mul p5 cover_one))))) (by decide +kernel) (by decide +kernel)

theorem pq : IsP 74058212732561358302231226437062788676166966415465897661863160754340907 := by
  refine pockm 130 (F := 75445702479781427272750846543864801 * (353 * 1))
    (x := 25686082838651505011370039260590883329232637451457271664974363710626838)
    (L := [75445702479781427272750846543864801, 353]) (by decide) (by decide) (by decide) (by decide +kernel) (by decide)
    (cover_mul ps (cover_mul p353 cover_one)) (by decide +kernel) (by decide +kernel)

/-- the prime -/
def PP : Nat := 57896044618658097711785492504343953926634992332820282019728792003956564819949

theorem two_order : ∀ k, 0 < k → k < PP - 1 → 2 ^ k % PP ≠ 1 % PP := by
  refine order (F := PP - 1)
    (L := [2, 2, 3, 65147, 74058212732561358302231226437062788676166966415465897661863160754340907]) (by decide) ?_ ?_ ?_
  · have : PP - 1 = 2 * (2 * (3 * (65147 * (74058212732561358302231226437062788676166966415465897661863160754340907 * 1)))) := by decide
    rw [this]
    exact cover_mul p2 (cover_mul p2 (cover_mul p3 (cover_mul p65147 (cover_mul pq cover_one))))
  · rw [← mp_eq _ 256 _ _ (by decide +kernel)]; decide +kernel
  · intro t ht
    simp only [List.mem_cons, List.not_mem_nil, or_false] at ht
    rcases ht with rfl | rfl | rfl | rfl | rfl <;> rw [← mp_eq _ 256 _ _ (by decide +kernel)] <;> decide +kernel

theorem two_full : 2 ^ (PP - 1) % PP = 1 := by
  rw [← mp_eq _ 256 _ _ (by decide +kernel)]; decide +kernel

/-- Fermat, for this prime -/
theorem fermat (a : Nat) (h : a % PP ≠ 0) : a ^ (PP - 1) % PP = 1 := by
  have hcop : Nat.Coprime 2 PP := by decide +kernel
  have hinj := order_inj (F := PP - 1) (r := PP) (x := 2) (by omega) hcop two_order
  have hP : 2 < PP := by decide
  have nz : ∀ i, 2 ^ i % PP ≠ 0 := by
    intro i hz
    have hd : PP ∣ 2 ^ i := Nat.dvd_of_mod_eq_zero hz
    have hc2 : Nat.Coprime (2 ^ i) PP := Nat.Coprime.pow_left i hcop
    have : Nat.gcd (2 ^ i) PP = PP := Nat.gcd_eq_right hd
    rw [hc2] at this
    omega
  have hlt := Nat.mod_lt a (show PP > 0 by omega)
  obtain ⟨i, hi, he⟩ := pigeon (PP - 1) (fun i => 2 ^ i % PP - 1)
    (by intro i hi; have := Nat.mod_lt (2 ^ i) (show PP > 0 by omega); have := nz i; show 2 ^ i % PP - 1 < PP - 1; omega)
    (by intro i j hi hj h
        have h : 2 ^ i % PP - 1 = 2 ^ j % PP - 1 := h
        have := nz i
        have := nz j
        exact hinj i j hi hj (by omega)) (a % PP - 1) (by omega)
  have he : 2 ^ i % PP - 1 = a % PP - 1 := he
  have hz := nz i
  have e : a % PP = 2 ^ i % PP := by omega
  rw [Nat.pow_mod, e, ← Nat.pow_mod, ← Nat.pow_mul, Nat.mul_comm, Nat.pow_mul, Nat.pow_mod, two_full, Nat.one_pow]
  decide

theorem no_zero {a b : Nat} (h : a * b % PP = 0) (ha : a % PP ≠ 0) : b % PP = 0 := by
  have hf := fermat a ha
  have hP : PP - 1 = (PP - 2) + 1 := by decide
  have e : a ^ (PP - 1) * b % PP = b % PP := by
    rw [Nat.mul_mod, hf, Nat.one_mul, Nat.mod_mod]
  rw [← e, hP, Nat.pow_succ, Nat.mul_assoc, Nat.mul_mod, h, Nat.mul_zero, Nat.zero_mod]

end Go.Proofs.YtpmgmpihmpifgaaDoor.Pr
