/-
  The reference's numbers: rows of 16 digits to the base 65536: plain facts, and how they lie in memory.
-/
import Derived.Test.YtpmgmpihmpifgaaDoorUComm
namespace Go.Proofs.YtpmgmpihmpifgaaDoor.Cv
open Go.RowKit
set_option maxRecDepth 100000

def sv : List Int → Int
  | [] => 0
  | x :: t => x + 65536 * sv t
theorem sv_set : ∀ (l : List Int) (i : Nat) (x : Int), i < l.length → sv (l.set i x) = sv l + (x - l.getD i 0) * 65536 ^ i
  | [], i, x, h => by simp at h
  | y :: t, 0, x, h => by simp [sv]; omega
  | y :: t, i + 1, x, h => by
    have ih := sv_set t i x (by simpa using h)
    simp only [List.set_cons_succ, sv, List.getD_cons_succ, ih, Int.pow_succ]
    grind
def D16 (l : List Int) : Prop := ∀ x ∈ l, 0 ≤ x ∧ x < 65536
theorem sv_bd : ∀ (l : List Int), D16 l → 0 ≤ sv l ∧ sv l < 65536 ^ l.length
  | [], _ => by simp [sv]
  | y :: t, h => by
    have ih := sv_bd t (fun x hx => h x (List.mem_cons_of_mem _ hx))
    have h1 := h y List.mem_cons_self
    simp only [sv, List.length_cons, Int.pow_succ]
    omega
theorem sv_digit : ∀ (l : List Int) (i : Nat), D16 l → l.getD i 0 = sv l / 65536 ^ i % 65536
  | [], i, _ => by simp [sv]
  | y :: t, 0, h => by
    have h1 := h y List.mem_cons_self
    simp [sv]; omega
  | y :: t, i + 1, h => by
    have ih := sv_digit t i (fun x hx => h x (List.mem_cons_of_mem _ hx))
    have h1 := h y List.mem_cons_self
    rw [List.getD_cons_succ, ih, Int.pow_succ, Int.mul_comm (65536 ^ i), ← Int.ediv_ediv_of_nonneg (by decide)]
    congr 2
    simp only [sv]
    omega
theorem getD_mem {l : List Int} {i : Nat} (hi : i < l.length) : l.getD i 0 ∈ l := by
  rw [List.getD_eq_getElem?_getD, List.getElem?_eq_getElem hi]
  exact List.getElem_mem _
theorem getD_set (l : List Int) (i j : Nat) (x : Int) (hi : i < l.length) : (l.set i x).getD j 0 = if j = i then x else l.getD j 0 := by
  by_cases e : j = i
  · subst e
    rw [if_pos rfl, List.getD_eq_getElem?_getD, List.getElem?_set_self hi]
    rfl
  · rw [if_neg e, List.getD_eq_getElem?_getD, List.getElem?_set_ne (fun q => e q.symm), ← List.getD_eq_getElem?_getD]

/-- the first i digits are in order, c is to be carried -/
def NI (l : List Int) (i : Nat) (c V : Int) : Prop := l.length = 16 ∧ sv l + c * 65536 ^ i = V ∧ (-1099511627776 ≤ c ∧ c ≤ 1099511627776) ∧ (∀ j, j < i → 0 ≤ l.getD j 0 ∧ l.getD j 0 < 65536) ∧ (∀ j, j < 16 → -36028797018963968 ≤ l.getD j 0 ∧ l.getD j 0 ≤ 36028797018963968)
theorem NI.step {l : List Int} {i : Nat} {c V : Int} (h : NI l i c V) (hi : i < 16) : NI (l.set i ((l.getD i 0 + c) % 65536)) (i + 1) ((l.getD i 0 + c) / 65536) V := by
  obtain ⟨h1, h2, h3, h4, h5⟩ := h
  have hy := h5 i hi
  refine ⟨by simpa using h1, ?_, by omega, ?_, ?_⟩
  · rw [sv_set l i _ (by omega), ← h2, Int.pow_succ]
    have e : (l.getD i 0 + c) % 65536 = l.getD i 0 + c - 65536 * ((l.getD i 0 + c) / 65536) := by omega
    rw [e]
    grind
  · intro j hj
    rw [getD_set l i j _ (by omega)]
    split
    · omega
    · exact h4 j (by omega)
  · intro j hj
    rw [getD_set l i j _ (by omega)]
    split
    · omega
    · exact h5 j hj
theorem d16_of {l : List Int} (h1 : l.length = 16) (h4 : ∀ j, j < 16 → 0 ≤ l.getD j 0 ∧ l.getD j 0 < 65536) : D16 l := by
  intro x hx
  obtain ⟨i, hi, rfl⟩ := List.getElem_of_mem hx
  have := h4 i (by omega)
  simpa [List.getD, List.getElem?_eq_getElem hi] using this
theorem p16 : (65536 : Int) ^ 16 = 115792089237316195423570985008687907853269984665640564039457584007913129639936 := by decide

/-- between two passes: g passes are to come at most -/
def NB (g : Nat) (cv : Int) (l : List Int) (V : Int) : Prop := l.length = 16 ∧ (∀ j, j < 16 → -36028797018963968 ≤ l.getD j 0 ∧ l.getD j 0 ≤ 36028797018963968) ∧ sv l % pp = V % pp ∧ (cv = 0 → D16 l) ∧
  (g = 4 ∨ (g = 3 ∧ -1152921504606846976 ≤ sv l ∧ sv l < 115792089237316195423570985008687907853269984665640564039457584007913129639936 + 1152921504606846976) ∨ (g = 2 ∧ 0 ≤ sv l ∧ sv l < 115792089237316195423570985008687907853269984665640564039457584007913129639936) ∨ (g = 1 ∧ cv = 0))
theorem NB.start {l : List Int} (h : l.length = 16) (hb : ∀ j, j < 16 → -36028797018963968 ≤ l.getD j 0 ∧ l.getD j 0 ≤ 36028797018963968) : NB 4 1 l (sv l) := ⟨h, hb, rfl, (fun e => by cases e), .inl rfl⟩
theorem NB.first {g : Nat} {cv V : Int} {l : List Int} (h : NB g cv l V) : NI l 0 0 (sv l) := by
  refine ⟨h.1, by rw [Int.zero_mul, Int.add_zero], by omega, fun j hj => by omega, h.2.1⟩
/-- a pass -/
theorem NB.next {g : Nat} {cv c V : Int} {l m : List Int} (h : NB g cv l V) (hc : cv ≠ 0) (k : NI m 16 c (sv l)) : 1 ≤ g - 1 ∧ g - 1 < g ∧ NB (g - 1) c (m.set 0 (m.getD 0 0 + 38 * c)) V ∧ (-1099511627776 ≤ c ∧ c ≤ 1099511627776) ∧ (0 ≤ m.getD 0 0 ∧ m.getD 0 0 < 65536) := by
  obtain ⟨h1, h2, h3, h4, h5⟩ := h
  obtain ⟨k1, k2, k3, k4, k5⟩ := k
  have hD : D16 m := d16_of k1 k4
  have hb := sv_bd m hD
  rw [k1, p16] at hb
  rw [p16] at k2
  have k0 := k4 0 (by omega)
  have hs : sv (m.set 0 (m.getD 0 0 + 38 * c)) = sv m + 38 * c := by
    rw [sv_set m 0 _ (by omega), Int.pow_zero]
    omega
  have hg : g ≠ 1 := by
    intro e
    rcases h5 with h | h | h | h <;> omega
  have hg2 : 2 ≤ g ∧ g ≤ 4 := by rcases h5 with h | h | h | h <;> omega
  refine ⟨by omega, by omega, ⟨by simpa using k1, ?_, ?_, ?_, ?_⟩, k3, k0⟩
  · intro j hj
    rw [getD_set m 0 j _ (by omega)]
    split
    · omega
    · exact k5 j hj
  · rw [hs, ← h3, ← k2]
    have : sv m + c * 115792089237316195423570985008687907853269984665640564039457584007913129639936 = (sv m + 38 * c) + (2 * c) * pp := by unfold pp; omega
    rw [this, Int.add_mul_emod_self_right]
  · intro e
    subst e
    rw [Int.mul_zero, Int.add_zero]
    refine d16_of (by simpa using k1) ?_
    intro j hj
    rw [getD_set m 0 j _ (by omega)]
    split
    · omega
    · exact k4 j hj
  · rw [hs]
    rcases h5 with h | ⟨h, h6⟩ | ⟨h, h6⟩ | ⟨h, h6⟩
    · subst h
      exact .inr (.inl ⟨rfl, by omega, by omega⟩)
    · subst h
      exact .inr (.inr (.inl ⟨rfl, by omega, by omega⟩))
    · subst h
      exact .inr (.inr (.inr ⟨rfl, by omega⟩))
    · exact absurd h hg
/-- how Go divides -/
theorem tdivs (X : Int) : (0 ≤ X.tmod 65536 ∧ X.tdiv 65536 = X / 65536 ∧ X.tmod 65536 = X % 65536) ∨ (X.tmod 65536 < 0 ∧ X.tdiv 65536 = X / 65536 + 1 ∧ X.tmod 65536 = X % 65536 - 65536) := by
  rcases Int.lt_or_le X 0 with h | h
  · obtain ⟨Y, rfl⟩ : ∃ Y, X = -Y := ⟨-X, by omega⟩
    have e1 : (-Y).tdiv 65536 = -(Y / 65536) := by rw [Int.neg_tdiv, Int.tdiv_eq_ediv_of_nonneg (by omega)]
    have e2 : (-Y).tmod 65536 = -(Y % 65536) := by rw [Int.neg_tmod, Int.tmod_eq_emod_of_nonneg (by omega)]
    rw [e1, e2]
    omega
  · rw [Int.tdiv_eq_ediv_of_nonneg h, Int.tmod_eq_emod_of_nonneg h]
    omega

/-- cells of a row of digits -/
def nc (l : List Int) : Array Value := (l.map (Value.int .i64)).toArray
theorem nc_size (l : List Int) : (nc l).size = l.length := by simp [nc]
theorem nc_one (l : List Int) : (nc l).all (·.oneCell') = true := by unfold nc; simp [Value.oneCell']
theorem nc_set (l : List Int) (i : Nat) (x : Int) : (nc l).setIfInBounds i (.int .i64 x) = nc (l.set i x) := by
  unfold nc
  rw [List.setIfInBounds_toArray, List.map_set]
theorem nc_get (l : List Int) (i : Nat) (hi : i < l.length) : (nc l)[i]? = some (.int .i64 (l.getD i 0)) := by
  unfold nc
  simp [hi]
theorem nc_cell {v : World} {g : Nat} {l : List Int} {t : TypeId} (h : v.heap[g]? = some (.cells (nc l) t (0, 0))) (i : Nat) (hi : i < l.length) : v.cell? ⟨g, i, none⟩ = some (.int .i64 (l.getD i 0)) := cell_of h (nc_get l i hi)
def Zl : List Int := [0, 0, 0, 0, 0, 0, 0, 0, 0, 0, 0, 0, 0, 0, 0, 0]
/-- cells of the number n -/
def NC (n : Int) (c : Array Value) : Prop := ∃ l, c = nc l ∧ Hid (l.length = 16 ∧ D16 l ∧ sv l % pp = n % pp)
theorem NC.size {n : Int} (c : Array Value) (h : NC n c) : c.size = 16 := by
  obtain ⟨l, rfl, h⟩ := h
  rw [nc_size]
  exact (unhide h).1
theorem NC.one {n : Int} (c : Array Value) (h : NC n c) : c.all (·.oneCell') = true := by
  obtain ⟨l, rfl, h⟩ := h
  exact nc_one l
theorem NC.same {n m : Int} {c : Array Value} (h : NC n c) (e : n % pp = m % pp) : NC m c := by
  obtain ⟨l, h1, h2⟩ := h
  exact ⟨l, h1, ⟨(unhide h2).1, (unhide h2).2.1, (unhide h2).2.2.trans e⟩⟩
/-- answers cells of n -/
def RetN (n : Int) (w : World) (r : Ending) (w' : World) : Prop := ∃ c, r = .returned (.agg c) ∧ NC n c ∧ Gr w w'
theorem Tryd.infoNum : (Tryd.prog.info? 80).map (·.size) = some 16 := by kernel_rfl
end Go.Proofs.YtpmgmpihmpifgaaDoor.Cv
