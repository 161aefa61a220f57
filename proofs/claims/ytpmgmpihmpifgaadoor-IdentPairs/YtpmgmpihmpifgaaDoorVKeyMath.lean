/-
  Plain facts on the bytes of numbers; From of the bytes of a number; keys held against each other.
-/
import Derived.Test.YtpmgmpihmpifgaaDoorVFrom
namespace Go.Proofs.YtpmgmpihmpifgaaDoor.Cv
open Go.RowKit
set_option maxRecDepth 100000

theorem digs_getD (n : Int) (k : Nat) (h : k < 32) : (digs n 32).getD k 0 = n / 256 ^ k % 256 := by
  simp [digs, List.getD, h]
theorem digs_by (n : Int) (k : Nat) : ∀ x ∈ digs n k, 0 ≤ x ∧ x < 256 := by
  intro x hx
  simp only [digs, List.mem_map] at hx
  obtain ⟨j, _, rfl⟩ := hx
  split <;> omega

theorem ds_of (l : List Int) (n : Int) (hn : 0 ≤ n) : ∀ k, (∀ i, i < k → l.getD i 0 = n / 256 ^ i % 256) → ds l k = n % 256 ^ k := by
  obtain ⟨m, rfl⟩ := Int.eq_ofNat_of_zero_le hn
  intro k
  induction k with
  | zero => intro _; simp [ds, Int.emod_one]
  | succ k ih =>
    intro h
    simp only [ds]
    rw [ih (fun i hi => h i (by omega)), h k (by omega)]
    have e := Nat.mod_mul (x := m) (a := 256 ^ k) (b := 256)
    have e2 : ((m % (256 ^ k * 256) : Nat) : Int) = ((m % 256 ^ k + 256 ^ k * (m / 256 ^ k % 256) : Nat) : Int) := by rw [e]
    simp only [Int.natCast_add, Int.natCast_mul, Int.natCast_emod, Int.natCast_ediv, Int.natCast_pow] at e2
    rw [Int.pow_succ]
    have e3 : ((256 : Nat) : Int) = 256 := rfl
    rw [e3] at e2
    rw [e2, Int.mul_comm (256 ^ k)]

theorem ds_set (l : List Int) (x : Int) (j : Nat) : ∀ k, k ≤ j → ds (l.set j x) k = ds l k := by
  intro k
  induction k with
  | zero => intro _; rfl
  | succ k ih =>
    intro h
    simp only [ds]
    rw [ih (by omega)]
    have : (l.set j x).getD k 0 = l.getD k 0 := by
      simp only [List.getD_eq_getElem?_getD, List.getElem?_set]
      rw [if_neg (by omega)]
    rw [this]

theorem from_num (n : Int) (hn : 0 ≤ n) : ds ((digs n 32).set 31 ((digs n 32).getD 31 0 % 128)) 32 = n % 57896044618658097711785492504343953926634992332820282019728792003956564819968 := by
  have h1 : ds ((digs n 32).set 31 ((digs n 32).getD 31 0 % 128)) 32 = ds ((digs n 32).set 31 ((digs n 32).getD 31 0 % 128)) 31 + ((digs n 32).set 31 ((digs n 32).getD 31 0 % 128)).getD 31 0 * 256 ^ 31 := rfl
  have h2 : ((digs n 32).set 31 ((digs n 32).getD 31 0 % 128)).getD 31 0 = (digs n 32).getD 31 0 % 128 := by
    rw [List.getD_eq_getElem?_getD, List.getElem?_set]
    simp [digs_len]
  rw [h1, h2, ds_set _ _ 31 31 (by omega), digs_getD n 31 (by omega), ds_of _ n hn 31 (fun i hi => digs_getD n i (by omega))]
  have e : (256 : Int) ^ 31 = 452312848583266388373324160190187140051835877600158453279131187530910662656 := by decide
  rw [e]
  omega

/-- the number of 32 bytes -/
theorem from_key (n : Int) (hn : 0 ≤ n) (w : World) : Calls Tryd.prog 63 #[keyV n] w (Reck (n % 57896044618658097711785492504343953926634992332820282019728792003956564819968) w) := by
  have h := from_any (digs n 32) (digs_len n 32) (digs_by n 32) w
  rw [from_num n hn] at h
  exact h

/-- every 32 bytes are those of a number -/
theorem key_num (l : List Int) (hl : l.length = 32) (hb : ∀ x ∈ l, 0 ≤ x ∧ x < 256) : ∃ n, (0 ≤ n ∧ n < 115792089237316195423570985008687907853269984665640564039457584007913129639936) ∧ l = digs n 32 := by
  have key : ∀ k, k ≤ 32 → (0 ≤ ds l k ∧ ds l k < 256 ^ k) ∧ ∀ i, i < k → ds l k / 256 ^ i % 256 = l.getD i 0 := by
    intro k
    induction k with
    | zero => intro _; exact ⟨⟨by simp [ds], by simp [ds]⟩, fun i hi => by omega⟩
    | succ k ih =>
      intro hk
      obtain ⟨⟨h0, h1⟩, h2⟩ := ih (by omega)
      have hg := getD_by l hb k
      have hp : (0 : Int) < 256 ^ k := Int.pow_pos (by omega)
      simp only [ds]
      generalize hx : l.getD k 0 = x at *
      refine ⟨⟨?_, ?_⟩, ?_⟩
      · exact Int.add_nonneg h0 (Int.mul_nonneg hg.1 (Int.le_of_lt hp))
      · rw [Int.pow_succ]
        have : x * 256 ^ k ≤ 255 * 256 ^ k := Int.mul_le_mul_of_nonneg_right (by omega) (Int.le_of_lt hp)
        omega
      · intro i hi
        by_cases e : i = k
        · subst e
          rw [Int.add_mul_ediv_right _ _ (by omega), Int.ediv_eq_zero_of_lt h0 h1, hx]
          omega
        · have e2 : x * 256 ^ k = x * 256 ^ (k - 1 - i) * 256 * 256 ^ i := by
            have : (256 : Int) ^ k = 256 ^ (k - 1 - i) * 256 * 256 ^ i := by
              rw [← Int.pow_succ, ← Int.pow_add]; congr 1; omega
            rw [this, ← Int.mul_assoc, ← Int.mul_assoc]
          have hpi : (0 : Int) < 256 ^ i := Int.pow_pos (by omega)
          rw [e2, Int.add_mul_ediv_right _ _ (by omega), Int.add_mul_emod_self_right]
          exact h2 i (by omega)
  obtain ⟨⟨h0, h1⟩, h2⟩ := key 32 (by omega)
  have e : (256 : Int) ^ 32 = 115792089237316195423570985008687907853269984665640564039457584007913129639936 := by decide
  rw [e] at h1
  refine ⟨ds l 32, ⟨h0, h1⟩, ?_⟩
  apply List.ext_getElem
  · rw [hl, digs_len]
  · intro i h3 h4
    have := h2 i (by omega)
    simp only [digs, List.getElem_map, List.getElem_range]
    rw [if_pos (by omega), this, List.getD_eq_getElem?_getD, List.getElem?_eq_getElem h3]
    rfl

theorem digs_inj (n m : Int) (hn : 0 ≤ n ∧ n < 115792089237316195423570985008687907853269984665640564039457584007913129639936) (hm : 0 ≤ m ∧ m < 115792089237316195423570985008687907853269984665640564039457584007913129639936) (h : digs n 32 = digs m 32) : n = m := by
  have e : (256 : Int) ^ 32 = 115792089237316195423570985008687907853269984665640564039457584007913129639936 := by decide
  have h1 := ds_of (digs n 32) n hn.1 32 (fun i hi => digs_getD n i hi)
  have h2 := ds_of (digs m 32) m hm.1 32 (fun i hi => digs_getD m i hi)
  rw [h, h2, e] at h1
  omega

theorem Tryd.cells5' : Tryd.prog.cellsOf 5 = 1 := by kernel_rfl
theorem Tryd.info5' : (Tryd.prog.info? 5).map (fun i => (i.zero, i.size, i.bytes)) = some (some (.int .u8 0), 1, 1) := by kernel_rfl
theorem Tryd.plain5' : Tryd.prog.plainKey 5 = true := by kernel_rfl

theorem eq_items (k l : List Int) (hkl : k.length = l.length) (d : Nat) (is : List Nat) (h : ∀ i ∈ is, i < l.length) (w : World) : (Op.eqItems (d + 1) 5 1 (kc k) (kc l) is).run Tryd.prog w = .ok (is.all fun i => k.getD i 0 == l.getD i 0) w := by
  induction is with
  | nil => simp [Op.eqItems]
  | cons i is ih =>
    have hi : i < l.length := h i (by simp)
    have hp : ∀ m : List Int, i < m.length → (part 5 (kc m) (i * 1)).run Tryd.prog w = .ok (.int .u8 (m.getD i 0)) w := by
      intro m hm
      refine run_part_plain w Tryd.plain5' ?_
      simp [kc, List.getD, List.getElem?_eq_getElem hm]
    have he := run_equalIn_int (P := Tryd.prog) w d 5 .u8 .u8 (k.getD i 0) (l.getD i 0) Tryd.underlying5
    simp only [Op.eqItems, Sem.run_bind, hp k (by omega), hp l hi, he, Result.andThen_ok]
    have ih := ih (fun j hj => h j (List.mem_cons_of_mem _ hj))
    simp
    by_cases hc : k[i]?.getD 0 = l[i]?.getD 0
    · rw [if_pos hc]; simpa [hc] using ih
    · rw [if_neg hc]; simp [hc]

theorem key_eq (k l : List Int) (hk : k.length = 32) (hl : l.length = 32) (w : World) : Sem.run Tryd.prog (Op.equalIn 10000 25 (.agg (kc k)) (.agg (kc l))) w = .ok (decide (k = l)) w := by
  obtain ⟨i0, hi0, _⟩ := info_parts Tryd.info5'
  rw [run_equalIn_array (P := Tryd.prog) w 9999 (kc k) (kc l) Tryd.underlying25 hi0, Tryd.cells5']
  rw [eq_items k l (by omega) 9998 _ (by intro i hi; simp at hi; omega) w]
  congr 1
  rw [Bool.eq_iff_iff]
  simp only [List.all_eq_true, List.mem_range, beq_iff_eq, decide_eq_true_eq]
  constructor
  · intro h
    apply List.ext_getElem (by omega)
    intro i h1 h2
    have := h i (by omega)
    simpa [List.getD, List.getElem?_eq_getElem h1, List.getElem?_eq_getElem h2] using this
  · rintro rfl i _
    rfl
end Go.Proofs.YtpmgmpihmpifgaaDoor.Cv
