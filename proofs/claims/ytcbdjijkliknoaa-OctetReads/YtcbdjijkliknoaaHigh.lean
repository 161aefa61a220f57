/-
  What the document's answer High does.
-/
import Derived.Test.YtcbdjijkliknoaaRef
namespace Go.Proofs.Ytcbdjijkliknoaa
open Go.RowKit

theorem lowN_drop (l : List Int) (j : Nat) (h : j < l.length) : lowN (l.drop j) = lowN (l.drop (j + 1)) * 256 + l.getD j 0 := by
  rw [List.drop_eq_getElem_cons h, lowN, List.getD_eq_getElem?_getD, List.getElem?_eq_getElem h]
  simp only [Option.getD_some]
  omega
theorem lowN_drop_nil (l : List Int) (j : Nat) (h : l.length ≤ j) : lowN (l.drop j) = 0 := by
  rw [List.drop_eq_nil_of_le h]; rfl
theorem lowN_drop_bd (l : List Int) (j : Nat) (h : l.length ≤ 8) (hj : 1 ≤ j) (hl : ∀ x ∈ l, 0 ≤ x ∧ x < 256) : 0 ≤ lowN (l.drop j) ∧ lowN (l.drop j) < 72057594037927936 := by
  have h1 := lowN_bd (l.drop j) (fun x hx => hl x (List.mem_of_mem_drop hx))
  have h2 := pow_le (l.drop j).length 7 (by simp; omega)
  have e : (256 : Int) ^ 7 = 72057594037927936 := by decide
  rw [e] at h2
  exact ⟨h1.1, by omega⟩

set_option maxHeartbeats 1000000 in
theorem high_any (a : Option Addr) (n c : Nat) (l : List Int) (w : World) (hB : Bs w a n l) (hn : n ≤ 140737488355328) :
    Calls Try.prog 20 #[.slice a n c] w fun e w' => e = .returned (.int .u64 (lowN (l.take 8))) ∧ w' = w := by
  obtain ⟨L, hL⟩ : ∃ L, L = l.take 8 := ⟨_, rfl⟩
  have hl := hB.1
  have hL8 : L.length ≤ 8 := by rw [hL]; simp; omega
  have hLb : Hid (∀ x ∈ L, 0 ≤ x ∧ x < 256) := by rw [hL]; exact fun x hx => hB.2.1 x (List.mem_of_mem_take hx)
  have hLn : Hid (L.length = min 8 n) := by rw [hL]; show _ = _; simp; omega
  have HC : Hid (0 < n → ∃ b off, a = some ⟨b, off, none⟩ ∧ ∀ j, j < L.length → w.cell? ⟨b, off + j, none⟩ = some (.int .u8 (L.getD j 0))) := by
    rw [hL]
    intro h0
    obtain ⟨b, off, ha, hc⟩ := hB.2.2 h0
    refine ⟨b, off, ha, fun j hj => ?_⟩
    simp at hj
    rw [hc j (by omega), List.getD_eq_getElem?_getD, List.getD_eq_getElem?_getD, List.getElem?_take, if_pos (by omega)]
  rw [← hL]
  clear hL hB
  go_enter Try.func20, Try.ntmps20
  go_wp2
  go_loop [3, 4] (fun x i => ∃ j : Nat, j ≤ 8 ∧ i = .int .i64 ((j : Int) - 1) ∧ x = .int .u64 (lowN (L.drop j))) (fun _ i => (intOf i + 1).toNat)
  case atStart => exact ⟨8, Nat.le_refl _, rfl, by rw [lowN_drop_nil L 8 hL8]⟩
  case round =>
    obtain ⟨j, hj, rfl, rfl⟩ := hrel
    by_cases h0 : j = 0
    · subst h0
      go_wp2
      go_ret
      exact ⟨ret_int (by simp), rfl⟩
    · obtain ⟨k, rfl⟩ : ∃ k, j = k + 1 := ⟨j - 1, by omega⟩
      have hbd := lowN_drop_bd L (k + 1) hL8 (by omega) (unhide hLb)
      have e1 : ((k + 1 : Nat) : Int) - 1 = k := by omega
      rw [e1]
      have hk0 : (0 : Int) ≤ k := by omega
      by_cases hlt : k < n
      · have hkL : k < L.length := by have := unhide hLn; omega
        obtain ⟨b, off, rfl, hc⟩ := unhide HC (by omega)
        have hck := hc k hkL
        have HD := hide (lowN_drop L k hkL)
        have hy := unhide hLb _ (getD_mem L k hkL)
        generalize L.getD k 0 = y at *
        generalize lowN (L.drop (k + 1)) = X at *
        obtain ⟨hbd0, hbd1⟩ := hbd
        obtain ⟨hy0, hy1⟩ := hy
        have hki : (k : Int) < n := by omega
        clear h0 e1 hc HC
        go_wp2
        go_round
        case rel => exact ⟨k, by omega, rfl, by rw [unhide HD]⟩
        case measure => simp [intOf]
      · have hX : lowN (L.drop (k + 1)) = 0 := lowN_drop_nil L (k + 1) (by have := unhide hLn; omega)
        have HD := hide (lowN_drop_nil L k (by have := unhide hLn; omega))
        rw [hX]
        have hki : ¬ (k : Int) < n := by omega
        clear h0 e1 HC hbd hX hLn hLb
        go_wp2
        go_round
        case rel => exact ⟨k, by omega, rfl, by rw [unhide HD]⟩
        case measure => simp [intOf]
end Go.Proofs.Ytcbdjijkliknoaa
