/-
  A left turn and the quarter of four words, by the program.
-/
import Derived.Test.YtdekjbdkpchbjabUntil
namespace Go.Proofs.Ytdekjbdkpchbjab
open Go.RowKit
set_option maxRecDepth 100000
set_option linter.unusedSimpArgs false
set_option linter.unusedVariables false

theorem turn_ok (x : Int) (n : Nat) (hn : 1 ≤ n ∧ n ≤ 31) (w : World) :
    Calls Try.prog 42 #[.int .u32 x, .int .i64 n] w (fun r w' => r = .returned (.int .u32 (lt x n)) ∧ w' = w.drew) := by
  obtain ⟨m, hm⟩ : ∃ m, m = 32 - n := ⟨_, rfl⟩
  have e1 : 32 - (n : Int) = (m : Int) := by omega
  have e2 : IntKind.i64.wrap (m : Int) = (m : Int) := by rw [IntKind.wrap_i64]; omega
  have m0 : 0 ≤ (m : Int) := by omega
  have n0 : 0 ≤ (n : Int) := by omega
  replace hm := hide hm
  go_enter Try.func42, Try.ntmps42
  go_wp2_with fail
  go_still_tail 8, (by kernel_rfl)
  go_wp2_with fail
  refine bodyPost_ret (v := .int .u32 (lt x n)) ?_ rfl ⟨rfl, rfl⟩
  unfold lt
  rw [← unhide hm]
  simp [results, Try.results42, go_sem]
theorem turn_int (x m : Int) (hm : 1 ≤ m ∧ m ≤ 31) (w : World) :
    Calls Try.prog 42 #[.int .u32 x, .int .i64 m] w (fun r w' => r = .returned (.int .u32 (lt x m.toNat)) ∧ w' = w.drew) := by
  obtain ⟨n, rfl⟩ := Int.eq_ofNat_of_zero_le (a := m) (by omega)
  exact turn_ok x n (by omega) w
/-- four words as they are handed back -/
def qv (q : Q4) : Value := .tuple #[.int .u32 q.a, .int .u32 q.b, .int .u32 q.c, .int .u32 q.d]
theorem quarter_ok (a b c d : Int) (w : World) :
    Calls Try.prog 39 #[.int .u32 a, .int .u32 b, .int .u32 c, .int .u32 d] w (fun r w' => r = .returned (qv (quar a b c d)) ∧ Gr w w') := by
  go_enter Try.func39, Try.ntmps39
  go_wp2_with (go_at_call 42; refine (turn_int _ _ (by omega) _).mono ?_; rintro e w1 ⟨rfl, rfl⟩)
  refine bodyPost_ret (v := qv (quar a b c d)) ?_ rfl ⟨rfl, (Gr.refl w).drew.drew.drew.drew⟩
  simp [results, Try.results39, go_sem]
  simp only [qv, quar, ad_eq, xr, Int.emod_add_emod]
end Go.Proofs.Ytdekjbdkpchbjab
