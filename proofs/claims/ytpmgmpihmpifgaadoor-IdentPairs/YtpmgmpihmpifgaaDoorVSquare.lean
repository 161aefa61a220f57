/-
  What Square answers; the bits of a key.
-/
import Derived.Test.YtpmgmpihmpifgaaDoorVWakes
namespace Go.Proofs.YtpmgmpihmpifgaaDoor.Cv
open Go.RowKit
set_option maxRecDepth 100000

set_option maxHeartbeats 1000000 in
theorem square_ok (n a b c d e : Int) (hf : Rep n a b c d e) (w : World) :
    Calls Tryd.prog 98 #[five a b c d e] w (Reck (n * n) w) := by
  have hl := hide (mul_ok n n a b c d e a b c d e hf hf)
  clear hf
  unfold five at *
  go_enter Tryd.func98, Tryd.ntmps98
  go_wp2_with (go_at_call 64; refine (unhide hl _).mono ?_; rintro r w9 ⟨y0, y1, y2, y3, y4, rfl, hR, hg⟩; unfold five; replace hR := hide hR; have hE := hide (res22 hg rfl); obtain ⟨q0, q1, q2, q3, q4, hq0, hq1, hq2, hq3, hq4, z0, z1, z2, z3, z4⟩ := (unhide hE).five)
  refine bodyPost_ret (v := five y0 y1 y2 y3 y4) ?_ rfl ?_
  · simp [results, Tryd.results98, go_sem, five, hq0, hq1, hq2, hq3, hq4]
  · exact ⟨_, _, _, _, _, rfl, unhide hR, ((unhide hE).set5 _ _ _ _ _).1⟩

theorem square_at (n a0 a1 a2 a3 a4 : Int) (h : Hid (Rep n a0 a1 a2 a3 a4)) (w : World) :
    Calls Tryd.prog 98 #[.agg #[.int .u64 a0, .int .u64 a1, .int .u64 a2, .int .u64 a3, .int .u64 a4]] w (fun r w' => ∃ a b c d e, r = .returned (.agg #[.int .u64 a, .int .u64 b, .int .u64 c, .int .u64 d, .int .u64 e]) ∧ Hid (Rep (n * n) a b c d e) ∧ Gr w w') := square_ok n a0 a1 a2 a3 a4 h w
end Go.Proofs.YtpmgmpihmpifgaaDoor.Cv
