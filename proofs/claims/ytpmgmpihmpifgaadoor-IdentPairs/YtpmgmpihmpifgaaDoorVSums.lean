/-
  What Add, Sub, Of and Zero answer.
-/
import Derived.Test.YtpmgmpihmpifgaaDoorVLeast
import Derived.BigRegion
namespace Go.Proofs.YtpmgmpihmpifgaaDoor.Cv
open Go.RowKit
set_option maxRecDepth 100000

theorem of_ok (n : Int) (h : 0 ≤ n ∧ n < 18446744073709551616) (w : World) : Calls Tryd.prog 77 #[.int .u64 n] w (Reck n w) := by
  have m := mask51 n h.1 h.2
  have fin : val (n % 2251799813685248) (n / 2251799813685248) 0 0 0 = n := by unfold val; omega
  go_enter Tryd.func77, Tryd.ntmps77
  go_wp2_with fail
  exact bodyPost_ret (v := five (n % 2251799813685248) (n / 2251799813685248) 0 0 0) (by simp [results, Tryd.results77, go_sem, five]) rfl
    ⟨_, _, _, _, _, rfl, ⟨⟨by omega, by omega, by omega, by omega, by omega⟩, by rw [fin]⟩, (Gr.refl _).alloc _⟩

theorem val_add (a b c d e a' b' c' d' e' : Int) : val (a + a') (b + b') (c + c') (d + d') (e + e') = val a b c d e + val a' b' c' d' e' := by unfold val; omega

set_option maxHeartbeats 2000000 in
theorem add_ok (m n a b c d e a' b' c' d' e' : Int) (h : Rep m a b c d e) (h' : Rep n a' b' c' d' e') (w : World) :
    Calls Tryd.prog 96 #[five a b c d e, five a' b' c' d' e'] w (Reck (m + n) w) := by
  obtain ⟨⟨ha, hb, hc, hd, he⟩, hv⟩ := h
  obtain ⟨⟨ha', hb', hc', hd', he'⟩, hv'⟩ := h'
  have w0 := wrap_id (a + a') (by omega) (by omega)
  have w1 := wrap_id (b + b') (by omega) (by omega)
  have w2 := wrap_id (c + c') (by omega) (by omega)
  have w3 := wrap_id (d + d') (by omega) (by omega)
  have w4 := wrap_id (e + e') (by omega) (by omega)
  have cb := carried_al (a + a') (b + b') (c + c') (d + d') (e + e') (by omega) (by omega) (by omega) (by omega) (by omega)
  rw [val_add] at cb
  have hs : (val a b c d e + val a' b' c' d' e') % pp = (m + n) % pp := by rw [Int.add_emod, hv, hv', ← Int.add_emod]
  replace cb := hide cb
  replace hs := hide hs
  clear ha hb hc hd he ha' hb' hc' hd' he' hv hv'
  unfold five
  go_enter Tryd.func96, Tryd.ntmps96
  go_wp2_with fail
  go_region
  all_goals go_wp2_with (go_at_call 80; refine (unhide cb _).mono ?_; rintro r w9 ⟨y0, y1, y2, y3, y4, o9, rfl, hR, rfl⟩; replace hR := hide hR; unfold five)
  all_goals refine bodyPost_ret (v := five y0 y1 y2 y3 y4) ?_ rfl ?_
  all_goals first
    | (refine ⟨_, _, _, _, _, rfl, ⟨(unhide hR).1, (unhide hR).2.trans (unhide hs)⟩, by repeat (first | exact Gr.refl _ | apply Gr.alloc | apply Gr.drew)⟩; done)
    | simp [results, Tryd.results96, go_sem, five]

theorem val_sub (a b c d e a' b' c' d' e' : Int) : val (a + 9007199254740916 - a') (b + 9007199254740988 - b') (c + 9007199254740988 - c') (d + 9007199254740988 - d') (e + 9007199254740988 - e') = val a b c d e - val a' b' c' d' e' + 4 * pp := by unfold val pp; omega

set_option maxHeartbeats 2000000 in
theorem sub_ok (m n a b c d e a' b' c' d' e' : Int) (h : Rep m a b c d e) (h' : Rep n a' b' c' d' e') (w : World) :
    Calls Tryd.prog 99 #[five a b c d e, five a' b' c' d' e'] w (Reck (m - n) w) := by
  obtain ⟨⟨ha, hb, hc, hd, he⟩, hv⟩ := h
  obtain ⟨⟨ha', hb', hc', hd', he'⟩, hv'⟩ := h'
  have w0 := wrap_id (a + 9007199254740916) (by omega) (by omega)
  have w1 := wrap_id (b + 9007199254740988) (by omega) (by omega)
  have w2 := wrap_id (c + 9007199254740988) (by omega) (by omega)
  have w3 := wrap_id (d + 9007199254740988) (by omega) (by omega)
  have w4 := wrap_id (e + 9007199254740988) (by omega) (by omega)
  have u0 := wrap_id (a + 9007199254740916 - a') (by omega) (by omega)
  have u1 := wrap_id (b + 9007199254740988 - b') (by omega) (by omega)
  have u2 := wrap_id (c + 9007199254740988 - c') (by omega) (by omega)
  have u3 := wrap_id (d + 9007199254740988 - d') (by omega) (by omega)
  have u4 := wrap_id (e + 9007199254740988 - e') (by omega) (by omega)
  have cb := carried_al (a + 9007199254740916 - a') (b + 9007199254740988 - b') (c + 9007199254740988 - c') (d + 9007199254740988 - d') (e + 9007199254740988 - e') (by omega) (by omega) (by omega) (by omega) (by omega)
  rw [val_sub] at cb
  have hs : (val a b c d e - val a' b' c' d' e' + 4 * pp) % pp = (m - n) % pp := by
    rw [Int.add_mul_emod_self_right, Int.sub_emod, hv, hv', ← Int.sub_emod]
  replace cb := hide cb
  replace hs := hide hs
  clear ha hb hc hd he ha' hb' hc' hd' he' hv hv'
  unfold five
  go_enter Tryd.func99, Tryd.ntmps99
  go_wp2_with fail
  go_region
  all_goals go_wp2_with fail
  all_goals refine wp_loop_rounds 5 ?_
  all_goals rw [rounds_succ]
  all_goals go_wp2_with fail
  all_goals rw [rounds_succ]
  all_goals go_wp2_with fail
  all_goals rw [rounds_succ]
  all_goals go_wp2_with fail
  all_goals rw [rounds_succ]
  all_goals go_wp2_with fail
  all_goals rw [rounds_succ]
  all_goals go_wp2_with (go_at_call 80; refine (unhide cb _).mono ?_; rintro r w9 ⟨y0, y1, y2, y3, y4, o9, rfl, hR, rfl⟩; replace hR := hide hR; unfold five)
  all_goals refine bodyPost_ret (v := five y0 y1 y2 y3 y4) ?_ rfl ?_
  all_goals first
    | (refine ⟨_, _, _, _, _, rfl, ⟨(unhide hR).1, (unhide hR).2.trans (unhide hs)⟩, by repeat (first | exact Gr.refl _ | apply Gr.alloc | apply Gr.drew)⟩; done)
    | simp [results, Tryd.results99, go_sem, five]
end Go.Proofs.YtpmgmpihmpifgaaDoor.Cv
