/-
  Parts that come to the same bytes: the walk.
-/
import Derived.Test.YthnmebhljkccnaaDoorKdfC
import Derived.Test.YthnmebhljkccnaaDoorFloat
namespace Go.Proofs.YthnmebhljkccnaaDoor
open Go.RowKit
set_option maxRecDepth 100000
set_option linter.unusedSimpArgs false
set_option linter.unusedVariables false

theorem Sl.cutl {w : World} {a : Option Addr} {n c : Nat} {B : List Int} (h : Lb w a n c B) (k : Nat) (hk : k ≤ n) : Lb w a k c (B.take k) := by
  refine ⟨by rw [List.length_take, h.len]; omega, isB_take h.isB k, ?_, by have := h.cap; omega, h.max⟩
  rcases h.sl with h1 | ⟨p, o, h1, h2⟩
  · left; rw [h1]; simp
  · exact .inr ⟨p, o, h1, h2.take k⟩
theorem Sl.cutr {w : World} {a : Option Addr} {n c : Nat} {B : List Int} (h : Lb w a n c B) (k : Nat) (hk : k ≤ n) : Lb w (if c = k then a else Option.map (fun x => x.add k) a) (n - k) (c - k) (B.drop k) := by
  refine ⟨by rw [List.length_drop, h.len], isB_drop h.isB k, ?_, by have := h.cap; omega, by have := h.max; omega⟩
  rcases h.sl with h1 | ⟨p, o, h1, h2⟩
  · left; rw [h1]; simp
  · split
    · left
      have := h.cap
      have h3 := h.len
      exact List.drop_eq_nil_of_le (by omega)
    · exact .inr ⟨p, o + k, by rw [h1]; simp [Addr.add_mid], h2.drop k⟩
/-- three lists in a row that the call has made -/
def Tri (u : World) (v : Value) (x y z : Value) : Prop := ∃ g, v = .slice (some ⟨g, 0, none⟩) 3 3 ∧ u.heap[g]? = some (.cells #[x, y, z] 22 (0, 0))
def Mono (u : World) (v : Value) (x : Value) : Prop := ∃ g, v = .slice (some ⟨g, 0, none⟩) 1 1 ∧ u.heap[g]? = some (.cells #[x] 22 (0, 0))
theorem Mono.gr {u u' : World} {v x : Value} (h : Mono u v x) (k : Gr u u') : Mono u' v x := by
  obtain ⟨g, h1, h2⟩ := h
  exact ⟨g, h1, k.blk h2⟩
set_option maxHeartbeats 2000000 in
theorem parts_ok (A B : List Int) (a b : Option Addr) (na ca nb cb : Nat) (at_ : Int) (hat : -9223372036854775808 ≤ at_ ∧ at_ < 9223372036854775808) (w : World) (hF : Fst w) (hA : Lb w a na ca A) (hB : Lb w b nb cb B) :
    Calls Tryd.prog 6 #[.slice a na ca, .slice b nb cb, .int .i64 at_] w (Woke w) := by
  obtain ⟨T, hT⟩ : ∃ T, T = Woke w := ⟨_, rfl⟩
  rw [← hT]
  replace hT := hide hT
  replace hF := hide hF
  have la := hide hA.len
  have lb := hide hB.len
  have ma := hA.cap
  have mb := hB.cap
  replace hA := hide hA
  replace hB := hide hB
  by_cases hbig : 4096 < nb ∨ 4096 < na
  · by_cases h1 : 4096 < nb
    · have h1' : (4096 : Int) < (nb : Int) := by omega
      go_enter Tryd.func6, Tryd.ntmps6
      go_wp2_with (go_at_call 9; refine (wakes_ok _ (unhide hF)).mono ?_; rintro e u1 ⟨rfl, hG⟩)
      rw [unhide hT]
      exact ⟨rfl, hG⟩
    · have h1' : ¬ (4096 : Int) < (nb : Int) := by omega
      have h2' : (4096 : Int) < (na : Int) := by omega
      go_enter Tryd.func6, Tryd.ntmps6
      go_wp2_with (go_at_call 9; refine (wakes_ok _ (unhide hF)).mono ?_; rintro e u1 ⟨rfl, hG⟩)
      rw [unhide hT]
      exact ⟨rfl, hG⟩
  · have h1' : ¬ (4096 : Int) < (nb : Int) := by omega
    have h2' : ¬ (4096 : Int) < (na : Int) := by omega
    obtain ⟨k, hk, hk0, hk1⟩ : ∃ k : Nat, k ≤ nb ∧ (nb = 0 → k = 0) ∧ (0 < nb → Int.tmod (if at_ < 0 then 0 else at_) ((nb : Int) + 1) = (k : Int)) := by
      by_cases h0 : nb = 0
      · exact ⟨0, by omega, fun _ => rfl, fun h => by omega⟩
      · have h2 : 0 ≤ (if at_ < 0 then 0 else at_) := by split <;> omega
        have h3 := Int.emod_nonneg (if at_ < 0 then 0 else at_) (b := (nb : Int) + 1) (by omega)
        have h4 := Int.emod_lt_of_pos (if at_ < 0 then 0 else at_) (b := (nb : Int) + 1) (by omega)
        refine ⟨((if at_ < 0 then 0 else at_) % ((nb : Int) + 1)).toNat, by omega, fun h => absurd h h0, fun _ => ?_⟩
        rw [Int.tmod_eq_emod_of_nonneg h2]
        omega
    have w1 : IntKind.i64.wrap ((nb : Int) + 1) = (nb : Int) + 1 := by rw [IntKind.wrap_i64]; omega
    have w2 : ¬ (nb : Int) + 1 = 0 := by omega
    have w3 : IntKind.i64.wrap (k : Int) = (k : Int) := by rw [IntKind.wrap_i64]; omega
    have e1 : (k : Int) ≤ (cb : Int) := by omega
    have e2 : k ≤ cb := by omega
    have e3 : (k : Int) ≤ (nb : Int) := by omega
    have e4 : k ≤ nb := hk
    have hpre : ∀ (Q : Prop), Q → Q := fun _ h => h
    obtain ⟨ca2, hca2⟩ : ∃ x : Option Addr, x = (if cb = k then b else Option.map (fun x => x.add k) b) := ⟨_, rfl⟩
    replace hca2 := hide hca2
    by_cases h0 : nb = 0
    · have k00 : Hid (Value.int .i64 0 = Value.int .i64 (k : Int)) := by rw [hk0 h0]; exact rfl
      have n0 : ¬ 0 < (nb : Int) := by omega
      clear hk1 hk0
      replace h0 := hide h0
      go_enter Tryd.func6, Tryd.ntmps6
      go_upto_region 8 with (go_at_call 9; refine (wakes_ok _ (unhide hF)).mono ?_; rintro e u1 ⟨rfl, hG⟩)
      rw [unhide k00]
      refine any_start (S := fun _ => True) (by kernel_rfl) ?_
      have hg := (Gr.refl u1).drew
      generalize World.drew _ = u2 at *
      replace hG := hG.trans hg
      clear hg
      have hfl : ([B.take k, [], B.drop k] : List (List Int)).flatten = B := by simp
      have hfl1 : ([B] : List (List Int)).flatten = B := by simp
      simp only [List.size_toArray, List.length_cons, List.length_nil, Array.replicate, List.replicate]
      refine any_take (i := 0) (v := (.slice a na ca)) #[false, false, false, false, false, false, false, false, false, false, false, false, false, false, false, false, false, false, false, false, false, false, false] rfl (by kernel_rfl) (by kernel_rfl) (by kernel_rfl) (by kernel_rfl) (fun _ _ _ h => h) (.inl ⟨by kernel_rfl, fun x_ hu => by kernel_rfl⟩) trivial ?_
      simp only [Act.put, List.setIfInBounds_toArray, List.set_cons_zero, List.set_cons_succ, List.getElem_toArray, List.getElem_cons_zero, List.getElem_cons_succ]
      refine any_take (i := 1) (v := (.slice b nb cb)) #[true, false, false, false, false, false, false, false, false, false, false, false, false, false, false, false, false, false, false, false, false, false, false] rfl (by kernel_rfl) (by kernel_rfl) (by kernel_rfl) (by kernel_rfl) (fun _ _ _ h => h) (.inl ⟨by kernel_rfl, fun x_ hu => by kernel_rfl⟩) trivial ?_
      simp only [Act.put, List.setIfInBounds_toArray, List.set_cons_zero, List.set_cons_succ, List.getElem_toArray, List.getElem_cons_zero, List.getElem_cons_succ]
      refine any_take (i := 2) (v := (.int .i64 k)) #[true, true, false, false, false, false, false, false, false, false, false, false, false, false, false, false, false, false, false, false, false, false, false] rfl (by kernel_rfl) (by kernel_rfl) (by kernel_rfl) (by kernel_rfl) (fun _ _ _ h => h) (.inl ⟨by kernel_rfl, fun x_ hu => by kernel_rfl⟩) trivial ?_
      simp only [Act.put, List.setIfInBounds_toArray, List.set_cons_zero, List.set_cons_succ, List.getElem_toArray, List.getElem_cons_zero, List.getElem_cons_succ]
      refine any_take (i := 3) (v := (.slice b k cb)) #[true, true, true, false, false, false, false, false, false, false, false, false, false, false, false, false, false, false, false, false, false, false, false] rfl (by kernel_rfl) (by kernel_rfl) (by kernel_rfl) (by kernel_rfl) (fun _ _ _ h => h) (.inl ⟨by kernel_rfl, fun x_ hu => by go_simp⟩) trivial ?_
      simp only [Act.put, List.setIfInBounds_toArray, List.set_cons_zero, List.set_cons_succ, List.getElem_toArray, List.getElem_cons_zero, List.getElem_cons_succ]
      refine any_take (i := 4) (v := (.slice b nb cb)) #[true, true, true, true, false, false, false, false, false, false, false, false, false, false, false, false, false, false, false, false, false, false, false] rfl (by kernel_rfl) (by kernel_rfl) (by kernel_rfl) (by kernel_rfl) (fun _ _ _ h => h) (.inl ⟨by kernel_rfl, fun x_ hu => by kernel_rfl⟩) trivial ?_
      simp only [Act.put, List.setIfInBounds_toArray, List.set_cons_zero, List.set_cons_succ, List.getElem_toArray, List.getElem_cons_zero, List.getElem_cons_succ]
      refine any_take (i := 5) (v := (.int .i64 k)) #[true, true, true, true, true, false, false, false, false, false, false, false, false, false, false, false, false, false, false, false, false, false, false] rfl (by kernel_rfl) (by kernel_rfl) (by kernel_rfl) (by kernel_rfl) (fun _ _ _ h => h) (.inl ⟨by kernel_rfl, fun x_ hu => by kernel_rfl⟩) trivial ?_
      simp only [Act.put, List.setIfInBounds_toArray, List.set_cons_zero, List.set_cons_succ, List.getElem_toArray, List.getElem_cons_zero, List.getElem_cons_succ]
      refine any_take (i := 6) (v := (.slice ca2 (nb - k) (cb - k))) #[true, true, true, true, true, true, false, false, false, false, false, false, false, false, false, false, false, false, false, false, false, false, false] rfl (by kernel_rfl) (by kernel_rfl) (by kernel_rfl) (by kernel_rfl) (fun _ _ _ h => h) (.inl ⟨by kernel_rfl, fun x_ hu => by rw [unhide hca2]; go_simp⟩) trivial ?_
      simp only [Act.put, List.setIfInBounds_toArray, List.set_cons_zero, List.set_cons_succ, List.getElem_toArray, List.getElem_cons_zero, List.getElem_cons_succ]
      refine any_take (i := 9) (v := (.slice a na ca)) #[true, true, true, true, true, true, true, false, false, false, false, false, false, false, false, false, false, false, false, false, false, false, false] rfl (by kernel_rfl) (by kernel_rfl) (by kernel_rfl) (by kernel_rfl) (fun _ _ _ h => h) (.inl ⟨by kernel_rfl, fun x_ hu => by kernel_rfl⟩) trivial ?_
      simp only [Act.put, List.setIfInBounds_toArray, List.set_cons_zero, List.set_cons_succ, List.getElem_toArray, List.getElem_cons_zero, List.getElem_cons_succ]
      refine any_take (i := 10) (v := (.slice b nb cb)) #[true, true, true, true, true, true, true, false, false, true, false, false, false, false, false, false, false, false, false, false, false, false, false] rfl (by kernel_rfl) (by kernel_rfl) (by kernel_rfl) (by kernel_rfl) (fun _ _ _ h => h) (.inl ⟨by kernel_rfl, fun x_ hu => by kernel_rfl⟩) trivial ?_
      simp only [Act.put, List.setIfInBounds_toArray, List.set_cons_zero, List.set_cons_succ, List.getElem_toArray, List.getElem_cons_zero, List.getElem_cons_succ]
      refine float_first (fun q u => Mono u q (.slice b nb cb)) 38 (fun b_ => #[true, true, true, true, true, true, true, false, false, true, true, b_, false, false, false, false, false, false, false, false, false, false, false]) 11 7 false rfl rfl (fun _ _ => trivial) (by kernel_rfl) (fun b_ => by cases b_ <;> rfl) ?_ ?_
      all_goals simp only [fw1, Act.put, List.setIfInBounds_toArray, List.set_cons_zero, List.set_cons_succ, List.getElem_toArray, List.getElem_cons_zero, List.getElem_cons_succ]
      · intro q_ x_ _ K hK
        refine wpOp_step (o := _) rfl (fun K' hK' => ?_)
        replace hK' := hide hK'
        replace hK := hide hK
        refine step_val (.slice (some ⟨x_.heap.size, 0, none⟩) 1 1) (x_.alloc (.cells #[.slice b nb cb] 22 (0, 0))) (by kernel_rfl) (by kernel_rfl) ?_
        exact unhide hK' _ _ (unhide hK _ _ ((Gr.refl _).alloc _) (⟨_, rfl, blk_new _ _⟩))
      intro b1_7 q1_7 x1_7 hg hTq hall
      replace hG := hG.trans hg
      clear hg
      clear hall
      refine wpOp_step (o := _) rfl (fun K hK => ?_)
      replace hK := hide hK
      refine step_val (.slice (some ⟨x1_7.heap.size, 0, none⟩) 3 3) (x1_7.alloc (.cells #[.slice b k cb, .slice none 0 0, .slice ca2 (nb - k) (cb - k)] 22 (0, 0))) (by kernel_rfl) (by kernel_rfl) ?_
      refine unhide hK _ _ ⟨trivial, ?_⟩
      clear hK K
      simp only [Act.put, List.setIfInBounds_toArray, List.set_cons_zero, List.set_cons_succ, List.getElem_toArray, List.getElem_cons_zero, List.getElem_cons_succ]
      have hg := (Gr.refl x1_7).alloc (.cells #[.slice b k cb, .slice none 0 0, .slice ca2 (nb - k) (cb - k)] 22 (0, 0))
      have h3 := blk_new x1_7 (.cells #[.slice b k cb, .slice none 0 0, .slice ca2 (nb - k) (cb - k)] 22 (0, 0))
      replace hTq := fun e => Mono.gr (hTq e) hg
      generalize World.alloc _ _ = y3 at *
      generalize x1_7.heap.size = g3 at *
      replace hG := hG.trans hg
      clear hg
      refine float_again (fun q u => Mono u q (.slice b nb cb)) 38 (fun b_ => #[true, true, true, true, true, true, true, true, false, true, true, b_, false, false, false, false, false, false, false, false, false, false, false]) 11 8 false (b := b1_7) (q := q1_7) rfl rfl hTq (fun _ _ => trivial) (by kernel_rfl) (fun b_ => by cases b_ <;> rfl) ?_ ?_
      all_goals simp only [fw1, Act.put, List.setIfInBounds_toArray, List.set_cons_zero, List.set_cons_succ, List.getElem_toArray, List.getElem_cons_zero, List.getElem_cons_succ]
      · intro q_ x_ _ K hK
        refine wpOp_step (o := _) rfl (fun K' hK' => ?_)
        replace hK' := hide hK'
        replace hK := hide hK
        refine step_val (.slice (some ⟨x_.heap.size, 0, none⟩) 1 1) (x_.alloc (.cells #[.slice b nb cb] 22 (0, 0))) (by kernel_rfl) (by kernel_rfl) ?_
        exact unhide hK' _ _ (unhide hK _ _ ((Gr.refl _).alloc _) (⟨_, rfl, blk_new _ _⟩))
      clear hTq
      intro b1_8 q1_8 x1_8 hg hTq hall
      replace hG := hG.trans hg
      replace h3 := hg.blk h3
      clear hg
      clear hall
      refine wpOp_step (o := _) rfl (fun K hK => ?_)
      replace hK := hide hK
      refine step_callw (by kernel_rfl) 13 #[.slice a na ca, .slice (some ⟨g3, 0, none⟩) 3 3] (by kernel_rfl) ((hmac_ok A (unhide hA).isB na (unhide la) (by omega) a ca ma (unhide hA).max [B.take k, [], B.drop k] (some ⟨g3, 0, none⟩) 3 3 rfl (by omega) (by rw [hfl, unhide lb]; omega) _ ((unhide hF).gr hG) ((unhide hA).sl.gr hG) (Pr.three h3 ((Sl.cutl (unhide hB) k hk).gr hG) (Lb.nil _) (by rw [unhide hca2]; exact (Sl.cutr (unhide hB) k hk).gr hG))).mono ?_)
      rintro r y8 ⟨rfl, hg⟩
      refine ⟨_, rfl, ?_⟩
      replace hTq := fun e => Mono.gr (hTq e) hg
      rw [hfl]
      obtain ⟨kk, hkk0⟩ : ∃ kk, kk = hmacL A B := ⟨_, rfl⟩
      have hkk : kk.length = 32 := by rw [hkk0]; exact hmacL_len _ _
      rw [← hkk0]
      replace hkk0 := hide hkk0
      clear h3
      replace hG := hG.trans hg
      clear hg
      refine unhide hK _ _ ⟨trivial, ?_⟩
      clear hK K
      simp only [Act.put, List.setIfInBounds_toArray, List.set_cons_zero, List.set_cons_succ, List.getElem_toArray, List.getElem_cons_zero, List.getElem_cons_succ]
      refine float_again (fun q u => Mono u q (.slice b nb cb)) 38 (fun b_ => #[true, true, true, true, true, true, true, true, true, true, true, b_, false, false, false, false, false, false, false, false, false, false, false]) 11 12 true (b := b1_8) (q := q1_8) rfl rfl hTq (fun _ _ => trivial) (by kernel_rfl) (fun b_ => by cases b_ <;> rfl) ?_ ?_
      all_goals simp only [fw1, Act.put, List.setIfInBounds_toArray, List.set_cons_zero, List.set_cons_succ, List.getElem_toArray, List.getElem_cons_zero, List.getElem_cons_succ]
      · intro q_ x_ _ K hK
        refine wpOp_step (o := _) rfl (fun K' hK' => ?_)
        replace hK' := hide hK'
        replace hK := hide hK
        refine step_val (.slice (some ⟨x_.heap.size, 0, none⟩) 1 1) (x_.alloc (.cells #[.slice b nb cb] 22 (0, 0))) (by kernel_rfl) (by kernel_rfl) ?_
        exact unhide hK' _ _ (unhide hK _ _ ((Gr.refl _).alloc _) (⟨_, rfl, blk_new _ _⟩))
      clear hTq
      intro b1_12 q1_12 x1_12 hg hTq hall
      replace hG := hG.trans hg
      clear hg
      obtain rfl : b1_12 = true := hall (by trivial)
      replace hTq := hTq rfl
      clear hall
      obtain ⟨gm, rfl, hm1⟩ := hTq
      refine wpOp_step (o := _) rfl (fun K hK => ?_)
      replace hK := hide hK
      refine step_callw (by kernel_rfl) 13 #[.slice a na ca, .slice (some ⟨gm, 0, none⟩) 1 1] (by kernel_rfl) ((hmac_ok A (unhide hA).isB na (unhide la) (by omega) a ca ma (unhide hA).max [B] (some ⟨gm, 0, none⟩) 1 1 rfl (by omega) (by rw [hfl1, unhide lb]; omega) _ ((unhide hF).gr hG) ((unhide hA).sl.gr hG) (Pr.one hm1 ((unhide hB).gr hG))).mono ?_)
      rintro r y12 ⟨rfl, hg⟩
      refine ⟨_, rfl, ?_⟩
      rw [hfl1, ← unhide hkk0]
      clear hm1
      replace hG := hG.trans hg
      clear hg
      refine unhide hK _ _ ⟨trivial, ?_⟩
      clear hK K
      simp only [Act.put, List.setIfInBounds_toArray, List.set_cons_zero, List.set_cons_succ, List.getElem_toArray, List.getElem_cons_zero, List.getElem_cons_succ]
      refine any_take (i := 13) (v := (.bool true)) #[true, true, true, true, true, true, true, true, true, true, true, true, true, false, false, false, false, false, false, false, false, false, false] rfl (by kernel_rfl) (by kernel_rfl) (by kernel_rfl) (by kernel_rfl) (fun _ _ _ h => h) (.inl ⟨by kernel_rfl, fun x_ hu => by have e := key_refl kk hkk; go_simp⟩) trivial ?_
      simp only [Act.put, List.setIfInBounds_toArray, List.set_cons_zero, List.set_cons_succ, List.getElem_toArray, List.getElem_cons_zero, List.getElem_cons_succ]
      refine any_take (i := 14) (v := (.bool true)) #[true, true, true, true, true, true, true, true, true, true, true, true, true, true, false, false, false, false, false, false, false, false, false] rfl (by kernel_rfl) (by kernel_rfl) (by kernel_rfl) (by kernel_rfl) (fun _ _ _ h => h) (.inl ⟨by kernel_rfl, fun x_ hu => by kernel_rfl⟩) trivial ?_
      simp only [Act.put, List.setIfInBounds_toArray, List.set_cons_zero, List.set_cons_succ, List.getElem_toArray, List.getElem_cons_zero, List.getElem_cons_succ]
      refine any_take (i := 15) (v := (.slice a na ca)) #[true, true, true, true, true, true, true, true, true, true, true, true, true, true, true, false, false, false, false, false, false, false, false] rfl (by kernel_rfl) (by kernel_rfl) (by kernel_rfl) (by kernel_rfl) (fun _ _ _ h => h) (.inl ⟨by kernel_rfl, fun x_ hu => by kernel_rfl⟩) trivial ?_
      simp only [Act.put, List.setIfInBounds_toArray, List.set_cons_zero, List.set_cons_succ, List.getElem_toArray, List.getElem_cons_zero, List.getElem_cons_succ]
      refine any_take (i := 17) (v := (.slice a na ca)) #[true, true, true, true, true, true, true, true, true, true, true, true, true, true, true, true, false, false, false, false, false, false, false] rfl (by kernel_rfl) (by kernel_rfl) (by kernel_rfl) (by kernel_rfl) (fun _ _ _ h => h) (.inl ⟨by kernel_rfl, fun x_ hu => by kernel_rfl⟩) trivial ?_
      simp only [Act.put, List.setIfInBounds_toArray, List.set_cons_zero, List.set_cons_succ, List.getElem_toArray, List.getElem_cons_zero, List.getElem_cons_succ]
      refine float_first (fun q u => Mono u q (.slice none 0 0)) 45 (fun b_ => #[true, true, true, true, true, true, true, true, true, true, true, true, true, true, true, true, false, true, b_, false, false, false, false]) 18 16 false rfl rfl (fun _ _ => trivial) (by kernel_rfl) (fun b_ => by cases b_ <;> rfl) ?_ ?_
      all_goals simp only [fw1, Act.put, List.setIfInBounds_toArray, List.set_cons_zero, List.set_cons_succ, List.getElem_toArray, List.getElem_cons_zero, List.getElem_cons_succ]
      · intro q_ x_ _ K hK
        refine wpOp_step (o := _) rfl (fun K' hK' => ?_)
        replace hK' := hide hK'
        replace hK := hide hK
        refine step_val (.slice (some ⟨x_.heap.size, 0, none⟩) 1 1) (x_.alloc (.cells #[.slice none 0 0] 22 (0, 0))) (by kernel_rfl) (by kernel_rfl) ?_
        exact unhide hK' _ _ (unhide hK _ _ ((Gr.refl _).alloc _) (⟨_, rfl, blk_new _ _⟩))
      intro b2_16 q2_16 x2_16 hg hTq hall
      replace hG := hG.trans hg
      clear hg
      clear hall
      refine wpOp_step (o := _) rfl (fun K hK => ?_)
      replace hK := hide hK
      refine step_callw (by kernel_rfl) 13 #[.slice a na ca, .slice none 0 0] (by kernel_rfl) ((hmac_ok A (unhide hA).isB na (unhide la) (by omega) a ca ma (unhide hA).max [] none 0 0 rfl (by omega) (by simp) _ ((unhide hF).gr hG) ((unhide hA).sl.gr hG) (.inl rfl)).mono ?_)
      rintro r y16 ⟨rfl, hg⟩
      refine ⟨_, rfl, ?_⟩
      replace hTq := fun e => Mono.gr (hTq e) hg
      rw [show ([] : List (List Int)).flatten = [] from rfl]
      obtain ⟨k2, hk20⟩ : ∃ kk, kk = hmacL A [] := ⟨_, rfl⟩
      have hk2 : k2.length = 32 := by rw [hk20]; exact hmacL_len _ _
      rw [← hk20]
      replace hk20 := hide hk20
      replace hG := hG.trans hg
      clear hg
      refine unhide hK _ _ ⟨trivial, ?_⟩
      clear hK K
      simp only [Act.put, List.setIfInBounds_toArray, List.set_cons_zero, List.set_cons_succ, List.getElem_toArray, List.getElem_cons_zero, List.getElem_cons_succ]
      refine float_again (fun q u => Mono u q (.slice none 0 0)) 45 (fun b_ => #[true, true, true, true, true, true, true, true, true, true, true, true, true, true, true, true, true, true, b_, false, false, false, false]) 18 19 true (b := b2_16) (q := q2_16) rfl rfl hTq (fun _ _ => trivial) (by kernel_rfl) (fun b_ => by cases b_ <;> rfl) ?_ ?_
      all_goals simp only [fw1, Act.put, List.setIfInBounds_toArray, List.set_cons_zero, List.set_cons_succ, List.getElem_toArray, List.getElem_cons_zero, List.getElem_cons_succ]
      · intro q_ x_ _ K hK
        refine wpOp_step (o := _) rfl (fun K' hK' => ?_)
        replace hK' := hide hK'
        replace hK := hide hK
        refine step_val (.slice (some ⟨x_.heap.size, 0, none⟩) 1 1) (x_.alloc (.cells #[.slice none 0 0] 22 (0, 0))) (by kernel_rfl) (by kernel_rfl) ?_
        exact unhide hK' _ _ (unhide hK _ _ ((Gr.refl _).alloc _) (⟨_, rfl, blk_new _ _⟩))
      clear hTq
      intro b2_19 q2_19 x2_19 hg hTq hall
      replace hG := hG.trans hg
      clear hg
      obtain rfl : b2_19 = true := hall (by trivial)
      replace hTq := hTq rfl
      clear hall
      obtain ⟨gn, rfl, hm2⟩ := hTq
      refine wpOp_step (o := _) rfl (fun K hK => ?_)
      replace hK := hide hK
      refine step_callw (by kernel_rfl) 13 #[.slice a na ca, .slice (some ⟨gn, 0, none⟩) 1 1] (by kernel_rfl) ((hmac_ok A (unhide hA).isB na (unhide la) (by omega) a ca ma (unhide hA).max [[]] (some ⟨gn, 0, none⟩) 1 1 rfl (by omega) (by simp) _ ((unhide hF).gr hG) ((unhide hA).sl.gr hG) (Pr.one hm2 (Lb.nil _))).mono ?_)
      rintro r y19 ⟨rfl, hg⟩
      refine ⟨_, rfl, ?_⟩
      rw [show ([[]] : List (List Int)).flatten = [] from rfl, ← unhide hk20]
      clear hm2
      replace hG := hG.trans hg
      clear hg
      refine unhide hK _ _ ⟨trivial, ?_⟩
      clear hK K
      simp only [Act.put, List.setIfInBounds_toArray, List.set_cons_zero, List.set_cons_succ, List.getElem_toArray, List.getElem_cons_zero, List.getElem_cons_succ]
      refine any_take (i := 20) (v := (.bool true)) #[true, true, true, true, true, true, true, true, true, true, true, true, true, true, true, true, true, true, true, true, false, false, false] rfl (by kernel_rfl) (by kernel_rfl) (by kernel_rfl) (by kernel_rfl) (fun _ _ _ h => h) (.inl ⟨by kernel_rfl, fun x_ hu => by have e := key_refl k2 hk2; go_simp⟩) trivial ?_
      simp only [Act.put, List.setIfInBounds_toArray, List.set_cons_zero, List.set_cons_succ, List.getElem_toArray, List.getElem_cons_zero, List.getElem_cons_succ]
      refine any_take (i := 21) (v := (.bool true)) #[true, true, true, true, true, true, true, true, true, true, true, true, true, true, true, true, true, true, true, true, true, false, false] rfl (by kernel_rfl) (by kernel_rfl) (by kernel_rfl) (by kernel_rfl) (fun _ _ _ h => h) (.inl ⟨by kernel_rfl, fun x_ hu => by kernel_rfl⟩) trivial ?_
      simp only [Act.put, List.setIfInBounds_toArray, List.set_cons_zero, List.set_cons_succ, List.getElem_toArray, List.getElem_cons_zero, List.getElem_cons_succ]
      refine any_one (i := 22) (by kernel_rfl) rfl (fun K hK => ?_)
      replace hK := hide hK
      go_simp
      refine (unhide hK).out _ _ trivial (fun _ => ?_)
      clear hK K
      refine any_done (by kernel_rfl) ?_
      replace hG := hide hG
      go_wp2_with fail
      rw [unhide hT]
      exact ⟨rfl, unhide hG⟩
    · have n0 : 0 < (nb : Int) := by omega
      have n1 : 0 < nb := by omega
      replace hk1 := hk1 n1
      clear hk0
      obtain ⟨M, hM⟩ : ∃ M : Int, (if at_ < 0 then 0 else at_) = M := ⟨_, rfl⟩
      rw [hM] at hk1
      go_enter Tryd.func6, Tryd.ntmps6
      go_upto_region 8 with (go_at_call 9; refine (wakes_ok _ (unhide hF)).mono ?_; rintro e u1 ⟨rfl, hG⟩)
      refine any_start (S := fun _ => True) (by kernel_rfl) ?_
      have hg := (Gr.refl u1).drew
      generalize World.drew _ = u2 at *
      replace hG := hG.trans hg
      clear hg
      have hfl : ([B.take k, [], B.drop k] : List (List Int)).flatten = B := by simp
      have hfl1 : ([B] : List (List Int)).flatten = B := by simp
      simp only [List.size_toArray, List.length_cons, List.length_nil, Array.replicate, List.replicate]
      refine any_take (i := 0) (v := (.slice a na ca)) #[false, false, false, false, false, false, false, false, false, false, false, false, false, false, false, false, false, false, false, false, false, false, false] rfl (by kernel_rfl) (by kernel_rfl) (by kernel_rfl) (by kernel_rfl) (fun _ _ _ h => h) (.inl ⟨by kernel_rfl, fun x_ hu => by kernel_rfl⟩) trivial ?_
      simp only [Act.put, List.setIfInBounds_toArray, List.set_cons_zero, List.set_cons_succ, List.getElem_toArray, List.getElem_cons_zero, List.getElem_cons_succ]
      refine any_take (i := 1) (v := (.slice b nb cb)) #[true, false, false, false, false, false, false, false, false, false, false, false, false, false, false, false, false, false, false, false, false, false, false] rfl (by kernel_rfl) (by kernel_rfl) (by kernel_rfl) (by kernel_rfl) (fun _ _ _ h => h) (.inl ⟨by kernel_rfl, fun x_ hu => by kernel_rfl⟩) trivial ?_
      simp only [Act.put, List.setIfInBounds_toArray, List.set_cons_zero, List.set_cons_succ, List.getElem_toArray, List.getElem_cons_zero, List.getElem_cons_succ]
      refine any_take (i := 2) (v := (.int .i64 k)) #[true, true, false, false, false, false, false, false, false, false, false, false, false, false, false, false, false, false, false, false, false, false, false] rfl (by kernel_rfl) (by kernel_rfl) (by kernel_rfl) (by kernel_rfl) (fun _ _ _ h => h) (.inl ⟨by kernel_rfl, fun x_ hu => by kernel_rfl⟩) trivial ?_
      simp only [Act.put, List.setIfInBounds_toArray, List.set_cons_zero, List.set_cons_succ, List.getElem_toArray, List.getElem_cons_zero, List.getElem_cons_succ]
      refine any_take (i := 3) (v := (.slice b k cb)) #[true, true, true, false, false, false, false, false, false, false, false, false, false, false, false, false, false, false, false, false, false, false, false] rfl (by kernel_rfl) (by kernel_rfl) (by kernel_rfl) (by kernel_rfl) (fun _ _ _ h => h) (.inl ⟨by kernel_rfl, fun x_ hu => by go_simp⟩) trivial ?_
      simp only [Act.put, List.setIfInBounds_toArray, List.set_cons_zero, List.set_cons_succ, List.getElem_toArray, List.getElem_cons_zero, List.getElem_cons_succ]
      refine any_take (i := 4) (v := (.slice b nb cb)) #[true, true, true, true, false, false, false, false, false, false, false, false, false, false, false, false, false, false, false, false, false, false, false] rfl (by kernel_rfl) (by kernel_rfl) (by kernel_rfl) (by kernel_rfl) (fun _ _ _ h => h) (.inl ⟨by kernel_rfl, fun x_ hu => by kernel_rfl⟩) trivial ?_
      simp only [Act.put, List.setIfInBounds_toArray, List.set_cons_zero, List.set_cons_succ, List.getElem_toArray, List.getElem_cons_zero, List.getElem_cons_succ]
      refine any_take (i := 5) (v := (.int .i64 k)) #[true, true, true, true, true, false, false, false, false, false, false, false, false, false, false, false, false, false, false, false, false, false, false] rfl (by kernel_rfl) (by kernel_rfl) (by kernel_rfl) (by kernel_rfl) (fun _ _ _ h => h) (.inl ⟨by kernel_rfl, fun x_ hu => by kernel_rfl⟩) trivial ?_
      simp only [Act.put, List.setIfInBounds_toArray, List.set_cons_zero, List.set_cons_succ, List.getElem_toArray, List.getElem_cons_zero, List.getElem_cons_succ]
      refine any_take (i := 6) (v := (.slice ca2 (nb - k) (cb - k))) #[true, true, true, true, true, true, false, false, false, false, false, false, false, false, false, false, false, false, false, false, false, false, false] rfl (by kernel_rfl) (by kernel_rfl) (by kernel_rfl) (by kernel_rfl) (fun _ _ _ h => h) (.inl ⟨by kernel_rfl, fun x_ hu => by rw [unhide hca2]; go_simp⟩) trivial ?_
      simp only [Act.put, List.setIfInBounds_toArray, List.set_cons_zero, List.set_cons_succ, List.getElem_toArray, List.getElem_cons_zero, List.getElem_cons_succ]
      refine any_take (i := 9) (v := (.slice a na ca)) #[true, true, true, true, true, true, true, false, false, false, false, false, false, false, false, false, false, false, false, false, false, false, false] rfl (by kernel_rfl) (by kernel_rfl) (by kernel_rfl) (by kernel_rfl) (fun _ _ _ h => h) (.inl ⟨by kernel_rfl, fun x_ hu => by kernel_rfl⟩) trivial ?_
      simp only [Act.put, List.setIfInBounds_toArray, List.set_cons_zero, List.set_cons_succ, List.getElem_toArray, List.getElem_cons_zero, List.getElem_cons_succ]
      refine any_take (i := 10) (v := (.slice b nb cb)) #[true, true, true, true, true, true, true, false, false, true, false, false, false, false, false, false, false, false, false, false, false, false, false] rfl (by kernel_rfl) (by kernel_rfl) (by kernel_rfl) (by kernel_rfl) (fun _ _ _ h => h) (.inl ⟨by kernel_rfl, fun x_ hu => by kernel_rfl⟩) trivial ?_
      simp only [Act.put, List.setIfInBounds_toArray, List.set_cons_zero, List.set_cons_succ, List.getElem_toArray, List.getElem_cons_zero, List.getElem_cons_succ]
      refine float_first (fun q u => Mono u q (.slice b nb cb)) 38 (fun b_ => #[true, true, true, true, true, true, true, false, false, true, true, b_, false, false, false, false, false, false, false, false, false, false, false]) 11 7 false rfl rfl (fun _ _ => trivial) (by kernel_rfl) (fun b_ => by cases b_ <;> rfl) ?_ ?_
      all_goals simp only [fw1, Act.put, List.setIfInBounds_toArray, List.set_cons_zero, List.set_cons_succ, List.getElem_toArray, List.getElem_cons_zero, List.getElem_cons_succ]
      · intro q_ x_ _ K hK
        refine wpOp_step (o := _) rfl (fun K' hK' => ?_)
        replace hK' := hide hK'
        replace hK := hide hK
        refine step_val (.slice (some ⟨x_.heap.size, 0, none⟩) 1 1) (x_.alloc (.cells #[.slice b nb cb] 22 (0, 0))) (by kernel_rfl) (by kernel_rfl) ?_
        exact unhide hK' _ _ (unhide hK _ _ ((Gr.refl _).alloc _) (⟨_, rfl, blk_new _ _⟩))
      intro b1_7 q1_7 x1_7 hg hTq hall
      replace hG := hG.trans hg
      clear hg
      clear hall
      refine wpOp_step (o := _) rfl (fun K hK => ?_)
      replace hK := hide hK
      refine step_val (.slice (some ⟨x1_7.heap.size, 0, none⟩) 3 3) (x1_7.alloc (.cells #[.slice b k cb, .slice none 0 0, .slice ca2 (nb - k) (cb - k)] 22 (0, 0))) (by kernel_rfl) (by kernel_rfl) ?_
      refine unhide hK _ _ ⟨trivial, ?_⟩
      clear hK K
      simp only [Act.put, List.setIfInBounds_toArray, List.set_cons_zero, List.set_cons_succ, List.getElem_toArray, List.getElem_cons_zero, List.getElem_cons_succ]
      have hg := (Gr.refl x1_7).alloc (.cells #[.slice b k cb, .slice none 0 0, .slice ca2 (nb - k) (cb - k)] 22 (0, 0))
      have h3 := blk_new x1_7 (.cells #[.slice b k cb, .slice none 0 0, .slice ca2 (nb - k) (cb - k)] 22 (0, 0))
      replace hTq := fun e => Mono.gr (hTq e) hg
      generalize World.alloc _ _ = y3 at *
      generalize x1_7.heap.size = g3 at *
      replace hG := hG.trans hg
      clear hg
      refine float_again (fun q u => Mono u q (.slice b nb cb)) 38 (fun b_ => #[true, true, true, true, true, true, true, true, false, true, true, b_, false, false, false, false, false, false, false, false, false, false, false]) 11 8 false (b := b1_7) (q := q1_7) rfl rfl hTq (fun _ _ => trivial) (by kernel_rfl) (fun b_ => by cases b_ <;> rfl) ?_ ?_
      all_goals simp only [fw1, Act.put, List.setIfInBounds_toArray, List.set_cons_zero, List.set_cons_succ, List.getElem_toArray, List.getElem_cons_zero, List.getElem_cons_succ]
      · intro q_ x_ _ K hK
        refine wpOp_step (o := _) rfl (fun K' hK' => ?_)
        replace hK' := hide hK'
        replace hK := hide hK
        refine step_val (.slice (some ⟨x_.heap.size, 0, none⟩) 1 1) (x_.alloc (.cells #[.slice b nb cb] 22 (0, 0))) (by kernel_rfl) (by kernel_rfl) ?_
        exact unhide hK' _ _ (unhide hK _ _ ((Gr.refl _).alloc _) (⟨_, rfl, blk_new _ _⟩))
      clear hTq
      intro b1_8 q1_8 x1_8 hg hTq hall
      replace hG := hG.trans hg
      replace h3 := hg.blk h3
      clear hg
      clear hall
      refine wpOp_step (o := _) rfl (fun K hK => ?_)
      replace hK := hide hK
      refine step_callw (by kernel_rfl) 13 #[.slice a na ca, .slice (some ⟨g3, 0, none⟩) 3 3] (by kernel_rfl) ((hmac_ok A (unhide hA).isB na (unhide la) (by omega) a ca ma (unhide hA).max [B.take k, [], B.drop k] (some ⟨g3, 0, none⟩) 3 3 rfl (by omega) (by rw [hfl, unhide lb]; omega) _ ((unhide hF).gr hG) ((unhide hA).sl.gr hG) (Pr.three h3 ((Sl.cutl (unhide hB) k hk).gr hG) (Lb.nil _) (by rw [unhide hca2]; exact (Sl.cutr (unhide hB) k hk).gr hG))).mono ?_)
      rintro r y8 ⟨rfl, hg⟩
      refine ⟨_, rfl, ?_⟩
      replace hTq := fun e => Mono.gr (hTq e) hg
      rw [hfl]
      obtain ⟨kk, hkk0⟩ : ∃ kk, kk = hmacL A B := ⟨_, rfl⟩
      have hkk : kk.length = 32 := by rw [hkk0]; exact hmacL_len _ _
      rw [← hkk0]
      replace hkk0 := hide hkk0
      clear h3
      replace hG := hG.trans hg
      clear hg
      refine unhide hK _ _ ⟨trivial, ?_⟩
      clear hK K
      simp only [Act.put, List.setIfInBounds_toArray, List.set_cons_zero, List.set_cons_succ, List.getElem_toArray, List.getElem_cons_zero, List.getElem_cons_succ]
      refine float_again (fun q u => Mono u q (.slice b nb cb)) 38 (fun b_ => #[true, true, true, true, true, true, true, true, true, true, true, b_, false, false, false, false, false, false, false, false, false, false, false]) 11 12 true (b := b1_8) (q := q1_8) rfl rfl hTq (fun _ _ => trivial) (by kernel_rfl) (fun b_ => by cases b_ <;> rfl) ?_ ?_
      all_goals simp only [fw1, Act.put, List.setIfInBounds_toArray, List.set_cons_zero, List.set_cons_succ, List.getElem_toArray, List.getElem_cons_zero, List.getElem_cons_succ]
      · intro q_ x_ _ K hK
        refine wpOp_step (o := _) rfl (fun K' hK' => ?_)
        replace hK' := hide hK'
        replace hK := hide hK
        refine step_val (.slice (some ⟨x_.heap.size, 0, none⟩) 1 1) (x_.alloc (.cells #[.slice b nb cb] 22 (0, 0))) (by kernel_rfl) (by kernel_rfl) ?_
        exact unhide hK' _ _ (unhide hK _ _ ((Gr.refl _).alloc _) (⟨_, rfl, blk_new _ _⟩))
      clear hTq
      intro b1_12 q1_12 x1_12 hg hTq hall
      replace hG := hG.trans hg
      clear hg
      obtain rfl : b1_12 = true := hall (by trivial)
      replace hTq := hTq rfl
      clear hall
      obtain ⟨gm, rfl, hm1⟩ := hTq
      refine wpOp_step (o := _) rfl (fun K hK => ?_)
      replace hK := hide hK
      refine step_callw (by kernel_rfl) 13 #[.slice a na ca, .slice (some ⟨gm, 0, none⟩) 1 1] (by kernel_rfl) ((hmac_ok A (unhide hA).isB na (unhide la) (by omega) a ca ma (unhide hA).max [B] (some ⟨gm, 0, none⟩) 1 1 rfl (by omega) (by rw [hfl1, unhide lb]; omega) _ ((unhide hF).gr hG) ((unhide hA).sl.gr hG) (Pr.one hm1 ((unhide hB).gr hG))).mono ?_)
      rintro r y12 ⟨rfl, hg⟩
      refine ⟨_, rfl, ?_⟩
      rw [hfl1, ← unhide hkk0]
      clear hm1
      replace hG := hG.trans hg
      clear hg
      refine unhide hK _ _ ⟨trivial, ?_⟩
      clear hK K
      simp only [Act.put, List.setIfInBounds_toArray, List.set_cons_zero, List.set_cons_succ, List.getElem_toArray, List.getElem_cons_zero, List.getElem_cons_succ]
      refine any_take (i := 13) (v := (.bool true)) #[true, true, true, true, true, true, true, true, true, true, true, true, true, false, false, false, false, false, false, false, false, false, false] rfl (by kernel_rfl) (by kernel_rfl) (by kernel_rfl) (by kernel_rfl) (fun _ _ _ h => h) (.inl ⟨by kernel_rfl, fun x_ hu => by have e := key_refl kk hkk; go_simp⟩) trivial ?_
      simp only [Act.put, List.setIfInBounds_toArray, List.set_cons_zero, List.set_cons_succ, List.getElem_toArray, List.getElem_cons_zero, List.getElem_cons_succ]
      refine any_take (i := 14) (v := (.bool true)) #[true, true, true, true, true, true, true, true, true, true, true, true, true, true, false, false, false, false, false, false, false, false, false] rfl (by kernel_rfl) (by kernel_rfl) (by kernel_rfl) (by kernel_rfl) (fun _ _ _ h => h) (.inl ⟨by kernel_rfl, fun x_ hu => by kernel_rfl⟩) trivial ?_
      simp only [Act.put, List.setIfInBounds_toArray, List.set_cons_zero, List.set_cons_succ, List.getElem_toArray, List.getElem_cons_zero, List.getElem_cons_succ]
      refine any_take (i := 15) (v := (.slice a na ca)) #[true, true, true, true, true, true, true, true, true, true, true, true, true, true, true, false, false, false, false, false, false, false, false] rfl (by kernel_rfl) (by kernel_rfl) (by kernel_rfl) (by kernel_rfl) (fun _ _ _ h => h) (.inl ⟨by kernel_rfl, fun x_ hu => by kernel_rfl⟩) trivial ?_
      simp only [Act.put, List.setIfInBounds_toArray, List.set_cons_zero, List.set_cons_succ, List.getElem_toArray, List.getElem_cons_zero, List.getElem_cons_succ]
      refine any_take (i := 17) (v := (.slice a na ca)) #[true, true, true, true, true, true, true, true, true, true, true, true, true, true, true, true, false, false, false, false, false, false, false] rfl (by kernel_rfl) (by kernel_rfl) (by kernel_rfl) (by kernel_rfl) (fun _ _ _ h => h) (.inl ⟨by kernel_rfl, fun x_ hu => by kernel_rfl⟩) trivial ?_
      simp only [Act.put, List.setIfInBounds_toArray, List.set_cons_zero, List.set_cons_succ, List.getElem_toArray, List.getElem_cons_zero, List.getElem_cons_succ]
      refine float_first (fun q u => Mono u q (.slice none 0 0)) 45 (fun b_ => #[true, true, true, true, true, true, true, true, true, true, true, true, true, true, true, true, false, true, b_, false, false, false, false]) 18 16 false rfl rfl (fun _ _ => trivial) (by kernel_rfl) (fun b_ => by cases b_ <;> rfl) ?_ ?_
      all_goals simp only [fw1, Act.put, List.setIfInBounds_toArray, List.set_cons_zero, List.set_cons_succ, List.getElem_toArray, List.getElem_cons_zero, List.getElem_cons_succ]
      · intro q_ x_ _ K hK
        refine wpOp_step (o := _) rfl (fun K' hK' => ?_)
        replace hK' := hide hK'
        replace hK := hide hK
        refine step_val (.slice (some ⟨x_.heap.size, 0, none⟩) 1 1) (x_.alloc (.cells #[.slice none 0 0] 22 (0, 0))) (by kernel_rfl) (by kernel_rfl) ?_
        exact unhide hK' _ _ (unhide hK _ _ ((Gr.refl _).alloc _) (⟨_, rfl, blk_new _ _⟩))
      intro b2_16 q2_16 x2_16 hg hTq hall
      replace hG := hG.trans hg
      clear hg
      clear hall
      refine wpOp_step (o := _) rfl (fun K hK => ?_)
      replace hK := hide hK
      refine step_callw (by kernel_rfl) 13 #[.slice a na ca, .slice none 0 0] (by kernel_rfl) ((hmac_ok A (unhide hA).isB na (unhide la) (by omega) a ca ma (unhide hA).max [] none 0 0 rfl (by omega) (by simp) _ ((unhide hF).gr hG) ((unhide hA).sl.gr hG) (.inl rfl)).mono ?_)
      rintro r y16 ⟨rfl, hg⟩
      refine ⟨_, rfl, ?_⟩
      replace hTq := fun e => Mono.gr (hTq e) hg
      rw [show ([] : List (List Int)).flatten = [] from rfl]
      obtain ⟨k2, hk20⟩ : ∃ kk, kk = hmacL A [] := ⟨_, rfl⟩
      have hk2 : k2.length = 32 := by rw [hk20]; exact hmacL_len _ _
      rw [← hk20]
      replace hk20 := hide hk20
      replace hG := hG.trans hg
      clear hg
      refine unhide hK _ _ ⟨trivial, ?_⟩
      clear hK K
      simp only [Act.put, List.setIfInBounds_toArray, List.set_cons_zero, List.set_cons_succ, List.getElem_toArray, List.getElem_cons_zero, List.getElem_cons_succ]
      refine float_again (fun q u => Mono u q (.slice none 0 0)) 45 (fun b_ => #[true, true, true, true, true, true, true, true, true, true, true, true, true, true, true, true, true, true, b_, false, false, false, false]) 18 19 true (b := b2_16) (q := q2_16) rfl rfl hTq (fun _ _ => trivial) (by kernel_rfl) (fun b_ => by cases b_ <;> rfl) ?_ ?_
      all_goals simp only [fw1, Act.put, List.setIfInBounds_toArray, List.set_cons_zero, List.set_cons_succ, List.getElem_toArray, List.getElem_cons_zero, List.getElem_cons_succ]
      · intro q_ x_ _ K hK
        refine wpOp_step (o := _) rfl (fun K' hK' => ?_)
        replace hK' := hide hK'
        replace hK := hide hK
        refine step_val (.slice (some ⟨x_.heap.size, 0, none⟩) 1 1) (x_.alloc (.cells #[.slice none 0 0] 22 (0, 0))) (by kernel_rfl) (by kernel_rfl) ?_
        exact unhide hK' _ _ (unhide hK _ _ ((Gr.refl _).alloc _) (⟨_, rfl, blk_new _ _⟩))
      clear hTq
      intro b2_19 q2_19 x2_19 hg hTq hall
      replace hG := hG.trans hg
      clear hg
      obtain rfl : b2_19 = true := hall (by trivial)
      replace hTq := hTq rfl
      clear hall
      obtain ⟨gn, rfl, hm2⟩ := hTq
      refine wpOp_step (o := _) rfl (fun K hK => ?_)
      replace hK := hide hK
      refine step_callw (by kernel_rfl) 13 #[.slice a na ca, .slice (some ⟨gn, 0, none⟩) 1 1] (by kernel_rfl) ((hmac_ok A (unhide hA).isB na (unhide la) (by omega) a ca ma (unhide hA).max [[]] (some ⟨gn, 0, none⟩) 1 1 rfl (by omega) (by simp) _ ((unhide hF).gr hG) ((unhide hA).sl.gr hG) (Pr.one hm2 (Lb.nil _))).mono ?_)
      rintro r y19 ⟨rfl, hg⟩
      refine ⟨_, rfl, ?_⟩
      rw [show ([[]] : List (List Int)).flatten = [] from rfl, ← unhide hk20]
      clear hm2
      replace hG := hG.trans hg
      clear hg
      refine unhide hK _ _ ⟨trivial, ?_⟩
      clear hK K
      simp only [Act.put, List.setIfInBounds_toArray, List.set_cons_zero, List.set_cons_succ, List.getElem_toArray, List.getElem_cons_zero, List.getElem_cons_succ]
      refine any_take (i := 20) (v := (.bool true)) #[true, true, true, true, true, true, true, true, true, true, true, true, true, true, true, true, true, true, true, true, false, false, false] rfl (by kernel_rfl) (by kernel_rfl) (by kernel_rfl) (by kernel_rfl) (fun _ _ _ h => h) (.inl ⟨by kernel_rfl, fun x_ hu => by have e := key_refl k2 hk2; go_simp⟩) trivial ?_
      simp only [Act.put, List.setIfInBounds_toArray, List.set_cons_zero, List.set_cons_succ, List.getElem_toArray, List.getElem_cons_zero, List.getElem_cons_succ]
      refine any_take (i := 21) (v := (.bool true)) #[true, true, true, true, true, true, true, true, true, true, true, true, true, true, true, true, true, true, true, true, true, false, false] rfl (by kernel_rfl) (by kernel_rfl) (by kernel_rfl) (by kernel_rfl) (fun _ _ _ h => h) (.inl ⟨by kernel_rfl, fun x_ hu => by kernel_rfl⟩) trivial ?_
      simp only [Act.put, List.setIfInBounds_toArray, List.set_cons_zero, List.set_cons_succ, List.getElem_toArray, List.getElem_cons_zero, List.getElem_cons_succ]
      refine any_one (i := 22) (by kernel_rfl) rfl (fun K hK => ?_)
      replace hK := hide hK
      go_simp
      refine (unhide hK).out _ _ trivial (fun _ => ?_)
      clear hK K
      refine any_done (by kernel_rfl) ?_
      replace hG := hide hG
      go_wp2_with fail
      rw [unhide hT]
      exact ⟨rfl, unhide hG⟩
end Go.Proofs.YthnmebhljkccnaaDoor
