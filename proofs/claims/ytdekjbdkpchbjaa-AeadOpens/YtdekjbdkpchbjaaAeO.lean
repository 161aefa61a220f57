/-
  The reference: what Open answers.
-/
import Derived.Test.YtdekjbdkpchbjaaAeS
namespace Go.Proofs.Ytdekjbdkpchbjaa
open Go.RowKit
set_option maxRecDepth 100000
set_option linter.unusedSimpArgs false
set_option linter.unusedVariables false
/-- what Open answers, by the tag -/
def Ropd (Y D P : List Int) (w : World) (r : Ending) (w' : World) : Prop := (Y = D ∧ ∃ v, r = .returned (.tuple #[v, .bool true]) ∧ Ob w.heap.size w' v P ∧ Gr w w') ∨ (Y ≠ D ∧ r = .returned (.tuple #[.slice none 0 0, .bool false]) ∧ Gr w w')
def Rshut (w : World) (r : Ending) (w' : World) : Prop := r = .returned (.tuple #[.slice none 0 0, .bool false]) ∧ Gr w w'
def NT (v0 : World) (q : Value) (u : World) : Prop := ∃ g, New v0 (kc ZT) 41 u q g
theorem NT.gr {v0 u v : World} {q : Value} (h : NT v0 q u) (k : Gr u v) : NT v0 q v := by
  obtain ⟨g, h⟩ := h
  exact ⟨g, h.more k⟩
set_option maxHeartbeats 4000000 in
theorem ropen_short (K N A S : List Int) (s s2 : Option Addr) (n n2 cap cap2 : Nat) (hsh : n2 < 16) (w : World) : Calls Try.prog 16 #[.agg (kc K), .agg (kc N), .slice s n cap, .slice s2 n2 cap2] w (Rshut w) := by
  obtain ⟨T, hT⟩ : ∃ T, T = Rshut w := ⟨_, rfl⟩
  rw [← hT]
  replace hT := hide hT
  obtain ⟨SK, hSK⟩ : ∃ S, S = kc K := ⟨_, rfl⟩
  obtain ⟨SN, hSN⟩ : ∃ S, S = kc N := ⟨_, rfl⟩
  rw [← hSK, ← hSN]
  replace hSK := hide hSK
  replace hSN := hide hSN
  obtain ⟨z, hz⟩ : ∃ z : Int, (n2 : Int) - 16 = z := ⟨_, rfl⟩
  have z0 : z < 0 := by omega
  have z1 : IntKind.i64.wrap z = z := by rw [IntKind.wrap_i64]; omega
  have hB := (((Bl.nil w).new SK 23).new SN 25)
  replace hB := hide hB
  go_enter Try.func16, Try.ntmps16
  go_wp2_with fail
  rw [unhide hT]
  exact ⟨rfl, (unhide hB).gr⟩
set_option maxHeartbeats 4000000 in
theorem ropen_tag (K N : List Int) (hK : K.length = 32) (hN : N.length = 12) (hKb : IsB K) (hNb : IsB N) (A S : List Int) (s s2 : Option Addr) (n n2 cap cap2 m : Nat) (hbn : n ≤ 20000) (hbig : n2 ≤ 20000) (hm16 : n2 = m + 16) (w : World) (la : Lb w s n cap A) (ls : Lb w s2 n2 cap2 S) : Calls Try.prog 16 #[.agg (kc K), .agg (kc N), .slice s n cap, .slice s2 n2 cap2] w (Ropd (tagL K N A (S.take m)) (S.drop m) (xl K N 1 (S.take m)) w) := by
  obtain ⟨T, hT⟩ : ∃ T, T = Ropd (tagL K N A (S.take m)) (S.drop m) (xl K N 1 (S.take m)) w := ⟨_, rfl⟩
  rw [← hT]
  replace hT := hide hT
  obtain ⟨C, hSt⟩ : ∃ C, S.take m = C := ⟨_, rfl⟩
  obtain ⟨E, hSd⟩ : ∃ C, S.drop m = C := ⟨_, rfl⟩
  rw [hSt, hSd] at hT
  have hCl : C.length = m := by rw [← hSt, List.length_take, ls.len]; omega
  have hEl : E.length = 16 := by rw [← hSd, List.length_drop, ls.len]; omega
  obtain ⟨Y, hY⟩ : ∃ Y, Y = tagL K N A C := ⟨_, rfl⟩
  have hYl : Y.length = 16 := by rw [hY, tagL_len]
  rw [← hY] at hT
  have hcap := ls.cap
  obtain ⟨s3, hs3⟩ : ∃ x, x = if cap2 = 0 then s2 else s2.map (·.add 0) := ⟨_, rfl⟩
  have l3 : Lb w s3 m cap2 C := by
    have h := ls.upto m (by omega)
    rw [hSt, ← hs3] at h
    exact h
  obtain ⟨p, q, rfl, hat⟩ : ∃ p q, s2 = some ⟨p, q, none⟩ ∧ At w p (q + m) E := by
    rcases ls.sl with h | ⟨p, q, h1, h2⟩
    · have h3 := ls.len
      rw [h] at h3
      simp at h3
      omega
    · exact ⟨p, q, h1, by rw [← hSd]; exact h2.drop m⟩
  have hle : m ≤ n2 := by omega
  have i1 : ¬ (m : Int) < 0 := by omega
  have i2 : (n2 : Int) - 16 = (m : Int) := by omega
  have i3 : IntKind.i64.wrap (m : Int) = (m : Int) := by rw [IntKind.wrap_i64]; omega
  clear ls hSt hSd
  replace hs3 := hide hs3; replace l3 := hide l3; replace hm16 := hide hm16; replace hCl := hide hCl; replace hY := hide hY; replace hat := hide hat
  obtain ⟨SK, hSK⟩ : ∃ S, S = kc K := ⟨_, rfl⟩
  obtain ⟨SN, hSN⟩ : ∃ S, S = kc N := ⟨_, rfl⟩
  rw [← hSK, ← hSN]
  replace hSK := hide hSK
  replace hSN := hide hSN
  replace hKb := hide hKb
  replace hNb := hide hNb
  replace la := hide la
  go_enter Try.func16, Try.ntmps16
  go_upto_region 4 with fail
  have hB := (((Bl.nil w).new SK 23).new SN 25)
  simp only [size_alloc, List.nil_append, List.cons_append] at hB
  generalize World.alloc _ _ = u at *
  rw [unhide hSK, unhide hSN] at hB
  replace hB : Bl w [⟨w.heap.size, kc K, 23⟩, ⟨w.heap.size + 1, kc N, 25⟩] u := hB
  refine any_start (S := fun v => Bl w [⟨w.heap.size, kc K, 23⟩, ⟨w.heap.size + 1, kc N, 25⟩] v) (by kernel_rfl) ?_
  replace hB := hB.drew
  generalize World.drew _ = x0 at *
  have hG0 := Gr.refl x0
  have hB0 := hB
  simp only [List.size_toArray, List.length_cons, List.length_nil, Array.replicate, List.replicate]
  refine any_take (i := 0) (v := (.agg (kc K))) #[false, false, false, false, false, false, false, false, false] rfl (by kernel_rfl) (by kernel_rfl) (by kernel_rfl) (by kernel_rfl) (fun _ _ _ h => h) (.inl ⟨by kernel_rfl, fun x_ hu => exec_arr _ 23 (.tmp 4) rfl (w.heap.size) (by kernel_rfl) (kc K) 23 _ (hu.get 0 (x := ⟨w.heap.size, kc K, 23⟩) rfl) Try.underlying23 rfl (by rw [Try.infoKey, kc_size, hK])⟩) hB ?_
  simp only [Act.put, List.setIfInBounds_toArray, List.set_cons_zero, List.set_cons_succ, List.getElem_toArray, List.getElem_cons_zero, List.getElem_cons_succ]
  refine any_take (i := 1) (v := (.agg (kc N))) #[true, false, false, false, false, false, false, false, false] rfl (by kernel_rfl) (by kernel_rfl) (by kernel_rfl) (by kernel_rfl) (fun _ _ _ h => h) (.inl ⟨by kernel_rfl, fun x_ hu => exec_arr _ 25 (.tmp 5) rfl (w.heap.size + 1) (by kernel_rfl) (kc N) 25 _ (hu.get 1 (x := ⟨w.heap.size + 1, kc N, 25⟩) rfl) Try.underlying25 rfl (by rw [Try.infoN, kc_size, hN])⟩) hB ?_
  simp only [Act.put, List.setIfInBounds_toArray, List.set_cons_zero, List.set_cons_succ, List.getElem_toArray, List.getElem_cons_zero, List.getElem_cons_succ]
  refine any_take (i := 2) (v := (.slice s n cap)) #[true, true, false, false, false, false, false, false, false] rfl (by kernel_rfl) (by kernel_rfl) (by kernel_rfl) (by kernel_rfl) (fun _ _ _ h => h) (.inl ⟨by kernel_rfl, fun x_ hu => by kernel_rfl⟩) hB ?_
  simp only [Act.put, List.setIfInBounds_toArray, List.set_cons_zero, List.set_cons_succ, List.getElem_toArray, List.getElem_cons_zero, List.getElem_cons_succ]
  refine any_take (i := 3) (v := (.slice (some ⟨p, q, none⟩) n2 cap2)) #[true, true, true, false, false, false, false, false, false] rfl (by kernel_rfl) (by kernel_rfl) (by kernel_rfl) (by kernel_rfl) (fun _ _ _ h => h) (.inl ⟨by kernel_rfl, fun x_ hu => by kernel_rfl⟩) hB ?_
  simp only [Act.put, List.setIfInBounds_toArray, List.set_cons_zero, List.set_cons_succ, List.getElem_toArray, List.getElem_cons_zero, List.getElem_cons_succ]
  refine any_take (i := 4) (v := (.int .i64 m)) #[true, true, true, true, false, false, false, false, false] rfl (by kernel_rfl) (by kernel_rfl) (by kernel_rfl) (by kernel_rfl) (fun _ _ _ h => h) (.inl ⟨by kernel_rfl, fun x_ hu => by kernel_rfl⟩) hB ?_
  simp only [Act.put, List.setIfInBounds_toArray, List.set_cons_zero, List.set_cons_succ, List.getElem_toArray, List.getElem_cons_zero, List.getElem_cons_succ]
  refine any_take (i := 5) (v := (.slice s3 m cap2)) #[true, true, true, true, true, false, false, false, false] rfl (by kernel_rfl) (by kernel_rfl) (by kernel_rfl) (by kernel_rfl) (fun _ _ _ h => h) (.inl ⟨by kernel_rfl, fun x_ hu => by rw [unhide hs3]; exact exec_upto _ (.tmp 21) (.tmp 22) rfl (some ⟨p, q, none⟩) n2 cap2 m rfl rfl hcap hle⟩) hB ?_
  simp only [Act.put, List.setIfInBounds_toArray, List.set_cons_zero, List.set_cons_succ, List.getElem_toArray, List.getElem_cons_zero, List.getElem_cons_succ]
  refine float_first (fun q u => NT x0 q u) 11 (fun b_ => #[true, true, true, true, true, true, false, b_, false]) 7 6 false rfl rfl (fun _ g_ => hB.more g_) (by kernel_rfl) (fun b_ => by cases b_ <;> rfl) ?_ ?_
  all_goals simp only [fw1, Act.put, List.setIfInBounds_toArray, List.set_cons_zero, List.set_cons_succ, List.getElem_toArray, List.getElem_cons_zero, List.getElem_cons_succ]
  · intro q_ x_ hgx K_ hQ
    refine wpOp_step (o := _) rfl (fun K' hK' => ?_)
    replace hK' := hide hK'
    replace hQ := hide hQ
    refine step_val (.pointer (some ⟨x_.heap.size, 0, none⟩)) (x_.alloc (.cells #[.int .u8 0, .int .u8 0, .int .u8 0, .int .u8 0, .int .u8 0, .int .u8 0, .int .u8 0, .int .u8 0, .int .u8 0, .int .u8 0, .int .u8 0, .int .u8 0, .int .u8 0, .int .u8 0, .int .u8 0, .int .u8 0] 41 (0, 0))) (by kernel_rfl) (by kernel_rfl) ?_
    exact unhide hK' _ _ (unhide hQ _ _ ((Gr.refl _).alloc _) (⟨_, rfl, Nat.le_trans hG0.size hgx.size, blk_new _ _⟩))
  intro b1_6 q1_6 x1_6 hg hTq hall
  replace hB := hB.more hg
  replace hG0 := hG0.trans hg
  clear hall
  refine wpOp_step (o := _) rfl (fun K_ hQ => ?_)
  replace hQ := hide hQ
  refine step_callw (by kernel_rfl) 19 #[.agg (kc K), .agg (kc N), .slice s n cap, .slice s3 m cap2] (by kernel_rfl) ((rtag_ok K N hK hN (unhide hKb) (unhide hNb) A C s s3 n m cap cap2 hbn (by omega) _ ((unhide la).gr hB.gr) ((unhide l3).gr hB.gr)).mono ?_)
  rintro r x4 ⟨rfl, hg⟩
  refine ⟨_, rfl, ?_⟩
  replace hTq := fun e => NT.gr (hTq e) hg
  replace hB := hB.more hg
  replace hG0 := hG0.trans hg
  rw [← unhide hY]
  clear hg
  refine unhide hQ _ _ ⟨hB, ?_⟩
  clear hQ K_
  simp only [Act.put, List.setIfInBounds_toArray, List.set_cons_zero, List.set_cons_succ, List.getElem_toArray, List.getElem_cons_zero, List.getElem_cons_succ]
  refine float_again (fun q u => NT x0 q u) 11 (fun b_ => #[true, true, true, true, true, true, true, b_, false]) 7 8 true (b := b1_6) (q := q1_6) rfl rfl hTq (fun _ g_ => hB.more g_) (by kernel_rfl) (fun b_ => by cases b_ <;> rfl) ?_ ?_
  all_goals simp only [fw1, Act.put, List.setIfInBounds_toArray, List.set_cons_zero, List.set_cons_succ, List.getElem_toArray, List.getElem_cons_zero, List.getElem_cons_succ]
  · intro q_ x_ hgx K_ hQ
    refine wpOp_step (o := _) rfl (fun K' hK' => ?_)
    replace hK' := hide hK'
    replace hQ := hide hQ
    refine step_val (.pointer (some ⟨x_.heap.size, 0, none⟩)) (x_.alloc (.cells #[.int .u8 0, .int .u8 0, .int .u8 0, .int .u8 0, .int .u8 0, .int .u8 0, .int .u8 0, .int .u8 0, .int .u8 0, .int .u8 0, .int .u8 0, .int .u8 0, .int .u8 0, .int .u8 0, .int .u8 0, .int .u8 0] 41 (0, 0))) (by kernel_rfl) (by kernel_rfl) ?_
    exact unhide hK' _ _ (unhide hQ _ _ ((Gr.refl _).alloc _) (⟨_, rfl, Nat.le_trans hG0.size hgx.size, blk_new _ _⟩))
  clear hTq
  intro b1_8 q1_8 x1_8 hg hTq hall
  replace hB := hB.more hg
  replace hG0 := hG0.trans hg
  obtain rfl : b1_8 = true := hall (by trivial)
  replace hTq := hTq rfl
  clear hall
  obtain ⟨h11, rfl, hge11, hnew⟩ := hTq
  refine wpOp_step (o := _) rfl (fun K_ hQ => ?_)
  replace hQ := hide hQ
  rw [if_pos (by kernel_rfl)]
  refine wp_store_row 41 (.tmp 11) (.tmp 24) rfl h11 (kc Y) (by kernel_rfl) (by kernel_rfl) 41 (kc ZT) hnew (by rw [Try.infoT, kc_size, hYl]) ((show (kc ZT).size = 16 from rfl).trans ((kc_size _).trans hYl).symm) (kc_one _) ?_
  have hB7 := (hB0.join hG0 [⟨h11, kc ZT, 41⟩] (by intro x hx; rw [List.mem_singleton] at hx; subst hx; exact ⟨hnew, hge11⟩) (List.pairwise_singleton _ _)).set 2 (x := ⟨h11, kc ZT, 41⟩) rfl (kc Y)
  simp only [List.cons_append, List.nil_append, List.set_cons_zero, List.set_cons_succ] at hB7
  have hG2 := hG0.row h11 hge11 (kc Y)
  generalize World.setRow _ _ _ = x9 at *
  refine unhide hQ _ _ ⟨hB0.more hG2, ?_⟩
  clear hQ K_
  simp only [Act.put, List.setIfInBounds_toArray, List.set_cons_zero, List.set_cons_succ, List.getElem_toArray, List.getElem_cons_zero, List.getElem_cons_succ]
  clear hB hG0 hG2 hnew hge11 hB0
  have hB := hB7
  clear hB7
  refine any_done (by kernel_rfl) ?_
  replace hB : Hid (Bl w [⟨w.heap.size, kc K, 23⟩, ⟨w.heap.size + 1, kc N, 25⟩, ⟨h11, kc Y, 41⟩] _) := hide hB
  go_wp2_with fail
  go_loopw [25] (fun i wr => ∃ k : Nat, k ≤ 16 ∧ i = .int .i64 k ∧ Hid (Y.take k = E.take k) ∧ Hid (Bl w [⟨w.heap.size, kc K, 23⟩, ⟨w.heap.size + 1, kc N, 25⟩, ⟨h11, kc Y, 41⟩] wr)) (fun i _ => 16 - (intOf i).toNat)
  case atStart => exact ⟨0, by omega, rfl, (by simp : Y.take 0 = E.take 0), hB⟩
  case round =>
  clear hB
  obtain ⟨k, hk, rfl, hE, hB⟩ := hrel
  by_cases hkl : k < 16
  · have kI : (k : Int) < 16 := by omega
    obtain ⟨j, hj⟩ : ∃ j, j = m + k := ⟨_, rfl⟩
    have j1 : (m : Int) + (k : Int) = (j : Int) := by omega
    have j2 : IntKind.i64.wrap (j : Int) = (j : Int) := by rw [IntKind.wrap_i64]; omega
    have j3 : (j : Int) < (n2 : Int) := by have := unhide hm16; omega
    have j4 : j < n2 := by omega
    have st := take_eq_step Y E k (by omega) (by omega)
    obtain ⟨x, hx⟩ : ∃ x, x = Y.getD k 0 := ⟨_, rfl⟩
    obtain ⟨y, hy⟩ : ∃ x, x = E.getD k 0 := ⟨_, rfl⟩
    rw [← hx, ← hy] at st
    replace hx := hide hx; replace hy := hide hy; replace hj := hide hj
    by_cases hxy : x = y
    · have hE2 : Hid (Y.take (k + 1) = E.take (k + 1)) := st.2 ⟨unhide hE, hxy⟩
      clear st
      subst hxy
      go_upto_region 8 with fail
      replace hB := unhide hB
      refine any_start (S := fun v => Bl w [⟨w.heap.size, kc K, 23⟩, ⟨w.heap.size + 1, kc N, 25⟩, ⟨h11, kc Y, 41⟩] v) (by kernel_rfl) ?_
      replace hB := hB.drew
      generalize World.drew _ = x5 at *
      simp only [List.size_toArray, List.length_cons, List.length_nil, Array.replicate, List.replicate]
      refine any_take (i := 0) (v := (.int .i64 k)) #[false, false, false, false, false, false, false, false, false, false] rfl (by kernel_rfl) (by kernel_rfl) (by kernel_rfl) (by kernel_rfl) (fun _ _ _ h => h) (.inl ⟨by kernel_rfl, fun x_ hu => by kernel_rfl⟩) hB ?_
      simp only [Act.put, List.setIfInBounds_toArray, List.set_cons_zero, List.set_cons_succ, List.getElem_toArray, List.getElem_cons_zero, List.getElem_cons_succ]
      refine any_take (i := 1) (v := (.pointer (some ⟨h11, k, none⟩))) #[true, false, false, false, false, false, false, false, false, false] rfl (by kernel_rfl) (by kernel_rfl) (by kernel_rfl) (by kernel_rfl) (fun _ _ _ h => h) (.inl ⟨by kernel_rfl, fun x_ hu => by go_simp⟩) hB ?_
      simp only [Act.put, List.setIfInBounds_toArray, List.set_cons_zero, List.set_cons_succ, List.getElem_toArray, List.getElem_cons_zero, List.getElem_cons_succ]
      refine any_take (i := 2) (v := (.int .u8 x)) #[true, true, false, false, false, false, false, false, false, false] rfl (by kernel_rfl) (by kernel_rfl) (by kernel_rfl) (by kernel_rfl) (fun _ _ _ h => h) (.inl ⟨by kernel_rfl, fun x_ hu => exec_u8 _ (.tmp 29) rfl h11 k (by kernel_rfl) x (by have c0 := kc_cell (hu.get 2 (x := ⟨h11, kc Y, 41⟩) rfl) k (by omega); rw [← unhide hx] at c0; exact c0)⟩) hB ?_
      simp only [Act.put, List.setIfInBounds_toArray, List.set_cons_zero, List.set_cons_succ, List.getElem_toArray, List.getElem_cons_zero, List.getElem_cons_succ]
      refine any_take (i := 3) (v := (.slice (some ⟨p, q, none⟩) n2 cap2)) #[true, true, true, false, false, false, false, false, false, false] rfl (by kernel_rfl) (by kernel_rfl) (by kernel_rfl) (by kernel_rfl) (fun _ _ _ h => h) (.inl ⟨by kernel_rfl, fun x_ hu => by kernel_rfl⟩) hB ?_
      simp only [Act.put, List.setIfInBounds_toArray, List.set_cons_zero, List.set_cons_succ, List.getElem_toArray, List.getElem_cons_zero, List.getElem_cons_succ]
      refine any_take (i := 4) (v := (.int .i64 m)) #[true, true, true, true, false, false, false, false, false, false] rfl (by kernel_rfl) (by kernel_rfl) (by kernel_rfl) (by kernel_rfl) (fun _ _ _ h => h) (.inl ⟨by kernel_rfl, fun x_ hu => by kernel_rfl⟩) hB ?_
      simp only [Act.put, List.setIfInBounds_toArray, List.set_cons_zero, List.set_cons_succ, List.getElem_toArray, List.getElem_cons_zero, List.getElem_cons_succ]
      refine any_take (i := 5) (v := (.int .i64 k)) #[true, true, true, true, true, false, false, false, false, false] rfl (by kernel_rfl) (by kernel_rfl) (by kernel_rfl) (by kernel_rfl) (fun _ _ _ h => h) (.inl ⟨by kernel_rfl, fun x_ hu => by kernel_rfl⟩) hB ?_
      simp only [Act.put, List.setIfInBounds_toArray, List.set_cons_zero, List.set_cons_succ, List.getElem_toArray, List.getElem_cons_zero, List.getElem_cons_succ]
      refine any_take (i := 6) (v := (.int .i64 j)) #[true, true, true, true, true, true, false, false, false, false] rfl (by kernel_rfl) (by kernel_rfl) (by kernel_rfl) (by kernel_rfl) (fun _ _ _ h => h) (.inl ⟨by kernel_rfl, fun x_ hu => by go_simp⟩) hB ?_
      simp only [Act.put, List.setIfInBounds_toArray, List.set_cons_zero, List.set_cons_succ, List.getElem_toArray, List.getElem_cons_zero, List.getElem_cons_succ]
      refine any_take (i := 7) (v := (.pointer (some ⟨p, q + j, none⟩))) #[true, true, true, true, true, true, true, false, false, false] rfl (by kernel_rfl) (by kernel_rfl) (by kernel_rfl) (by kernel_rfl) (fun _ _ _ h => h) (.inl ⟨by kernel_rfl, fun x_ hu => by go_simp⟩) hB ?_
      simp only [Act.put, List.setIfInBounds_toArray, List.set_cons_zero, List.set_cons_succ, List.getElem_toArray, List.getElem_cons_zero, List.getElem_cons_succ]
      refine any_take (i := 8) (v := (.int .u8 x)) #[true, true, true, true, true, true, true, true, false, false] rfl (by kernel_rfl) (by kernel_rfl) (by kernel_rfl) (by kernel_rfl) (fun _ _ _ h => h) (.inl ⟨by kernel_rfl, fun x_ hu => exec_u8 _ (.tmp 35) rfl p (q + j) (by kernel_rfl) x (by have c0 := ((unhide hat).gr hu.gr) k (by omega); rw [← unhide hy, Nat.add_assoc, ← unhide hj] at c0; exact c0)⟩) hB ?_
      simp only [Act.put, List.setIfInBounds_toArray, List.set_cons_zero, List.set_cons_succ, List.getElem_toArray, List.getElem_cons_zero, List.getElem_cons_succ]
      refine any_take (i := 9) (v := (.bool false)) #[true, true, true, true, true, true, true, true, true, false] rfl (by kernel_rfl) (by kernel_rfl) (by kernel_rfl) (by kernel_rfl) (fun _ _ _ h => h) (.inl ⟨by kernel_rfl, fun x_ hu => by go_simp⟩) hB ?_
      simp only [Act.put, List.setIfInBounds_toArray, List.set_cons_zero, List.set_cons_succ, List.getElem_toArray, List.getElem_cons_zero, List.getElem_cons_succ]
      refine any_done (by kernel_rfl) ?_
      replace hB := hide hB
      clear j1 j2 j3 j4
      go_wp2_with fail
      go_roundw
      case rel => exact ⟨k + 1, by omega, by go_num, hE2, hB⟩
      case measure => simp [intOf]; omega
    · have hne : Hid (Y ≠ E) := fun e => hxy (st.1 (by rw [e])).2
      clear st
      go_upto_region 8 with fail
      replace hB := unhide hB
      refine any_start (S := fun v => Bl w [⟨w.heap.size, kc K, 23⟩, ⟨w.heap.size + 1, kc N, 25⟩, ⟨h11, kc Y, 41⟩] v) (by kernel_rfl) ?_
      replace hB := hB.drew
      generalize World.drew _ = x5 at *
      simp only [List.size_toArray, List.length_cons, List.length_nil, Array.replicate, List.replicate]
      refine any_take (i := 0) (v := (.int .i64 k)) #[false, false, false, false, false, false, false, false, false, false] rfl (by kernel_rfl) (by kernel_rfl) (by kernel_rfl) (by kernel_rfl) (fun _ _ _ h => h) (.inl ⟨by kernel_rfl, fun x_ hu => by kernel_rfl⟩) hB ?_
      simp only [Act.put, List.setIfInBounds_toArray, List.set_cons_zero, List.set_cons_succ, List.getElem_toArray, List.getElem_cons_zero, List.getElem_cons_succ]
      refine any_take (i := 1) (v := (.pointer (some ⟨h11, k, none⟩))) #[true, false, false, false, false, false, false, false, false, false] rfl (by kernel_rfl) (by kernel_rfl) (by kernel_rfl) (by kernel_rfl) (fun _ _ _ h => h) (.inl ⟨by kernel_rfl, fun x_ hu => by go_simp⟩) hB ?_
      simp only [Act.put, List.setIfInBounds_toArray, List.set_cons_zero, List.set_cons_succ, List.getElem_toArray, List.getElem_cons_zero, List.getElem_cons_succ]
      refine any_take (i := 2) (v := (.int .u8 x)) #[true, true, false, false, false, false, false, false, false, false] rfl (by kernel_rfl) (by kernel_rfl) (by kernel_rfl) (by kernel_rfl) (fun _ _ _ h => h) (.inl ⟨by kernel_rfl, fun x_ hu => exec_u8 _ (.tmp 29) rfl h11 k (by kernel_rfl) x (by have c0 := kc_cell (hu.get 2 (x := ⟨h11, kc Y, 41⟩) rfl) k (by omega); rw [← unhide hx] at c0; exact c0)⟩) hB ?_
      simp only [Act.put, List.setIfInBounds_toArray, List.set_cons_zero, List.set_cons_succ, List.getElem_toArray, List.getElem_cons_zero, List.getElem_cons_succ]
      refine any_take (i := 3) (v := (.slice (some ⟨p, q, none⟩) n2 cap2)) #[true, true, true, false, false, false, false, false, false, false] rfl (by kernel_rfl) (by kernel_rfl) (by kernel_rfl) (by kernel_rfl) (fun _ _ _ h => h) (.inl ⟨by kernel_rfl, fun x_ hu => by kernel_rfl⟩) hB ?_
      simp only [Act.put, List.setIfInBounds_toArray, List.set_cons_zero, List.set_cons_succ, List.getElem_toArray, List.getElem_cons_zero, List.getElem_cons_succ]
      refine any_take (i := 4) (v := (.int .i64 m)) #[true, true, true, true, false, false, false, false, false, false] rfl (by kernel_rfl) (by kernel_rfl) (by kernel_rfl) (by kernel_rfl) (fun _ _ _ h => h) (.inl ⟨by kernel_rfl, fun x_ hu => by kernel_rfl⟩) hB ?_
      simp only [Act.put, List.setIfInBounds_toArray, List.set_cons_zero, List.set_cons_succ, List.getElem_toArray, List.getElem_cons_zero, List.getElem_cons_succ]
      refine any_take (i := 5) (v := (.int .i64 k)) #[true, true, true, true, true, false, false, false, false, false] rfl (by kernel_rfl) (by kernel_rfl) (by kernel_rfl) (by kernel_rfl) (fun _ _ _ h => h) (.inl ⟨by kernel_rfl, fun x_ hu => by kernel_rfl⟩) hB ?_
      simp only [Act.put, List.setIfInBounds_toArray, List.set_cons_zero, List.set_cons_succ, List.getElem_toArray, List.getElem_cons_zero, List.getElem_cons_succ]
      refine any_take (i := 6) (v := (.int .i64 j)) #[true, true, true, true, true, true, false, false, false, false] rfl (by kernel_rfl) (by kernel_rfl) (by kernel_rfl) (by kernel_rfl) (fun _ _ _ h => h) (.inl ⟨by kernel_rfl, fun x_ hu => by go_simp⟩) hB ?_
      simp only [Act.put, List.setIfInBounds_toArray, List.set_cons_zero, List.set_cons_succ, List.getElem_toArray, List.getElem_cons_zero, List.getElem_cons_succ]
      refine any_take (i := 7) (v := (.pointer (some ⟨p, q + j, none⟩))) #[true, true, true, true, true, true, true, false, false, false] rfl (by kernel_rfl) (by kernel_rfl) (by kernel_rfl) (by kernel_rfl) (fun _ _ _ h => h) (.inl ⟨by kernel_rfl, fun x_ hu => by go_simp⟩) hB ?_
      simp only [Act.put, List.setIfInBounds_toArray, List.set_cons_zero, List.set_cons_succ, List.getElem_toArray, List.getElem_cons_zero, List.getElem_cons_succ]
      refine any_take (i := 8) (v := (.int .u8 y)) #[true, true, true, true, true, true, true, true, false, false] rfl (by kernel_rfl) (by kernel_rfl) (by kernel_rfl) (by kernel_rfl) (fun _ _ _ h => h) (.inl ⟨by kernel_rfl, fun x_ hu => exec_u8 _ (.tmp 35) rfl p (q + j) (by kernel_rfl) y (by have c0 := ((unhide hat).gr hu.gr) k (by omega); rw [← unhide hy, Nat.add_assoc, ← unhide hj] at c0; exact c0)⟩) hB ?_
      simp only [Act.put, List.setIfInBounds_toArray, List.set_cons_zero, List.set_cons_succ, List.getElem_toArray, List.getElem_cons_zero, List.getElem_cons_succ]
      refine any_take (i := 9) (v := (.bool true)) #[true, true, true, true, true, true, true, true, true, false] rfl (by kernel_rfl) (by kernel_rfl) (by kernel_rfl) (by kernel_rfl) (fun _ _ _ h => h) (.inl ⟨by kernel_rfl, fun x_ hu => by go_simp⟩) hB ?_
      simp only [Act.put, List.setIfInBounds_toArray, List.set_cons_zero, List.set_cons_succ, List.getElem_toArray, List.getElem_cons_zero, List.getElem_cons_succ]
      refine any_done (by kernel_rfl) ?_
      have hP : Hid (Ropd Y E (xl K N 1 C) w (.returned (.tuple #[.slice none 0 0, .bool false])) x5) := .inr ⟨unhide hne, rfl, hB.gr⟩
      clear hB hne
      go_wp2_with fail
      rw [unhide hT]
      exact unhide hP
  · have kI : ¬ (k : Int) < 16 := by omega
    have e : k = 16 := by omega
    have hYE : Hid (Y = E) := by
      have h := unhide hE
      rw [e, List.take_of_length_le (by omega), List.take_of_length_le (by omega)] at h
      exact h
    clear hE
    subst e
    go_upto_region 11 with fail
    replace hB := unhide hB
    refine any_start (S := fun v => Bl w [⟨w.heap.size, kc K, 23⟩, ⟨w.heap.size + 1, kc N, 25⟩, ⟨h11, kc Y, 41⟩] v) (by kernel_rfl) ?_
    replace hB := hB.drew
    generalize World.drew _ = x5 at *
    simp only [List.size_toArray, List.length_cons, List.length_nil, Array.replicate, List.replicate]
    refine any_take (i := 0) (v := (.agg (kc K))) #[false, false, false, false, false, false, false, false] rfl (by kernel_rfl) (by kernel_rfl) (by kernel_rfl) (by kernel_rfl) (fun _ _ _ h => h) (.inl ⟨by kernel_rfl, fun x_ hu => exec_arr _ 23 (.tmp 4) rfl (w.heap.size) (by kernel_rfl) (kc K) 23 _ (hu.get 0 (x := ⟨w.heap.size, kc K, 23⟩) rfl) Try.underlying23 rfl (by rw [Try.infoKey, kc_size, hK])⟩) hB ?_
    simp only [Act.put, List.setIfInBounds_toArray, List.set_cons_zero, List.set_cons_succ, List.getElem_toArray, List.getElem_cons_zero, List.getElem_cons_succ]
    refine any_take (i := 1) (v := (.agg (kc N))) #[true, false, false, false, false, false, false, false] rfl (by kernel_rfl) (by kernel_rfl) (by kernel_rfl) (by kernel_rfl) (fun _ _ _ h => h) (.inl ⟨by kernel_rfl, fun x_ hu => exec_arr _ 25 (.tmp 5) rfl (w.heap.size + 1) (by kernel_rfl) (kc N) 25 _ (hu.get 1 (x := ⟨w.heap.size + 1, kc N, 25⟩) rfl) Try.underlying25 rfl (by rw [Try.infoN, kc_size, hN])⟩) hB ?_
    simp only [Act.put, List.setIfInBounds_toArray, List.set_cons_zero, List.set_cons_succ, List.getElem_toArray, List.getElem_cons_zero, List.getElem_cons_succ]
    refine any_take (i := 2) (v := (.slice (some ⟨p, q, none⟩) n2 cap2)) #[true, true, false, false, false, false, false, false] rfl (by kernel_rfl) (by kernel_rfl) (by kernel_rfl) (by kernel_rfl) (fun _ _ _ h => h) (.inl ⟨by kernel_rfl, fun x_ hu => by kernel_rfl⟩) hB ?_
    simp only [Act.put, List.setIfInBounds_toArray, List.set_cons_zero, List.set_cons_succ, List.getElem_toArray, List.getElem_cons_zero, List.getElem_cons_succ]
    refine any_take (i := 3) (v := (.int .i64 m)) #[true, true, true, false, false, false, false, false] rfl (by kernel_rfl) (by kernel_rfl) (by kernel_rfl) (by kernel_rfl) (fun _ _ _ h => h) (.inl ⟨by kernel_rfl, fun x_ hu => by kernel_rfl⟩) hB ?_
    simp only [Act.put, List.setIfInBounds_toArray, List.set_cons_zero, List.set_cons_succ, List.getElem_toArray, List.getElem_cons_zero, List.getElem_cons_succ]
    refine any_take (i := 4) (v := (.slice s3 m cap2)) #[true, true, true, true, false, false, false, false] rfl (by kernel_rfl) (by kernel_rfl) (by kernel_rfl) (by kernel_rfl) (fun _ _ _ h => h) (.inl ⟨by kernel_rfl, fun x_ hu => by rw [unhide hs3]; exact exec_upto _ (.tmp 41) (.tmp 42) rfl (some ⟨p, q, none⟩) n2 cap2 m rfl rfl hcap hle⟩) hB ?_
    simp only [Act.put, List.setIfInBounds_toArray, List.set_cons_zero, List.set_cons_succ, List.getElem_toArray, List.getElem_cons_zero, List.getElem_cons_succ]
    refine any_one (i := 5) (by kernel_rfl) rfl (fun K_ hQ => ?_)
    have hgw := hB.gr.size
    refine step_callw (by kernel_rfl) 22 #[.agg (kc K), .int .u32 1, .agg (kc N), .slice s3 m cap2] (by kernel_rfl) ((rxor_ok K N hK hN (unhide hKb) (unhide hNb) 1 C s3 m cap2 (by omega) _ ((unhide l3).gr hB.gr)).mono ?_)
    rintro r x7 ⟨v9, rfl, ob9, hg⟩
    refine ⟨_, rfl, ?_⟩
    replace hB := hB.more hg
    replace ob9 := ob9.up hgw
    clear hg hgw
    replace ob9 := hide ob9
    refine hQ.out _ _ hB (fun _ => ?_)
    clear hQ K_
    simp only [Act.put, List.setIfInBounds_toArray, List.set_cons_zero, List.set_cons_succ, List.getElem_toArray, List.getElem_cons_zero, List.getElem_cons_succ]
    refine any_one (i := 6) (by kernel_rfl) rfl (fun K_ hQ => ?_)
    replace hQ := hide hQ
    go_simp
    refine (unhide hQ).out _ _ hB (fun _ => ?_)
    clear hQ K_
    refine any_one (i := 7) (by kernel_rfl) rfl (fun K_ hQ => ?_)
    replace hQ := hide hQ
    go_simp
    refine (unhide hQ).out _ _ hB (fun _ => ?_)
    clear hQ K_
    refine any_done (by kernel_rfl) ?_
    have hP : Hid (Ropd Y E (xl K N 1 C) w (.returned (.tuple #[v9, .bool true])) x7) := .inl ⟨unhide hYE, v9, rfl, unhide ob9, hB.gr⟩
    clear hB ob9 hYE
    go_wp2_with fail
    rw [unhide hT]
    exact unhide hP
/-- what Open answers: what was sealed -/
def Ropy (P : List Int) (w : World) (r : Ending) (w' : World) : Prop := ∃ v, r = .returned (.tuple #[v, .bool true]) ∧ Ob w.heap.size w' v P ∧ Gr w w'
theorem ropen_yes (K N : List Int) (hK : K.length = 32) (hN : N.length = 12) (hKb : IsB K) (hNb : IsB N) (A P : List Int) (hPb : IsB P) (s s2 : Option Addr) (n n2 cap cap2 : Nat) (hbn : n ≤ 20000) (hbig : n2 ≤ 20000) (w : World) (la : Lb w s n cap A) (ls : Lb w s2 n2 cap2 (sealL K N A P)) : Calls Try.prog 16 #[.agg (kc K), .agg (kc N), .slice s n cap, .slice s2 n2 cap2] w (Ropy P w) := by
  have hl := ls.len
  rw [sealL_len] at hl
  refine (ropen_tag K N hK hN hKb hNb A _ s s2 n n2 cap cap2 P.length hbn hbig hl.symm w la ls).mono ?_
  rintro r w' (⟨_, v, h1, h2, h3⟩ | ⟨hne, _⟩)
  · rw [seal_take, xl_twice K N 1 P hPb] at h2
    exact ⟨v, h1, h2, h3⟩
  · rw [seal_take, seal_drop] at hne
    exact absurd rfl hne
theorem ropen_no (K N : List Int) (hK : K.length = 32) (hN : N.length = 12) (hKb : IsB K) (hNb : IsB N) (A S : List Int) (s s2 : Option Addr) (n n2 cap cap2 : Nat) (hbn : n ≤ 20000) (hbig : n2 ≤ 20000) (w : World) (la : Lb w s n cap A) (ls : Lb w s2 n2 cap2 S) (hno : ∀ P, IsB P → S ≠ sealL K N A P) : Calls Try.prog 16 #[.agg (kc K), .agg (kc N), .slice s n cap, .slice s2 n2 cap2] w (Rshut w) := by
  rcases Nat.lt_or_ge n2 16 with h | h
  · exact ropen_short K N A S s s2 n n2 cap cap2 h w
  · obtain ⟨m, hm16⟩ : ∃ m, n2 = m + 16 := ⟨n2 - 16, by omega⟩
    have hne := not_sealed K N A S m (by rw [ls.len, hm16]) ls.isB hno
    refine (ropen_tag K N hK hN hKb hNb A S s s2 n n2 cap cap2 m hbn hbig hm16 w la ls).mono ?_
    rintro r w' (⟨e, _⟩ | ⟨_, h1, h2⟩)
    · exact absurd e hne
    · exact ⟨h1, h2⟩
end Go.Proofs.Ytdekjbdkpchbjaa
