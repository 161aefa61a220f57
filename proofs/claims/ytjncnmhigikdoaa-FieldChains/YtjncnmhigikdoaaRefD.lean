/-
  The reference: Sub, Mul.
-/
import Derived.Test.YtjncnmhigikdoaaRefC
namespace Go.Proofs.Ytjncnmhigikdoaa
open Go.RowKit
set_option maxRecDepth 100000
set_option linter.unusedSimpArgs false
attribute [local go_sem ↓] Go.wp_at_zero Go.wp_at_succ

/-- two keys of its own, and room for the answer -/
def BS (w v : World) (A B : Int) : Prop := KB v w.heap.size (digs A 32) ∧ KB v (w.heap.size + 1) (digs B 32) ∧ Res w (w.heap.size + 1 + 1) 32 23 v
theorem BS.gr {w u v : World} {A B : Int} (h : BS w u A B) (g : Gr u v) : BS w v A B := ⟨h.1.gr g, h.2.1.gr g, h.2.2.gr g⟩
theorem BS.start (w : World) (A B : Int) : BS w (((w.alloc (.cells (kc (digs A 32)) 23 (0, 0))).alloc (.cells (kc (digs B 32)) 23 (0, 0))).alloc (.cells (List.replicate 32 (Value.int .u8 0)).toArray 23 (0, 0))) A B :=
  ⟨(three3 w _ _ _).1, (three3 w _ _ _).2.1, (((Gr.refl w).alloc _).alloc _).alloc _, by omega, _, by simp, (three3 w _ _ _).2.2⟩
theorem BS.row {w v : World} {A B : Int} (h : BS w v A B) (cs : Array Value) (hs : cs.size = 32) : BS w (v.setRow (w.heap.size + 1 + 1) cs) A B :=
  ⟨(setRow_other _ _ _ _ (by omega)).trans h.1, (setRow_other _ _ _ _ (by omega)).trans h.2.1, h.2.2.row cs hs⟩

set_option maxHeartbeats 1000000 in
theorem rsub_ok (A B : Int) (w : World) (hA0 : 0 ≤ A ∧ A < 115792089237316195423570985008687907853269984665640564039457584007913129639936) (hB0 : 0 ≤ B ∧ B < pp) :
    Calls Try.prog 20 #[.agg (kc (digs A 32)), .agg (kc (digs B 32))] w (fun r w' => r = .returned (.agg (kc (digs ((A - B) % pp) 32))) ∧ Gr w w') := by
  have ppT : pp < 115792089237316195423570985008687907853269984665640564039457584007913129639936 := by decide
  have hA := hide hA0
  have hpb : Hid (0 ≤ pp - B ∧ pp - B < 115792089237316195423570985008687907853269984665640564039457584007913129639936) := hide (by omega)
  have hmb : Hid (0 ≤ (pp - B) % pp ∧ (pp - B) % pp < 115792089237316195423570985008687907853269984665640564039457584007913129639936) := hide (by have h1 := Int.emod_nonneg (pp - B) (show pp ≠ 0 by decide); have h2 := Int.emod_lt_of_pos (pp - B) (show 0 < pp by decide); omega)
  have hfin : Hid ((A + (pp - B) % pp) % pp = (A - B) % pp) := hide (by rw [Int.add_emod, Int.emod_emod, ← Int.add_emod, show A + (pp - B) = A - B + pp from by omega, Int.add_emod_right])
  clear hA0 hB0 ppT
  generalize (A - B) % pp = V at *
  go_enter Try.func20, Try.ntmps20
  go_upto_region 1 with fail
  refine wp_region_held_drew (S := fun v => BS w v A B) (by kernel_rfl) ((BS.start w A B).gr ((Gr.refl _).drew)) (fun hS0 => ?_)
  refine wpAnyH_take (i := 0) (v := (.agg (kc (digs A 32)))) rfl (by kernel_rfl) (by kernel_rfl) (by kernel_rfl) (fun _ _ _ h => h) (.inl ⟨by kernel_rfl, fun u hu => exec_row u 23 (.tmp 2) rfl w.heap.size 0 (by kernel_rfl) ((digs A 32).map (Value.int .u8)) (.array 32 5) (range_row (id hu.1)) Try.underlying23 rfl (by rw [Try.infoKey, List.length_map, digs_len])⟩) hS0 ?_
  simp only [Act.put, List.setIfInBounds_toArray, List.set_cons_zero, List.set_cons_succ, List.getElem_toArray, List.getElem_cons_zero, List.getElem_cons_succ]
  refine wpAnyH_take (i := 2) (v := (.agg (kc (digs B 32)))) rfl (by kernel_rfl) (by kernel_rfl) (by kernel_rfl) (fun _ _ _ h => h) (.inl ⟨by kernel_rfl, fun u hu => exec_row u 23 (.tmp 3) rfl (w.heap.size + 1) 0 (by kernel_rfl) ((digs B 32).map (Value.int .u8)) (.array 32 5) (range_row (id hu.2.1)) Try.underlying23 rfl (by rw [Try.infoKey, List.length_map, digs_len])⟩) hS0 ?_
  simp only [Act.put, List.setIfInBounds_toArray, List.set_cons_zero, List.set_cons_succ, List.getElem_toArray, List.getElem_cons_zero, List.getElem_cons_succ]
  refine wpAnyH_ready (rs := [1]) (by kernel_rfl) (by simp) (AllReadyH.cons (o := _) rfl (fun K hK => ?_) AllReadyH.nil)
  refine step_callw (by kernel_rfl) 36 #[] (by kernel_rfl) ((rp_ok _).mono ?_)
  rintro r w1_ ⟨rfl, hg⟩
  refine ⟨_, rfl, ?_⟩
  have hS1_ : BS w w1_ A B := BS.gr hS0 hg
  clear hg
  refine hK.out _ _ hS1_ (fun _ => ?_)
  clear hK K
  simp only [Act.put, List.setIfInBounds_toArray, List.set_cons_zero, List.set_cons_succ, List.getElem_toArray, List.getElem_cons_zero, List.getElem_cons_succ]
  refine wpAnyH_ready (rs := [3]) (by kernel_rfl) (by simp) (AllReadyH.cons (o := _) rfl (fun K hK => ?_) AllReadyH.nil)
  refine step_callw (by kernel_rfl) 35 #[(.agg (kc (digs pp 32))), (.agg (kc (digs B 32)))] (by kernel_rfl) ((minus_core pp B (pp - B) rfl _).mono ?_)
  rintro r w2_ ⟨rfl, hg⟩
  refine ⟨_, rfl, ?_⟩
  have hS2_ : BS w w2_ A B := BS.gr hS1_ hg
  clear hg
  refine hK.out _ _ hS2_ (fun _ => ?_)
  clear hK K
  simp only [Act.put, List.setIfInBounds_toArray, List.set_cons_zero, List.set_cons_succ, List.getElem_toArray, List.getElem_cons_zero, List.getElem_cons_succ]
  refine wpAnyH_ready (rs := [4]) (by kernel_rfl) (by simp) (AllReadyH.cons (o := _) rfl (fun K hK => ?_) AllReadyH.nil)
  refine step_callw (by kernel_rfl) 32 #[(.agg (kc (digs (pp - B) 32)))] (by kernel_rfl) ((mod_ok (pp - B) (unhide hpb) _).mono ?_)
  rintro r w3_ ⟨rfl, hg⟩
  refine ⟨_, rfl, ?_⟩
  have hS3_ : BS w w3_ A B := BS.gr hS2_ hg
  clear hg
  refine hK.out _ _ hS3_ (fun _ => ?_)
  clear hK K
  simp only [Act.put, List.setIfInBounds_toArray, List.set_cons_zero, List.set_cons_succ, List.getElem_toArray, List.getElem_cons_zero, List.getElem_cons_succ]
  refine wpAnyH_ready (rs := [5]) (by kernel_rfl) (by simp) (AllReadyH.cons (o := _) rfl (fun K hK => ?_) AllReadyH.nil)
  refine step_callw (by kernel_rfl) 18 #[(.agg (kc (digs A 32))), (.agg (kc (digs ((pp - B) % pp) 32)))] (by kernel_rfl) ((radd_ok A ((pp - B) % pp) _ (unhide hA) (unhide hmb)).mono ?_)
  rintro r w4_ ⟨rfl, hg⟩
  rw [unhide hfin]
  refine ⟨_, rfl, ?_⟩
  have hS4_ : BS w w4_ A B := BS.gr hS3_ hg
  clear hg
  refine hK.out _ _ hS4_ (fun _ => ?_)
  clear hK K
  simp only [Act.put, List.setIfInBounds_toArray, List.set_cons_zero, List.set_cons_succ, List.getElem_toArray, List.getElem_cons_zero, List.getElem_cons_succ]
  refine wpAnyH_ready (rs := [6]) (by kernel_rfl) (by simp) (AllReadyH.cons (o := _) rfl (fun K hK => ?_) AllReadyH.nil)
  rw [if_pos (by kernel_rfl)]
  simp only [Go.wp_at_zero, Go.wp_at_succ]
  obtain ⟨o, ho1, ho2⟩ := hS4_.2.2.2.2
  refine wp_store_row 23 (.tmp 4) (.tmp 10) rfl (w.heap.size + 1 + 1) (kc (digs V 32)) (by kernel_rfl) (by kernel_rfl) 23 o ho2 (by rw [Try.infoKey, kc_size, digs_len]) (by rw [ho1, kc_size, digs_len]) (kc_one _) ?_
  have hF := hS4_.row (kc (digs V 32)) (by rw [kc_size, digs_len])
  have hq := setRow_heap w4_ (w.heap.size + 1 + 1) _ (kc (digs V 32)) 23 _ ho2
  refine hK.out _ _ hF (fun _ => ?_)
  clear hK K
  simp only [Act.put, List.setIfInBounds_toArray, List.set_cons_zero, List.set_cons_succ, List.getElem_toArray, List.getElem_cons_zero, List.getElem_cons_succ]
  refine wpAnyH_done (by kernel_rfl) ?_ _
  generalize World.setRow _ _ _ = u at *
  go_wp2_with fail
  refine bodyPost_ret (v := .agg (kc (digs V 32))) (results_cell_row Try.results20 _ _ (w.heap.size + 1 + 1) 23 (kc (digs V 32)) (0, 0) _ rfl hq Try.underlying23 rfl (by rw [Try.infoKey, kc_size, digs_len])) rfl ⟨rfl, hF.2.2.1⟩

/-! Mul -/
theorem mod_step (A q : Int) (hq : 0 < q) : A % (q * 256) = A % q + q * (A / q % 256) := by
  have h1 := Int.mul_ediv_add_emod A q
  have h2 := Int.mul_ediv_add_emod (A / q) 256
  have h3 := Int.emod_nonneg A (show q ≠ 0 by omega)
  have h4 := Int.emod_lt_of_pos A hq
  have h5 : 0 ≤ A / q % 256 ∧ A / q % 256 < 256 := by omega
  have e : A = (A % q + q * (A / q % 256)) + q * 256 * (A / q / 256) := by grind
  have b1 : 0 ≤ q * (A / q % 256) := Int.mul_nonneg (by omega) h5.1
  have b2 : q * (A / q % 256) ≤ q * 255 := Int.mul_le_mul_of_nonneg_left (by omega) (by omega)
  have h6 : (A % q + q * (A / q % 256) + q * 256 * (A / q / 256)) % (q * 256) = A % q + q * (A / q % 256) := by
    rw [Int.add_mul_emod_self_left]
    exact Int.emod_eq_of_lt (by omega) (by omega)
  rw [← e] at h6
  exact h6

/-- the products so far: i rows whole, k of the next -/
def PI (ls : List Int) (A B : Int) (i k : Nat) : Prop := ls.length = 64 ∧ vl ls = (A % 256 ^ i) * B + (A / 256 ^ i % 256) * 256 ^ i * (B % 256 ^ k) ∧ ∀ j, j < 64 → 0 ≤ ls.getD j 0 ∧ ls.getD j 0 ≤ (32 * (i : Int) + k) * 65025
theorem PI.start (A B : Int) : PI (List.replicate 64 0) A B 0 0 := by
  refine ⟨by simp, ?_, ?_⟩
  · have h : ∀ n, vl (List.replicate n 0) = 0 := by intro n; induction n with
      | zero => rfl
      | succ n ih => rw [List.replicate_succ]; simp [vl, ih]
    rw [h]
    simp [Int.emod_one]
  · intro j hj
    rw [List.getD_eq_getElem?_getD, List.getElem?_replicate]
    simp [hj]
theorem PI.step {ls : List Int} {A B : Int} {i k : Nat} (h : PI ls A B i k) (hi : i < 32) (hk : k < 32) :
    PI (ls.set (i + k) (ls.getD (i + k) 0 + (A / 256 ^ i % 256) * (B / 256 ^ k % 256))) A B i (k + 1) := by
  obtain ⟨h1, h2, h3⟩ := h
  have a1 : 0 ≤ A / 256 ^ i % 256 ∧ A / 256 ^ i % 256 ≤ 255 := by omega
  have b1 : 0 ≤ B / 256 ^ k % 256 ∧ B / 256 ^ k % 256 ≤ 255 := by omega
  have m0 : 0 ≤ (A / 256 ^ i % 256) * (B / 256 ^ k % 256) := Int.mul_nonneg a1.1 b1.1
  have m1 : (A / 256 ^ i % 256) * (B / 256 ^ k % 256) ≤ 255 * 255 := Int.mul_le_mul a1.2 b1.2 b1.1 (by omega)
  refine ⟨by simpa using h1, ?_, ?_⟩
  · rw [vl_set ls (i + k) _ (by omega), h2, Int.pow_succ, mod_step B (256 ^ k) (Int.pow_pos (by decide)), Int.pow_add]
    generalize A / 256 ^ i % 256 = x
    generalize B / 256 ^ k % 256 = y
    generalize (256 : Int) ^ i = p
    generalize (256 : Int) ^ k = q
    grind
  · intro j hj
    by_cases e : j = i + k
    · subst e
      have := h3 (i + k) hj
      rw [List.getD_eq_getElem?_getD, List.getElem?_set_self (by omega), Option.getD_some]
      omega
    · have := h3 j hj
      rw [List.getD_eq_getElem?_getD, List.getElem?_set_ne (by omega), ← List.getD_eq_getElem?_getD]
      omega
theorem PI.row {ls : List Int} {A B : Int} {i : Nat} (h : PI ls A B i 32) (hB : 0 ≤ B ∧ B < 115792089237316195423570985008687907853269984665640564039457584007913129639936) : PI ls A B (i + 1) 0 := by
  obtain ⟨h1, h2, h3⟩ := h
  have e256 : (256 : Int) ^ 32 = 115792089237316195423570985008687907853269984665640564039457584007913129639936 := by decide
  refine ⟨h1, ?_, ?_⟩
  · rw [h2, e256, Int.emod_eq_of_lt hB.1 hB.2, Int.pow_succ, mod_step A (256 ^ i) (Int.pow_pos (by decide))]
    simp only [Int.pow_zero, Int.emod_one, Int.mul_zero, Int.add_zero]
    grind
  · intro j hj
    have := h3 j hj
    omega

/-- the loops of Mul -/
def MM (w v : World) (A B : Int) (i k : Nat) (ls : List Int) : Prop := Gr w v ∧ KB v w.heap.size (digs A 32) ∧ KB v (w.heap.size + 1) (digs B 32) ∧ KB v (w.heap.size + 1 + 1) (digs 0 0) ∧ OR v (w.heap.size + 1 + 1 + 1) 64 64 ls ∧ PI ls A B i k

set_option maxHeartbeats 2000000 in
theorem rmul_ok (A B : Int) (w : World) (hA : 0 ≤ A ∧ A < 115792089237316195423570985008687907853269984665640564039457584007913129639936) (hB : 0 ≤ B ∧ B < 115792089237316195423570985008687907853269984665640564039457584007913129639936) :
    Calls Try.prog 23 #[.agg (kc (digs A 32)), .agg (kc (digs B 32))] w (fun r w' => r = .returned (.agg (kc (digs (A * B % pp) 32))) ∧ Gr w w') := by
  have hA' := hide hA
  have hB' := hide hB
  clear hA hB
  go_enter Try.func23, Try.ntmps23
  go_upto_region 1 with fail
  generalize hW : World.alloc _ _ = u
  have h1 : Gr w u ∧ KB u w.heap.size (digs A 32) ∧ KB u (w.heap.size + 1) (digs B 32) ∧ KB u (w.heap.size + 1 + 1) (digs 0 0) ∧ u.heap.size = w.heap.size + 1 + 1 + 1 := by
    rw [← hW]
    refine ⟨(((Gr.refl w).alloc _).alloc _).alloc _, (three3 w _ _ _).1, (three3 w _ _ _).2.1, ?_, by simp only [size_alloc]⟩
    unfold KB; rw [kc_zero]; exact (three3 w _ _ _).2.2
  clear hW
  obtain ⟨g1, g2, g3, g4, hsz⟩ := h1
  go_wp2_with (at_make; refine wpList_make_ints _ rfl _ rfl 64 rfl (by omega) ?_; intro w2 hO hg)
  have hS : Hid (MM w w2 A B 0 0 (List.replicate 64 0)) := hide ⟨g1.trans hg, g2.gr hg, g3.gr hg, g4.gr hg, by rw [← hsz]; exact unhide hO, PI.start A B⟩
  try rw [hsz]
  clear hO hg g1 g2 g3 g4 hsz
  go_loopw [9] (fun ix wr => ∃ i : Nat, ∃ ls : List Int, i ≤ 32 ∧ ix = .int .i64 i ∧ Hid (MM w wr A B i 0 ls)) (fun ix _ => 32 - (intOf ix).toNat)
  case atStart => exact ⟨0, _, by omega, rfl, hS⟩
  case round =>
  clear hS
  obtain ⟨i, ls, hi, rfl, hS⟩ := hrel
  by_cases hil : i < 32
  · have hi65 : (i : Int) < 32 := by omega
    go_wp2_with fail
    go_loopw [12] (fun ix wr => ∃ k : Nat, ∃ ls : List Int, k ≤ 32 ∧ ix = .int .i64 k ∧ Hid (MM w wr A B i k ls)) (fun ix _ => 32 - (intOf ix).toNat)
    case atStart => exact ⟨0, ls, by omega, rfl, hS⟩
    case round =>
    clear hS
    obtain ⟨k, ms, hk, rfl, hS⟩ := hrel
    by_cases hkl : k < 32
    · obtain ⟨g1, g2, g3, g4, hO, hP⟩ := unhide hS
      have cA := key_cell g2 i hil
      have cB := key_cell g3 k hkl
      obtain ⟨n, hn⟩ : ∃ n, n = i + k := ⟨_, rfl⟩
      have cl := hO.cell n (by omega)
      have fl := hO.froz n
      have bl := hP.2.2 n (by omega)
      have hP2 := hP.step hil hkl
      rw [← hn] at hP2
      replace hP2 := hide hP2
      have bx : 0 ≤ A / 256 ^ i % 256 ∧ A / 256 ^ i % 256 ≤ 255 := by omega
      have byy : 0 ≤ B / 256 ^ k % 256 ∧ B / 256 ^ k % 256 ≤ 255 := by omega
      generalize A / 256 ^ i % 256 = x at *
      generalize B / 256 ^ k % 256 = y at *
      have m0 : 0 ≤ x * y := Int.mul_nonneg bx.1 byy.1
      have m1 : x * y ≤ 255 * 255 := Int.mul_le_mul bx.2 byy.2 byy.1 (by omega)
      have bo : 0 ≤ ms.getD n 0 ∧ ms.getD n 0 ≤ 100000000 := by omega
      have hS2 : Hid (MM w (wr.drew.setCell ⟨w.heap.size + 1 + 1 + 1, n, none⟩ (.int .i64 (ms.getD n 0 + x * y))) A B i (k + 1) (ms.set n (ms.getD n 0 + x * y))) :=
        hide ⟨g1.drew.setCell (by show w.heap.size ≤ w.heap.size + 1 + 1 + 1; omega) _, KB.other (w := wr.drew) g2 (by omega), KB.other (w := wr.drew) g3 (by omega), KB.other (w := wr.drew) g4 (by omega), OR.set (w := wr.drew) hO n _, unhide hP2⟩
      generalize hold : ms.getD n 0 = old at *
      replace hold := hide hold
      clear g1 g2 g3 g4 hO hP hP2 hS bl
      have hkeep : Hid (∀ z : Value, (wr.setCell ⟨w.heap.size + 1 + 1 + 1, n, none⟩ z).drew.cell? ⟨w.heap.size, i, none⟩ = some (.int .u8 x) ∧ (wr.setCell ⟨w.heap.size + 1 + 1 + 1, n, none⟩ z).drew.cell? ⟨w.heap.size + 1, k, none⟩ = some (.int .u8 y)) := by
        refine hide (fun z => ⟨?_, ?_⟩)
        · exact (World.cell?_setCell_far wr ⟨w.heap.size + 1 + 1 + 1, n, none⟩ ⟨w.heap.size, i, none⟩ z (by show w.heap.size + 1 + 1 + 1 ≠ w.heap.size; omega)).trans cA
        · exact (World.cell?_setCell_far wr ⟨w.heap.size + 1 + 1 + 1, n, none⟩ ⟨w.heap.size + 1, k, none⟩ z (by show w.heap.size + 1 + 1 + 1 ≠ w.heap.size + 1; omega)).trans cB
      have wx : IntKind.i64.wrap x = x := by rw [IntKind.wrap_i64]; omega
      have wy : IntKind.i64.wrap y = y := by rw [IntKind.wrap_i64]; omega
      have wxy : IntKind.i64.wrap (x * y) = x * y := by rw [IntKind.wrap_i64]; omega
      have wo : IntKind.i64.wrap (old + x * y) = old + x * y := by rw [IntKind.wrap_i64]; omega
      have eik : (i : Int) + (k : Int) = (n : Int) := by omega
      have wn : IntKind.i64.wrap (n : Int) = (n : Int) := by rw [IntKind.wrap_i64]; omega
      replace hn := hide hn
      have hn64 : n < 64 := by have := unhide hn; omega
      go_upto_region 8 with fail
      have hn65 : (n : Int) < 64 := by omega
      have hk65 : (k : Int) < 32 := by omega
      refine wp_region_held_drew (S := fun v => v.cell? ⟨w.heap.size, i, none⟩ = some (.int .u8 x) ∧ v.cell? ⟨w.heap.size + 1, k, none⟩ = some (.int .u8 y)) (by kernel_rfl) ⟨cA, cB⟩ (fun hS0 => ?_)
      refine wpAnyH_take (i := 0) (v := .slice (some ⟨w.heap.size + 1 + 1 + 1, 0, none⟩) 64 64) rfl (by kernel_rfl) (by kernel_rfl) (by kernel_rfl) (fun _ _ _ h => h) (.inl ⟨by kernel_rfl, fun u hu => by kernel_rfl⟩) hS0 ?_
      simp only [Act.put, List.setIfInBounds_toArray, List.set_cons_zero, List.set_cons_succ, List.getElem_toArray, List.getElem_cons_zero, List.getElem_cons_succ]
      refine wpAnyH_take (i := 1) (v := .int .i64 (i : Int)) rfl (by kernel_rfl) (by kernel_rfl) (by kernel_rfl) (fun _ _ _ h => h) (.inl ⟨by kernel_rfl, fun u hu => by kernel_rfl⟩) hS0 ?_
      simp only [Act.put, List.setIfInBounds_toArray, List.set_cons_zero, List.set_cons_succ, List.getElem_toArray, List.getElem_cons_zero, List.getElem_cons_succ]
      refine wpAnyH_take (i := 2) (v := .int .i64 (k : Int)) rfl (by kernel_rfl) (by kernel_rfl) (by kernel_rfl) (fun _ _ _ h => h) (.inl ⟨by kernel_rfl, fun u hu => by kernel_rfl⟩) hS0 ?_
      simp only [Act.put, List.setIfInBounds_toArray, List.set_cons_zero, List.set_cons_succ, List.getElem_toArray, List.getElem_cons_zero, List.getElem_cons_succ]
      refine wpAnyH_take (i := 3) (v := .int .i64 (n : Int)) rfl (by kernel_rfl) (by kernel_rfl) (by kernel_rfl) (fun _ _ _ h => h) (.inl ⟨by kernel_rfl, fun u hu => (by go_simp)⟩) hS0 ?_
      simp only [Act.put, List.setIfInBounds_toArray, List.set_cons_zero, List.set_cons_succ, List.getElem_toArray, List.getElem_cons_zero, List.getElem_cons_succ]
      refine wpAnyH_take (i := 4) (v := .pointer (some ⟨w.heap.size + 1 + 1 + 1, n, none⟩)) rfl (by kernel_rfl) (by kernel_rfl) (by kernel_rfl) (fun _ _ _ h => h) (.inl ⟨by kernel_rfl, fun u hu => (by go_simp)⟩) hS0 ?_
      simp only [Act.put, List.setIfInBounds_toArray, List.set_cons_zero, List.set_cons_succ, List.getElem_toArray, List.getElem_cons_zero, List.getElem_cons_succ]
      refine wpAnyH_take (i := 6) (v := .int .i64 (i : Int)) rfl (by kernel_rfl) (by kernel_rfl) (by kernel_rfl) (fun _ _ _ h => h) (.inl ⟨by kernel_rfl, fun u hu => by kernel_rfl⟩) hS0 ?_
      simp only [Act.put, List.setIfInBounds_toArray, List.set_cons_zero, List.set_cons_succ, List.getElem_toArray, List.getElem_cons_zero, List.getElem_cons_succ]
      refine wpAnyH_take (i := 7) (v := .pointer (some ⟨w.heap.size, i, none⟩)) rfl (by kernel_rfl) (by kernel_rfl) (by kernel_rfl) (fun _ _ _ h => h) (.inl ⟨by kernel_rfl, fun u hu => (by go_simp)⟩) hS0 ?_
      simp only [Act.put, List.setIfInBounds_toArray, List.set_cons_zero, List.set_cons_succ, List.getElem_toArray, List.getElem_cons_zero, List.getElem_cons_succ]
      refine wpAnyH_take (i := 8) (v := .int .u8 x) rfl (by kernel_rfl) (by kernel_rfl) (by kernel_rfl) (fun _ _ _ h => h) (.inl ⟨by kernel_rfl, fun u hu => (by obtain ⟨hu1, hu2⟩ := hu; go_simp)⟩) hS0 ?_
      simp only [Act.put, List.setIfInBounds_toArray, List.set_cons_zero, List.set_cons_succ, List.getElem_toArray, List.getElem_cons_zero, List.getElem_cons_succ]
      refine wpAnyH_take (i := 9) (v := .int .i64 x) rfl (by kernel_rfl) (by kernel_rfl) (by kernel_rfl) (fun _ _ _ h => h) (.inl ⟨by kernel_rfl, fun u hu => (by go_simp)⟩) hS0 ?_
      simp only [Act.put, List.setIfInBounds_toArray, List.set_cons_zero, List.set_cons_succ, List.getElem_toArray, List.getElem_cons_zero, List.getElem_cons_succ]
      refine wpAnyH_take (i := 10) (v := .int .i64 (k : Int)) rfl (by kernel_rfl) (by kernel_rfl) (by kernel_rfl) (fun _ _ _ h => h) (.inl ⟨by kernel_rfl, fun u hu => by kernel_rfl⟩) hS0 ?_
      simp only [Act.put, List.setIfInBounds_toArray, List.set_cons_zero, List.set_cons_succ, List.getElem_toArray, List.getElem_cons_zero, List.getElem_cons_succ]
      refine wpAnyH_take (i := 11) (v := .pointer (some ⟨w.heap.size + 1, k, none⟩)) rfl (by kernel_rfl) (by kernel_rfl) (by kernel_rfl) (fun _ _ _ h => h) (.inl ⟨by kernel_rfl, fun u hu => (by go_simp)⟩) hS0 ?_
      simp only [Act.put, List.setIfInBounds_toArray, List.set_cons_zero, List.set_cons_succ, List.getElem_toArray, List.getElem_cons_zero, List.getElem_cons_succ]
      refine wpAnyH_take (i := 12) (v := .int .u8 y) rfl (by kernel_rfl) (by kernel_rfl) (by kernel_rfl) (fun _ _ _ h => h) (.inl ⟨by kernel_rfl, fun u hu => (by obtain ⟨hu1, hu2⟩ := hu; go_simp)⟩) hS0 ?_
      simp only [Act.put, List.setIfInBounds_toArray, List.set_cons_zero, List.set_cons_succ, List.getElem_toArray, List.getElem_cons_zero, List.getElem_cons_succ]
      refine wpAnyH_take (i := 13) (v := .int .i64 y) rfl (by kernel_rfl) (by kernel_rfl) (by kernel_rfl) (fun _ _ _ h => h) (.inl ⟨by kernel_rfl, fun u hu => (by go_simp)⟩) hS0 ?_
      simp only [Act.put, List.setIfInBounds_toArray, List.set_cons_zero, List.set_cons_succ, List.getElem_toArray, List.getElem_cons_zero, List.getElem_cons_succ]
      refine wpAnyH_take (i := 14) (v := .int .i64 (x * y)) rfl (by kernel_rfl) (by kernel_rfl) (by kernel_rfl) (fun _ _ _ h => h) (.inl ⟨by kernel_rfl, fun u hu => (by go_simp)⟩) hS0 ?_
      simp only [Act.put, List.setIfInBounds_toArray, List.set_cons_zero, List.set_cons_succ, List.getElem_toArray, List.getElem_cons_zero, List.getElem_cons_succ]
      refine wpAnyH_ready (rs := [5]) (by kernel_rfl) (by simp) (AllReadyH.cons (o := _) rfl (fun K hK => ?_) AllReadyH.nil)
      go_simp
      refine hK.out _ _ hS0 (fun _ => ?_)
      clear hK K
      refine wpAnyH_take (i := 15) (v := .int .i64 (old + x * y)) rfl (by kernel_rfl) (by kernel_rfl) (by kernel_rfl) (fun _ _ _ h => h) (.inl ⟨by kernel_rfl, fun u hu => (by go_simp)⟩) hS0 ?_
      simp only [Act.put, List.setIfInBounds_toArray, List.set_cons_zero, List.set_cons_succ, List.getElem_toArray, List.getElem_cons_zero, List.getElem_cons_succ]
      refine wpAnyH_take (i := 16) (v := .pointer (some ⟨w.heap.size + 1 + 1 + 1, n, none⟩)) rfl (by kernel_rfl) (by kernel_rfl) (by kernel_rfl) (fun _ _ _ h => h) (.inl ⟨by kernel_rfl, fun u hu => (by go_simp)⟩) hS0 ?_
      simp only [Act.put, List.setIfInBounds_toArray, List.set_cons_zero, List.set_cons_succ, List.getElem_toArray, List.getElem_cons_zero, List.getElem_cons_succ]
      refine wpAnyH_ready (rs := [17]) (by kernel_rfl) (by simp) (AllReadyH.cons (o := _) rfl (fun K hK => ?_) AllReadyH.nil)
      go_simp
      refine hK.out _ _ (unhide hkeep _) (fun _ => ?_)
      clear hK K
      refine wpAnyH_done (by kernel_rfl) ?_ _
      go_wp2_with fail
      go_roundw
      case rel => exact ⟨k + 1, _, by omega, by go_num, hS2⟩
      case measure => simp [intOf]; omega
    · have ek : k = 32 := by omega
      subst ek
      have hS2 : Hid (MM w wr A B (i + 1) 0 ms) := hide ⟨(unhide hS).1, (unhide hS).2.1, (unhide hS).2.2.1, (unhide hS).2.2.2.1, (unhide hS).2.2.2.2.1, (unhide hS).2.2.2.2.2.row (unhide hB')⟩
      clear hS
      go_wp2_with fail
      go_roundw
      case rel => exact ⟨i + 1, ms, by omega, by go_num, hS2⟩
      case measure => simp [intOf]; omega
  · have ek : i = 32 := by omega
    subst ek
    obtain ⟨g1, g2, g3, g4, hO, hP⟩ := unhide hS
    have hgl : w.heap.size + 1 + 1 < wr.heap.size := lt_of_block g4
    obtain ⟨V, hV⟩ : ∃ V, V = A * B % pp := ⟨_, rfl⟩
    have e256 : (256 : Int) ^ 32 = 115792089237316195423570985008687907853269984665640564039457584007913129639936 := by decide
    have hv : vl ls = A * B := by
      rw [hP.2.1, e256, Int.emod_eq_of_lt (unhide hA').1 (unhide hA').2]
      simp [Int.emod_one]
    have hbd : A * B < bd 4 := by
      have e : bd 4 = 115792089237316195423570985008687907853269984665640564039457584007913129639936 * 115792089237316195423570985008687907853269984665640564039457584007913129639936 := by decide +kernel
      rw [e]
      have h1 := unhide hA'
      have h2 := unhide hB'
      have h3 : A * B ≤ 115792089237316195423570985008687907853269984665640564039457584007913129639936 * B := Int.mul_le_mul_of_nonneg_right (by omega) h2.1
      omega
    have hF : Hid (Calls Try.prog 34 #[.slice (some ⟨w.heap.size + 1 + 1 + 1, 0, none⟩) 64 64] wr (fun r w' => r = .returned (.agg (kc (digs V 32))) ∧ KB w' (w.heap.size + 1 + 1) (digs 0 0) ∧ Gr w w')) := by
      obtain ⟨w0, hw0, hsz0, hb0⟩ := cut_world wr (w.heap.size + 1 + 1 + 1) (by omega)
      refine hide ((fold_ok w0 wr (w.heap.size + 1 + 1 + 1) 64 64 ls V 4 hw0 (by omega) hO (.inr ⟨rfl, rfl⟩) (fun j hj => by have := hP.2.2 j hj; omega) (by rw [hv, hV]) (by omega) (by rw [hv]; exact hbd)).mono ?_)
      rintro r w5 ⟨rfl, hg5⟩
      have gx : ∀ i, i < w.heap.size + 1 + 1 + 1 → w5.heap[i]? = wr.heap[i]? := fun i hi => (hg5.block i (by omega)).trans (hb0 i hi)
      refine ⟨rfl, (gx _ (by omega)).trans g4, hg5.os.trans (hw0.os.symm.trans g1.os), hg5.tape.trans (hw0.tape.symm.trans g1.tape), hg5.output.trans (hw0.output.symm.trans g1.output), by have := hg5.size; omega, fun i hi => (gx i (by omega)).trans (g1.block i hi)⟩
    have e0 := hide hV
    clear g1 g2 g3 g4 hO hP hS hV hv hbd e256
    go_wp2_with (first | (go_at_call 34; refine (unhide hF).mono ?_; rintro rr w5 ⟨rfl, hR, hG⟩; replace hR := hide hR; replace hG := hide hG) | (refine wpList_store_row rfl 23 (.tmp 4) (.tmp 35) rfl (w.heap.size + 1 + 1) (kc (digs V 32)) rfl rfl 23 (kc (digs 0 0)) (by exact unhide hR) (by rw [Try.infoKey, kc_size, digs_len]) (by rw [kc_size, kc_size, digs_len, digs_len]) (kc_one _) ?_))
    refine bodyPost_ret (v := .agg (kc (digs V 32))) (results_cell_row Try.results23 _ _ (w.heap.size + 1 + 1) 23 (kc (digs V 32)) (0, 0) _ rfl (setRow_heap w5 (w.heap.size + 1 + 1) _ _ 23 _ (unhide hR)) Try.underlying23 rfl (by rw [Try.infoKey, kc_size, digs_len])) rfl ⟨by rw [unhide e0], ?_⟩
    exact below_setRow (unhide hG) (by omega) _
end Go.Proofs.Ytjncnmhigikdoaa
