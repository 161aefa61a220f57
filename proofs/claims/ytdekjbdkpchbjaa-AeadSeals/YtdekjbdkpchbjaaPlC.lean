/-
  What times answers.
-/
import Derived.Test.YtdekjbdkpchbjaaPlB
namespace Go.Proofs.Ytdekjbdkpchbjaa
open Go.RowKit
set_option maxRecDepth 100000
set_option linter.unusedSimpArgs false
set_option linter.unusedVariables false
theorem exec_u64 {op : Oper} {a : Act} (w : World) (x : Operand) (ho : op.op = .load 43 x) (g i : Nat) (hx : a.eval x = .pointer (some ⟨g, i, none⟩)) (v : Int) (hc : w.cell? ⟨g, i, none⟩ = some (.int .u64 v)) : (execOp a.eval op).run Try.prog w = .ok (.value (.int .u64 v)) w := by
  unfold execOp
  simp only [ho, hx, Instr.loadAt, Instr.sureAddr, Sem.run_bind, Sem.run_pure, Result.andThen_ok]
  go_simp
/-- products and sums of words -/
def mu (a b : Int) : Int := IntKind.u64.wrap (a * b)
def su (a b : Int) : Int := IntKind.u64.wrap (a + b)
theorem mu_eq (a b : Int) (ha : 0 ≤ a ∧ a < 268435456) (hb : 0 ≤ b ∧ b < 335544320) : mu a b = a * b ∧ 0 ≤ a * b ∧ a * b < 90071992547409920 := by
  have h1 : 0 ≤ a * b := Int.mul_nonneg ha.1 hb.1
  have h2 : a * b ≤ 268435455 * 335544319 := Int.mul_le_mul (by omega) (by omega) hb.1 (by omega)
  exact ⟨wrap_id _ h1 (by omega), h1, by omega⟩
theorem su_eq (a b : Int) (ha : 0 ≤ a) (hb : 0 ≤ b) (h : a + b < 18446744073709551616) : su a b = a + b := wrap_id _ (by omega) h
theorem wm (x : Int) (h : Dg x) : mu x 5 = x * 5 ∧ 0 ≤ x * 5 ∧ x * 5 < 335544320 := by
  unfold Dg at h
  have := (mu_eq x 5 (by omega) (by omega)).1
  exact ⟨this, by omega, by omega⟩
theorem dl {x : Int} (h : Dg x) : 0 ≤ x ∧ x < 335544320 := by
  unfold Dg at h
  omega
/-- five products, one behind the other -/
theorem five_mu (a b c d e f g h i j : Int) (ha : 0 ≤ a ∧ a < 268435456) (hb : 0 ≤ b ∧ b < 268435456) (hc : 0 ≤ c ∧ c < 268435456) (hd : 0 ≤ d ∧ d < 268435456) (he : 0 ≤ e ∧ e < 268435456) (hf : 0 ≤ f ∧ f < 335544320) (hg : 0 ≤ g ∧ g < 335544320) (hh : 0 ≤ h ∧ h < 335544320) (hi : 0 ≤ i ∧ i < 335544320) (hj : 0 ≤ j ∧ j < 335544320) :
    su (su (su (su (mu a f) (mu b g)) (mu c h)) (mu d i)) (mu e j) = a * f + b * g + c * h + d * i + e * j ∧ Mid (a * f + b * g + c * h + d * i + e * j) := by
  obtain ⟨p1, p2, p3⟩ := mu_eq a f ha hf
  obtain ⟨q1, q2, q3⟩ := mu_eq b g hb hg
  obtain ⟨r1, r2, r3⟩ := mu_eq c h hc hh
  obtain ⟨s1, s2, s3⟩ := mu_eq d i hd hi
  obtain ⟨t1, t2, t3⟩ := mu_eq e j he hj
  rw [p1, q1, r1, s1, t1]
  generalize a * f = A at *
  generalize b * g = B at *
  generalize c * h = C at *
  generalize d * i = D at *
  generalize e * j = E at *
  rw [su_eq A B p2 q2 (by omega), su_eq (A + B) C (by omega) r2 (by omega), su_eq (A + B + C) D (by omega) s2 (by omega), su_eq (A + B + C + D) E (by omega) t2 (by omega)]
  exact ⟨rfl, by unfold Mid; omega⟩
theorem times_val (a b c d e f g h i j : Int) : v5 (a * f + b * (j * 5) + c * (i * 5) + d * (h * 5) + e * (g * 5)) (a * g + b * f + c * (j * 5) + d * (i * 5) + e * (h * 5)) (a * h + b * g + c * f + d * (j * 5) + e * (i * 5)) (a * i + b * h + c * g + d * f + e * (j * 5)) (a * j + b * i + c * h + d * g + e * f)
    = v5 a b c d e * v5 f g h i j - 1361129467683753853853498429727072845819 * (b * j + c * i + d * h + e * g + 67108864 * (c * j + d * i + e * h) + 4503599627370496 * (d * j + e * i) + 302231454903657293676544 * (e * j)) := by
  unfold v5
  grind
theorem times_mod (a b c d e f g h i j : Int) : v5 (a * f + b * (j * 5) + c * (i * 5) + d * (h * 5) + e * (g * 5)) (a * g + b * f + c * (j * 5) + d * (i * 5) + e * (h * 5)) (a * h + b * g + c * f + d * (j * 5) + e * (i * 5)) (a * i + b * h + c * g + d * f + e * (j * 5)) (a * j + b * i + c * h + d * g + e * f) % 1361129467683753853853498429727072845819
    = v5 a b c d e * v5 f g h i j % 1361129467683753853853498429727072845819 := by
  rw [times_val, Int.sub_mul_emod_self_left]
set_option maxHeartbeats 40000000 in
theorem times_ok (a b c d e f g h i j : Int) (ha : 0 ≤ a ∧ a < 268435456) (hb : 0 ≤ b ∧ b < 268435456) (hc : 0 ≤ c ∧ c < 268435456) (hd : 0 ≤ d ∧ d < 268435456) (he : 0 ≤ e ∧ e < 268435456) (hf : Dg f) (hg : Dg g) (hh : Dg h) (hi : Dg i) (hj : Dg j) (w : World) : Calls Try.prog 59 #[.agg (fc a b c d e), .agg (fc f g h i j)] w (Crd (v5 a b c d e * v5 f g h i j % 1361129467683753853853498429727072845819) w) := by
  obtain ⟨T, hT⟩ : ∃ T, T = Crd (v5 a b c d e * v5 f g h i j % 1361129467683753853853498429727072845819) w := ⟨_, rfl⟩
  rw [← hT]
  replace hT := hide hT
  obtain ⟨SK, hSK⟩ : ∃ S, S = fc a b c d e := ⟨_, rfl⟩
  rw [← hSK]
  replace hSK := hide hSK
  obtain ⟨SM, hSM⟩ : ∃ S, S = fc f g h i j := ⟨_, rfl⟩
  rw [← hSM]
  replace hSM := hide hSM
  replace ha := hide ha; replace hb := hide hb; replace hc := hide hc; replace hd := hide hd; replace he := hide he
  replace hf := hide hf; replace hg := hide hg; replace hh := hide hh; replace hi := hide hi; replace hj := hide hj
  go_enter Try.func59, Try.ntmps59
  go_upto_region 1 with fail
  have hB := (((Bl.nil w).new SK 66).new SM 66).new #[.int .u64 0, .int .u64 0, .int .u64 0, .int .u64 0, .int .u64 0] 66
  simp only [size_alloc, List.nil_append, List.cons_append] at hB
  generalize World.alloc _ _ = u at *
  rw [unhide hSK, unhide hSM] at hB
  replace hB : Bl w [⟨w.heap.size, fc a b c d e, 66⟩, ⟨w.heap.size + 1, fc f g h i j, 66⟩, ⟨w.heap.size + 1 + 1, fc 0 0 0 0 0, 66⟩] u := hB
  refine any_start (S := fun v => Bl w [⟨w.heap.size, fc a b c d e, 66⟩, ⟨w.heap.size + 1, fc f g h i j, 66⟩, ⟨w.heap.size + 1 + 1, fc 0 0 0 0 0, 66⟩] v) (by kernel_rfl) ?_
  replace hB := hB.drew
  generalize World.drew _ = u0 at *
  simp only [List.size_toArray, List.length_cons, List.length_nil, Array.replicate, List.replicate]
  refine any_take (i := 0) (v := (.pointer (some ⟨w.heap.size + 1, 1, none⟩))) #[false, false, false, false, false, false, false, false, false, false, false, false, false, false, false, false] rfl (by kernel_rfl) (by kernel_rfl) (by kernel_rfl) (by kernel_rfl) (fun _ _ _ h => h) (.inl ⟨by kernel_rfl, fun x_ hu => by kernel_rfl⟩) hB ?_
  simp only [Act.put, List.setIfInBounds_toArray, List.set_cons_zero, List.set_cons_succ, List.getElem_toArray, List.getElem_cons_zero, List.getElem_cons_succ]
  refine any_take (i := 1) (v := (.int .u64 g)) #[true, false, false, false, false, false, false, false, false, false, false, false, false, false, false, false] rfl (by kernel_rfl) (by kernel_rfl) (by kernel_rfl) (by kernel_rfl) (fun _ _ _ h => h) (.inl ⟨by kernel_rfl, fun x_ hu => exec_u64 _ (.tmp 9) rfl (w.heap.size + 1) 1 (by kernel_rfl) g (cell_of (hu.get 1 (x := ⟨w.heap.size + 1, fc f g h i j, 66⟩) rfl) rfl)⟩) hB ?_
  simp only [Act.put, List.setIfInBounds_toArray, List.set_cons_zero, List.set_cons_succ, List.getElem_toArray, List.getElem_cons_zero, List.getElem_cons_succ]
  refine any_take (i := 2) (v := (.int .u64 (mu g 5))) #[true, true, false, false, false, false, false, false, false, false, false, false, false, false, false, false] rfl (by kernel_rfl) (by kernel_rfl) (by kernel_rfl) (by kernel_rfl) (fun _ _ _ h => h) (.inl ⟨by kernel_rfl, fun x_ hu => by kernel_rfl⟩) hB ?_
  simp only [Act.put, List.setIfInBounds_toArray, List.set_cons_zero, List.set_cons_succ, List.getElem_toArray, List.getElem_cons_zero, List.getElem_cons_succ]
  refine any_take (i := 3) (v := (.pointer (some ⟨w.heap.size + 1, 2, none⟩))) #[true, true, true, false, false, false, false, false, false, false, false, false, false, false, false, false] rfl (by kernel_rfl) (by kernel_rfl) (by kernel_rfl) (by kernel_rfl) (fun _ _ _ h => h) (.inl ⟨by kernel_rfl, fun x_ hu => by kernel_rfl⟩) hB ?_
  simp only [Act.put, List.setIfInBounds_toArray, List.set_cons_zero, List.set_cons_succ, List.getElem_toArray, List.getElem_cons_zero, List.getElem_cons_succ]
  refine any_take (i := 4) (v := (.int .u64 h)) #[true, true, true, true, false, false, false, false, false, false, false, false, false, false, false, false] rfl (by kernel_rfl) (by kernel_rfl) (by kernel_rfl) (by kernel_rfl) (fun _ _ _ h => h) (.inl ⟨by kernel_rfl, fun x_ hu => exec_u64 _ (.tmp 12) rfl (w.heap.size + 1) 2 (by kernel_rfl) h (cell_of (hu.get 1 (x := ⟨w.heap.size + 1, fc f g h i j, 66⟩) rfl) rfl)⟩) hB ?_
  simp only [Act.put, List.setIfInBounds_toArray, List.set_cons_zero, List.set_cons_succ, List.getElem_toArray, List.getElem_cons_zero, List.getElem_cons_succ]
  refine any_take (i := 5) (v := (.int .u64 (mu h 5))) #[true, true, true, true, true, false, false, false, false, false, false, false, false, false, false, false] rfl (by kernel_rfl) (by kernel_rfl) (by kernel_rfl) (by kernel_rfl) (fun _ _ _ h => h) (.inl ⟨by kernel_rfl, fun x_ hu => by kernel_rfl⟩) hB ?_
  simp only [Act.put, List.setIfInBounds_toArray, List.set_cons_zero, List.set_cons_succ, List.getElem_toArray, List.getElem_cons_zero, List.getElem_cons_succ]
  refine any_take (i := 6) (v := (.pointer (some ⟨w.heap.size + 1, 3, none⟩))) #[true, true, true, true, true, true, false, false, false, false, false, false, false, false, false, false] rfl (by kernel_rfl) (by kernel_rfl) (by kernel_rfl) (by kernel_rfl) (fun _ _ _ h => h) (.inl ⟨by kernel_rfl, fun x_ hu => by kernel_rfl⟩) hB ?_
  simp only [Act.put, List.setIfInBounds_toArray, List.set_cons_zero, List.set_cons_succ, List.getElem_toArray, List.getElem_cons_zero, List.getElem_cons_succ]
  refine any_take (i := 7) (v := (.int .u64 i)) #[true, true, true, true, true, true, true, false, false, false, false, false, false, false, false, false] rfl (by kernel_rfl) (by kernel_rfl) (by kernel_rfl) (by kernel_rfl) (fun _ _ _ h => h) (.inl ⟨by kernel_rfl, fun x_ hu => exec_u64 _ (.tmp 15) rfl (w.heap.size + 1) 3 (by kernel_rfl) i (cell_of (hu.get 1 (x := ⟨w.heap.size + 1, fc f g h i j, 66⟩) rfl) rfl)⟩) hB ?_
  simp only [Act.put, List.setIfInBounds_toArray, List.set_cons_zero, List.set_cons_succ, List.getElem_toArray, List.getElem_cons_zero, List.getElem_cons_succ]
  refine any_take (i := 8) (v := (.int .u64 (mu i 5))) #[true, true, true, true, true, true, true, true, false, false, false, false, false, false, false, false] rfl (by kernel_rfl) (by kernel_rfl) (by kernel_rfl) (by kernel_rfl) (fun _ _ _ h => h) (.inl ⟨by kernel_rfl, fun x_ hu => by kernel_rfl⟩) hB ?_
  simp only [Act.put, List.setIfInBounds_toArray, List.set_cons_zero, List.set_cons_succ, List.getElem_toArray, List.getElem_cons_zero, List.getElem_cons_succ]
  refine any_take (i := 9) (v := (.pointer (some ⟨w.heap.size + 1, 4, none⟩))) #[true, true, true, true, true, true, true, true, true, false, false, false, false, false, false, false] rfl (by kernel_rfl) (by kernel_rfl) (by kernel_rfl) (by kernel_rfl) (fun _ _ _ h => h) (.inl ⟨by kernel_rfl, fun x_ hu => by kernel_rfl⟩) hB ?_
  simp only [Act.put, List.setIfInBounds_toArray, List.set_cons_zero, List.set_cons_succ, List.getElem_toArray, List.getElem_cons_zero, List.getElem_cons_succ]
  refine any_take (i := 10) (v := (.int .u64 j)) #[true, true, true, true, true, true, true, true, true, true, false, false, false, false, false, false] rfl (by kernel_rfl) (by kernel_rfl) (by kernel_rfl) (by kernel_rfl) (fun _ _ _ h => h) (.inl ⟨by kernel_rfl, fun x_ hu => exec_u64 _ (.tmp 18) rfl (w.heap.size + 1) 4 (by kernel_rfl) j (cell_of (hu.get 1 (x := ⟨w.heap.size + 1, fc f g h i j, 66⟩) rfl) rfl)⟩) hB ?_
  simp only [Act.put, List.setIfInBounds_toArray, List.set_cons_zero, List.set_cons_succ, List.getElem_toArray, List.getElem_cons_zero, List.getElem_cons_succ]
  refine any_take (i := 11) (v := (.int .u64 (mu j 5))) #[true, true, true, true, true, true, true, true, true, true, true, false, false, false, false, false] rfl (by kernel_rfl) (by kernel_rfl) (by kernel_rfl) (by kernel_rfl) (fun _ _ _ h => h) (.inl ⟨by kernel_rfl, fun x_ hu => by kernel_rfl⟩) hB ?_
  simp only [Act.put, List.setIfInBounds_toArray, List.set_cons_zero, List.set_cons_succ, List.getElem_toArray, List.getElem_cons_zero, List.getElem_cons_succ]
  refine any_one (i := 12) (by kernel_rfl) rfl (fun K hK => ?_)
  replace hK := hide hK
  go_simp
  refine (unhide hK).out _ _ hB (fun _ => ?_)
  clear hK K
  refine any_one (i := 13) (by kernel_rfl) rfl (fun K hK => ?_)
  replace hK := hide hK
  go_simp
  refine (unhide hK).out _ _ hB (fun _ => ?_)
  clear hK K
  refine any_one (i := 14) (by kernel_rfl) rfl (fun K hK => ?_)
  replace hK := hide hK
  go_simp
  refine (unhide hK).out _ _ hB (fun _ => ?_)
  clear hK K
  refine any_one (i := 15) (by kernel_rfl) rfl (fun K hK => ?_)
  replace hK := hide hK
  go_simp
  refine (unhide hK).out _ _ hB (fun _ => ?_)
  clear hK K
  refine any_done (by kernel_rfl) ?_
  replace hB := hide hB
  go_upto_region 2 with fail
  replace hB := unhide hB
  simp only [List.append_eq, List.cons_append, List.nil_append]
  refine wp_region_lit ?_
  refine list_val (.pointer (some ⟨w.heap.size, 0, none⟩)) (by kernel_rfl) (by kernel_rfl) ?_
  simp only [Act.put, List.setIfInBounds_toArray, List.set_cons_zero, List.set_cons_succ, List.getElem_toArray, List.getElem_cons_zero, List.getElem_cons_succ]
  refine list_val (.int .u64 a) (by kernel_rfl) (exec_u64 _ (.tmp 21) rfl (w.heap.size) 0 (by kernel_rfl) a (cell_of (hB.get 0 (x := ⟨w.heap.size, fc a b c d e, 66⟩) rfl) rfl)) ?_
  simp only [Act.put, List.setIfInBounds_toArray, List.set_cons_zero, List.set_cons_succ, List.getElem_toArray, List.getElem_cons_zero, List.getElem_cons_succ]
  refine list_val (.pointer (some ⟨w.heap.size + 1, 0, none⟩)) (by kernel_rfl) (by kernel_rfl) ?_
  simp only [Act.put, List.setIfInBounds_toArray, List.set_cons_zero, List.set_cons_succ, List.getElem_toArray, List.getElem_cons_zero, List.getElem_cons_succ]
  refine list_val (.int .u64 f) (by kernel_rfl) (exec_u64 _ (.tmp 23) rfl (w.heap.size + 1) 0 (by kernel_rfl) f (cell_of (hB.get 1 (x := ⟨w.heap.size + 1, fc f g h i j, 66⟩) rfl) rfl)) ?_
  simp only [Act.put, List.setIfInBounds_toArray, List.set_cons_zero, List.set_cons_succ, List.getElem_toArray, List.getElem_cons_zero, List.getElem_cons_succ]
  refine list_val (.int .u64 (mu a f)) (by kernel_rfl) (by kernel_rfl) ?_
  simp only [Act.put, List.setIfInBounds_toArray, List.set_cons_zero, List.set_cons_succ, List.getElem_toArray, List.getElem_cons_zero, List.getElem_cons_succ]
  refine list_val (.pointer (some ⟨w.heap.size, 1, none⟩)) (by kernel_rfl) (by kernel_rfl) ?_
  simp only [Act.put, List.setIfInBounds_toArray, List.set_cons_zero, List.set_cons_succ, List.getElem_toArray, List.getElem_cons_zero, List.getElem_cons_succ]
  refine list_val (.int .u64 b) (by kernel_rfl) (exec_u64 _ (.tmp 26) rfl (w.heap.size) 1 (by kernel_rfl) b (cell_of (hB.get 0 (x := ⟨w.heap.size, fc a b c d e, 66⟩) rfl) rfl)) ?_
  simp only [Act.put, List.setIfInBounds_toArray, List.set_cons_zero, List.set_cons_succ, List.getElem_toArray, List.getElem_cons_zero, List.getElem_cons_succ]
  refine list_val (.int .u64 (mu j 5)) (by kernel_rfl) (by kernel_rfl) ?_
  simp only [Act.put, List.setIfInBounds_toArray, List.set_cons_zero, List.set_cons_succ, List.getElem_toArray, List.getElem_cons_zero, List.getElem_cons_succ]
  refine list_val (.int .u64 (mu b (mu j 5))) (by kernel_rfl) (by kernel_rfl) ?_
  simp only [Act.put, List.setIfInBounds_toArray, List.set_cons_zero, List.set_cons_succ, List.getElem_toArray, List.getElem_cons_zero, List.getElem_cons_succ]
  refine list_val (.int .u64 (su (mu a f) (mu b (mu j 5)))) (by kernel_rfl) (by kernel_rfl) ?_
  simp only [Act.put, List.setIfInBounds_toArray, List.set_cons_zero, List.set_cons_succ, List.getElem_toArray, List.getElem_cons_zero, List.getElem_cons_succ]
  refine list_val (.pointer (some ⟨w.heap.size, 2, none⟩)) (by kernel_rfl) (by kernel_rfl) ?_
  simp only [Act.put, List.setIfInBounds_toArray, List.set_cons_zero, List.set_cons_succ, List.getElem_toArray, List.getElem_cons_zero, List.getElem_cons_succ]
  refine list_val (.int .u64 c) (by kernel_rfl) (exec_u64 _ (.tmp 31) rfl (w.heap.size) 2 (by kernel_rfl) c (cell_of (hB.get 0 (x := ⟨w.heap.size, fc a b c d e, 66⟩) rfl) rfl)) ?_
  simp only [Act.put, List.setIfInBounds_toArray, List.set_cons_zero, List.set_cons_succ, List.getElem_toArray, List.getElem_cons_zero, List.getElem_cons_succ]
  refine list_val (.int .u64 (mu i 5)) (by kernel_rfl) (by kernel_rfl) ?_
  simp only [Act.put, List.setIfInBounds_toArray, List.set_cons_zero, List.set_cons_succ, List.getElem_toArray, List.getElem_cons_zero, List.getElem_cons_succ]
  refine list_val (.int .u64 (mu c (mu i 5))) (by kernel_rfl) (by kernel_rfl) ?_
  simp only [Act.put, List.setIfInBounds_toArray, List.set_cons_zero, List.set_cons_succ, List.getElem_toArray, List.getElem_cons_zero, List.getElem_cons_succ]
  refine list_val (.int .u64 (su (su (mu a f) (mu b (mu j 5))) (mu c (mu i 5)))) (by kernel_rfl) (by kernel_rfl) ?_
  simp only [Act.put, List.setIfInBounds_toArray, List.set_cons_zero, List.set_cons_succ, List.getElem_toArray, List.getElem_cons_zero, List.getElem_cons_succ]
  refine list_val (.pointer (some ⟨w.heap.size, 3, none⟩)) (by kernel_rfl) (by kernel_rfl) ?_
  simp only [Act.put, List.setIfInBounds_toArray, List.set_cons_zero, List.set_cons_succ, List.getElem_toArray, List.getElem_cons_zero, List.getElem_cons_succ]
  refine list_val (.int .u64 d) (by kernel_rfl) (exec_u64 _ (.tmp 36) rfl (w.heap.size) 3 (by kernel_rfl) d (cell_of (hB.get 0 (x := ⟨w.heap.size, fc a b c d e, 66⟩) rfl) rfl)) ?_
  simp only [Act.put, List.setIfInBounds_toArray, List.set_cons_zero, List.set_cons_succ, List.getElem_toArray, List.getElem_cons_zero, List.getElem_cons_succ]
  refine list_val (.int .u64 (mu h 5)) (by kernel_rfl) (by kernel_rfl) ?_
  simp only [Act.put, List.setIfInBounds_toArray, List.set_cons_zero, List.set_cons_succ, List.getElem_toArray, List.getElem_cons_zero, List.getElem_cons_succ]
  refine list_val (.int .u64 (mu d (mu h 5))) (by kernel_rfl) (by kernel_rfl) ?_
  simp only [Act.put, List.setIfInBounds_toArray, List.set_cons_zero, List.set_cons_succ, List.getElem_toArray, List.getElem_cons_zero, List.getElem_cons_succ]
  refine list_val (.int .u64 (su (su (su (mu a f) (mu b (mu j 5))) (mu c (mu i 5))) (mu d (mu h 5)))) (by kernel_rfl) (by kernel_rfl) ?_
  simp only [Act.put, List.setIfInBounds_toArray, List.set_cons_zero, List.set_cons_succ, List.getElem_toArray, List.getElem_cons_zero, List.getElem_cons_succ]
  refine list_val (.pointer (some ⟨w.heap.size, 4, none⟩)) (by kernel_rfl) (by kernel_rfl) ?_
  simp only [Act.put, List.setIfInBounds_toArray, List.set_cons_zero, List.set_cons_succ, List.getElem_toArray, List.getElem_cons_zero, List.getElem_cons_succ]
  refine list_val (.int .u64 e) (by kernel_rfl) (exec_u64 _ (.tmp 41) rfl (w.heap.size) 4 (by kernel_rfl) e (cell_of (hB.get 0 (x := ⟨w.heap.size, fc a b c d e, 66⟩) rfl) rfl)) ?_
  simp only [Act.put, List.setIfInBounds_toArray, List.set_cons_zero, List.set_cons_succ, List.getElem_toArray, List.getElem_cons_zero, List.getElem_cons_succ]
  refine list_val (.int .u64 (mu g 5)) (by kernel_rfl) (by kernel_rfl) ?_
  simp only [Act.put, List.setIfInBounds_toArray, List.set_cons_zero, List.set_cons_succ, List.getElem_toArray, List.getElem_cons_zero, List.getElem_cons_succ]
  refine list_val (.int .u64 (mu e (mu g 5))) (by kernel_rfl) (by kernel_rfl) ?_
  simp only [Act.put, List.setIfInBounds_toArray, List.set_cons_zero, List.set_cons_succ, List.getElem_toArray, List.getElem_cons_zero, List.getElem_cons_succ]
  refine list_val (.int .u64 (su (su (su (su (mu a f) (mu b (mu j 5))) (mu c (mu i 5))) (mu d (mu h 5))) (mu e (mu g 5)))) (by kernel_rfl) (by kernel_rfl) ?_
  simp only [Act.put, List.setIfInBounds_toArray, List.set_cons_zero, List.set_cons_succ, List.getElem_toArray, List.getElem_cons_zero, List.getElem_cons_succ]
  refine list_val (.pointer (some ⟨w.heap.size, 0, none⟩)) (by kernel_rfl) (by kernel_rfl) ?_
  simp only [Act.put, List.setIfInBounds_toArray, List.set_cons_zero, List.set_cons_succ, List.getElem_toArray, List.getElem_cons_zero, List.getElem_cons_succ]
  refine list_val (.int .u64 a) (by kernel_rfl) (exec_u64 _ (.tmp 46) rfl (w.heap.size) 0 (by kernel_rfl) a (cell_of (hB.get 0 (x := ⟨w.heap.size, fc a b c d e, 66⟩) rfl) rfl)) ?_
  simp only [Act.put, List.setIfInBounds_toArray, List.set_cons_zero, List.set_cons_succ, List.getElem_toArray, List.getElem_cons_zero, List.getElem_cons_succ]
  refine list_val (.pointer (some ⟨w.heap.size + 1, 1, none⟩)) (by kernel_rfl) (by kernel_rfl) ?_
  simp only [Act.put, List.setIfInBounds_toArray, List.set_cons_zero, List.set_cons_succ, List.getElem_toArray, List.getElem_cons_zero, List.getElem_cons_succ]
  refine list_val (.int .u64 g) (by kernel_rfl) (exec_u64 _ (.tmp 48) rfl (w.heap.size + 1) 1 (by kernel_rfl) g (cell_of (hB.get 1 (x := ⟨w.heap.size + 1, fc f g h i j, 66⟩) rfl) rfl)) ?_
  simp only [Act.put, List.setIfInBounds_toArray, List.set_cons_zero, List.set_cons_succ, List.getElem_toArray, List.getElem_cons_zero, List.getElem_cons_succ]
  refine list_val (.int .u64 (mu a g)) (by kernel_rfl) (by kernel_rfl) ?_
  simp only [Act.put, List.setIfInBounds_toArray, List.set_cons_zero, List.set_cons_succ, List.getElem_toArray, List.getElem_cons_zero, List.getElem_cons_succ]
  refine list_val (.pointer (some ⟨w.heap.size, 1, none⟩)) (by kernel_rfl) (by kernel_rfl) ?_
  simp only [Act.put, List.setIfInBounds_toArray, List.set_cons_zero, List.set_cons_succ, List.getElem_toArray, List.getElem_cons_zero, List.getElem_cons_succ]
  refine list_val (.int .u64 b) (by kernel_rfl) (exec_u64 _ (.tmp 51) rfl (w.heap.size) 1 (by kernel_rfl) b (cell_of (hB.get 0 (x := ⟨w.heap.size, fc a b c d e, 66⟩) rfl) rfl)) ?_
  simp only [Act.put, List.setIfInBounds_toArray, List.set_cons_zero, List.set_cons_succ, List.getElem_toArray, List.getElem_cons_zero, List.getElem_cons_succ]
  refine list_val (.pointer (some ⟨w.heap.size + 1, 0, none⟩)) (by kernel_rfl) (by kernel_rfl) ?_
  simp only [Act.put, List.setIfInBounds_toArray, List.set_cons_zero, List.set_cons_succ, List.getElem_toArray, List.getElem_cons_zero, List.getElem_cons_succ]
  refine list_val (.int .u64 f) (by kernel_rfl) (exec_u64 _ (.tmp 53) rfl (w.heap.size + 1) 0 (by kernel_rfl) f (cell_of (hB.get 1 (x := ⟨w.heap.size + 1, fc f g h i j, 66⟩) rfl) rfl)) ?_
  simp only [Act.put, List.setIfInBounds_toArray, List.set_cons_zero, List.set_cons_succ, List.getElem_toArray, List.getElem_cons_zero, List.getElem_cons_succ]
  refine list_val (.int .u64 (mu b f)) (by kernel_rfl) (by kernel_rfl) ?_
  simp only [Act.put, List.setIfInBounds_toArray, List.set_cons_zero, List.set_cons_succ, List.getElem_toArray, List.getElem_cons_zero, List.getElem_cons_succ]
  refine list_val (.int .u64 (su (mu a g) (mu b f))) (by kernel_rfl) (by kernel_rfl) ?_
  simp only [Act.put, List.setIfInBounds_toArray, List.set_cons_zero, List.set_cons_succ, List.getElem_toArray, List.getElem_cons_zero, List.getElem_cons_succ]
  refine list_val (.pointer (some ⟨w.heap.size, 2, none⟩)) (by kernel_rfl) (by kernel_rfl) ?_
  simp only [Act.put, List.setIfInBounds_toArray, List.set_cons_zero, List.set_cons_succ, List.getElem_toArray, List.getElem_cons_zero, List.getElem_cons_succ]
  refine list_val (.int .u64 c) (by kernel_rfl) (exec_u64 _ (.tmp 57) rfl (w.heap.size) 2 (by kernel_rfl) c (cell_of (hB.get 0 (x := ⟨w.heap.size, fc a b c d e, 66⟩) rfl) rfl)) ?_
  simp only [Act.put, List.setIfInBounds_toArray, List.set_cons_zero, List.set_cons_succ, List.getElem_toArray, List.getElem_cons_zero, List.getElem_cons_succ]
  refine list_val (.int .u64 (mu j 5)) (by kernel_rfl) (by kernel_rfl) ?_
  simp only [Act.put, List.setIfInBounds_toArray, List.set_cons_zero, List.set_cons_succ, List.getElem_toArray, List.getElem_cons_zero, List.getElem_cons_succ]
  refine list_val (.int .u64 (mu c (mu j 5))) (by kernel_rfl) (by kernel_rfl) ?_
  simp only [Act.put, List.setIfInBounds_toArray, List.set_cons_zero, List.set_cons_succ, List.getElem_toArray, List.getElem_cons_zero, List.getElem_cons_succ]
  refine list_val (.int .u64 (su (su (mu a g) (mu b f)) (mu c (mu j 5)))) (by kernel_rfl) (by kernel_rfl) ?_
  simp only [Act.put, List.setIfInBounds_toArray, List.set_cons_zero, List.set_cons_succ, List.getElem_toArray, List.getElem_cons_zero, List.getElem_cons_succ]
  refine list_val (.pointer (some ⟨w.heap.size, 3, none⟩)) (by kernel_rfl) (by kernel_rfl) ?_
  simp only [Act.put, List.setIfInBounds_toArray, List.set_cons_zero, List.set_cons_succ, List.getElem_toArray, List.getElem_cons_zero, List.getElem_cons_succ]
  refine list_val (.int .u64 d) (by kernel_rfl) (exec_u64 _ (.tmp 62) rfl (w.heap.size) 3 (by kernel_rfl) d (cell_of (hB.get 0 (x := ⟨w.heap.size, fc a b c d e, 66⟩) rfl) rfl)) ?_
  simp only [Act.put, List.setIfInBounds_toArray, List.set_cons_zero, List.set_cons_succ, List.getElem_toArray, List.getElem_cons_zero, List.getElem_cons_succ]
  refine list_val (.int .u64 (mu i 5)) (by kernel_rfl) (by kernel_rfl) ?_
  simp only [Act.put, List.setIfInBounds_toArray, List.set_cons_zero, List.set_cons_succ, List.getElem_toArray, List.getElem_cons_zero, List.getElem_cons_succ]
  refine list_val (.int .u64 (mu d (mu i 5))) (by kernel_rfl) (by kernel_rfl) ?_
  simp only [Act.put, List.setIfInBounds_toArray, List.set_cons_zero, List.set_cons_succ, List.getElem_toArray, List.getElem_cons_zero, List.getElem_cons_succ]
  refine list_val (.int .u64 (su (su (su (mu a g) (mu b f)) (mu c (mu j 5))) (mu d (mu i 5)))) (by kernel_rfl) (by kernel_rfl) ?_
  simp only [Act.put, List.setIfInBounds_toArray, List.set_cons_zero, List.set_cons_succ, List.getElem_toArray, List.getElem_cons_zero, List.getElem_cons_succ]
  refine list_val (.pointer (some ⟨w.heap.size, 4, none⟩)) (by kernel_rfl) (by kernel_rfl) ?_
  simp only [Act.put, List.setIfInBounds_toArray, List.set_cons_zero, List.set_cons_succ, List.getElem_toArray, List.getElem_cons_zero, List.getElem_cons_succ]
  refine list_val (.int .u64 e) (by kernel_rfl) (exec_u64 _ (.tmp 67) rfl (w.heap.size) 4 (by kernel_rfl) e (cell_of (hB.get 0 (x := ⟨w.heap.size, fc a b c d e, 66⟩) rfl) rfl)) ?_
  simp only [Act.put, List.setIfInBounds_toArray, List.set_cons_zero, List.set_cons_succ, List.getElem_toArray, List.getElem_cons_zero, List.getElem_cons_succ]
  refine list_val (.int .u64 (mu h 5)) (by kernel_rfl) (by kernel_rfl) ?_
  simp only [Act.put, List.setIfInBounds_toArray, List.set_cons_zero, List.set_cons_succ, List.getElem_toArray, List.getElem_cons_zero, List.getElem_cons_succ]
  refine list_val (.int .u64 (mu e (mu h 5))) (by kernel_rfl) (by kernel_rfl) ?_
  simp only [Act.put, List.setIfInBounds_toArray, List.set_cons_zero, List.set_cons_succ, List.getElem_toArray, List.getElem_cons_zero, List.getElem_cons_succ]
  refine list_val (.int .u64 (su (su (su (su (mu a g) (mu b f)) (mu c (mu j 5))) (mu d (mu i 5))) (mu e (mu h 5)))) (by kernel_rfl) (by kernel_rfl) ?_
  simp only [Act.put, List.setIfInBounds_toArray, List.set_cons_zero, List.set_cons_succ, List.getElem_toArray, List.getElem_cons_zero, List.getElem_cons_succ]
  refine list_val (.pointer (some ⟨w.heap.size, 0, none⟩)) (by kernel_rfl) (by kernel_rfl) ?_
  simp only [Act.put, List.setIfInBounds_toArray, List.set_cons_zero, List.set_cons_succ, List.getElem_toArray, List.getElem_cons_zero, List.getElem_cons_succ]
  refine list_val (.int .u64 a) (by kernel_rfl) (exec_u64 _ (.tmp 72) rfl (w.heap.size) 0 (by kernel_rfl) a (cell_of (hB.get 0 (x := ⟨w.heap.size, fc a b c d e, 66⟩) rfl) rfl)) ?_
  simp only [Act.put, List.setIfInBounds_toArray, List.set_cons_zero, List.set_cons_succ, List.getElem_toArray, List.getElem_cons_zero, List.getElem_cons_succ]
  refine list_val (.pointer (some ⟨w.heap.size + 1, 2, none⟩)) (by kernel_rfl) (by kernel_rfl) ?_
  simp only [Act.put, List.setIfInBounds_toArray, List.set_cons_zero, List.set_cons_succ, List.getElem_toArray, List.getElem_cons_zero, List.getElem_cons_succ]
  refine list_val (.int .u64 h) (by kernel_rfl) (exec_u64 _ (.tmp 74) rfl (w.heap.size + 1) 2 (by kernel_rfl) h (cell_of (hB.get 1 (x := ⟨w.heap.size + 1, fc f g h i j, 66⟩) rfl) rfl)) ?_
  simp only [Act.put, List.setIfInBounds_toArray, List.set_cons_zero, List.set_cons_succ, List.getElem_toArray, List.getElem_cons_zero, List.getElem_cons_succ]
  refine list_val (.int .u64 (mu a h)) (by kernel_rfl) (by kernel_rfl) ?_
  simp only [Act.put, List.setIfInBounds_toArray, List.set_cons_zero, List.set_cons_succ, List.getElem_toArray, List.getElem_cons_zero, List.getElem_cons_succ]
  refine list_val (.pointer (some ⟨w.heap.size, 1, none⟩)) (by kernel_rfl) (by kernel_rfl) ?_
  simp only [Act.put, List.setIfInBounds_toArray, List.set_cons_zero, List.set_cons_succ, List.getElem_toArray, List.getElem_cons_zero, List.getElem_cons_succ]
  refine list_val (.int .u64 b) (by kernel_rfl) (exec_u64 _ (.tmp 77) rfl (w.heap.size) 1 (by kernel_rfl) b (cell_of (hB.get 0 (x := ⟨w.heap.size, fc a b c d e, 66⟩) rfl) rfl)) ?_
  simp only [Act.put, List.setIfInBounds_toArray, List.set_cons_zero, List.set_cons_succ, List.getElem_toArray, List.getElem_cons_zero, List.getElem_cons_succ]
  refine list_val (.pointer (some ⟨w.heap.size + 1, 1, none⟩)) (by kernel_rfl) (by kernel_rfl) ?_
  simp only [Act.put, List.setIfInBounds_toArray, List.set_cons_zero, List.set_cons_succ, List.getElem_toArray, List.getElem_cons_zero, List.getElem_cons_succ]
  refine list_val (.int .u64 g) (by kernel_rfl) (exec_u64 _ (.tmp 79) rfl (w.heap.size + 1) 1 (by kernel_rfl) g (cell_of (hB.get 1 (x := ⟨w.heap.size + 1, fc f g h i j, 66⟩) rfl) rfl)) ?_
  simp only [Act.put, List.setIfInBounds_toArray, List.set_cons_zero, List.set_cons_succ, List.getElem_toArray, List.getElem_cons_zero, List.getElem_cons_succ]
  refine list_val (.int .u64 (mu b g)) (by kernel_rfl) (by kernel_rfl) ?_
  simp only [Act.put, List.setIfInBounds_toArray, List.set_cons_zero, List.set_cons_succ, List.getElem_toArray, List.getElem_cons_zero, List.getElem_cons_succ]
  refine list_val (.int .u64 (su (mu a h) (mu b g))) (by kernel_rfl) (by kernel_rfl) ?_
  simp only [Act.put, List.setIfInBounds_toArray, List.set_cons_zero, List.set_cons_succ, List.getElem_toArray, List.getElem_cons_zero, List.getElem_cons_succ]
  refine list_val (.pointer (some ⟨w.heap.size, 2, none⟩)) (by kernel_rfl) (by kernel_rfl) ?_
  simp only [Act.put, List.setIfInBounds_toArray, List.set_cons_zero, List.set_cons_succ, List.getElem_toArray, List.getElem_cons_zero, List.getElem_cons_succ]
  refine list_val (.int .u64 c) (by kernel_rfl) (exec_u64 _ (.tmp 83) rfl (w.heap.size) 2 (by kernel_rfl) c (cell_of (hB.get 0 (x := ⟨w.heap.size, fc a b c d e, 66⟩) rfl) rfl)) ?_
  simp only [Act.put, List.setIfInBounds_toArray, List.set_cons_zero, List.set_cons_succ, List.getElem_toArray, List.getElem_cons_zero, List.getElem_cons_succ]
  refine list_val (.pointer (some ⟨w.heap.size + 1, 0, none⟩)) (by kernel_rfl) (by kernel_rfl) ?_
  simp only [Act.put, List.setIfInBounds_toArray, List.set_cons_zero, List.set_cons_succ, List.getElem_toArray, List.getElem_cons_zero, List.getElem_cons_succ]
  refine list_val (.int .u64 f) (by kernel_rfl) (exec_u64 _ (.tmp 85) rfl (w.heap.size + 1) 0 (by kernel_rfl) f (cell_of (hB.get 1 (x := ⟨w.heap.size + 1, fc f g h i j, 66⟩) rfl) rfl)) ?_
  simp only [Act.put, List.setIfInBounds_toArray, List.set_cons_zero, List.set_cons_succ, List.getElem_toArray, List.getElem_cons_zero, List.getElem_cons_succ]
  refine list_val (.int .u64 (mu c f)) (by kernel_rfl) (by kernel_rfl) ?_
  simp only [Act.put, List.setIfInBounds_toArray, List.set_cons_zero, List.set_cons_succ, List.getElem_toArray, List.getElem_cons_zero, List.getElem_cons_succ]
  refine list_val (.int .u64 (su (su (mu a h) (mu b g)) (mu c f))) (by kernel_rfl) (by kernel_rfl) ?_
  simp only [Act.put, List.setIfInBounds_toArray, List.set_cons_zero, List.set_cons_succ, List.getElem_toArray, List.getElem_cons_zero, List.getElem_cons_succ]
  refine list_val (.pointer (some ⟨w.heap.size, 3, none⟩)) (by kernel_rfl) (by kernel_rfl) ?_
  simp only [Act.put, List.setIfInBounds_toArray, List.set_cons_zero, List.set_cons_succ, List.getElem_toArray, List.getElem_cons_zero, List.getElem_cons_succ]
  refine list_val (.int .u64 d) (by kernel_rfl) (exec_u64 _ (.tmp 89) rfl (w.heap.size) 3 (by kernel_rfl) d (cell_of (hB.get 0 (x := ⟨w.heap.size, fc a b c d e, 66⟩) rfl) rfl)) ?_
  simp only [Act.put, List.setIfInBounds_toArray, List.set_cons_zero, List.set_cons_succ, List.getElem_toArray, List.getElem_cons_zero, List.getElem_cons_succ]
  refine list_val (.int .u64 (mu j 5)) (by kernel_rfl) (by kernel_rfl) ?_
  simp only [Act.put, List.setIfInBounds_toArray, List.set_cons_zero, List.set_cons_succ, List.getElem_toArray, List.getElem_cons_zero, List.getElem_cons_succ]
  refine list_val (.int .u64 (mu d (mu j 5))) (by kernel_rfl) (by kernel_rfl) ?_
  simp only [Act.put, List.setIfInBounds_toArray, List.set_cons_zero, List.set_cons_succ, List.getElem_toArray, List.getElem_cons_zero, List.getElem_cons_succ]
  refine list_val (.int .u64 (su (su (su (mu a h) (mu b g)) (mu c f)) (mu d (mu j 5)))) (by kernel_rfl) (by kernel_rfl) ?_
  simp only [Act.put, List.setIfInBounds_toArray, List.set_cons_zero, List.set_cons_succ, List.getElem_toArray, List.getElem_cons_zero, List.getElem_cons_succ]
  refine list_val (.pointer (some ⟨w.heap.size, 4, none⟩)) (by kernel_rfl) (by kernel_rfl) ?_
  simp only [Act.put, List.setIfInBounds_toArray, List.set_cons_zero, List.set_cons_succ, List.getElem_toArray, List.getElem_cons_zero, List.getElem_cons_succ]
  refine list_val (.int .u64 e) (by kernel_rfl) (exec_u64 _ (.tmp 94) rfl (w.heap.size) 4 (by kernel_rfl) e (cell_of (hB.get 0 (x := ⟨w.heap.size, fc a b c d e, 66⟩) rfl) rfl)) ?_
  simp only [Act.put, List.setIfInBounds_toArray, List.set_cons_zero, List.set_cons_succ, List.getElem_toArray, List.getElem_cons_zero, List.getElem_cons_succ]
  refine list_val (.int .u64 (mu i 5)) (by kernel_rfl) (by kernel_rfl) ?_
  simp only [Act.put, List.setIfInBounds_toArray, List.set_cons_zero, List.set_cons_succ, List.getElem_toArray, List.getElem_cons_zero, List.getElem_cons_succ]
  refine list_val (.int .u64 (mu e (mu i 5))) (by kernel_rfl) (by kernel_rfl) ?_
  simp only [Act.put, List.setIfInBounds_toArray, List.set_cons_zero, List.set_cons_succ, List.getElem_toArray, List.getElem_cons_zero, List.getElem_cons_succ]
  refine list_val (.int .u64 (su (su (su (su (mu a h) (mu b g)) (mu c f)) (mu d (mu j 5))) (mu e (mu i 5)))) (by kernel_rfl) (by kernel_rfl) ?_
  simp only [Act.put, List.setIfInBounds_toArray, List.set_cons_zero, List.set_cons_succ, List.getElem_toArray, List.getElem_cons_zero, List.getElem_cons_succ]
  refine list_val (.pointer (some ⟨w.heap.size, 0, none⟩)) (by kernel_rfl) (by kernel_rfl) ?_
  simp only [Act.put, List.setIfInBounds_toArray, List.set_cons_zero, List.set_cons_succ, List.getElem_toArray, List.getElem_cons_zero, List.getElem_cons_succ]
  refine list_val (.int .u64 a) (by kernel_rfl) (exec_u64 _ (.tmp 99) rfl (w.heap.size) 0 (by kernel_rfl) a (cell_of (hB.get 0 (x := ⟨w.heap.size, fc a b c d e, 66⟩) rfl) rfl)) ?_
  simp only [Act.put, List.setIfInBounds_toArray, List.set_cons_zero, List.set_cons_succ, List.getElem_toArray, List.getElem_cons_zero, List.getElem_cons_succ]
  refine list_val (.pointer (some ⟨w.heap.size + 1, 3, none⟩)) (by kernel_rfl) (by kernel_rfl) ?_
  simp only [Act.put, List.setIfInBounds_toArray, List.set_cons_zero, List.set_cons_succ, List.getElem_toArray, List.getElem_cons_zero, List.getElem_cons_succ]
  refine list_val (.int .u64 i) (by kernel_rfl) (exec_u64 _ (.tmp 101) rfl (w.heap.size + 1) 3 (by kernel_rfl) i (cell_of (hB.get 1 (x := ⟨w.heap.size + 1, fc f g h i j, 66⟩) rfl) rfl)) ?_
  simp only [Act.put, List.setIfInBounds_toArray, List.set_cons_zero, List.set_cons_succ, List.getElem_toArray, List.getElem_cons_zero, List.getElem_cons_succ]
  refine list_val (.int .u64 (mu a i)) (by kernel_rfl) (by kernel_rfl) ?_
  simp only [Act.put, List.setIfInBounds_toArray, List.set_cons_zero, List.set_cons_succ, List.getElem_toArray, List.getElem_cons_zero, List.getElem_cons_succ]
  refine list_val (.pointer (some ⟨w.heap.size, 1, none⟩)) (by kernel_rfl) (by kernel_rfl) ?_
  simp only [Act.put, List.setIfInBounds_toArray, List.set_cons_zero, List.set_cons_succ, List.getElem_toArray, List.getElem_cons_zero, List.getElem_cons_succ]
  refine list_val (.int .u64 b) (by kernel_rfl) (exec_u64 _ (.tmp 104) rfl (w.heap.size) 1 (by kernel_rfl) b (cell_of (hB.get 0 (x := ⟨w.heap.size, fc a b c d e, 66⟩) rfl) rfl)) ?_
  simp only [Act.put, List.setIfInBounds_toArray, List.set_cons_zero, List.set_cons_succ, List.getElem_toArray, List.getElem_cons_zero, List.getElem_cons_succ]
  refine list_val (.pointer (some ⟨w.heap.size + 1, 2, none⟩)) (by kernel_rfl) (by kernel_rfl) ?_
  simp only [Act.put, List.setIfInBounds_toArray, List.set_cons_zero, List.set_cons_succ, List.getElem_toArray, List.getElem_cons_zero, List.getElem_cons_succ]
  refine list_val (.int .u64 h) (by kernel_rfl) (exec_u64 _ (.tmp 106) rfl (w.heap.size + 1) 2 (by kernel_rfl) h (cell_of (hB.get 1 (x := ⟨w.heap.size + 1, fc f g h i j, 66⟩) rfl) rfl)) ?_
  simp only [Act.put, List.setIfInBounds_toArray, List.set_cons_zero, List.set_cons_succ, List.getElem_toArray, List.getElem_cons_zero, List.getElem_cons_succ]
  refine list_val (.int .u64 (mu b h)) (by kernel_rfl) (by kernel_rfl) ?_
  simp only [Act.put, List.setIfInBounds_toArray, List.set_cons_zero, List.set_cons_succ, List.getElem_toArray, List.getElem_cons_zero, List.getElem_cons_succ]
  refine list_val (.int .u64 (su (mu a i) (mu b h))) (by kernel_rfl) (by kernel_rfl) ?_
  simp only [Act.put, List.setIfInBounds_toArray, List.set_cons_zero, List.set_cons_succ, List.getElem_toArray, List.getElem_cons_zero, List.getElem_cons_succ]
  refine list_val (.pointer (some ⟨w.heap.size, 2, none⟩)) (by kernel_rfl) (by kernel_rfl) ?_
  simp only [Act.put, List.setIfInBounds_toArray, List.set_cons_zero, List.set_cons_succ, List.getElem_toArray, List.getElem_cons_zero, List.getElem_cons_succ]
  refine list_val (.int .u64 c) (by kernel_rfl) (exec_u64 _ (.tmp 110) rfl (w.heap.size) 2 (by kernel_rfl) c (cell_of (hB.get 0 (x := ⟨w.heap.size, fc a b c d e, 66⟩) rfl) rfl)) ?_
  simp only [Act.put, List.setIfInBounds_toArray, List.set_cons_zero, List.set_cons_succ, List.getElem_toArray, List.getElem_cons_zero, List.getElem_cons_succ]
  refine list_val (.pointer (some ⟨w.heap.size + 1, 1, none⟩)) (by kernel_rfl) (by kernel_rfl) ?_
  simp only [Act.put, List.setIfInBounds_toArray, List.set_cons_zero, List.set_cons_succ, List.getElem_toArray, List.getElem_cons_zero, List.getElem_cons_succ]
  refine list_val (.int .u64 g) (by kernel_rfl) (exec_u64 _ (.tmp 112) rfl (w.heap.size + 1) 1 (by kernel_rfl) g (cell_of (hB.get 1 (x := ⟨w.heap.size + 1, fc f g h i j, 66⟩) rfl) rfl)) ?_
  simp only [Act.put, List.setIfInBounds_toArray, List.set_cons_zero, List.set_cons_succ, List.getElem_toArray, List.getElem_cons_zero, List.getElem_cons_succ]
  refine list_val (.int .u64 (mu c g)) (by kernel_rfl) (by kernel_rfl) ?_
  simp only [Act.put, List.setIfInBounds_toArray, List.set_cons_zero, List.set_cons_succ, List.getElem_toArray, List.getElem_cons_zero, List.getElem_cons_succ]
  refine list_val (.int .u64 (su (su (mu a i) (mu b h)) (mu c g))) (by kernel_rfl) (by kernel_rfl) ?_
  simp only [Act.put, List.setIfInBounds_toArray, List.set_cons_zero, List.set_cons_succ, List.getElem_toArray, List.getElem_cons_zero, List.getElem_cons_succ]
  refine list_val (.pointer (some ⟨w.heap.size, 3, none⟩)) (by kernel_rfl) (by kernel_rfl) ?_
  simp only [Act.put, List.setIfInBounds_toArray, List.set_cons_zero, List.set_cons_succ, List.getElem_toArray, List.getElem_cons_zero, List.getElem_cons_succ]
  refine list_val (.int .u64 d) (by kernel_rfl) (exec_u64 _ (.tmp 116) rfl (w.heap.size) 3 (by kernel_rfl) d (cell_of (hB.get 0 (x := ⟨w.heap.size, fc a b c d e, 66⟩) rfl) rfl)) ?_
  simp only [Act.put, List.setIfInBounds_toArray, List.set_cons_zero, List.set_cons_succ, List.getElem_toArray, List.getElem_cons_zero, List.getElem_cons_succ]
  refine list_val (.pointer (some ⟨w.heap.size + 1, 0, none⟩)) (by kernel_rfl) (by kernel_rfl) ?_
  simp only [Act.put, List.setIfInBounds_toArray, List.set_cons_zero, List.set_cons_succ, List.getElem_toArray, List.getElem_cons_zero, List.getElem_cons_succ]
  refine list_val (.int .u64 f) (by kernel_rfl) (exec_u64 _ (.tmp 118) rfl (w.heap.size + 1) 0 (by kernel_rfl) f (cell_of (hB.get 1 (x := ⟨w.heap.size + 1, fc f g h i j, 66⟩) rfl) rfl)) ?_
  simp only [Act.put, List.setIfInBounds_toArray, List.set_cons_zero, List.set_cons_succ, List.getElem_toArray, List.getElem_cons_zero, List.getElem_cons_succ]
  refine list_val (.int .u64 (mu d f)) (by kernel_rfl) (by kernel_rfl) ?_
  simp only [Act.put, List.setIfInBounds_toArray, List.set_cons_zero, List.set_cons_succ, List.getElem_toArray, List.getElem_cons_zero, List.getElem_cons_succ]
  refine list_val (.int .u64 (su (su (su (mu a i) (mu b h)) (mu c g)) (mu d f))) (by kernel_rfl) (by kernel_rfl) ?_
  simp only [Act.put, List.setIfInBounds_toArray, List.set_cons_zero, List.set_cons_succ, List.getElem_toArray, List.getElem_cons_zero, List.getElem_cons_succ]
  refine list_val (.pointer (some ⟨w.heap.size, 4, none⟩)) (by kernel_rfl) (by kernel_rfl) ?_
  simp only [Act.put, List.setIfInBounds_toArray, List.set_cons_zero, List.set_cons_succ, List.getElem_toArray, List.getElem_cons_zero, List.getElem_cons_succ]
  refine list_val (.int .u64 e) (by kernel_rfl) (exec_u64 _ (.tmp 122) rfl (w.heap.size) 4 (by kernel_rfl) e (cell_of (hB.get 0 (x := ⟨w.heap.size, fc a b c d e, 66⟩) rfl) rfl)) ?_
  simp only [Act.put, List.setIfInBounds_toArray, List.set_cons_zero, List.set_cons_succ, List.getElem_toArray, List.getElem_cons_zero, List.getElem_cons_succ]
  refine list_val (.int .u64 (mu j 5)) (by kernel_rfl) (by kernel_rfl) ?_
  simp only [Act.put, List.setIfInBounds_toArray, List.set_cons_zero, List.set_cons_succ, List.getElem_toArray, List.getElem_cons_zero, List.getElem_cons_succ]
  refine list_val (.int .u64 (mu e (mu j 5))) (by kernel_rfl) (by kernel_rfl) ?_
  simp only [Act.put, List.setIfInBounds_toArray, List.set_cons_zero, List.set_cons_succ, List.getElem_toArray, List.getElem_cons_zero, List.getElem_cons_succ]
  refine list_val (.int .u64 (su (su (su (su (mu a i) (mu b h)) (mu c g)) (mu d f)) (mu e (mu j 5)))) (by kernel_rfl) (by kernel_rfl) ?_
  simp only [Act.put, List.setIfInBounds_toArray, List.set_cons_zero, List.set_cons_succ, List.getElem_toArray, List.getElem_cons_zero, List.getElem_cons_succ]
  refine list_val (.pointer (some ⟨w.heap.size, 0, none⟩)) (by kernel_rfl) (by kernel_rfl) ?_
  simp only [Act.put, List.setIfInBounds_toArray, List.set_cons_zero, List.set_cons_succ, List.getElem_toArray, List.getElem_cons_zero, List.getElem_cons_succ]
  refine list_val (.int .u64 a) (by kernel_rfl) (exec_u64 _ (.tmp 127) rfl (w.heap.size) 0 (by kernel_rfl) a (cell_of (hB.get 0 (x := ⟨w.heap.size, fc a b c d e, 66⟩) rfl) rfl)) ?_
  simp only [Act.put, List.setIfInBounds_toArray, List.set_cons_zero, List.set_cons_succ, List.getElem_toArray, List.getElem_cons_zero, List.getElem_cons_succ]
  refine list_val (.pointer (some ⟨w.heap.size + 1, 4, none⟩)) (by kernel_rfl) (by kernel_rfl) ?_
  simp only [Act.put, List.setIfInBounds_toArray, List.set_cons_zero, List.set_cons_succ, List.getElem_toArray, List.getElem_cons_zero, List.getElem_cons_succ]
  refine list_val (.int .u64 j) (by kernel_rfl) (exec_u64 _ (.tmp 129) rfl (w.heap.size + 1) 4 (by kernel_rfl) j (cell_of (hB.get 1 (x := ⟨w.heap.size + 1, fc f g h i j, 66⟩) rfl) rfl)) ?_
  simp only [Act.put, List.setIfInBounds_toArray, List.set_cons_zero, List.set_cons_succ, List.getElem_toArray, List.getElem_cons_zero, List.getElem_cons_succ]
  refine list_val (.int .u64 (mu a j)) (by kernel_rfl) (by kernel_rfl) ?_
  simp only [Act.put, List.setIfInBounds_toArray, List.set_cons_zero, List.set_cons_succ, List.getElem_toArray, List.getElem_cons_zero, List.getElem_cons_succ]
  refine list_val (.pointer (some ⟨w.heap.size, 1, none⟩)) (by kernel_rfl) (by kernel_rfl) ?_
  simp only [Act.put, List.setIfInBounds_toArray, List.set_cons_zero, List.set_cons_succ, List.getElem_toArray, List.getElem_cons_zero, List.getElem_cons_succ]
  refine list_val (.int .u64 b) (by kernel_rfl) (exec_u64 _ (.tmp 132) rfl (w.heap.size) 1 (by kernel_rfl) b (cell_of (hB.get 0 (x := ⟨w.heap.size, fc a b c d e, 66⟩) rfl) rfl)) ?_
  simp only [Act.put, List.setIfInBounds_toArray, List.set_cons_zero, List.set_cons_succ, List.getElem_toArray, List.getElem_cons_zero, List.getElem_cons_succ]
  refine list_val (.pointer (some ⟨w.heap.size + 1, 3, none⟩)) (by kernel_rfl) (by kernel_rfl) ?_
  simp only [Act.put, List.setIfInBounds_toArray, List.set_cons_zero, List.set_cons_succ, List.getElem_toArray, List.getElem_cons_zero, List.getElem_cons_succ]
  refine list_val (.int .u64 i) (by kernel_rfl) (exec_u64 _ (.tmp 134) rfl (w.heap.size + 1) 3 (by kernel_rfl) i (cell_of (hB.get 1 (x := ⟨w.heap.size + 1, fc f g h i j, 66⟩) rfl) rfl)) ?_
  simp only [Act.put, List.setIfInBounds_toArray, List.set_cons_zero, List.set_cons_succ, List.getElem_toArray, List.getElem_cons_zero, List.getElem_cons_succ]
  refine list_val (.int .u64 (mu b i)) (by kernel_rfl) (by kernel_rfl) ?_
  simp only [Act.put, List.setIfInBounds_toArray, List.set_cons_zero, List.set_cons_succ, List.getElem_toArray, List.getElem_cons_zero, List.getElem_cons_succ]
  refine list_val (.int .u64 (su (mu a j) (mu b i))) (by kernel_rfl) (by kernel_rfl) ?_
  simp only [Act.put, List.setIfInBounds_toArray, List.set_cons_zero, List.set_cons_succ, List.getElem_toArray, List.getElem_cons_zero, List.getElem_cons_succ]
  refine list_val (.pointer (some ⟨w.heap.size, 2, none⟩)) (by kernel_rfl) (by kernel_rfl) ?_
  simp only [Act.put, List.setIfInBounds_toArray, List.set_cons_zero, List.set_cons_succ, List.getElem_toArray, List.getElem_cons_zero, List.getElem_cons_succ]
  refine list_val (.int .u64 c) (by kernel_rfl) (exec_u64 _ (.tmp 138) rfl (w.heap.size) 2 (by kernel_rfl) c (cell_of (hB.get 0 (x := ⟨w.heap.size, fc a b c d e, 66⟩) rfl) rfl)) ?_
  simp only [Act.put, List.setIfInBounds_toArray, List.set_cons_zero, List.set_cons_succ, List.getElem_toArray, List.getElem_cons_zero, List.getElem_cons_succ]
  refine list_val (.pointer (some ⟨w.heap.size + 1, 2, none⟩)) (by kernel_rfl) (by kernel_rfl) ?_
  simp only [Act.put, List.setIfInBounds_toArray, List.set_cons_zero, List.set_cons_succ, List.getElem_toArray, List.getElem_cons_zero, List.getElem_cons_succ]
  refine list_val (.int .u64 h) (by kernel_rfl) (exec_u64 _ (.tmp 140) rfl (w.heap.size + 1) 2 (by kernel_rfl) h (cell_of (hB.get 1 (x := ⟨w.heap.size + 1, fc f g h i j, 66⟩) rfl) rfl)) ?_
  simp only [Act.put, List.setIfInBounds_toArray, List.set_cons_zero, List.set_cons_succ, List.getElem_toArray, List.getElem_cons_zero, List.getElem_cons_succ]
  refine list_val (.int .u64 (mu c h)) (by kernel_rfl) (by kernel_rfl) ?_
  simp only [Act.put, List.setIfInBounds_toArray, List.set_cons_zero, List.set_cons_succ, List.getElem_toArray, List.getElem_cons_zero, List.getElem_cons_succ]
  refine list_val (.int .u64 (su (su (mu a j) (mu b i)) (mu c h))) (by kernel_rfl) (by kernel_rfl) ?_
  simp only [Act.put, List.setIfInBounds_toArray, List.set_cons_zero, List.set_cons_succ, List.getElem_toArray, List.getElem_cons_zero, List.getElem_cons_succ]
  refine list_val (.pointer (some ⟨w.heap.size, 3, none⟩)) (by kernel_rfl) (by kernel_rfl) ?_
  simp only [Act.put, List.setIfInBounds_toArray, List.set_cons_zero, List.set_cons_succ, List.getElem_toArray, List.getElem_cons_zero, List.getElem_cons_succ]
  refine list_val (.int .u64 d) (by kernel_rfl) (exec_u64 _ (.tmp 144) rfl (w.heap.size) 3 (by kernel_rfl) d (cell_of (hB.get 0 (x := ⟨w.heap.size, fc a b c d e, 66⟩) rfl) rfl)) ?_
  simp only [Act.put, List.setIfInBounds_toArray, List.set_cons_zero, List.set_cons_succ, List.getElem_toArray, List.getElem_cons_zero, List.getElem_cons_succ]
  refine list_val (.pointer (some ⟨w.heap.size + 1, 1, none⟩)) (by kernel_rfl) (by kernel_rfl) ?_
  simp only [Act.put, List.setIfInBounds_toArray, List.set_cons_zero, List.set_cons_succ, List.getElem_toArray, List.getElem_cons_zero, List.getElem_cons_succ]
  refine list_val (.int .u64 g) (by kernel_rfl) (exec_u64 _ (.tmp 146) rfl (w.heap.size + 1) 1 (by kernel_rfl) g (cell_of (hB.get 1 (x := ⟨w.heap.size + 1, fc f g h i j, 66⟩) rfl) rfl)) ?_
  simp only [Act.put, List.setIfInBounds_toArray, List.set_cons_zero, List.set_cons_succ, List.getElem_toArray, List.getElem_cons_zero, List.getElem_cons_succ]
  refine list_val (.int .u64 (mu d g)) (by kernel_rfl) (by kernel_rfl) ?_
  simp only [Act.put, List.setIfInBounds_toArray, List.set_cons_zero, List.set_cons_succ, List.getElem_toArray, List.getElem_cons_zero, List.getElem_cons_succ]
  refine list_val (.int .u64 (su (su (su (mu a j) (mu b i)) (mu c h)) (mu d g))) (by kernel_rfl) (by kernel_rfl) ?_
  simp only [Act.put, List.setIfInBounds_toArray, List.set_cons_zero, List.set_cons_succ, List.getElem_toArray, List.getElem_cons_zero, List.getElem_cons_succ]
  refine list_val (.pointer (some ⟨w.heap.size, 4, none⟩)) (by kernel_rfl) (by kernel_rfl) ?_
  simp only [Act.put, List.setIfInBounds_toArray, List.set_cons_zero, List.set_cons_succ, List.getElem_toArray, List.getElem_cons_zero, List.getElem_cons_succ]
  refine list_val (.int .u64 e) (by kernel_rfl) (exec_u64 _ (.tmp 150) rfl (w.heap.size) 4 (by kernel_rfl) e (cell_of (hB.get 0 (x := ⟨w.heap.size, fc a b c d e, 66⟩) rfl) rfl)) ?_
  simp only [Act.put, List.setIfInBounds_toArray, List.set_cons_zero, List.set_cons_succ, List.getElem_toArray, List.getElem_cons_zero, List.getElem_cons_succ]
  refine list_val (.pointer (some ⟨w.heap.size + 1, 0, none⟩)) (by kernel_rfl) (by kernel_rfl) ?_
  simp only [Act.put, List.setIfInBounds_toArray, List.set_cons_zero, List.set_cons_succ, List.getElem_toArray, List.getElem_cons_zero, List.getElem_cons_succ]
  refine list_val (.int .u64 f) (by kernel_rfl) (exec_u64 _ (.tmp 152) rfl (w.heap.size + 1) 0 (by kernel_rfl) f (cell_of (hB.get 1 (x := ⟨w.heap.size + 1, fc f g h i j, 66⟩) rfl) rfl)) ?_
  simp only [Act.put, List.setIfInBounds_toArray, List.set_cons_zero, List.set_cons_succ, List.getElem_toArray, List.getElem_cons_zero, List.getElem_cons_succ]
  refine list_val (.int .u64 (mu e f)) (by kernel_rfl) (by kernel_rfl) ?_
  simp only [Act.put, List.setIfInBounds_toArray, List.set_cons_zero, List.set_cons_succ, List.getElem_toArray, List.getElem_cons_zero, List.getElem_cons_succ]
  refine list_val (.int .u64 (su (su (su (su (mu a j) (mu b i)) (mu c h)) (mu d g)) (mu e f))) (by kernel_rfl) (by kernel_rfl) ?_
  simp only [Act.put, List.setIfInBounds_toArray, List.set_cons_zero, List.set_cons_succ, List.getElem_toArray, List.getElem_cons_zero, List.getElem_cons_succ]
  refine list_val (.agg (fc (su (su (su (su (mu a f) (mu b (mu j 5))) (mu c (mu i 5))) (mu d (mu h 5))) (mu e (mu g 5))) (su (su (su (su (mu a g) (mu b f)) (mu c (mu j 5))) (mu d (mu i 5))) (mu e (mu h 5))) (su (su (su (su (mu a h) (mu b g)) (mu c f)) (mu d (mu j 5))) (mu e (mu i 5))) (su (su (su (su (mu a i) (mu b h)) (mu c g)) (mu d f)) (mu e (mu j 5))) (su (su (su (su (mu a j) (mu b i)) (mu c h)) (mu d g)) (mu e f)))) (by kernel_rfl) (by kernel_rfl) ?_
  simp only [Act.put, List.setIfInBounds_toArray, List.set_cons_zero, List.set_cons_succ, List.getElem_toArray, List.getElem_cons_zero, List.getElem_cons_succ]
  have w1 := wm g (unhide hg)
  have w2 := wm h (unhide hh)
  have w3 := wm i (unhide hi)
  have w4 := wm j (unhide hj)
  simp only [w1.1, w2.1, w3.1, w4.1]
  obtain ⟨s0, m0⟩ := five_mu a b c d e f (j * 5) (i * 5) (h * 5) (g * 5) (unhide ha) (unhide hb) (unhide hc) (unhide hd) (unhide he) (dl (unhide hf)) w4.2 w3.2 w2.2 w1.2
  obtain ⟨s1, m1⟩ := five_mu a b c d e g f (j * 5) (i * 5) (h * 5) (unhide ha) (unhide hb) (unhide hc) (unhide hd) (unhide he) (dl (unhide hg)) (dl (unhide hf)) w4.2 w3.2 w2.2
  obtain ⟨s2, m2⟩ := five_mu a b c d e h g f (j * 5) (i * 5) (unhide ha) (unhide hb) (unhide hc) (unhide hd) (unhide he) (dl (unhide hh)) (dl (unhide hg)) (dl (unhide hf)) w4.2 w3.2
  obtain ⟨s3, m3⟩ := five_mu a b c d e i h g f (j * 5) (unhide ha) (unhide hb) (unhide hc) (unhide hd) (unhide he) (dl (unhide hi)) (dl (unhide hh)) (dl (unhide hg)) (dl (unhide hf)) w4.2
  obtain ⟨s4, m4⟩ := five_mu a b c d e j i h g f (unhide ha) (unhide hb) (unhide hc) (unhide hd) (unhide he) (dl (unhide hj)) (dl (unhide hi)) (dl (unhide hh)) (dl (unhide hg)) (dl (unhide hf))
  rw [s0, s1, s2, s3, s4]
  have hmod := hide (times_mod a b c d e f g h i j)
  clear w1 w2 w3 w4 s0 s1 s2 s3 s4
  generalize a * f + b * (j * 5) + c * (i * 5) + d * (h * 5) + e * (g * 5) = P0 at *
  generalize a * g + b * f + c * (j * 5) + d * (i * 5) + e * (h * 5) = P1 at *
  generalize a * h + b * g + c * f + d * (j * 5) + e * (i * 5) = P2 at *
  generalize a * i + b * h + c * g + d * f + e * (j * 5) = P3 at *
  generalize a * j + b * i + c * h + d * g + e * f = P4 at *
  refine list_call 67 #[.agg (fc P0 P1 P2 P3 P4)] (by kernel_rfl) (by kernel_rfl) ((carried_ok P0 P1 P2 P3 P4 m0 m1 m2 m3 m4 _).mono ?_)
  rintro r u1 ⟨y0, y1, y2, y3, y4, rfl, hcar, hgr⟩
  refine ⟨_, rfl, ?_⟩
  replace hB := hB.more hgr
  clear hgr
  rw [unhide hmod] at hcar
  replace hcar := hide hcar
  simp only [Act.put, List.setIfInBounds_toArray, List.set_cons_zero, List.set_cons_succ, List.getElem_toArray, List.getElem_cons_zero, List.getElem_cons_succ]
  refine list_store 66 (.tmp 4) (.tmp 157) (w.heap.size + 1 + 1) (fc y0 y1 y2 y3 y4) 66 (fc 0 0 0 0 0) (by kernel_rfl) rfl (by kernel_rfl) (by kernel_rfl) (hB.get 2 (x := ⟨w.heap.size + 1 + 1, fc 0 0 0 0 0, 66⟩) rfl) Try.infoL rfl (fc_one _ _ _ _ _) ?_
  replace hB := hB.set 2 (x := ⟨w.heap.size + 1 + 1, fc 0 0 0 0 0, 66⟩) rfl (fc y0 y1 y2 y3 y4)
  simp only [List.set_cons_zero, List.set_cons_succ] at hB
  generalize World.setRow _ _ _ = u2 at *
  simp only [Act.put, List.setIfInBounds_toArray, List.set_cons_zero, List.set_cons_succ, List.getElem_toArray, List.getElem_cons_zero, List.getElem_cons_succ]
  refine wpList_nil ?_
  replace hB := hide hB
  go_wp2_with fail
  replace hB := unhide hB
  rw [unhide hT]
  exact bodyPost_ret (v := .agg (fc y0 y1 y2 y3 y4)) (results_cell_row Try.results59 _ _ (w.heap.size + 1 + 1) 66 (fc y0 y1 y2 y3 y4) (0, 0) _ rfl (hB.get 2 (x := ⟨w.heap.size + 1 + 1, fc y0 y1 y2 y3 y4, 66⟩) rfl) Try.underlying66 rfl Try.infoL) rfl (⟨_, _, _, _, _, rfl, unhide hcar, hB.gr⟩)
end Go.Proofs.Ytdekjbdkpchbjaa
