/-
  What ladder answers.
-/
import Derived.Test.YtpmgmpihmpifgaaDoorXK1
import Derived.Test.YtpmgmpihmpifgaaDoorVStep
import Derived.Test.YtpmgmpihmpifgaaDoorUEdwA
import Derived.ScopeJumps
namespace Go.Proofs.YtpmgmpihmpifgaaDoor.Cv
open Go.RowKit
set_option maxRecDepth 100000
set_option linter.unusedSimpArgs false

/-- where the ladder is at its label: the bit j is next -/
def LJ (w : World) (u : Int) (M : Nat) (c1 : Array Value) (a' : Act) (v : World) : Prop :=
  ∃ (j : Nat) (bv : Int) (p6 p7 : Nat) (x y s t : Array Value) (t10 t11 t12 t13 t14 t15 t16 t17 t18 t19 t20 t21 t22 t23 t24 t25 t26 t27 t28 t29 t30 t31 t32 t33 t34 t35 t36 t37 t38 t39 t40 t41 t42 t43 t44 t45 t46 t47 t48 t49 t50 t51 t52 t53 t54 t55 t56 t57 t58 t59 t60 t61 t62 t63 t64 t65 t66 t67 : Value), j ≤ 254 ∧ a' = ⟨#[(.agg (kc (digs (M : Int) 32))), (.agg c1), (.pointer (some ⟨w.heap.size, 0, none⟩)), (.pointer (some ⟨w.heap.size + 1, 0, none⟩)), (.pointer (some ⟨w.heap.size + 1 + 1, 0, none⟩)), (.pointer (some ⟨w.heap.size + 1 + 1 + 1, 0, none⟩)), (.pointer (some ⟨p6, 0, none⟩)), (.pointer (some ⟨p7, 0, none⟩)), .int .i64 (j : Int), .int .i64 bv, t10, t11, t12, t13, t14, t15, t16, t17, t18, t19, t20, t21, t22, t23, t24, t25, t26, t27, t28, t29, t30, t31, t32, t33, t34, t35, t36, t37, t38, t39, t40, t41, t42, t43, t44, t45, t46, t47, t48, t49, t50, t51, t52, t53, t54, t55, t56, t57, t58, t59, t60, t61, t62, t63, t64, t65, t66, t67], []⟩ ∧
    Bl w [⟨w.heap.size, (kc (digs (M : Int) 32)), 25⟩, ⟨w.heap.size + 1, c1, 91⟩, ⟨w.heap.size + 1 + 1, x, 91⟩, ⟨w.heap.size + 1 + 1 + 1, y, 91⟩, ⟨p6, s, 91⟩, ⟨p7, t, 91⟩] v ∧ EC (Ed.lad u (Ed.hi M (254 - j))).a x ∧ EC (Ed.lad u (Ed.hi M (254 - j))).b y ∧ EC (Ed.lad u (Ed.hi M (254 - j))).c s ∧ EC (Ed.lad u (Ed.hi M (254 - j))).d t

theorem i64_and7 (n : Int) : bits .and .i64 n 7 = n % 8 := by
  show IntKind.i64.wrap ((BitVec.ofInt 64 n &&& BitVec.ofInt 64 7).toNat : Int) = _
  have e : (BitVec.ofInt 64 n &&& BitVec.ofInt 64 7).toNat = (n % 8).toNat := by
    rw [BitVec.toNat_and]
    have : (BitVec.ofInt 64 (7 : Int)).toNat = 2 ^ 3 - 1 := by decide
    rw [this, Nat.and_two_pow_sub_one_eq_mod, BitVec.toNat_ofInt]
    omega
  rw [e, IntKind.wrap_i64]
  omega
theorem KB.of {v : World} {b : Nat} {l : List Int} (h : v.heap[b]? = some (.cells (kc l) 25 (0, 0))) : KB v b l := h

theorem swap_b {m n z : Int} {tb : Bool} {a b : Array Value} (hz : z % 2 = if tb then 1 else 0) (ha : EC m a) (hb : EC n b) (w : World) : Calls Tryd.prog 78 #[.int .i64 z, .agg a, .agg b] w (fun r w' => ∃ e1 e2, r = .returned (.tuple #[.agg e1, .agg e2]) ∧ EC (bif tb then n else m) e1 ∧ EC (bif tb then m else n) e2 ∧ Gr w w') := by
  refine (swap_ec z ha hb w).mono ?_
  rintro r w' ⟨rfl, h⟩
  refine ⟨_, _, rfl, ?_, ?_, h⟩ <;> (rw [hz]; cases tb <;> assumption)
theorem sx_sym (a b c d : Int) : Ed.sX c d a b = Ed.sX a b c d := by unfold Ed.sX; grind
theorem sz_sym (u a b c d : Int) : Ed.sZ u c d a b = Ed.sZ u a b c d := by unfold Ed.sZ; grind
theorem lad_next (u : Int) (M j : Nat) (hj : j ≤ 254) : Ed.lad u (Ed.hi M (254 - j + 1)) = Ed.stp u (Ed.lad u (Ed.hi M (254 - j))) (Ed.bt M j) := by
  show Ed.lad u (Ed.hi M (254 - j) ++ [Ed.bt M (254 - (254 - j))]) = _
  rw [Ed.lad_app, show 254 - (254 - j) = j from by omega]
/-- a scope in which the run jumps back to one label: the round is walked once -/
theorem scope_round {P : Program} {a : Act} {w : World} {Q : Exit → Act → World → Prop} {c rest : Code} (l : Nat) (J : Act → World → Prop) (μ : Act → World → Nat) (hf : findLabel c l = some (Code.skip.seq rest))
    (pass : ∀ a w, J a w → rest.wp P (Exit.jump l (fun a' w' => J a' w' ∧ μ a' w' < μ a w) Q) a w)
    (first : (∀ a w, J a w → rest.wp P (Exit.jump l J Q) a w) → c.wp P (Exit.jump l J Q) a w) : (Code.scope c).wp P Q a w := by
  refine wp_scope_jumps l J μ hf (first fun a w h => Code.wp_mono ?_ (pass a w h)) (fun a w h => wp_seq (wp_skip (pass a w h)))
  intro e a' w' h
  cases e <;> first | exact h | exact ⟨h.1, h.2.1⟩

set_option maxHeartbeats 4000000 in
theorem ladder_ec {u : Int} {M : Nat} {c1 : Array Value} (h1 : EC u c1) (w : World) :
    Calls Tryd.prog 61 #[.agg (kc (digs (M : Int) 32)), .agg c1] w (fun r w' => ∃ e1 e2, r = .returned (.tuple #[.agg e1, .agg e2]) ∧ EC (Ed.lad u (Ed.hi M 255)).a e1 ∧ EC (Ed.lad u (Ed.hi M 255)).b e2 ∧ Gr w w') := by
  go_enter Tryd.func61, Tryd.ntmps61
  go_wp2_with fail
  refine scope_round 0 (LJ w u M c1) (fun a' _ => (intOf (a'.tmps.getD 8 undef)).toNat) rfl ?pass (fun hP => ?first)
  case first =>
    go_upto_region 1 with fail
    have hB := (((((Bl.nil w).new (kc (digs (M : Int) 32)) 25).new c1 91).new #[.int .u64 0, .int .u64 0, .int .u64 0, .int .u64 0, .int .u64 0] 91).new #[.int .u64 0, .int .u64 0, .int .u64 0, .int .u64 0, .int .u64 0] 91)
    simp only [size_alloc, List.nil_append, List.cons_append] at hB
    generalize World.alloc _ _ = v1_ at *
    refine wp_region_lit ?_
    refine list_call 77 #[.int .u64 1] (by kernel_rfl) (by kernel_rfl) ((of_ec _ (by omega) _).mono ?_)
    rintro r v2_ ⟨c51, rfl, hc51, hg⟩
    refine ⟨_, rfl, ?_⟩
    replace hB := hB.more hg
    clear hg
    simp only [nrm]
    refine list_call 77 #[.int .u64 0] (by kernel_rfl) (by kernel_rfl) ((of_ec _ (by omega) _).mono ?_)
    rintro r v3_ ⟨c52, rfl, hc52, hg⟩
    refine ⟨_, rfl, ?_⟩
    replace hB := hB.more hg
    clear hg
    simp only [nrm]
    refine list_store 91 (.tmp 4) (.tmp 10) (w.heap.size + 1 + 1) c51 91 #[.int .u64 0, .int .u64 0, .int .u64 0, .int .u64 0, .int .u64 0] (by kernel_rfl) rfl (by kernel_rfl) (by kernel_rfl) (hB.get 2 (x := ⟨w.heap.size + 1 + 1, #[.int .u64 0, .int .u64 0, .int .u64 0, .int .u64 0, .int .u64 0], 91⟩) rfl) (by rw [Tryd.infoElem, EC.size _ hc51]) ((show (#[.int .u64 0, .int .u64 0, .int .u64 0, .int .u64 0, .int .u64 0] : Array Value).size = 5 from rfl).trans (EC.size _ hc51).symm) (EC.one _ hc51) ?_
    replace hB := hB.set 2 (x := ⟨w.heap.size + 1 + 1, #[.int .u64 0, .int .u64 0, .int .u64 0, .int .u64 0, .int .u64 0], 91⟩) rfl c51
    simp only [List.set_cons_zero, List.set_cons_succ] at hB
    generalize World.setRow _ _ _ = v4_ at *
    simp only [nrm]
    refine list_store 91 (.tmp 5) (.tmp 11) (w.heap.size + 1 + 1 + 1) c52 91 #[.int .u64 0, .int .u64 0, .int .u64 0, .int .u64 0, .int .u64 0] (by kernel_rfl) rfl (by kernel_rfl) (by kernel_rfl) (hB.get 3 (x := ⟨w.heap.size + 1 + 1 + 1, #[.int .u64 0, .int .u64 0, .int .u64 0, .int .u64 0, .int .u64 0], 91⟩) rfl) (by rw [Tryd.infoElem, EC.size _ hc52]) ((show (#[.int .u64 0, .int .u64 0, .int .u64 0, .int .u64 0, .int .u64 0] : Array Value).size = 5 from rfl).trans (EC.size _ hc52).symm) (EC.one _ hc52) ?_
    replace hB := hB.set 3 (x := ⟨w.heap.size + 1 + 1 + 1, #[.int .u64 0, .int .u64 0, .int .u64 0, .int .u64 0, .int .u64 0], 91⟩) rfl c52
    simp only [List.set_cons_zero, List.set_cons_succ] at hB
    generalize World.setRow _ _ _ = v5_ at *
    simp only [nrm]
    refine wpList_nil ?_
    go_upto_region 2 with fail
    refine any_start (S := fun v => v.heap[w.heap.size + 1]? = some (.cells c1 91 (0, 0)) ∧ True) (by kernel_rfl) ?_
    replace hB := hB.drew
    generalize World.drew _ = v6_ at *
    simp only [List.size_toArray, List.length_cons, List.length_nil, Array.replicate, List.replicate]
    refine any_take (i := 0) (v := (.agg c1)) #[false, false, false, false, false, false] rfl (by kernel_rfl) (by kernel_rfl) (by kernel_rfl) (by kernel_rfl) (fun _ _ _ h => h) (.inl ⟨by kernel_rfl, fun x hu => exec_arr x 91 (.tmp 3) rfl (w.heap.size + 1) (by kernel_rfl) c1 91 _ hu.1 Tryd.underlying91 rfl (by rw [Tryd.infoElem, EC.size _ h1])⟩) ⟨(hB.get 1 (x := ⟨w.heap.size + 1, c1, 91⟩) rfl), trivial⟩ ?_
    simp only [nrm]
    have hSf : ∀ v, Gr v6_ v → (fun v => v.heap[w.heap.size + 1]? = some (.cells c1 91 (0, 0)) ∧ True) v := fun v k => ⟨k.blk (hB.get 1 (x := ⟨w.heap.size + 1, c1, 91⟩) rfl), trivial⟩
    refine stage2 v6_ #[.int .u64 0, .int .u64 0, .int .u64 0, .int .u64 0, .int .u64 0] 91 (fun q2_1 q2_2 => ⟨#[(.agg (kc (digs (M : Int) 32))), (.agg c1), (.pointer (some ⟨w.heap.size, 0, none⟩)), (.pointer (some ⟨w.heap.size + 1, 0, none⟩)), (.pointer (some ⟨w.heap.size + 1 + 1, 0, none⟩)), (.pointer (some ⟨w.heap.size + 1 + 1 + 1, 0, none⟩)), q2_1, q2_2, undef, undef, (.agg c51), (.agg c52), (.agg c1), undef, undef, undef, undef, undef, undef, undef, undef, undef, undef, undef, undef, undef, undef, undef, undef, undef, undef, undef, undef, undef, undef, undef, undef, undef, undef, undef, undef, undef, undef, undef, undef, undef, undef, undef, undef, undef, undef, undef, undef, undef, undef, undef, undef, undef, undef, undef, undef, undef, undef, undef, undef, undef, undef, undef], []⟩) (fun b2_1 b2_2 => #[true, false, b2_1, b2_2, false, false]) 2 3 1 false hSf (by kernel_rfl) (fun _ _ => ⟨rfl, rfl⟩) ?_ ?_ ?_ ⟨false, false, undef, undef, 0, 0, M2.start _ _ _ _ _⟩
    · intro q2_1 q2_2 x K hK
      refine wpOp_step (o := _) rfl (fun K' hK' => ?_)
      replace hK' := hide hK'
      replace hK := hide hK
      go_simp
      exact unhide hK' _ _ (unhide hK)
    · intro q2_1 q2_2 x K hK
      refine wpOp_step (o := _) rfl (fun K' hK' => ?_)
      replace hK' := hide hK'
      replace hK := hide hK
      go_simp
      exact unhide hK' _ _ (unhide hK)
    intro b2_1 b2_2 q2_1 q2_2 g2_1 g2_2 v7_ hM _
    refine wpOp_step (o := _) rfl (fun K' hK' => ?_)
    replace hK' := hide hK'
    refine step_callw (by kernel_rfl) 77 #[.int .u64 1] (by kernel_rfl) ((of_ec _ (by omega) _).mono ?_)
    rintro r v8_ ⟨c53, rfl, hc53, hg⟩
    refine ⟨_, rfl, ?_⟩
    have hM' := hM.go (A' := (fun q2_1 q2_2 => ⟨#[(.agg (kc (digs (M : Int) 32))), (.agg c1), (.pointer (some ⟨w.heap.size, 0, none⟩)), (.pointer (some ⟨w.heap.size + 1, 0, none⟩)), (.pointer (some ⟨w.heap.size + 1 + 1, 0, none⟩)), (.pointer (some ⟨w.heap.size + 1 + 1 + 1, 0, none⟩)), q2_1, q2_2, undef, undef, (.agg c51), (.agg c52), (.agg c1), (.agg c53), undef, undef, undef, undef, undef, undef, undef, undef, undef, undef, undef, undef, undef, undef, undef, undef, undef, undef, undef, undef, undef, undef, undef, undef, undef, undef, undef, undef, undef, undef, undef, undef, undef, undef, undef, undef, undef, undef, undef, undef, undef, undef, undef, undef, undef, undef, undef, undef, undef, undef, undef, undef, undef, undef], []⟩)) (F' := (fun b2_1 b2_2 => #[true, true, b2_1, b2_2, false, false])) hg
    refine unhide hK' _ _ ⟨hSf _ hM'.gr, ?_⟩
    clear hK' K' hM hg
    simp only [nrm]
    refine stage2 v6_ #[.int .u64 0, .int .u64 0, .int .u64 0, .int .u64 0, .int .u64 0] 91 (fun q2_1 q2_2 => ⟨#[(.agg (kc (digs (M : Int) 32))), (.agg c1), (.pointer (some ⟨w.heap.size, 0, none⟩)), (.pointer (some ⟨w.heap.size + 1, 0, none⟩)), (.pointer (some ⟨w.heap.size + 1 + 1, 0, none⟩)), (.pointer (some ⟨w.heap.size + 1 + 1 + 1, 0, none⟩)), q2_1, q2_2, undef, undef, (.agg c51), (.agg c52), (.agg c1), (.agg c53), undef, undef, undef, undef, undef, undef, undef, undef, undef, undef, undef, undef, undef, undef, undef, undef, undef, undef, undef, undef, undef, undef, undef, undef, undef, undef, undef, undef, undef, undef, undef, undef, undef, undef, undef, undef, undef, undef, undef, undef, undef, undef, undef, undef, undef, undef, undef, undef, undef, undef, undef, undef, undef, undef], []⟩) (fun b2_1 b2_2 => #[true, true, b2_1, b2_2, false, false]) 2 3 4 true hSf (by kernel_rfl) (fun _ _ => ⟨rfl, rfl⟩) ?_ ?_ ?_ ⟨b2_1, b2_2, q2_1, q2_2, g2_1, g2_2, hM'.go (Gr.refl _)⟩
    · intro q2_1 q2_2 x K hK
      refine wpOp_step (o := _) rfl (fun K' hK' => ?_)
      replace hK' := hide hK'
      replace hK := hide hK
      go_simp
      exact unhide hK' _ _ (unhide hK)
    · intro q2_1 q2_2 x K hK
      refine wpOp_step (o := _) rfl (fun K' hK' => ?_)
      replace hK' := hide hK'
      replace hK := hide hK
      go_simp
      exact unhide hK' _ _ (unhide hK)
    clear hM'
    intro b2_1 b2_2 q2_1 q2_2 g2_1 g2_2 v9_ hM hall
    obtain ⟨rfl, rfl⟩ := hall rfl
    obtain ⟨rfl, rfl, hB'⟩ := hM.all hB
    replace hB := hB'
    clear hB' hM hall
    simp only [List.cons_append, List.nil_append] at hB
    refine wpOp_step (o := _) rfl (fun K' hK' => ?_)
    replace hK' := hide hK'
    rw [if_pos (by kernel_rfl)]
    refine wp_store_row 91 (.tmp 6) (.tmp 12) rfl g2_1 c1 (by kernel_rfl) (by kernel_rfl) 91 #[.int .u64 0, .int .u64 0, .int .u64 0, .int .u64 0, .int .u64 0] (hB.get 4 (x := ⟨g2_1, #[.int .u64 0, .int .u64 0, .int .u64 0, .int .u64 0, .int .u64 0], 91⟩) rfl) (by rw [Tryd.infoElem, EC.size _ h1]) ((show (#[.int .u64 0, .int .u64 0, .int .u64 0, .int .u64 0, .int .u64 0] : Array Value).size = 5 from rfl).trans (EC.size _ h1).symm) (EC.one _ h1) ?_
    replace hB := hB.set 4 (x := ⟨g2_1, #[.int .u64 0, .int .u64 0, .int .u64 0, .int .u64 0, .int .u64 0], 91⟩) rfl c1
    simp only [List.set_cons_zero, List.set_cons_succ] at hB
    refine unhide hK' _ _ ⟨⟨(hB.get 1 (x := ⟨w.heap.size + 1, c1, 91⟩) rfl), trivial⟩, ?_⟩
    clear hK' K' hSf
    generalize World.setRow _ _ _ = v10_ at *
    simp only [nrm]
    refine any_one (i := 5) (by kernel_rfl) rfl (fun K hK => ?_)
    rw [if_pos (by kernel_rfl)]
    refine wp_store_row 91 (.tmp 7) (.tmp 13) rfl g2_2 c53 (by kernel_rfl) (by kernel_rfl) 91 #[.int .u64 0, .int .u64 0, .int .u64 0, .int .u64 0, .int .u64 0] (hB.get 5 (x := ⟨g2_2, #[.int .u64 0, .int .u64 0, .int .u64 0, .int .u64 0, .int .u64 0], 91⟩) rfl) (by rw [Tryd.infoElem, EC.size _ hc53]) ((show (#[.int .u64 0, .int .u64 0, .int .u64 0, .int .u64 0, .int .u64 0] : Array Value).size = 5 from rfl).trans (EC.size _ hc53).symm) (EC.one _ hc53) ?_
    replace hB := hB.set 5 (x := ⟨g2_2, #[.int .u64 0, .int .u64 0, .int .u64 0, .int .u64 0, .int .u64 0], 91⟩) rfl c53
    simp only [List.set_cons_zero, List.set_cons_succ] at hB
    refine hK.out _ _ ⟨(hB.get 1 (x := ⟨w.heap.size + 1, c1, 91⟩) rfl), trivial⟩ (fun _ => ?_)
    clear hK K
    generalize World.setRow _ _ _ = v11_ at *
    simp only [nrm]
    refine any_done (by kernel_rfl) ?_
    go_wp2_with fail
    go_step3
    rename_i K hK
    exact hK _ _ (hP _ _ ⟨254, 0, g2_1, g2_2, c51, c52, c1, c53, _, _, _, _, _, _, _, _, _, _, _, _, _, _, _, _, _, _, _, _, _, _, _, _, _, _, _, _, _, _, _, _, _, _, _, _, _, _, _, _, _, _, _, _, _, _, _, _, _, _, _, _, _, _, _, _, _, _, Nat.le_refl _, rfl, hB, hc51, hc52, h1, hc53⟩)
  case pass =>
    rintro a' v ⟨j, bv, p6, p7, x, y, s, t, t10, t11, t12, t13, t14, t15, t16, t17, t18, t19, t20, t21, t22, t23, t24, t25, t26, t27, t28, t29, t30, t31, t32, t33, t34, t35, t36, t37, t38, t39, t40, t41, t42, t43, t44, t45, t46, t47, t48, t49, t50, t51, t52, t53, t54, t55, t56, t57, t58, t59, t60, t61, t62, t63, t64, t65, t66, t67, hj, rfl, hB, hx, hy, hs, ht⟩
    obtain ⟨b, hb⟩ : ∃ b, b = j / 8 := ⟨_, rfl⟩
    obtain ⟨q, hq⟩ : ∃ q, q = j % 8 := ⟨_, rfl⟩
    have e1 : (j : Int) / 8 = (b : Int) := by omega
    have e2 : bits .and .i64 (j : Int) 7 = (q : Int) := by rw [i64_and7]; omega
    have hb2 : b < 32 := by omega
    have hq2 : q < 8 := by omega
    have hbit := hide (key_bit M j b q hb hq)
    replace hb := hide hb; replace hq := hide hq
    have hk := key_cell (KB.of (hB.get 0 (x := ⟨w.heap.size, (kc (digs (M : Int) 32)), 25⟩) rfl)) b hb2
    have hkb : 0 ≤ (M : Int) / 256 ^ b % 256 ∧ (M : Int) / 256 ^ b % 256 < 256 := by omega
    generalize (M : Int) / 256 ^ b % 256 = kb at hk hbit hkb
    replace hB := hide hB; replace hx := hide hx; replace hy := hide hy; replace hs := hide hs; replace ht := hide ht
    go_upto_region 5 with fail
    have hz : wrap64 (bits BinOp.and IntKind.u8 (kb / 2 ^ q) 1) % 2 = if Ed.bt M j then 1 else 0 := by
      rw [low_bit kb q hkb, unhide hbit]
      unfold Ed.bt
      rcases (show M / 2 ^ j % 2 = 0 ∨ M / 2 ^ j % 2 = 1 by omega) with e | e <;> (rw [e]; simp [wrap64])
    replace hz := hide hz
    generalize wrap64 (bits BinOp.and IntKind.u8 (kb / 2 ^ q) 1) = z at *
    generalize bits BinOp.and IntKind.u8 (kb / 2 ^ q) 1 = z1 at *
    generalize kb / 2 ^ q = z2 at *
    clear hbit hkb hk e1 e2 hb hq hb2 hq2
    replace hB := unhide hB; replace hx := unhide hx; replace hy := unhide hy; replace hs := unhide hs; replace ht := unhide ht
    refine wp_region_lit ?_
    refine list_val (.int .i64 z) (by kernel_rfl) (by kernel_rfl) ?_
    simp only [nrm]
    refine list_val (.agg x) (by kernel_rfl) (exec_arr _ 91 (.tmp 4) rfl (w.heap.size + 1 + 1) (by kernel_rfl) x 91 _ (hB.get 2 (x := ⟨w.heap.size + 1 + 1, x, 91⟩) rfl) Tryd.underlying91 rfl (by rw [Tryd.infoElem, EC.size _ hx])) ?_
    simp only [nrm]
    refine list_val (.agg s) (by kernel_rfl) (exec_arr _ 91 (.tmp 6) rfl p6 (by kernel_rfl) s 91 _ (hB.get 4 (x := ⟨p6, s, 91⟩) rfl) Tryd.underlying91 rfl (by rw [Tryd.infoElem, EC.size _ hs])) ?_
    simp only [nrm]
    refine list_call 78 #[.int .i64 z, .agg x, .agg s] (by kernel_rfl) (by kernel_rfl) ((swap_b (unhide hz) hx hs _).mono ?_)
    rintro r v101_ ⟨c11, c12, rfl, hc11, hc12, hg⟩
    refine ⟨_, rfl, ?_⟩
    replace hB := hB.more hg
    clear hg
    simp only [nrm]
    refine list_val (.tuple #[.agg c11, .agg c12]) (by kernel_rfl) (by kernel_rfl) ?_
    simp only [nrm]
    refine list_val (.agg c11) (by kernel_rfl) (by kernel_rfl) ?_
    simp only [nrm]
    refine list_val (.agg c12) (by kernel_rfl) (by kernel_rfl) ?_
    simp only [nrm]
    refine list_store 91 (.tmp 4) (.tmp 28) (w.heap.size + 1 + 1) c11 91 x (by kernel_rfl) rfl (by kernel_rfl) (by kernel_rfl) (hB.get 2 (x := ⟨w.heap.size + 1 + 1, x, 91⟩) rfl) (by rw [Tryd.infoElem, EC.size _ hc11]) ((EC.size _ hx).trans (EC.size _ hc11).symm) (EC.one _ hc11) ?_
    replace hB := hB.set 2 (x := ⟨w.heap.size + 1 + 1, x, 91⟩) rfl c11
    simp only [List.set_cons_zero, List.set_cons_succ] at hB
    generalize World.setRow _ _ _ = v102_ at *
    simp only [nrm]
    refine list_store 91 (.tmp 6) (.tmp 29) p6 c12 91 s (by kernel_rfl) rfl (by kernel_rfl) (by kernel_rfl) (hB.get 4 (x := ⟨p6, s, 91⟩) rfl) (by rw [Tryd.infoElem, EC.size _ hc12]) ((EC.size _ hs).trans (EC.size _ hc12).symm) (EC.one _ hc12) ?_
    replace hB := hB.set 4 (x := ⟨p6, s, 91⟩) rfl c12
    simp only [List.set_cons_zero, List.set_cons_succ] at hB
    generalize World.setRow _ _ _ = v103_ at *
    simp only [nrm]
    refine wpList_nil ?_
    go_upto_region 6 with fail
    refine wp_region_lit ?_
    refine list_val (.int .i64 z) (by kernel_rfl) (by kernel_rfl) ?_
    simp only [nrm]
    refine list_val (.agg y) (by kernel_rfl) (exec_arr _ 91 (.tmp 5) rfl (w.heap.size + 1 + 1 + 1) (by kernel_rfl) y 91 _ (hB.get 3 (x := ⟨w.heap.size + 1 + 1 + 1, y, 91⟩) rfl) Tryd.underlying91 rfl (by rw [Tryd.infoElem, EC.size _ hy])) ?_
    simp only [nrm]
    refine list_val (.agg t) (by kernel_rfl) (exec_arr _ 91 (.tmp 7) rfl p7 (by kernel_rfl) t 91 _ (hB.get 5 (x := ⟨p7, t, 91⟩) rfl) Tryd.underlying91 rfl (by rw [Tryd.infoElem, EC.size _ ht])) ?_
    simp only [nrm]
    refine list_call 78 #[.int .i64 z, .agg y, .agg t] (by kernel_rfl) (by kernel_rfl) ((swap_b (unhide hz) hy ht _).mono ?_)
    rintro r v104_ ⟨c13, c14, rfl, hc13, hc14, hg⟩
    refine ⟨_, rfl, ?_⟩
    replace hB := hB.more hg
    clear hg
    simp only [nrm]
    refine list_val (.tuple #[.agg c13, .agg c14]) (by kernel_rfl) (by kernel_rfl) ?_
    simp only [nrm]
    refine list_val (.agg c13) (by kernel_rfl) (by kernel_rfl) ?_
    simp only [nrm]
    refine list_val (.agg c14) (by kernel_rfl) (by kernel_rfl) ?_
    simp only [nrm]
    refine list_store 91 (.tmp 5) (.tmp 35) (w.heap.size + 1 + 1 + 1) c13 91 y (by kernel_rfl) rfl (by kernel_rfl) (by kernel_rfl) (hB.get 3 (x := ⟨w.heap.size + 1 + 1 + 1, y, 91⟩) rfl) (by rw [Tryd.infoElem, EC.size _ hc13]) ((EC.size _ hy).trans (EC.size _ hc13).symm) (EC.one _ hc13) ?_
    replace hB := hB.set 3 (x := ⟨w.heap.size + 1 + 1 + 1, y, 91⟩) rfl c13
    simp only [List.set_cons_zero, List.set_cons_succ] at hB
    generalize World.setRow _ _ _ = v105_ at *
    simp only [nrm]
    refine list_store 91 (.tmp 7) (.tmp 36) p7 c14 91 t (by kernel_rfl) rfl (by kernel_rfl) (by kernel_rfl) (hB.get 5 (x := ⟨p7, t, 91⟩) rfl) (by rw [Tryd.infoElem, EC.size _ hc14]) ((EC.size _ ht).trans (EC.size _ hc14).symm) (EC.one _ hc14) ?_
    replace hB := hB.set 5 (x := ⟨p7, t, 91⟩) rfl c14
    simp only [List.set_cons_zero, List.set_cons_succ] at hB
    generalize World.setRow _ _ _ = v106_ at *
    simp only [nrm]
    refine wpList_nil ?_
    go_upto_region 7 with fail
    refine wp_region_lit ?_
    refine list_val (.agg c1) (by kernel_rfl) (exec_arr _ 91 (.tmp 3) rfl (w.heap.size + 1) (by kernel_rfl) c1 91 _ (hB.get 1 (x := ⟨w.heap.size + 1, c1, 91⟩) rfl) Tryd.underlying91 rfl (by rw [Tryd.infoElem, EC.size _ h1])) ?_
    simp only [nrm]
    refine list_val (.agg c11) (by kernel_rfl) (exec_arr _ 91 (.tmp 4) rfl (w.heap.size + 1 + 1) (by kernel_rfl) c11 91 _ (hB.get 2 (x := ⟨w.heap.size + 1 + 1, c11, 91⟩) rfl) Tryd.underlying91 rfl (by rw [Tryd.infoElem, EC.size _ hc11])) ?_
    simp only [nrm]
    refine list_val (.agg c13) (by kernel_rfl) (exec_arr _ 91 (.tmp 5) rfl (w.heap.size + 1 + 1 + 1) (by kernel_rfl) c13 91 _ (hB.get 3 (x := ⟨w.heap.size + 1 + 1 + 1, c13, 91⟩) rfl) Tryd.underlying91 rfl (by rw [Tryd.infoElem, EC.size _ hc13])) ?_
    simp only [nrm]
    refine list_val (.agg c12) (by kernel_rfl) (exec_arr _ 91 (.tmp 6) rfl p6 (by kernel_rfl) c12 91 _ (hB.get 4 (x := ⟨p6, c12, 91⟩) rfl) Tryd.underlying91 rfl (by rw [Tryd.infoElem, EC.size _ hc12])) ?_
    simp only [nrm]
    refine list_val (.agg c14) (by kernel_rfl) (exec_arr _ 91 (.tmp 7) rfl p7 (by kernel_rfl) c14 91 _ (hB.get 5 (x := ⟨p7, c14, 91⟩) rfl) Tryd.underlying91 rfl (by rw [Tryd.infoElem, EC.size _ hc14])) ?_
    simp only [nrm]
    refine list_call 79 #[.agg c1, .agg c11, .agg c13, .agg c12, .agg c14] (by kernel_rfl) (by kernel_rfl) ((step_ec h1 hc11 hc13 hc12 hc14 _).mono ?_)
    rintro r v107_ ⟨c15, c16, c17, c18, rfl, hc15, hc16, hc17, hc18, hg⟩
    refine ⟨_, rfl, ?_⟩
    replace hB := hB.more hg
    clear hg
    simp only [nrm]
    refine list_val (.tuple #[.agg c15, .agg c16, .agg c17, .agg c18]) (by kernel_rfl) (by kernel_rfl) ?_
    simp only [nrm]
    refine list_val (.agg c15) (by kernel_rfl) (by kernel_rfl) ?_
    simp only [nrm]
    refine list_val (.agg c16) (by kernel_rfl) (by kernel_rfl) ?_
    simp only [nrm]
    refine list_val (.agg c17) (by kernel_rfl) (by kernel_rfl) ?_
    simp only [nrm]
    refine list_val (.agg c18) (by kernel_rfl) (by kernel_rfl) ?_
    simp only [nrm]
    refine list_store 91 (.tmp 4) (.tmp 44) (w.heap.size + 1 + 1) c15 91 c11 (by kernel_rfl) rfl (by kernel_rfl) (by kernel_rfl) (hB.get 2 (x := ⟨w.heap.size + 1 + 1, c11, 91⟩) rfl) (by rw [Tryd.infoElem, EC.size _ hc15]) ((EC.size _ hc11).trans (EC.size _ hc15).symm) (EC.one _ hc15) ?_
    replace hB := hB.set 2 (x := ⟨w.heap.size + 1 + 1, c11, 91⟩) rfl c15
    simp only [List.set_cons_zero, List.set_cons_succ] at hB
    generalize World.setRow _ _ _ = v108_ at *
    simp only [nrm]
    refine list_store 91 (.tmp 5) (.tmp 45) (w.heap.size + 1 + 1 + 1) c16 91 c13 (by kernel_rfl) rfl (by kernel_rfl) (by kernel_rfl) (hB.get 3 (x := ⟨w.heap.size + 1 + 1 + 1, c13, 91⟩) rfl) (by rw [Tryd.infoElem, EC.size _ hc16]) ((EC.size _ hc13).trans (EC.size _ hc16).symm) (EC.one _ hc16) ?_
    replace hB := hB.set 3 (x := ⟨w.heap.size + 1 + 1 + 1, c13, 91⟩) rfl c16
    simp only [List.set_cons_zero, List.set_cons_succ] at hB
    generalize World.setRow _ _ _ = v109_ at *
    simp only [nrm]
    refine list_store 91 (.tmp 6) (.tmp 46) p6 c17 91 c12 (by kernel_rfl) rfl (by kernel_rfl) (by kernel_rfl) (hB.get 4 (x := ⟨p6, c12, 91⟩) rfl) (by rw [Tryd.infoElem, EC.size _ hc17]) ((EC.size _ hc12).trans (EC.size _ hc17).symm) (EC.one _ hc17) ?_
    replace hB := hB.set 4 (x := ⟨p6, c12, 91⟩) rfl c17
    simp only [List.set_cons_zero, List.set_cons_succ] at hB
    generalize World.setRow _ _ _ = v110_ at *
    simp only [nrm]
    refine list_store 91 (.tmp 7) (.tmp 47) p7 c18 91 c14 (by kernel_rfl) rfl (by kernel_rfl) (by kernel_rfl) (hB.get 5 (x := ⟨p7, c14, 91⟩) rfl) (by rw [Tryd.infoElem, EC.size _ hc18]) ((EC.size _ hc14).trans (EC.size _ hc18).symm) (EC.one _ hc18) ?_
    replace hB := hB.set 5 (x := ⟨p7, c14, 91⟩) rfl c18
    simp only [List.set_cons_zero, List.set_cons_succ] at hB
    generalize World.setRow _ _ _ = v111_ at *
    simp only [nrm]
    refine wpList_nil ?_
    go_upto_region 8 with fail
    refine wp_region_lit ?_
    refine list_val (.int .i64 z) (by kernel_rfl) (by kernel_rfl) ?_
    simp only [nrm]
    refine list_val (.agg c15) (by kernel_rfl) (exec_arr _ 91 (.tmp 4) rfl (w.heap.size + 1 + 1) (by kernel_rfl) c15 91 _ (hB.get 2 (x := ⟨w.heap.size + 1 + 1, c15, 91⟩) rfl) Tryd.underlying91 rfl (by rw [Tryd.infoElem, EC.size _ hc15])) ?_
    simp only [nrm]
    refine list_val (.agg c17) (by kernel_rfl) (exec_arr _ 91 (.tmp 6) rfl p6 (by kernel_rfl) c17 91 _ (hB.get 4 (x := ⟨p6, c17, 91⟩) rfl) Tryd.underlying91 rfl (by rw [Tryd.infoElem, EC.size _ hc17])) ?_
    simp only [nrm]
    refine list_call 78 #[.int .i64 z, .agg c15, .agg c17] (by kernel_rfl) (by kernel_rfl) ((swap_b (unhide hz) hc15 hc17 _).mono ?_)
    rintro r v112_ ⟨c19, c20, rfl, hc19, hc20, hg⟩
    refine ⟨_, rfl, ?_⟩
    replace hB := hB.more hg
    clear hg
    simp only [nrm]
    refine list_val (.tuple #[.agg c19, .agg c20]) (by kernel_rfl) (by kernel_rfl) ?_
    simp only [nrm]
    refine list_val (.agg c19) (by kernel_rfl) (by kernel_rfl) ?_
    simp only [nrm]
    refine list_val (.agg c20) (by kernel_rfl) (by kernel_rfl) ?_
    simp only [nrm]
    refine list_store 91 (.tmp 4) (.tmp 53) (w.heap.size + 1 + 1) c19 91 c15 (by kernel_rfl) rfl (by kernel_rfl) (by kernel_rfl) (hB.get 2 (x := ⟨w.heap.size + 1 + 1, c15, 91⟩) rfl) (by rw [Tryd.infoElem, EC.size _ hc19]) ((EC.size _ hc15).trans (EC.size _ hc19).symm) (EC.one _ hc19) ?_
    replace hB := hB.set 2 (x := ⟨w.heap.size + 1 + 1, c15, 91⟩) rfl c19
    simp only [List.set_cons_zero, List.set_cons_succ] at hB
    generalize World.setRow _ _ _ = v113_ at *
    simp only [nrm]
    refine list_store 91 (.tmp 6) (.tmp 54) p6 c20 91 c17 (by kernel_rfl) rfl (by kernel_rfl) (by kernel_rfl) (hB.get 4 (x := ⟨p6, c17, 91⟩) rfl) (by rw [Tryd.infoElem, EC.size _ hc20]) ((EC.size _ hc17).trans (EC.size _ hc20).symm) (EC.one _ hc20) ?_
    replace hB := hB.set 4 (x := ⟨p6, c17, 91⟩) rfl c20
    simp only [List.set_cons_zero, List.set_cons_succ] at hB
    generalize World.setRow _ _ _ = v114_ at *
    simp only [nrm]
    refine wpList_nil ?_
    go_upto_region 9 with fail
    refine wp_region_lit ?_
    refine list_val (.int .i64 z) (by kernel_rfl) (by kernel_rfl) ?_
    simp only [nrm]
    refine list_val (.agg c16) (by kernel_rfl) (exec_arr _ 91 (.tmp 5) rfl (w.heap.size + 1 + 1 + 1) (by kernel_rfl) c16 91 _ (hB.get 3 (x := ⟨w.heap.size + 1 + 1 + 1, c16, 91⟩) rfl) Tryd.underlying91 rfl (by rw [Tryd.infoElem, EC.size _ hc16])) ?_
    simp only [nrm]
    refine list_val (.agg c18) (by kernel_rfl) (exec_arr _ 91 (.tmp 7) rfl p7 (by kernel_rfl) c18 91 _ (hB.get 5 (x := ⟨p7, c18, 91⟩) rfl) Tryd.underlying91 rfl (by rw [Tryd.infoElem, EC.size _ hc18])) ?_
    simp only [nrm]
    refine list_call 78 #[.int .i64 z, .agg c16, .agg c18] (by kernel_rfl) (by kernel_rfl) ((swap_b (unhide hz) hc16 hc18 _).mono ?_)
    rintro r v115_ ⟨c21, c22, rfl, hc21, hc22, hg⟩
    refine ⟨_, rfl, ?_⟩
    replace hB := hB.more hg
    clear hg
    simp only [nrm]
    refine list_val (.tuple #[.agg c21, .agg c22]) (by kernel_rfl) (by kernel_rfl) ?_
    simp only [nrm]
    refine list_val (.agg c21) (by kernel_rfl) (by kernel_rfl) ?_
    simp only [nrm]
    refine list_val (.agg c22) (by kernel_rfl) (by kernel_rfl) ?_
    simp only [nrm]
    refine list_store 91 (.tmp 5) (.tmp 60) (w.heap.size + 1 + 1 + 1) c21 91 c16 (by kernel_rfl) rfl (by kernel_rfl) (by kernel_rfl) (hB.get 3 (x := ⟨w.heap.size + 1 + 1 + 1, c16, 91⟩) rfl) (by rw [Tryd.infoElem, EC.size _ hc21]) ((EC.size _ hc16).trans (EC.size _ hc21).symm) (EC.one _ hc21) ?_
    replace hB := hB.set 3 (x := ⟨w.heap.size + 1 + 1 + 1, c16, 91⟩) rfl c21
    simp only [List.set_cons_zero, List.set_cons_succ] at hB
    generalize World.setRow _ _ _ = v116_ at *
    simp only [nrm]
    refine list_store 91 (.tmp 7) (.tmp 61) p7 c22 91 c18 (by kernel_rfl) rfl (by kernel_rfl) (by kernel_rfl) (hB.get 5 (x := ⟨p7, c18, 91⟩) rfl) (by rw [Tryd.infoElem, EC.size _ hc22]) ((EC.size _ hc18).trans (EC.size _ hc22).symm) (EC.one _ hc22) ?_
    replace hB := hB.set 5 (x := ⟨p7, c18, 91⟩) rfl c22
    simp only [List.set_cons_zero, List.set_cons_succ] at hB
    generalize World.setRow _ _ _ = v117_ at *
    simp only [nrm]
    refine wpList_nil ?_
    replace hc19 : EC (Ed.lad u (Ed.hi M (254 - j + 1))).a c19 := by
      rw [lad_next u M j hj]
      revert hc19
      generalize Ed.bt M j = tb
      generalize Ed.lad u (Ed.hi M (254 - j)) = S
      cases tb
      · exact id
      · intro h
        have h2 : EC (Ed.sX S.c S.d S.a S.b) c19 := h
        rw [sx_sym] at h2
        exact h2
    replace hc21 : EC (Ed.lad u (Ed.hi M (254 - j + 1))).b c21 := by
      rw [lad_next u M j hj]
      revert hc21
      generalize Ed.bt M j = tb
      generalize Ed.lad u (Ed.hi M (254 - j)) = S
      cases tb
      · exact id
      · intro h
        have h2 : EC (Ed.sZ u S.c S.d S.a S.b) c21 := h
        rw [sz_sym] at h2
        exact h2
    replace hc20 : EC (Ed.lad u (Ed.hi M (254 - j + 1))).c c20 := by
      rw [lad_next u M j hj]
      revert hc20
      generalize Ed.bt M j = tb
      generalize Ed.lad u (Ed.hi M (254 - j)) = S
      cases tb
      · exact id
      · exact id
    replace hc22 : EC (Ed.lad u (Ed.hi M (254 - j + 1))).d c22 := by
      rw [lad_next u M j hj]
      revert hc22
      generalize Ed.bt M j = tb
      generalize Ed.lad u (Ed.hi M (254 - j)) = S
      cases tb
      · exact id
      · exact id
    clear hx hy hs ht hc11 hc12 hc13 hc14 hc15 hc16 hc17 hc18
    by_cases h0 : j = 0
    · subst h0
      go_upto_region 12 with fail
      refine any_start (S := fun v => v.heap[w.heap.size + 1 + 1]? = some (.cells c19 91 (0, 0)) ∧ v.heap[w.heap.size + 1 + 1 + 1]? = some (.cells c21 91 (0, 0)) ∧ True) (by kernel_rfl) ?_
      replace hB := hB.drew
      generalize World.drew _ = v118_ at *
      simp only [List.size_toArray, List.length_cons, List.length_nil, Array.replicate, List.replicate]
      refine any_take (i := 0) (v := (.agg c19)) #[false, false, false, false] rfl (by kernel_rfl) (by kernel_rfl) (by kernel_rfl) (by kernel_rfl) (fun _ _ _ h => h) (.inl ⟨by kernel_rfl, fun x hu => exec_arr x 91 (.tmp 4) rfl (w.heap.size + 1 + 1) (by kernel_rfl) c19 91 _ hu.1 Tryd.underlying91 rfl (by rw [Tryd.infoElem, EC.size _ hc19])⟩) ⟨(hB.get 2 (x := ⟨w.heap.size + 1 + 1, c19, 91⟩) rfl), (hB.get 3 (x := ⟨w.heap.size + 1 + 1 + 1, c21, 91⟩) rfl), trivial⟩ ?_
      simp only [nrm]
      refine any_take (i := 1) (v := (.agg c21)) #[true, false, false, false] rfl (by kernel_rfl) (by kernel_rfl) (by kernel_rfl) (by kernel_rfl) (fun _ _ _ h => h) (.inl ⟨by kernel_rfl, fun x hu => exec_arr x 91 (.tmp 5) rfl (w.heap.size + 1 + 1 + 1) (by kernel_rfl) c21 91 _ hu.2.1 Tryd.underlying91 rfl (by rw [Tryd.infoElem, EC.size _ hc21])⟩) ⟨(hB.get 2 (x := ⟨w.heap.size + 1 + 1, c19, 91⟩) rfl), (hB.get 3 (x := ⟨w.heap.size + 1 + 1 + 1, c21, 91⟩) rfl), trivial⟩ ?_
      simp only [nrm]
      refine any_one (i := 2) (by kernel_rfl) rfl (fun K hK => ?_)
      rw [if_pos (by kernel_rfl)]
      refine wp_store_row 91 (.tmp 4) (.tmp 66) rfl (w.heap.size + 1 + 1) c19 (by kernel_rfl) (by kernel_rfl) 91 c19 (hB.get 2 (x := ⟨w.heap.size + 1 + 1, c19, 91⟩) rfl) (by rw [Tryd.infoElem, EC.size _ hc19]) ((EC.size _ hc19).trans (EC.size _ hc19).symm) (EC.one _ hc19) ?_
      replace hB := hB.set 2 (x := ⟨w.heap.size + 1 + 1, c19, 91⟩) rfl c19
      simp only [List.set_cons_zero, List.set_cons_succ] at hB
      refine hK.out _ _ ⟨(hB.get 2 (x := ⟨w.heap.size + 1 + 1, c19, 91⟩) rfl), (hB.get 3 (x := ⟨w.heap.size + 1 + 1 + 1, c21, 91⟩) rfl), trivial⟩ (fun _ => ?_)
      clear hK K
      generalize World.setRow _ _ _ = v119_ at *
      simp only [nrm]
      refine any_one (i := 3) (by kernel_rfl) rfl (fun K hK => ?_)
      rw [if_pos (by kernel_rfl)]
      refine wp_store_row 91 (.tmp 5) (.tmp 67) rfl (w.heap.size + 1 + 1 + 1) c21 (by kernel_rfl) (by kernel_rfl) 91 c21 (hB.get 3 (x := ⟨w.heap.size + 1 + 1 + 1, c21, 91⟩) rfl) (by rw [Tryd.infoElem, EC.size _ hc21]) ((EC.size _ hc21).trans (EC.size _ hc21).symm) (EC.one _ hc21) ?_
      replace hB := hB.set 3 (x := ⟨w.heap.size + 1 + 1 + 1, c21, 91⟩) rfl c21
      simp only [List.set_cons_zero, List.set_cons_succ] at hB
      refine hK.out _ _ ⟨(hB.get 2 (x := ⟨w.heap.size + 1 + 1, c19, 91⟩) rfl), (hB.get 3 (x := ⟨w.heap.size + 1 + 1 + 1, c21, 91⟩) rfl), trivial⟩ (fun _ => ?_)
      clear hK K
      generalize World.setRow _ _ _ = v120_ at *
      simp only [nrm]
      refine any_done (by kernel_rfl) ?_
      have hG := hB.gr
      have hr0 := (hB.get 2 (x := ⟨w.heap.size + 1 + 1, c19, 91⟩) rfl)
      have hh0 := hc19
      obtain ⟨c19_0, c19_1, c19_2, c19_3, c19_4, e0, _⟩ := hc19
      rw [e0] at hr0
      have p00 := cell_of (i := 0) hr0 rfl
      have p01 := cell_of (i := 1) hr0 rfl
      have p02 := cell_of (i := 2) hr0 rfl
      have p03 := cell_of (i := 3) hr0 rfl
      have p04 := cell_of (i := 4) hr0 rfl
      have hr1 := (hB.get 3 (x := ⟨w.heap.size + 1 + 1 + 1, c21, 91⟩) rfl)
      have hh1 := hc21
      obtain ⟨c21_0, c21_1, c21_2, c21_3, c21_4, e1, _⟩ := hc21
      rw [e1] at hr1
      have p10 := cell_of (i := 0) hr1 rfl
      have p11 := cell_of (i := 1) hr1 rfl
      have p12 := cell_of (i := 2) hr1 rfl
      have p13 := cell_of (i := 3) hr1 rfl
      have p14 := cell_of (i := 4) hr1 rfl
      clear hB
      go_wp2_with fail
      simp only [Exit.jump]
      refine bodyPost_ret (v := .tuple #[.agg #[.int .u64 c19_0, .int .u64 c19_1, .int .u64 c19_2, .int .u64 c19_3, .int .u64 c19_4], .agg #[.int .u64 c21_0, .int .u64 c21_1, .int .u64 c21_2, .int .u64 c21_3, .int .u64 c21_4]]) ?_ rfl ?_
      · simp [results, Tryd.results61, go_sem, p00, p01, p02, p03, p04, p10, p11, p12, p13, p14]
      · rw [← e0, ← e1]
        exact ⟨_, _, rfl, hh0, hh1, hG⟩
    · obtain ⟨i, rfl⟩ : ∃ i, j = i + 1 := ⟨j - 1, by omega⟩
      rw [show 254 - (i + 1) + 1 = 254 - i from by omega] at hc19
      rw [show 254 - (i + 1) + 1 = 254 - i from by omega] at hc21
      rw [show 254 - (i + 1) + 1 = 254 - i from by omega] at hc20
      rw [show 254 - (i + 1) + 1 = 254 - i from by omega] at hc22
      go_wp2_with fail
      go_step3
      refine (⟨rfl, ⟨i, z, p6, p7, c19, c21, c20, c22, _, _, _, _, _, _, _, _, _, _, _, _, _, _, _, _, _, _, _, _, _, _, _, _, _, _, _, _, _, _, _, _, _, _, _, _, _, _, _, _, _, _, _, _, _, _, _, _, _, _, _, _, _, _, _, _, _, _, by omega, rfl, hB, hc19, hc21, hc20, hc22⟩, ?_⟩ : 0 = 0 ∧ LJ w u M c1 _ _ ∧ (_ : Nat) < _)
      simp [intOf]
end Go.Proofs.YtpmgmpihmpifgaaDoor.Cv
