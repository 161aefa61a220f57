/-
  Of layer 11: what the proofs lean on.
-/
import Derived.Test.YtomihjeiaignnaaDoorG3
namespace Go.Proofs.YtomihjeiaignnaaDoor
open Go.RowKit
set_option maxRecDepth 100000
set_option linter.unusedSimpArgs false
set_option linter.unusedVariables false
theorem ob_bt {b : Nat} {u u' : World} {v : Value} {L : List Int} (h : Ob b u v L) {g : Nat} {c : Array Value} {t : TypeId} (hg : u.heap[g]? = some (.cells c t (0, 0))) (ht : t ≠ 5) (hk : Bt g u u') : Ob b u' v L := by
  refine ⟨h.1, ?_⟩
  rcases h.2 with h1 | ⟨p, cap, cur, h1, h2, h3, h4⟩
  · exact .inl h1
  · exact .inr ⟨p, cap, cur, h1, h2, hk.blk h3 (ty_ne h3 hg (Ne.symm ht)), h4⟩
theorem ob_lb2 {b : Nat} {w : World} {a : Option Addr} {n c : Nat} {L : List Int} (h : Ob b w (.slice a n c) L) (hb : IsB L) (hn : L.length = n) : Lb w a n c L := by
  obtain ⟨a', c', e, h2⟩ := ob_lb h hb hn
  injection e with e1 e2 e3
  rw [e1, e3]
  exact h2
theorem exec_eqsv {a : Act} {o : Oper} (w : World) (x : Operand) (b : List Int) (hb : IsB b) (v : Bool) (hv : v = decide (b = htr)) (ho : o.op = .binOp .eql 9 x (.const (.string ⟨#[104, 111, 108, 108, 111, 119, 116, 114, 101, 101]⟩)) 9) (hx : a.eval x = .string ⟨(b.map fun y => UInt8.ofNat y.toNat).toArray⟩) :
    (execOp a.eval o).run Tryd.prog w = .ok (.value (.bool v)) w := hv ▸ exec_eqs w x b hb ho hx
theorem exec_eq0 {a : Act} {o : Oper} (w : World) (x : Operand) (ho : o.op = .binOp .eql 5 x (.const (.int .u8 0)) 5) (y : Int) (hx : a.eval x = .int .u8 y) : (execOp a.eval o).run Tryd.prog w = .ok (.value (.bool (decide (y = 0)))) w := by
  unfold execOp
  simp only [ho, hx]
  go_simp
  rfl
def zrB (b : List Int) : Nat → Bool
  | 0 => decide (b.getD 11 0 = 0)
  | k + 1 => zrB b k && decide (b.getD (40 + k) 0 = 0)
theorem zrB_iff (b : List Int) : ∀ k, zrB b k = true ↔ b.getD 11 0 = 0 ∧ ∀ j, j < k → b.getD (40 + j) 0 = 0
  | 0 => by unfold zrB; simp
  | k + 1 => by
    unfold zrB
    rw [Bool.and_eq_true, zrB_iff b k, decide_eq_true_eq]
    constructor
    · rintro ⟨⟨h1, h2⟩, h3⟩
      refine ⟨h1, fun j hj => ?_⟩
      by_cases e : j = k
      · rw [e]; exact h3
      · exact h2 j (by omega)
    · rintro ⟨h1, h2⟩
      exact ⟨⟨h1, fun j hj => h2 j (by omega)⟩, h2 k (by omega)⟩
theorem zrB_eight {b : List Int} (hl : b.length = 64) : (zrB b 8 = true) ↔ (b.getD 11 0 = 0 ∧ (b.drop 40).take 8 = List.replicate 8 0) := by
  rw [zrB_iff]
  have e : (∀ j, j < 8 → b.getD (40 + j) 0 = 0) ↔ (b.drop 40).take 8 = List.replicate 8 0 := by
    constructor
    · intro h
      refine list_ext (by rw [List.length_take, List.length_drop]; simp; omega) fun i hi => ?_
      rw [List.length_take, List.length_drop] at hi
      have h1 := h i (by omega)
      rw [List.getD_eq_getElem?_getD] at h1
      rw [List.getD_eq_getElem?_getD, List.getElem?_take, if_pos (by omega), List.getElem?_drop, h1, List.getD_eq_getElem?_getD, List.getElem?_replicate, if_pos (by omega)]
      rfl
    · intro h j hj
      have h1 : ((b.drop 40).take 8).getD j 0 = (List.replicate 8 (0 : Int)).getD j 0 := by rw [h]
      rw [List.getD_eq_getElem?_getD, List.getElem?_take, if_pos hj, List.getElem?_drop] at h1
      rw [List.getD_eq_getElem?_getD, h1, List.getD_eq_getElem?_getD, List.getElem?_replicate, if_pos hj]
      rfl
  rw [e]
theorem rightB_is {b : List Int} (hl : b.length = 64) : rightB b = (((decide (b.take 10 = htr) && decide (b.getD 10 0 < 2)) && zrB b 8) && decide (b.drop 48 = sh16 (b.take 48))) := by
  unfold rightB
  have h := zrB_eight hl
  cases hz : zrB b 8 with
  | true =>
    have h2 := h.1 hz
    by_cases h1 : b.take 10 = htr <;> by_cases h3 : b.getD 10 0 < 2 <;> by_cases h4 : b.drop 48 = sh16 (b.take 48) <;> simp [h1, h2, h3, h4, -List.getD_eq_getElem?_getD]
  | false =>
    have h2 : ¬ (b.getD 11 0 = 0 ∧ (b.drop 40).take 8 = List.replicate 8 0) := fun e => by rw [h.2 e] at hz; cases hz
    rw [decide_eq_false (fun e => h2 e.2.2.1)]
    simp
set_option maxHeartbeats 4000000 in
theorem rsup_ok (b : List Int) (hb : BB b) (w : World) : Calls Tryd.prog 53 #[.agg (kc b)] w (Rsu b w) := by
  obtain ⟨T, hT⟩ : ∃ T, T = Rsu b w := ⟨_, rfl⟩
  rw [← hT]
  replace hT := hide hT
  obtain ⟨SK, hSK⟩ : ∃ X, X = kc b := ⟨_, rfl⟩
  rw [← hSK]
  obtain ⟨n1, n2, n3, n4, n5, n6, n7, n8⟩ := sup_nums hb
  have hbl := hb.1
  have hbb := hb.2
  have h10 := byte_mem hbb 10
  have m10 : Hid (b.getD 10 0 = ((supOf b).place : Int)) := n1.symm
  obtain ⟨X0, hX0⟩ : ∃ x, x = (supOf b).place := ⟨_, rfl⟩
  obtain ⟨X1, hX1⟩ : ∃ x, x = (supOf b).turn := ⟨_, rfl⟩
  obtain ⟨X2, hX2⟩ : ∃ x, x = (supOf b).size := ⟨_, rfl⟩
  obtain ⟨H, hH⟩ : ∃ x, x = (supOf b).hash := ⟨_, rfl⟩
  rw [← hX0] at n1 m10
  rw [← hX1] at n2
  rw [← hX2] at n3
  rw [← hH] at n4
  have hHl : H.length = 16 := by rw [n4, List.length_take, List.length_drop]; omega
  have hHb : IsB H := by rw [n4]; exact fun x hx => hbb x (List.mem_of_mem_drop (List.mem_of_mem_take hx))
  have w0 : IntKind.i64.wrap (X0 : Int) = (X0 : Int) := by rw [IntKind.wrap_i64]; omega
  have w2 : IntKind.i64.wrap (X2 : Int) = (X2 : Int) := by rw [IntKind.wrap_i64]; omega
  replace n1 := hide n1; replace n2 := hide n2; replace n3 := hide n3; replace n4 := hide n4; replace hX0 := hide hX0; replace hX1 := hide hX1; replace hX2 := hide hX2; replace hH := hide hH; replace hb := hide hb; replace hbb := hide hbb; replace hHb := hide hHb; replace hSK := hide hSK
  clear n5 n6 n7 n8
  go_enter Tryd.func53, Tryd.ntmps53
  go_upto_region 1 with fail
  have hB := (((Bl.nil w).new SK 50).new #[.int .i64 0, .int .u64 0, .int .i64 0, .slice none 0 0, .bool false] 62)
  simp only [size_alloc, List.nil_append, List.cons_append] at hB
  generalize World.alloc _ _ = u at *
  rw [unhide hSK] at hB
  replace hB : Bl w [⟨w.heap.size, kc b, 50⟩, ⟨w.heap.size + 1, ZSu, 62⟩] u := hB
  replace h10 := hide h10
  refine any_start (S := fun v => Bl w [⟨w.heap.size, kc b, 50⟩, ⟨w.heap.size + 1, ZSu, 62⟩] v) (by kernel_rfl) ?_
  replace hB := hB.drew
  generalize World.drew _ = x0 at *
  simp only [List.size_toArray, List.length_cons, List.length_nil, Array.replicate, List.replicate]
  refine any_take (i := 0) (v := (.pointer (some ⟨w.heap.size, 10, none⟩))) #[false, false, false, false, false, false, false, false, false, false, false, false, false] rfl (by kernel_rfl) (by kernel_rfl) (by kernel_rfl) (by kernel_rfl) (fun _ _ _ h => h) (.inl ⟨by kernel_rfl, fun x_ hu => by kernel_rfl⟩) hB ?_
  simp only [Act.put, List.setIfInBounds_toArray, List.set_cons_zero, List.set_cons_succ, List.getElem_toArray, List.getElem_cons_zero, List.getElem_cons_succ]
  refine any_take (i := 1) (v := (.int .u8 (X0 : Int))) #[true, false, false, false, false, false, false, false, false, false, false, false, false] rfl (by kernel_rfl) (by kernel_rfl) (by kernel_rfl) (by kernel_rfl) (fun _ _ _ h => h) (.inl ⟨by kernel_rfl, fun x_ hu => exec_b _ (.tmp 6) rfl (w.heap.size) 10 (by kernel_rfl) _ (by rw [← unhide m10]; exact kc_cell (hu.get 0 (x := ⟨w.heap.size, kc b, 50⟩) rfl) 10 (by show 10 < b.length; omega))⟩) hB ?_
  simp only [Act.put, List.setIfInBounds_toArray, List.set_cons_zero, List.set_cons_succ, List.getElem_toArray, List.getElem_cons_zero, List.getElem_cons_succ]
  refine any_take (i := 2) (v := (.int .i64 (X0 : Int))) #[true, true, false, false, false, false, false, false, false, false, false, false, false] rfl (by kernel_rfl) (by kernel_rfl) (by kernel_rfl) (by kernel_rfl) (fun _ _ _ h => h) (.inl ⟨by kernel_rfl, fun x_ hu => by go_simp⟩) hB ?_
  simp only [Act.put, List.setIfInBounds_toArray, List.set_cons_zero, List.set_cons_succ, List.getElem_toArray, List.getElem_cons_zero, List.getElem_cons_succ]
  refine any_take (i := 3) (v := (.slice (some ⟨w.heap.size, 12, none⟩) 8 52)) #[true, true, true, false, false, false, false, false, false, false, false, false, false] rfl (by kernel_rfl) (by kernel_rfl) (by kernel_rfl) (by kernel_rfl) (fun _ _ _ h => h) (.inl ⟨by kernel_rfl, fun x_ hu => by kernel_rfl⟩) hB ?_
  simp only [Act.put, List.setIfInBounds_toArray, List.set_cons_zero, List.set_cons_succ, List.getElem_toArray, List.getElem_cons_zero, List.getElem_cons_succ]
  refine any_take (i := 5) (v := (.slice (some ⟨w.heap.size, 20, none⟩) 4 44)) #[true, true, true, true, false, false, false, false, false, false, false, false, false] rfl (by kernel_rfl) (by kernel_rfl) (by kernel_rfl) (by kernel_rfl) (fun _ _ _ h => h) (.inl ⟨by kernel_rfl, fun x_ hu => by kernel_rfl⟩) hB ?_
  simp only [Act.put, List.setIfInBounds_toArray, List.set_cons_zero, List.set_cons_succ, List.getElem_toArray, List.getElem_cons_zero, List.getElem_cons_succ]
  refine any_take (i := 8) (v := (.slice (some ⟨w.heap.size, 24, none⟩) 16 40)) #[true, true, true, true, false, true, false, false, false, false, false, false, false] rfl (by kernel_rfl) (by kernel_rfl) (by kernel_rfl) (by kernel_rfl) (fun _ _ _ h => h) (.inl ⟨by kernel_rfl, fun x_ hu => by kernel_rfl⟩) hB ?_
  simp only [Act.put, List.setIfInBounds_toArray, List.set_cons_zero, List.set_cons_succ, List.getElem_toArray, List.getElem_cons_zero, List.getElem_cons_succ]
  refine float_first (fun q u => NS (w.heap.size + 1 + 1) u q) 3 (fun b_ => #[true, true, true, true, false, true, false, false, true, false, false, b_, false]) 11 4 false rfl rfl (fun _ g_ => hB.more g_) (by kernel_rfl) (fun b_ => by cases b_ <;> rfl) ?_ ?_
  all_goals simp only [fw1, Act.put, List.setIfInBounds_toArray, List.set_cons_zero, List.set_cons_succ, List.getElem_toArray, List.getElem_cons_zero, List.getElem_cons_succ]
  · intro q_ x_ hgx K_ hQ
    refine wpOp_step (o := _) rfl (fun K' hK' => ?_)
    replace hK' := hide hK'
    replace hQ := hide hQ
    refine step_val (.pointer (some ⟨x_.heap.size, 0, none⟩)) (x_.alloc (.cells ZSu 62 (0, 0))) (by kernel_rfl) (by kernel_rfl) ?_
    exact unhide hK' _ _ (unhide hQ _ _ ((Gr.refl _).alloc _) (⟨_, rfl, Nat.le_trans (Nat.succ_le_of_lt (lt_of_block (hB.get 1 (x := ⟨w.heap.size + 1, ZSu, 62⟩) rfl))) hgx.size, blk_new _ _⟩))
  intro b1_4 q1_4 x1_4 hg hTq hall
  replace hB := hB.more hg
  first | replace hlh := hlh.gr hg | skip
  clear hall
  refine wpOp_step (o := _) rfl (fun K_ hQ => ?_)
  replace hQ := hide hQ
  refine step_callw (by kernel_rfl) 68 #[.slice (some ⟨w.heap.size, 12, none⟩) 8 52] (by kernel_rfl) ((rhigh_ok ((b.drop 12).take 8) _ 8 52 _ (sub_lb (hB.get 0 (x := ⟨w.heap.size, kc b, 50⟩) rfl) (unhide hbb) 12 8 52 (by omega) (by omega) (by omega)) (by omega)).mono ?_)
  rintro r x4 ⟨rfl, hg⟩
  refine ⟨_, rfl, ?_⟩
  replace hTq := fun e => NS.gr (hTq e) hg
  rw [← unhide n2]
  replace hB := hB.more hg
  clear hg
  refine unhide hQ _ _ ⟨hB, ?_⟩
  clear hQ K_
  simp only [Act.put, List.setIfInBounds_toArray, List.set_cons_zero, List.set_cons_succ, List.getElem_toArray, List.getElem_cons_zero, List.getElem_cons_succ]
  refine float_again (fun q u => NS (w.heap.size + 1 + 1) u q) 3 (fun b_ => #[true, true, true, true, true, true, false, false, true, false, false, b_, false]) 11 6 false (b := b1_4) (q := q1_4) rfl rfl hTq (fun _ g_ => hB.more g_) (by kernel_rfl) (fun b_ => by cases b_ <;> rfl) ?_ ?_
  all_goals simp only [fw1, Act.put, List.setIfInBounds_toArray, List.set_cons_zero, List.set_cons_succ, List.getElem_toArray, List.getElem_cons_zero, List.getElem_cons_succ]
  · intro q_ x_ hgx K_ hQ
    refine wpOp_step (o := _) rfl (fun K' hK' => ?_)
    replace hK' := hide hK'
    replace hQ := hide hQ
    refine step_val (.pointer (some ⟨x_.heap.size, 0, none⟩)) (x_.alloc (.cells ZSu 62 (0, 0))) (by kernel_rfl) (by kernel_rfl) ?_
    exact unhide hK' _ _ (unhide hQ _ _ ((Gr.refl _).alloc _) (⟨_, rfl, Nat.le_trans (Nat.succ_le_of_lt (lt_of_block (hB.get 1 (x := ⟨w.heap.size + 1, ZSu, 62⟩) rfl))) hgx.size, blk_new _ _⟩))
  clear hTq
  intro b1_6 q1_6 x1_6 hg hTq hall
  replace hB := hB.more hg
  first | replace hlh := hlh.gr hg | skip
  clear hall
  refine wpOp_step (o := _) rfl (fun K_ hQ => ?_)
  replace hQ := hide hQ
  refine step_callw (by kernel_rfl) 68 #[.slice (some ⟨w.heap.size, 20, none⟩) 4 44] (by kernel_rfl) ((rhigh_ok ((b.drop 20).take 4) _ 4 44 _ (sub_lb (hB.get 0 (x := ⟨w.heap.size, kc b, 50⟩) rfl) (unhide hbb) 20 4 44 (by omega) (by omega) (by omega)) (by omega)).mono ?_)
  rintro r x6 ⟨rfl, hg⟩
  refine ⟨_, rfl, ?_⟩
  replace hTq := fun e => NS.gr (hTq e) hg
  rw [← unhide n3]
  replace hB := hB.more hg
  clear hg
  refine unhide hQ _ _ ⟨hB, ?_⟩
  clear hQ K_
  simp only [Act.put, List.setIfInBounds_toArray, List.set_cons_zero, List.set_cons_succ, List.getElem_toArray, List.getElem_cons_zero, List.getElem_cons_succ]
  refine any_take (i := 7) (v := (.int .i64 (X2 : Int))) #[true, true, true, true, true, true, true, false, true, false, false, false, false] rfl (by kernel_rfl) (by kernel_rfl) (by kernel_rfl) (by kernel_rfl) (fun _ _ _ h => h) (.inl ⟨by kernel_rfl, fun x_ hu => by go_simp⟩) hB ?_
  simp only [Act.put, List.setIfInBounds_toArray, List.set_cons_zero, List.set_cons_succ, List.getElem_toArray, List.getElem_cons_zero, List.getElem_cons_succ]
  refine float_again (fun q u => NS (w.heap.size + 1 + 1) u q) 3 (fun b_ => #[true, true, true, true, true, true, true, true, true, false, false, b_, false]) 11 9 false (b := b1_6) (q := q1_6) rfl rfl hTq (fun _ g_ => hB.more g_) (by kernel_rfl) (fun b_ => by cases b_ <;> rfl) ?_ ?_
  all_goals simp only [fw1, Act.put, List.setIfInBounds_toArray, List.set_cons_zero, List.set_cons_succ, List.getElem_toArray, List.getElem_cons_zero, List.getElem_cons_succ]
  · intro q_ x_ hgx K_ hQ
    refine wpOp_step (o := _) rfl (fun K' hK' => ?_)
    replace hK' := hide hK'
    replace hQ := hide hQ
    refine step_val (.pointer (some ⟨x_.heap.size, 0, none⟩)) (x_.alloc (.cells ZSu 62 (0, 0))) (by kernel_rfl) (by kernel_rfl) ?_
    exact unhide hK' _ _ (unhide hQ _ _ ((Gr.refl _).alloc _) (⟨_, rfl, Nat.le_trans (Nat.succ_le_of_lt (lt_of_block (hB.get 1 (x := ⟨w.heap.size + 1, ZSu, 62⟩) rfl))) hgx.size, blk_new _ _⟩))
  clear hTq
  intro b1_9 q1_9 x1_9 hg hTq hall
  replace hB := hB.more hg
  first | replace hlh := hlh.gr hg | skip
  clear hall
  refine wpOp_step (o := _) rfl (fun K_ hQ => ?_)
  replace hQ := hide hQ
  refine step_callw (by kernel_rfl) 44 #[.slice (some ⟨w.heap.size, 24, none⟩) 16 40, .slice none 0 0] (by kernel_rfl) ((both_ok ((b.drop 24).take 16) [] _ none 16 40 0 0 (by omega) _ (sub_lb (hB.get 0 (x := ⟨w.heap.size, kc b, 50⟩) rfl) (unhide hbb) 24 16 40 (by omega) (by omega) (by omega)) (Lb.nil _)).mono ?_)
  rintro r x9 ⟨v9, rfl, hO, hg⟩
  refine ⟨_, rfl, ?_⟩
  replace hTq := fun e => NS.gr (hTq e) hg
  rw [List.append_nil, ← unhide n4] at hO
  have hO9 := ob_base hO hB.gr.size
  obtain ⟨ha, hc, rfl, -⟩ := ob_lb hO (unhide hHb) hHl
  have hlh := hO9
  have hfr := hide (ob_fr hO9 (Nat.le_refl _))
  replace hB := hB.more hg
  clear hg hO hO9
  refine unhide hQ _ _ ⟨hB, ?_⟩
  clear hQ K_
  simp only [Act.put, List.setIfInBounds_toArray, List.set_cons_zero, List.set_cons_succ, List.getElem_toArray, List.getElem_cons_zero, List.getElem_cons_succ]
  refine any_take (i := 10) (v := (.agg #[.int .i64 (X0 : Int), .int .u64 (X1 : Int), .int .i64 (X2 : Int), .slice ha 16 hc, .bool false])) #[true, true, true, true, true, true, true, true, true, true, false, false, false] rfl (by kernel_rfl) (by kernel_rfl) (by kernel_rfl) (by kernel_rfl) (fun _ _ _ h => h) (.inl ⟨by kernel_rfl, fun x_ hu => by kernel_rfl⟩) hB ?_
  simp only [Act.put, List.setIfInBounds_toArray, List.set_cons_zero, List.set_cons_succ, List.getElem_toArray, List.getElem_cons_zero, List.getElem_cons_succ]
  refine float_again (fun q u => NS (w.heap.size + 1 + 1) u q) 3 (fun b_ => #[true, true, true, true, true, true, true, true, true, true, true, b_, false]) 11 12 true (b := b1_9) (q := q1_9) rfl rfl hTq (fun _ g_ => hB.more g_) (by kernel_rfl) (fun b_ => by cases b_ <;> rfl) ?_ ?_
  all_goals simp only [fw1, Act.put, List.setIfInBounds_toArray, List.set_cons_zero, List.set_cons_succ, List.getElem_toArray, List.getElem_cons_zero, List.getElem_cons_succ]
  · intro q_ x_ hgx K_ hQ
    refine wpOp_step (o := _) rfl (fun K' hK' => ?_)
    replace hK' := hide hK'
    replace hQ := hide hQ
    refine step_val (.pointer (some ⟨x_.heap.size, 0, none⟩)) (x_.alloc (.cells ZSu 62 (0, 0))) (by kernel_rfl) (by kernel_rfl) ?_
    exact unhide hK' _ _ (unhide hQ _ _ ((Gr.refl _).alloc _) (⟨_, rfl, Nat.le_trans (Nat.succ_le_of_lt (lt_of_block (hB.get 1 (x := ⟨w.heap.size + 1, ZSu, 62⟩) rfl))) hgx.size, blk_new _ _⟩))
  clear hTq
  intro b1_12 q1_12 x1_12 hg hTq hall
  replace hB := hB.more hg
  first | replace hlh := hlh.gr hg | skip
  obtain rfl : b1_12 = true := hall (by trivial)
  replace hTq := hTq rfl
  clear hall
  obtain ⟨gs, rfl, hgs, hgb⟩ := hTq
  refine wpOp_step (o := _) rfl (fun K_ hQ => ?_)
  replace hQ := hide hQ
  rw [if_pos (by kernel_rfl)]
  refine wp_store_row 62 (.tmp 3) (.tmp 16) rfl gs (#[.int .i64 (X0 : Int), .int .u64 (X1 : Int), .int .i64 (X2 : Int), .slice ha 16 hc, .bool false]) (by kernel_rfl) (by kernel_rfl) 62 ZSu hgb (by rw [Tryd.infoSu]; rfl) rfl (by simp [Value.oneCell']) ?_
  have hB2 := hB.add ⟨gs, ZSu, 62⟩ hgb (show w.heap.size ≤ gs by omega) (by intro y hy; simp only [List.mem_cons, List.not_mem_nil, or_false] at hy; rcases hy with rfl | rfl; (show w.heap.size ≠ gs; omega); (show w.heap.size + 1 ≠ gs; omega))
  replace hB2 := hB2.set 2 (x := ⟨gs, ZSu, 62⟩) rfl (#[.int .i64 (X0 : Int), .int .u64 (X1 : Int), .int .i64 (X2 : Int), .slice ha 16 hc, .bool false])
  simp only [List.cons_append, List.nil_append, List.set_cons_zero, List.set_cons_succ] at hB2
  replace hB2 : Bl w [⟨w.heap.size, kc b, 50⟩, ⟨w.heap.size + 1, ZSu, 62⟩, ⟨gs, #[.int .i64 (X0 : Int), .int .u64 (X1 : Int), .int .i64 (X2 : Int), .slice ha 16 hc, .bool false], 62⟩] _ := hB2
  replace hlh := ob_bt hlh hgb (show (62 : TypeId) ≠ 5 by decide) ((Bt.refl gs x1_12).row_self (#[.int .i64 (X0 : Int), .int .u64 (X1 : Int), .int .i64 (X2 : Int), .slice ha 16 hc, .bool false]))
  have hBl : Bl w [⟨w.heap.size, kc b, 50⟩, ⟨w.heap.size + 1, ZSu, 62⟩] _ := Bl.left (M := [⟨gs, #[.int .i64 (X0 : Int), .int .u64 (X1 : Int), .int .i64 (X2 : Int), .slice ha 16 hc, .bool false], 62⟩]) hB2
  clear hB hgb
  generalize World.setRow _ _ _ = x9z at *
  have hB := hB2
  clear hB2
  refine unhide hQ _ _ ⟨hBl, ?_⟩
  clear hQ K_
  simp only [Act.put, List.setIfInBounds_toArray, List.set_cons_zero, List.set_cons_succ, List.getElem_toArray, List.getElem_cons_zero, List.getElem_cons_succ]
  refine any_done (by kernel_rfl) ?_
  have c11 := byte_mem (unhide hbb) 11
  obtain ⟨z0, hz0⟩ : ∃ z, z = decide (b.getD 11 0 = 0) := ⟨_, rfl⟩
  replace c11 := hide c11; replace hz0 := hide hz0; replace hlh := hide hlh
  replace hB := hide hB
  go_upto_region 2 with fail
  replace hB := unhide hB
  refine wp_region_lit ?_
  refine list_val (.pointer (some ⟨w.heap.size, 11, none⟩)) (by kernel_rfl) (by kernel_rfl) ?_
  simp only [Act.put, List.setIfInBounds_toArray, List.set_cons_zero, List.set_cons_succ, List.getElem_toArray, List.getElem_cons_zero, List.getElem_cons_succ]
  refine list_val (.int .u8 (b.getD 11 0)) (by kernel_rfl) (exec_b _ (.tmp 17) rfl (w.heap.size) 11 (by kernel_rfl) _ (kc_cell (hB.get 0 (x := ⟨w.heap.size, kc b, 50⟩) rfl) 11 (by show 11 < b.length; omega))) ?_
  simp only [Act.put, List.setIfInBounds_toArray, List.set_cons_zero, List.set_cons_succ, List.getElem_toArray, List.getElem_cons_zero, List.getElem_cons_succ]
  refine list_val (.bool z0) (by kernel_rfl) (by rw [unhide hz0]; exact exec_eq0 _ (.tmp 18) rfl _ (by kernel_rfl)) ?_
  simp only [Act.put, List.setIfInBounds_toArray, List.set_cons_zero, List.set_cons_succ, List.getElem_toArray, List.getElem_cons_zero, List.getElem_cons_succ]
  (refine wpList_step fun K hK => ?_; replace hK := hide hK; go_simp; refine unhide hK _ _ ?_; clear hK K)
  refine wpList_nil ?_
  replace hB := hide hB
  go_wp2_with fail
  go_loopw [4, 5] (fun zv iv wr => ∃ (k : Nat) (z : Bool), k ≤ 8 ∧ iv = .int .i64 ((40 + k : Nat) : Int) ∧ zv = .bool z ∧ Hid (z = zrB b k) ∧ Hid (Bl w [⟨w.heap.size, kc b, 50⟩, ⟨w.heap.size + 1, ZSu, 62⟩, ⟨gs, #[.int .i64 (X0 : Int), .int .u64 (X1 : Int), .int .i64 (X2 : Int), .slice ha 16 hc, .bool false], 62⟩] wr) ∧ Hid (Ob w.heap.size wr (.slice ha 16 hc) H)) (fun _ iv _ => 48 - (intOf iv).toNat)
  case atStart => exact ⟨0, z0, by omega, rfl, rfl, hz0, hB, hlh⟩
  case round =>
  clear hB hlh
  obtain ⟨k, z, hk, rfl, rfl, hz, hB, hlh⟩ := hrel
  by_cases hk8 : k < 8
  · skip
    have kI : ((40 + k : Nat) : Int) < 48 := by omega
    obtain ⟨ki, hki⟩ : ∃ x, x = 40 + k := ⟨_, rfl⟩
    have kw : IntKind.i64.wrap ((ki : Int) + 1) = ((40 + (k + 1) : Nat) : Int) := by rw [IntKind.wrap_i64]; omega
    have kJ : ki < 64 := by omega
    have kK : 0 ≤ (ki : Int) ∧ (ki : Int) < 64 := by omega
    rw [← hki] at kI ⊢
    obtain ⟨y, hy⟩ : ∃ y, y = b.getD ki 0 := ⟨_, rfl⟩
    have hnx : Hid (zrB b (k + 1) = (z && decide (y = 0))) := by show zrB b (k + 1) = _; rw [unhide hz, hy, hki]; rfl
    replace hki := hide hki; replace hy := hide hy
    go_upto_region 6 with fail
    replace hB := unhide hB
    cases z
    case false =>
      refine wp_region_lit ?_
      refine list_val (.bool false) (by kernel_rfl) (by kernel_rfl) ?_
      simp only [Act.put, List.setIfInBounds_toArray, List.set_cons_zero, List.set_cons_succ, List.getElem_toArray, List.getElem_cons_zero, List.getElem_cons_succ]
      refine list_val (.bool false) (by kernel_rfl) (by kernel_rfl) ?_
      simp only [Act.put, List.setIfInBounds_toArray, List.set_cons_zero, List.set_cons_succ, List.getElem_toArray, List.getElem_cons_zero, List.getElem_cons_succ]
      refine wpList_step fun K hK => ?_
      rw [if_neg (ne_true_of_eq_false (by kernel_rfl))]
      refine hK _ _ ?_
      clear hK K
      simp only [Act.put, List.setIfInBounds_toArray, List.set_cons_zero, List.set_cons_succ, List.getElem_toArray, List.getElem_cons_zero, List.getElem_cons_succ]
      refine wpList_step fun K hK => ?_
      rw [if_neg (ne_true_of_eq_false (by kernel_rfl))]
      refine hK _ _ ?_
      clear hK K
      simp only [Act.put, List.setIfInBounds_toArray, List.set_cons_zero, List.set_cons_succ, List.getElem_toArray, List.getElem_cons_zero, List.getElem_cons_succ]
      refine wpList_step fun K hK => ?_
      rw [if_neg (ne_true_of_eq_false (by kernel_rfl))]
      refine hK _ _ ?_
      clear hK K
      simp only [Act.put, List.setIfInBounds_toArray, List.set_cons_zero, List.set_cons_succ, List.getElem_toArray, List.getElem_cons_zero, List.getElem_cons_succ]
      refine wpList_step fun K hK => ?_
      rw [if_neg (ne_true_of_eq_false (by kernel_rfl))]
      refine hK _ _ ?_
      clear hK K
      simp only [Act.put, List.setIfInBounds_toArray, List.set_cons_zero, List.set_cons_succ, List.getElem_toArray, List.getElem_cons_zero, List.getElem_cons_succ]
      refine list_val (.bool false) (by kernel_rfl) (by kernel_rfl) ?_
      simp only [Act.put, List.setIfInBounds_toArray, List.set_cons_zero, List.set_cons_succ, List.getElem_toArray, List.getElem_cons_zero, List.getElem_cons_succ]
      (refine wpList_step fun K hK => ?_; replace hK := hide hK; go_simp; refine unhide hK _ _ ?_; clear hK K)
      refine wpList_nil ?_
      have hz2 : Hid (false = zrB b (k + 1)) := by show false = _; rw [unhide hnx]; rfl
      replace hB := hide hB
      go_wp2_with fail
      go_roundw
      case rel => exact ⟨k + 1, false, by omega, by first | rfl | rw [kw] | go_num, rfl, hz2, hB, hlh⟩
      case measure =>
        have := unhide hki
        simp [intOf]; omega
    case true =>
      obtain ⟨yb, hyb⟩ : ∃ x, x = decide (y = 0) := ⟨_, rfl⟩
      replace hyb := hide hyb
      refine wp_region_lit ?_
      refine list_val (.bool true) (by kernel_rfl) (by kernel_rfl) ?_
      simp only [Act.put, List.setIfInBounds_toArray, List.set_cons_zero, List.set_cons_succ, List.getElem_toArray, List.getElem_cons_zero, List.getElem_cons_succ]
      refine list_val (.bool true) (by kernel_rfl) (by kernel_rfl) ?_
      simp only [Act.put, List.setIfInBounds_toArray, List.set_cons_zero, List.set_cons_succ, List.getElem_toArray, List.getElem_cons_zero, List.getElem_cons_succ]
      refine list_val (.int .i64 (ki : Int)) (by kernel_rfl) (by kernel_rfl) ?_
      simp only [Act.put, List.setIfInBounds_toArray, List.set_cons_zero, List.set_cons_succ, List.getElem_toArray, List.getElem_cons_zero, List.getElem_cons_succ]
      refine list_val (.pointer (some ⟨w.heap.size, ki, none⟩)) (by kernel_rfl) (by go_simp) ?_
      simp only [Act.put, List.setIfInBounds_toArray, List.set_cons_zero, List.set_cons_succ, List.getElem_toArray, List.getElem_cons_zero, List.getElem_cons_succ]
      refine list_val (.int .u8 y) (by kernel_rfl) (exec_b _ (.tmp 27) rfl (w.heap.size) ki (by kernel_rfl) _ (by rw [unhide hy]; exact kc_cell (hB.get 0 (x := ⟨w.heap.size, kc b, 50⟩) rfl) ki (by show ki < b.length; omega))) ?_
      simp only [Act.put, List.setIfInBounds_toArray, List.set_cons_zero, List.set_cons_succ, List.getElem_toArray, List.getElem_cons_zero, List.getElem_cons_succ]
      refine list_val (.bool yb) (by kernel_rfl) (by rw [unhide hyb]; exact exec_eq0 _ (.tmp 28) rfl _ (by kernel_rfl)) ?_
      simp only [Act.put, List.setIfInBounds_toArray, List.set_cons_zero, List.set_cons_succ, List.getElem_toArray, List.getElem_cons_zero, List.getElem_cons_succ]
      refine list_val (.bool yb) (by kernel_rfl) (by kernel_rfl) ?_
      simp only [Act.put, List.setIfInBounds_toArray, List.set_cons_zero, List.set_cons_succ, List.getElem_toArray, List.getElem_cons_zero, List.getElem_cons_succ]
      (refine wpList_step fun K hK => ?_; replace hK := hide hK; go_simp; refine unhide hK _ _ ?_; clear hK K)
      refine wpList_nil ?_
      have hz2 : Hid (yb = zrB b (k + 1)) := by show yb = _; rw [unhide hnx, unhide hyb]; rfl
      replace hB := hide hB
      go_wp2_with fail
      go_roundw
      case rel => exact ⟨k + 1, yb, by omega, by first | rfl | rw [kw] | go_num, rfl, hz2, hB, hlh⟩
      case measure =>
        have := unhide hki
        simp [intOf]; omega
  have kI : ¬ ((40 + k : Nat) : Int) < 48 := by omega
  obtain rfl : k = 8 := by omega
  have hri := rightB_is (b := b) hbl
  obtain ⟨t1, ht1⟩ : ∃ x, x = decide (b.take 10 = htr) := ⟨_, rfl⟩
  obtain ⟨t2, ht2⟩ : ∃ x, x = decide (X0 < 2) := ⟨_, rfl⟩
  have ht3 : decide (b.getD 10 0 < 2) = t2 := by rw [ht2, unhide m10]; apply decide_eq_decide.2; omega
  obtain ⟨t4, ht4⟩ : ∃ x, x = decide (b.drop 48 = sh16 (b.take 48)) := ⟨_, rfl⟩
  rw [← ht1, ht3, ← unhide hz, ← ht4] at hri
  have htb : IsB (b.take 10) := fun x hx => unhide hbb x (List.mem_of_mem_take hx)
  have htl : (b.take 10).length = 10 := by rw [List.length_take]; omega
  have hlow : Hid (t2 = true → (X0 : Int) < 2) := fun e => by rw [ht2] at e; have := of_decide_eq_true e; omega
  have hlow2 : Hid (t2 = false → ¬ (X0 : Int) < 2) := fun e => by rw [ht2] at e; have := of_decide_eq_false e; omega
  replace hri := hide hri; replace ht1 := hide ht1; replace ht2 := hide ht2; replace ht4 := hide ht4; replace htb := hide htb
  clear ht3
  go_upto_region 7 with fail
  replace hB := unhide hB
  cases t1
  case false =>
    refine anyC_start 18 (fun v => Bl w [⟨w.heap.size, kc b, 50⟩, ⟨w.heap.size + 1, ZSu, 62⟩, ⟨gs, #[.int .i64 (X0 : Int), .int .u64 (X1 : Int), .int .i64 (X2 : Int), .slice ha 16 hc, .bool false], 62⟩] v) (by kernel_rfl) ?_
    replace hB := hB.drew
    replace hlh := hide ((unhide hlh).gr (Gr.refl _).drew)
    generalize World.drew _ = x0 at *
    simp only [List.size_toArray, List.length_cons, List.length_nil, Array.replicate, List.replicate]
    refine anyC_take (i := 0) (v := (.slice (some ⟨w.heap.size, 0, none⟩) 10 64)) (fun v => Bl w [⟨w.heap.size, kc b, 50⟩, ⟨w.heap.size + 1, ZSu, 62⟩, ⟨gs, #[.int .i64 (X0 : Int), .int .u64 (X1 : Int), .int .i64 (X2 : Int), .slice ha 16 hc, .bool false], 62⟩] v) (fun _ h_ => h_) (.inr (by kernel_rfl)) rfl (by kernel_rfl) (by kernel_rfl) (by kernel_rfl) (by decide) (by kernel_rfl) (by decide) (fun _ _ _ h => h) (.inl ⟨by kernel_rfl, fun x_ hu => by kernel_rfl⟩) hB ?_
    simp only [Act.put, List.setIfInBounds_toArray, List.set_cons_zero, List.set_cons_succ, List.getElem_toArray, List.getElem_cons_zero, List.getElem_cons_succ]
    refine anyC_take (i := 1) (v := (.string ⟨((b.take 10).map fun y => UInt8.ofNat y.toNat).toArray⟩)) (fun v => Bl w [⟨w.heap.size, kc b, 50⟩, ⟨w.heap.size + 1, ZSu, 62⟩, ⟨gs, #[.int .i64 (X0 : Int), .int .u64 (X1 : Int), .int .i64 (X2 : Int), .slice ha 16 hc, .bool false], 62⟩] v) (fun _ h_ => h_) (.inr (by kernel_rfl)) rfl (by kernel_rfl) (by kernel_rfl) (by kernel_rfl) (by decide) (by kernel_rfl) (by decide) (fun _ _ _ h => h) (.inl ⟨by kernel_rfl, fun x_ hu => exec_txt _ (.tmp 31) rfl (w.heap.size) 64 (b.take 10) (unhide htb) htl 50 b (hu.get 0 (x := ⟨w.heap.size, kc b, 50⟩) rfl) rfl (by kernel_rfl)⟩) hB ?_
    simp only [Act.put, List.setIfInBounds_toArray, List.set_cons_zero, List.set_cons_succ, List.getElem_toArray, List.getElem_cons_zero, List.getElem_cons_succ]
    refine anyC_take (i := 2) (v := (.bool false)) (fun v => Bl w [⟨w.heap.size, kc b, 50⟩, ⟨w.heap.size + 1, ZSu, 62⟩, ⟨gs, #[.int .i64 (X0 : Int), .int .u64 (X1 : Int), .int .i64 (X2 : Int), .slice ha 16 hc, .bool false], 62⟩] v) (fun _ h_ => h_) (.inr (by kernel_rfl)) rfl (by kernel_rfl) (by kernel_rfl) (by kernel_rfl) (by decide) (by kernel_rfl) (by decide) (fun _ _ _ h => h) (.inl ⟨by kernel_rfl, fun x_ hu => exec_eqsv _ (.tmp 32) (b.take 10) (unhide htb) false (unhide ht1) rfl (by kernel_rfl)⟩) hB ?_
    simp only [Act.put, List.setIfInBounds_toArray, List.set_cons_zero, List.set_cons_succ, List.getElem_toArray, List.getElem_cons_zero, List.getElem_cons_succ]
    refine anyC_take (i := 3) (v := (.bool false)) (fun v => Bl w [⟨w.heap.size, kc b, 50⟩, ⟨w.heap.size + 1, ZSu, 62⟩, ⟨gs, #[.int .i64 (X0 : Int), .int .u64 (X1 : Int), .int .i64 (X2 : Int), .slice ha 16 hc, .bool false], 62⟩] v) (fun _ h_ => h_) (.inr (by kernel_rfl)) rfl (by kernel_rfl) (by kernel_rfl) (by kernel_rfl) (by decide) (by kernel_rfl) (by decide) (fun _ _ _ h => h) (.inl ⟨by kernel_rfl, fun x_ hu => by kernel_rfl⟩) hB ?_
    simp only [Act.put, List.setIfInBounds_toArray, List.set_cons_zero, List.set_cons_succ, List.getElem_toArray, List.getElem_cons_zero, List.getElem_cons_succ]
    refine anyC_take (i := 4) (v := undef) (fun _ => True) (fun _ _ => trivial) (.inl (fun _ => trivial)) rfl (by kernel_rfl) (by kernel_rfl) (by kernel_rfl) (by decide) (by kernel_rfl) (by decide) (fun _ _ _ h => h) (.inr ⟨by kernel_rfl, rfl⟩) hB ?_
    simp only [Act.put, List.setIfInBounds_toArray, List.set_cons_zero, List.set_cons_succ, List.getElem_toArray, List.getElem_cons_zero, List.getElem_cons_succ]
    refine anyC_take (i := 5) (v := undef) (fun _ => True) (fun _ _ => trivial) (.inl (fun _ => trivial)) rfl (by kernel_rfl) (by kernel_rfl) (by kernel_rfl) (by decide) (by kernel_rfl) (by decide) (fun _ _ _ h => h) (.inr ⟨by kernel_rfl, rfl⟩) hB ?_
    simp only [Act.put, List.setIfInBounds_toArray, List.set_cons_zero, List.set_cons_succ, List.getElem_toArray, List.getElem_cons_zero, List.getElem_cons_succ]
    refine anyC_take (i := 6) (v := undef) (fun _ => True) (fun _ _ => trivial) (.inl (fun _ => trivial)) rfl (by kernel_rfl) (by kernel_rfl) (by kernel_rfl) (by decide) (by kernel_rfl) (by decide) (fun _ _ _ h => h) (.inr ⟨by kernel_rfl, rfl⟩) hB ?_
    simp only [Act.put, List.setIfInBounds_toArray, List.set_cons_zero, List.set_cons_succ, List.getElem_toArray, List.getElem_cons_zero, List.getElem_cons_succ]
    refine anyC_take (i := 7) (v := (.bool false)) (fun v => Bl w [⟨w.heap.size, kc b, 50⟩, ⟨w.heap.size + 1, ZSu, 62⟩, ⟨gs, #[.int .i64 (X0 : Int), .int .u64 (X1 : Int), .int .i64 (X2 : Int), .slice ha 16 hc, .bool false], 62⟩] v) (fun _ h_ => h_) (.inr (by kernel_rfl)) rfl (by kernel_rfl) (by kernel_rfl) (by kernel_rfl) (by decide) (by kernel_rfl) (by decide) (fun _ _ _ h => h) (.inl ⟨by kernel_rfl, fun x_ hu => by kernel_rfl⟩) hB ?_
    simp only [Act.put, List.setIfInBounds_toArray, List.set_cons_zero, List.set_cons_succ, List.getElem_toArray, List.getElem_cons_zero, List.getElem_cons_succ]
    refine anyC_take (i := 8) (v := (.bool false)) (fun v => Bl w [⟨w.heap.size, kc b, 50⟩, ⟨w.heap.size + 1, ZSu, 62⟩, ⟨gs, #[.int .i64 (X0 : Int), .int .u64 (X1 : Int), .int .i64 (X2 : Int), .slice ha 16 hc, .bool false], 62⟩] v) (fun _ h_ => h_) (.inr (by kernel_rfl)) rfl (by kernel_rfl) (by kernel_rfl) (by kernel_rfl) (by decide) (by kernel_rfl) (by decide) (fun _ _ _ h => h) (.inl ⟨by kernel_rfl, fun x_ hu => by kernel_rfl⟩) hB ?_
    simp only [Act.put, List.setIfInBounds_toArray, List.set_cons_zero, List.set_cons_succ, List.getElem_toArray, List.getElem_cons_zero, List.getElem_cons_succ]
    refine anyC_take (i := 9) (v := undef) (fun _ => True) (fun _ _ => trivial) (.inl (fun _ => trivial)) rfl (by kernel_rfl) (by kernel_rfl) (by kernel_rfl) (by decide) (by kernel_rfl) (by decide) (fun _ _ _ h => h) (.inr ⟨by kernel_rfl, rfl⟩) hB ?_
    simp only [Act.put, List.setIfInBounds_toArray, List.set_cons_zero, List.set_cons_succ, List.getElem_toArray, List.getElem_cons_zero, List.getElem_cons_succ]
    refine anyC_take (i := 10) (v := (.bool false)) (fun v => Bl w [⟨w.heap.size, kc b, 50⟩, ⟨w.heap.size + 1, ZSu, 62⟩, ⟨gs, #[.int .i64 (X0 : Int), .int .u64 (X1 : Int), .int .i64 (X2 : Int), .slice ha 16 hc, .bool false], 62⟩] v) (fun _ h_ => h_) (.inr (by kernel_rfl)) rfl (by kernel_rfl) (by kernel_rfl) (by kernel_rfl) (by decide) (by kernel_rfl) (by decide) (fun _ _ _ h => h) (.inl ⟨by kernel_rfl, fun x_ hu => by kernel_rfl⟩) hB ?_
    simp only [Act.put, List.setIfInBounds_toArray, List.set_cons_zero, List.set_cons_succ, List.getElem_toArray, List.getElem_cons_zero, List.getElem_cons_succ]
    refine anyC_take (i := 11) (v := (.bool false)) (fun v => Bl w [⟨w.heap.size, kc b, 50⟩, ⟨w.heap.size + 1, ZSu, 62⟩, ⟨gs, #[.int .i64 (X0 : Int), .int .u64 (X1 : Int), .int .i64 (X2 : Int), .slice ha 16 hc, .bool false], 62⟩] v) (fun _ h_ => h_) (.inr (by kernel_rfl)) rfl (by kernel_rfl) (by kernel_rfl) (by kernel_rfl) (by decide) (by kernel_rfl) (by decide) (fun _ _ _ h => h) (.inl ⟨by kernel_rfl, fun x_ hu => by kernel_rfl⟩) hB ?_
    simp only [Act.put, List.setIfInBounds_toArray, List.set_cons_zero, List.set_cons_succ, List.getElem_toArray, List.getElem_cons_zero, List.getElem_cons_succ]
    refine anyC_take (i := 12) (v := undef) (fun _ => True) (fun _ _ => trivial) (.inl (fun _ => trivial)) rfl (by kernel_rfl) (by kernel_rfl) (by kernel_rfl) (by decide) (by kernel_rfl) (by decide) (fun _ _ _ h => h) (.inr ⟨by kernel_rfl, rfl⟩) hB ?_
    simp only [Act.put, List.setIfInBounds_toArray, List.set_cons_zero, List.set_cons_succ, List.getElem_toArray, List.getElem_cons_zero, List.getElem_cons_succ]
    refine anyC_take (i := 13) (v := undef) (fun _ => True) (fun _ _ => trivial) (.inl (fun _ => trivial)) rfl (by kernel_rfl) (by kernel_rfl) (by kernel_rfl) (by decide) (by kernel_rfl) (by decide) (fun _ _ _ h => h) (.inr ⟨by kernel_rfl, rfl⟩) hB ?_
    simp only [Act.put, List.setIfInBounds_toArray, List.set_cons_zero, List.set_cons_succ, List.getElem_toArray, List.getElem_cons_zero, List.getElem_cons_succ]
    refine anyC_take (i := 14) (v := undef) (fun _ => True) (fun _ _ => trivial) (.inl (fun _ => trivial)) rfl (by kernel_rfl) (by kernel_rfl) (by kernel_rfl) (by decide) (by kernel_rfl) (by decide) (fun _ _ _ h => h) (.inr ⟨by kernel_rfl, rfl⟩) hB ?_
    simp only [Act.put, List.setIfInBounds_toArray, List.set_cons_zero, List.set_cons_succ, List.getElem_toArray, List.getElem_cons_zero, List.getElem_cons_succ]
    refine anyC_take (i := 15) (v := undef) (fun _ => True) (fun _ _ => trivial) (.inl (fun _ => trivial)) rfl (by kernel_rfl) (by kernel_rfl) (by kernel_rfl) (by decide) (by kernel_rfl) (by decide) (fun _ _ _ h => h) (.inr ⟨by kernel_rfl, rfl⟩) hB ?_
    simp only [Act.put, List.setIfInBounds_toArray, List.set_cons_zero, List.set_cons_succ, List.getElem_toArray, List.getElem_cons_zero, List.getElem_cons_succ]
    refine anyC_take (i := 16) (v := (.bool false)) (fun v => Bl w [⟨w.heap.size, kc b, 50⟩, ⟨w.heap.size + 1, ZSu, 62⟩, ⟨gs, #[.int .i64 (X0 : Int), .int .u64 (X1 : Int), .int .i64 (X2 : Int), .slice ha 16 hc, .bool false], 62⟩] v) (fun _ h_ => h_) (.inr (by kernel_rfl)) rfl (by kernel_rfl) (by kernel_rfl) (by kernel_rfl) (by decide) (by kernel_rfl) (by decide) (fun _ _ _ h => h) (.inl ⟨by kernel_rfl, fun x_ hu => by kernel_rfl⟩) hB ?_
    simp only [Act.put, List.setIfInBounds_toArray, List.set_cons_zero, List.set_cons_succ, List.getElem_toArray, List.getElem_cons_zero, List.getElem_cons_succ]
    refine anyC_take (i := 17) (v := (.pointer (some ⟨gs, 4, none⟩))) (fun v => Bl w [⟨w.heap.size, kc b, 50⟩, ⟨w.heap.size + 1, ZSu, 62⟩, ⟨gs, #[.int .i64 (X0 : Int), .int .u64 (X1 : Int), .int .i64 (X2 : Int), .slice ha 16 hc, .bool false], 62⟩] v) (fun _ h_ => h_) (.inr (by kernel_rfl)) rfl (by kernel_rfl) (by kernel_rfl) (by kernel_rfl) (by decide) (by kernel_rfl) (by decide) (fun _ _ _ h => h) (.inl ⟨by kernel_rfl, fun x_ hu => by kernel_rfl⟩) hB ?_
    simp only [Act.put, List.setIfInBounds_toArray, List.set_cons_zero, List.set_cons_succ, List.getElem_toArray, List.getElem_cons_zero, List.getElem_cons_succ]
    refine anyC_last (by kernel_rfl) rfl (fun K_ hQ => ?_)
    have c4 := cell_of (hB.get 2 (x := ⟨gs, #[.int .i64 (X0 : Int), .int .u64 (X1 : Int), .int .i64 (X2 : Int), .slice ha 16 hc, .bool false], 62⟩) rfl) (i := 4) rfl
    have fz := froz_of (i := 4) (hB.get 2 (x := ⟨gs, #[.int .i64 (X0 : Int), .int .u64 (X1 : Int), .int .i64 (X2 : Int), .slice ha 16 hc, .bool false], 62⟩) rfl)
    have hB2 := hB.cell 2 (x := ⟨gs, #[.int .i64 (X0 : Int), .int .u64 (X1 : Int), .int .i64 (X2 : Int), .slice ha 16 hc, .bool false], 62⟩) rfl 4 (.bool false)
    simp only [List.set_cons_zero, List.set_cons_succ] at hB2
    replace hB2 : Bl w [⟨w.heap.size, kc b, 50⟩, ⟨w.heap.size + 1, ZSu, 62⟩, ⟨gs, #[.int .i64 (X0 : Int), .int .u64 (X1 : Int), .int .i64 (X2 : Int), .slice ha 16 hc, .bool false], 62⟩] _ := hB2
    have hl2 := hide (ob_bt (unhide hlh) (hB.get 2 (x := ⟨gs, #[.int .i64 (X0 : Int), .int .u64 (X1 : Int), .int .i64 (X2 : Int), .slice ha 16 hc, .bool false], 62⟩) rfl) (show (62 : TypeId) ≠ 5 by decide) (Bt.setCell _ 4 (.bool false)))
    replace hB2 := hide hB2
    clear hB hlh
    dsimp only at c4 fz
    replace hQ := hide hQ
    go_simp
    refine (unhide hQ).out _ _ ?_
    clear hQ K_ c4 fz
    have hB := unhide hB2
    clear hB2
    generalize World.setCell _ _ _ = y9 at *
    refine any_done (by kernel_rfl) ?_
    have hrb : rightB b = false := by rw [unhide hri]; first | rfl | simp
    replace hrb := hide hrb
    replace hB := hide hB
    go_upto_region 8 with fail
    replace hB := unhide hB
    refine wp_region_lit ?_
    refine list_val (.agg #[.int .i64 (X0 : Int), .int .u64 (X1 : Int), .int .i64 (X2 : Int), .slice ha 16 hc, .bool false]) (by kernel_rfl) (exec_arr _ 62 (.tmp 3) rfl gs (by kernel_rfl) (#[.int .i64 (X0 : Int), .int .u64 (X1 : Int), .int .i64 (X2 : Int), .slice ha 16 hc, .bool false]) 62 _ (hB.get 2 (x := ⟨gs, #[.int .i64 (X0 : Int), .int .u64 (X1 : Int), .int .i64 (X2 : Int), .slice ha 16 hc, .bool false], 62⟩) rfl) Tryd.underlying62 rfl (by rw [Tryd.infoSu]; rfl)) ?_
    simp only [Act.put, List.setIfInBounds_toArray, List.set_cons_zero, List.set_cons_succ, List.getElem_toArray, List.getElem_cons_zero, List.getElem_cons_succ]
    refine list_store 62 (.tmp 2) (.tmp 49) (w.heap.size + 1) (#[.int .i64 (X0 : Int), .int .u64 (X1 : Int), .int .i64 (X2 : Int), .slice ha 16 hc, .bool false]) 62 ZSu (by kernel_rfl) rfl (by kernel_rfl) (by kernel_rfl) (hB.get 1 (x := ⟨w.heap.size + 1, ZSu, 62⟩) rfl) (by rw [Tryd.infoSu]; rfl) rfl (by simp [Value.oneCell']) ?_
    have hl3 := hide (ob_bt (unhide hl2) (hB.get 1 (x := ⟨w.heap.size + 1, ZSu, 62⟩) rfl) (show (62 : TypeId) ≠ 5 by decide) ((Bt.refl (w.heap.size + 1) _).row_self (#[.int .i64 (X0 : Int), .int .u64 (X1 : Int), .int .i64 (X2 : Int), .slice ha 16 hc, .bool false])))
    replace hB := hB.set 1 (x := ⟨w.heap.size + 1, ZSu, 62⟩) rfl (#[.int .i64 (X0 : Int), .int .u64 (X1 : Int), .int .i64 (X2 : Int), .slice ha 16 hc, .bool false])
    simp only [List.set_cons_zero, List.set_cons_succ] at hB
    generalize World.setRow _ _ _ = y10 at *
    replace hB : Bl w [⟨w.heap.size, kc b, 50⟩, ⟨w.heap.size + 1, #[.int .i64 (X0 : Int), .int .u64 (X1 : Int), .int .i64 (X2 : Int), .slice ha 16 hc, .bool false], 62⟩, ⟨gs, #[.int .i64 (X0 : Int), .int .u64 (X1 : Int), .int .i64 (X2 : Int), .slice ha 16 hc, .bool false], 62⟩] y10 := hB
    simp only [Act.put, List.setIfInBounds_toArray, List.set_cons_zero, List.set_cons_succ, List.getElem_toArray, List.getElem_cons_zero, List.getElem_cons_succ]
    refine wpList_nil ?_
    replace hB := hide hB
    go_wp2_with fail
    replace hB := unhide hB
    rw [unhide hT]
    exact bodyPost_ret (v := .agg (#[.int .i64 (X0 : Int), .int .u64 (X1 : Int), .int .i64 (X2 : Int), .slice ha 16 hc, .bool false])) (results_cell_row Tryd.results53 _ _ (w.heap.size + 1) 62 (#[.int .i64 (X0 : Int), .int .u64 (X1 : Int), .int .i64 (X2 : Int), .slice ha 16 hc, .bool false]) (0, 0) _ rfl (hB.get 1 (x := ⟨w.heap.size + 1, #[.int .i64 (X0 : Int), .int .u64 (X1 : Int), .int .i64 (X2 : Int), .slice ha 16 hc, .bool false], 62⟩) rfl) Tryd.underlying62 rfl (by rw [Tryd.infoSu]; rfl)) rfl ⟨ha, hc, by rw [unhide hrb, unhide hX0, unhide hX1, unhide hX2]; rfl, by rw [← unhide hH]; exact unhide hl3, hB.gr⟩
  case true =>
    cases t2
    case false =>
      refine anyC_start 18 (fun v => Bl w [⟨w.heap.size, kc b, 50⟩, ⟨w.heap.size + 1, ZSu, 62⟩, ⟨gs, #[.int .i64 (X0 : Int), .int .u64 (X1 : Int), .int .i64 (X2 : Int), .slice ha 16 hc, .bool false], 62⟩] v) (by kernel_rfl) ?_
      replace hB := hB.drew
      replace hlh := hide ((unhide hlh).gr (Gr.refl _).drew)
      generalize World.drew _ = x0 at *
      simp only [List.size_toArray, List.length_cons, List.length_nil, Array.replicate, List.replicate]
      refine anyC_take (i := 0) (v := (.slice (some ⟨w.heap.size, 0, none⟩) 10 64)) (fun v => Bl w [⟨w.heap.size, kc b, 50⟩, ⟨w.heap.size + 1, ZSu, 62⟩, ⟨gs, #[.int .i64 (X0 : Int), .int .u64 (X1 : Int), .int .i64 (X2 : Int), .slice ha 16 hc, .bool false], 62⟩] v) (fun _ h_ => h_) (.inr (by kernel_rfl)) rfl (by kernel_rfl) (by kernel_rfl) (by kernel_rfl) (by decide) (by kernel_rfl) (by decide) (fun _ _ _ h => h) (.inl ⟨by kernel_rfl, fun x_ hu => by kernel_rfl⟩) hB ?_
      simp only [Act.put, List.setIfInBounds_toArray, List.set_cons_zero, List.set_cons_succ, List.getElem_toArray, List.getElem_cons_zero, List.getElem_cons_succ]
      refine anyC_take (i := 1) (v := (.string ⟨((b.take 10).map fun y => UInt8.ofNat y.toNat).toArray⟩)) (fun v => Bl w [⟨w.heap.size, kc b, 50⟩, ⟨w.heap.size + 1, ZSu, 62⟩, ⟨gs, #[.int .i64 (X0 : Int), .int .u64 (X1 : Int), .int .i64 (X2 : Int), .slice ha 16 hc, .bool false], 62⟩] v) (fun _ h_ => h_) (.inr (by kernel_rfl)) rfl (by kernel_rfl) (by kernel_rfl) (by kernel_rfl) (by decide) (by kernel_rfl) (by decide) (fun _ _ _ h => h) (.inl ⟨by kernel_rfl, fun x_ hu => exec_txt _ (.tmp 31) rfl (w.heap.size) 64 (b.take 10) (unhide htb) htl 50 b (hu.get 0 (x := ⟨w.heap.size, kc b, 50⟩) rfl) rfl (by kernel_rfl)⟩) hB ?_
      simp only [Act.put, List.setIfInBounds_toArray, List.set_cons_zero, List.set_cons_succ, List.getElem_toArray, List.getElem_cons_zero, List.getElem_cons_succ]
      refine anyC_take (i := 2) (v := (.bool true)) (fun v => Bl w [⟨w.heap.size, kc b, 50⟩, ⟨w.heap.size + 1, ZSu, 62⟩, ⟨gs, #[.int .i64 (X0 : Int), .int .u64 (X1 : Int), .int .i64 (X2 : Int), .slice ha 16 hc, .bool false], 62⟩] v) (fun _ h_ => h_) (.inr (by kernel_rfl)) rfl (by kernel_rfl) (by kernel_rfl) (by kernel_rfl) (by decide) (by kernel_rfl) (by decide) (fun _ _ _ h => h) (.inl ⟨by kernel_rfl, fun x_ hu => exec_eqsv _ (.tmp 32) (b.take 10) (unhide htb) true (unhide ht1) rfl (by kernel_rfl)⟩) hB ?_
      simp only [Act.put, List.setIfInBounds_toArray, List.set_cons_zero, List.set_cons_succ, List.getElem_toArray, List.getElem_cons_zero, List.getElem_cons_succ]
      refine anyC_take (i := 3) (v := (.bool true)) (fun v => Bl w [⟨w.heap.size, kc b, 50⟩, ⟨w.heap.size + 1, ZSu, 62⟩, ⟨gs, #[.int .i64 (X0 : Int), .int .u64 (X1 : Int), .int .i64 (X2 : Int), .slice ha 16 hc, .bool false], 62⟩] v) (fun _ h_ => h_) (.inr (by kernel_rfl)) rfl (by kernel_rfl) (by kernel_rfl) (by kernel_rfl) (by decide) (by kernel_rfl) (by decide) (fun _ _ _ h => h) (.inl ⟨by kernel_rfl, fun x_ hu => by kernel_rfl⟩) hB ?_
      simp only [Act.put, List.setIfInBounds_toArray, List.set_cons_zero, List.set_cons_succ, List.getElem_toArray, List.getElem_cons_zero, List.getElem_cons_succ]
      refine anyC_take (i := 4) (v := (.pointer (some ⟨gs, 0, none⟩))) (fun v => Bl w [⟨w.heap.size, kc b, 50⟩, ⟨w.heap.size + 1, ZSu, 62⟩, ⟨gs, #[.int .i64 (X0 : Int), .int .u64 (X1 : Int), .int .i64 (X2 : Int), .slice ha 16 hc, .bool false], 62⟩] v) (fun _ h_ => h_) (.inr (by kernel_rfl)) rfl (by kernel_rfl) (by kernel_rfl) (by kernel_rfl) (by decide) (by kernel_rfl) (by decide) (fun _ _ _ h => h) (.inl ⟨by kernel_rfl, fun x_ hu => by kernel_rfl⟩) hB ?_
      simp only [Act.put, List.setIfInBounds_toArray, List.set_cons_zero, List.set_cons_succ, List.getElem_toArray, List.getElem_cons_zero, List.getElem_cons_succ]
      refine anyC_take (i := 5) (v := (.int .i64 (X0 : Int))) (fun v => Bl w [⟨w.heap.size, kc b, 50⟩, ⟨w.heap.size + 1, ZSu, 62⟩, ⟨gs, #[.int .i64 (X0 : Int), .int .u64 (X1 : Int), .int .i64 (X2 : Int), .slice ha 16 hc, .bool false], 62⟩] v) (fun _ h_ => h_) (.inr (by kernel_rfl)) rfl (by kernel_rfl) (by kernel_rfl) (by kernel_rfl) (by decide) (by kernel_rfl) (by decide) (fun _ _ _ h => h) (.inl ⟨by kernel_rfl, fun x_ hu => exec_i64 _ (.tmp 35) rfl gs 0 (by kernel_rfl) _ (cell_of (hu.get 2 (x := ⟨gs, #[.int .i64 (X0 : Int), .int .u64 (X1 : Int), .int .i64 (X2 : Int), .slice ha 16 hc, .bool false], 62⟩) rfl) (i := 0) rfl)⟩) hB ?_
      simp only [Act.put, List.setIfInBounds_toArray, List.set_cons_zero, List.set_cons_succ, List.getElem_toArray, List.getElem_cons_zero, List.getElem_cons_succ]
      refine anyC_take (i := 6) (v := (.bool false)) (fun v => Bl w [⟨w.heap.size, kc b, 50⟩, ⟨w.heap.size + 1, ZSu, 62⟩, ⟨gs, #[.int .i64 (X0 : Int), .int .u64 (X1 : Int), .int .i64 (X2 : Int), .slice ha 16 hc, .bool false], 62⟩] v) (fun _ h_ => h_) (.inr (by kernel_rfl)) rfl (by kernel_rfl) (by kernel_rfl) (by kernel_rfl) (by decide) (by kernel_rfl) (by decide) (fun _ _ _ h => h) (.inl ⟨by kernel_rfl, fun x_ hu => by have h := unhide hlow2 rfl; go_simp⟩) hB ?_
      simp only [Act.put, List.setIfInBounds_toArray, List.set_cons_zero, List.set_cons_succ, List.getElem_toArray, List.getElem_cons_zero, List.getElem_cons_succ]
      refine anyC_take (i := 7) (v := (.bool false)) (fun v => Bl w [⟨w.heap.size, kc b, 50⟩, ⟨w.heap.size + 1, ZSu, 62⟩, ⟨gs, #[.int .i64 (X0 : Int), .int .u64 (X1 : Int), .int .i64 (X2 : Int), .slice ha 16 hc, .bool false], 62⟩] v) (fun _ h_ => h_) (.inr (by kernel_rfl)) rfl (by kernel_rfl) (by kernel_rfl) (by kernel_rfl) (by decide) (by kernel_rfl) (by decide) (fun _ _ _ h => h) (.inl ⟨by kernel_rfl, fun x_ hu => by kernel_rfl⟩) hB ?_
      simp only [Act.put, List.setIfInBounds_toArray, List.set_cons_zero, List.set_cons_succ, List.getElem_toArray, List.getElem_cons_zero, List.getElem_cons_succ]
      refine anyC_take (i := 8) (v := (.bool false)) (fun v => Bl w [⟨w.heap.size, kc b, 50⟩, ⟨w.heap.size + 1, ZSu, 62⟩, ⟨gs, #[.int .i64 (X0 : Int), .int .u64 (X1 : Int), .int .i64 (X2 : Int), .slice ha 16 hc, .bool false], 62⟩] v) (fun _ h_ => h_) (.inr (by kernel_rfl)) rfl (by kernel_rfl) (by kernel_rfl) (by kernel_rfl) (by decide) (by kernel_rfl) (by decide) (fun _ _ _ h => h) (.inl ⟨by kernel_rfl, fun x_ hu => by kernel_rfl⟩) hB ?_
      simp only [Act.put, List.setIfInBounds_toArray, List.set_cons_zero, List.set_cons_succ, List.getElem_toArray, List.getElem_cons_zero, List.getElem_cons_succ]
      refine anyC_take (i := 9) (v := undef) (fun _ => True) (fun _ _ => trivial) (.inl (fun _ => trivial)) rfl (by kernel_rfl) (by kernel_rfl) (by kernel_rfl) (by decide) (by kernel_rfl) (by decide) (fun _ _ _ h => h) (.inr ⟨by kernel_rfl, rfl⟩) hB ?_
      simp only [Act.put, List.setIfInBounds_toArray, List.set_cons_zero, List.set_cons_succ, List.getElem_toArray, List.getElem_cons_zero, List.getElem_cons_succ]
      refine anyC_take (i := 10) (v := (.bool false)) (fun v => Bl w [⟨w.heap.size, kc b, 50⟩, ⟨w.heap.size + 1, ZSu, 62⟩, ⟨gs, #[.int .i64 (X0 : Int), .int .u64 (X1 : Int), .int .i64 (X2 : Int), .slice ha 16 hc, .bool false], 62⟩] v) (fun _ h_ => h_) (.inr (by kernel_rfl)) rfl (by kernel_rfl) (by kernel_rfl) (by kernel_rfl) (by decide) (by kernel_rfl) (by decide) (fun _ _ _ h => h) (.inl ⟨by kernel_rfl, fun x_ hu => by kernel_rfl⟩) hB ?_
      simp only [Act.put, List.setIfInBounds_toArray, List.set_cons_zero, List.set_cons_succ, List.getElem_toArray, List.getElem_cons_zero, List.getElem_cons_succ]
      refine anyC_take (i := 11) (v := (.bool false)) (fun v => Bl w [⟨w.heap.size, kc b, 50⟩, ⟨w.heap.size + 1, ZSu, 62⟩, ⟨gs, #[.int .i64 (X0 : Int), .int .u64 (X1 : Int), .int .i64 (X2 : Int), .slice ha 16 hc, .bool false], 62⟩] v) (fun _ h_ => h_) (.inr (by kernel_rfl)) rfl (by kernel_rfl) (by kernel_rfl) (by kernel_rfl) (by decide) (by kernel_rfl) (by decide) (fun _ _ _ h => h) (.inl ⟨by kernel_rfl, fun x_ hu => by kernel_rfl⟩) hB ?_
      simp only [Act.put, List.setIfInBounds_toArray, List.set_cons_zero, List.set_cons_succ, List.getElem_toArray, List.getElem_cons_zero, List.getElem_cons_succ]
      refine anyC_take (i := 12) (v := undef) (fun _ => True) (fun _ _ => trivial) (.inl (fun _ => trivial)) rfl (by kernel_rfl) (by kernel_rfl) (by kernel_rfl) (by decide) (by kernel_rfl) (by decide) (fun _ _ _ h => h) (.inr ⟨by kernel_rfl, rfl⟩) hB ?_
      simp only [Act.put, List.setIfInBounds_toArray, List.set_cons_zero, List.set_cons_succ, List.getElem_toArray, List.getElem_cons_zero, List.getElem_cons_succ]
      refine anyC_take (i := 13) (v := undef) (fun _ => True) (fun _ _ => trivial) (.inl (fun _ => trivial)) rfl (by kernel_rfl) (by kernel_rfl) (by kernel_rfl) (by decide) (by kernel_rfl) (by decide) (fun _ _ _ h => h) (.inr ⟨by kernel_rfl, rfl⟩) hB ?_
      simp only [Act.put, List.setIfInBounds_toArray, List.set_cons_zero, List.set_cons_succ, List.getElem_toArray, List.getElem_cons_zero, List.getElem_cons_succ]
      refine anyC_take (i := 14) (v := undef) (fun _ => True) (fun _ _ => trivial) (.inl (fun _ => trivial)) rfl (by kernel_rfl) (by kernel_rfl) (by kernel_rfl) (by decide) (by kernel_rfl) (by decide) (fun _ _ _ h => h) (.inr ⟨by kernel_rfl, rfl⟩) hB ?_
      simp only [Act.put, List.setIfInBounds_toArray, List.set_cons_zero, List.set_cons_succ, List.getElem_toArray, List.getElem_cons_zero, List.getElem_cons_succ]
      refine anyC_take (i := 15) (v := undef) (fun _ => True) (fun _ _ => trivial) (.inl (fun _ => trivial)) rfl (by kernel_rfl) (by kernel_rfl) (by kernel_rfl) (by decide) (by kernel_rfl) (by decide) (fun _ _ _ h => h) (.inr ⟨by kernel_rfl, rfl⟩) hB ?_
      simp only [Act.put, List.setIfInBounds_toArray, List.set_cons_zero, List.set_cons_succ, List.getElem_toArray, List.getElem_cons_zero, List.getElem_cons_succ]
      refine anyC_take (i := 16) (v := (.bool false)) (fun v => Bl w [⟨w.heap.size, kc b, 50⟩, ⟨w.heap.size + 1, ZSu, 62⟩, ⟨gs, #[.int .i64 (X0 : Int), .int .u64 (X1 : Int), .int .i64 (X2 : Int), .slice ha 16 hc, .bool false], 62⟩] v) (fun _ h_ => h_) (.inr (by kernel_rfl)) rfl (by kernel_rfl) (by kernel_rfl) (by kernel_rfl) (by decide) (by kernel_rfl) (by decide) (fun _ _ _ h => h) (.inl ⟨by kernel_rfl, fun x_ hu => by kernel_rfl⟩) hB ?_
      simp only [Act.put, List.setIfInBounds_toArray, List.set_cons_zero, List.set_cons_succ, List.getElem_toArray, List.getElem_cons_zero, List.getElem_cons_succ]
      refine anyC_take (i := 17) (v := (.pointer (some ⟨gs, 4, none⟩))) (fun v => Bl w [⟨w.heap.size, kc b, 50⟩, ⟨w.heap.size + 1, ZSu, 62⟩, ⟨gs, #[.int .i64 (X0 : Int), .int .u64 (X1 : Int), .int .i64 (X2 : Int), .slice ha 16 hc, .bool false], 62⟩] v) (fun _ h_ => h_) (.inr (by kernel_rfl)) rfl (by kernel_rfl) (by kernel_rfl) (by kernel_rfl) (by decide) (by kernel_rfl) (by decide) (fun _ _ _ h => h) (.inl ⟨by kernel_rfl, fun x_ hu => by kernel_rfl⟩) hB ?_
      simp only [Act.put, List.setIfInBounds_toArray, List.set_cons_zero, List.set_cons_succ, List.getElem_toArray, List.getElem_cons_zero, List.getElem_cons_succ]
      refine anyC_last (by kernel_rfl) rfl (fun K_ hQ => ?_)
      have c4 := cell_of (hB.get 2 (x := ⟨gs, #[.int .i64 (X0 : Int), .int .u64 (X1 : Int), .int .i64 (X2 : Int), .slice ha 16 hc, .bool false], 62⟩) rfl) (i := 4) rfl
      have fz := froz_of (i := 4) (hB.get 2 (x := ⟨gs, #[.int .i64 (X0 : Int), .int .u64 (X1 : Int), .int .i64 (X2 : Int), .slice ha 16 hc, .bool false], 62⟩) rfl)
      have hB2 := hB.cell 2 (x := ⟨gs, #[.int .i64 (X0 : Int), .int .u64 (X1 : Int), .int .i64 (X2 : Int), .slice ha 16 hc, .bool false], 62⟩) rfl 4 (.bool false)
      simp only [List.set_cons_zero, List.set_cons_succ] at hB2
      replace hB2 : Bl w [⟨w.heap.size, kc b, 50⟩, ⟨w.heap.size + 1, ZSu, 62⟩, ⟨gs, #[.int .i64 (X0 : Int), .int .u64 (X1 : Int), .int .i64 (X2 : Int), .slice ha 16 hc, .bool false], 62⟩] _ := hB2
      have hl2 := hide (ob_bt (unhide hlh) (hB.get 2 (x := ⟨gs, #[.int .i64 (X0 : Int), .int .u64 (X1 : Int), .int .i64 (X2 : Int), .slice ha 16 hc, .bool false], 62⟩) rfl) (show (62 : TypeId) ≠ 5 by decide) (Bt.setCell _ 4 (.bool false)))
      replace hB2 := hide hB2
      clear hB hlh
      dsimp only at c4 fz
      replace hQ := hide hQ
      go_simp
      refine (unhide hQ).out _ _ ?_
      clear hQ K_ c4 fz
      have hB := unhide hB2
      clear hB2
      generalize World.setCell _ _ _ = y9 at *
      refine any_done (by kernel_rfl) ?_
      have hrb : rightB b = false := by rw [unhide hri]; first | rfl | simp
      replace hrb := hide hrb
      replace hB := hide hB
      go_upto_region 8 with fail
      replace hB := unhide hB
      refine wp_region_lit ?_
      refine list_val (.agg #[.int .i64 (X0 : Int), .int .u64 (X1 : Int), .int .i64 (X2 : Int), .slice ha 16 hc, .bool false]) (by kernel_rfl) (exec_arr _ 62 (.tmp 3) rfl gs (by kernel_rfl) (#[.int .i64 (X0 : Int), .int .u64 (X1 : Int), .int .i64 (X2 : Int), .slice ha 16 hc, .bool false]) 62 _ (hB.get 2 (x := ⟨gs, #[.int .i64 (X0 : Int), .int .u64 (X1 : Int), .int .i64 (X2 : Int), .slice ha 16 hc, .bool false], 62⟩) rfl) Tryd.underlying62 rfl (by rw [Tryd.infoSu]; rfl)) ?_
      simp only [Act.put, List.setIfInBounds_toArray, List.set_cons_zero, List.set_cons_succ, List.getElem_toArray, List.getElem_cons_zero, List.getElem_cons_succ]
      refine list_store 62 (.tmp 2) (.tmp 49) (w.heap.size + 1) (#[.int .i64 (X0 : Int), .int .u64 (X1 : Int), .int .i64 (X2 : Int), .slice ha 16 hc, .bool false]) 62 ZSu (by kernel_rfl) rfl (by kernel_rfl) (by kernel_rfl) (hB.get 1 (x := ⟨w.heap.size + 1, ZSu, 62⟩) rfl) (by rw [Tryd.infoSu]; rfl) rfl (by simp [Value.oneCell']) ?_
      have hl3 := hide (ob_bt (unhide hl2) (hB.get 1 (x := ⟨w.heap.size + 1, ZSu, 62⟩) rfl) (show (62 : TypeId) ≠ 5 by decide) ((Bt.refl (w.heap.size + 1) _).row_self (#[.int .i64 (X0 : Int), .int .u64 (X1 : Int), .int .i64 (X2 : Int), .slice ha 16 hc, .bool false])))
      replace hB := hB.set 1 (x := ⟨w.heap.size + 1, ZSu, 62⟩) rfl (#[.int .i64 (X0 : Int), .int .u64 (X1 : Int), .int .i64 (X2 : Int), .slice ha 16 hc, .bool false])
      simp only [List.set_cons_zero, List.set_cons_succ] at hB
      generalize World.setRow _ _ _ = y10 at *
      replace hB : Bl w [⟨w.heap.size, kc b, 50⟩, ⟨w.heap.size + 1, #[.int .i64 (X0 : Int), .int .u64 (X1 : Int), .int .i64 (X2 : Int), .slice ha 16 hc, .bool false], 62⟩, ⟨gs, #[.int .i64 (X0 : Int), .int .u64 (X1 : Int), .int .i64 (X2 : Int), .slice ha 16 hc, .bool false], 62⟩] y10 := hB
      simp only [Act.put, List.setIfInBounds_toArray, List.set_cons_zero, List.set_cons_succ, List.getElem_toArray, List.getElem_cons_zero, List.getElem_cons_succ]
      refine wpList_nil ?_
      replace hB := hide hB
      go_wp2_with fail
      replace hB := unhide hB
      rw [unhide hT]
      exact bodyPost_ret (v := .agg (#[.int .i64 (X0 : Int), .int .u64 (X1 : Int), .int .i64 (X2 : Int), .slice ha 16 hc, .bool false])) (results_cell_row Tryd.results53 _ _ (w.heap.size + 1) 62 (#[.int .i64 (X0 : Int), .int .u64 (X1 : Int), .int .i64 (X2 : Int), .slice ha 16 hc, .bool false]) (0, 0) _ rfl (hB.get 1 (x := ⟨w.heap.size + 1, #[.int .i64 (X0 : Int), .int .u64 (X1 : Int), .int .i64 (X2 : Int), .slice ha 16 hc, .bool false], 62⟩) rfl) Tryd.underlying62 rfl (by rw [Tryd.infoSu]; rfl)) rfl ⟨ha, hc, by rw [unhide hrb, unhide hX0, unhide hX1, unhide hX2]; rfl, by rw [← unhide hH]; exact unhide hl3, hB.gr⟩
    case true =>
      cases z
      case false =>
        refine anyC_start 18 (fun v => Bl w [⟨w.heap.size, kc b, 50⟩, ⟨w.heap.size + 1, ZSu, 62⟩, ⟨gs, #[.int .i64 (X0 : Int), .int .u64 (X1 : Int), .int .i64 (X2 : Int), .slice ha 16 hc, .bool false], 62⟩] v) (by kernel_rfl) ?_
        replace hB := hB.drew
        replace hlh := hide ((unhide hlh).gr (Gr.refl _).drew)
        generalize World.drew _ = x0 at *
        simp only [List.size_toArray, List.length_cons, List.length_nil, Array.replicate, List.replicate]
        refine anyC_take (i := 0) (v := (.slice (some ⟨w.heap.size, 0, none⟩) 10 64)) (fun v => Bl w [⟨w.heap.size, kc b, 50⟩, ⟨w.heap.size + 1, ZSu, 62⟩, ⟨gs, #[.int .i64 (X0 : Int), .int .u64 (X1 : Int), .int .i64 (X2 : Int), .slice ha 16 hc, .bool false], 62⟩] v) (fun _ h_ => h_) (.inr (by kernel_rfl)) rfl (by kernel_rfl) (by kernel_rfl) (by kernel_rfl) (by decide) (by kernel_rfl) (by decide) (fun _ _ _ h => h) (.inl ⟨by kernel_rfl, fun x_ hu => by kernel_rfl⟩) hB ?_
        simp only [Act.put, List.setIfInBounds_toArray, List.set_cons_zero, List.set_cons_succ, List.getElem_toArray, List.getElem_cons_zero, List.getElem_cons_succ]
        refine anyC_take (i := 1) (v := (.string ⟨((b.take 10).map fun y => UInt8.ofNat y.toNat).toArray⟩)) (fun v => Bl w [⟨w.heap.size, kc b, 50⟩, ⟨w.heap.size + 1, ZSu, 62⟩, ⟨gs, #[.int .i64 (X0 : Int), .int .u64 (X1 : Int), .int .i64 (X2 : Int), .slice ha 16 hc, .bool false], 62⟩] v) (fun _ h_ => h_) (.inr (by kernel_rfl)) rfl (by kernel_rfl) (by kernel_rfl) (by kernel_rfl) (by decide) (by kernel_rfl) (by decide) (fun _ _ _ h => h) (.inl ⟨by kernel_rfl, fun x_ hu => exec_txt _ (.tmp 31) rfl (w.heap.size) 64 (b.take 10) (unhide htb) htl 50 b (hu.get 0 (x := ⟨w.heap.size, kc b, 50⟩) rfl) rfl (by kernel_rfl)⟩) hB ?_
        simp only [Act.put, List.setIfInBounds_toArray, List.set_cons_zero, List.set_cons_succ, List.getElem_toArray, List.getElem_cons_zero, List.getElem_cons_succ]
        refine anyC_take (i := 2) (v := (.bool true)) (fun v => Bl w [⟨w.heap.size, kc b, 50⟩, ⟨w.heap.size + 1, ZSu, 62⟩, ⟨gs, #[.int .i64 (X0 : Int), .int .u64 (X1 : Int), .int .i64 (X2 : Int), .slice ha 16 hc, .bool false], 62⟩] v) (fun _ h_ => h_) (.inr (by kernel_rfl)) rfl (by kernel_rfl) (by kernel_rfl) (by kernel_rfl) (by decide) (by kernel_rfl) (by decide) (fun _ _ _ h => h) (.inl ⟨by kernel_rfl, fun x_ hu => exec_eqsv _ (.tmp 32) (b.take 10) (unhide htb) true (unhide ht1) rfl (by kernel_rfl)⟩) hB ?_
        simp only [Act.put, List.setIfInBounds_toArray, List.set_cons_zero, List.set_cons_succ, List.getElem_toArray, List.getElem_cons_zero, List.getElem_cons_succ]
        refine anyC_take (i := 3) (v := (.bool true)) (fun v => Bl w [⟨w.heap.size, kc b, 50⟩, ⟨w.heap.size + 1, ZSu, 62⟩, ⟨gs, #[.int .i64 (X0 : Int), .int .u64 (X1 : Int), .int .i64 (X2 : Int), .slice ha 16 hc, .bool false], 62⟩] v) (fun _ h_ => h_) (.inr (by kernel_rfl)) rfl (by kernel_rfl) (by kernel_rfl) (by kernel_rfl) (by decide) (by kernel_rfl) (by decide) (fun _ _ _ h => h) (.inl ⟨by kernel_rfl, fun x_ hu => by kernel_rfl⟩) hB ?_
        simp only [Act.put, List.setIfInBounds_toArray, List.set_cons_zero, List.set_cons_succ, List.getElem_toArray, List.getElem_cons_zero, List.getElem_cons_succ]
        refine anyC_take (i := 4) (v := (.pointer (some ⟨gs, 0, none⟩))) (fun v => Bl w [⟨w.heap.size, kc b, 50⟩, ⟨w.heap.size + 1, ZSu, 62⟩, ⟨gs, #[.int .i64 (X0 : Int), .int .u64 (X1 : Int), .int .i64 (X2 : Int), .slice ha 16 hc, .bool false], 62⟩] v) (fun _ h_ => h_) (.inr (by kernel_rfl)) rfl (by kernel_rfl) (by kernel_rfl) (by kernel_rfl) (by decide) (by kernel_rfl) (by decide) (fun _ _ _ h => h) (.inl ⟨by kernel_rfl, fun x_ hu => by kernel_rfl⟩) hB ?_
        simp only [Act.put, List.setIfInBounds_toArray, List.set_cons_zero, List.set_cons_succ, List.getElem_toArray, List.getElem_cons_zero, List.getElem_cons_succ]
        refine anyC_take (i := 5) (v := (.int .i64 (X0 : Int))) (fun v => Bl w [⟨w.heap.size, kc b, 50⟩, ⟨w.heap.size + 1, ZSu, 62⟩, ⟨gs, #[.int .i64 (X0 : Int), .int .u64 (X1 : Int), .int .i64 (X2 : Int), .slice ha 16 hc, .bool false], 62⟩] v) (fun _ h_ => h_) (.inr (by kernel_rfl)) rfl (by kernel_rfl) (by kernel_rfl) (by kernel_rfl) (by decide) (by kernel_rfl) (by decide) (fun _ _ _ h => h) (.inl ⟨by kernel_rfl, fun x_ hu => exec_i64 _ (.tmp 35) rfl gs 0 (by kernel_rfl) _ (cell_of (hu.get 2 (x := ⟨gs, #[.int .i64 (X0 : Int), .int .u64 (X1 : Int), .int .i64 (X2 : Int), .slice ha 16 hc, .bool false], 62⟩) rfl) (i := 0) rfl)⟩) hB ?_
        simp only [Act.put, List.setIfInBounds_toArray, List.set_cons_zero, List.set_cons_succ, List.getElem_toArray, List.getElem_cons_zero, List.getElem_cons_succ]
        refine anyC_take (i := 6) (v := (.bool true)) (fun v => Bl w [⟨w.heap.size, kc b, 50⟩, ⟨w.heap.size + 1, ZSu, 62⟩, ⟨gs, #[.int .i64 (X0 : Int), .int .u64 (X1 : Int), .int .i64 (X2 : Int), .slice ha 16 hc, .bool false], 62⟩] v) (fun _ h_ => h_) (.inr (by kernel_rfl)) rfl (by kernel_rfl) (by kernel_rfl) (by kernel_rfl) (by decide) (by kernel_rfl) (by decide) (fun _ _ _ h => h) (.inl ⟨by kernel_rfl, fun x_ hu => by have h := unhide hlow rfl; go_simp⟩) hB ?_
        simp only [Act.put, List.setIfInBounds_toArray, List.set_cons_zero, List.set_cons_succ, List.getElem_toArray, List.getElem_cons_zero, List.getElem_cons_succ]
        refine anyC_take (i := 7) (v := (.bool true)) (fun v => Bl w [⟨w.heap.size, kc b, 50⟩, ⟨w.heap.size + 1, ZSu, 62⟩, ⟨gs, #[.int .i64 (X0 : Int), .int .u64 (X1 : Int), .int .i64 (X2 : Int), .slice ha 16 hc, .bool false], 62⟩] v) (fun _ h_ => h_) (.inr (by kernel_rfl)) rfl (by kernel_rfl) (by kernel_rfl) (by kernel_rfl) (by decide) (by kernel_rfl) (by decide) (fun _ _ _ h => h) (.inl ⟨by kernel_rfl, fun x_ hu => by kernel_rfl⟩) hB ?_
        simp only [Act.put, List.setIfInBounds_toArray, List.set_cons_zero, List.set_cons_succ, List.getElem_toArray, List.getElem_cons_zero, List.getElem_cons_succ]
        refine anyC_take (i := 8) (v := (.bool true)) (fun v => Bl w [⟨w.heap.size, kc b, 50⟩, ⟨w.heap.size + 1, ZSu, 62⟩, ⟨gs, #[.int .i64 (X0 : Int), .int .u64 (X1 : Int), .int .i64 (X2 : Int), .slice ha 16 hc, .bool false], 62⟩] v) (fun _ h_ => h_) (.inr (by kernel_rfl)) rfl (by kernel_rfl) (by kernel_rfl) (by kernel_rfl) (by decide) (by kernel_rfl) (by decide) (fun _ _ _ h => h) (.inl ⟨by kernel_rfl, fun x_ hu => by kernel_rfl⟩) hB ?_
        simp only [Act.put, List.setIfInBounds_toArray, List.set_cons_zero, List.set_cons_succ, List.getElem_toArray, List.getElem_cons_zero, List.getElem_cons_succ]
        refine anyC_take (i := 9) (v := (.bool false)) (fun v => Bl w [⟨w.heap.size, kc b, 50⟩, ⟨w.heap.size + 1, ZSu, 62⟩, ⟨gs, #[.int .i64 (X0 : Int), .int .u64 (X1 : Int), .int .i64 (X2 : Int), .slice ha 16 hc, .bool false], 62⟩] v) (fun _ h_ => h_) (.inr (by kernel_rfl)) rfl (by kernel_rfl) (by kernel_rfl) (by kernel_rfl) (by decide) (by kernel_rfl) (by decide) (fun _ _ _ h => h) (.inl ⟨by kernel_rfl, fun x_ hu => by kernel_rfl⟩) hB ?_
        simp only [Act.put, List.setIfInBounds_toArray, List.set_cons_zero, List.set_cons_succ, List.getElem_toArray, List.getElem_cons_zero, List.getElem_cons_succ]
        refine anyC_take (i := 10) (v := (.bool false)) (fun v => Bl w [⟨w.heap.size, kc b, 50⟩, ⟨w.heap.size + 1, ZSu, 62⟩, ⟨gs, #[.int .i64 (X0 : Int), .int .u64 (X1 : Int), .int .i64 (X2 : Int), .slice ha 16 hc, .bool false], 62⟩] v) (fun _ h_ => h_) (.inr (by kernel_rfl)) rfl (by kernel_rfl) (by kernel_rfl) (by kernel_rfl) (by decide) (by kernel_rfl) (by decide) (fun _ _ _ h => h) (.inl ⟨by kernel_rfl, fun x_ hu => by kernel_rfl⟩) hB ?_
        simp only [Act.put, List.setIfInBounds_toArray, List.set_cons_zero, List.set_cons_succ, List.getElem_toArray, List.getElem_cons_zero, List.getElem_cons_succ]
        refine anyC_take (i := 11) (v := (.bool false)) (fun v => Bl w [⟨w.heap.size, kc b, 50⟩, ⟨w.heap.size + 1, ZSu, 62⟩, ⟨gs, #[.int .i64 (X0 : Int), .int .u64 (X1 : Int), .int .i64 (X2 : Int), .slice ha 16 hc, .bool false], 62⟩] v) (fun _ h_ => h_) (.inr (by kernel_rfl)) rfl (by kernel_rfl) (by kernel_rfl) (by kernel_rfl) (by decide) (by kernel_rfl) (by decide) (fun _ _ _ h => h) (.inl ⟨by kernel_rfl, fun x_ hu => by kernel_rfl⟩) hB ?_
        simp only [Act.put, List.setIfInBounds_toArray, List.set_cons_zero, List.set_cons_succ, List.getElem_toArray, List.getElem_cons_zero, List.getElem_cons_succ]
        refine anyC_take (i := 12) (v := undef) (fun _ => True) (fun _ _ => trivial) (.inl (fun _ => trivial)) rfl (by kernel_rfl) (by kernel_rfl) (by kernel_rfl) (by decide) (by kernel_rfl) (by decide) (fun _ _ _ h => h) (.inr ⟨by kernel_rfl, rfl⟩) hB ?_
        simp only [Act.put, List.setIfInBounds_toArray, List.set_cons_zero, List.set_cons_succ, List.getElem_toArray, List.getElem_cons_zero, List.getElem_cons_succ]
        refine anyC_take (i := 13) (v := undef) (fun _ => True) (fun _ _ => trivial) (.inl (fun _ => trivial)) rfl (by kernel_rfl) (by kernel_rfl) (by kernel_rfl) (by decide) (by kernel_rfl) (by decide) (fun _ _ _ h => h) (.inr ⟨by kernel_rfl, rfl⟩) hB ?_
        simp only [Act.put, List.setIfInBounds_toArray, List.set_cons_zero, List.set_cons_succ, List.getElem_toArray, List.getElem_cons_zero, List.getElem_cons_succ]
        refine anyC_take (i := 14) (v := undef) (fun _ => True) (fun _ _ => trivial) (.inl (fun _ => trivial)) rfl (by kernel_rfl) (by kernel_rfl) (by kernel_rfl) (by decide) (by kernel_rfl) (by decide) (fun _ _ _ h => h) (.inr ⟨by kernel_rfl, rfl⟩) hB ?_
        simp only [Act.put, List.setIfInBounds_toArray, List.set_cons_zero, List.set_cons_succ, List.getElem_toArray, List.getElem_cons_zero, List.getElem_cons_succ]
        refine anyC_take (i := 15) (v := undef) (fun _ => True) (fun _ _ => trivial) (.inl (fun _ => trivial)) rfl (by kernel_rfl) (by kernel_rfl) (by kernel_rfl) (by decide) (by kernel_rfl) (by decide) (fun _ _ _ h => h) (.inr ⟨by kernel_rfl, rfl⟩) hB ?_
        simp only [Act.put, List.setIfInBounds_toArray, List.set_cons_zero, List.set_cons_succ, List.getElem_toArray, List.getElem_cons_zero, List.getElem_cons_succ]
        refine anyC_take (i := 16) (v := (.bool false)) (fun v => Bl w [⟨w.heap.size, kc b, 50⟩, ⟨w.heap.size + 1, ZSu, 62⟩, ⟨gs, #[.int .i64 (X0 : Int), .int .u64 (X1 : Int), .int .i64 (X2 : Int), .slice ha 16 hc, .bool false], 62⟩] v) (fun _ h_ => h_) (.inr (by kernel_rfl)) rfl (by kernel_rfl) (by kernel_rfl) (by kernel_rfl) (by decide) (by kernel_rfl) (by decide) (fun _ _ _ h => h) (.inl ⟨by kernel_rfl, fun x_ hu => by kernel_rfl⟩) hB ?_
        simp only [Act.put, List.setIfInBounds_toArray, List.set_cons_zero, List.set_cons_succ, List.getElem_toArray, List.getElem_cons_zero, List.getElem_cons_succ]
        refine anyC_take (i := 17) (v := (.pointer (some ⟨gs, 4, none⟩))) (fun v => Bl w [⟨w.heap.size, kc b, 50⟩, ⟨w.heap.size + 1, ZSu, 62⟩, ⟨gs, #[.int .i64 (X0 : Int), .int .u64 (X1 : Int), .int .i64 (X2 : Int), .slice ha 16 hc, .bool false], 62⟩] v) (fun _ h_ => h_) (.inr (by kernel_rfl)) rfl (by kernel_rfl) (by kernel_rfl) (by kernel_rfl) (by decide) (by kernel_rfl) (by decide) (fun _ _ _ h => h) (.inl ⟨by kernel_rfl, fun x_ hu => by kernel_rfl⟩) hB ?_
        simp only [Act.put, List.setIfInBounds_toArray, List.set_cons_zero, List.set_cons_succ, List.getElem_toArray, List.getElem_cons_zero, List.getElem_cons_succ]
        refine anyC_last (by kernel_rfl) rfl (fun K_ hQ => ?_)
        have c4 := cell_of (hB.get 2 (x := ⟨gs, #[.int .i64 (X0 : Int), .int .u64 (X1 : Int), .int .i64 (X2 : Int), .slice ha 16 hc, .bool false], 62⟩) rfl) (i := 4) rfl
        have fz := froz_of (i := 4) (hB.get 2 (x := ⟨gs, #[.int .i64 (X0 : Int), .int .u64 (X1 : Int), .int .i64 (X2 : Int), .slice ha 16 hc, .bool false], 62⟩) rfl)
        have hB2 := hB.cell 2 (x := ⟨gs, #[.int .i64 (X0 : Int), .int .u64 (X1 : Int), .int .i64 (X2 : Int), .slice ha 16 hc, .bool false], 62⟩) rfl 4 (.bool false)
        simp only [List.set_cons_zero, List.set_cons_succ] at hB2
        replace hB2 : Bl w [⟨w.heap.size, kc b, 50⟩, ⟨w.heap.size + 1, ZSu, 62⟩, ⟨gs, #[.int .i64 (X0 : Int), .int .u64 (X1 : Int), .int .i64 (X2 : Int), .slice ha 16 hc, .bool false], 62⟩] _ := hB2
        have hl2 := hide (ob_bt (unhide hlh) (hB.get 2 (x := ⟨gs, #[.int .i64 (X0 : Int), .int .u64 (X1 : Int), .int .i64 (X2 : Int), .slice ha 16 hc, .bool false], 62⟩) rfl) (show (62 : TypeId) ≠ 5 by decide) (Bt.setCell _ 4 (.bool false)))
        replace hB2 := hide hB2
        clear hB hlh
        dsimp only at c4 fz
        replace hQ := hide hQ
        go_simp
        refine (unhide hQ).out _ _ ?_
        clear hQ K_ c4 fz
        have hB := unhide hB2
        clear hB2
        generalize World.setCell _ _ _ = y9 at *
        refine any_done (by kernel_rfl) ?_
        have hrb : rightB b = false := by rw [unhide hri]; first | rfl | simp
        replace hrb := hide hrb
        replace hB := hide hB
        go_upto_region 8 with fail
        replace hB := unhide hB
        refine wp_region_lit ?_
        refine list_val (.agg #[.int .i64 (X0 : Int), .int .u64 (X1 : Int), .int .i64 (X2 : Int), .slice ha 16 hc, .bool false]) (by kernel_rfl) (exec_arr _ 62 (.tmp 3) rfl gs (by kernel_rfl) (#[.int .i64 (X0 : Int), .int .u64 (X1 : Int), .int .i64 (X2 : Int), .slice ha 16 hc, .bool false]) 62 _ (hB.get 2 (x := ⟨gs, #[.int .i64 (X0 : Int), .int .u64 (X1 : Int), .int .i64 (X2 : Int), .slice ha 16 hc, .bool false], 62⟩) rfl) Tryd.underlying62 rfl (by rw [Tryd.infoSu]; rfl)) ?_
        simp only [Act.put, List.setIfInBounds_toArray, List.set_cons_zero, List.set_cons_succ, List.getElem_toArray, List.getElem_cons_zero, List.getElem_cons_succ]
        refine list_store 62 (.tmp 2) (.tmp 49) (w.heap.size + 1) (#[.int .i64 (X0 : Int), .int .u64 (X1 : Int), .int .i64 (X2 : Int), .slice ha 16 hc, .bool false]) 62 ZSu (by kernel_rfl) rfl (by kernel_rfl) (by kernel_rfl) (hB.get 1 (x := ⟨w.heap.size + 1, ZSu, 62⟩) rfl) (by rw [Tryd.infoSu]; rfl) rfl (by simp [Value.oneCell']) ?_
        have hl3 := hide (ob_bt (unhide hl2) (hB.get 1 (x := ⟨w.heap.size + 1, ZSu, 62⟩) rfl) (show (62 : TypeId) ≠ 5 by decide) ((Bt.refl (w.heap.size + 1) _).row_self (#[.int .i64 (X0 : Int), .int .u64 (X1 : Int), .int .i64 (X2 : Int), .slice ha 16 hc, .bool false])))
        replace hB := hB.set 1 (x := ⟨w.heap.size + 1, ZSu, 62⟩) rfl (#[.int .i64 (X0 : Int), .int .u64 (X1 : Int), .int .i64 (X2 : Int), .slice ha 16 hc, .bool false])
        simp only [List.set_cons_zero, List.set_cons_succ] at hB
        generalize World.setRow _ _ _ = y10 at *
        replace hB : Bl w [⟨w.heap.size, kc b, 50⟩, ⟨w.heap.size + 1, #[.int .i64 (X0 : Int), .int .u64 (X1 : Int), .int .i64 (X2 : Int), .slice ha 16 hc, .bool false], 62⟩, ⟨gs, #[.int .i64 (X0 : Int), .int .u64 (X1 : Int), .int .i64 (X2 : Int), .slice ha 16 hc, .bool false], 62⟩] y10 := hB
        simp only [Act.put, List.setIfInBounds_toArray, List.set_cons_zero, List.set_cons_succ, List.getElem_toArray, List.getElem_cons_zero, List.getElem_cons_succ]
        refine wpList_nil ?_
        replace hB := hide hB
        go_wp2_with fail
        replace hB := unhide hB
        rw [unhide hT]
        exact bodyPost_ret (v := .agg (#[.int .i64 (X0 : Int), .int .u64 (X1 : Int), .int .i64 (X2 : Int), .slice ha 16 hc, .bool false])) (results_cell_row Tryd.results53 _ _ (w.heap.size + 1) 62 (#[.int .i64 (X0 : Int), .int .u64 (X1 : Int), .int .i64 (X2 : Int), .slice ha 16 hc, .bool false]) (0, 0) _ rfl (hB.get 1 (x := ⟨w.heap.size + 1, #[.int .i64 (X0 : Int), .int .u64 (X1 : Int), .int .i64 (X2 : Int), .slice ha 16 hc, .bool false], 62⟩) rfl) Tryd.underlying62 rfl (by rw [Tryd.infoSu]; rfl)) rfl ⟨ha, hc, by rw [unhide hrb, unhide hX0, unhide hX1, unhide hX2]; rfl, by rw [← unhide hH]; exact unhide hl3, hB.gr⟩
      case true =>
        refine anyC_start 18 (fun v => Bl w [⟨w.heap.size, kc b, 50⟩, ⟨w.heap.size + 1, ZSu, 62⟩, ⟨gs, #[.int .i64 (X0 : Int), .int .u64 (X1 : Int), .int .i64 (X2 : Int), .slice ha 16 hc, .bool false], 62⟩] v) (by kernel_rfl) ?_
        replace hB := hB.drew
        replace hlh := hide ((unhide hlh).gr (Gr.refl _).drew)
        generalize World.drew _ = x0 at *
        simp only [List.size_toArray, List.length_cons, List.length_nil, Array.replicate, List.replicate]
        refine anyC_take (i := 0) (v := (.slice (some ⟨w.heap.size, 0, none⟩) 10 64)) (fun v => Bl w [⟨w.heap.size, kc b, 50⟩, ⟨w.heap.size + 1, ZSu, 62⟩, ⟨gs, #[.int .i64 (X0 : Int), .int .u64 (X1 : Int), .int .i64 (X2 : Int), .slice ha 16 hc, .bool false], 62⟩] v) (fun _ h_ => h_) (.inr (by kernel_rfl)) rfl (by kernel_rfl) (by kernel_rfl) (by kernel_rfl) (by decide) (by kernel_rfl) (by decide) (fun _ _ _ h => h) (.inl ⟨by kernel_rfl, fun x_ hu => by kernel_rfl⟩) hB ?_
        simp only [Act.put, List.setIfInBounds_toArray, List.set_cons_zero, List.set_cons_succ, List.getElem_toArray, List.getElem_cons_zero, List.getElem_cons_succ]
        refine anyC_take (i := 1) (v := (.string ⟨((b.take 10).map fun y => UInt8.ofNat y.toNat).toArray⟩)) (fun v => Bl w [⟨w.heap.size, kc b, 50⟩, ⟨w.heap.size + 1, ZSu, 62⟩, ⟨gs, #[.int .i64 (X0 : Int), .int .u64 (X1 : Int), .int .i64 (X2 : Int), .slice ha 16 hc, .bool false], 62⟩] v) (fun _ h_ => h_) (.inr (by kernel_rfl)) rfl (by kernel_rfl) (by kernel_rfl) (by kernel_rfl) (by decide) (by kernel_rfl) (by decide) (fun _ _ _ h => h) (.inl ⟨by kernel_rfl, fun x_ hu => exec_txt _ (.tmp 31) rfl (w.heap.size) 64 (b.take 10) (unhide htb) htl 50 b (hu.get 0 (x := ⟨w.heap.size, kc b, 50⟩) rfl) rfl (by kernel_rfl)⟩) hB ?_
        simp only [Act.put, List.setIfInBounds_toArray, List.set_cons_zero, List.set_cons_succ, List.getElem_toArray, List.getElem_cons_zero, List.getElem_cons_succ]
        refine anyC_take (i := 2) (v := (.bool true)) (fun v => Bl w [⟨w.heap.size, kc b, 50⟩, ⟨w.heap.size + 1, ZSu, 62⟩, ⟨gs, #[.int .i64 (X0 : Int), .int .u64 (X1 : Int), .int .i64 (X2 : Int), .slice ha 16 hc, .bool false], 62⟩] v) (fun _ h_ => h_) (.inr (by kernel_rfl)) rfl (by kernel_rfl) (by kernel_rfl) (by kernel_rfl) (by decide) (by kernel_rfl) (by decide) (fun _ _ _ h => h) (.inl ⟨by kernel_rfl, fun x_ hu => exec_eqsv _ (.tmp 32) (b.take 10) (unhide htb) true (unhide ht1) rfl (by kernel_rfl)⟩) hB ?_
        simp only [Act.put, List.setIfInBounds_toArray, List.set_cons_zero, List.set_cons_succ, List.getElem_toArray, List.getElem_cons_zero, List.getElem_cons_succ]
        refine anyC_take (i := 3) (v := (.bool true)) (fun v => Bl w [⟨w.heap.size, kc b, 50⟩, ⟨w.heap.size + 1, ZSu, 62⟩, ⟨gs, #[.int .i64 (X0 : Int), .int .u64 (X1 : Int), .int .i64 (X2 : Int), .slice ha 16 hc, .bool false], 62⟩] v) (fun _ h_ => h_) (.inr (by kernel_rfl)) rfl (by kernel_rfl) (by kernel_rfl) (by kernel_rfl) (by decide) (by kernel_rfl) (by decide) (fun _ _ _ h => h) (.inl ⟨by kernel_rfl, fun x_ hu => by kernel_rfl⟩) hB ?_
        simp only [Act.put, List.setIfInBounds_toArray, List.set_cons_zero, List.set_cons_succ, List.getElem_toArray, List.getElem_cons_zero, List.getElem_cons_succ]
        refine anyC_take (i := 4) (v := (.pointer (some ⟨gs, 0, none⟩))) (fun v => Bl w [⟨w.heap.size, kc b, 50⟩, ⟨w.heap.size + 1, ZSu, 62⟩, ⟨gs, #[.int .i64 (X0 : Int), .int .u64 (X1 : Int), .int .i64 (X2 : Int), .slice ha 16 hc, .bool false], 62⟩] v) (fun _ h_ => h_) (.inr (by kernel_rfl)) rfl (by kernel_rfl) (by kernel_rfl) (by kernel_rfl) (by decide) (by kernel_rfl) (by decide) (fun _ _ _ h => h) (.inl ⟨by kernel_rfl, fun x_ hu => by kernel_rfl⟩) hB ?_
        simp only [Act.put, List.setIfInBounds_toArray, List.set_cons_zero, List.set_cons_succ, List.getElem_toArray, List.getElem_cons_zero, List.getElem_cons_succ]
        refine anyC_take (i := 5) (v := (.int .i64 (X0 : Int))) (fun v => Bl w [⟨w.heap.size, kc b, 50⟩, ⟨w.heap.size + 1, ZSu, 62⟩, ⟨gs, #[.int .i64 (X0 : Int), .int .u64 (X1 : Int), .int .i64 (X2 : Int), .slice ha 16 hc, .bool false], 62⟩] v) (fun _ h_ => h_) (.inr (by kernel_rfl)) rfl (by kernel_rfl) (by kernel_rfl) (by kernel_rfl) (by decide) (by kernel_rfl) (by decide) (fun _ _ _ h => h) (.inl ⟨by kernel_rfl, fun x_ hu => exec_i64 _ (.tmp 35) rfl gs 0 (by kernel_rfl) _ (cell_of (hu.get 2 (x := ⟨gs, #[.int .i64 (X0 : Int), .int .u64 (X1 : Int), .int .i64 (X2 : Int), .slice ha 16 hc, .bool false], 62⟩) rfl) (i := 0) rfl)⟩) hB ?_
        simp only [Act.put, List.setIfInBounds_toArray, List.set_cons_zero, List.set_cons_succ, List.getElem_toArray, List.getElem_cons_zero, List.getElem_cons_succ]
        refine anyC_take (i := 6) (v := (.bool true)) (fun v => Bl w [⟨w.heap.size, kc b, 50⟩, ⟨w.heap.size + 1, ZSu, 62⟩, ⟨gs, #[.int .i64 (X0 : Int), .int .u64 (X1 : Int), .int .i64 (X2 : Int), .slice ha 16 hc, .bool false], 62⟩] v) (fun _ h_ => h_) (.inr (by kernel_rfl)) rfl (by kernel_rfl) (by kernel_rfl) (by kernel_rfl) (by decide) (by kernel_rfl) (by decide) (fun _ _ _ h => h) (.inl ⟨by kernel_rfl, fun x_ hu => by have h := unhide hlow rfl; go_simp⟩) hB ?_
        simp only [Act.put, List.setIfInBounds_toArray, List.set_cons_zero, List.set_cons_succ, List.getElem_toArray, List.getElem_cons_zero, List.getElem_cons_succ]
        refine anyC_take (i := 7) (v := (.bool true)) (fun v => Bl w [⟨w.heap.size, kc b, 50⟩, ⟨w.heap.size + 1, ZSu, 62⟩, ⟨gs, #[.int .i64 (X0 : Int), .int .u64 (X1 : Int), .int .i64 (X2 : Int), .slice ha 16 hc, .bool false], 62⟩] v) (fun _ h_ => h_) (.inr (by kernel_rfl)) rfl (by kernel_rfl) (by kernel_rfl) (by kernel_rfl) (by decide) (by kernel_rfl) (by decide) (fun _ _ _ h => h) (.inl ⟨by kernel_rfl, fun x_ hu => by kernel_rfl⟩) hB ?_
        simp only [Act.put, List.setIfInBounds_toArray, List.set_cons_zero, List.set_cons_succ, List.getElem_toArray, List.getElem_cons_zero, List.getElem_cons_succ]
        refine anyC_take (i := 8) (v := (.bool true)) (fun v => Bl w [⟨w.heap.size, kc b, 50⟩, ⟨w.heap.size + 1, ZSu, 62⟩, ⟨gs, #[.int .i64 (X0 : Int), .int .u64 (X1 : Int), .int .i64 (X2 : Int), .slice ha 16 hc, .bool false], 62⟩] v) (fun _ h_ => h_) (.inr (by kernel_rfl)) rfl (by kernel_rfl) (by kernel_rfl) (by kernel_rfl) (by decide) (by kernel_rfl) (by decide) (fun _ _ _ h => h) (.inl ⟨by kernel_rfl, fun x_ hu => by kernel_rfl⟩) hB ?_
        simp only [Act.put, List.setIfInBounds_toArray, List.set_cons_zero, List.set_cons_succ, List.getElem_toArray, List.getElem_cons_zero, List.getElem_cons_succ]
        refine anyC_take (i := 9) (v := (.bool true)) (fun v => Bl w [⟨w.heap.size, kc b, 50⟩, ⟨w.heap.size + 1, ZSu, 62⟩, ⟨gs, #[.int .i64 (X0 : Int), .int .u64 (X1 : Int), .int .i64 (X2 : Int), .slice ha 16 hc, .bool false], 62⟩] v) (fun _ h_ => h_) (.inr (by kernel_rfl)) rfl (by kernel_rfl) (by kernel_rfl) (by kernel_rfl) (by decide) (by kernel_rfl) (by decide) (fun _ _ _ h => h) (.inl ⟨by kernel_rfl, fun x_ hu => by kernel_rfl⟩) hB ?_
        simp only [Act.put, List.setIfInBounds_toArray, List.set_cons_zero, List.set_cons_succ, List.getElem_toArray, List.getElem_cons_zero, List.getElem_cons_succ]
        refine anyC_take (i := 10) (v := (.bool true)) (fun v => Bl w [⟨w.heap.size, kc b, 50⟩, ⟨w.heap.size + 1, ZSu, 62⟩, ⟨gs, #[.int .i64 (X0 : Int), .int .u64 (X1 : Int), .int .i64 (X2 : Int), .slice ha 16 hc, .bool false], 62⟩] v) (fun _ h_ => h_) (.inr (by kernel_rfl)) rfl (by kernel_rfl) (by kernel_rfl) (by kernel_rfl) (by decide) (by kernel_rfl) (by decide) (fun _ _ _ h => h) (.inl ⟨by kernel_rfl, fun x_ hu => by kernel_rfl⟩) hB ?_
        simp only [Act.put, List.setIfInBounds_toArray, List.set_cons_zero, List.set_cons_succ, List.getElem_toArray, List.getElem_cons_zero, List.getElem_cons_succ]
        refine anyC_take (i := 11) (v := (.bool true)) (fun v => Bl w [⟨w.heap.size, kc b, 50⟩, ⟨w.heap.size + 1, ZSu, 62⟩, ⟨gs, #[.int .i64 (X0 : Int), .int .u64 (X1 : Int), .int .i64 (X2 : Int), .slice ha 16 hc, .bool false], 62⟩] v) (fun _ h_ => h_) (.inr (by kernel_rfl)) rfl (by kernel_rfl) (by kernel_rfl) (by kernel_rfl) (by decide) (by kernel_rfl) (by decide) (fun _ _ _ h => h) (.inl ⟨by kernel_rfl, fun x_ hu => by kernel_rfl⟩) hB ?_
        simp only [Act.put, List.setIfInBounds_toArray, List.set_cons_zero, List.set_cons_succ, List.getElem_toArray, List.getElem_cons_zero, List.getElem_cons_succ]
        refine anyC_take (i := 12) (v := (.slice (some ⟨w.heap.size, 48, none⟩) 16 16)) (fun v => Bl w [⟨w.heap.size, kc b, 50⟩, ⟨w.heap.size + 1, ZSu, 62⟩, ⟨gs, #[.int .i64 (X0 : Int), .int .u64 (X1 : Int), .int .i64 (X2 : Int), .slice ha 16 hc, .bool false], 62⟩] v) (fun _ h_ => h_) (.inr (by kernel_rfl)) rfl (by kernel_rfl) (by kernel_rfl) (by kernel_rfl) (by decide) (by kernel_rfl) (by decide) (fun _ _ _ h => h) (.inl ⟨by kernel_rfl, fun x_ hu => by kernel_rfl⟩) hB ?_
        simp only [Act.put, List.setIfInBounds_toArray, List.set_cons_zero, List.set_cons_succ, List.getElem_toArray, List.getElem_cons_zero, List.getElem_cons_succ]
        refine anyC_take (i := 13) (v := (.slice (some ⟨w.heap.size, 0, none⟩) 48 64)) (fun v => Bl w [⟨w.heap.size, kc b, 50⟩, ⟨w.heap.size + 1, ZSu, 62⟩, ⟨gs, #[.int .i64 (X0 : Int), .int .u64 (X1 : Int), .int .i64 (X2 : Int), .slice ha 16 hc, .bool false], 62⟩] v) (fun _ h_ => h_) (.inr (by kernel_rfl)) rfl (by kernel_rfl) (by kernel_rfl) (by kernel_rfl) (by decide) (by kernel_rfl) (by decide) (fun _ _ _ h => h) (.inl ⟨by kernel_rfl, fun x_ hu => by kernel_rfl⟩) hB ?_
        simp only [Act.put, List.setIfInBounds_toArray, List.set_cons_zero, List.set_cons_succ, List.getElem_toArray, List.getElem_cons_zero, List.getElem_cons_succ]
        refine anyC_one (i := 14) (by kernel_rfl) rfl (fun K_ hQ => ?_)
        refine step_callw (by kernel_rfl) 45 #[.slice (some ⟨w.heap.size, 0, none⟩) 48 64] (by kernel_rfl) ((rshort_ok (b.take 48) _ 48 64 _ (by have h := sub_lb (hB.get 0 (x := ⟨w.heap.size, kc b, 50⟩) rfl) (unhide hbb) 0 48 64 (by omega) (by omega) (by omega); rw [List.drop_zero] at h; exact h) (by omega)).mono ?_)
        rintro r y1 ⟨v1, rfl, hO, hg⟩
        refine ⟨_, rfl, ?_⟩
        replace hB := hB.more hg
        replace hlh := hide ((unhide hlh).gr hg)
        obtain ⟨sa, sc, rfl, ls⟩ := ob_lb hO (sh16_isB _ (sumL_isB _)) (sh16_len _)
        clear hO hg
        refine hQ.out _ _ hB (fun _ => ?_)
        clear hQ K_
        simp only [Act.put, List.setIfInBounds_toArray, List.set_cons_zero, List.set_cons_succ, List.getElem_toArray, List.getElem_cons_zero, List.getElem_cons_succ]
        refine anyC_one (i := 15) (by kernel_rfl) rfl (fun K_ hQ => ?_)
        refine step_callw (by kernel_rfl) 19 #[.slice (some ⟨w.heap.size, 48, none⟩) 16 16, .slice sa 16 sc] (by kernel_rfl) ((rsame_ok (b.drop 48) (sh16 (b.take 48)) _ _ 16 16 16 sc _ (by have h := sub_lb (hB.get 0 (x := ⟨w.heap.size, kc b, 50⟩) rfl) (unhide hbb) 48 16 16 (by omega) (by omega) (by omega); rw [List.take_of_length_le (by rw [List.length_drop]; omega)] at h; exact h) ls (by omega)).mono ?_)
        rintro r y2 ⟨rfl, hg⟩
        refine ⟨_, rfl, ?_⟩
        rw [← unhide ht4]
        replace hB := hB.more hg
        replace hlh := hide ((unhide hlh).gr hg)
        clear hg ls
        refine hQ.out _ _ hB (fun _ => ?_)
        clear hQ K_
        simp only [Act.put, List.setIfInBounds_toArray, List.set_cons_zero, List.set_cons_succ, List.getElem_toArray, List.getElem_cons_zero, List.getElem_cons_succ]
        refine anyC_take (i := 16) (v := (.bool t4)) (fun v => Bl w [⟨w.heap.size, kc b, 50⟩, ⟨w.heap.size + 1, ZSu, 62⟩, ⟨gs, #[.int .i64 (X0 : Int), .int .u64 (X1 : Int), .int .i64 (X2 : Int), .slice ha 16 hc, .bool false], 62⟩] v) (fun _ h_ => h_) (.inr (by kernel_rfl)) rfl (by kernel_rfl) (by kernel_rfl) (by kernel_rfl) (by decide) (by kernel_rfl) (by decide) (fun _ _ _ h => h) (.inl ⟨by kernel_rfl, fun x_ hu => by kernel_rfl⟩) hB ?_
        simp only [Act.put, List.setIfInBounds_toArray, List.set_cons_zero, List.set_cons_succ, List.getElem_toArray, List.getElem_cons_zero, List.getElem_cons_succ]
        refine anyC_take (i := 17) (v := (.pointer (some ⟨gs, 4, none⟩))) (fun v => Bl w [⟨w.heap.size, kc b, 50⟩, ⟨w.heap.size + 1, ZSu, 62⟩, ⟨gs, #[.int .i64 (X0 : Int), .int .u64 (X1 : Int), .int .i64 (X2 : Int), .slice ha 16 hc, .bool false], 62⟩] v) (fun _ h_ => h_) (.inr (by kernel_rfl)) rfl (by kernel_rfl) (by kernel_rfl) (by kernel_rfl) (by decide) (by kernel_rfl) (by decide) (fun _ _ _ h => h) (.inl ⟨by kernel_rfl, fun x_ hu => by kernel_rfl⟩) hB ?_
        simp only [Act.put, List.setIfInBounds_toArray, List.set_cons_zero, List.set_cons_succ, List.getElem_toArray, List.getElem_cons_zero, List.getElem_cons_succ]
        refine anyC_last (by kernel_rfl) rfl (fun K_ hQ => ?_)
        have c4 := cell_of (hB.get 2 (x := ⟨gs, #[.int .i64 (X0 : Int), .int .u64 (X1 : Int), .int .i64 (X2 : Int), .slice ha 16 hc, .bool false], 62⟩) rfl) (i := 4) rfl
        have fz := froz_of (i := 4) (hB.get 2 (x := ⟨gs, #[.int .i64 (X0 : Int), .int .u64 (X1 : Int), .int .i64 (X2 : Int), .slice ha 16 hc, .bool false], 62⟩) rfl)
        have hB2 := hB.cell 2 (x := ⟨gs, #[.int .i64 (X0 : Int), .int .u64 (X1 : Int), .int .i64 (X2 : Int), .slice ha 16 hc, .bool false], 62⟩) rfl 4 (.bool t4)
        simp only [List.set_cons_zero, List.set_cons_succ] at hB2
        replace hB2 : Bl w [⟨w.heap.size, kc b, 50⟩, ⟨w.heap.size + 1, ZSu, 62⟩, ⟨gs, #[.int .i64 (X0 : Int), .int .u64 (X1 : Int), .int .i64 (X2 : Int), .slice ha 16 hc, .bool t4], 62⟩] _ := hB2
        have hl2 := hide (ob_bt (unhide hlh) (hB.get 2 (x := ⟨gs, #[.int .i64 (X0 : Int), .int .u64 (X1 : Int), .int .i64 (X2 : Int), .slice ha 16 hc, .bool false], 62⟩) rfl) (show (62 : TypeId) ≠ 5 by decide) (Bt.setCell _ 4 (.bool t4)))
        replace hB2 := hide hB2
        clear hB hlh
        dsimp only at c4 fz
        replace hQ := hide hQ
        go_simp
        refine (unhide hQ).out _ _ ?_
        clear hQ K_ c4 fz
        have hB := unhide hB2
        clear hB2
        generalize World.setCell _ _ _ = y9 at *
        refine any_done (by kernel_rfl) ?_
        have hrb : rightB b = t4 := by rw [unhide hri]; first | rfl | simp
        replace hrb := hide hrb
        replace hB := hide hB
        go_upto_region 8 with fail
        replace hB := unhide hB
        refine wp_region_lit ?_
        refine list_val (.agg #[.int .i64 (X0 : Int), .int .u64 (X1 : Int), .int .i64 (X2 : Int), .slice ha 16 hc, .bool t4]) (by kernel_rfl) (exec_arr _ 62 (.tmp 3) rfl gs (by kernel_rfl) (#[.int .i64 (X0 : Int), .int .u64 (X1 : Int), .int .i64 (X2 : Int), .slice ha 16 hc, .bool t4]) 62 _ (hB.get 2 (x := ⟨gs, #[.int .i64 (X0 : Int), .int .u64 (X1 : Int), .int .i64 (X2 : Int), .slice ha 16 hc, .bool t4], 62⟩) rfl) Tryd.underlying62 rfl (by rw [Tryd.infoSu]; rfl)) ?_
        simp only [Act.put, List.setIfInBounds_toArray, List.set_cons_zero, List.set_cons_succ, List.getElem_toArray, List.getElem_cons_zero, List.getElem_cons_succ]
        refine list_store 62 (.tmp 2) (.tmp 49) (w.heap.size + 1) (#[.int .i64 (X0 : Int), .int .u64 (X1 : Int), .int .i64 (X2 : Int), .slice ha 16 hc, .bool t4]) 62 ZSu (by kernel_rfl) rfl (by kernel_rfl) (by kernel_rfl) (hB.get 1 (x := ⟨w.heap.size + 1, ZSu, 62⟩) rfl) (by rw [Tryd.infoSu]; rfl) rfl (by simp [Value.oneCell']) ?_
        have hl3 := hide (ob_bt (unhide hl2) (hB.get 1 (x := ⟨w.heap.size + 1, ZSu, 62⟩) rfl) (show (62 : TypeId) ≠ 5 by decide) ((Bt.refl (w.heap.size + 1) _).row_self (#[.int .i64 (X0 : Int), .int .u64 (X1 : Int), .int .i64 (X2 : Int), .slice ha 16 hc, .bool t4])))
        replace hB := hB.set 1 (x := ⟨w.heap.size + 1, ZSu, 62⟩) rfl (#[.int .i64 (X0 : Int), .int .u64 (X1 : Int), .int .i64 (X2 : Int), .slice ha 16 hc, .bool t4])
        simp only [List.set_cons_zero, List.set_cons_succ] at hB
        generalize World.setRow _ _ _ = y10 at *
        replace hB : Bl w [⟨w.heap.size, kc b, 50⟩, ⟨w.heap.size + 1, #[.int .i64 (X0 : Int), .int .u64 (X1 : Int), .int .i64 (X2 : Int), .slice ha 16 hc, .bool t4], 62⟩, ⟨gs, #[.int .i64 (X0 : Int), .int .u64 (X1 : Int), .int .i64 (X2 : Int), .slice ha 16 hc, .bool t4], 62⟩] y10 := hB
        simp only [Act.put, List.setIfInBounds_toArray, List.set_cons_zero, List.set_cons_succ, List.getElem_toArray, List.getElem_cons_zero, List.getElem_cons_succ]
        refine wpList_nil ?_
        replace hB := hide hB
        go_wp2_with fail
        replace hB := unhide hB
        rw [unhide hT]
        exact bodyPost_ret (v := .agg (#[.int .i64 (X0 : Int), .int .u64 (X1 : Int), .int .i64 (X2 : Int), .slice ha 16 hc, .bool t4])) (results_cell_row Tryd.results53 _ _ (w.heap.size + 1) 62 (#[.int .i64 (X0 : Int), .int .u64 (X1 : Int), .int .i64 (X2 : Int), .slice ha 16 hc, .bool t4]) (0, 0) _ rfl (hB.get 1 (x := ⟨w.heap.size + 1, #[.int .i64 (X0 : Int), .int .u64 (X1 : Int), .int .i64 (X2 : Int), .slice ha 16 hc, .bool t4], 62⟩) rfl) Tryd.underlying62 rfl (by rw [Tryd.infoSu]; rfl)) rfl ⟨ha, hc, by rw [unhide hrb, unhide hX0, unhide hX1, unhide hX2]; rfl, by rw [← unhide hH]; exact unhide hl3, hB.gr⟩
section
variable {P : Program} {md : Region.Mode} {ops : Array Oper} {Q : Exit → Act → World → Prop} {S : World → Prop}
theorem float3 (J : Bool → Bool → Value → Value → World → Prop) (p1 p2 : Nat) (F : Bool → Bool → Array Bool) (i1 i2 c : Nat) (all : Bool) {b1 b2 : Bool} {q1 q2 : Value} {l : Array Bool} {a : Act} {W : World}
    (hl : l = F b1 b2) (ha : fw2 a p1 p2 q1 q2 = a) (hJ : J b1 b2 q1 q2 W)
    (hS : ∀ v, Gr W v → S v) (hchk : chkM2 md ops F i1 i2 c all = true) (hF1 : ∀ b1 b2, (F b1 b2).setIfInBounds i1 true = F true b2) (hF2 : ∀ b1 b2, (F b1 b2).setIfInBounds i2 true = F b1 true)
    (new1 : ∀ b2 q1 q2 w, Gr W w → J false b2 q1 q2 w → ∀ K : Act → World → Prop, (∀ v w', Gr w w' → J true b2 v q2 w' → K (fw2 a p1 p2 v q2) w') → wpOp P ops Q i1 K (fw2 a p1 p2 q1 q2) w)
    (new2 : ∀ b1 q1 q2 w, Gr W w → J b1 false q1 q2 w → ∀ K : Act → World → Prop, (∀ v w', Gr w w' → J b1 true q1 v w' → K (fw2 a p1 p2 q1 v) w') → wpOp P ops Q i2 K (fw2 a p1 p2 q1 q2) w)
    (next : ∀ b1 b2 q1 q2 w, Gr W w → J b1 b2 q1 q2 w → (all = true → b1 = true ∧ b2 = true) → wpOp P ops Q c (fun a' w' => S w' ∧ Any P md ops Q S ((F b1 b2).setIfInBounds c true) a' w') (fw2 a p1 p2 q1 q2) w) : Any P md ops Q S l a W := by
  refine any_stage (fun l a' w => ∃ b1 b2 q1 q2, l = F b1 b2 ∧ a' = fw2 a p1 p2 q1 q2 ∧ Gr W w ∧ J b1 b2 q1 q2 w) ?_ ⟨b1, b2, q1, q2, hl, ha.symm, Gr.refl W, hJ⟩
  rintro l a' w ⟨b1, b2, q1, q2, rfl, rfl, gr, hJ⟩
  obtain ⟨hne, hr⟩ := chkM2_spec hchk b1 b2
  refine ⟨hne, fun i hi => ?_⟩
  rcases hr i hi with ⟨rfl, rfl⟩ | ⟨rfl, rfl⟩ | ⟨rfl, e⟩
  · exact new1 b2 q1 q2 w gr hJ _ (fun v w' g t => ⟨hS _ (gr.trans g), .inl ⟨true, b2, v, q2, hF1 false b2, rfl, gr.trans g, t⟩⟩)
  · exact new2 b1 q1 q2 w gr hJ _ (fun v w' g t => ⟨hS _ (gr.trans g), .inl ⟨b1, true, q1, v, hF2 b1 false, rfl, gr.trans g, t⟩⟩)
  · exact wpOp_mono (fun a' w' k => ⟨k.1, .inr k.2⟩) (next b1 b2 q1 q2 w gr hJ e)
end
def SJ (s : Nat) (b1 b2 : Bool) (q1 q2 : Value) (u : World) : Prop := (b1 = true → NS s u q1) ∧ (b2 = true → NS s u q2) ∧ (b1 = true → b2 = true → q1 ≠ q2)
theorem SJ.gr {s : Nat} {b1 b2 : Bool} {q1 q2 : Value} {u v : World} (h : SJ s b1 b2 q1 q2 u) (k : Gr u v) : SJ s b1 b2 q1 q2 v := ⟨fun e => (h.1 e).gr k, fun e => (h.2.1 e).gr k, h.2.2⟩
theorem SJ.begin_ (s : Nat) (q1 q2 : Value) (u : World) : SJ s false false q1 q2 u := ⟨(fun e => by cases e), (fun e => by cases e), (fun e => by cases e)⟩
theorem SJ.ne {s : Nat} {u : World} {q : Value} (h : NS s u q) : q ≠ .pointer (some ⟨u.heap.size, 0, none⟩) := by
  obtain ⟨g, rfl, _, h2⟩ := h
  intro e
  have e2 : g = u.heap.size := by simpa using e
  have := lt_of_block h2
  omega
theorem SJ.make1 {s : Nat} {b2 : Bool} {q1 q2 : Value} {u : World} (h : SJ s false b2 q1 q2 u) (hs : s ≤ u.heap.size) : SJ s true b2 (.pointer (some ⟨u.heap.size, 0, none⟩)) q2 (u.alloc (.cells ZSu 62 (0, 0))) :=
  ⟨fun _ => ⟨_, rfl, hs, blk_new _ _⟩, fun e => (h.2.1 e).gr ((Gr.refl u).alloc _), fun _ e => (SJ.ne (h.2.1 e)).symm⟩
theorem SJ.make2 {s : Nat} {b1 : Bool} {q1 q2 : Value} {u : World} (h : SJ s b1 false q1 q2 u) (hs : s ≤ u.heap.size) : SJ s b1 true q1 (.pointer (some ⟨u.heap.size, 0, none⟩)) (u.alloc (.cells ZSu 62 (0, 0))) :=
  ⟨fun e => (h.1 e).gr ((Gr.refl u).alloc _), fun _ => ⟨_, rfl, hs, blk_new _ _⟩, fun e _ => SJ.ne (h.1 e)⟩
theorem bl_join {w u v : World} {L : List Blk} (h : Bl w L u) (k : Gr u v) (M : List Blk) (hM : ∀ x ∈ M, v.heap[x.g]? = some x.obj ∧ u.heap.size ≤ x.g) (hne : M.Pairwise (fun x y => x.g ≠ y.g)) : Bl w (L ++ M) v := by
  have h1 := h.more k
  refine ⟨h1.gr, fun x hx => ?_, List.pairwise_append.2 ⟨h1.ne, hne, fun x hx y hy e => ?_⟩⟩
  · rcases List.mem_append.1 hx with hx | hx
    · exact h1.at_ x hx
    · exact ⟨(hM x hx).1, Nat.le_trans h.gr.size (hM x hx).2⟩
  · have a := lt_of_block (h.at_ x hx).1
    have b := (hM y hy).2
    omega
theorem SJ.both {w W : World} {L : List Blk} {q1 q2 : Value} {u : World} (h : SJ W.heap.size true true q1 q2 u) (hB : Bl w L W) (k : Gr W u) : ∃ g1 g2, q1 = .pointer (some ⟨g1, 0, none⟩) ∧ q2 = .pointer (some ⟨g2, 0, none⟩) ∧ Bl w (L ++ [⟨g1, ZSu, 62⟩, ⟨g2, ZSu, 62⟩]) u := by
  obtain ⟨g1, rfl, k1, h1⟩ := h.1 rfl
  obtain ⟨g2, rfl, k2, h2⟩ := h.2.1 rfl
  have hne : g1 ≠ g2 := fun e => h.2.2 rfl rfl (by rw [e])
  refine ⟨g1, g2, rfl, rfl, bl_join hB k _ (fun x hx => ?_) (List.pairwise_cons.2 ⟨fun y hy => by simp at hy; subst hy; exact hne, List.pairwise_singleton _ _⟩)⟩
  simp only [List.mem_cons, List.not_mem_nil, or_false] at hx
  rcases hx with rfl | rfl
  · exact ⟨h1, k1⟩
  · exact ⟨h2, k2⟩
def Rct (b0 b1 : List Int) (w : World) (r : Ending) (w' : World) : Prop := ∃ ha hc, r = .returned (.agg (svl (cntS b0 b1).1 ha hc (cntS b0 b1).2)) ∧ Ob w.heap.size w' (.slice ha 16 hc) (cntS b0 b1).1.hash ∧ Gr w w'
set_option maxHeartbeats 400000 in
theorem rcounts_ok (B : List (List Int)) (hB : ∀ b ∈ B, BB b) (sa : Option Addr) (n sc : Nat) (hn : 2 ≤ n) (w : World) (hL : Ls 64 w sa n sc (B.map bv)) : Calls Tryd.prog 26 #[.agg #[.slice sa n sc]] w (Rct (B.getD 0 []) (B.getD 1 []) w) := by
  obtain ⟨T, hT0⟩ : ∃ T, T = Rct (B.getD 0 []) (B.getD 1 []) w := ⟨_, rfl⟩
  rw [← hT0]
  have hBl : B.length = n := by have := hL.len; rw [List.length_map] at this; exact this
  obtain ⟨p0, o0, rfl, r0⟩ := hL.at_ 0 (by omega)
  obtain ⟨p1, o1, he, r1⟩ := hL.at_ 1 (by omega)
  rw [getD_map bv B 0 [] [] (by omega)] at r0
  rw [getD_map bv B 1 [] [] (by omega)] at r1
  have e01 : p0 = p1 ∧ o0 = o1 := by
    have := Option.some.inj he
    injection this with h1 h2 h3
    exact ⟨h1, h2⟩
  obtain ⟨rfl, rfl⟩ := e01
  clear he
  have hb0 : BB (B.getD 0 []) := hB _ (mem_of_getD (by omega))
  have hb1 : BB (B.getD 1 []) := hB _ (mem_of_getD (by omega))
  generalize B.getD 0 [] = b0 at *
  generalize B.getD 1 [] = b1 at *
  have l0 := hb0.1
  have l1 := hb1.1
  replace r0 := hide r0; replace r1 := hide r1; replace hb0 := hide hb0; replace hb1 := hide hb1
  clear hL hB
  have hT := hide hT0
  clear hT0
  go_enter Tryd.func26, Tryd.ntmps26
  go_upto_region 1 with fail
  have hB := (((Bl.nil w).new #[.slice (some ⟨p0, o0, none⟩) n sc] 38).new #[.int .i64 0, .int .u64 0, .int .i64 0, .slice none 0 0, .bool false] 62)
  simp only [size_alloc, List.nil_append, List.cons_append] at hB
  generalize World.alloc _ _ = u at *
  replace hB : Bl w [⟨w.heap.size, #[.slice (some ⟨p0, o0, none⟩) n sc], 38⟩, ⟨w.heap.size + 1, ZSu, 62⟩] u := hB
  refine any_start (S := fun v => Bl w [⟨w.heap.size, #[.slice (some ⟨p0, o0, none⟩) n sc], 38⟩, ⟨w.heap.size + 1, ZSu, 62⟩] v) (by kernel_rfl) ?_
  replace hB := hB.drew
  generalize World.drew _ = W0 at *
  simp only [List.size_toArray, List.length_cons, List.length_nil, Array.replicate, List.replicate]
  refine any_take (i := 0) (v := (.pointer (some ⟨w.heap.size, 0, none⟩))) #[false, false, false, false, false, false, false, false, false, false, false, false, false, false] rfl (by kernel_rfl) (by kernel_rfl) (by kernel_rfl) (by kernel_rfl) (fun _ _ _ h => h) (.inl ⟨by kernel_rfl, fun x_ hu => by kernel_rfl⟩) hB ?_
  simp only [Act.put, List.setIfInBounds_toArray, List.set_cons_zero, List.set_cons_succ, List.getElem_toArray, List.getElem_cons_zero, List.getElem_cons_succ]
  refine any_take (i := 1) (v := (.slice (some ⟨p0, o0, none⟩) n sc)) #[true, false, false, false, false, false, false, false, false, false, false, false, false, false] rfl (by kernel_rfl) (by kernel_rfl) (by kernel_rfl) (by kernel_rfl) (fun _ _ _ h => h) (.inl ⟨by kernel_rfl, fun x_ hu => exec_sb _ (.tmp 5) rfl (w.heap.size) 0 (by kernel_rfl) (some ⟨p0, o0, none⟩) n sc (cell_of (hu.get 0 (x := ⟨w.heap.size, #[.slice (some ⟨p0, o0, none⟩) n sc], 38⟩) rfl) (i := 0) rfl)⟩) hB ?_
  simp only [Act.put, List.setIfInBounds_toArray, List.set_cons_zero, List.set_cons_succ, List.getElem_toArray, List.getElem_cons_zero, List.getElem_cons_succ]
  refine any_take (i := 2) (v := (.pointer (some ⟨p0, o0 + 64 * 0, none⟩))) #[true, true, false, false, false, false, false, false, false, false, false, false, false, false] rfl (by kernel_rfl) (by kernel_rfl) (by kernel_rfl) (by kernel_rfl) (fun _ _ _ h => h) (.inl ⟨by kernel_rfl, fun x_ hu => exec_ib _ (.tmp 6) (.const (.int .i64 0)) rfl p0 o0 n sc 0 rfl rfl (by omega)⟩) hB ?_
  simp only [Act.put, List.setIfInBounds_toArray, List.set_cons_zero, List.set_cons_succ, List.getElem_toArray, List.getElem_cons_zero, List.getElem_cons_succ]
  refine any_take (i := 3) (v := (.agg (kc b0))) #[true, true, true, false, false, false, false, false, false, false, false, false, false, false] rfl (by kernel_rfl) (by kernel_rfl) (by kernel_rfl) (by kernel_rfl) (fun _ _ _ h => h) (.inl ⟨by kernel_rfl, fun x_ hu => exec_row _ 50 (.tmp 7) rfl p0 (o0 + 64 * 0) (by kernel_rfl) (bv b0) _ (range_gr (unhide r0) hu.gr) Tryd.underlying50 rfl (by rw [Tryd.infoB, bv_len, l0])⟩) hB ?_
  simp only [Act.put, List.setIfInBounds_toArray, List.set_cons_zero, List.set_cons_succ, List.getElem_toArray, List.getElem_cons_zero, List.getElem_cons_succ]
  refine any_take (i := 5) (v := (.pointer (some ⟨w.heap.size, 0, none⟩))) #[true, true, true, true, false, false, false, false, false, false, false, false, false, false] rfl (by kernel_rfl) (by kernel_rfl) (by kernel_rfl) (by kernel_rfl) (fun _ _ _ h => h) (.inl ⟨by kernel_rfl, fun x_ hu => by kernel_rfl⟩) hB ?_
  simp only [Act.put, List.setIfInBounds_toArray, List.set_cons_zero, List.set_cons_succ, List.getElem_toArray, List.getElem_cons_zero, List.getElem_cons_succ]
  refine any_take (i := 6) (v := (.slice (some ⟨p0, o0, none⟩) n sc)) #[true, true, true, true, false, true, false, false, false, false, false, false, false, false] rfl (by kernel_rfl) (by kernel_rfl) (by kernel_rfl) (by kernel_rfl) (fun _ _ _ h => h) (.inl ⟨by kernel_rfl, fun x_ hu => exec_sb _ (.tmp 10) rfl (w.heap.size) 0 (by kernel_rfl) (some ⟨p0, o0, none⟩) n sc (cell_of (hu.get 0 (x := ⟨w.heap.size, #[.slice (some ⟨p0, o0, none⟩) n sc], 38⟩) rfl) (i := 0) rfl)⟩) hB ?_
  simp only [Act.put, List.setIfInBounds_toArray, List.set_cons_zero, List.set_cons_succ, List.getElem_toArray, List.getElem_cons_zero, List.getElem_cons_succ]
  refine any_take (i := 7) (v := (.pointer (some ⟨p0, o0 + 64 * 1, none⟩))) #[true, true, true, true, false, true, true, false, false, false, false, false, false, false] rfl (by kernel_rfl) (by kernel_rfl) (by kernel_rfl) (by kernel_rfl) (fun _ _ _ h => h) (.inl ⟨by kernel_rfl, fun x_ hu => exec_ib _ (.tmp 11) (.const (.int .i64 1)) rfl p0 o0 n sc 1 rfl rfl (by omega)⟩) hB ?_
  simp only [Act.put, List.setIfInBounds_toArray, List.set_cons_zero, List.set_cons_succ, List.getElem_toArray, List.getElem_cons_zero, List.getElem_cons_succ]
  refine any_take (i := 8) (v := (.agg (kc b1))) #[true, true, true, true, false, true, true, true, false, false, false, false, false, false] rfl (by kernel_rfl) (by kernel_rfl) (by kernel_rfl) (by kernel_rfl) (fun _ _ _ h => h) (.inl ⟨by kernel_rfl, fun x_ hu => exec_row _ 50 (.tmp 12) rfl p0 (o0 + 64 * 1) (by kernel_rfl) (bv b1) _ (range_gr (unhide r1) hu.gr) Tryd.underlying50 rfl (by rw [Tryd.infoB, bv_len, l1])⟩) hB ?_
  simp only [Act.put, List.setIfInBounds_toArray, List.set_cons_zero, List.set_cons_succ, List.getElem_toArray, List.getElem_cons_zero, List.getElem_cons_succ]
  have hG0 := Gr.refl W0
  refine float3 (SJ W0.heap.size) 3 4 (fun b_ d_ => #[true, true, true, true, false, true, true, true, true, false, b_, d_, false, false]) 10 11 4 false (b1 := false) (b2 := false) (q1 := undef) (q2 := undef) rfl rfl (SJ.begin_ _ _ _ _) (fun v k => (hB.more hG0).more k) (by kernel_rfl) (fun b_ d_ => by cases b_ <;> cases d_ <;> rfl) (fun b_ d_ => by cases b_ <;> cases d_ <;> rfl) ?_ ?_ ?_
  all_goals simp only [fw2, Act.put, List.setIfInBounds_toArray, List.set_cons_zero, List.set_cons_succ, List.getElem_toArray, List.getElem_cons_zero, List.getElem_cons_succ]
  · intro b_ q_ p_ x_ hgx hJx K hK
    refine wpOp_step (o := _) rfl (fun K' hK' => ?_)
    refine step_val (.pointer (some ⟨x_.heap.size, 0, none⟩)) (x_.alloc (.cells ZSu 62 (0, 0))) (by kernel_rfl) (by kernel_rfl) ?_
    exact hK' _ _ (hK _ _ ((Gr.refl _).alloc _) (hJx.make1 (Nat.le_trans hG0.size hgx.size)))
  · intro b_ q_ p_ x_ hgx hJx K hK
    refine wpOp_step (o := _) rfl (fun K' hK' => ?_)
    refine step_val (.pointer (some ⟨x_.heap.size, 0, none⟩)) (x_.alloc (.cells ZSu 62 (0, 0))) (by kernel_rfl) (by kernel_rfl) ?_
    exact hK' _ _ (hK _ _ ((Gr.refl _).alloc _) (hJx.make2 (Nat.le_trans hG0.size hgx.size)))
  intro fb1 fb2 q1 q2 xa4 hg hJ hall
  clear hall
  replace hG0 := hG0.trans hg
  clear hg
  refine wpOp_step (o := _) rfl (fun K_ hQ => ?_)
  refine step_callw (by kernel_rfl) 53 #[.agg (kc b0)] (by kernel_rfl) ((rsup_ok b0 (unhide hb0) _).mono ?_)
  rintro r x4 ⟨f_a, f_c, rfl, f_o, hg⟩
  refine ⟨_, rfl, ?_⟩
  replace f_o := ob_base f_o (hB.more hG0).gr.size
  replace hG0 := hG0.trans hg
  replace hJ := hJ.gr hg
  clear hg
  refine hQ _ _ ⟨hB.more hG0, ?_⟩
  clear hQ K_
  simp only [Act.put, List.setIfInBounds_toArray, List.set_cons_zero, List.set_cons_succ, List.getElem_toArray, List.getElem_cons_zero, List.getElem_cons_succ]
  refine float3 (SJ W0.heap.size) 3 4 (fun b_ d_ => #[true, true, true, true, true, true, true, true, true, false, b_, d_, false, false]) 10 11 9 false (b1 := fb1) (b2 := fb2) (q1 := q1) (q2 := q2) rfl rfl hJ (fun v k => (hB.more hG0).more k) (by kernel_rfl) (fun b_ d_ => by cases b_ <;> cases d_ <;> rfl) (fun b_ d_ => by cases b_ <;> cases d_ <;> rfl) ?_ ?_ ?_
  all_goals simp only [fw2, Act.put, List.setIfInBounds_toArray, List.set_cons_zero, List.set_cons_succ, List.getElem_toArray, List.getElem_cons_zero, List.getElem_cons_succ]
  · intro b_ q_ p_ x_ hgx hJx K hK
    refine wpOp_step (o := _) rfl (fun K' hK' => ?_)
    refine step_val (.pointer (some ⟨x_.heap.size, 0, none⟩)) (x_.alloc (.cells ZSu 62 (0, 0))) (by kernel_rfl) (by kernel_rfl) ?_
    exact hK' _ _ (hK _ _ ((Gr.refl _).alloc _) (hJx.make1 (Nat.le_trans hG0.size hgx.size)))
  · intro b_ q_ p_ x_ hgx hJx K hK
    refine wpOp_step (o := _) rfl (fun K' hK' => ?_)
    refine step_val (.pointer (some ⟨x_.heap.size, 0, none⟩)) (x_.alloc (.cells ZSu 62 (0, 0))) (by kernel_rfl) (by kernel_rfl) ?_
    exact hK' _ _ (hK _ _ ((Gr.refl _).alloc _) (hJx.make2 (Nat.le_trans hG0.size hgx.size)))
  clear hJ
  intro fb1 fb2 q1 q2 xa9 hg hJ hall
  clear hall
  replace hG0 := hG0.trans hg
  replace f_o := f_o.gr hg
  clear hg
  refine wpOp_step (o := _) rfl (fun K_ hQ => ?_)
  refine step_callw (by kernel_rfl) 53 #[.agg (kc b1)] (by kernel_rfl) ((rsup_ok b1 (unhide hb1) _).mono ?_)
  rintro r x9 ⟨s_a, s_c, rfl, s_o, hg⟩
  refine ⟨_, rfl, ?_⟩
  replace s_o := ob_base s_o (hB.more hG0).gr.size
  replace hG0 := hG0.trans hg
  replace hJ := hJ.gr hg
  replace f_o := f_o.gr hg
  clear hg
  refine hQ _ _ ⟨hB.more hG0, ?_⟩
  clear hQ K_
  simp only [Act.put, List.setIfInBounds_toArray, List.set_cons_zero, List.set_cons_succ, List.getElem_toArray, List.getElem_cons_zero, List.getElem_cons_succ]
  refine float3 (SJ W0.heap.size) 3 4 (fun b_ d_ => #[true, true, true, true, true, true, true, true, true, true, b_, d_, false, false]) 10 11 12 true (b1 := fb1) (b2 := fb2) (q1 := q1) (q2 := q2) rfl rfl hJ (fun v k => (hB.more hG0).more k) (by kernel_rfl) (fun b_ d_ => by cases b_ <;> cases d_ <;> rfl) (fun b_ d_ => by cases b_ <;> cases d_ <;> rfl) ?_ ?_ ?_
  all_goals simp only [fw2, Act.put, List.setIfInBounds_toArray, List.set_cons_zero, List.set_cons_succ, List.getElem_toArray, List.getElem_cons_zero, List.getElem_cons_succ]
  · intro b_ q_ p_ x_ hgx hJx K hK
    refine wpOp_step (o := _) rfl (fun K' hK' => ?_)
    refine step_val (.pointer (some ⟨x_.heap.size, 0, none⟩)) (x_.alloc (.cells ZSu 62 (0, 0))) (by kernel_rfl) (by kernel_rfl) ?_
    exact hK' _ _ (hK _ _ ((Gr.refl _).alloc _) (hJx.make1 (Nat.le_trans hG0.size hgx.size)))
  · intro b_ q_ p_ x_ hgx hJx K hK
    refine wpOp_step (o := _) rfl (fun K' hK' => ?_)
    refine step_val (.pointer (some ⟨x_.heap.size, 0, none⟩)) (x_.alloc (.cells ZSu 62 (0, 0))) (by kernel_rfl) (by kernel_rfl) ?_
    exact hK' _ _ (hK _ _ ((Gr.refl _).alloc _) (hJx.make2 (Nat.le_trans hG0.size hgx.size)))
  clear hJ
  intro fb1 fb2 q1 q2 xa12 hg hJ hall
  obtain ⟨rfl, rfl⟩ := hall (by trivial)
  replace f_o := f_o.gr hg
  replace s_o := s_o.gr hg
  obtain ⟨g3, g4, rfl, rfl, hB2⟩ := hJ.both hB (hG0.trans hg)
  simp only [List.cons_append, List.nil_append] at hB2
  clear hall hJ hg hG0 hB
  have hB := hB2
  clear hB2
  refine wpOp_step (o := _) rfl (fun K_ hQ => ?_)
  rw [if_pos (by kernel_rfl)]
  refine wp_store_row 62 (.tmp 3) (.tmp 9) rfl g3 (svl (supOf b0) f_a f_c (rightB b0)) (by kernel_rfl) (by kernel_rfl) 62 ZSu (hB.get 2 (x := ⟨g3, ZSu, 62⟩) rfl) (by rw [Tryd.infoSu]; rfl) rfl (svl_one ..) ?_
  replace f_o := ob_bt f_o (hB.get 2 (x := ⟨g3, ZSu, 62⟩) rfl) (show (62 : TypeId) ≠ 5 by decide) ((Bt.refl g3 _).row_self (svl (supOf b0) f_a f_c (rightB b0)))
  replace s_o := ob_bt s_o (hB.get 2 (x := ⟨g3, ZSu, 62⟩) rfl) (show (62 : TypeId) ≠ 5 by decide) ((Bt.refl g3 _).row_self (svl (supOf b0) f_a f_c (rightB b0)))
  replace hB := hB.set 2 (x := ⟨g3, ZSu, 62⟩) rfl (svl (supOf b0) f_a f_c (rightB b0))
  simp only [List.set_cons_zero, List.set_cons_succ] at hB
  replace hB : Bl w [⟨w.heap.size, #[.slice (some ⟨p0, o0, none⟩) n sc], 38⟩, ⟨w.heap.size + 1, ZSu, 62⟩, ⟨g3, svl (supOf b0) f_a f_c (rightB b0), 62⟩, ⟨g4, ZSu, 62⟩] _ := hB
  have hBl : Bl w [⟨w.heap.size, #[.slice (some ⟨p0, o0, none⟩) n sc], 38⟩, ⟨w.heap.size + 1, ZSu, 62⟩] _ := Bl.left (M := [_, _]) hB
  generalize World.setRow _ _ _ = x12 at *
  refine hQ _ _ ⟨hBl, ?_⟩
  clear hQ K_ hBl
  simp only [Act.put, List.setIfInBounds_toArray, List.set_cons_zero, List.set_cons_succ, List.getElem_toArray, List.getElem_cons_zero, List.getElem_cons_succ]
  refine any_one (i := 13) (by kernel_rfl) rfl (fun K_ hQ => ?_)
  rw [if_pos (by kernel_rfl)]
  refine wp_store_row 62 (.tmp 4) (.tmp 14) rfl g4 (svl (supOf b1) s_a s_c (rightB b1)) (by kernel_rfl) (by kernel_rfl) 62 ZSu (hB.get 3 (x := ⟨g4, ZSu, 62⟩) rfl) (by rw [Tryd.infoSu]; rfl) rfl (svl_one ..) ?_
  replace f_o := ob_bt f_o (hB.get 3 (x := ⟨g4, ZSu, 62⟩) rfl) (show (62 : TypeId) ≠ 5 by decide) ((Bt.refl g4 _).row_self (svl (supOf b1) s_a s_c (rightB b1)))
  replace s_o := ob_bt s_o (hB.get 3 (x := ⟨g4, ZSu, 62⟩) rfl) (show (62 : TypeId) ≠ 5 by decide) ((Bt.refl g4 _).row_self (svl (supOf b1) s_a s_c (rightB b1)))
  replace hB := hB.set 3 (x := ⟨g4, ZSu, 62⟩) rfl (svl (supOf b1) s_a s_c (rightB b1))
  simp only [List.set_cons_zero, List.set_cons_succ] at hB
  replace hB : Bl w [⟨w.heap.size, #[.slice (some ⟨p0, o0, none⟩) n sc], 38⟩, ⟨w.heap.size + 1, ZSu, 62⟩, ⟨g3, svl (supOf b0) f_a f_c (rightB b0), 62⟩, ⟨g4, svl (supOf b1) s_a s_c (rightB b1), 62⟩] _ := hB
  have hBl : Bl w [⟨w.heap.size, #[.slice (some ⟨p0, o0, none⟩) n sc], 38⟩, ⟨w.heap.size + 1, ZSu, 62⟩] _ := Bl.left (M := [_, _]) hB
  generalize World.setRow _ _ _ = x13 at *
  refine hQ.out _ _ hBl (fun _ => ?_)
  clear hQ K_ hBl
  try simp only [Act.put, List.setIfInBounds_toArray, List.set_cons_zero, List.set_cons_succ, List.getElem_toArray, List.getElem_cons_zero, List.getElem_cons_succ]
  refine any_done (by kernel_rfl) ?_
  obtain ⟨V0, hV0⟩ : ∃ X, X = svl (supOf b0) f_a f_c (rightB b0) := ⟨_, rfl⟩
  obtain ⟨V1, hV1⟩ : ∃ X, X = svl (supOf b1) s_a s_c (rightB b1) := ⟨_, rfl⟩
  rw [← hV0, ← hV1] at hB ⊢
  have z0 : V0.size = 5 := by rw [hV0]; rfl
  have z1 : V1.size = 5 := by rw [hV1]; rfl
  have y0 : V0.all (·.oneCell') = true := by rw [hV0]; exact svl_one ..
  have y1 : V1.all (·.oneCell') = true := by rw [hV1]; exact svl_one ..
  replace hV0 := hide hV0; replace hV1 := hide hV1; replace y0 := hide y0; replace y1 := hide y1
  replace hB : Bl w [⟨w.heap.size, #[.slice (some ⟨p0, o0, none⟩) n sc], 38⟩, ⟨w.heap.size + 1, ZSu, 62⟩, ⟨g3, V0, 62⟩, ⟨g4, V1, 62⟩] x13 := hB
  obtain ⟨ra, hra⟩ : ∃ x, x = rightB b0 := ⟨_, rfl⟩
  obtain ⟨rb, hrb⟩ : ∃ x, x = rightB b1 := ⟨_, rfl⟩
  obtain ⟨ta, hta⟩ : ∃ x, x = (supOf b0).turn := ⟨_, rfl⟩
  obtain ⟨tb, htb⟩ : ∃ x, x = (supOf b1).turn := ⟨_, rfl⟩
  replace hra := hide hra; replace hrb := hide hrb; replace hta := hide hta; replace htb := hide htb; replace f_o := hide f_o; replace s_o := hide s_o
  replace hB := hide hB
  go_upto_region 2 with fail
  replace hB := unhide hB
  have k3 := (hB.get 2 (x := ⟨g3, V0, 62⟩) rfl)
  have k4 := (hB.get 3 (x := ⟨g4, V1, 62⟩) rfl)
  dsimp only at k3 k4
  have c3r : x13.cell? ⟨g3, 4, none⟩ = some (.bool ra) := by rw [unhide hV0] at k3; rw [unhide hra]; exact cell_of k3 (i := 4) rfl
  have c4r : x13.cell? ⟨g4, 4, none⟩ = some (.bool rb) := by rw [unhide hV1] at k4; rw [unhide hrb]; exact cell_of k4 (i := 4) rfl
  have c3t : x13.cell? ⟨g3, 1, none⟩ = some (.int .u64 (ta : Int)) := by rw [unhide hV0] at k3; rw [unhide hta]; exact cell_of k3 (i := 1) rfl
  have c4t : x13.cell? ⟨g4, 1, none⟩ = some (.int .u64 (tb : Int)) := by rw [unhide hV1] at k4; rw [unhide htb]; exact cell_of k4 (i := 1) rfl
  clear k3 k4
  replace c3r := hide c3r; replace c4r := hide c4r; replace c3t := hide c3t; replace c4t := hide c4t
  cases ra
  case false =>
    refine wp_region_lit ?_
    refine list_val (.pointer (some ⟨g3, 4, none⟩)) (by kernel_rfl) (by kernel_rfl) ?_
    simp only [Act.put, List.setIfInBounds_toArray, List.set_cons_zero, List.set_cons_succ, List.getElem_toArray, List.getElem_cons_zero, List.getElem_cons_succ]
    refine list_val (.bool false) (by kernel_rfl) (exec_bool _ (.tmp 15) rfl g3 4 (by kernel_rfl) _ (unhide c3r)) ?_
    simp only [Act.put, List.setIfInBounds_toArray, List.set_cons_zero, List.set_cons_succ, List.getElem_toArray, List.getElem_cons_zero, List.getElem_cons_succ]
    refine list_val (.bool true) (by kernel_rfl) (by kernel_rfl) ?_
    simp only [Act.put, List.setIfInBounds_toArray, List.set_cons_zero, List.set_cons_succ, List.getElem_toArray, List.getElem_cons_zero, List.getElem_cons_succ]
    refine list_val_offs 9 (.bool true) (by kernel_rfl) (by kernel_rfl) (by kernel_rfl) ?_
    simp only [List.drop_succ_cons, List.drop_zero, List.take_succ_cons, List.take_zero, putU]
    simp only [Act.put, List.setIfInBounds_toArray, List.set_cons_zero, List.set_cons_succ, List.getElem_toArray, List.getElem_cons_zero, List.getElem_cons_succ]
    refine list_val (.bool true) (by kernel_rfl) (by kernel_rfl) ?_
    simp only [Act.put, List.setIfInBounds_toArray, List.set_cons_zero, List.set_cons_succ, List.getElem_toArray, List.getElem_cons_zero, List.getElem_cons_succ]
    refine wpList_nil ?_
    have hcn : Hid (cntS b0 b1 = (supOf b1, rightB b1)) := by
      show cntS b0 b1 = _
      unfold cntS
      rw [if_pos (.inl (unhide hra).symm)]
    replace hB := hide hB
    go_upto_region 3 with fail
    replace hB := unhide hB
    refine wp_region_lit ?_
    refine list_val (.agg (V1)) (by kernel_rfl) (exec_arr _ 62 (.tmp 4) rfl g4 (by kernel_rfl) (V1) 62 _ (hB.get 3 (x := ⟨g4, V1, 62⟩) rfl) Tryd.underlying62 rfl (by rw [Tryd.infoSu, z1])) ?_
    simp only [Act.put, List.setIfInBounds_toArray, List.set_cons_zero, List.set_cons_succ, List.getElem_toArray, List.getElem_cons_zero, List.getElem_cons_succ]
    refine list_store 62 (.tmp 2) (.tmp 29) (w.heap.size + 1) (V1) 62 ZSu (by kernel_rfl) rfl (by kernel_rfl) (by kernel_rfl) (hB.get 1 (x := ⟨w.heap.size + 1, ZSu, 62⟩) rfl) (by rw [Tryd.infoSu, z1]) ((show ZSu.size = 5 from rfl).trans z1.symm) (unhide y1) ?_
    have hl3 := hide (ob_bt (unhide s_o) (hB.get 1 (x := ⟨w.heap.size + 1, ZSu, 62⟩) rfl) (show (62 : TypeId) ≠ 5 by decide) ((Bt.refl (w.heap.size + 1) _).row_self (V1)))
    replace hB := hB.set 1 (x := ⟨w.heap.size + 1, ZSu, 62⟩) rfl (V1)
    simp only [List.set_cons_zero, List.set_cons_succ] at hB
    generalize World.setRow _ _ _ = y10 at *
    replace hB : Bl w [⟨w.heap.size, #[.slice (some ⟨p0, o0, none⟩) n sc], 38⟩, ⟨w.heap.size + 1, V1, 62⟩, ⟨g3, V0, 62⟩, ⟨g4, V1, 62⟩] y10 := hB
    simp only [Act.put, List.setIfInBounds_toArray, List.set_cons_zero, List.set_cons_succ, List.getElem_toArray, List.getElem_cons_zero, List.getElem_cons_succ]
    refine wpList_nil ?_
    replace hB := hide hB
    go_wp2_with fail
    replace hB := unhide hB
    rw [unhide hT]
    exact bodyPost_ret (v := .agg (V1)) (results_cell_row Tryd.results26 _ _ (w.heap.size + 1) 62 (V1) (0, 0) _ rfl (hB.get 1 (x := ⟨w.heap.size + 1, V1, 62⟩) rfl) Tryd.underlying62 rfl (by rw [Tryd.infoSu, z1])) rfl ⟨s_a, s_c, by rw [unhide hcn, unhide hV1], by rw [unhide hcn]; exact unhide hl3, hB.gr⟩
  case true =>
    cases rb
    case false =>
      refine wp_region_lit ?_
      refine list_val (.pointer (some ⟨g3, 4, none⟩)) (by kernel_rfl) (by kernel_rfl) ?_
      simp only [Act.put, List.setIfInBounds_toArray, List.set_cons_zero, List.set_cons_succ, List.getElem_toArray, List.getElem_cons_zero, List.getElem_cons_succ]
      refine list_val (.bool true) (by kernel_rfl) (exec_bool _ (.tmp 15) rfl g3 4 (by kernel_rfl) _ (unhide c3r)) ?_
      simp only [Act.put, List.setIfInBounds_toArray, List.set_cons_zero, List.set_cons_succ, List.getElem_toArray, List.getElem_cons_zero, List.getElem_cons_succ]
      refine list_val (.bool false) (by kernel_rfl) (by kernel_rfl) ?_
      simp only [Act.put, List.setIfInBounds_toArray, List.set_cons_zero, List.set_cons_succ, List.getElem_toArray, List.getElem_cons_zero, List.getElem_cons_succ]
      refine list_val (.bool false) (by kernel_rfl) (by kernel_rfl) ?_
      simp only [Act.put, List.setIfInBounds_toArray, List.set_cons_zero, List.set_cons_succ, List.getElem_toArray, List.getElem_cons_zero, List.getElem_cons_succ]
      refine list_val (.pointer (some ⟨g4, 4, none⟩)) (by kernel_rfl) (by kernel_rfl) ?_
      simp only [Act.put, List.setIfInBounds_toArray, List.set_cons_zero, List.set_cons_succ, List.getElem_toArray, List.getElem_cons_zero, List.getElem_cons_succ]
      refine list_val (.bool false) (by kernel_rfl) (exec_bool _ (.tmp 19) rfl g4 4 (by kernel_rfl) _ (unhide c4r)) ?_
      simp only [Act.put, List.setIfInBounds_toArray, List.set_cons_zero, List.set_cons_succ, List.getElem_toArray, List.getElem_cons_zero, List.getElem_cons_succ]
      refine list_val_offs 5 (.bool false) (by kernel_rfl) (by kernel_rfl) (by kernel_rfl) ?_
      simp only [List.drop_succ_cons, List.drop_zero, List.take_succ_cons, List.take_zero, putU]
      simp only [Act.put, List.setIfInBounds_toArray, List.set_cons_zero, List.set_cons_succ, List.getElem_toArray, List.getElem_cons_zero, List.getElem_cons_succ]
      refine list_val (.bool false) (by kernel_rfl) (by kernel_rfl) ?_
      simp only [Act.put, List.setIfInBounds_toArray, List.set_cons_zero, List.set_cons_succ, List.getElem_toArray, List.getElem_cons_zero, List.getElem_cons_succ]
      refine list_val (.bool false) (by kernel_rfl) (by kernel_rfl) ?_
      simp only [Act.put, List.setIfInBounds_toArray, List.set_cons_zero, List.set_cons_succ, List.getElem_toArray, List.getElem_cons_zero, List.getElem_cons_succ]
      refine wpList_nil ?_
      have hcn : Hid (cntS b0 b1 = (supOf b0, rightB b0)) := by
        show cntS b0 b1 = _
        unfold cntS
        rw [if_neg (by rw [← unhide hra, ← unhide hrb]; simp)]
      replace hB := hide hB
      go_upto_region 4 with fail
      replace hB := unhide hB
      refine wp_region_lit ?_
      refine list_val (.agg (V0)) (by kernel_rfl) (exec_arr _ 62 (.tmp 3) rfl g3 (by kernel_rfl) (V0) 62 _ (hB.get 2 (x := ⟨g3, V0, 62⟩) rfl) Tryd.underlying62 rfl (by rw [Tryd.infoSu, z0])) ?_
      simp only [Act.put, List.setIfInBounds_toArray, List.set_cons_zero, List.set_cons_succ, List.getElem_toArray, List.getElem_cons_zero, List.getElem_cons_succ]
      refine list_store 62 (.tmp 2) (.tmp 30) (w.heap.size + 1) (V0) 62 ZSu (by kernel_rfl) rfl (by kernel_rfl) (by kernel_rfl) (hB.get 1 (x := ⟨w.heap.size + 1, ZSu, 62⟩) rfl) (by rw [Tryd.infoSu, z0]) ((show ZSu.size = 5 from rfl).trans z0.symm) (unhide y0) ?_
      have hl3 := hide (ob_bt (unhide f_o) (hB.get 1 (x := ⟨w.heap.size + 1, ZSu, 62⟩) rfl) (show (62 : TypeId) ≠ 5 by decide) ((Bt.refl (w.heap.size + 1) _).row_self (V0)))
      replace hB := hB.set 1 (x := ⟨w.heap.size + 1, ZSu, 62⟩) rfl (V0)
      simp only [List.set_cons_zero, List.set_cons_succ] at hB
      generalize World.setRow _ _ _ = y10 at *
      replace hB : Bl w [⟨w.heap.size, #[.slice (some ⟨p0, o0, none⟩) n sc], 38⟩, ⟨w.heap.size + 1, V0, 62⟩, ⟨g3, V0, 62⟩, ⟨g4, V1, 62⟩] y10 := hB
      simp only [Act.put, List.setIfInBounds_toArray, List.set_cons_zero, List.set_cons_succ, List.getElem_toArray, List.getElem_cons_zero, List.getElem_cons_succ]
      refine wpList_nil ?_
      replace hB := hide hB
      go_wp2_with fail
      replace hB := unhide hB
      rw [unhide hT]
      exact bodyPost_ret (v := .agg (V0)) (results_cell_row Tryd.results26 _ _ (w.heap.size + 1) 62 (V0) (0, 0) _ rfl (hB.get 1 (x := ⟨w.heap.size + 1, V0, 62⟩) rfl) Tryd.underlying62 rfl (by rw [Tryd.infoSu, z0])) rfl ⟨f_a, f_c, by rw [unhide hcn, unhide hV0], by rw [unhide hcn]; exact unhide hl3, hB.gr⟩
    case true =>
      by_cases hlt : ta < tb
      · skip
        have tI : (ta : Int) < (tb : Int) := by omega
        refine wp_region_lit ?_
        refine list_val (.pointer (some ⟨g3, 4, none⟩)) (by kernel_rfl) (by kernel_rfl) ?_
        simp only [Act.put, List.setIfInBounds_toArray, List.set_cons_zero, List.set_cons_succ, List.getElem_toArray, List.getElem_cons_zero, List.getElem_cons_succ]
        refine list_val (.bool true) (by kernel_rfl) (exec_bool _ (.tmp 15) rfl g3 4 (by kernel_rfl) _ (unhide c3r)) ?_
        simp only [Act.put, List.setIfInBounds_toArray, List.set_cons_zero, List.set_cons_succ, List.getElem_toArray, List.getElem_cons_zero, List.getElem_cons_succ]
        refine list_val (.bool false) (by kernel_rfl) (by kernel_rfl) ?_
        simp only [Act.put, List.setIfInBounds_toArray, List.set_cons_zero, List.set_cons_succ, List.getElem_toArray, List.getElem_cons_zero, List.getElem_cons_succ]
        refine list_val (.bool false) (by kernel_rfl) (by kernel_rfl) ?_
        simp only [Act.put, List.setIfInBounds_toArray, List.set_cons_zero, List.set_cons_succ, List.getElem_toArray, List.getElem_cons_zero, List.getElem_cons_succ]
        refine list_val (.pointer (some ⟨g4, 4, none⟩)) (by kernel_rfl) (by kernel_rfl) ?_
        simp only [Act.put, List.setIfInBounds_toArray, List.set_cons_zero, List.set_cons_succ, List.getElem_toArray, List.getElem_cons_zero, List.getElem_cons_succ]
        refine list_val (.bool true) (by kernel_rfl) (exec_bool _ (.tmp 19) rfl g4 4 (by kernel_rfl) _ (unhide c4r)) ?_
        simp only [Act.put, List.setIfInBounds_toArray, List.set_cons_zero, List.set_cons_succ, List.getElem_toArray, List.getElem_cons_zero, List.getElem_cons_succ]
        refine list_val (.bool true) (by kernel_rfl) (by kernel_rfl) ?_
        simp only [Act.put, List.setIfInBounds_toArray, List.set_cons_zero, List.set_cons_succ, List.getElem_toArray, List.getElem_cons_zero, List.getElem_cons_succ]
        refine list_val (.pointer (some ⟨g4, 1, none⟩)) (by kernel_rfl) (by kernel_rfl) ?_
        simp only [Act.put, List.setIfInBounds_toArray, List.set_cons_zero, List.set_cons_succ, List.getElem_toArray, List.getElem_cons_zero, List.getElem_cons_succ]
        refine list_val (.int .u64 (tb : Int)) (by kernel_rfl) (exec_u64 _ (.tmp 22) rfl g4 1 (by kernel_rfl) _ (unhide c4t)) ?_
        simp only [Act.put, List.setIfInBounds_toArray, List.set_cons_zero, List.set_cons_succ, List.getElem_toArray, List.getElem_cons_zero, List.getElem_cons_succ]
        refine list_val (.pointer (some ⟨g3, 1, none⟩)) (by kernel_rfl) (by kernel_rfl) ?_
        simp only [Act.put, List.setIfInBounds_toArray, List.set_cons_zero, List.set_cons_succ, List.getElem_toArray, List.getElem_cons_zero, List.getElem_cons_succ]
        refine list_val (.int .u64 (ta : Int)) (by kernel_rfl) (exec_u64 _ (.tmp 24) rfl g3 1 (by kernel_rfl) _ (unhide c3t)) ?_
        simp only [Act.put, List.setIfInBounds_toArray, List.set_cons_zero, List.set_cons_succ, List.getElem_toArray, List.getElem_cons_zero, List.getElem_cons_succ]
        refine list_val (.bool true) (by kernel_rfl) (by go_simp) ?_
        simp only [Act.put, List.setIfInBounds_toArray, List.set_cons_zero, List.set_cons_succ, List.getElem_toArray, List.getElem_cons_zero, List.getElem_cons_succ]
        refine list_val (.bool true) (by kernel_rfl) (by kernel_rfl) ?_
        simp only [Act.put, List.setIfInBounds_toArray, List.set_cons_zero, List.set_cons_succ, List.getElem_toArray, List.getElem_cons_zero, List.getElem_cons_succ]
        refine list_val (.bool true) (by kernel_rfl) (by kernel_rfl) ?_
        simp only [Act.put, List.setIfInBounds_toArray, List.set_cons_zero, List.set_cons_succ, List.getElem_toArray, List.getElem_cons_zero, List.getElem_cons_succ]
        refine wpList_nil ?_
        have hcn : Hid (cntS b0 b1 = (supOf b1, rightB b1)) := by
          show cntS b0 b1 = _
          unfold cntS
          rw [if_pos (.inr ⟨(unhide hrb).symm, by rw [← unhide hta, ← unhide htb]; exact hlt⟩)]
        replace hB := hide hB
        go_upto_region 3 with fail
        replace hB := unhide hB
        refine wp_region_lit ?_
        refine list_val (.agg (V1)) (by kernel_rfl) (exec_arr _ 62 (.tmp 4) rfl g4 (by kernel_rfl) (V1) 62 _ (hB.get 3 (x := ⟨g4, V1, 62⟩) rfl) Tryd.underlying62 rfl (by rw [Tryd.infoSu, z1])) ?_
        simp only [Act.put, List.setIfInBounds_toArray, List.set_cons_zero, List.set_cons_succ, List.getElem_toArray, List.getElem_cons_zero, List.getElem_cons_succ]
        refine list_store 62 (.tmp 2) (.tmp 29) (w.heap.size + 1) (V1) 62 ZSu (by kernel_rfl) rfl (by kernel_rfl) (by kernel_rfl) (hB.get 1 (x := ⟨w.heap.size + 1, ZSu, 62⟩) rfl) (by rw [Tryd.infoSu, z1]) ((show ZSu.size = 5 from rfl).trans z1.symm) (unhide y1) ?_
        have hl3 := hide (ob_bt (unhide s_o) (hB.get 1 (x := ⟨w.heap.size + 1, ZSu, 62⟩) rfl) (show (62 : TypeId) ≠ 5 by decide) ((Bt.refl (w.heap.size + 1) _).row_self (V1)))
        replace hB := hB.set 1 (x := ⟨w.heap.size + 1, ZSu, 62⟩) rfl (V1)
        simp only [List.set_cons_zero, List.set_cons_succ] at hB
        generalize World.setRow _ _ _ = y10 at *
        replace hB : Bl w [⟨w.heap.size, #[.slice (some ⟨p0, o0, none⟩) n sc], 38⟩, ⟨w.heap.size + 1, V1, 62⟩, ⟨g3, V0, 62⟩, ⟨g4, V1, 62⟩] y10 := hB
        simp only [Act.put, List.setIfInBounds_toArray, List.set_cons_zero, List.set_cons_succ, List.getElem_toArray, List.getElem_cons_zero, List.getElem_cons_succ]
        refine wpList_nil ?_
        replace hB := hide hB
        go_wp2_with fail
        replace hB := unhide hB
        rw [unhide hT]
        exact bodyPost_ret (v := .agg (V1)) (results_cell_row Tryd.results26 _ _ (w.heap.size + 1) 62 (V1) (0, 0) _ rfl (hB.get 1 (x := ⟨w.heap.size + 1, V1, 62⟩) rfl) Tryd.underlying62 rfl (by rw [Tryd.infoSu, z1])) rfl ⟨s_a, s_c, by rw [unhide hcn, unhide hV1], by rw [unhide hcn]; exact unhide hl3, hB.gr⟩
      have tI : ¬ (ta : Int) < (tb : Int) := by omega
      refine wp_region_lit ?_
      refine list_val (.pointer (some ⟨g3, 4, none⟩)) (by kernel_rfl) (by kernel_rfl) ?_
      simp only [Act.put, List.setIfInBounds_toArray, List.set_cons_zero, List.set_cons_succ, List.getElem_toArray, List.getElem_cons_zero, List.getElem_cons_succ]
      refine list_val (.bool true) (by kernel_rfl) (exec_bool _ (.tmp 15) rfl g3 4 (by kernel_rfl) _ (unhide c3r)) ?_
      simp only [Act.put, List.setIfInBounds_toArray, List.set_cons_zero, List.set_cons_succ, List.getElem_toArray, List.getElem_cons_zero, List.getElem_cons_succ]
      refine list_val (.bool false) (by kernel_rfl) (by kernel_rfl) ?_
      simp only [Act.put, List.setIfInBounds_toArray, List.set_cons_zero, List.set_cons_succ, List.getElem_toArray, List.getElem_cons_zero, List.getElem_cons_succ]
      refine list_val (.bool false) (by kernel_rfl) (by kernel_rfl) ?_
      simp only [Act.put, List.setIfInBounds_toArray, List.set_cons_zero, List.set_cons_succ, List.getElem_toArray, List.getElem_cons_zero, List.getElem_cons_succ]
      refine list_val (.pointer (some ⟨g4, 4, none⟩)) (by kernel_rfl) (by kernel_rfl) ?_
      simp only [Act.put, List.setIfInBounds_toArray, List.set_cons_zero, List.set_cons_succ, List.getElem_toArray, List.getElem_cons_zero, List.getElem_cons_succ]
      refine list_val (.bool true) (by kernel_rfl) (exec_bool _ (.tmp 19) rfl g4 4 (by kernel_rfl) _ (unhide c4r)) ?_
      simp only [Act.put, List.setIfInBounds_toArray, List.set_cons_zero, List.set_cons_succ, List.getElem_toArray, List.getElem_cons_zero, List.getElem_cons_succ]
      refine list_val (.bool true) (by kernel_rfl) (by kernel_rfl) ?_
      simp only [Act.put, List.setIfInBounds_toArray, List.set_cons_zero, List.set_cons_succ, List.getElem_toArray, List.getElem_cons_zero, List.getElem_cons_succ]
      refine list_val (.pointer (some ⟨g4, 1, none⟩)) (by kernel_rfl) (by kernel_rfl) ?_
      simp only [Act.put, List.setIfInBounds_toArray, List.set_cons_zero, List.set_cons_succ, List.getElem_toArray, List.getElem_cons_zero, List.getElem_cons_succ]
      refine list_val (.int .u64 (tb : Int)) (by kernel_rfl) (exec_u64 _ (.tmp 22) rfl g4 1 (by kernel_rfl) _ (unhide c4t)) ?_
      simp only [Act.put, List.setIfInBounds_toArray, List.set_cons_zero, List.set_cons_succ, List.getElem_toArray, List.getElem_cons_zero, List.getElem_cons_succ]
      refine list_val (.pointer (some ⟨g3, 1, none⟩)) (by kernel_rfl) (by kernel_rfl) ?_
      simp only [Act.put, List.setIfInBounds_toArray, List.set_cons_zero, List.set_cons_succ, List.getElem_toArray, List.getElem_cons_zero, List.getElem_cons_succ]
      refine list_val (.int .u64 (ta : Int)) (by kernel_rfl) (exec_u64 _ (.tmp 24) rfl g3 1 (by kernel_rfl) _ (unhide c3t)) ?_
      simp only [Act.put, List.setIfInBounds_toArray, List.set_cons_zero, List.set_cons_succ, List.getElem_toArray, List.getElem_cons_zero, List.getElem_cons_succ]
      refine list_val (.bool false) (by kernel_rfl) (by go_simp) ?_
      simp only [Act.put, List.setIfInBounds_toArray, List.set_cons_zero, List.set_cons_succ, List.getElem_toArray, List.getElem_cons_zero, List.getElem_cons_succ]
      refine list_val (.bool false) (by kernel_rfl) (by kernel_rfl) ?_
      simp only [Act.put, List.setIfInBounds_toArray, List.set_cons_zero, List.set_cons_succ, List.getElem_toArray, List.getElem_cons_zero, List.getElem_cons_succ]
      refine list_val (.bool false) (by kernel_rfl) (by kernel_rfl) ?_
      simp only [Act.put, List.setIfInBounds_toArray, List.set_cons_zero, List.set_cons_succ, List.getElem_toArray, List.getElem_cons_zero, List.getElem_cons_succ]
      refine wpList_nil ?_
      have hcn : Hid (cntS b0 b1 = (supOf b0, rightB b0)) := by
        show cntS b0 b1 = _
        unfold cntS
        rw [if_neg (by rw [← unhide hra, ← unhide hrb, ← unhide hta, ← unhide htb]; simp; omega)]
      replace hB := hide hB
      go_upto_region 4 with fail
      replace hB := unhide hB
      refine wp_region_lit ?_
      refine list_val (.agg (V0)) (by kernel_rfl) (exec_arr _ 62 (.tmp 3) rfl g3 (by kernel_rfl) (V0) 62 _ (hB.get 2 (x := ⟨g3, V0, 62⟩) rfl) Tryd.underlying62 rfl (by rw [Tryd.infoSu, z0])) ?_
      simp only [Act.put, List.setIfInBounds_toArray, List.set_cons_zero, List.set_cons_succ, List.getElem_toArray, List.getElem_cons_zero, List.getElem_cons_succ]
      refine list_store 62 (.tmp 2) (.tmp 30) (w.heap.size + 1) (V0) 62 ZSu (by kernel_rfl) rfl (by kernel_rfl) (by kernel_rfl) (hB.get 1 (x := ⟨w.heap.size + 1, ZSu, 62⟩) rfl) (by rw [Tryd.infoSu, z0]) ((show ZSu.size = 5 from rfl).trans z0.symm) (unhide y0) ?_
      have hl3 := hide (ob_bt (unhide f_o) (hB.get 1 (x := ⟨w.heap.size + 1, ZSu, 62⟩) rfl) (show (62 : TypeId) ≠ 5 by decide) ((Bt.refl (w.heap.size + 1) _).row_self (V0)))
      replace hB := hB.set 1 (x := ⟨w.heap.size + 1, ZSu, 62⟩) rfl (V0)
      simp only [List.set_cons_zero, List.set_cons_succ] at hB
      generalize World.setRow _ _ _ = y10 at *
      replace hB : Bl w [⟨w.heap.size, #[.slice (some ⟨p0, o0, none⟩) n sc], 38⟩, ⟨w.heap.size + 1, V0, 62⟩, ⟨g3, V0, 62⟩, ⟨g4, V1, 62⟩] y10 := hB
      simp only [Act.put, List.setIfInBounds_toArray, List.set_cons_zero, List.set_cons_succ, List.getElem_toArray, List.getElem_cons_zero, List.getElem_cons_succ]
      refine wpList_nil ?_
      replace hB := hide hB
      go_wp2_with fail
      replace hB := unhide hB
      rw [unhide hT]
      exact bodyPost_ret (v := .agg (V0)) (results_cell_row Tryd.results26 _ _ (w.heap.size + 1) 62 (V0) (0, 0) _ rfl (hB.get 1 (x := ⟨w.heap.size + 1, V0, 62⟩) rfl) Tryd.underlying62 rfl (by rw [Tryd.infoSu, z0])) rfl ⟨f_a, f_c, by rw [unhide hcn, unhide hV0], by rw [unhide hcn]; exact unhide hl3, hB.gr⟩
end Go.Proofs.YtomihjeiaignnaaDoor
