/-
  The laws' own helpers: few, keeps, same.
-/
import Derived.Test.YthgchjdjacbcgaaDkJ
import Derived.Laws.BytesArg
import Derived.ChangeKeysEq
import Derived.WideShapes
namespace Go.Proofs.Ythgchjdjacbcgaa
open Go.RowKit
set_option maxRecDepth 100000
set_option linter.unusedSimpArgs false
set_option linter.unusedVariables false
theorem Try.cells_b : Try.prog.cellsOf 5 = 1 := by kernel_rfl
theorem Try.info_b : (Try.prog.info? 5).map (fun i => (i.zero, i.size, i.bytes)) = some (some (.int .u8 0), 1, 1) := by kernel_rfl
theorem Try.plain_b : Try.prog.plainKey 5 = true := by kernel_rfl
theorem eqs_b (k m : List Int) (hl : k.length = m.length) (d : Nat) (is : List Nat) (h : ∀ i ∈ is, i < k.length) (w : World) : (Op.eqItems (d + 1) 5 1 (kc k) (kc m) is).run Try.prog w = .ok (decide (∀ i ∈ is, k.getD i 0 = m.getD i 0)) w := by
  induction is with
  | nil => simp [Op.eqItems]
  | cons i is ih =>
    have hi : i < k.length := h i (by simp)
    have hp : ∀ m : List Int, i < m.length → (part 5 (kc m) (i * 1)).run Try.prog w = .ok (.int .u8 (m.getD i 0)) w := by
      intro m hm
      refine run_part_plain w Try.plain_b ?_
      simp [kc, List.getD, List.getElem?_eq_getElem hm]
    have he := run_equalIn_int (P := Try.prog) w d 5 .u8 .u8 (k.getD i 0) (m.getD i 0) Try.underlying5
    simp only [Op.eqItems, Sem.run_bind, hp k hi, hp m (by omega), he, Result.andThen_ok]
    have ih := ih (fun j hj => h j (List.mem_cons_of_mem _ hj))
    by_cases hq : k.getD i 0 = m.getD i 0
    · simp only [hq, beq_self_eq_true, if_true, List.mem_cons, forall_eq_or_imp, true_and]
      exact ih
    · have hq2 : (k.getD i 0 == m.getD i 0) = false := by simpa using hq
      simp only [hq2, List.mem_cons, forall_eq_or_imp, hq, false_and, decide_false]
      rfl
theorem eq_B (k m : List Int) (hk : k.length = 64) (hm : m.length = 64) (w : World) : Sem.run Try.prog (Op.equalIn 10000 39 (.agg (kc k)) (.agg (kc m))) w = .ok (decide (k = m)) w := by
  obtain ⟨i0, hi0, _⟩ := info_parts Try.info_b
  rw [run_equalIn_array (P := Try.prog) w 9999 (kc k) (kc m) Try.underlying39 hi0, Try.cells_b]
  refine (eqs_b k m (by omega) 9998 _ (by intro i hi; simp at hi; omega) w).trans ?_
  congr 1
  rw [decide_eq_decide]
  constructor
  · intro h
    exact list_ext (by omega) fun i hi => h i (by simp; omega)
  · rintro rfl i _
    rfl
theorem exec_neB {a : Act} {o : Oper} (w : World) (x y : Operand) (ho : o.op = .binOp .neq 39 x y 39) (b : List Int) (hb : b.length = 64) (hx : a.eval x = .agg (kc b)) (hy : a.eval y = .agg (kc b)) : (execOp a.eval o).run Try.prog w = .ok (.value (.bool false)) w := by
  have h := eq_B b b hb hb w
  rw [show decide (b = b) = true from decide_eq_true rfl] at h
  unfold execOp
  simp only [ho, hx, hy]
  go_simp
def op0 : Opl := ⟨0, 0, 0, []⟩
/-- a list of ops lies there -/
structure Los (w : World) (a : Option Addr) (n c : Nat) (l : List Opl) : Prop where
  len : l.length = n
  ok : ∀ o ∈ l, o.Ok
  sl : l = [] ∨ ∃ p q, a = some ⟨p, q, none⟩ ∧ ∀ j, j < n → ∃ ka kn kp, w.rangeAt p (q + 4 * j) (opv (l.getD j op0) ka kn kp).toList ∧ Kp w ka kn kp (l.getD j op0).keep
  cap : n ≤ c
  max : c < 9223372036854775808
theorem Los.gr {w v : World} {a : Option Addr} {n c : Nat} {l : List Opl} (h : Los w a n c l) (g : Gr w v) : Los v a n c l := by
  refine ⟨h.len, h.ok, ?_, h.cap, h.max⟩
  rcases h.sl with h | ⟨p, q, h1, h2⟩
  · exact .inl h
  · refine .inr ⟨p, q, h1, fun j hj => ?_⟩
    obtain ⟨ka, kn, kp, h3, h4⟩ := h2 j hj
    exact ⟨ka, kn, kp, range_gr h3 g, h4.gr g⟩
theorem Los.at_ {w : World} {a : Option Addr} {n c : Nat} {l : List Opl} (h : Los w a n c l) (j : Nat) (hj : j < n) : ∃ p q ka kn kp, a = some ⟨p, q, none⟩ ∧ w.rangeAt p (q + 4 * j) (opv (l.getD j op0) ka kn kp).toList ∧ Kp w ka kn kp (l.getD j op0).keep ∧ (l.getD j op0).Ok := by
  have hl := h.len
  rcases h.sl with h0 | ⟨p, q, h1, h2⟩
  · rw [h0] at hl
    simp at hl
    omega
  · obtain ⟨ka, kn, kp, h3, h4⟩ := h2 j hj
    exact ⟨p, q, ka, kn, kp, h1, h3, h4, h.ok _ (mem_of_getD (by omega))⟩
theorem exec_uo {a : Act} {o : Oper} (w : World) (x y : Operand) (ho : o.op = .slice 22 x none (some y) none) (s : Option Addr) (len cap n : Nat) (hx : a.eval x = .slice s len cap) (hy : a.eval y = .int .i64 n) (hc : len ≤ cap) (hn : n ≤ len) :
    (execOp a.eval o).run Try.prog w = .ok (.value (.slice s n cap)) w := by
  have h1 : (0 : Int) ≤ n := by omega
  have h2 : (n : Int) ≤ cap := by omega
  have hu : Try.prog.underlying 22 = some (.slice (Try.prog.elem 22)) := by kernel_rfl
  have hz : (sizeOf (Try.prog.elem 22)).run Try.prog w = .ok 4 w := by kernel_rfl
  have h3 : s.map (·.add 0) = s := by
    cases s with
    | none => rfl
    | some q => cases q with | mk b_ o_ s_ => cases s_ <;> rfl
  simp [execOp, ho, hx, hy, run_sliceAt_slice _ _ _ _ _ _ hu, run_slice_h _ _ _ _ _ hu _ _ h1 h2, hz, sliced, h3]
theorem getD_take {α : Type} (l : List α) (m j : Nat) (d : α) (h : j < m) : (l.take m).getD j d = l.getD j d := by
  rw [List.getD_eq_getElem?_getD, List.getD_eq_getElem?_getD, List.getElem?_take, if_pos h]
/-- what few answers -/
def Few (a : Option Addr) (n c : Nat) (w : World) (r : Ending) (w' : World) : Prop := ∃ m, r = .returned (.slice a m c) ∧ m = min n 120 ∧ w' = w
theorem Los.few {w : World} {a : Option Addr} {n c : Nat} {l : List Opl} (hl : Los w a n c l) {m : Nat} (hm : m = min n 120) : Los w a m c (l.take 120) := by
  have hn := hl.len
  have hc := hl.cap
  refine ⟨?_, ?_, ?_, by omega, hl.max⟩
  · rw [List.length_take]; omega
  · intro o ho
    exact hl.ok o (List.mem_of_mem_take ho)
  · rcases hl.sl with h | ⟨p, q, rfl, h2⟩
    · left
      rw [h]
      rfl
    · right
      refine ⟨p, q, rfl, fun j hj => ?_⟩
      rw [getD_take l 120 j op0 (by omega)]
      exact h2 j (by omega)
set_option maxHeartbeats 4000000 in
theorem few_ok (a : Option Addr) (n c : Nat) (hcap : n ≤ c) (w : World) : Calls Try.prog 12 #[.slice a n c] w (Few a n c w) := by
  obtain ⟨T, hT⟩ : ∃ T, T = Few a n c w := ⟨_, rfl⟩
  rw [← hT]
  replace hT := hide hT
  obtain ⟨m, hm⟩ : ∃ m, m = min n 120 := ⟨_, rfl⟩
  have m1 : (if (120 : Int) < (n : Int) then (120 : Int) else (n : Int)) = (m : Int) := by split <;> omega
  have hmn : m ≤ n := by omega
  replace hm := hide hm
  go_enter Try.func12, Try.ntmps12
  go_upto_region 1 with fail
  refine wp_region_lit ?_
  refine list_val (.slice a n c) (by kernel_rfl) (by kernel_rfl) ?_
  simp only [Act.put, List.setIfInBounds_toArray, List.set_cons_zero, List.set_cons_succ, List.getElem_toArray, List.getElem_cons_zero, List.getElem_cons_succ]
  refine list_val (.slice a n c) (by kernel_rfl) (by kernel_rfl) ?_
  simp only [Act.put, List.setIfInBounds_toArray, List.set_cons_zero, List.set_cons_succ, List.getElem_toArray, List.getElem_cons_zero, List.getElem_cons_succ]
  refine list_val (.int .i64 n) (by kernel_rfl) (by kernel_rfl) ?_
  simp only [Act.put, List.setIfInBounds_toArray, List.set_cons_zero, List.set_cons_succ, List.getElem_toArray, List.getElem_cons_zero, List.getElem_cons_succ]
  refine list_val (.int .i64 (m : Int)) (by kernel_rfl) (by rw [← m1]; go_simp) ?_
  simp only [Act.put, List.setIfInBounds_toArray, List.set_cons_zero, List.set_cons_succ, List.getElem_toArray, List.getElem_cons_zero, List.getElem_cons_succ]
  refine list_val (.slice a m c) (by kernel_rfl) (exec_uo _ (.tmp 3) (.tmp 6) rfl a n c m rfl rfl hcap hmn) ?_
  simp only [Act.put, List.setIfInBounds_toArray, List.set_cons_zero, List.set_cons_succ, List.getElem_toArray, List.getElem_cons_zero, List.getElem_cons_succ]
  (refine wpList_step fun K hK => ?_; replace hK := hide hK; go_simp; refine unhide hK _ _ ?_; clear hK K)
  refine wpList_nil ?_
  have hP : Hid (Few a n c w (.returned (.slice a m c)) w) := ⟨m, rfl, unhide hm, rfl⟩
  go_wp2_with fail
  rw [unhide hT]
  exact unhide hP
/-- bools as rows of one cell -/
theorem flat_bools : ∀ (l : List Bool), (l.map fun b => [Value.bool b]).flatten = l.map Value.bool
  | [] => rfl
  | x :: r => by rw [List.map_cons, List.flatten_cons, flat_bools r, List.map_cons]; rfl
theorem Ls.kp {w : World} {a : Option Addr} {n c : Nat} {l : List Bool} (h : Ls 1 w a n c (l.map fun b => [Value.bool b])) : Kp w a n c l := by
  refine ⟨by have := h.len; rw [List.length_map] at this; exact this, ?_, h.cap, h.max⟩
  rcases h.sl with h0 | ⟨p, o, h1, h2⟩
  · left
    exact List.eq_nil_of_length_eq_zero (by have := congrArg List.length h0; simpa using this)
  · rw [flat_bools] at h2
    exact .inr ⟨p, o, h1, h2⟩
/-- what keeps answers -/
def Kps (l : List Bool) (n : Nat) (w : World) (r : Ending) (w' : World) : Prop := ∃ a c, r = .returned (.slice a n c) ∧ Kp w' a n c l ∧ Fr2 w none a ∧ Gr w w'
set_option maxHeartbeats 4000000 in
theorem keeps_ok (l : List Bool) (a : Option Addr) (n c : Nat) (hn : n ≤ 140737488351232) (w : World) (hl : Kp w a n c l) : Calls Try.prog 32 #[.slice a n c] w (Kps l n w) := by
  obtain ⟨T, hT⟩ : ∃ T, T = Kps l n w := ⟨_, rfl⟩
  rw [← hT]
  replace hT := hide hT
  obtain ⟨m, hm⟩ : ∃ m, m = n + 3 := ⟨_, rfl⟩
  have m1 : (n : Int) + 3 = (m : Int) := by omega
  have m2 : IntKind.i64.wrap (m : Int) = (m : Int) := by rw [IntKind.wrap_i64]; omega
  have hm3 : m ≤ 140737488351235 := by omega
  replace hm := hide hm; replace hl := hide hl
  go_enter Try.func32, Try.ntmps32
  go_upto_region 1 with fail
  refine wp_region_lit ?_
  refine list_val (.slice a n c) (by kernel_rfl) (by kernel_rfl) ?_
  simp only [Act.put, List.setIfInBounds_toArray, List.set_cons_zero, List.set_cons_succ, List.getElem_toArray, List.getElem_cons_zero, List.getElem_cons_succ]
  refine list_val (.int .i64 n) (by kernel_rfl) (by kernel_rfl) ?_
  simp only [Act.put, List.setIfInBounds_toArray, List.set_cons_zero, List.set_cons_succ, List.getElem_toArray, List.getElem_cons_zero, List.getElem_cons_succ]
  refine list_val (.int .i64 (m : Int)) (by kernel_rfl) (by go_simp) ?_
  simp only [Act.put, List.setIfInBounds_toArray, List.set_cons_zero, List.set_cons_succ, List.getElem_toArray, List.getElem_cons_zero, List.getElem_cons_succ]
  refine make_bools w rfl (.const (.int .i64 0)) (.tmp 5) rfl 0 m rfl rfl (Nat.zero_le _) (by omega) ?_
  simp only [Act.put, List.setIfInBounds_toArray, List.set_cons_zero, List.set_cons_succ, List.getElem_toArray, List.getElem_cons_zero, List.getElem_cons_succ]
  have hor : Or_ 1 4 w.heap.size (w.alloc (.cells (bc (List.replicate m false)) 4 (0, 0))) (.slice (some ⟨w.heap.size, 0, none⟩) 0 m) [] := ⟨(fun r hr => by cases hr), rfl, .inr ⟨w.heap.size, m, _, rfl, Nat.le_refl _, blk_new _ _, Nat.zero_le _, by unfold maxLen; omega, by rw [bc_size, List.length_replicate, Nat.mul_one], rfl⟩⟩
  have hG := (Gr.refl w).alloc (.cells (bc (List.replicate m false)) 4 (0, 0))
  generalize World.alloc _ _ = u at *
  refine list_val (.slice a n c) (by kernel_rfl) (by kernel_rfl) ?_
  simp only [Act.put, List.setIfInBounds_toArray, List.set_cons_zero, List.set_cons_succ, List.getElem_toArray, List.getElem_cons_zero, List.getElem_cons_succ]
  refine wpList_step fun K_ hQ => ?_
  rw [if_pos (by kernel_rfl)]
  refine app_rows0 lt_k (.tmp 6) (.tmp 7) rfl w.heap.size _ [] rfl hor a n c (l.map fun b => [Value.bool b]) rfl (by rw [List.length_map]; exact (unhide hl).len) (by intro r hr; obtain ⟨b, _, rfl⟩ := List.mem_map.1 hr; rfl) ?_ (by intro r hr u hu; obtain ⟨b, _, rfl⟩ := List.mem_map.1 hr; rw [List.mem_singleton] at hu; subst hu; rfl) (by simp only [List.length_nil, Nat.zero_add]; omega) hG.size ?_
  · rcases ((unhide hl).gr hG).sl with h | ⟨p, o, h1, h2⟩
    · left
      rw [h]
      rfl
    · exact .inr ⟨p, o, h1, by rw [flat_bools]; exact h2⟩
  intro v2_ u2 hor2 hgr
  have hG2 := grown_owned hor.2 (Nat.le_refl _) hG hgr
  rw [List.nil_append] at hor2
  have hfr : ∀ a_ m_ c_, v2_ = .slice a_ m_ c_ → Fr2 w none a_ := by
    intro a_ m_ c_ e
    rcases hor2.2.2 with ⟨h1, _⟩ | ⟨g_, _, _, h1, h2, _⟩
    · rw [h1] at e
      injection e with e1 _ _
      rw [← e1]
      exact Fr2.none _ _
    · rw [h1] at e
      injection e with e1 _ _
      rw [← e1]
      exact Fr2.new _ h2
  obtain ⟨a2, c2, rfl, hls⟩ := hor2.ls
  have hlen : (l.map fun b => [Value.bool b]).length = n := by rw [List.length_map]; exact (unhide hl).len
  rw [hlen] at hls ⊢
  have hP : Hid (Kps l n w (.returned (.slice a2 n c2)) u2) := ⟨a2, c2, rfl, hls.kp, hfr _ _ _ rfl, hG2⟩
  clear hor hor2 hgr hls hfr hG hG2 hlen
  refine hQ _ _ ?_
  clear hQ K_
  simp only [Act.put, List.setIfInBounds_toArray, List.set_cons_zero, List.set_cons_succ, List.getElem_toArray, List.getElem_cons_zero, List.getElem_cons_succ]
  (refine wpList_step fun K hK => ?_; replace hK := hide hK; go_simp; refine unhide hK _ _ ?_; clear hK K)
  refine wpList_nil ?_
  go_wp2_with fail
  rw [unhide hT]
  exact unhide hP
set_option maxHeartbeats 4000000 in
theorem same_ok (A : List (List Int)) (hA : ∀ b ∈ A, BB b) (a a' : Option Addr) (n c c' : Nat) (hn : n ≤ 1000000) (w : World) (la : Ls 64 w a n c (A.map bv)) (lb : Ls 64 w a' n c' (A.map bv)) :
    Calls Try.prog 27 #[.slice a n c, .slice a' n c'] w (fun r w' => r = .returned (.bool true) ∧ Gr w w') := by
  have hl : Hid (A.length = n) := by have := la.len; rw [List.length_map] at this; exact this
  replace la := hide la; replace lb := hide lb; replace hA := hide hA
  go_enter Try.func27, Try.ntmps27
  go_wp2_with fail
  go_loopw [13] (fun i wr => ∃ j : Nat, j ≤ n ∧ i = .int .i64 j ∧ Hid (Gr w wr)) (fun i _ => n - (intOf i).toNat)
  case atStart => exact ⟨0, by omega, rfl, Gr.refl w⟩
  case round =>
  obtain ⟨j, hj, rfl, hG⟩ := hrel
  by_cases hjl : j < n
  · have jI : (j : Int) < (n : Int) := by omega
    obtain ⟨p, o, rfl, h1⟩ := (unhide la).at_ j hjl
    obtain ⟨p', o', rfl, h2⟩ := (unhide lb).at_ j hjl
    rw [getD_map bv A j [] [] (by rw [unhide hl]; exact hjl)] at h1 h2
    have hb := (unhide hA) _ (mem_of_getD (d := []) (show j < A.length by rw [unhide hl]; exact hjl))
    generalize A.getD j [] = b at *
    have hbl := hb.1
    replace h1 := hide h1; replace h2 := hide h2
    clear hb
    go_upto_region 6 with fail
    replace hG := unhide hG
    refine any_start (S := fun v => Gr w v) (by kernel_rfl) ?_
    replace hG := hG.drew
    generalize World.drew _ = x0 at *
    simp only [List.size_toArray, List.length_cons, List.length_nil, Array.replicate, List.replicate]
    refine any_take (i := 0) (v := (.slice (some ⟨p, o, none⟩) n c)) #[false, false, false, false, false, false, false, false, false] rfl (by kernel_rfl) (by kernel_rfl) (by kernel_rfl) (by kernel_rfl) (fun _ _ _ h => h) (.inl ⟨by kernel_rfl, fun x_ hu => by kernel_rfl⟩) hG ?_
    simp only [Act.put, List.setIfInBounds_toArray, List.set_cons_zero, List.set_cons_succ, List.getElem_toArray, List.getElem_cons_zero, List.getElem_cons_succ]
    refine any_take (i := 1) (v := (.int .i64 j)) #[true, false, false, false, false, false, false, false, false] rfl (by kernel_rfl) (by kernel_rfl) (by kernel_rfl) (by kernel_rfl) (fun _ _ _ h => h) (.inl ⟨by kernel_rfl, fun x_ hu => by kernel_rfl⟩) hG ?_
    simp only [Act.put, List.setIfInBounds_toArray, List.set_cons_zero, List.set_cons_succ, List.getElem_toArray, List.getElem_cons_zero, List.getElem_cons_succ]
    refine any_take (i := 2) (v := (.pointer (some ⟨p, o + 64 * j, none⟩))) #[true, true, false, false, false, false, false, false, false] rfl (by kernel_rfl) (by kernel_rfl) (by kernel_rfl) (by kernel_rfl) (fun _ _ _ h => h) (.inl ⟨by kernel_rfl, fun x_ hu => exec_ib _ (.tmp 16) (.tmp 17) rfl p o n c j rfl rfl hjl⟩) hG ?_
    simp only [Act.put, List.setIfInBounds_toArray, List.set_cons_zero, List.set_cons_succ, List.getElem_toArray, List.getElem_cons_zero, List.getElem_cons_succ]
    refine any_take (i := 3) (v := (.agg (kc b))) #[true, true, true, false, false, false, false, false, false] rfl (by kernel_rfl) (by kernel_rfl) (by kernel_rfl) (by kernel_rfl) (fun _ _ _ h => h) (.inl ⟨by kernel_rfl, fun x_ hu => exec_row _ 39 (.tmp 18) rfl p (o + 64 * j) (by kernel_rfl) (bv b) _ (range_gr (unhide h1) hu) Try.underlying39 rfl (by rw [Try.infoB, bv_len, hbl])⟩) hG ?_
    simp only [Act.put, List.setIfInBounds_toArray, List.set_cons_zero, List.set_cons_succ, List.getElem_toArray, List.getElem_cons_zero, List.getElem_cons_succ]
    refine any_take (i := 4) (v := (.slice (some ⟨p', o', none⟩) n c')) #[true, true, true, true, false, false, false, false, false] rfl (by kernel_rfl) (by kernel_rfl) (by kernel_rfl) (by kernel_rfl) (fun _ _ _ h => h) (.inl ⟨by kernel_rfl, fun x_ hu => by kernel_rfl⟩) hG ?_
    simp only [Act.put, List.setIfInBounds_toArray, List.set_cons_zero, List.set_cons_succ, List.getElem_toArray, List.getElem_cons_zero, List.getElem_cons_succ]
    refine any_take (i := 5) (v := (.int .i64 j)) #[true, true, true, true, true, false, false, false, false] rfl (by kernel_rfl) (by kernel_rfl) (by kernel_rfl) (by kernel_rfl) (fun _ _ _ h => h) (.inl ⟨by kernel_rfl, fun x_ hu => by kernel_rfl⟩) hG ?_
    simp only [Act.put, List.setIfInBounds_toArray, List.set_cons_zero, List.set_cons_succ, List.getElem_toArray, List.getElem_cons_zero, List.getElem_cons_succ]
    refine any_take (i := 6) (v := (.pointer (some ⟨p', o' + 64 * j, none⟩))) #[true, true, true, true, true, true, false, false, false] rfl (by kernel_rfl) (by kernel_rfl) (by kernel_rfl) (by kernel_rfl) (fun _ _ _ h => h) (.inl ⟨by kernel_rfl, fun x_ hu => exec_ib _ (.tmp 20) (.tmp 21) rfl p' o' n c' j rfl rfl hjl⟩) hG ?_
    simp only [Act.put, List.setIfInBounds_toArray, List.set_cons_zero, List.set_cons_succ, List.getElem_toArray, List.getElem_cons_zero, List.getElem_cons_succ]
    refine any_take (i := 7) (v := (.agg (kc b))) #[true, true, true, true, true, true, true, false, false] rfl (by kernel_rfl) (by kernel_rfl) (by kernel_rfl) (by kernel_rfl) (fun _ _ _ h => h) (.inl ⟨by kernel_rfl, fun x_ hu => exec_row _ 39 (.tmp 22) rfl p' (o' + 64 * j) (by kernel_rfl) (bv b) _ (range_gr (unhide h2) hu) Try.underlying39 rfl (by rw [Try.infoB, bv_len, hbl])⟩) hG ?_
    simp only [Act.put, List.setIfInBounds_toArray, List.set_cons_zero, List.set_cons_succ, List.getElem_toArray, List.getElem_cons_zero, List.getElem_cons_succ]
    refine any_take (i := 8) (v := (.bool false)) #[true, true, true, true, true, true, true, true, false] rfl (by kernel_rfl) (by kernel_rfl) (by kernel_rfl) (by kernel_rfl) (fun _ _ _ h => h) (.inl ⟨by kernel_rfl, fun x_ hu => exec_neB _ (.tmp 19) (.tmp 23) rfl b hbl (by kernel_rfl) (by kernel_rfl)⟩) hG ?_
    simp only [Act.put, List.setIfInBounds_toArray, List.set_cons_zero, List.set_cons_succ, List.getElem_toArray, List.getElem_cons_zero, List.getElem_cons_succ]
    refine any_done (by kernel_rfl) ?_
    replace hG := hide hG
    go_wp2_with fail
    go_roundw
    case rel => exact ⟨j + 1, by omega, by go_num, hG⟩
    case measure => simp [intOf]; omega
  have jI : ¬ (j : Int) < (n : Int) := by omega
  go_wp2_with fail
  go_ret
  exact ⟨rfl, unhide hG⟩
end Go.Proofs.Ythgchjdjacbcgaa
