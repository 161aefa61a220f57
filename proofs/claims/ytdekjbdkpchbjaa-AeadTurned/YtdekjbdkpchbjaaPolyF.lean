/-
  The reference: products of rows.
-/
import Derived.Test.YtdekjbdkpchbjaaPolyE
namespace Go.Proofs.Ytdekjbdkpchbjaa
open Go.RowKit
set_option maxRecDepth 100000
set_option linter.unusedSimpArgs false
set_option linter.unusedVariables false
/-- cells of numbers -/
def ni (l : List Nat) : Array Value := (nc l).toArray
theorem ni_size (l : List Nat) : (ni l).size = l.length := by simp [ni, nc]
theorem ni_set (l : List Nat) (i x : Nat) : (ni l).setIfInBounds i (.int .i64 (x : Int)) = ni (l.set i x) := by
  unfold ni nc
  rw [List.setIfInBounds_toArray, List.map_set]
theorem ni_cell {v : World} {g : Nat} {l : List Nat} {t : TypeId} (h : v.heap[g]? = some (.cells (ni l) t (0, 0))) (i : Nat) (hi : i < l.length) : v.cell? ⟨g, i, none⟩ = some (.int .i64 ((l.getD i 0 : Nat) : Int)) := by
  refine cell_of h ?_
  unfold ni nc
  simp [hi]
theorem oi_of {w : World} {b g n : Nat} {L : List Nat} (h : w.heap[g]? = some (.cells (ni L) 3 (0, 0))) (hn : L.length = n) (hg : b ≤ g) (hb : n ≤ 140737488351232) : Oi b w (.slice (some ⟨g, 0, none⟩) n n) L := by
  subst hn
  exact ⟨by simp [nc], .inr ⟨g, L.length, ni L, rfl, hg, h, Nat.le_refl _, by unfold maxLen; omega, by rw [ni_size, Nat.mul_one], by unfold ni; rw [Nat.mul_one]; exact List.take_of_length_le (by simp [nc])⟩⟩
/-- a row of noughts is made -/
theorem wpList_make_ints (w : World) {ops : Array Oper} {rest : List Oper} {o : Oper} {a : Act} {Q : Exit → Act → World → Prop}
    (hg : o.guard = none) (l c : Operand) (hop : o.op = Op.makeSlice 81 l c) (n : Nat) (hl : a.eval l = .int .i64 n) (hc : a.eval c = .int .i64 n) (hn : n ≤ 1000000)
    (hK : wpList Try.prog ops Q rest (a.put o.dst (.slice (some ⟨w.heap.size, 0, none⟩) n n)) (w.alloc (.cells (ni (List.replicate n 0)) 3 (0, 0)))) :
    wpList Try.prog ops Q (o :: rest) a w := by
  obtain ⟨i, h2, h3, h4, h5⟩ := info_parts Try.infoI
  refine wpList_plain hg fun K hK' => ?_
  have hrun := run_make (P := Try.prog) w 81 3 i (.int .i64 0) Try.underlying81 h2 h3 .i64 .i64 (n : Int) (n : Int) (by omega) (by omega) (by rw [h5]; omega) (by omega)
  rw [h4] at hrun
  have e : madeCells (Value.int .i64 0).cells n = ni (List.replicate n 0) := by
    apply Array.ext
    · simp [size_madeCells, ni, nc]
    · intro i h1 h2
      have : i % 1 = 0 := Nat.mod_one i
      simp [madeCells, Value.cells, this, ni, nc]
  simp only [Int.toNat_natCast, Nat.mul_one, e] at hrun
  unfold Oper.wp
  simp [execOp, hop, hl, hc, hrun, Result.andThen]
  exact hK' _ _ hK
theorem V_set : ∀ (l : List Nat) (j d : Nat), j < l.length → V (l.set j d) + 256 ^ j * l.getD j 0 = V l + 256 ^ j * d
  | [], j, d, h => by simp at h
  | x :: l, 0, d, h => by simp [V]; omega
  | x :: l, j + 1, d, h => by
    have h1 := V_set l j d (by simp at h; omega)
    rw [List.set_cons_succ, V, V, Nat.pow_succ, Nat.mul_comm (256 ^ j) 256, Nat.mul_assoc, Nat.mul_assoc, List.getD_cons_succ]
    omega
theorem AllB.set {l : List Nat} (h : AllB l) (j : Nat) {d : Nat} (hd : d < 256) : AllB (l.set j d) := fun x hx => by
  rcases List.mem_or_eq_of_mem_set hx with h1 | h1
  · exact h x h1
  · omega
theorem V_rep : ∀ n, V (List.replicate n 0) = 0
  | 0 => rfl
  | n + 1 => by rw [List.replicate_succ, V, V_rep n]
theorem rep_allB (n : Nat) : AllB (List.replicate n 0) := fun x hx => by have := List.eq_of_mem_replicate hx; omega
theorem times_step (Pi Pk VL VL2 o x y c s d c2 X Y : Nat) (hv : VL2 + Pi * Pk * o = VL + Pi * Pk * d) (h : VL + Pi * Pk * c = X + x * Pi * Y) (hs : s = o + x * y + c) (hd : d = s % 256) (hc : c2 = s / 256) : VL2 + Pi * (Pk * 256) * c2 = X + x * Pi * (Y + Pk * y) := by
  have e : s = d + 256 * c2 := by omega
  have e2 : Pi * Pk * s = Pi * Pk * d + Pi * (Pk * 256) * c2 := by rw [e, Nat.mul_add]; congr 1; simp only [Nat.mul_assoc]
  have e3 : Pi * Pk * s = Pi * Pk * o + Pi * Pk * (x * y) + Pi * Pk * c := by rw [hs, Nat.mul_add, Nat.mul_add]
  have e4 : x * Pi * (Y + Pk * y) = x * Pi * Y + Pi * Pk * (x * y) := by
    rw [Nat.mul_add]
    congr 1
    rw [Nat.mul_comm x Pi, Nat.mul_assoc, Nat.mul_assoc]
    congr 1
    rw [← Nat.mul_assoc, Nat.mul_comm x Pk, Nat.mul_assoc]
  omega
/-- no carry is left far behind -/
theorem times_top (A B : List Nat) (hA : AllB A) (hB : AllB B) (i k c VL : Nat) (hk : B.length < k) (h : VL + 256 ^ i * 256 ^ k * c = V (A.take i) * V B + A.getD i 0 * 256 ^ i * V B) : c = 0 := by
  have h1 : V (A.take i) * V B + A.getD i 0 * 256 ^ i * V B = V (A.take (i + 1)) * V B := by
    rw [V_take_succ, Nat.add_mul, Nat.mul_comm (A.getD i 0) (256 ^ i)]
  have h2 := take_lt A hA (i + 1)
  have h3 := V_lt B hB
  rw [h1] at h
  rcases Nat.eq_zero_or_pos c with hc | hc
  · exact hc
  · exfalso
    have h4 : V (A.take (i + 1)) * V B < 256 ^ (i + 1) * 256 ^ B.length := by
      rcases Nat.eq_zero_or_pos (V B) with hb | hb
      · rw [hb, Nat.mul_zero]; exact Nat.mul_pos (Nat.pow_pos (by omega)) (Nat.pow_pos (by omega))
      · exact Nat.lt_of_lt_of_le (Nat.mul_lt_mul_of_pos_right h2 hb) (Nat.mul_le_mul_left _ (Nat.le_of_lt h3))
    have h5 : 256 ^ (i + 1) * 256 ^ B.length ≤ 256 ^ i * 256 ^ k := by
      rw [← Nat.pow_add, ← Nat.pow_add]
      exact Nat.pow_le_pow_right (by omega) (by omega)
    have h6 : 256 ^ i * 256 ^ k ≤ 256 ^ i * 256 ^ k * c := Nat.le_mul_of_pos_right _ hc
    omega
def TimesP (A B L : List Nat) : Prop := AllB L ∧ V L = V A * V B ∧ L.length = A.length + B.length + 1
set_option maxHeartbeats 8000000 in
theorem rtimes_ok (A B : List Nat) (hA : AllB A) (hB0 : AllB B) (a b : Option Addr) (n m ca cb : Nat) (hbn : n ≤ 100000) (hbm : m ≤ 100000) (w : World) (la : Li w a n ca A) (lb : Li w b m cb B) : Calls Try.prog 52 #[.slice a n ca, .slice b m cb] w (Ri (TimesP A B) w) := by
  obtain ⟨T, hT⟩ : ∃ T, T = Ri (TimesP A B) w := ⟨_, rfl⟩
  rw [← hT]
  unfold Ri at hT
  replace hT := hide hT
  have hn := hide la.len
  have hm := hide lb.len
  replace la := hide la
  replace lb := hide lb
  replace hA := hide hA
  replace hB0 := hide hB0
  obtain ⟨q0, hq0⟩ : ∃ x, x = n + m := ⟨_, rfl⟩
  obtain ⟨q1, hq1⟩ : ∃ x, x = n + m + 1 := ⟨_, rfl⟩
  have e1 : (n : Int) + (m : Int) = (q0 : Int) := by omega
  have e2 : (q0 : Int) + 1 = (q1 : Int) := by omega
  have e3 : IntKind.i64.wrap (q0 : Int) = (q0 : Int) := by rw [IntKind.wrap_i64]; omega
  have e4 : IntKind.i64.wrap (q1 : Int) = (q1 : Int) := by rw [IntKind.wrap_i64]; omega
  have hq2 : q1 ≤ 1000000 := by omega
  replace hq0 := hide hq0
  replace hq1 := hide hq1
  go_enter Try.func52, Try.ntmps52
  go_upto_region 1 with fail
  refine wp_region_lit ?_
  refine list_val (.slice a n ca) (by kernel_rfl) (by kernel_rfl) ?_
  simp only [Act.put, List.setIfInBounds_toArray, List.set_cons_zero, List.set_cons_succ, List.getElem_toArray, List.getElem_cons_zero, List.getElem_cons_succ]
  refine list_val (.int .i64 n) (by kernel_rfl) (by kernel_rfl) ?_
  simp only [Act.put, List.setIfInBounds_toArray, List.set_cons_zero, List.set_cons_succ, List.getElem_toArray, List.getElem_cons_zero, List.getElem_cons_succ]
  refine list_val (.slice b m cb) (by kernel_rfl) (by kernel_rfl) ?_
  simp only [Act.put, List.setIfInBounds_toArray, List.set_cons_zero, List.set_cons_succ, List.getElem_toArray, List.getElem_cons_zero, List.getElem_cons_succ]
  refine list_val (.int .i64 m) (by kernel_rfl) (by kernel_rfl) ?_
  simp only [Act.put, List.setIfInBounds_toArray, List.set_cons_zero, List.set_cons_succ, List.getElem_toArray, List.getElem_cons_zero, List.getElem_cons_succ]
  refine list_val (.int .i64 q0) (by kernel_rfl) (by go_simp) ?_
  simp only [Act.put, List.setIfInBounds_toArray, List.set_cons_zero, List.set_cons_succ, List.getElem_toArray, List.getElem_cons_zero, List.getElem_cons_succ]
  refine list_val (.int .i64 q1) (by kernel_rfl) (by go_simp) ?_
  simp only [Act.put, List.setIfInBounds_toArray, List.set_cons_zero, List.set_cons_succ, List.getElem_toArray, List.getElem_cons_zero, List.getElem_cons_succ]
  refine wpList_make_ints w rfl (.tmp 15) (.tmp 15) rfl q1 rfl rfl (by omega) ?_
  simp only [Act.put, List.setIfInBounds_toArray, List.set_cons_zero, List.set_cons_succ, List.getElem_toArray, List.getElem_cons_zero, List.getElem_cons_succ]
  have hB := (Bl.nil w).new (ni (List.replicate q1 0)) 3
  simp only [List.nil_append] at hB
  generalize World.alloc _ _ = u at *
  generalize w.heap.size = g5 at hB ⊢
  (refine wpList_step fun K hK => ?_; replace hK := hide hK; go_simp; refine unhide hK _ _ ?_; clear hK K)
  refine wpList_nil ?_
  clear e1 e2 e3 e4
  replace hB := hide hB
  go_wp2_with fail
  go_loopw [6] (fun i wr => ∃ i' : Nat, ∃ L : List Nat, i' ≤ n ∧ i = .int .i64 i' ∧ Hid (L.length = q1) ∧ Hid (AllB L) ∧ Hid (V L = V (A.take i') * V B) ∧ Hid (Bl w [⟨g5, ni L, 3⟩] wr)) (fun i _ => n - (intOf i).toNat)
  case atStart => exact ⟨0, _, by omega, rfl, (by rw [List.length_replicate]; exact rfl), rep_allB _, (by rw [V_rep, List.take_zero, V, Nat.zero_mul]; exact rfl), hB⟩
  case round =>
  clear hB
  obtain ⟨i, L, hi, rfl, hL, hAB, hV, hB⟩ := hrel
  by_cases hl : i < n
  · have iI : (i : Int) < (n : Int) := by omega
    obtain ⟨pa, oa, rfl, hca⟩ := (unhide la).at_ i hl
    obtain ⟨x, hx⟩ : ∃ x, x = A.getD i 0 := ⟨_, rfl⟩
    rw [← hx] at hca
    have hx2 : x < 256 := by rw [hx]; exact (unhide hA).at_ i
    replace hca := hide hca
    replace hx := hide hx
    have hV0 : Hid (V L + 256 ^ i * 256 ^ 0 * 0 = V (A.take i) * V B + x * 256 ^ i * V (B.take 0)) := by
      rw [Nat.mul_zero, Nat.add_zero, List.take_zero, V, Nat.mul_zero, Nat.add_zero]
      exact unhide hV
    go_wp2_with fail
    go_loopw [8, 7] (fun e f wr => ∃ k c : Nat, ∃ L : List Nat, k ≤ m + 1 ∧ e = .int .i64 k ∧ f = .int .i64 c ∧ Hid (L.length = q1) ∧ Hid (AllB L) ∧ c ≤ 255 ∧ Hid (V L + 256 ^ i * 256 ^ k * c = V (A.take i) * V B + x * 256 ^ i * V (B.take k)) ∧ Hid (Bl w [⟨g5, ni L, 3⟩] wr)) (fun e _ _ => m + 1 - (intOf e).toNat)
    case atStart => exact ⟨0, 0, L, by omega, rfl, rfl, hL, hAB, by omega, hV0, hB⟩
    case round =>
    clear hB hV0 hV hAB hL L
    obtain ⟨k, c, L, hk, rfl, rfl, hL, hAB, hc, hV, hB⟩ := hrel
    have hck : k = m + 1 → c = 0 := fun e => by
      refine times_top A B (unhide hA) (unhide hB0) i k c (V L) (by rw [unhide hm]; omega) ?_
      have h := unhide hV
      rw [V_take_all B k (by rw [unhide hm]; omega), unhide hx] at h
      exact h
    by_cases hcond : k < m ∨ 0 < c
    · have hk2 : k ≤ m := by
        rcases Nat.lt_or_ge m k with h | h
        · have := hck (by omega)
          omega
        · exact h
      obtain ⟨j, hj⟩ : ∃ j, j = i + k := ⟨_, rfl⟩
      obtain ⟨o, ho⟩ : ∃ o, o = L.getD j 0 := ⟨_, rfl⟩
      obtain ⟨y, hy⟩ : ∃ y, y = B.getD k 0 := ⟨_, rfl⟩
      have ho2 : o < 256 := by rw [ho]; exact (unhide hAB).at_ j
      have hy2 : y < 256 := by rw [hy]; exact (unhide hB0).at_ k
      obtain ⟨xy, hxy⟩ : ∃ z, z = x * y := ⟨_, rfl⟩
      have hxy2 : xy ≤ 65025 := by rw [hxy]; exact Nat.mul_le_mul (by omega : x ≤ 255) (by omega : y ≤ 255)
      obtain ⟨s1, hs1⟩ : ∃ z, z = o + xy := ⟨_, rfl⟩
      obtain ⟨s, hs⟩ : ∃ z, z = s1 + c := ⟨_, rfl⟩
      obtain ⟨d, hd⟩ : ∃ d, d = s % 256 := ⟨_, rfl⟩
      obtain ⟨c2, hc2⟩ : ∃ c2, c2 = s / 256 := ⟨_, rfl⟩
      have hjq : j < q1 := by have := unhide hq1; omega
      have hLl := unhide hL
      have hL2 : Hid ((L.set j d).length = q1) := by rw [List.length_set]; exact hL
      have hAB2 : Hid (AllB (L.set j d)) := (unhide hAB).set j (by omega)
      have hV2 : Hid (V (L.set j d) + 256 ^ i * 256 ^ (k + 1) * c2 = V (A.take i) * V B + x * 256 ^ i * V (B.take (k + 1))) := by
        have h1 := V_set L j d (by omega)
        rw [← ho, hj, Nat.pow_add] at h1
        rw [V_take_succ, ← hy, Nat.pow_succ]
        rw [hj]
        exact times_step (256 ^ i) (256 ^ k) (V L) _ o x y c s d c2 _ _ h1 (unhide hV) (by rw [hs, hs1, hxy]) hd hc2
      have e1 : (i : Int) + (k : Int) = (j : Int) := by omega
      have e2 : (x : Int) * (y : Int) = (xy : Int) := by rw [hxy, Int.natCast_mul]
      have e3 : (o : Int) + (xy : Int) = (s1 : Int) := by omega
      have e4 : (s1 : Int) + (c : Int) = (s : Int) := by omega
      have e5 : (s : Int).tmod 256 = (d : Int) := by rw [Int.tmod_eq_emod_of_nonneg (by omega)]; omega
      have e6 : (s : Int).tdiv 256 = (c2 : Int) := by rw [Int.tdiv_eq_ediv_of_nonneg (by omega)]; omega
      have g1' : IntKind.i64.wrap (j : Int) = (j : Int) := by rw [IntKind.wrap_i64]; omega
      have g2' : IntKind.i64.wrap (xy : Int) = (xy : Int) := by rw [IntKind.wrap_i64]; omega
      have g3' : IntKind.i64.wrap (s1 : Int) = (s1 : Int) := by rw [IntKind.wrap_i64]; omega
      have g4' : IntKind.i64.wrap (s : Int) = (s : Int) := by rw [IntKind.wrap_i64]; omega
      have g5' : IntKind.i64.wrap (c2 : Int) = (c2 : Int) := by rw [IntKind.wrap_i64]; omega
      have jI : (j : Int) < (q1 : Int) := by omega
      have hc3 : c2 ≤ 255 := by omega
      replace hj := hide hj
      replace ho := hide ho
      replace hy := hide hy
      replace hxy := hide hxy
      replace hs1 := hide hs1
      replace hs := hide hs
      replace hd := hide hd
      replace hc2 := hide hc2
      replace hck := hide hck
      by_cases h1 : k < m
      · have f1 : (k : Int) < (m : Int) := by omega
        go_upto_region 9 with fail
        replace hB := unhide hB
        refine any_start (S := fun v => Bl w [⟨g5, ni L, 3⟩] v) (by kernel_rfl) ?_
        replace hB := hB.drew
        generalize World.drew _ = v0 at *
        simp only [List.size_toArray, List.length_cons, List.length_nil, Array.replicate, List.replicate]
        refine any_take (i := 0) (v := (.slice (some ⟨g5, 0, none⟩) q1 q1)) #[false, false, false, false, false, false, false, false, false, false, false, false, false, false, false, false, false, false] rfl (by kernel_rfl) (by kernel_rfl) (by kernel_rfl) (by kernel_rfl) (fun _ _ _ h => h) (.inl ⟨by kernel_rfl, fun x_ hu => by kernel_rfl⟩) hB ?_
        simp only [Act.put, List.setIfInBounds_toArray, List.set_cons_zero, List.set_cons_succ, List.getElem_toArray, List.getElem_cons_zero, List.getElem_cons_succ]
        refine any_take (i := 1) (v := (.int .i64 i)) #[true, false, false, false, false, false, false, false, false, false, false, false, false, false, false, false, false, false] rfl (by kernel_rfl) (by kernel_rfl) (by kernel_rfl) (by kernel_rfl) (fun _ _ _ h => h) (.inl ⟨by kernel_rfl, fun x_ hu => by kernel_rfl⟩) hB ?_
        simp only [Act.put, List.setIfInBounds_toArray, List.set_cons_zero, List.set_cons_succ, List.getElem_toArray, List.getElem_cons_zero, List.getElem_cons_succ]
        refine any_take (i := 2) (v := (.int .i64 k)) #[true, true, false, false, false, false, false, false, false, false, false, false, false, false, false, false, false, false] rfl (by kernel_rfl) (by kernel_rfl) (by kernel_rfl) (by kernel_rfl) (fun _ _ _ h => h) (.inl ⟨by kernel_rfl, fun x_ hu => by kernel_rfl⟩) hB ?_
        simp only [Act.put, List.setIfInBounds_toArray, List.set_cons_zero, List.set_cons_succ, List.getElem_toArray, List.getElem_cons_zero, List.getElem_cons_succ]
        refine any_take (i := 3) (v := (.int .i64 j)) #[true, true, true, false, false, false, false, false, false, false, false, false, false, false, false, false, false, false] rfl (by kernel_rfl) (by kernel_rfl) (by kernel_rfl) (by kernel_rfl) (fun _ _ _ h => h) (.inl ⟨by kernel_rfl, fun x_ hu => by go_simp⟩) hB ?_
        simp only [Act.put, List.setIfInBounds_toArray, List.set_cons_zero, List.set_cons_succ, List.getElem_toArray, List.getElem_cons_zero, List.getElem_cons_succ]
        refine any_take (i := 4) (v := (.pointer (some ⟨g5, j, none⟩))) #[true, true, true, true, false, false, false, false, false, false, false, false, false, false, false, false, false, false] rfl (by kernel_rfl) (by kernel_rfl) (by kernel_rfl) (by kernel_rfl) (fun _ _ _ h => h) (.inl ⟨by kernel_rfl, fun x_ hu => by go_simp⟩) hB ?_
        simp only [Act.put, List.setIfInBounds_toArray, List.set_cons_zero, List.set_cons_succ, List.getElem_toArray, List.getElem_cons_zero, List.getElem_cons_succ]
        refine any_take (i := 5) (v := (.int .i64 o)) #[true, true, true, true, true, false, false, false, false, false, false, false, false, false, false, false, false, false] rfl (by kernel_rfl) (by kernel_rfl) (by kernel_rfl) (by kernel_rfl) (fun _ _ _ h => h) (.inl ⟨by kernel_rfl, fun x_ hu => by have c0 := ni_cell (hu.get 0 (x := ⟨g5, ni L, 3⟩) rfl) j (by omega); rw [← unhide ho] at c0; go_simp⟩) hB ?_
        simp only [Act.put, List.setIfInBounds_toArray, List.set_cons_zero, List.set_cons_succ, List.getElem_toArray, List.getElem_cons_zero, List.getElem_cons_succ]
        refine any_take (i := 6) (v := (.slice (some ⟨pa, oa, none⟩) n ca)) #[true, true, true, true, true, true, false, false, false, false, false, false, false, false, false, false, false, false] rfl (by kernel_rfl) (by kernel_rfl) (by kernel_rfl) (by kernel_rfl) (fun _ _ _ h => h) (.inl ⟨by kernel_rfl, fun x_ hu => by kernel_rfl⟩) hB ?_
        simp only [Act.put, List.setIfInBounds_toArray, List.set_cons_zero, List.set_cons_succ, List.getElem_toArray, List.getElem_cons_zero, List.getElem_cons_succ]
        refine any_take (i := 7) (v := (.int .i64 i)) #[true, true, true, true, true, true, true, false, false, false, false, false, false, false, false, false, false, false] rfl (by kernel_rfl) (by kernel_rfl) (by kernel_rfl) (by kernel_rfl) (fun _ _ _ h => h) (.inl ⟨by kernel_rfl, fun x_ hu => by kernel_rfl⟩) hB ?_
        simp only [Act.put, List.setIfInBounds_toArray, List.set_cons_zero, List.set_cons_succ, List.getElem_toArray, List.getElem_cons_zero, List.getElem_cons_succ]
        refine any_take (i := 8) (v := (.pointer (some ⟨pa, oa + i, none⟩))) #[true, true, true, true, true, true, true, true, false, false, false, false, false, false, false, false, false, false] rfl (by kernel_rfl) (by kernel_rfl) (by kernel_rfl) (by kernel_rfl) (fun _ _ _ h => h) (.inl ⟨by kernel_rfl, fun x_ hu => by go_simp⟩) hB ?_
        simp only [Act.put, List.setIfInBounds_toArray, List.set_cons_zero, List.set_cons_succ, List.getElem_toArray, List.getElem_cons_zero, List.getElem_cons_succ]
        refine any_take (i := 9) (v := (.int .i64 x)) #[true, true, true, true, true, true, true, true, true, false, false, false, false, false, false, false, false, false] rfl (by kernel_rfl) (by kernel_rfl) (by kernel_rfl) (by kernel_rfl) (fun _ _ _ h => h) (.inl ⟨by kernel_rfl, fun x_ hu => by have c0 := hu.gr.cell (unhide hca); go_simp⟩) hB ?_
        simp only [Act.put, List.setIfInBounds_toArray, List.set_cons_zero, List.set_cons_succ, List.getElem_toArray, List.getElem_cons_zero, List.getElem_cons_succ]
        refine any_take (i := 10) (v := (.slice b m cb)) #[true, true, true, true, true, true, true, true, true, true, false, false, false, false, false, false, false, false] rfl (by kernel_rfl) (by kernel_rfl) (by kernel_rfl) (by kernel_rfl) (fun _ _ _ h => h) (.inl ⟨by kernel_rfl, fun x_ hu => by kernel_rfl⟩) hB ?_
        simp only [Act.put, List.setIfInBounds_toArray, List.set_cons_zero, List.set_cons_succ, List.getElem_toArray, List.getElem_cons_zero, List.getElem_cons_succ]
        refine any_take (i := 11) (v := (.int .i64 k)) #[true, true, true, true, true, true, true, true, true, true, true, false, false, false, false, false, false, false] rfl (by kernel_rfl) (by kernel_rfl) (by kernel_rfl) (by kernel_rfl) (fun _ _ _ h => h) (.inl ⟨by kernel_rfl, fun x_ hu => by kernel_rfl⟩) hB ?_
        simp only [Act.put, List.setIfInBounds_toArray, List.set_cons_zero, List.set_cons_succ, List.getElem_toArray, List.getElem_cons_zero, List.getElem_cons_succ]
        refine any_take (i := 15) (v := (.int .i64 c)) #[true, true, true, true, true, true, true, true, true, true, true, true, false, false, false, false, false, false] rfl (by kernel_rfl) (by kernel_rfl) (by kernel_rfl) (by kernel_rfl) (fun _ _ _ h => h) (.inl ⟨by kernel_rfl, fun x_ hu => by kernel_rfl⟩) hB ?_
        simp only [Act.put, List.setIfInBounds_toArray, List.set_cons_zero, List.set_cons_succ, List.getElem_toArray, List.getElem_cons_zero, List.getElem_cons_succ]
        refine any_one (i := 12) (by kernel_rfl) rfl (fun K_ hK => ?_)
        refine step_callw (by kernel_rfl) 54 #[.slice b m cb, .int .i64 k] (by kernel_rfl) ((rat_ok B b m cb k _ ((unhide lb).gr hB.gr)).mono ?_)
        rintro r wq ⟨rfl, rfl⟩
        refine ⟨_, rfl, ?_⟩
        rw [← unhide hy]
        refine hK.out _ _ hB (fun _ => ?_)
        clear hK K_
        simp only [Act.put, List.setIfInBounds_toArray, List.set_cons_zero, List.set_cons_succ, List.getElem_toArray, List.getElem_cons_zero, List.getElem_cons_succ]
        refine any_take (i := 13) (v := (.int .i64 xy)) #[true, true, true, true, true, true, true, true, true, true, true, true, true, false, false, true, false, false] rfl (by kernel_rfl) (by kernel_rfl) (by kernel_rfl) (by kernel_rfl) (fun _ _ _ h => h) (.inl ⟨by kernel_rfl, fun x_ hu => by go_simp⟩) hB ?_
        simp only [Act.put, List.setIfInBounds_toArray, List.set_cons_zero, List.set_cons_succ, List.getElem_toArray, List.getElem_cons_zero, List.getElem_cons_succ]
        refine any_take (i := 14) (v := (.int .i64 s1)) #[true, true, true, true, true, true, true, true, true, true, true, true, true, true, false, true, false, false] rfl (by kernel_rfl) (by kernel_rfl) (by kernel_rfl) (by kernel_rfl) (fun _ _ _ h => h) (.inl ⟨by kernel_rfl, fun x_ hu => by go_simp⟩) hB ?_
        simp only [Act.put, List.setIfInBounds_toArray, List.set_cons_zero, List.set_cons_succ, List.getElem_toArray, List.getElem_cons_zero, List.getElem_cons_succ]
        refine any_take (i := 16) (v := (.int .i64 s)) #[true, true, true, true, true, true, true, true, true, true, true, true, true, true, true, true, false, false] rfl (by kernel_rfl) (by kernel_rfl) (by kernel_rfl) (by kernel_rfl) (fun _ _ _ h => h) (.inl ⟨by kernel_rfl, fun x_ hu => by go_simp⟩) hB ?_
        simp only [Act.put, List.setIfInBounds_toArray, List.set_cons_zero, List.set_cons_succ, List.getElem_toArray, List.getElem_cons_zero, List.getElem_cons_succ]
        refine any_one (i := 17) (by kernel_rfl) rfl (fun K_ hK => ?_)
        replace hK := hide hK
        go_simp
        refine (unhide hK).out _ _ hB (fun _ => ?_)
        clear hK K_
        refine any_done (by kernel_rfl) ?_
        have c5 := ni_cell (hB.get 0 (x := ⟨g5, ni L, 3⟩) rfl) j (by omega)
        generalize L.getD j 0 = z5 at c5
        have fz := froz_of (i := j) (hB.get 0 (x := ⟨g5, ni L, 3⟩) rfl)
        have hB2 := hB.cell 0 (x := ⟨g5, ni L, 3⟩) rfl j (.int .i64 (d : Int))
        simp only [List.set_cons_zero, ni_set] at hB2
        clear hB
        replace hB2 := hide hB2
        go_wp2_with fail
        go_roundw
        case rel => exact ⟨k + 1, c2, _, by omega, by go_num, rfl, hL2, hAB2, by omega, hV2, hB2⟩
        case measure => simp [intOf]; omega
      have f1 : ¬ (k : Int) < (m : Int) := by omega
      have f2 : 0 < (c : Int) := by omega
      go_upto_region 9 with fail
      replace hB := unhide hB
      refine any_start (S := fun v => Bl w [⟨g5, ni L, 3⟩] v) (by kernel_rfl) ?_
      replace hB := hB.drew
      generalize World.drew _ = v0 at *
      simp only [List.size_toArray, List.length_cons, List.length_nil, Array.replicate, List.replicate]
      refine any_take (i := 0) (v := (.slice (some ⟨g5, 0, none⟩) q1 q1)) #[false, false, false, false, false, false, false, false, false, false, false, false, false, false, false, false, false, false] rfl (by kernel_rfl) (by kernel_rfl) (by kernel_rfl) (by kernel_rfl) (fun _ _ _ h => h) (.inl ⟨by kernel_rfl, fun x_ hu => by kernel_rfl⟩) hB ?_
      simp only [Act.put, List.setIfInBounds_toArray, List.set_cons_zero, List.set_cons_succ, List.getElem_toArray, List.getElem_cons_zero, List.getElem_cons_succ]
      refine any_take (i := 1) (v := (.int .i64 i)) #[true, false, false, false, false, false, false, false, false, false, false, false, false, false, false, false, false, false] rfl (by kernel_rfl) (by kernel_rfl) (by kernel_rfl) (by kernel_rfl) (fun _ _ _ h => h) (.inl ⟨by kernel_rfl, fun x_ hu => by kernel_rfl⟩) hB ?_
      simp only [Act.put, List.setIfInBounds_toArray, List.set_cons_zero, List.set_cons_succ, List.getElem_toArray, List.getElem_cons_zero, List.getElem_cons_succ]
      refine any_take (i := 2) (v := (.int .i64 k)) #[true, true, false, false, false, false, false, false, false, false, false, false, false, false, false, false, false, false] rfl (by kernel_rfl) (by kernel_rfl) (by kernel_rfl) (by kernel_rfl) (fun _ _ _ h => h) (.inl ⟨by kernel_rfl, fun x_ hu => by kernel_rfl⟩) hB ?_
      simp only [Act.put, List.setIfInBounds_toArray, List.set_cons_zero, List.set_cons_succ, List.getElem_toArray, List.getElem_cons_zero, List.getElem_cons_succ]
      refine any_take (i := 3) (v := (.int .i64 j)) #[true, true, true, false, false, false, false, false, false, false, false, false, false, false, false, false, false, false] rfl (by kernel_rfl) (by kernel_rfl) (by kernel_rfl) (by kernel_rfl) (fun _ _ _ h => h) (.inl ⟨by kernel_rfl, fun x_ hu => by go_simp⟩) hB ?_
      simp only [Act.put, List.setIfInBounds_toArray, List.set_cons_zero, List.set_cons_succ, List.getElem_toArray, List.getElem_cons_zero, List.getElem_cons_succ]
      refine any_take (i := 4) (v := (.pointer (some ⟨g5, j, none⟩))) #[true, true, true, true, false, false, false, false, false, false, false, false, false, false, false, false, false, false] rfl (by kernel_rfl) (by kernel_rfl) (by kernel_rfl) (by kernel_rfl) (fun _ _ _ h => h) (.inl ⟨by kernel_rfl, fun x_ hu => by go_simp⟩) hB ?_
      simp only [Act.put, List.setIfInBounds_toArray, List.set_cons_zero, List.set_cons_succ, List.getElem_toArray, List.getElem_cons_zero, List.getElem_cons_succ]
      refine any_take (i := 5) (v := (.int .i64 o)) #[true, true, true, true, true, false, false, false, false, false, false, false, false, false, false, false, false, false] rfl (by kernel_rfl) (by kernel_rfl) (by kernel_rfl) (by kernel_rfl) (fun _ _ _ h => h) (.inl ⟨by kernel_rfl, fun x_ hu => by have c0 := ni_cell (hu.get 0 (x := ⟨g5, ni L, 3⟩) rfl) j (by omega); rw [← unhide ho] at c0; go_simp⟩) hB ?_
      simp only [Act.put, List.setIfInBounds_toArray, List.set_cons_zero, List.set_cons_succ, List.getElem_toArray, List.getElem_cons_zero, List.getElem_cons_succ]
      refine any_take (i := 6) (v := (.slice (some ⟨pa, oa, none⟩) n ca)) #[true, true, true, true, true, true, false, false, false, false, false, false, false, false, false, false, false, false] rfl (by kernel_rfl) (by kernel_rfl) (by kernel_rfl) (by kernel_rfl) (fun _ _ _ h => h) (.inl ⟨by kernel_rfl, fun x_ hu => by kernel_rfl⟩) hB ?_
      simp only [Act.put, List.setIfInBounds_toArray, List.set_cons_zero, List.set_cons_succ, List.getElem_toArray, List.getElem_cons_zero, List.getElem_cons_succ]
      refine any_take (i := 7) (v := (.int .i64 i)) #[true, true, true, true, true, true, true, false, false, false, false, false, false, false, false, false, false, false] rfl (by kernel_rfl) (by kernel_rfl) (by kernel_rfl) (by kernel_rfl) (fun _ _ _ h => h) (.inl ⟨by kernel_rfl, fun x_ hu => by kernel_rfl⟩) hB ?_
      simp only [Act.put, List.setIfInBounds_toArray, List.set_cons_zero, List.set_cons_succ, List.getElem_toArray, List.getElem_cons_zero, List.getElem_cons_succ]
      refine any_take (i := 8) (v := (.pointer (some ⟨pa, oa + i, none⟩))) #[true, true, true, true, true, true, true, true, false, false, false, false, false, false, false, false, false, false] rfl (by kernel_rfl) (by kernel_rfl) (by kernel_rfl) (by kernel_rfl) (fun _ _ _ h => h) (.inl ⟨by kernel_rfl, fun x_ hu => by go_simp⟩) hB ?_
      simp only [Act.put, List.setIfInBounds_toArray, List.set_cons_zero, List.set_cons_succ, List.getElem_toArray, List.getElem_cons_zero, List.getElem_cons_succ]
      refine any_take (i := 9) (v := (.int .i64 x)) #[true, true, true, true, true, true, true, true, true, false, false, false, false, false, false, false, false, false] rfl (by kernel_rfl) (by kernel_rfl) (by kernel_rfl) (by kernel_rfl) (fun _ _ _ h => h) (.inl ⟨by kernel_rfl, fun x_ hu => by have c0 := hu.gr.cell (unhide hca); go_simp⟩) hB ?_
      simp only [Act.put, List.setIfInBounds_toArray, List.set_cons_zero, List.set_cons_succ, List.getElem_toArray, List.getElem_cons_zero, List.getElem_cons_succ]
      refine any_take (i := 10) (v := (.slice b m cb)) #[true, true, true, true, true, true, true, true, true, true, false, false, false, false, false, false, false, false] rfl (by kernel_rfl) (by kernel_rfl) (by kernel_rfl) (by kernel_rfl) (fun _ _ _ h => h) (.inl ⟨by kernel_rfl, fun x_ hu => by kernel_rfl⟩) hB ?_
      simp only [Act.put, List.setIfInBounds_toArray, List.set_cons_zero, List.set_cons_succ, List.getElem_toArray, List.getElem_cons_zero, List.getElem_cons_succ]
      refine any_take (i := 11) (v := (.int .i64 k)) #[true, true, true, true, true, true, true, true, true, true, true, false, false, false, false, false, false, false] rfl (by kernel_rfl) (by kernel_rfl) (by kernel_rfl) (by kernel_rfl) (fun _ _ _ h => h) (.inl ⟨by kernel_rfl, fun x_ hu => by kernel_rfl⟩) hB ?_
      simp only [Act.put, List.setIfInBounds_toArray, List.set_cons_zero, List.set_cons_succ, List.getElem_toArray, List.getElem_cons_zero, List.getElem_cons_succ]
      refine any_take (i := 15) (v := (.int .i64 c)) #[true, true, true, true, true, true, true, true, true, true, true, true, false, false, false, false, false, false] rfl (by kernel_rfl) (by kernel_rfl) (by kernel_rfl) (by kernel_rfl) (fun _ _ _ h => h) (.inl ⟨by kernel_rfl, fun x_ hu => by kernel_rfl⟩) hB ?_
      simp only [Act.put, List.setIfInBounds_toArray, List.set_cons_zero, List.set_cons_succ, List.getElem_toArray, List.getElem_cons_zero, List.getElem_cons_succ]
      refine any_one (i := 12) (by kernel_rfl) rfl (fun K_ hK => ?_)
      refine step_callw (by kernel_rfl) 54 #[.slice b m cb, .int .i64 k] (by kernel_rfl) ((rat_ok B b m cb k _ ((unhide lb).gr hB.gr)).mono ?_)
      rintro r wq ⟨rfl, rfl⟩
      refine ⟨_, rfl, ?_⟩
      rw [← unhide hy]
      refine hK.out _ _ hB (fun _ => ?_)
      clear hK K_
      simp only [Act.put, List.setIfInBounds_toArray, List.set_cons_zero, List.set_cons_succ, List.getElem_toArray, List.getElem_cons_zero, List.getElem_cons_succ]
      refine any_take (i := 13) (v := (.int .i64 xy)) #[true, true, true, true, true, true, true, true, true, true, true, true, true, false, false, true, false, false] rfl (by kernel_rfl) (by kernel_rfl) (by kernel_rfl) (by kernel_rfl) (fun _ _ _ h => h) (.inl ⟨by kernel_rfl, fun x_ hu => by go_simp⟩) hB ?_
      simp only [Act.put, List.setIfInBounds_toArray, List.set_cons_zero, List.set_cons_succ, List.getElem_toArray, List.getElem_cons_zero, List.getElem_cons_succ]
      refine any_take (i := 14) (v := (.int .i64 s1)) #[true, true, true, true, true, true, true, true, true, true, true, true, true, true, false, true, false, false] rfl (by kernel_rfl) (by kernel_rfl) (by kernel_rfl) (by kernel_rfl) (fun _ _ _ h => h) (.inl ⟨by kernel_rfl, fun x_ hu => by go_simp⟩) hB ?_
      simp only [Act.put, List.setIfInBounds_toArray, List.set_cons_zero, List.set_cons_succ, List.getElem_toArray, List.getElem_cons_zero, List.getElem_cons_succ]
      refine any_take (i := 16) (v := (.int .i64 s)) #[true, true, true, true, true, true, true, true, true, true, true, true, true, true, true, true, false, false] rfl (by kernel_rfl) (by kernel_rfl) (by kernel_rfl) (by kernel_rfl) (fun _ _ _ h => h) (.inl ⟨by kernel_rfl, fun x_ hu => by go_simp⟩) hB ?_
      simp only [Act.put, List.setIfInBounds_toArray, List.set_cons_zero, List.set_cons_succ, List.getElem_toArray, List.getElem_cons_zero, List.getElem_cons_succ]
      refine any_one (i := 17) (by kernel_rfl) rfl (fun K_ hK => ?_)
      replace hK := hide hK
      go_simp
      refine (unhide hK).out _ _ hB (fun _ => ?_)
      clear hK K_
      refine any_done (by kernel_rfl) ?_
      have c5 := ni_cell (hB.get 0 (x := ⟨g5, ni L, 3⟩) rfl) j (by omega)
      generalize L.getD j 0 = z5 at c5
      have fz := froz_of (i := j) (hB.get 0 (x := ⟨g5, ni L, 3⟩) rfl)
      have hB2 := hB.cell 0 (x := ⟨g5, ni L, 3⟩) rfl j (.int .i64 (d : Int))
      simp only [List.set_cons_zero, ni_set] at hB2
      clear hB
      replace hB2 := hide hB2
      go_wp2_with fail
      go_roundw
      case rel => exact ⟨k + 1, c2, _, by omega, by go_num, rfl, hL2, hAB2, by omega, hV2, hB2⟩
      case measure => simp [intOf]; omega
    have f1 : ¬ (k : Int) < (m : Int) := by omega
    have f2 : ¬ 0 < (c : Int) := by omega
    have hV3 : Hid (V L = V (A.take (i + 1)) * V B) := by
      have h := unhide hV
      rw [show c = 0 from by omega, Nat.mul_zero, Nat.add_zero, V_take_all B k (by rw [unhide hm]; omega)] at h
      rw [h, V_take_succ, Nat.add_mul, unhide hx, Nat.mul_comm (A.getD i 0) (256 ^ i)]
      exact rfl
    clear hV
    go_wp2_with fail
    go_roundw
    case rel => exact ⟨i + 1, L, by omega, by go_num, hL, hAB, hV3, hB⟩
    case measure => simp [intOf]; omega
  · have iI : ¬ (i : Int) < (n : Int) := by omega
    have hP : Hid (∃ v' L, Ending.returned (.slice (some ⟨g5, 0, none⟩) q1 q1) = .returned v' ∧ Oi w.heap.size wr v' L ∧ TimesP A B L ∧ Gr w wr) := by
      refine ⟨_, L, rfl, oi_of ((unhide hB).get 0 (x := ⟨g5, ni L, 3⟩) rfl) (unhide hL) ((unhide hB).own 0 (x := ⟨g5, ni L, 3⟩) rfl) (by omega), ⟨unhide hAB, ?_, ?_⟩, (unhide hB).gr⟩
      · rw [unhide hV, V_take_all A i (by rw [unhide hn]; omega)]
      · rw [unhide hL, unhide hn, unhide hm]; exact unhide hq1
    clear hB hV hAB hL
    go_wp2_with fail
    rw [unhide hT]
    exact unhide hP
end Go.Proofs.Ytdekjbdkpchbjaa
