/-
  Layer 14: the reference: announcements of bytes.
-/
import Derived.Test.YtiejdpodffkdpaaFT
namespace Go.Proofs.Ytiejdpodffkdpaa
open Go.RowKit
set_option maxRecDepth 100000
set_option linter.unusedSimpArgs false
set_option linter.unusedVariables false
theorem exec_fromt {a : Act} {o : Oper} (w : World) (x y : Operand) (ho : o.op = .slice 26 x (some y) none none) (p q len cap l : Nat) (hx : a.eval x = .slice (some ⟨p, q, none⟩) len cap) (hy : a.eval y = .int .i64 l) (h1 : l ≤ len) (h2 : len ≤ cap) (ta : Option Addr) (ht : ta = if cap = l then some ⟨p, q, none⟩ else some ⟨p, q + l, none⟩) :
    (execOp a.eval o).run Try.prog w = .ok (.value (.slice ta (len - l) (cap - l))) w := by
  have h := exec_from w x y ho (some ⟨p, q, none⟩) len cap l hx hy h2 h1
  rw [Option.map_some, Addr.add_mid] at h
  rw [ht]
  exact h
theorem lb_fromt {w : World} {p q n c : Nat} {L : List Int} (h : Lb w (some ⟨p, q, none⟩) n c L) (l : Nat) (hl : l ≤ n) (ta : Option Addr) (ht : ta = if c = l then some ⟨p, q, none⟩ else some ⟨p, q + l, none⟩) : Lb w ta (n - l) (c - l) (L.drop l) := by
  by_cases e : l = n
  · subst e
    have e9 : L.drop l = [] := List.drop_eq_nil_of_le (by rw [h.len]; exact Nat.le_refl _)
    rw [e9, Nat.sub_self]
    exact ⟨rfl, (fun x hx => by cases hx), .inl rfl, by omega, by have := h.max; omega⟩
  · have hc := h.cap
    rw [if_neg (by omega)] at ht
    rw [ht]
    exact lb_fromd h l (by omega)
theorem sp_whole {C V : List Value} (h : V.length = C.length) : sp C 0 V = V := by
  have := sp_mid V [] C [] h
  simpa using this
/-- what lies there behind j hops -/
structure QnS (q4 : Nat) (w : World) (L : List Int) (r : Int) (j : Nat) (hv : Value) (v : World) : Prop where
  bl : Bl w [⟨w.heap.size, #[.int .u64 0, .slice none 0 0], 25⟩, ⟨q4, #[.int .u64 r, hv], 25⟩] v
  rows : Or_ 32 30 w.heap.size v hv ((ksO L j).map bv)
/-- what the reference reads of an announcement's bytes -/
def QA (L : List Int) (g : Bool) (w : World) (r : Ending) (w' : World) : Prop := ∃ a c', r = .returned (.tuple #[.agg #[.int .u64 (lowN ((L.drop 1).take 8)), .slice a (anN L) c'], .bool g]) ∧ Or_ 32 30 w.heap.size w' (.slice a (anN L) c') ((ksO L (anN L)).map bv) ∧ Gr w w'
def QN (w : World) (r : Ending) (w' : World) : Prop := r = .returned (.tuple #[.agg #[.int .u64 0, .slice none 0 0], .bool false]) ∧ Gr w w'
def anQ (L : List Int) : Bool := decide (L.getD 0 0 = 1) && anR (lowN ((L.drop 1).take 8)) (anN L)
set_option maxHeartbeats 4000000 in
theorem qgeta_ok (L : List Int) (p0 q0 c0 : Nat) (w : World) (hB0 : Lb w (some ⟨p0, q0, none⟩) 106 c0 L) (hQ : anQ L = true) : Calls Try.prog 13 #[.slice (some ⟨p0, q0, none⟩) 106 c0] w (QA L (allZ (L.drop (10 + 32 * anN L))) w) := by
  obtain ⟨T, hT⟩ : ∃ T, T = QA L (allZ (L.drop (10 + 32 * anN L))) w := ⟨_, rfl⟩
  rw [← hT]
  replace hT := hide hT
  have hL := hB0.len
  have hcap := hB0.cap
  have hmax := hB0.max
  have hLb := hide hB0.isB
  have hc0 := hide (fun (v : World) (g : Gr w v) => lb_cell (hB0.gr g) 0 (by omega))
  have hc9 := hide (fun (v : World) (g : Gr w v) => lb_cell (hB0.gr g) 9 (by omega))
  have hw1 := lb_win hB0 1 8 (by omega) (by omega)
  obtain ⟨r, hr0⟩ : ∃ x, x = lowN ((L.drop 1).take 8) := ⟨_, rfl⟩
  have hn1 := hB0.isB.at_ 9
  obtain ⟨n1, hn10⟩ : ∃ x, x = L.getD 9 0 := ⟨_, rfl⟩
  rw [← hn10] at hn1 hc9
  obtain ⟨n, rfl⟩ := Int.eq_ofNat_of_zero_le hn1.1
  have hn255 : n < 256 := by omega
  have hnN : anN L = n := by unfold anN; rw [← hn10]; rfl
  unfold anQ at hQ
  rw [hnN, ← hr0] at hQ
  obtain ⟨f1, hf1⟩ : ∃ x, x = L.getD 0 0 := ⟨_, rfl⟩
  rw [← hf1] at hQ hc0
  have hnw : IntKind.i64.wrap (n : Int) = (n : Int) := by rw [IntKind.wrap_i64]; omega
  clear hn1 hn10 hf1
  replace hr0 := hide hr0; replace hw1 := hide hw1; replace hB0 := hide hB0; replace hnN := hide hnN
  go_enter Try.func13, Try.ntmps13
  go_upto_region 1 with fail
  have hB := ((Bl.nil w).new #[.int .u64 0, .slice none 0 0] 25)
  simp only [size_alloc, List.nil_append, List.cons_append] at hB
  generalize World.alloc _ _ = u at *
  replace hB : Bl w [⟨w.heap.size, #[.int .u64 0, .slice none 0 0], 25⟩] u := hB
  refine wp_region_lit ?_
  refine list_val (.slice (some ⟨p0, q0, none⟩) 106 c0) (by kernel_rfl) (by kernel_rfl) ?_
  simp only [Act.put, List.setIfInBounds_toArray, List.set_cons_zero, List.set_cons_succ, List.getElem_toArray, List.getElem_cons_zero, List.getElem_cons_succ]
  refine list_val (.slice (some ⟨p0, q0 + 1, none⟩) 8 (c0 - 1)) (by kernel_rfl) (exec_winl _ (.tmp 8) (.const (.int .i64 1)) (.const (.int .i64 9)) rfl p0 q0 106 c0 1 9 8 (by kernel_rfl) (by kernel_rfl) (by kernel_rfl) rfl (by omega) (by omega)) ?_
  simp only [Act.put, List.setIfInBounds_toArray, List.set_cons_zero, List.set_cons_succ, List.getElem_toArray, List.getElem_cons_zero, List.getElem_cons_succ]
  refine list_call 28 #[.slice (some ⟨p0, q0 + 1, none⟩) 8 (c0 - 1)] (by kernel_rfl) (by kernel_rfl) ((qnum_ok ((L.drop 1).take 8) _ 8 (c0 - 1) (by omega) u ((unhide hw1).gr hB.gr)).mono ?_)
  rintro r_ u1 ⟨rfl, rfl⟩
  rw [← unhide hr0]
  refine ⟨_, rfl, ?_⟩
  simp only [Act.put, List.setIfInBounds_toArray, List.set_cons_zero, List.set_cons_succ, List.getElem_toArray, List.getElem_cons_zero, List.getElem_cons_succ]
  refine list_val (.agg #[.int .u64 r, .slice none 0 0]) (by kernel_rfl) (by kernel_rfl) ?_
  simp only [Act.put, List.setIfInBounds_toArray, List.set_cons_zero, List.set_cons_succ, List.getElem_toArray, List.getElem_cons_zero, List.getElem_cons_succ]
  refine list_valw (.pointer (some ⟨u1.heap.size, 0, none⟩)) (u1.alloc (.cells #[.int .u64 0, .slice none 0 0] 25 (0, 0))) (by kernel_rfl) (by kernel_rfl) ?_
  replace hB := hB.new #[.int .u64 0, .slice none 0 0] 25
  simp only [List.nil_append, List.cons_append] at hB
  generalize World.alloc _ _ = u2 at *
  generalize u1.heap.size = q4 at *
  replace hB : Bl w [⟨w.heap.size, #[.int .u64 0, .slice none 0 0], 25⟩, ⟨q4, #[.int .u64 0, .slice none 0 0], 25⟩] u2 := hB
  simp only [Act.put, List.setIfInBounds_toArray, List.set_cons_zero, List.set_cons_succ, List.getElem_toArray, List.getElem_cons_zero, List.getElem_cons_succ]
  refine list_store 25 (.tmp 4) (.tmp 11) q4 #[.int .u64 r, .slice none 0 0] 25 #[.int .u64 0, .slice none 0 0] (by kernel_rfl) rfl (by kernel_rfl) (by kernel_rfl) (hB.get 1 (x := ⟨q4, #[.int .u64 0, .slice none 0 0], 25⟩) rfl) (by rw [Try.infoA]; rfl) rfl (by simp [Value.oneCell']) ?_
  replace hB := hB.set 1 (x := ⟨q4, #[.int .u64 0, .slice none 0 0], 25⟩) rfl #[.int .u64 r, .slice none 0 0]
  simp only [List.set_cons_zero, List.set_cons_succ] at hB
  generalize World.setRow _ _ _ = u3 at *
  replace hB : Bl w [⟨w.heap.size, #[.int .u64 0, .slice none 0 0], 25⟩, ⟨q4, #[.int .u64 r, .slice none 0 0], 25⟩] u3 := hB
  simp only [Act.put, List.setIfInBounds_toArray, List.set_cons_zero, List.set_cons_succ, List.getElem_toArray, List.getElem_cons_zero, List.getElem_cons_succ]
  refine wpList_nil ?_
  replace hB := hide hB
  go_upto_region 2 with fail
  replace hB := unhide hB
  refine wp_region_lit ?_
  refine list_val (.slice (some ⟨p0, q0, none⟩) 106 c0) (by kernel_rfl) (by kernel_rfl) ?_
  simp only [Act.put, List.setIfInBounds_toArray, List.set_cons_zero, List.set_cons_succ, List.getElem_toArray, List.getElem_cons_zero, List.getElem_cons_succ]
  refine list_val (.pointer (some ⟨p0, q0 + 9, none⟩)) (by kernel_rfl) (exec_ibs _ (.tmp 12) (.const (.int .i64 9)) rfl p0 q0 106 c0 9 (by kernel_rfl) (by kernel_rfl) (by omega)) ?_
  simp only [Act.put, List.setIfInBounds_toArray, List.set_cons_zero, List.set_cons_succ, List.getElem_toArray, List.getElem_cons_zero, List.getElem_cons_succ]
  refine list_val (.int .u8 (n : Int)) (by kernel_rfl) (exec_b _ (.tmp 13) rfl p0 (q0 + 9) (by kernel_rfl) (n : Int) (unhide hc9 _ hB.gr)) ?_
  simp only [Act.put, List.setIfInBounds_toArray, List.set_cons_zero, List.set_cons_succ, List.getElem_toArray, List.getElem_cons_zero, List.getElem_cons_succ]
  refine list_val (.int .i64 (n : Int)) (by kernel_rfl) (by go_simp) ?_
  simp only [Act.put, List.setIfInBounds_toArray, List.set_cons_zero, List.set_cons_succ, List.getElem_toArray, List.getElem_cons_zero, List.getElem_cons_succ]
  (refine wpList_step fun K hK => ?_; replace hK := hide hK; go_simp; refine unhide hK _ _ ?_; clear hK K)
  refine wpList_nil ?_
  replace hB := hide hB
  go_upto_region 3 with fail
  replace hB := unhide hB
  simp only [Bool.and_eq_true, decide_eq_true_iff] at hQ
  obtain ⟨rfl, hAR⟩ := hQ
  have hRR : 0 < r ∧ 1 ≤ n ∧ n ≤ 3 := by unfold anR at hAR; rwa [decide_eq_true_iff] at hAR
  have hn1I : ¬ (n : Int) < 1 := by omega
  have hn3I : ¬ 3 < (n : Int) := by omega
  have hrI : ¬ r = 0 := by omega
  have hn3 : n ≤ 3 := hRR.2.2
  refine wp_region_lit ?_
  refine list_val (.int .i64 (n : Int)) (by kernel_rfl) (by kernel_rfl) ?_
  simp only [Act.put, List.setIfInBounds_toArray, List.set_cons_zero, List.set_cons_succ, List.getElem_toArray, List.getElem_cons_zero, List.getElem_cons_succ]
  refine list_val (.bool false) (by kernel_rfl) (by go_simp) ?_
  simp only [Act.put, List.setIfInBounds_toArray, List.set_cons_zero, List.set_cons_succ, List.getElem_toArray, List.getElem_cons_zero, List.getElem_cons_succ]
  refine list_val (.bool false) (by kernel_rfl) (by kernel_rfl) ?_
  simp only [Act.put, List.setIfInBounds_toArray, List.set_cons_zero, List.set_cons_succ, List.getElem_toArray, List.getElem_cons_zero, List.getElem_cons_succ]
  refine list_val (.int .i64 (n : Int)) (by kernel_rfl) (by kernel_rfl) ?_
  simp only [Act.put, List.setIfInBounds_toArray, List.set_cons_zero, List.set_cons_succ, List.getElem_toArray, List.getElem_cons_zero, List.getElem_cons_succ]
  refine list_val (.bool false) (by kernel_rfl) (by go_simp) ?_
  simp only [Act.put, List.setIfInBounds_toArray, List.set_cons_zero, List.set_cons_succ, List.getElem_toArray, List.getElem_cons_zero, List.getElem_cons_succ]
  refine list_val (.bool false) (by kernel_rfl) (by kernel_rfl) ?_
  simp only [Act.put, List.setIfInBounds_toArray, List.set_cons_zero, List.set_cons_succ, List.getElem_toArray, List.getElem_cons_zero, List.getElem_cons_succ]
  refine list_val (.bool false) (by kernel_rfl) (by kernel_rfl) ?_
  simp only [Act.put, List.setIfInBounds_toArray, List.set_cons_zero, List.set_cons_succ, List.getElem_toArray, List.getElem_cons_zero, List.getElem_cons_succ]
  refine list_val (.slice (some ⟨p0, q0, none⟩) 106 c0) (by kernel_rfl) (by kernel_rfl) ?_
  simp only [Act.put, List.setIfInBounds_toArray, List.set_cons_zero, List.set_cons_succ, List.getElem_toArray, List.getElem_cons_zero, List.getElem_cons_succ]
  refine list_val (.pointer (some ⟨p0, q0, none⟩)) (by kernel_rfl) (exec_ibs _ (.tmp 23) (.const (.int .i64 0)) rfl p0 q0 106 c0 0 (by kernel_rfl) (by kernel_rfl) (by omega)) ?_
  simp only [Act.put, List.setIfInBounds_toArray, List.set_cons_zero, List.set_cons_succ, List.getElem_toArray, List.getElem_cons_zero, List.getElem_cons_succ]
  refine list_val (.int .u8 1) (by kernel_rfl) (exec_b _ (.tmp 24) rfl p0 q0 (by kernel_rfl) 1 (unhide hc0 _ hB.gr)) ?_
  simp only [Act.put, List.setIfInBounds_toArray, List.set_cons_zero, List.set_cons_succ, List.getElem_toArray, List.getElem_cons_zero, List.getElem_cons_succ]
  refine list_val (.bool false) (by kernel_rfl) (by kernel_rfl) ?_
  simp only [Act.put, List.setIfInBounds_toArray, List.set_cons_zero, List.set_cons_succ, List.getElem_toArray, List.getElem_cons_zero, List.getElem_cons_succ]
  refine list_val (.bool false) (by kernel_rfl) (by kernel_rfl) ?_
  simp only [Act.put, List.setIfInBounds_toArray, List.set_cons_zero, List.set_cons_succ, List.getElem_toArray, List.getElem_cons_zero, List.getElem_cons_succ]
  refine list_val (.bool false) (by kernel_rfl) (by kernel_rfl) ?_
  simp only [Act.put, List.setIfInBounds_toArray, List.set_cons_zero, List.set_cons_succ, List.getElem_toArray, List.getElem_cons_zero, List.getElem_cons_succ]
  refine list_val (.pointer (some ⟨q4, 0, none⟩)) (by kernel_rfl) (by kernel_rfl) ?_
  simp only [Act.put, List.setIfInBounds_toArray, List.set_cons_zero, List.set_cons_succ, List.getElem_toArray, List.getElem_cons_zero, List.getElem_cons_succ]
  refine list_val (.int .u64 r) (by kernel_rfl) (exec_u64 _ (.tmp 29) rfl q4 0 (by kernel_rfl) r (cell_of (hB.get 1 (x := ⟨q4, #[.int .u64 r, .slice none 0 0], 25⟩) rfl) (i := 0) rfl)) ?_
  simp only [Act.put, List.setIfInBounds_toArray, List.set_cons_zero, List.set_cons_succ, List.getElem_toArray, List.getElem_cons_zero, List.getElem_cons_succ]
  refine list_val (.bool false) (by kernel_rfl) (by go_simp) ?_
  simp only [Act.put, List.setIfInBounds_toArray, List.set_cons_zero, List.set_cons_succ, List.getElem_toArray, List.getElem_cons_zero, List.getElem_cons_succ]
  refine list_val (.bool false) (by kernel_rfl) (by kernel_rfl) ?_
  simp only [Act.put, List.setIfInBounds_toArray, List.set_cons_zero, List.set_cons_succ, List.getElem_toArray, List.getElem_cons_zero, List.getElem_cons_succ]
  refine wpList_nil ?_
  have hI0 : Hid (QnS q4 w L r 0 (.slice none 0 0) u3) := ⟨hB, (fun x hx => by cases hx), rfl, .inl ⟨rfl, rfl⟩⟩
  have hq4 : Hid (w.heap.size ≤ q4) := hB.own 1 (x := ⟨q4, #[.int .u64 r, .slice none 0 0], 25⟩) rfl
  clear hB hRR hAR hn1I hn3I hrI
  go_wp2_with fail
  go_loopw [6, 7] (fun i kx wr => ∃ (j : Nat) (hv : Value), j ≤ n ∧ i = .int .i64 (j : Int) ∧ Hid (QnS q4 w L r j hv wr)) (fun i _ _ => n - (intOf i).toNat)
  case atStart => exact ⟨0, _, by omega, rfl, hI0⟩
  case round =>
  clear hI0
  obtain ⟨j, hv, hj, rfl, hA⟩ := hrel
  obtain ⟨hbl, hor⟩ := unhide hA
  clear hA
  obtain ⟨ah, ch, rfl, -⟩ := hor.ls
  rw [List.length_map, ksO_len] at hbl hor
  by_cases hlt : j < n
  · skip
    have jI : (j : Int) < (n : Int) := by omega
    obtain ⟨o9, ho9⟩ : ∃ o, o = 10 + 32 * j := ⟨_, rfl⟩
    obtain ⟨e3, he3⟩ : ∃ e : Int, e = 32 * (j : Int) := ⟨_, rfl⟩
    have hw3 : IntKind.i64.wrap (32 * (j : Int)) = e3 := by rw [IntKind.wrap_i64]; omega
    have hw4 : IntKind.i64.wrap (10 + e3) = (o9 : Int) := by rw [IntKind.wrap_i64]; omega
    have ho74 : o9 ≤ 74 := by omega
    have hky : kyO L j = (L.drop o9).take 32 := by unfold kyO; rw [if_pos (by omega), ho9]
    have hsrc := lb_win (unhide hB0) o9 32 (by omega) (by omega)
    have hks : Hid (ksO L (j + 1) = ksO L j ++ [kyO L j]) := ksO_succ L j
    have hkk := kyO_ok hL (unhide hLb) j
    rw [← hky] at hsrc
    generalize kyO L j = KJ at *
    obtain ⟨hkl, hkb⟩ := hkk
    clear ho9 he3 hky
    replace hsrc := hide hsrc; replace hbl := hide hbl; replace hor := hide hor
    have hk8 := Bl.nil wr
    replace hk8 := hide hk8
    go_upto_region 8 with fail
    replace hk8 := unhide hk8
    refine wp_region_lit ?_
    refine list_valw (.pointer (some ⟨wr.heap.size, 0, none⟩)) (wr.alloc (.cells (kc Z32) 30 (0, 0))) (by kernel_rfl) (by kernel_rfl) ?_
    replace hk8 := hk8.new (kc Z32) 30
    simp only [List.nil_append, List.cons_append] at hk8
    generalize World.alloc _ _ = y1 at *
    obtain ⟨gk, hgk⟩ : ∃ x, x = wr.heap.size := ⟨_, rfl⟩
    rw [← hgk]
    rw [← hgk] at hk8
    clear hgk
    replace hk8 : Bl wr [⟨gk, kc Z32, 30⟩] y1 := hk8
    simp only [Act.put, List.setIfInBounds_toArray, List.set_cons_zero, List.set_cons_succ, List.getElem_toArray, List.getElem_cons_zero, List.getElem_cons_succ]
    refine wpList_nil ?_
    replace hk8 := hide hk8
    go_upto_region 9 with fail
    replace hk8 := unhide hk8
    refine any_start (S := fun _ => True) (by kernel_rfl) ?_
    replace hk8 := hk8.drew
    generalize World.drew _ = y2 at *
    replace hk8 : Bl wr [⟨gk, kc Z32, 30⟩] y2 := hk8
    simp only [List.size_toArray, List.length_cons, List.length_nil, Array.replicate, List.replicate]
    refine any_take (i := 0) (v := (.slice (some ⟨gk, 0, none⟩) 32 32)) #[false, false, false, false, false, false, false] rfl (by kernel_rfl) (by kernel_rfl) (by kernel_rfl) (by kernel_rfl) (fun _ _ _ h => h) (.inl ⟨by kernel_rfl, fun x_ hu => by kernel_rfl⟩) trivial ?_
    simp only [Act.put, List.setIfInBounds_toArray, List.set_cons_zero, List.set_cons_succ, List.getElem_toArray, List.getElem_cons_zero, List.getElem_cons_succ]
    refine any_take (i := 1) (v := (.slice (some ⟨p0, q0, none⟩) 106 c0)) #[true, false, false, false, false, false, false] rfl (by kernel_rfl) (by kernel_rfl) (by kernel_rfl) (by kernel_rfl) (fun _ _ _ h => h) (.inl ⟨by kernel_rfl, fun x_ hu => by kernel_rfl⟩) trivial ?_
    simp only [Act.put, List.setIfInBounds_toArray, List.set_cons_zero, List.set_cons_succ, List.getElem_toArray, List.getElem_cons_zero, List.getElem_cons_succ]
    refine any_take (i := 2) (v := (.int .i64 (j : Int))) #[true, true, false, false, false, false, false] rfl (by kernel_rfl) (by kernel_rfl) (by kernel_rfl) (by kernel_rfl) (fun _ _ _ h => h) (.inl ⟨by kernel_rfl, fun x_ hu => by kernel_rfl⟩) trivial ?_
    simp only [Act.put, List.setIfInBounds_toArray, List.set_cons_zero, List.set_cons_succ, List.getElem_toArray, List.getElem_cons_zero, List.getElem_cons_succ]
    refine any_take (i := 3) (v := (.int .i64 e3)) #[true, true, true, false, false, false, false] rfl (by kernel_rfl) (by kernel_rfl) (by kernel_rfl) (by kernel_rfl) (fun _ _ _ h => h) (.inl ⟨by kernel_rfl, fun x_ hu => by go_simp⟩) trivial ?_
    simp only [Act.put, List.setIfInBounds_toArray, List.set_cons_zero, List.set_cons_succ, List.getElem_toArray, List.getElem_cons_zero, List.getElem_cons_succ]
    refine any_take (i := 4) (v := (.int .i64 (o9 : Int))) #[true, true, true, true, false, false, false] rfl (by kernel_rfl) (by kernel_rfl) (by kernel_rfl) (by kernel_rfl) (fun _ _ _ h => h) (.inl ⟨by kernel_rfl, fun x_ hu => by go_simp⟩) trivial ?_
    simp only [Act.put, List.setIfInBounds_toArray, List.set_cons_zero, List.set_cons_succ, List.getElem_toArray, List.getElem_cons_zero, List.getElem_cons_succ]
    refine any_take (i := 5) (v := (.slice (some ⟨p0, q0 + o9, none⟩) (106 - o9) (c0 - o9))) #[true, true, true, true, true, false, false] rfl (by kernel_rfl) (by kernel_rfl) (by kernel_rfl) (by kernel_rfl) (fun _ _ _ h => h) (.inl ⟨by kernel_rfl, fun x_ hu => exec_froml _ (.tmp 40) (.tmp 43) rfl p0 q0 106 c0 o9 (by kernel_rfl) (by kernel_rfl) (by omega) (by omega)⟩) trivial ?_
    simp only [Act.put, List.setIfInBounds_toArray, List.set_cons_zero, List.set_cons_succ, List.getElem_toArray, List.getElem_cons_zero, List.getElem_cons_succ]
    refine any_one (i := 6) (by kernel_rfl) rfl (fun K hK => ?_)
    rw [if_pos (by kernel_rfl)]
    have hgk := hk8.get 0 (x := ⟨gk, kc Z32, 30⟩) rfl
    dsimp only at hgk
    refine copy_wp (.tmp 39) (.tmp 44) rfl gk 0 32 32 (some ⟨p0, q0 + o9, none⟩) (106 - o9) (c0 - o9) (by kernel_rfl) (by kernel_rfl) (bv Z32) 30 hgk KJ (by rw [hkl]; exact (Nat.min_eq_right (by omega)).symm) (((unhide hsrc).gr ((unhide hbl).gr.trans hk8.gr)).sl) (by rw [hkl]; decide) ?_
    have hcell := setCells_heap (bv KJ) y2 gk 0 (bv Z32) 30 hgk
    rw [sp_whole (by rw [bv_len, bv_len, hkl]; rfl)] at hcell
    replace hk8 := hk8.but (setCells_bt (bv KJ) y2 gk 0) 0 (x := ⟨gk, kc Z32, 30⟩) rfl rfl hcell
    simp only [List.set_cons_zero, List.set_cons_succ] at hk8
    have eb : KJ.map (Value.int .u8) = bv KJ := rfl
    rw [eb]
    generalize World.setCells _ _ _ _ = y3 at *
    replace hk8 : Bl wr [⟨gk, kc KJ, 30⟩] y3 := hk8
    rw [hkl]
    clear hcell eb hgk
    refine hK.out _ _ trivial (fun _ => ?_)
    clear hK K
    simp only [Act.put, List.setIfInBounds_toArray, List.set_cons_zero, List.set_cons_succ, List.getElem_toArray, List.getElem_cons_zero, List.getElem_cons_succ]
    refine any_done (by kernel_rfl) ?_
    replace hor := hide ((unhide hor).gr hk8.gr)
    have hbl2 := (unhide hbl).more hk8.gr
    clear hbl
    have hgk := hide (hk8.get 0 (x := ⟨gk, kc KJ, 30⟩) rfl)
    dsimp only at hgk
    clear hk8
    replace hbl2 := hide hbl2
    go_upto_region 10 with fail
    have hbl := unhide hbl2
    clear hbl2
    replace hbl : Bl w [⟨w.heap.size, #[.int .u64 0, .slice none 0 0], 25⟩, ⟨q4, #[.int .u64 r, .slice ah j ch], 25⟩] y3 := hbl
    refine wp_region_lit ?_
    refine list_val (.pointer (some ⟨q4, 1, none⟩)) (by kernel_rfl) (by kernel_rfl) ?_
    simp only [Act.put, List.setIfInBounds_toArray, List.set_cons_zero, List.set_cons_succ, List.getElem_toArray, List.getElem_cons_zero, List.getElem_cons_succ]
    refine list_val (.slice ah j ch) (by kernel_rfl) (exec_sks _ (.tmp 46) rfl q4 1 (by kernel_rfl) ah j ch (cell_of (hbl.get 1 (x := ⟨q4, #[.int .u64 r, .slice ah j ch], 25⟩) rfl) (i := 1) rfl)) ?_
    simp only [Act.put, List.setIfInBounds_toArray, List.set_cons_zero, List.set_cons_succ, List.getElem_toArray, List.getElem_cons_zero, List.getElem_cons_succ]
    refine list_val (.agg (kc KJ)) (by kernel_rfl) (exec_arr _ 30 (.tmp 7) rfl gk (by kernel_rfl) (kc KJ) 30 _ (unhide hgk) Try.underlying30 rfl (by rw [Try.infoKy, kc_size, hkl])) ?_
    simp only [Act.put, List.setIfInBounds_toArray, List.set_cons_zero, List.set_cons_succ, List.getElem_toArray, List.getElem_cons_zero, List.getElem_cons_succ]
    refine list_valw (.slice (some ⟨y3.heap.size, 0, none⟩) 1 1) (y3.alloc (.cells (kc KJ) 30 (0, 0))) (by kernel_rfl) (exec_bk1 _ (.tmp 48) rfl KJ hkl (by kernel_rfl)) ?_
    have hg3 := (Gr.refl y3).alloc (.cells (kc KJ) 30 (0, 0))
    have hb3 : (y3.alloc (.cells (kc KJ) 30 (0, 0))).heap[y3.heap.size]? = some (.cells (kc KJ) 30 (0, 0)) := blk_new _ _
    generalize World.alloc _ _ = y4 at *
    generalize y3.heap.size = h2 at *
    replace hor := hide ((unhide hor).gr hg3)
    replace hbl := hbl.more hg3
    have hls : Ls 32 y4 (some ⟨h2, 0, none⟩) 1 1 [bv KJ] := by
      refine ⟨rfl, ?_, .inr ⟨h2, 0, rfl, ?_⟩, Nat.le_refl _, by omega, fun p e => by have e3 := Option.some.inj e; rw [← e3]; exact lt_of_block hb3⟩
      · intro r hr
        rw [List.mem_singleton.1 hr, bv_len, hkl]
      · simp only [List.flatten_cons, List.flatten_nil, List.append_nil]
        exact range_row hb3
    replace hls := hide hls
    clear hg3 hb3
    simp only [Act.put, List.setIfInBounds_toArray, List.set_cons_zero, List.set_cons_succ, List.getElem_toArray, List.getElem_cons_zero, List.getElem_cons_succ]
    refine wpList_step fun K hK => ?_
    rw [if_pos (by kernel_rfl)]
    refine app_rows lt_k (.tmp 47) (.tmp 49) rfl w.heap.size _ ((ksO L j).map bv) (by kernel_rfl) (unhide hor) (some ⟨h2, 0, none⟩) 1 1 [bv KJ] (by kernel_rfl) (unhide hls) (by intro r hr; rw [List.mem_singleton.1 hr]; intro u hu; obtain ⟨z, _, rfl⟩ := List.mem_map.1 hu; rfl) (by rw [List.length_map, ksO_len]; omega) hbl.gr.size ?_
    intro v4 y5 hO4 hgr
    have hbl4 := hbl.grownR (unhide hor) (Nat.le_refl _) hgr (by intro y hy; simp only [List.mem_cons, List.not_mem_nil, or_false] at hy; rcases hy with rfl | rfl <;> exact (by decide : (25 : TypeId) ≠ 30))
    have hor4 : Or_ 32 30 w.heap.size y5 v4 ((ksO L (j + 1)).map bv) := by
      rw [unhide hks, List.map_append]
      exact hO4
    obtain ⟨a4, c4_, rfl, -⟩ := hor4.ls
    rw [List.length_map, ksO_len] at hor4 ⊢
    replace hor := hide hor4
    clear hbl
    have hbl := hbl4
    clear hbl4 hO4 hgr hor4 hls hkl hkb hks
    refine hK _ _ ?_
    clear hK K
    simp only [Act.put, List.setIfInBounds_toArray, List.set_cons_zero, List.set_cons_succ, List.getElem_toArray, List.getElem_cons_zero, List.getElem_cons_succ]
    refine list_val (.pointer (some ⟨q4, 1, none⟩)) (by kernel_rfl) (by kernel_rfl) ?_
    simp only [Act.put, List.setIfInBounds_toArray, List.set_cons_zero, List.set_cons_succ, List.getElem_toArray, List.getElem_cons_zero, List.getElem_cons_succ]
    have hS := (hbl.get 1 (x := ⟨q4, #[.int .u64 r, .slice ah j ch], 25⟩) rfl)
    dsimp only at hS
    have c4 := cell_of hS (i := 1) rfl
    have fz := froz_of (i := 1) hS
    have hbt : Bt q4 y5 (y5.setCell ⟨q4, 1, none⟩ (.slice a4 (j + 1) c4_)) := setCell_bt y5 q4 1 (.slice a4 (j + 1) c4_)
    have hcg : (y5.setCell ⟨q4, 1, none⟩ (.slice a4 (j + 1) c4_)).heap[q4]? = some (.cells #[.int .u64 r, .slice a4 (j + 1) c4_] 25 (0, 0)) := setCells_heap [(.slice a4 (j + 1) c4_)] y5 q4 1 [.int .u64 r, .slice ah j ch] 25 hS
    have hI2 : Hid (QnS q4 w L r (j + 1) (.slice a4 (j + 1) c4_) (y5.setCell ⟨q4, 1, none⟩ (.slice a4 (j + 1) c4_))) :=
      ⟨hbl.but hbt 1 (x := ⟨q4, #[.int .u64 r, .slice ah j ch], 25⟩) rfl rfl hcg, or_bt2 (unhide hor) hS (by decide) hbt⟩
    clear hcg hbt hbl hor
    replace hS := hide hS
    (refine wpList_step fun K hK => ?_; replace hK := hide hK; go_simp; refine unhide hK _ _ ?_; clear hK K)
    clear c4 fz hS
    generalize World.setCell _ _ _ = y6 at *
    refine wpList_nil ?_
    have ej : IntKind.i64.wrap ((j : Int) + 1) = ((j + 1 : Nat) : Int) := by rw [IntKind.wrap_i64]; omega
    go_wp2_with fail
    go_roundw
    case rel => exact ⟨j + 1, _, by omega, by go_num, hI2⟩
    case measure => simp [intOf]; omega
  · skip
    obtain rfl : j = n := by omega
    have jI : ¬ (j : Int) < (j : Int) := by omega
    obtain ⟨o9, ho9⟩ : ∃ o, o = 10 + 32 * j := ⟨_, rfl⟩
    obtain ⟨e3, he3⟩ : ∃ e : Int, e = 32 * (j : Int) := ⟨_, rfl⟩
    have hw3 : IntKind.i64.wrap (32 * (j : Int)) = e3 := by rw [IntKind.wrap_i64]; omega
    have hw4 : IntKind.i64.wrap (10 + e3) = (o9 : Int) := by rw [IntKind.wrap_i64]; omega
    have ho106 : o9 ≤ 106 := by omega
    unfold QA at hT
    rw [unhide hnN, ← unhide hr0, ← ho9] at hT
    obtain ⟨z, hz⟩ : ∃ z, z = allZ (L.drop o9) := ⟨_, rfl⟩
    rw [← hz] at hT
    obtain ⟨ta, hta⟩ : ∃ t : Option Addr, t = if c0 = o9 then some ⟨p0, q0, none⟩ else some ⟨p0, q0 + o9, none⟩ := ⟨_, rfl⟩
    clear ho9 he3
    replace hbl := hide hbl; replace hor := hide hor; replace hz := hide hz; replace hta := hide hta
    go_upto_region 11 with fail
    replace hbl := unhide hbl
    refine any_start (S := fun (v : World) => v.heap[q4]? = some (.cells #[.int .u64 r, .slice ah j ch] 25 (0, 0)) ∧ Gr w v) (by kernel_rfl) ?_
    replace hor := hide ((unhide hor).gr (Gr.refl _).drew)
    replace hbl := hbl.drew
    generalize World.drew _ = u4 at *
    replace hbl : Bl w [⟨w.heap.size, #[.int .u64 0, .slice none 0 0], 25⟩, ⟨q4, #[.int .u64 r, .slice ah j ch], 25⟩] u4 := hbl
    simp only [List.size_toArray, List.length_cons, List.length_nil, Array.replicate, List.replicate]
    refine any_take (i := 0) (v := (.agg #[.int .u64 r, .slice ah j ch])) #[false, false, false, false, false, false, false, false, false] rfl (by kernel_rfl) (by kernel_rfl) (by kernel_rfl) (by kernel_rfl) (fun _ _ _ h => h) (.inl ⟨by kernel_rfl, fun x_ hu => exec_arr _ 25 (.tmp 4) rfl q4 (by kernel_rfl) #[.int .u64 r, .slice ah j ch] 25 _ hu.1 Try.underlying25 rfl (by rw [Try.infoA]; rfl)⟩) ⟨hbl.get 1 (x := ⟨q4, #[.int .u64 r, .slice ah j ch], 25⟩) rfl, hbl.gr⟩ ?_
    simp only [Act.put, List.setIfInBounds_toArray, List.set_cons_zero, List.set_cons_succ, List.getElem_toArray, List.getElem_cons_zero, List.getElem_cons_succ]
    refine any_take (i := 1) (v := (.slice (some ⟨p0, q0, none⟩) 106 c0)) #[true, false, false, false, false, false, false, false, false] rfl (by kernel_rfl) (by kernel_rfl) (by kernel_rfl) (by kernel_rfl) (fun _ _ _ h => h) (.inl ⟨by kernel_rfl, fun x_ hu => by kernel_rfl⟩) ⟨hbl.get 1 (x := ⟨q4, #[.int .u64 r, .slice ah j ch], 25⟩) rfl, hbl.gr⟩ ?_
    simp only [Act.put, List.setIfInBounds_toArray, List.set_cons_zero, List.set_cons_succ, List.getElem_toArray, List.getElem_cons_zero, List.getElem_cons_succ]
    refine any_take (i := 2) (v := (.int .i64 (j : Int))) #[true, true, false, false, false, false, false, false, false] rfl (by kernel_rfl) (by kernel_rfl) (by kernel_rfl) (by kernel_rfl) (fun _ _ _ h => h) (.inl ⟨by kernel_rfl, fun x_ hu => by kernel_rfl⟩) ⟨hbl.get 1 (x := ⟨q4, #[.int .u64 r, .slice ah j ch], 25⟩) rfl, hbl.gr⟩ ?_
    simp only [Act.put, List.setIfInBounds_toArray, List.set_cons_zero, List.set_cons_succ, List.getElem_toArray, List.getElem_cons_zero, List.getElem_cons_succ]
    refine any_take (i := 3) (v := (.int .i64 e3)) #[true, true, true, false, false, false, false, false, false] rfl (by kernel_rfl) (by kernel_rfl) (by kernel_rfl) (by kernel_rfl) (fun _ _ _ h => h) (.inl ⟨by kernel_rfl, fun x_ hu => by go_simp⟩) ⟨hbl.get 1 (x := ⟨q4, #[.int .u64 r, .slice ah j ch], 25⟩) rfl, hbl.gr⟩ ?_
    simp only [Act.put, List.setIfInBounds_toArray, List.set_cons_zero, List.set_cons_succ, List.getElem_toArray, List.getElem_cons_zero, List.getElem_cons_succ]
    refine any_take (i := 4) (v := (.int .i64 (o9 : Int))) #[true, true, true, true, false, false, false, false, false] rfl (by kernel_rfl) (by kernel_rfl) (by kernel_rfl) (by kernel_rfl) (fun _ _ _ h => h) (.inl ⟨by kernel_rfl, fun x_ hu => by go_simp⟩) ⟨hbl.get 1 (x := ⟨q4, #[.int .u64 r, .slice ah j ch], 25⟩) rfl, hbl.gr⟩ ?_
    simp only [Act.put, List.setIfInBounds_toArray, List.set_cons_zero, List.set_cons_succ, List.getElem_toArray, List.getElem_cons_zero, List.getElem_cons_succ]
    refine any_take (i := 5) (v := (.slice ta (106 - o9) (c0 - o9))) #[true, true, true, true, true, false, false, false, false] rfl (by kernel_rfl) (by kernel_rfl) (by kernel_rfl) (by kernel_rfl) (fun _ _ _ h => h) (.inl ⟨by kernel_rfl, fun x_ hu => exec_fromt _ (.tmp 53) (.tmp 56) rfl p0 q0 106 c0 o9 (by kernel_rfl) (by kernel_rfl) ho106 (by omega) ta (unhide hta)⟩) ⟨hbl.get 1 (x := ⟨q4, #[.int .u64 r, .slice ah j ch], 25⟩) rfl, hbl.gr⟩ ?_
    simp only [Act.put, List.setIfInBounds_toArray, List.set_cons_zero, List.set_cons_succ, List.getElem_toArray, List.getElem_cons_zero, List.getElem_cons_succ]
    refine any_one (i := 6) (by kernel_rfl) rfl (fun K hK => ?_)
    refine step_callw (by kernel_rfl) 29 #[.slice ta (106 - o9) (c0 - o9)] (by kernel_rfl) ((qzero_ok (L.drop o9) ta (106 - o9) (c0 - o9) (by omega) _ (lb_fromt ((unhide hB0).gr hbl.gr) o9 ho106 ta (unhide hta))).mono ?_)
    rintro r z2 ⟨rfl, rfl⟩
    refine ⟨_, rfl, ?_⟩
    rw [← unhide hz]
    refine hK.out _ _ ⟨hbl.get 1 (x := ⟨q4, #[.int .u64 r, .slice ah j ch], 25⟩) rfl, hbl.gr⟩ (fun _ => ?_)
    clear hK K
    simp only [Act.put, List.setIfInBounds_toArray, List.set_cons_zero, List.set_cons_succ, List.getElem_toArray, List.getElem_cons_zero, List.getElem_cons_succ]
    refine any_one (i := 7) (by kernel_rfl) rfl (fun K hK => ?_)
    rw [if_pos (by kernel_rfl)]
    have h00 := hbl.get 0 (x := ⟨w.heap.size, #[.int .u64 0, .slice none 0 0], 25⟩) rfl
    dsimp only at h00
    refine wp_store_row 25 (.tmp 2) (.tmp 52) rfl (w.heap.size) #[.int .u64 r, .slice ah j ch] (by kernel_rfl) (by kernel_rfl) 25 #[.int .u64 0, .slice none 0 0] h00 (by rw [Try.infoA]; rfl) rfl (by simp [Value.oneCell']) ?_
    replace hor := hide (or_bt2 (unhide hor) h00 (by decide) (setRow_bt _ (w.heap.size) #[.int .u64 r, .slice ah j ch]))
    clear h00
    replace hbl := hbl.set 0 (x := ⟨w.heap.size, #[.int .u64 0, .slice none 0 0], 25⟩) rfl #[.int .u64 r, .slice ah j ch]
    simp only [List.set_cons_zero, List.set_cons_succ] at hbl
    generalize World.setRow _ _ _ = u5 at *
    replace hbl : Bl w [⟨w.heap.size, #[.int .u64 r, .slice ah j ch], 25⟩, ⟨q4, #[.int .u64 r, .slice ah j ch], 25⟩] u5 := hbl
    refine hK.out _ _ ⟨hbl.get 1 (x := ⟨q4, #[.int .u64 r, .slice ah j ch], 25⟩) rfl, hbl.gr⟩ (fun _ => ?_)
    clear hK K
    simp only [Act.put, List.setIfInBounds_toArray, List.set_cons_zero, List.set_cons_succ, List.getElem_toArray, List.getElem_cons_zero, List.getElem_cons_succ]
    refine any_one (i := 8) (by kernel_rfl) rfl (fun K hK => ?_)
    replace hK := hide hK
    go_simp
    refine (unhide hK).out _ _ ⟨hbl.get 1 (x := ⟨q4, #[.int .u64 r, .slice ah j ch], 25⟩) rfl, hbl.gr⟩ (fun _ => ?_)
    clear hK K
    refine any_done (by kernel_rfl) ?_
    have hbk : Hid (u5.heap[w.heap.size]? = some (.cells #[.int .u64 r, .slice ah j ch] 25 (0, 0))) := hbl.get 0 (x := ⟨w.heap.size, #[.int .u64 r, .slice ah j ch], 25⟩) rfl
    have hP : Hid (T (.returned (.tuple #[.agg #[.int .u64 r, .slice ah j ch], .bool z])) u5) := by
      rw [unhide hT]
      exact ⟨ah, ch, rfl, unhide hor, hbl.gr⟩
    clear hbl
    go_wp2_with fail
    exact bodyPost_ret (v := .tuple #[.agg #[.int .u64 r, .slice ah j ch], .bool z]) (results_cell_tmp Try.results13 _ _ (w.heap.size) 25 #[.int .u64 r, .slice ah j ch] (0, 0) _ rfl (.bool z) rfl (unhide hbk) Try.underlying25 rfl (by rw [Try.infoA]; rfl)) rfl (unhide hP)
set_option maxHeartbeats 4000000 in
theorem qgeta_no (L : List Int) (p0 q0 c0 : Nat) (w : World) (hB0 : Lb w (some ⟨p0, q0, none⟩) 106 c0 L) (hQ : anQ L = false) : Calls Try.prog 13 #[.slice (some ⟨p0, q0, none⟩) 106 c0] w (QN w) := by
  obtain ⟨T, hT⟩ : ∃ T, T = QN w := ⟨_, rfl⟩
  rw [← hT]
  replace hT := hide hT
  have hL := hB0.len
  have hcap := hB0.cap
  have hmax := hB0.max
  have hLb := hide hB0.isB
  have hc0 := hide (fun (v : World) (g : Gr w v) => lb_cell (hB0.gr g) 0 (by omega))
  have hc9 := hide (fun (v : World) (g : Gr w v) => lb_cell (hB0.gr g) 9 (by omega))
  have hw1 := lb_win hB0 1 8 (by omega) (by omega)
  obtain ⟨r, hr0⟩ : ∃ x, x = lowN ((L.drop 1).take 8) := ⟨_, rfl⟩
  have hn1 := hB0.isB.at_ 9
  obtain ⟨n1, hn10⟩ : ∃ x, x = L.getD 9 0 := ⟨_, rfl⟩
  rw [← hn10] at hn1 hc9
  obtain ⟨n, rfl⟩ := Int.eq_ofNat_of_zero_le hn1.1
  have hn255 : n < 256 := by omega
  have hnN : anN L = n := by unfold anN; rw [← hn10]; rfl
  unfold anQ at hQ
  rw [hnN, ← hr0] at hQ
  obtain ⟨f1, hf1⟩ : ∃ x, x = L.getD 0 0 := ⟨_, rfl⟩
  rw [← hf1] at hQ hc0
  have hnw : IntKind.i64.wrap (n : Int) = (n : Int) := by rw [IntKind.wrap_i64]; omega
  clear hn1 hn10 hf1
  replace hr0 := hide hr0; replace hw1 := hide hw1; replace hB0 := hide hB0; replace hnN := hide hnN
  go_enter Try.func13, Try.ntmps13
  go_upto_region 1 with fail
  have hB := ((Bl.nil w).new #[.int .u64 0, .slice none 0 0] 25)
  simp only [size_alloc, List.nil_append, List.cons_append] at hB
  generalize World.alloc _ _ = u at *
  replace hB : Bl w [⟨w.heap.size, #[.int .u64 0, .slice none 0 0], 25⟩] u := hB
  refine wp_region_lit ?_
  refine list_val (.slice (some ⟨p0, q0, none⟩) 106 c0) (by kernel_rfl) (by kernel_rfl) ?_
  simp only [Act.put, List.setIfInBounds_toArray, List.set_cons_zero, List.set_cons_succ, List.getElem_toArray, List.getElem_cons_zero, List.getElem_cons_succ]
  refine list_val (.slice (some ⟨p0, q0 + 1, none⟩) 8 (c0 - 1)) (by kernel_rfl) (exec_winl _ (.tmp 8) (.const (.int .i64 1)) (.const (.int .i64 9)) rfl p0 q0 106 c0 1 9 8 (by kernel_rfl) (by kernel_rfl) (by kernel_rfl) rfl (by omega) (by omega)) ?_
  simp only [Act.put, List.setIfInBounds_toArray, List.set_cons_zero, List.set_cons_succ, List.getElem_toArray, List.getElem_cons_zero, List.getElem_cons_succ]
  refine list_call 28 #[.slice (some ⟨p0, q0 + 1, none⟩) 8 (c0 - 1)] (by kernel_rfl) (by kernel_rfl) ((qnum_ok ((L.drop 1).take 8) _ 8 (c0 - 1) (by omega) u ((unhide hw1).gr hB.gr)).mono ?_)
  rintro r_ u1 ⟨rfl, rfl⟩
  rw [← unhide hr0]
  refine ⟨_, rfl, ?_⟩
  simp only [Act.put, List.setIfInBounds_toArray, List.set_cons_zero, List.set_cons_succ, List.getElem_toArray, List.getElem_cons_zero, List.getElem_cons_succ]
  refine list_val (.agg #[.int .u64 r, .slice none 0 0]) (by kernel_rfl) (by kernel_rfl) ?_
  simp only [Act.put, List.setIfInBounds_toArray, List.set_cons_zero, List.set_cons_succ, List.getElem_toArray, List.getElem_cons_zero, List.getElem_cons_succ]
  refine list_valw (.pointer (some ⟨u1.heap.size, 0, none⟩)) (u1.alloc (.cells #[.int .u64 0, .slice none 0 0] 25 (0, 0))) (by kernel_rfl) (by kernel_rfl) ?_
  replace hB := hB.new #[.int .u64 0, .slice none 0 0] 25
  simp only [List.nil_append, List.cons_append] at hB
  generalize World.alloc _ _ = u2 at *
  generalize u1.heap.size = q4 at *
  replace hB : Bl w [⟨w.heap.size, #[.int .u64 0, .slice none 0 0], 25⟩, ⟨q4, #[.int .u64 0, .slice none 0 0], 25⟩] u2 := hB
  simp only [Act.put, List.setIfInBounds_toArray, List.set_cons_zero, List.set_cons_succ, List.getElem_toArray, List.getElem_cons_zero, List.getElem_cons_succ]
  refine list_store 25 (.tmp 4) (.tmp 11) q4 #[.int .u64 r, .slice none 0 0] 25 #[.int .u64 0, .slice none 0 0] (by kernel_rfl) rfl (by kernel_rfl) (by kernel_rfl) (hB.get 1 (x := ⟨q4, #[.int .u64 0, .slice none 0 0], 25⟩) rfl) (by rw [Try.infoA]; rfl) rfl (by simp [Value.oneCell']) ?_
  replace hB := hB.set 1 (x := ⟨q4, #[.int .u64 0, .slice none 0 0], 25⟩) rfl #[.int .u64 r, .slice none 0 0]
  simp only [List.set_cons_zero, List.set_cons_succ] at hB
  generalize World.setRow _ _ _ = u3 at *
  replace hB : Bl w [⟨w.heap.size, #[.int .u64 0, .slice none 0 0], 25⟩, ⟨q4, #[.int .u64 r, .slice none 0 0], 25⟩] u3 := hB
  simp only [Act.put, List.setIfInBounds_toArray, List.set_cons_zero, List.set_cons_succ, List.getElem_toArray, List.getElem_cons_zero, List.getElem_cons_succ]
  refine wpList_nil ?_
  replace hB := hide hB
  go_upto_region 2 with fail
  replace hB := unhide hB
  refine wp_region_lit ?_
  refine list_val (.slice (some ⟨p0, q0, none⟩) 106 c0) (by kernel_rfl) (by kernel_rfl) ?_
  simp only [Act.put, List.setIfInBounds_toArray, List.set_cons_zero, List.set_cons_succ, List.getElem_toArray, List.getElem_cons_zero, List.getElem_cons_succ]
  refine list_val (.pointer (some ⟨p0, q0 + 9, none⟩)) (by kernel_rfl) (exec_ibs _ (.tmp 12) (.const (.int .i64 9)) rfl p0 q0 106 c0 9 (by kernel_rfl) (by kernel_rfl) (by omega)) ?_
  simp only [Act.put, List.setIfInBounds_toArray, List.set_cons_zero, List.set_cons_succ, List.getElem_toArray, List.getElem_cons_zero, List.getElem_cons_succ]
  refine list_val (.int .u8 (n : Int)) (by kernel_rfl) (exec_b _ (.tmp 13) rfl p0 (q0 + 9) (by kernel_rfl) (n : Int) (unhide hc9 _ hB.gr)) ?_
  simp only [Act.put, List.setIfInBounds_toArray, List.set_cons_zero, List.set_cons_succ, List.getElem_toArray, List.getElem_cons_zero, List.getElem_cons_succ]
  refine list_val (.int .i64 (n : Int)) (by kernel_rfl) (by go_simp) ?_
  simp only [Act.put, List.setIfInBounds_toArray, List.set_cons_zero, List.set_cons_succ, List.getElem_toArray, List.getElem_cons_zero, List.getElem_cons_succ]
  (refine wpList_step fun K hK => ?_; replace hK := hide hK; go_simp; refine unhide hK _ _ ?_; clear hK K)
  refine wpList_nil ?_
  replace hB := hide hB
  go_upto_region 3 with fail
  replace hB := unhide hB
  by_cases h1 : (n : Int) < 1
  · skip
    refine wp_region_lit ?_
    refine list_val (.int .i64 (n : Int)) (by kernel_rfl) (by kernel_rfl) ?_
    simp only [Act.put, List.setIfInBounds_toArray, List.set_cons_zero, List.set_cons_succ, List.getElem_toArray, List.getElem_cons_zero, List.getElem_cons_succ]
    refine list_val (.bool true) (by kernel_rfl) (by go_simp) ?_
    simp only [Act.put, List.setIfInBounds_toArray, List.set_cons_zero, List.set_cons_succ, List.getElem_toArray, List.getElem_cons_zero, List.getElem_cons_succ]
    refine list_val_offs 2 (.bool true) (by kernel_rfl) (by kernel_rfl) (by kernel_rfl) ?_
    simp only [List.drop_succ_cons, List.drop_zero, List.take_succ_cons, List.take_zero, putU]
    simp only [Act.put, List.setIfInBounds_toArray, List.set_cons_zero, List.set_cons_succ, List.getElem_toArray, List.getElem_cons_zero, List.getElem_cons_succ]
    refine list_val (.bool true) (by kernel_rfl) (by kernel_rfl) ?_
    simp only [Act.put, List.setIfInBounds_toArray, List.set_cons_zero, List.set_cons_succ, List.getElem_toArray, List.getElem_cons_zero, List.getElem_cons_succ]
    refine list_val_offs 4 (.bool true) (by kernel_rfl) (by kernel_rfl) (by kernel_rfl) ?_
    simp only [List.drop_succ_cons, List.drop_zero, List.take_succ_cons, List.take_zero, putU]
    simp only [Act.put, List.setIfInBounds_toArray, List.set_cons_zero, List.set_cons_succ, List.getElem_toArray, List.getElem_cons_zero, List.getElem_cons_succ]
    refine list_val (.bool true) (by kernel_rfl) (by kernel_rfl) ?_
    simp only [Act.put, List.setIfInBounds_toArray, List.set_cons_zero, List.set_cons_succ, List.getElem_toArray, List.getElem_cons_zero, List.getElem_cons_succ]
    refine list_val_offs 3 (.bool true) (by kernel_rfl) (by kernel_rfl) (by kernel_rfl) ?_
    simp only [List.drop_succ_cons, List.drop_zero, List.take_succ_cons, List.take_zero, putU]
    simp only [Act.put, List.setIfInBounds_toArray, List.set_cons_zero, List.set_cons_succ, List.getElem_toArray, List.getElem_cons_zero, List.getElem_cons_succ]
    refine list_val (.bool true) (by kernel_rfl) (by kernel_rfl) ?_
    simp only [Act.put, List.setIfInBounds_toArray, List.set_cons_zero, List.set_cons_succ, List.getElem_toArray, List.getElem_cons_zero, List.getElem_cons_succ]
    refine wpList_nil ?_
    replace hB := hide hB
    go_upto_region 4 with fail
    replace hB := unhide hB
    refine wp_region_lit ?_
    refine list_val (.agg #[.int .u64 0, .slice none 0 0]) (by kernel_rfl) (by kernel_rfl) ?_
    simp only [Act.put, List.setIfInBounds_toArray, List.set_cons_zero, List.set_cons_succ, List.getElem_toArray, List.getElem_cons_zero, List.getElem_cons_succ]
    refine list_store 25 (.tmp 2) (.tmp 33) (w.heap.size) #[.int .u64 0, .slice none 0 0] 25 #[.int .u64 0, .slice none 0 0] (by kernel_rfl) rfl (by kernel_rfl) (by kernel_rfl) (hB.get 0 (x := ⟨w.heap.size, #[.int .u64 0, .slice none 0 0], 25⟩) rfl) (by rw [Try.infoA]; rfl) rfl (by simp [Value.oneCell']) ?_
    replace hB := hB.set 0 (x := ⟨w.heap.size, #[.int .u64 0, .slice none 0 0], 25⟩) rfl #[.int .u64 0, .slice none 0 0]
    simp only [List.set_cons_zero, List.set_cons_succ] at hB
    generalize World.setRow _ _ _ = u5 at *
    replace hB : Bl w [⟨w.heap.size, #[.int .u64 0, .slice none 0 0], 25⟩, ⟨q4, #[.int .u64 r, .slice none 0 0], 25⟩] u5 := hB
    simp only [Act.put, List.setIfInBounds_toArray, List.set_cons_zero, List.set_cons_succ, List.getElem_toArray, List.getElem_cons_zero, List.getElem_cons_succ]
    (refine wpList_step fun K hK => ?_; replace hK := hide hK; go_simp; refine unhide hK _ _ ?_; clear hK K)
    refine wpList_nil ?_
    have hbk : Hid (u5.heap[w.heap.size]? = some (.cells #[.int .u64 0, .slice none 0 0] 25 (0, 0))) := (hB.get 0 (x := ⟨w.heap.size, #[.int .u64 0, .slice none 0 0], 25⟩) rfl)
    have hP : Hid (T (.returned (.tuple #[.agg #[.int .u64 0, .slice none 0 0], .bool false])) u5) := by
      rw [unhide hT]
      exact ⟨rfl, hB.gr⟩
    clear hB
    go_wp2_with fail
    exact bodyPost_ret (v := .tuple #[.agg #[.int .u64 0, .slice none 0 0], .bool false]) (results_cell_tmp Try.results13 _ _ (w.heap.size) 25 #[.int .u64 0, .slice none 0 0] (0, 0) _ rfl (.bool false) rfl (unhide hbk) Try.underlying25 rfl (by rw [Try.infoA]; rfl)) rfl (unhide hP)
  · skip
    by_cases h3 : 3 < (n : Int)
    · skip
      refine wp_region_lit ?_
      refine list_val (.int .i64 (n : Int)) (by kernel_rfl) (by kernel_rfl) ?_
      simp only [Act.put, List.setIfInBounds_toArray, List.set_cons_zero, List.set_cons_succ, List.getElem_toArray, List.getElem_cons_zero, List.getElem_cons_succ]
      refine list_val (.bool false) (by kernel_rfl) (by go_simp) ?_
      simp only [Act.put, List.setIfInBounds_toArray, List.set_cons_zero, List.set_cons_succ, List.getElem_toArray, List.getElem_cons_zero, List.getElem_cons_succ]
      refine list_val (.bool false) (by kernel_rfl) (by kernel_rfl) ?_
      simp only [Act.put, List.setIfInBounds_toArray, List.set_cons_zero, List.set_cons_succ, List.getElem_toArray, List.getElem_cons_zero, List.getElem_cons_succ]
      refine list_val (.int .i64 (n : Int)) (by kernel_rfl) (by kernel_rfl) ?_
      simp only [Act.put, List.setIfInBounds_toArray, List.set_cons_zero, List.set_cons_succ, List.getElem_toArray, List.getElem_cons_zero, List.getElem_cons_succ]
      refine list_val (.bool true) (by kernel_rfl) (by go_simp) ?_
      simp only [Act.put, List.setIfInBounds_toArray, List.set_cons_zero, List.set_cons_succ, List.getElem_toArray, List.getElem_cons_zero, List.getElem_cons_succ]
      refine list_val (.bool true) (by kernel_rfl) (by kernel_rfl) ?_
      simp only [Act.put, List.setIfInBounds_toArray, List.set_cons_zero, List.set_cons_succ, List.getElem_toArray, List.getElem_cons_zero, List.getElem_cons_succ]
      refine list_val_offs 4 (.bool true) (by kernel_rfl) (by kernel_rfl) (by kernel_rfl) ?_
      simp only [List.drop_succ_cons, List.drop_zero, List.take_succ_cons, List.take_zero, putU]
      simp only [Act.put, List.setIfInBounds_toArray, List.set_cons_zero, List.set_cons_succ, List.getElem_toArray, List.getElem_cons_zero, List.getElem_cons_succ]
      refine list_val (.bool true) (by kernel_rfl) (by kernel_rfl) ?_
      simp only [Act.put, List.setIfInBounds_toArray, List.set_cons_zero, List.set_cons_succ, List.getElem_toArray, List.getElem_cons_zero, List.getElem_cons_succ]
      refine list_val_offs 3 (.bool true) (by kernel_rfl) (by kernel_rfl) (by kernel_rfl) ?_
      simp only [List.drop_succ_cons, List.drop_zero, List.take_succ_cons, List.take_zero, putU]
      simp only [Act.put, List.setIfInBounds_toArray, List.set_cons_zero, List.set_cons_succ, List.getElem_toArray, List.getElem_cons_zero, List.getElem_cons_succ]
      refine list_val (.bool true) (by kernel_rfl) (by kernel_rfl) ?_
      simp only [Act.put, List.setIfInBounds_toArray, List.set_cons_zero, List.set_cons_succ, List.getElem_toArray, List.getElem_cons_zero, List.getElem_cons_succ]
      refine wpList_nil ?_
      replace hB := hide hB
      go_upto_region 4 with fail
      replace hB := unhide hB
      refine wp_region_lit ?_
      refine list_val (.agg #[.int .u64 0, .slice none 0 0]) (by kernel_rfl) (by kernel_rfl) ?_
      simp only [Act.put, List.setIfInBounds_toArray, List.set_cons_zero, List.set_cons_succ, List.getElem_toArray, List.getElem_cons_zero, List.getElem_cons_succ]
      refine list_store 25 (.tmp 2) (.tmp 33) (w.heap.size) #[.int .u64 0, .slice none 0 0] 25 #[.int .u64 0, .slice none 0 0] (by kernel_rfl) rfl (by kernel_rfl) (by kernel_rfl) (hB.get 0 (x := ⟨w.heap.size, #[.int .u64 0, .slice none 0 0], 25⟩) rfl) (by rw [Try.infoA]; rfl) rfl (by simp [Value.oneCell']) ?_
      replace hB := hB.set 0 (x := ⟨w.heap.size, #[.int .u64 0, .slice none 0 0], 25⟩) rfl #[.int .u64 0, .slice none 0 0]
      simp only [List.set_cons_zero, List.set_cons_succ] at hB
      generalize World.setRow _ _ _ = u5 at *
      replace hB : Bl w [⟨w.heap.size, #[.int .u64 0, .slice none 0 0], 25⟩, ⟨q4, #[.int .u64 r, .slice none 0 0], 25⟩] u5 := hB
      simp only [Act.put, List.setIfInBounds_toArray, List.set_cons_zero, List.set_cons_succ, List.getElem_toArray, List.getElem_cons_zero, List.getElem_cons_succ]
      (refine wpList_step fun K hK => ?_; replace hK := hide hK; go_simp; refine unhide hK _ _ ?_; clear hK K)
      refine wpList_nil ?_
      have hbk : Hid (u5.heap[w.heap.size]? = some (.cells #[.int .u64 0, .slice none 0 0] 25 (0, 0))) := (hB.get 0 (x := ⟨w.heap.size, #[.int .u64 0, .slice none 0 0], 25⟩) rfl)
      have hP : Hid (T (.returned (.tuple #[.agg #[.int .u64 0, .slice none 0 0], .bool false])) u5) := by
        rw [unhide hT]
        exact ⟨rfl, hB.gr⟩
      clear hB
      go_wp2_with fail
      exact bodyPost_ret (v := .tuple #[.agg #[.int .u64 0, .slice none 0 0], .bool false]) (results_cell_tmp Try.results13 _ _ (w.heap.size) 25 #[.int .u64 0, .slice none 0 0] (0, 0) _ rfl (.bool false) rfl (unhide hbk) Try.underlying25 rfl (by rw [Try.infoA]; rfl)) rfl (unhide hP)
    · skip
      by_cases hf : f1 = 1
      · skip
        subst hf
        have hr9 : r = 0 := by
          unfold anR at hQ
          simp only [decide_true, Bool.true_and, decide_eq_false_iff_not] at hQ
          have := (lowN_bd _ (unhide hw1).isB).1
          rw [← unhide hr0] at this
          omega
        subst hr9
        refine wp_region_lit ?_
        refine list_val (.int .i64 (n : Int)) (by kernel_rfl) (by kernel_rfl) ?_
        simp only [Act.put, List.setIfInBounds_toArray, List.set_cons_zero, List.set_cons_succ, List.getElem_toArray, List.getElem_cons_zero, List.getElem_cons_succ]
        refine list_val (.bool false) (by kernel_rfl) (by go_simp) ?_
        simp only [Act.put, List.setIfInBounds_toArray, List.set_cons_zero, List.set_cons_succ, List.getElem_toArray, List.getElem_cons_zero, List.getElem_cons_succ]
        refine list_val (.bool false) (by kernel_rfl) (by kernel_rfl) ?_
        simp only [Act.put, List.setIfInBounds_toArray, List.set_cons_zero, List.set_cons_succ, List.getElem_toArray, List.getElem_cons_zero, List.getElem_cons_succ]
        refine list_val (.int .i64 (n : Int)) (by kernel_rfl) (by kernel_rfl) ?_
        simp only [Act.put, List.setIfInBounds_toArray, List.set_cons_zero, List.set_cons_succ, List.getElem_toArray, List.getElem_cons_zero, List.getElem_cons_succ]
        refine list_val (.bool false) (by kernel_rfl) (by go_simp) ?_
        simp only [Act.put, List.setIfInBounds_toArray, List.set_cons_zero, List.set_cons_succ, List.getElem_toArray, List.getElem_cons_zero, List.getElem_cons_succ]
        refine list_val (.bool false) (by kernel_rfl) (by kernel_rfl) ?_
        simp only [Act.put, List.setIfInBounds_toArray, List.set_cons_zero, List.set_cons_succ, List.getElem_toArray, List.getElem_cons_zero, List.getElem_cons_succ]
        refine list_val (.bool false) (by kernel_rfl) (by kernel_rfl) ?_
        simp only [Act.put, List.setIfInBounds_toArray, List.set_cons_zero, List.set_cons_succ, List.getElem_toArray, List.getElem_cons_zero, List.getElem_cons_succ]
        refine list_val (.slice (some ⟨p0, q0, none⟩) 106 c0) (by kernel_rfl) (by kernel_rfl) ?_
        simp only [Act.put, List.setIfInBounds_toArray, List.set_cons_zero, List.set_cons_succ, List.getElem_toArray, List.getElem_cons_zero, List.getElem_cons_succ]
        refine list_val (.pointer (some ⟨p0, q0, none⟩)) (by kernel_rfl) (exec_ibs _ (.tmp 23) (.const (.int .i64 0)) rfl p0 q0 106 c0 0 (by kernel_rfl) (by kernel_rfl) (by omega)) ?_
        simp only [Act.put, List.setIfInBounds_toArray, List.set_cons_zero, List.set_cons_succ, List.getElem_toArray, List.getElem_cons_zero, List.getElem_cons_succ]
        refine list_val (.int .u8 1) (by kernel_rfl) (exec_b _ (.tmp 24) rfl p0 q0 (by kernel_rfl) 1 (unhide hc0 _ hB.gr)) ?_
        simp only [Act.put, List.setIfInBounds_toArray, List.set_cons_zero, List.set_cons_succ, List.getElem_toArray, List.getElem_cons_zero, List.getElem_cons_succ]
        refine list_val (.bool false) (by kernel_rfl) (by kernel_rfl) ?_
        simp only [Act.put, List.setIfInBounds_toArray, List.set_cons_zero, List.set_cons_succ, List.getElem_toArray, List.getElem_cons_zero, List.getElem_cons_succ]
        refine list_val (.bool false) (by kernel_rfl) (by kernel_rfl) ?_
        simp only [Act.put, List.setIfInBounds_toArray, List.set_cons_zero, List.set_cons_succ, List.getElem_toArray, List.getElem_cons_zero, List.getElem_cons_succ]
        refine list_val (.bool false) (by kernel_rfl) (by kernel_rfl) ?_
        simp only [Act.put, List.setIfInBounds_toArray, List.set_cons_zero, List.set_cons_succ, List.getElem_toArray, List.getElem_cons_zero, List.getElem_cons_succ]
        refine list_val (.pointer (some ⟨q4, 0, none⟩)) (by kernel_rfl) (by kernel_rfl) ?_
        simp only [Act.put, List.setIfInBounds_toArray, List.set_cons_zero, List.set_cons_succ, List.getElem_toArray, List.getElem_cons_zero, List.getElem_cons_succ]
        refine list_val (.int .u64 0) (by kernel_rfl) (exec_u64 _ (.tmp 29) rfl q4 0 (by kernel_rfl) 0 (cell_of (hB.get 1 (x := ⟨q4, #[.int .u64 0, .slice none 0 0], 25⟩) rfl) (i := 0) rfl)) ?_
        simp only [Act.put, List.setIfInBounds_toArray, List.set_cons_zero, List.set_cons_succ, List.getElem_toArray, List.getElem_cons_zero, List.getElem_cons_succ]
        refine list_val (.bool true) (by kernel_rfl) (by kernel_rfl) ?_
        simp only [Act.put, List.setIfInBounds_toArray, List.set_cons_zero, List.set_cons_succ, List.getElem_toArray, List.getElem_cons_zero, List.getElem_cons_succ]
        refine list_val (.bool true) (by kernel_rfl) (by kernel_rfl) ?_
        simp only [Act.put, List.setIfInBounds_toArray, List.set_cons_zero, List.set_cons_succ, List.getElem_toArray, List.getElem_cons_zero, List.getElem_cons_succ]
        refine wpList_nil ?_
        replace hB := hide hB
        go_upto_region 4 with fail
        replace hB := unhide hB
        refine wp_region_lit ?_
        refine list_val (.agg #[.int .u64 0, .slice none 0 0]) (by kernel_rfl) (by kernel_rfl) ?_
        simp only [Act.put, List.setIfInBounds_toArray, List.set_cons_zero, List.set_cons_succ, List.getElem_toArray, List.getElem_cons_zero, List.getElem_cons_succ]
        refine list_store 25 (.tmp 2) (.tmp 33) (w.heap.size) #[.int .u64 0, .slice none 0 0] 25 #[.int .u64 0, .slice none 0 0] (by kernel_rfl) rfl (by kernel_rfl) (by kernel_rfl) (hB.get 0 (x := ⟨w.heap.size, #[.int .u64 0, .slice none 0 0], 25⟩) rfl) (by rw [Try.infoA]; rfl) rfl (by simp [Value.oneCell']) ?_
        replace hB := hB.set 0 (x := ⟨w.heap.size, #[.int .u64 0, .slice none 0 0], 25⟩) rfl #[.int .u64 0, .slice none 0 0]
        simp only [List.set_cons_zero, List.set_cons_succ] at hB
        generalize World.setRow _ _ _ = u5 at *
        replace hB : Bl w [⟨w.heap.size, #[.int .u64 0, .slice none 0 0], 25⟩, ⟨q4, #[.int .u64 0, .slice none 0 0], 25⟩] u5 := hB
        simp only [Act.put, List.setIfInBounds_toArray, List.set_cons_zero, List.set_cons_succ, List.getElem_toArray, List.getElem_cons_zero, List.getElem_cons_succ]
        (refine wpList_step fun K hK => ?_; replace hK := hide hK; go_simp; refine unhide hK _ _ ?_; clear hK K)
        refine wpList_nil ?_
        have hbk : Hid (u5.heap[w.heap.size]? = some (.cells #[.int .u64 0, .slice none 0 0] 25 (0, 0))) := (hB.get 0 (x := ⟨w.heap.size, #[.int .u64 0, .slice none 0 0], 25⟩) rfl)
        have hP : Hid (T (.returned (.tuple #[.agg #[.int .u64 0, .slice none 0 0], .bool false])) u5) := by
          rw [unhide hT]
          exact ⟨rfl, hB.gr⟩
        clear hB
        go_wp2_with fail
        exact bodyPost_ret (v := .tuple #[.agg #[.int .u64 0, .slice none 0 0], .bool false]) (results_cell_tmp Try.results13 _ _ (w.heap.size) 25 #[.int .u64 0, .slice none 0 0] (0, 0) _ rfl (.bool false) rfl (unhide hbk) Try.underlying25 rfl (by rw [Try.infoA]; rfl)) rfl (unhide hP)
      · skip
        refine wp_region_lit ?_
        refine list_val (.int .i64 (n : Int)) (by kernel_rfl) (by kernel_rfl) ?_
        simp only [Act.put, List.setIfInBounds_toArray, List.set_cons_zero, List.set_cons_succ, List.getElem_toArray, List.getElem_cons_zero, List.getElem_cons_succ]
        refine list_val (.bool false) (by kernel_rfl) (by go_simp) ?_
        simp only [Act.put, List.setIfInBounds_toArray, List.set_cons_zero, List.set_cons_succ, List.getElem_toArray, List.getElem_cons_zero, List.getElem_cons_succ]
        refine list_val (.bool false) (by kernel_rfl) (by kernel_rfl) ?_
        simp only [Act.put, List.setIfInBounds_toArray, List.set_cons_zero, List.set_cons_succ, List.getElem_toArray, List.getElem_cons_zero, List.getElem_cons_succ]
        refine list_val (.int .i64 (n : Int)) (by kernel_rfl) (by kernel_rfl) ?_
        simp only [Act.put, List.setIfInBounds_toArray, List.set_cons_zero, List.set_cons_succ, List.getElem_toArray, List.getElem_cons_zero, List.getElem_cons_succ]
        refine list_val (.bool false) (by kernel_rfl) (by go_simp) ?_
        simp only [Act.put, List.setIfInBounds_toArray, List.set_cons_zero, List.set_cons_succ, List.getElem_toArray, List.getElem_cons_zero, List.getElem_cons_succ]
        refine list_val (.bool false) (by kernel_rfl) (by kernel_rfl) ?_
        simp only [Act.put, List.setIfInBounds_toArray, List.set_cons_zero, List.set_cons_succ, List.getElem_toArray, List.getElem_cons_zero, List.getElem_cons_succ]
        refine list_val (.bool false) (by kernel_rfl) (by kernel_rfl) ?_
        simp only [Act.put, List.setIfInBounds_toArray, List.set_cons_zero, List.set_cons_succ, List.getElem_toArray, List.getElem_cons_zero, List.getElem_cons_succ]
        refine list_val (.slice (some ⟨p0, q0, none⟩) 106 c0) (by kernel_rfl) (by kernel_rfl) ?_
        simp only [Act.put, List.setIfInBounds_toArray, List.set_cons_zero, List.set_cons_succ, List.getElem_toArray, List.getElem_cons_zero, List.getElem_cons_succ]
        refine list_val (.pointer (some ⟨p0, q0, none⟩)) (by kernel_rfl) (exec_ibs _ (.tmp 23) (.const (.int .i64 0)) rfl p0 q0 106 c0 0 (by kernel_rfl) (by kernel_rfl) (by omega)) ?_
        simp only [Act.put, List.setIfInBounds_toArray, List.set_cons_zero, List.set_cons_succ, List.getElem_toArray, List.getElem_cons_zero, List.getElem_cons_succ]
        refine list_val (.int .u8 f1) (by kernel_rfl) (exec_b _ (.tmp 24) rfl p0 q0 (by kernel_rfl) f1 (unhide hc0 _ hB.gr)) ?_
        simp only [Act.put, List.setIfInBounds_toArray, List.set_cons_zero, List.set_cons_succ, List.getElem_toArray, List.getElem_cons_zero, List.getElem_cons_succ]
        refine list_val (.bool true) (by kernel_rfl) (by go_simp) ?_
        simp only [Act.put, List.setIfInBounds_toArray, List.set_cons_zero, List.set_cons_succ, List.getElem_toArray, List.getElem_cons_zero, List.getElem_cons_succ]
        refine list_val (.bool true) (by kernel_rfl) (by kernel_rfl) ?_
        simp only [Act.put, List.setIfInBounds_toArray, List.set_cons_zero, List.set_cons_succ, List.getElem_toArray, List.getElem_cons_zero, List.getElem_cons_succ]
        refine list_val_offs 3 (.bool true) (by kernel_rfl) (by kernel_rfl) (by kernel_rfl) ?_
        simp only [List.drop_succ_cons, List.drop_zero, List.take_succ_cons, List.take_zero, putU]
        simp only [Act.put, List.setIfInBounds_toArray, List.set_cons_zero, List.set_cons_succ, List.getElem_toArray, List.getElem_cons_zero, List.getElem_cons_succ]
        refine list_val (.bool true) (by kernel_rfl) (by kernel_rfl) ?_
        simp only [Act.put, List.setIfInBounds_toArray, List.set_cons_zero, List.set_cons_succ, List.getElem_toArray, List.getElem_cons_zero, List.getElem_cons_succ]
        refine wpList_nil ?_
        replace hB := hide hB
        go_upto_region 4 with fail
        replace hB := unhide hB
        refine wp_region_lit ?_
        refine list_val (.agg #[.int .u64 0, .slice none 0 0]) (by kernel_rfl) (by kernel_rfl) ?_
        simp only [Act.put, List.setIfInBounds_toArray, List.set_cons_zero, List.set_cons_succ, List.getElem_toArray, List.getElem_cons_zero, List.getElem_cons_succ]
        refine list_store 25 (.tmp 2) (.tmp 33) (w.heap.size) #[.int .u64 0, .slice none 0 0] 25 #[.int .u64 0, .slice none 0 0] (by kernel_rfl) rfl (by kernel_rfl) (by kernel_rfl) (hB.get 0 (x := ⟨w.heap.size, #[.int .u64 0, .slice none 0 0], 25⟩) rfl) (by rw [Try.infoA]; rfl) rfl (by simp [Value.oneCell']) ?_
        replace hB := hB.set 0 (x := ⟨w.heap.size, #[.int .u64 0, .slice none 0 0], 25⟩) rfl #[.int .u64 0, .slice none 0 0]
        simp only [List.set_cons_zero, List.set_cons_succ] at hB
        generalize World.setRow _ _ _ = u5 at *
        replace hB : Bl w [⟨w.heap.size, #[.int .u64 0, .slice none 0 0], 25⟩, ⟨q4, #[.int .u64 r, .slice none 0 0], 25⟩] u5 := hB
        simp only [Act.put, List.setIfInBounds_toArray, List.set_cons_zero, List.set_cons_succ, List.getElem_toArray, List.getElem_cons_zero, List.getElem_cons_succ]
        (refine wpList_step fun K hK => ?_; replace hK := hide hK; go_simp; refine unhide hK _ _ ?_; clear hK K)
        refine wpList_nil ?_
        have hbk : Hid (u5.heap[w.heap.size]? = some (.cells #[.int .u64 0, .slice none 0 0] 25 (0, 0))) := (hB.get 0 (x := ⟨w.heap.size, #[.int .u64 0, .slice none 0 0], 25⟩) rfl)
        have hP : Hid (T (.returned (.tuple #[.agg #[.int .u64 0, .slice none 0 0], .bool false])) u5) := by
          rw [unhide hT]
          exact ⟨rfl, hB.gr⟩
        clear hB
        go_wp2_with fail
        exact bodyPost_ret (v := .tuple #[.agg #[.int .u64 0, .slice none 0 0], .bool false]) (results_cell_tmp Try.results13 _ _ (w.heap.size) 25 #[.int .u64 0, .slice none 0 0] (0, 0) _ rfl (.bool false) rfl (unhide hbk) Try.underlying25 rfl (by rw [Try.infoA]; rfl)) rfl (unhide hP)
end Go.Proofs.Ytiejdpodffkdpaa
