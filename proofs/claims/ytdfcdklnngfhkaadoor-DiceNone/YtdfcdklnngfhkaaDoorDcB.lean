/-
  The program: New, and the next bytes.
-/
import Derived.Test.YtdfcdklnngfhkaaDoorDcA
namespace Go.Proofs.YtdfcdklnngfhkaaDoor
open Go.RowKit
set_option maxRecDepth 100000
set_option linter.unusedSimpArgs false
set_option linter.unusedVariables false
/-- the cells of dice: how many bytes were taken, and the key -/
def ecl (Y : List Int) (t : Nat) : Array Value := (Value.int .i64 (t : Int) :: Y.map (Value.int .u8)).toArray
/-- dice lie there -/
def De (g : Nat) (Y : List Int) (t : Nat) (v : World) : Prop := v.heap[g]? = some (.cells (ecl Y t) 67 (0, 0))
theorem ecl_size (Y : List Int) (t : Nat) : (ecl Y t).size = Y.length + 1 := by unfold ecl; simp
theorem De.gr {g : Nat} {Y : List Int} {t : Nat} {w v : World} (h : De g Y t w) (k : Gr w v) : De g Y t v := k.blk h
theorem De.bt {g b : Nat} {Y : List Int} {t : Nat} {w v : World} (h : De g Y t w) (k : Bt b w v) (hb : g ≠ b) : De g Y t v := k.blk h hb
theorem De.taken {g : Nat} {Y : List Int} {t : Nat} {w : World} (h : De g Y t w) : w.cell? ⟨g, 0, none⟩ = some (.int .i64 (t : Int)) := cell_of h (by unfold ecl; simp)
theorem De.key {g : Nat} {Y : List Int} {t : Nat} {w : World} (h : De g Y t w) : w.rangeAt g 1 (Y.map (Value.int .u8)) := fun j v hj => by
  refine cell_of h ?_
  unfold ecl
  rw [List.getElem?_toArray, Nat.add_comm, List.getElem?_cons_succ]
  exact hj
theorem De.lt {g : Nat} {Y : List Int} {t : Nat} {w : World} (h : De g Y t w) : g < w.heap.size := lt_of_block h
theorem De.froz {g : Nat} {Y : List Int} {t : Nat} {w : World} (h : De g Y t w) (i : Nat) : w.frozen? ⟨g, i, none⟩ = false := froz_of h
theorem Bt.setCell {g : Nat} (w : World) (o : Nat) (x : Value) : Bt g w (w.setCell ⟨g, o, none⟩ x) := setCells_bt [x] w g o
theorem De.set {g : Nat} {Y : List Int} {t : Nat} {w : World} (h : De g Y t w) (m : Nat) : De g Y m (w.setCell ⟨g, 0, none⟩ (.int .i64 (m : Int))) := by
  have h2 := setCells_heap [.int .i64 (m : Int)] w g 0 (Value.int .i64 (t : Int) :: Y.map (Value.int .u8)) 67 h
  exact h2
theorem Fst.ne {g : Nat} {Y : List Int} {t : Nat} {w : World} (hF : Fst w) (h : De g Y t w) : g ≠ 0 := by
  rintro rfl
  have h1 := hF 0 (.int .u32 1779033703) rfl
  have h2 := h.taken
  rw [h2] at h1
  cases h1
theorem Fst.bt {g : Nat} {w v : World} (hF : Fst w) (k : Bt g w v) (hg : g ≠ 0) : Fst v := fun j x hj => k.cell (hF j x hj) (Ne.symm hg)
theorem Bt.own {g b : Nat} {w u v : World} (h : Bt g w u) (k : Bt b u v) (hb : w.heap.size ≤ b) : Bt g w v :=
  ⟨k.os.trans h.os, k.tape.trans h.tape, k.output.trans h.output, Nat.le_trans h.size k.size, fun i hi hn => (k.block i (Nat.lt_of_lt_of_le hi h.size) (by omega)).trans (h.block i hi hn)⟩
theorem Bt.row {g b : Nat} {w u : World} (h : Bt g w u) (hb : w.heap.size ≤ b) (cs : Array Value) : Bt g w (u.setRow b cs) :=
  h.own ⟨rfl, rfl, rfl, by simp, fun i _ hn => setRow_other u b i cs hn⟩ hb
/-- what New answers -/
def Ned (B : List Int) (w : World) (r : Ending) (w' : World) : Prop := ∃ g, r = .returned (.pointer (some ⟨g, 0, none⟩)) ∧ w.heap.size ≤ g ∧ De g (sumL B) 0 w' ∧ Gr w w'
theorem Tryd.infoE : (Tryd.prog.info? 67).map (·.size) = some 33 := by kernel_rfl
set_option maxHeartbeats 4000000 in
theorem dnew_ok (B : List Int) (a : Option Addr) (n cap : Nat) (hbig : n ≤ 100000) (w : World) (hF : Fst w) (lb : Lb w a n cap B) : Calls Tryd.prog 10 #[.slice a n cap] w (Ned B w) := by
  obtain ⟨T, hT⟩ : ∃ T, T = Ned B w := ⟨_, rfl⟩
  rw [← hT]
  replace hT := hide hT
  replace lb := hide lb
  go_enter Tryd.func10, Tryd.ntmps10
  go_upto_region 1 with fail
  refine wp_region_lit ?_
  refine list_val (.slice a n cap) (by kernel_rfl) (by kernel_rfl) ?_
  simp only [Act.put, List.setIfInBounds_toArray, List.set_cons_zero, List.set_cons_succ, List.getElem_toArray, List.getElem_cons_zero, List.getElem_cons_succ]
  refine list_call 25 #[.slice a n cap] (by kernel_rfl) (by kernel_rfl) ((sum_ok B (unhide lb).isB n (unhide lb).len (by omega) a cap (unhide lb).cap (unhide lb).max _ hF (unhide lb).sl).mono ?_)
  rintro r u1 ⟨rfl, hg⟩
  refine ⟨_, rfl, ?_⟩
  have hXl := sumL_len B
  obtain ⟨X, hX0⟩ : ∃ X, X = sumL B := ⟨_, rfl⟩
  rw [← hX0] at hXl ⊢
  replace hX0 := hide hX0
  simp only [Act.put, List.setIfInBounds_toArray, List.set_cons_zero, List.set_cons_succ, List.getElem_toArray, List.getElem_cons_zero, List.getElem_cons_succ]
  obtain ⟨x0, x1, x2, x3, x4, x5, x6, x7, x8, x9, x10, x11, x12, x13, x14, x15, x16, x17, x18, x19, x20, x21, x22, x23, x24, x25, x26, x27, x28, x29, x30, x31, hX⟩ := list32 X hXl
  rw [hX]
  refine list_val (.agg (ecl [x0, x1, x2, x3, x4, x5, x6, x7, x8, x9, x10, x11, x12, x13, x14, x15, x16, x17, x18, x19, x20, x21, x22, x23, x24, x25, x26, x27, x28, x29, x30, x31] 0)) (by kernel_rfl) (by kernel_rfl) ?_
  simp only [Act.put, List.setIfInBounds_toArray, List.set_cons_zero, List.set_cons_succ, List.getElem_toArray, List.getElem_cons_zero, List.getElem_cons_succ]
  rw [← hX]
  clear hX
  refine list_valw (.pointer (some ⟨u1.heap.size, 0, none⟩)) (u1.alloc (.cells (ecl X 0) 67 (0, 0))) (by kernel_rfl) (by kernel_rfl) ?_
  simp only [Act.put, List.setIfInBounds_toArray, List.set_cons_zero, List.set_cons_succ, List.getElem_toArray, List.getElem_cons_zero, List.getElem_cons_succ]
  (refine wpList_step fun K hK => ?_; replace hK := hide hK; go_simp; refine unhide hK _ _ ?_; clear hK K)
  refine wpList_nil ?_
  have hP : Hid (Ned B w (.returned (.pointer (some ⟨u1.heap.size, 0, none⟩))) (u1.alloc (.cells (ecl X 0) 67 (0, 0)))) := ⟨u1.heap.size, rfl, hg.size, by rw [← unhide hX0]; exact blk_new _ _, hg.alloc _⟩
  go_wp2_with fail
  rw [unhide hT]
  exact unhide hP
/-- the stream from a block on, what was taken of it cut off -/
theorem nx_drop (Y : List Int) (q r n t : Nat) (ht : t = 64 * q + r) : (xl Y ZN (cn 0 q) (List.replicate (r + n) 0)).drop r = nxl Y t n := by
  refine list_ext (by rw [List.length_drop, xl_len, List.length_replicate, nxl_len]; omega) fun i hi => ?_
  rw [List.length_drop, xl_len, List.length_replicate] at hi
  rw [List.getD_eq_getElem?_getD, List.getElem?_drop, ← List.getD_eq_getElem?_getD, xl_zero _ _ _ _ _ (by omega)]
  have e : (nxl Y t n).getD i 0 = stf Y t i := by
    unfold nxl
    rw [List.getD_eq_getElem?_getD, List.getElem?_map, List.getElem?_range (by omega)]
    rfl
  rw [e]
  unfold stf sf
  rw [cn_cn, show q + (r + i) / 64 = (t + i) / 64 from by omega, show (r + i) % 64 = (t + i) % 64 from by omega]
theorem exec_cut {a : Act} {o : Oper} (w : World) (x y : Operand) (ho : o.op = .slice 22 x (some y) none none) (g m r n : Nat) (hx : a.eval x = .slice (some ⟨g, 0, none⟩) m m) (hy : a.eval y = .int .i64 r) (hm : m = r + n) :
    (execOp a.eval o).run Tryd.prog w = .ok (.value (.slice (some ⟨g, if n = 0 then 0 else r, none⟩) n n)) w := by
  have h := exec_from w x y ho (some ⟨g, 0, none⟩) m m r hx hy (Nat.le_refl _) (by omega)
  rw [h, show m - r = n from by omega]
  by_cases h0 : n = 0
  · rw [if_pos h0, if_pos (by omega)]
  · rw [if_neg h0, if_neg (by omega), Option.map_some, Addr.add_mid, Nat.zero_add]
/-- what next answers and leaves -/
def Nxd (g : Nat) (Y : List Int) (t n : Nat) (w : World) (r : Ending) (w' : World) : Prop := ∃ gx o M, r = .returned (.slice (some ⟨gx, o, none⟩) n n) ∧ w.heap.size ≤ gx ∧ w'.heap[gx]? = some (.cells (kc M) 5 (0, 0)) ∧ At w' gx o (nxl Y t n) ∧ (t = 0 → o = 0 ∧ M = nxl Y 0 n) ∧ De g Y (t + n) w' ∧ Bt g w w'
set_option maxHeartbeats 4000000 in
theorem dnext_ok (Y : List Int) (hY : Y.length = 32) (hYb : IsB Y) (t n : Nat) (ht : t ≤ 1099511627776) (hn : n ≤ 65536) (g : Nat) (w : World) (hd : De g Y t w) : Calls Tryd.prog 27 #[.pointer (some ⟨g, 0, none⟩), .int .i64 n] w (Nxd g Y t n w) := by
  obtain ⟨T, hT⟩ : ∃ T, T = Nxd g Y t n w := ⟨_, rfl⟩
  rw [← hT]
  replace hT := hide hT
  obtain ⟨r, hr⟩ : ∃ r, r = t % 64 := ⟨_, rfl⟩
  obtain ⟨q, hq⟩ : ∃ q, q = t / 64 := ⟨_, rfl⟩
  have r64 : r < 64 := by omega
  have htq : Hid (t = 64 * q + r) := by show t = 64 * q + r; omega
  have a3 : Int.tmod (t : Int) 64 = (r : Int) := by rw [Int.tmod_eq_emod_of_nonneg (by omega)]; omega
  have a4 : Int.tdiv (t : Int) 64 = (q : Int) := by rw [Int.tdiv_eq_ediv_of_nonneg (by omega)]; omega
  have a5 : IntKind.u32.wrap (q : Int) = cn 0 q := by rw [IntKind.wrap_u32]; unfold cn; omega
  have a6 : IntKind.i64.wrap (q : Int) = (q : Int) := by rw [IntKind.wrap_i64]; omega
  obtain ⟨m, hm⟩ : ∃ m, m = r + n := ⟨_, rfl⟩
  have b1 : (r : Int) + (n : Int) = (m : Int) := by omega
  have b2 : IntKind.i64.wrap (m : Int) = (m : Int) := by rw [IntKind.wrap_i64]; omega
  obtain ⟨t2, ht2⟩ : ∃ x, x = t + n := ⟨_, rfl⟩
  have d1 : (t : Int) + (n : Int) = (t2 : Int) := by omega
  have d2 : IntKind.i64.wrap (t2 : Int) = (t2 : Int) := by rw [IntKind.wrap_i64]; omega
  have hm2 : m ≤ 65600 := by omega
  have hglt := hd.lt
  replace hr := hide hr; replace hq := hide hq; replace hm := hide hm; replace ht2 := hide ht2
  replace hd := hide hd; replace hYb := hide hYb
  go_enter Tryd.func27, Tryd.ntmps27
  go_upto_region 1 with fail
  refine wp_region_lit ?_
  refine list_val (.pointer (some ⟨g, 0, none⟩)) (by kernel_rfl) (by kernel_rfl) ?_
  simp only [Act.put, List.setIfInBounds_toArray, List.set_cons_zero, List.set_cons_succ, List.getElem_toArray, List.getElem_cons_zero, List.getElem_cons_succ]
  refine list_val (.pointer (some ⟨g, 0, none⟩)) (by kernel_rfl) (by kernel_rfl) ?_
  simp only [Act.put, List.setIfInBounds_toArray, List.set_cons_zero, List.set_cons_succ, List.getElem_toArray, List.getElem_cons_zero, List.getElem_cons_succ]
  refine list_val (.pointer (some ⟨g, 0, none⟩)) (by kernel_rfl) (by kernel_rfl) ?_
  simp only [Act.put, List.setIfInBounds_toArray, List.set_cons_zero, List.set_cons_succ, List.getElem_toArray, List.getElem_cons_zero, List.getElem_cons_succ]
  refine list_val (.pointer (some ⟨g, 0, none⟩)) (by kernel_rfl) (by kernel_rfl) ?_
  simp only [Act.put, List.setIfInBounds_toArray, List.set_cons_zero, List.set_cons_succ, List.getElem_toArray, List.getElem_cons_zero, List.getElem_cons_succ]
  refine list_val (.int .i64 t) (by kernel_rfl) (exec_i64 _ (.tmp 10) rfl g 0 (by kernel_rfl) t (unhide hd).taken) ?_
  simp only [Act.put, List.setIfInBounds_toArray, List.set_cons_zero, List.set_cons_succ, List.getElem_toArray, List.getElem_cons_zero, List.getElem_cons_succ]
  refine list_val (.int .i64 r) (by kernel_rfl) (by go_simp) ?_
  simp only [Act.put, List.setIfInBounds_toArray, List.set_cons_zero, List.set_cons_succ, List.getElem_toArray, List.getElem_cons_zero, List.getElem_cons_succ]
  (refine wpList_step fun K hK => ?_; replace hK := hide hK; go_simp; refine unhide hK _ _ ?_; clear hK K)
  refine wpList_nil ?_
  go_upto_region 2 with fail
  have hG := Gr.refl w
  refine any_start (S := fun v => Gr w v) (by kernel_rfl) ?_
  replace hG := hG.drew
  generalize World.drew _ = x0 at *
  simp only [List.size_toArray, List.length_cons, List.length_nil, Array.replicate, List.replicate]
  refine any_take (i := 0) (v := (.pointer (some ⟨g, 0, none⟩))) #[false, false, false, false, false, false, false, false, false, false, false, false, false, false, false, false, false, false] rfl (by kernel_rfl) (by kernel_rfl) (by kernel_rfl) (by kernel_rfl) (fun _ _ _ h => h) (.inl ⟨by kernel_rfl, fun x_ hu => by kernel_rfl⟩) hG ?_
  simp only [Act.put, List.setIfInBounds_toArray, List.set_cons_zero, List.set_cons_succ, List.getElem_toArray, List.getElem_cons_zero, List.getElem_cons_succ]
  refine any_take (i := 1) (v := (.pointer (some ⟨g, 0, none⟩))) #[true, false, false, false, false, false, false, false, false, false, false, false, false, false, false, false, false, false] rfl (by kernel_rfl) (by kernel_rfl) (by kernel_rfl) (by kernel_rfl) (fun _ _ _ h => h) (.inl ⟨by kernel_rfl, fun x_ hu => by kernel_rfl⟩) hG ?_
  simp only [Act.put, List.setIfInBounds_toArray, List.set_cons_zero, List.set_cons_succ, List.getElem_toArray, List.getElem_cons_zero, List.getElem_cons_succ]
  refine any_take (i := 2) (v := (.pointer (some ⟨g, 1, none⟩))) #[true, true, false, false, false, false, false, false, false, false, false, false, false, false, false, false, false, false] rfl (by kernel_rfl) (by kernel_rfl) (by kernel_rfl) (by kernel_rfl) (fun _ _ _ h => h) (.inl ⟨by kernel_rfl, fun x_ hu => by kernel_rfl⟩) hG ?_
  simp only [Act.put, List.setIfInBounds_toArray, List.set_cons_zero, List.set_cons_succ, List.getElem_toArray, List.getElem_cons_zero, List.getElem_cons_succ]
  refine any_take (i := 3) (v := (.agg (kc Y))) #[true, true, true, false, false, false, false, false, false, false, false, false, false, false, false, false, false, false] rfl (by kernel_rfl) (by kernel_rfl) (by kernel_rfl) (by kernel_rfl) (fun _ _ _ h => h) (.inl ⟨by kernel_rfl, fun x_ hu => exec_row _ 28 (.tmp 15) rfl g 1 (by kernel_rfl) (Y.map (Value.int .u8)) _ ((unhide hd).gr hu).key Tryd.underlying28 rfl (by rw [Tryd.infoKey, List.length_map, hY])⟩) hG ?_
  simp only [Act.put, List.setIfInBounds_toArray, List.set_cons_zero, List.set_cons_succ, List.getElem_toArray, List.getElem_cons_zero, List.getElem_cons_succ]
  refine any_take (i := 4) (v := (.pointer (some ⟨g, 0, none⟩))) #[true, true, true, true, false, false, false, false, false, false, false, false, false, false, false, false, false, false] rfl (by kernel_rfl) (by kernel_rfl) (by kernel_rfl) (by kernel_rfl) (fun _ _ _ h => h) (.inl ⟨by kernel_rfl, fun x_ hu => by kernel_rfl⟩) hG ?_
  simp only [Act.put, List.setIfInBounds_toArray, List.set_cons_zero, List.set_cons_succ, List.getElem_toArray, List.getElem_cons_zero, List.getElem_cons_succ]
  refine any_take (i := 5) (v := (.pointer (some ⟨g, 0, none⟩))) #[true, true, true, true, true, false, false, false, false, false, false, false, false, false, false, false, false, false] rfl (by kernel_rfl) (by kernel_rfl) (by kernel_rfl) (by kernel_rfl) (fun _ _ _ h => h) (.inl ⟨by kernel_rfl, fun x_ hu => by kernel_rfl⟩) hG ?_
  simp only [Act.put, List.setIfInBounds_toArray, List.set_cons_zero, List.set_cons_succ, List.getElem_toArray, List.getElem_cons_zero, List.getElem_cons_succ]
  refine any_take (i := 6) (v := (.pointer (some ⟨g, 0, none⟩))) #[true, true, true, true, true, true, false, false, false, false, false, false, false, false, false, false, false, false] rfl (by kernel_rfl) (by kernel_rfl) (by kernel_rfl) (by kernel_rfl) (fun _ _ _ h => h) (.inl ⟨by kernel_rfl, fun x_ hu => by kernel_rfl⟩) hG ?_
  simp only [Act.put, List.setIfInBounds_toArray, List.set_cons_zero, List.set_cons_succ, List.getElem_toArray, List.getElem_cons_zero, List.getElem_cons_succ]
  refine any_take (i := 7) (v := (.pointer (some ⟨g, 0, none⟩))) #[true, true, true, true, true, true, true, false, false, false, false, false, false, false, false, false, false, false] rfl (by kernel_rfl) (by kernel_rfl) (by kernel_rfl) (by kernel_rfl) (fun _ _ _ h => h) (.inl ⟨by kernel_rfl, fun x_ hu => by kernel_rfl⟩) hG ?_
  simp only [Act.put, List.setIfInBounds_toArray, List.set_cons_zero, List.set_cons_succ, List.getElem_toArray, List.getElem_cons_zero, List.getElem_cons_succ]
  refine any_take (i := 8) (v := (.int .i64 t)) #[true, true, true, true, true, true, true, true, false, false, false, false, false, false, false, false, false, false] rfl (by kernel_rfl) (by kernel_rfl) (by kernel_rfl) (by kernel_rfl) (fun _ _ _ h => h) (.inl ⟨by kernel_rfl, fun x_ hu => exec_i64 _ (.tmp 20) rfl g 0 (by kernel_rfl) t ((unhide hd).gr hu).taken⟩) hG ?_
  simp only [Act.put, List.setIfInBounds_toArray, List.set_cons_zero, List.set_cons_succ, List.getElem_toArray, List.getElem_cons_zero, List.getElem_cons_succ]
  refine any_take (i := 9) (v := (.int .i64 q)) #[true, true, true, true, true, true, true, true, true, false, false, false, false, false, false, false, false, false] rfl (by kernel_rfl) (by kernel_rfl) (by kernel_rfl) (by kernel_rfl) (fun _ _ _ h => h) (.inl ⟨by kernel_rfl, fun x_ hu => by go_simp⟩) hG ?_
  simp only [Act.put, List.setIfInBounds_toArray, List.set_cons_zero, List.set_cons_succ, List.getElem_toArray, List.getElem_cons_zero, List.getElem_cons_succ]
  refine any_take (i := 10) (v := (.int .u32 (cn 0 q))) #[true, true, true, true, true, true, true, true, true, true, false, false, false, false, false, false, false, false] rfl (by kernel_rfl) (by kernel_rfl) (by kernel_rfl) (by kernel_rfl) (fun _ _ _ h => h) (.inl ⟨by kernel_rfl, fun x_ hu => by go_simp⟩) hG ?_
  simp only [Act.put, List.setIfInBounds_toArray, List.set_cons_zero, List.set_cons_succ, List.getElem_toArray, List.getElem_cons_zero, List.getElem_cons_succ]
  refine any_take (i := 11) (v := (.agg (kc ZN))) #[true, true, true, true, true, true, true, true, true, true, true, false, false, false, false, false, false, false] rfl (by kernel_rfl) (by kernel_rfl) (by kernel_rfl) (by kernel_rfl) (fun _ _ _ h => h) (.inl ⟨by kernel_rfl, fun x_ hu => by kernel_rfl⟩) hG ?_
  simp only [Act.put, List.setIfInBounds_toArray, List.set_cons_zero, List.set_cons_succ, List.getElem_toArray, List.getElem_cons_zero, List.getElem_cons_succ]
  refine any_take (i := 12) (v := (.int .i64 r)) #[true, true, true, true, true, true, true, true, true, true, true, true, false, false, false, false, false, false] rfl (by kernel_rfl) (by kernel_rfl) (by kernel_rfl) (by kernel_rfl) (fun _ _ _ h => h) (.inl ⟨by kernel_rfl, fun x_ hu => by kernel_rfl⟩) hG ?_
  simp only [Act.put, List.setIfInBounds_toArray, List.set_cons_zero, List.set_cons_succ, List.getElem_toArray, List.getElem_cons_zero, List.getElem_cons_succ]
  refine any_take (i := 13) (v := (.int .i64 n)) #[true, true, true, true, true, true, true, true, true, true, true, true, true, false, false, false, false, false] rfl (by kernel_rfl) (by kernel_rfl) (by kernel_rfl) (by kernel_rfl) (fun _ _ _ h => h) (.inl ⟨by kernel_rfl, fun x_ hu => by kernel_rfl⟩) hG ?_
  simp only [Act.put, List.setIfInBounds_toArray, List.set_cons_zero, List.set_cons_succ, List.getElem_toArray, List.getElem_cons_zero, List.getElem_cons_succ]
  refine any_take (i := 14) (v := (.int .i64 m)) #[true, true, true, true, true, true, true, true, true, true, true, true, true, true, false, false, false, false] rfl (by kernel_rfl) (by kernel_rfl) (by kernel_rfl) (by kernel_rfl) (fun _ _ _ h => h) (.inl ⟨by kernel_rfl, fun x_ hu => by go_simp⟩) hG ?_
  simp only [Act.put, List.setIfInBounds_toArray, List.set_cons_zero, List.set_cons_succ, List.getElem_toArray, List.getElem_cons_zero, List.getElem_cons_succ]
  refine any_one (i := 15) (by kernel_rfl) rfl (fun K_ hQ => ?_)
  rw [if_pos (by kernel_rfl)]
  refine make_op (.tmp 27) (.tmp 27) rfl m m rfl rfl (Nat.le_refl _) (by omega) ?_
  have lz : Lb (x0.alloc (.cells (kc (List.replicate m 0)) 5 (0, 0))) (some ⟨x0.heap.size, 0, none⟩) m m (List.replicate m 0) := kc_lb (blk_new _ _) (by simp) (rep_isB m) (by omega)
  replace hG := hG.alloc (.cells (kc (List.replicate m 0)) 5 (0, 0))
  generalize World.alloc _ _ = x1 at *
  generalize x0.heap.size = g9 at *
  refine hQ.out _ _ hG (fun _ => ?_)
  clear hQ K_
  simp only [Act.put, List.setIfInBounds_toArray, List.set_cons_zero, List.set_cons_succ, List.getElem_toArray, List.getElem_cons_zero, List.getElem_cons_succ]
  refine any_one (i := 16) (by kernel_rfl) rfl (fun K_ hQ => ?_)
  refine step_callw (by kernel_rfl) 39 #[.agg (kc Y), .int .u32 (cn 0 q), .agg (kc ZN), .slice (some ⟨g9, 0, none⟩) m m] (by kernel_rfl) ((xor_ok Y ZN hY rfl (unhide hYb) ZN_isB (cn 0 q) (w32_cn 0 q) (List.replicate m 0) _ m m (by omega) _ lz).mono ?_)
  rintro r x2 ⟨gx, rfl, hgx, hxx, hg⟩
  refine ⟨_, rfl, ?_⟩
  rw [List.length_replicate]
  have hgx2 := Nat.le_trans hG.size hgx
  replace hG := hG.trans hg
  clear hg lz hgx
  refine hQ.out _ _ hG (fun _ => ?_)
  clear hQ K_
  simp only [Act.put, List.setIfInBounds_toArray, List.set_cons_zero, List.set_cons_succ, List.getElem_toArray, List.getElem_cons_zero, List.getElem_cons_succ]
  refine any_one (i := 17) (by kernel_rfl) rfl (fun K_ hQ => ?_)
  replace hQ := hide hQ
  go_simp
  refine (unhide hQ).out _ _ hG (fun _ => ?_)
  clear hQ K_
  refine any_done (by kernel_rfl) ?_
  have hd2 := (unhide hd).gr hG
  replace hd2 := hide hd2; replace hG := hide hG
  go_upto_region 3 with fail
  refine wp_region_lit ?_
  refine list_val (.pointer (some ⟨g, 0, none⟩)) (by kernel_rfl) (by kernel_rfl) ?_
  simp only [Act.put, List.setIfInBounds_toArray, List.set_cons_zero, List.set_cons_succ, List.getElem_toArray, List.getElem_cons_zero, List.getElem_cons_succ]
  refine list_val (.pointer (some ⟨g, 0, none⟩)) (by kernel_rfl) (by kernel_rfl) ?_
  simp only [Act.put, List.setIfInBounds_toArray, List.set_cons_zero, List.set_cons_succ, List.getElem_toArray, List.getElem_cons_zero, List.getElem_cons_succ]
  refine list_val (.pointer (some ⟨g, 0, none⟩)) (by kernel_rfl) (by kernel_rfl) ?_
  simp only [Act.put, List.setIfInBounds_toArray, List.set_cons_zero, List.set_cons_succ, List.getElem_toArray, List.getElem_cons_zero, List.getElem_cons_succ]
  refine list_val (.pointer (some ⟨g, 0, none⟩)) (by kernel_rfl) (by kernel_rfl) ?_
  simp only [Act.put, List.setIfInBounds_toArray, List.set_cons_zero, List.set_cons_succ, List.getElem_toArray, List.getElem_cons_zero, List.getElem_cons_succ]
  refine list_val (.int .i64 t) (by kernel_rfl) (exec_i64 _ (.tmp 33) rfl g 0 (by kernel_rfl) t (unhide hd2).taken) ?_
  simp only [Act.put, List.setIfInBounds_toArray, List.set_cons_zero, List.set_cons_succ, List.getElem_toArray, List.getElem_cons_zero, List.getElem_cons_succ]
  refine list_val (.int .i64 n) (by kernel_rfl) (by kernel_rfl) ?_
  simp only [Act.put, List.setIfInBounds_toArray, List.set_cons_zero, List.set_cons_succ, List.getElem_toArray, List.getElem_cons_zero, List.getElem_cons_succ]
  refine list_val (.int .i64 t2) (by kernel_rfl) (by go_simp) ?_
  simp only [Act.put, List.setIfInBounds_toArray, List.set_cons_zero, List.set_cons_succ, List.getElem_toArray, List.getElem_cons_zero, List.getElem_cons_succ]
  refine list_val (.pointer (some ⟨g, 0, none⟩)) (by kernel_rfl) (by kernel_rfl) ?_
  simp only [Act.put, List.setIfInBounds_toArray, List.set_cons_zero, List.set_cons_succ, List.getElem_toArray, List.getElem_cons_zero, List.getElem_cons_succ]
  refine list_val (.pointer (some ⟨g, 0, none⟩)) (by kernel_rfl) (by kernel_rfl) ?_
  simp only [Act.put, List.setIfInBounds_toArray, List.set_cons_zero, List.set_cons_succ, List.getElem_toArray, List.getElem_cons_zero, List.getElem_cons_succ]
  refine list_val (.pointer (some ⟨g, 0, none⟩)) (by kernel_rfl) (by kernel_rfl) ?_
  simp only [Act.put, List.setIfInBounds_toArray, List.set_cons_zero, List.set_cons_succ, List.getElem_toArray, List.getElem_cons_zero, List.getElem_cons_succ]
  have c4 := (unhide hd2).taken
  have fz := (unhide hd2).froz 0
  have hd3 := hide ((unhide hd2).set t2)
  have hbt := hide (((unhide hG).bt g).trans (Bt.setCell x2 0 (.int .i64 (t2 : Int))))
  have hxx2 := hide ((Bt.setCell x2 0 (.int .i64 (t2 : Int))).blk hxx (show gx ≠ g by omega))
  (refine wpList_step fun K hK => ?_; replace hK := hide hK; go_simp; refine unhide hK _ _ ?_; clear hK K)
  clear c4 fz
  generalize World.setCell _ _ _ = x3 at *
  refine wpList_nil ?_
  clear hd2 hG hxx
  go_upto_region 4 with fail
  refine wp_region_lit ?_
  refine list_val (.slice (some ⟨gx, 0, none⟩) m m) (by kernel_rfl) (by kernel_rfl) ?_
  simp only [Act.put, List.setIfInBounds_toArray, List.set_cons_zero, List.set_cons_succ, List.getElem_toArray, List.getElem_cons_zero, List.getElem_cons_succ]
  refine list_val (.int .i64 r) (by kernel_rfl) (by kernel_rfl) ?_
  simp only [Act.put, List.setIfInBounds_toArray, List.set_cons_zero, List.set_cons_succ, List.getElem_toArray, List.getElem_cons_zero, List.getElem_cons_succ]
  refine list_val (.slice (some ⟨gx, if n = 0 then 0 else r, none⟩) n n) (by kernel_rfl) (exec_cut _ (.tmp 40) (.tmp 41) rfl gx m r n rfl rfl (unhide hm)) ?_
  simp only [Act.put, List.setIfInBounds_toArray, List.set_cons_zero, List.set_cons_succ, List.getElem_toArray, List.getElem_cons_zero, List.getElem_cons_succ]
  (refine wpList_step fun K hK => ?_; replace hK := hide hK; go_simp; refine unhide hK _ _ ?_; clear hK K)
  refine wpList_nil ?_
  have hP : Hid (Nxd g Y t n w (.returned (.slice (some ⟨gx, if n = 0 then 0 else r, none⟩) n n)) x3) := by
    have e := nx_drop Y q r n t (unhide htq)
    have hx := unhide hxx2
    rw [unhide hm] at hx
    refine ⟨gx, _, _, rfl, hgx2, hx, ?_, ?_, by rw [← unhide ht2]; exact unhide hd3, unhide hbt⟩
    · by_cases h0 : n = 0
      · subst h0
        intro j hj
        rw [nxl_len] at hj
        omega
      · rw [if_neg h0, ← e]
        have h := (kc_at hx).drop r
        rw [Nat.zero_add] at h
        exact h
    · rintro rfl
      have h0 : r = 0 := by have := unhide hr; omega
      refine ⟨by rw [h0]; exact ite_self _, ?_⟩
      rw [← e, h0, List.drop_zero]
  generalize (if n = 0 then 0 else r) = o at *
  go_wp2_with fail
  rw [unhide hT]
  exact unhide hP
end Go.Proofs.YtdfcdklnngfhkaaDoor
