/-
  The program: keys, bytes, numbers below 1, how many were taken, and dice that are not there.
-/
import Derived.Test.YtdfcdklnngfhkaaDoorDcB
import Derived.Scope
namespace Go.Proofs.YtdfcdklnngfhkaaDoor
open Go.RowKit
set_option maxRecDepth 100000
set_option linter.unusedSimpArgs false
set_option linter.unusedVariables false
theorem Bt.row_self {b : Nat} {w u : World} (h : Bt b w u) (cs : Array Value) : Bt b w (u.setRow b cs) :=
  h.trans ⟨rfl, rfl, rfl, by simp, fun i _ hn => setRow_other u b i cs hn⟩
/-- what nextKey answers and leaves -/
def Kyd (g : Nat) (Y : List Int) (t : Nat) (w : World) (r : Ending) (w' : World) : Prop := r = .returned (.agg (kc (nxl Y t 32))) ∧ De g Y (t + 32) w' ∧ Bt g w w'
theorem lay_full (C S : List Int) (h : S.length = C.length) : lay C 0 S = S := lay_all C S h
set_option maxHeartbeats 4000000 in
theorem dnextKey_ok (Y : List Int) (hY : Y.length = 32) (hYb : IsB Y) (t : Nat) (ht : t ≤ 1099511627776) (g : Nat) (w : World) (hd : De g Y t w) : Calls Tryd.prog 31 #[.pointer (some ⟨g, 0, none⟩)] w (Kyd g Y t w) := by
  obtain ⟨T, hT⟩ : ∃ T, T = Kyd g Y t w := ⟨_, rfl⟩
  rw [← hT]
  replace hT := hide hT
  have hglt := hd.lt
  replace hd := hide hd; replace hYb := hide hYb
  go_enter Tryd.func31, Tryd.ntmps31
  go_upto_region 2 with fail
  have hB := ((Bl.nil w).new #[.int .u8 0, .int .u8 0, .int .u8 0, .int .u8 0, .int .u8 0, .int .u8 0, .int .u8 0, .int .u8 0, .int .u8 0, .int .u8 0, .int .u8 0, .int .u8 0, .int .u8 0, .int .u8 0, .int .u8 0, .int .u8 0, .int .u8 0, .int .u8 0, .int .u8 0, .int .u8 0, .int .u8 0, .int .u8 0, .int .u8 0, .int .u8 0, .int .u8 0, .int .u8 0, .int .u8 0, .int .u8 0, .int .u8 0, .int .u8 0, .int .u8 0, .int .u8 0] 28).new #[.int .u8 0, .int .u8 0, .int .u8 0, .int .u8 0, .int .u8 0, .int .u8 0, .int .u8 0, .int .u8 0, .int .u8 0, .int .u8 0, .int .u8 0, .int .u8 0, .int .u8 0, .int .u8 0, .int .u8 0, .int .u8 0, .int .u8 0, .int .u8 0, .int .u8 0, .int .u8 0, .int .u8 0, .int .u8 0, .int .u8 0, .int .u8 0, .int .u8 0, .int .u8 0, .int .u8 0, .int .u8 0, .int .u8 0, .int .u8 0, .int .u8 0, .int .u8 0] 28
  simp only [size_alloc, List.nil_append, List.cons_append] at hB
  generalize World.alloc _ _ = u at *
  replace hB : Bl w [⟨w.heap.size, kc Z32, 28⟩, ⟨w.heap.size + 1, kc Z32, 28⟩] u := hB
  refine any_start (S := fun _ => True) (by kernel_rfl) ?_
  replace hB := hB.drew
  generalize World.drew _ = x0 at *
  simp only [List.size_toArray, List.length_cons, List.length_nil, Array.replicate, List.replicate]
  refine any_take (i := 0) (v := (.slice (some ⟨w.heap.size + 1, 0, none⟩) 32 32)) #[false, false, false, false] rfl (by kernel_rfl) (by kernel_rfl) (by kernel_rfl) (by kernel_rfl) (fun _ _ _ h => h) (.inl ⟨by kernel_rfl, fun x_ hu => by kernel_rfl⟩) trivial ?_
  simp only [Act.put, List.setIfInBounds_toArray, List.set_cons_zero, List.set_cons_succ, List.getElem_toArray, List.getElem_cons_zero, List.getElem_cons_succ]
  refine any_take (i := 1) (v := (.pointer (some ⟨g, 0, none⟩))) #[true, false, false, false] rfl (by kernel_rfl) (by kernel_rfl) (by kernel_rfl) (by kernel_rfl) (fun _ _ _ h => h) (.inl ⟨by kernel_rfl, fun x_ hu => by kernel_rfl⟩) trivial ?_
  simp only [Act.put, List.setIfInBounds_toArray, List.set_cons_zero, List.set_cons_succ, List.getElem_toArray, List.getElem_cons_zero, List.getElem_cons_succ]
  refine any_one (i := 2) (by kernel_rfl) rfl (fun K_ hQ => ?_)
  refine step_callw (by kernel_rfl) 27 #[.pointer (some ⟨g, 0, none⟩), .int .i64 32] (by kernel_rfl) ((dnext_ok Y hY (unhide hYb) t 32 ht (by omega) g _ ((unhide hd).gr hB.gr)).mono ?_)
  rintro r x1 ⟨gx, o, M, rfl, hgx, hM, hat, _, hd2, hbt⟩
  refine ⟨_, rfl, ?_⟩
  have k0 := hbt.blk (hB.get 0 (x := ⟨w.heap.size, kc Z32, 28⟩) rfl) (show w.heap.size ≠ g by omega)
  have k1 := hbt.blk (hB.get 1 (x := ⟨w.heap.size + 1, kc Z32, 28⟩) rfl) (show w.heap.size + 1 ≠ g by omega)
  have hbt2 := (hB.gr.bt g).trans hbt
  have hlt1 := lt_of_block (hB.get 1 (x := ⟨w.heap.size + 1, kc Z32, 28⟩) rfl)
  dsimp only at k0 k1 hlt1
  clear hB hbt hM
  refine hQ.out _ _ trivial (fun _ => ?_)
  clear hQ K_
  simp only [Act.put, List.setIfInBounds_toArray, List.set_cons_zero, List.set_cons_succ, List.getElem_toArray, List.getElem_cons_zero, List.getElem_cons_succ]
  refine any_one (i := 3) (by kernel_rfl) rfl (fun K_ hQ => ?_)
  rw [if_pos (by kernel_rfl)]
  have hNl := nxl_len Y t 32
  refine copy_wp (.tmp 4) (.tmp 6) rfl (w.heap.size + 1) 0 32 32 (some ⟨gx, o, none⟩) 32 32 (by kernel_rfl) (by kernel_rfl) (Z32.map (Value.int .u8)) 28 k1 (nxl Y t 32) (by rw [hNl]; rfl) (.inr ⟨gx, o, rfl, hat⟩) (by rw [hNl]; decide) ?_
  have hcell := laid (S := nxl Y t 32) (o := 0) k1 (by rw [hNl]; decide)
  rw [lay_full Z32 _ (by rw [hNl]; rfl)] at hcell
  have hbs := setCells_bt ((nxl Y t 32).map (Value.int .u8)) x1 (w.heap.size + 1) 0
  have j0 := hbs.blk k0 (show w.heap.size ≠ w.heap.size + 1 by omega)
  have j2 := hd2.bt hbs (show g ≠ w.heap.size + 1 by omega)
  have hbt3 := hbt2.own hbs (show w.heap.size ≤ w.heap.size + 1 by omega)
  clear hat k0 k1 hbt2 hd2 hbs
  generalize World.setCells _ _ _ _ = x2 at *
  rw [hNl]
  refine hQ.out _ _ trivial (fun _ => ?_)
  clear hQ K_
  simp only [Act.put, List.setIfInBounds_toArray, List.set_cons_zero, List.set_cons_succ, List.getElem_toArray, List.getElem_cons_zero, List.getElem_cons_succ]
  refine any_done (by kernel_rfl) ?_
  replace hcell := hide hcell; replace j0 := hide j0; replace j2 := hide j2; replace hbt3 := hide hbt3
  go_upto_region 3 with fail
  obtain ⟨E, hE⟩ : ∃ E, E = nxl Y t 32 := ⟨_, rfl⟩
  rw [← hE] at hNl hcell
  refine wp_region_lit ?_
  refine list_val (.agg (kc E)) (by kernel_rfl) (exec_arr _ 28 (.tmp 3) rfl (w.heap.size + 1) (by kernel_rfl) (kc E) 28 _ (unhide hcell) Tryd.underlying28 rfl (by rw [Tryd.infoKey, kc_size, hNl])) ?_
  simp only [Act.put, List.setIfInBounds_toArray, List.set_cons_zero, List.set_cons_succ, List.getElem_toArray, List.getElem_cons_zero, List.getElem_cons_succ]
  refine list_store 28 (.tmp 2) (.tmp 8) (w.heap.size) (kc E) 28 (kc Z32) (by kernel_rfl) rfl (by kernel_rfl) (by kernel_rfl) (unhide j0) (by rw [Tryd.infoKey, kc_size, hNl]) ((show (kc Z32).size = 32 from rfl).trans ((kc_size _).trans hNl).symm) (kc_one _) ?_
  have i0 := setRow_heap x2 (w.heap.size) (kc Z32) (kc E) 28 (0, 0) (unhide j0)
  have hbr : Bt (w.heap.size) x2 (x2.setRow (w.heap.size) (kc E)) := (Bt.refl (w.heap.size) x2).row_self _
  have i2 := (unhide j2).bt hbr (show g ≠ w.heap.size by omega)
  have hbt4 := (unhide hbt3).row (show w.heap.size ≤ w.heap.size by omega) (kc E)
  clear hbr
  generalize World.setRow _ _ _ = x3 at *
  simp only [Act.put, List.setIfInBounds_toArray, List.set_cons_zero, List.set_cons_succ, List.getElem_toArray, List.getElem_cons_zero, List.getElem_cons_succ]
  refine wpList_nil ?_
  replace i0 := hide i0; replace i2 := hide i2; replace hbt4 := hide hbt4; replace hE := hide hE
  go_wp2_with fail
  rw [unhide hT]
  exact bodyPost_ret (v := .agg (kc E)) (results_cell_row Tryd.results31 _ _ (w.heap.size) 28 (kc E) (0, 0) _ rfl (unhide i0) Tryd.underlying28 rfl (by rw [Tryd.infoKey, kc_size, hNl])) rfl ⟨by rw [unhide hE], unhide i2, unhide hbt4⟩
/-- what Bytes answers and leaves -/
def Byd (g : Nat) (Y : List Int) (t n : Nat) (w : World) (r : Ending) (w' : World) : Prop := ∃ gx o M, r = .returned (.tuple #[.slice (some ⟨gx, o, none⟩) n n, .int .i64 0]) ∧ w.heap.size ≤ gx ∧ w'.heap[gx]? = some (.cells (kc M) 5 (0, 0)) ∧ At w' gx o (nxl Y t n) ∧ (t = 0 → o = 0 ∧ M = nxl Y 0 n) ∧ De g Y (t + n) w' ∧ Bt g w w'
set_option maxHeartbeats 4000000 in
theorem dbytes_ok (Y : List Int) (hY : Y.length = 32) (hYb : IsB Y) (t n : Nat) (ht : t ≤ 1099511627776) (hn : n ≤ 65536) (g : Nat) (w : World) (hd : De g Y t w) : Calls Tryd.prog 12 #[.pointer (some ⟨g, 0, none⟩), .int .i64 n] w (Byd g Y t n w) := by
  obtain ⟨T, hT⟩ : ∃ T, T = Byd g Y t n w := ⟨_, rfl⟩
  rw [← hT]
  replace hT := hide hT
  have n0 : ¬ (n : Int) < 0 := by omega
  have n1 : ¬ (65536 : Int) < (n : Int) := by omega
  replace hd := hide hd; replace hYb := hide hYb
  go_enter Tryd.func12, Tryd.ntmps12
  go_wp2_with (go_at_call 27; refine (dnext_ok Y hY (unhide hYb) t n ht hn g _ (unhide hd)).mono ?_; rintro e u1 ⟨gx, o, M, rfl, h1, h2, h3, h4, h5, h6⟩; have hP : Hid (Byd g Y t n w (.returned (.tuple #[.slice (some ⟨gx, o, none⟩) n n, .int .i64 0])) u1) := ⟨gx, o, M, rfl, h1, h2, h3, h4, h5, h6⟩; clear h1 h2 h3 h4 h5 h6)
  rw [unhide hT]
  exact unhide hP
theorem dbytes_nil (n : Int) (w : World) : Calls Tryd.prog 12 #[.pointer none, .int .i64 n] w (fun r w' => r = .returned (.tuple #[.slice none 0 0, .int .i64 1]) ∧ w' = w) := by
  go_enter Tryd.func12, Tryd.ntmps12
  go_wp2_with fail
  exact bodyPost_ret (v := .tuple #[.slice none 0 0, .int .i64 1]) (by simp [results, Tryd.results12, go_sem]) rfl ⟨rfl, rfl⟩
theorem dbelow_nil (n : Int) (w : World) : Calls Tryd.prog 15 #[.pointer none, .int .i64 n] w (fun r w' => r = .returned (.tuple #[.int .i64 0, .int .i64 1]) ∧ w' = w) := by
  go_enter Tryd.func15, Tryd.ntmps15
  go_wp2_with fail
  exact bodyPost_ret (v := .tuple #[.int .i64 0, .int .i64 1]) (by simp [results, Tryd.results15, go_sem]) rfl ⟨rfl, rfl⟩
theorem dorder_nil (n : Int) (w : World) : Calls Tryd.prog 17 #[.pointer none, .int .i64 n] w (fun r w' => r = .returned (.tuple #[.slice none 0 0, .int .i64 1]) ∧ w' = w) := by
  go_enter Tryd.func17, Tryd.ntmps17
  go_wp2_with fail
  exact bodyPost_ret (v := .tuple #[.slice none 0 0, .int .i64 1]) (by simp [results, Tryd.results17, go_sem]) rfl ⟨rfl, rfl⟩
theorem dfork_nil (s : ByteArray) (w : World) : Calls Tryd.prog 22 #[.pointer none, .string s] w (fun r w' => r = .returned (.tuple #[.pointer none, .int .i64 1]) ∧ w' = w) := by
  go_enter Tryd.func22, Tryd.ntmps22
  go_wp2_with fail
  exact bodyPost_ret (v := .tuple #[.pointer none, .int .i64 1]) (by simp [results, Tryd.results22, go_sem]) rfl ⟨rfl, rfl⟩
theorem dtaken_nil (w : World) : Calls Tryd.prog 21 #[.pointer none] w (fun r w' => r = .returned (.int .i64 0) ∧ w' = w) := by
  go_enter Tryd.func21, Tryd.ntmps21
  go_wp2_with fail
  go_ret
  exact ⟨rfl, rfl⟩
theorem dtaken_ok (g : Nat) (Y : List Int) (t : Nat) (w : World) (hd : De g Y t w) : Calls Tryd.prog 21 #[.pointer (some ⟨g, 0, none⟩)] w (fun r w' => r = .returned (.int .i64 t) ∧ w' = w) := by
  have c0 := hd.taken
  clear hd
  go_enter Tryd.func21, Tryd.ntmps21
  go_wp2_with fail
  go_ret
  exact ⟨rfl, rfl⟩
def Knl (w : World) (r : Ending) (w' : World) : Prop := r = .returned (.tuple #[.agg (kc Z32), .int .i64 1]) ∧ Gr w w'
theorem exec_to4 {a : Act} {op : Oper} (w : World) (x y : Operand) (ho : op.op = .slice 22 x none (some y) none) (p o cap : Nat) (hx : a.eval x = .slice (some ⟨p, o, none⟩) 4 cap) (hy : a.eval y = .int .i64 (4 : Nat)) (hc : 4 ≤ cap) :
    (execOp a.eval op).run Tryd.prog w = .ok (.value (.slice (some ⟨p, o, none⟩) 4 cap)) w := by
  have h := exec_upto w x y ho (some ⟨p, o, none⟩) 4 cap 4 hx hy hc (Nat.le_refl _)
  rw [if_neg (by omega), Option.map_some, Addr.add_mid, Nat.add_zero] at h
  exact h
def Gtd (x : Int) (w : World) (r : Ending) (w' : World) : Prop := r = .returned (.int .u64 x) ∧ w' = w
set_option maxHeartbeats 4000000 in
theorem dkey_nil (w : World) : Calls Tryd.prog 20 #[.pointer none] w (Knl w) := by
  obtain ⟨T, hT⟩ : ∃ T, T = Knl w := ⟨_, rfl⟩
  rw [← hT]
  replace hT := hide hT
  go_enter Tryd.func20, Tryd.ntmps20
  go_upto_region 1 with fail
  have hB := (Bl.nil w).new #[.int .u8 0, .int .u8 0, .int .u8 0, .int .u8 0, .int .u8 0, .int .u8 0, .int .u8 0, .int .u8 0, .int .u8 0, .int .u8 0, .int .u8 0, .int .u8 0, .int .u8 0, .int .u8 0, .int .u8 0, .int .u8 0, .int .u8 0, .int .u8 0, .int .u8 0, .int .u8 0, .int .u8 0, .int .u8 0, .int .u8 0, .int .u8 0, .int .u8 0, .int .u8 0, .int .u8 0, .int .u8 0, .int .u8 0, .int .u8 0, .int .u8 0, .int .u8 0] 28
  simp only [size_alloc, List.nil_append, List.cons_append] at hB
  generalize World.alloc _ _ = u at *
  replace hB : Bl w [⟨w.heap.size, kc Z32, 28⟩] u := hB
  replace hB := hide hB
  go_upto_region 2 with fail
  replace hB := unhide hB
  refine wp_region_lit ?_
  refine list_val (.agg (kc Z32)) (by kernel_rfl) (by kernel_rfl) ?_
  simp only [Act.put, List.setIfInBounds_toArray, List.set_cons_zero, List.set_cons_succ, List.getElem_toArray, List.getElem_cons_zero, List.getElem_cons_succ]
  refine list_store 28 (.tmp 2) (.tmp 6) (w.heap.size) (kc Z32) 28 (kc Z32) (by kernel_rfl) rfl (by kernel_rfl) (by kernel_rfl) (hB.get 0 (x := ⟨w.heap.size, kc Z32, 28⟩) rfl) (by rw [Tryd.infoKey, kc_size, (show Z32.length = 32 from rfl)]) ((show (kc Z32).size = 32 from rfl).trans ((kc_size _).trans (show Z32.length = 32 from rfl)).symm) (kc_one _) ?_
  replace hB := hB.set 0 (x := ⟨w.heap.size, kc Z32, 28⟩) rfl (kc Z32)
  simp only [List.set_cons_zero, List.set_cons_succ] at hB
  generalize World.setRow _ _ _ = u1 at *
  simp only [Act.put, List.setIfInBounds_toArray, List.set_cons_zero, List.set_cons_succ, List.getElem_toArray, List.getElem_cons_zero, List.getElem_cons_succ]
  (refine wpList_step fun K hK => ?_; replace hK := hide hK; go_simp; refine unhide hK _ _ ?_; clear hK K)
  refine wpList_nil ?_
  replace hB := hide hB
  go_wp2_with fail
  rw [unhide hT]
  exact bodyPost_ret (v := .tuple #[.agg (kc Z32), .int .i64 1]) (results_cell_tmp Tryd.results20 _ _ (w.heap.size) 28 (kc Z32) (0, 0) _ rfl (.int .i64 1) rfl ((unhide hB).get 0 (x := ⟨w.heap.size, kc Z32, 28⟩) rfl) Tryd.underlying28 rfl (by rw [Tryd.infoKey]; rfl)) rfl ⟨rfl, (unhide hB).gr⟩
set_option maxHeartbeats 4000000 in
theorem get4_ok (p o c : Nat) (B : List Int) (hl : B.length = 4) (hc : 4 ≤ c) (hcb : c < 9223372036854775808) (hb : IsB B) (w : World) (hat : At w p o B) : Calls Tryd.prog 43 #[.slice (some ⟨p, o, none⟩) 4 c] w (Gtd (lowN B) w) := by
  obtain ⟨T, hT⟩ : ∃ T, T = Gtd (lowN B) w := ⟨_, rfl⟩
  rw [← hT]
  replace hT := hide hT
  have hcon := hide (onum_ok p o 4 c B w hl (by omega) hb hat)
  clear hat
  generalize lowN B = x at *
  go_enter Tryd.func43, Tryd.ntmps43
  go_upto_region 1 with fail
  refine wp_region_lit ?_
  refine list_val (.slice (some ⟨p, o, none⟩) 4 c) (by kernel_rfl) (by kernel_rfl) ?_
  simp only [Act.put, List.setIfInBounds_toArray, List.set_cons_zero, List.set_cons_succ, List.getElem_toArray, List.getElem_cons_zero, List.getElem_cons_succ]
  refine list_val (.slice (some ⟨p, o, none⟩) 4 c) (by kernel_rfl) (by kernel_rfl) ?_
  simp only [Act.put, List.setIfInBounds_toArray, List.set_cons_zero, List.set_cons_succ, List.getElem_toArray, List.getElem_cons_zero, List.getElem_cons_succ]
  refine list_val (.int .i64 (4 : Nat)) (by kernel_rfl) (by kernel_rfl) ?_
  simp only [Act.put, List.setIfInBounds_toArray, List.set_cons_zero, List.set_cons_succ, List.getElem_toArray, List.getElem_cons_zero, List.getElem_cons_succ]
  refine list_val (.int .i64 (4 : Nat)) (by kernel_rfl) (by go_simp) ?_
  simp only [Act.put, List.setIfInBounds_toArray, List.set_cons_zero, List.set_cons_succ, List.getElem_toArray, List.getElem_cons_zero, List.getElem_cons_succ]
  refine list_val (.slice (some ⟨p, o, none⟩) 4 c) (by kernel_rfl) (exec_to4 _ (.tmp 3) (.tmp 6) rfl p o c (by kernel_rfl) (by kernel_rfl) hc) ?_
  simp only [Act.put, List.setIfInBounds_toArray, List.set_cons_zero, List.set_cons_succ, List.getElem_toArray, List.getElem_cons_zero, List.getElem_cons_succ]
  refine list_call 50 #[.slice (some ⟨p, o, none⟩) 4 c] (by kernel_rfl) (by kernel_rfl) ((unhide hcon).mono ?_)
  rintro r u1 ⟨rfl, rfl⟩
  refine ⟨_, rfl, ?_⟩
  simp only [Act.put, List.setIfInBounds_toArray, List.set_cons_zero, List.set_cons_succ, List.getElem_toArray, List.getElem_cons_zero, List.getElem_cons_succ]
  (refine wpList_step fun K hK => ?_; replace hK := hide hK; go_simp; refine unhide hK _ _ ?_; clear hK K)
  refine wpList_nil ?_
  go_wp2_with fail
  rw [unhide hT]
  exact ⟨rfl, rfl⟩
def One (g : Nat) (Y : List Int) (t : Nat) (w : World) (r : Ending) (w' : World) : Prop := r = .returned (.int .i64 0) ∧ De g Y (t + 4) w' ∧ Bt g w w'
set_option maxHeartbeats 4000000 in
theorem dbelow_one (Y : List Int) (hY : Y.length = 32) (hYb : IsB Y) (t : Nat) (ht : t ≤ 1099511627776) (g : Nat) (w : World) (hd : De g Y t w) : Calls Tryd.prog 29 #[.pointer (some ⟨g, 0, none⟩), .int .i64 1] w (One g Y t w) := by
  obtain ⟨T, hT⟩ : ∃ T, T = One g Y t w := ⟨_, rfl⟩
  rw [← hT]
  replace hT := hide hT
  replace hd := hide hd; replace hYb := hide hYb
  go_enter Tryd.func29, Tryd.ntmps29
  refine wp_seq ?_
  go_wp2_with fail
  refine wp_scope_straight ?_
  go_wp2_with fail
  refine wp_label ?_
  go_upto_region 3 with fail
  refine wp_region_lit ?_
  refine list_val (.pointer (some ⟨g, 0, none⟩)) (by kernel_rfl) (by kernel_rfl) ?_
  simp only [Act.put, List.setIfInBounds_toArray, List.set_cons_zero, List.set_cons_succ, List.getElem_toArray, List.getElem_cons_zero, List.getElem_cons_succ]
  refine list_call 27 #[.pointer (some ⟨g, 0, none⟩), .int .i64 4] (by kernel_rfl) (by kernel_rfl) ((dnext_ok Y hY (unhide hYb) t 4 ht (by omega) g _ (unhide hd)).mono ?_)
  rintro r u1 ⟨gx, ox, M, rfl, hgx, hM, hat, _, hd2, hbt⟩
  refine ⟨_, rfl, ?_⟩
  clear hM
  simp only [Act.put, List.setIfInBounds_toArray, List.set_cons_zero, List.set_cons_succ, List.getElem_toArray, List.getElem_cons_zero, List.getElem_cons_succ]
  refine list_call 43 #[.slice (some ⟨gx, ox, none⟩) 4 4] (by kernel_rfl) (by kernel_rfl) ((get4_ok gx ox 4 (nxl Y t 4) (nxl_len _ _ _) (by omega) (by omega) (nxl_isB _ _ _) _ hat).mono ?_)
  rintro r u2_ ⟨rfl, rfl⟩
  refine ⟨_, rfl, ?_⟩
  have hx := lowN_bd (nxl Y t 4) (nxl_isB _ _ _)
  rw [nxl_len] at hx
  generalize lowN (nxl Y t 4) = x at *
  have hx2 : x < 4294967296 := by have := hx.2; omega
  have hx0 := hx.1
  have hx3 : ¬ (4294967296 : Int) ≤ x := by omega
  clear hx hat
  simp only [Act.put, List.setIfInBounds_toArray, List.set_cons_zero, List.set_cons_succ, List.getElem_toArray, List.getElem_cons_zero, List.getElem_cons_succ]
  (refine wpList_step fun K hK => ?_; replace hK := hide hK; go_simp; refine unhide hK _ _ ?_; clear hK K)
  refine wpList_nil ?_
  have hP : Hid (One g Y t w (.returned (.int .i64 0)) u2_) := ⟨rfl, hd2, hbt⟩
  clear hd2 hbt hd
  have hx4 : Int.tmod x 1 = 0 := by rw [Int.tmod_eq_emod_of_nonneg hx0]; omega
  go_wp2_with fail
  rw [unhide hT]
  exact unhide hP
end Go.Proofs.YtdfcdklnngfhkaaDoor
