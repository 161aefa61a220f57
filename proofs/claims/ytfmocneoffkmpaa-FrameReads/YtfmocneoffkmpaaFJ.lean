/-
  Layer 14: packets are got.
-/
import Derived.Test.YtfmocneoffkmpaaFI
namespace Go.Proofs.Ytfmocneoffkmpaa
open Go.RowKit
set_option maxRecDepth 100000
set_option linter.unusedSimpArgs false
set_option linter.unusedVariables false
/-- what of a packet's bytes is told -/
def pkv (L : List Int) (v : Value) : Array Value := #[.int .i64 (L.getD 1 0), .int .i64 (L.getD 2 0), .int .u64 (lowN ((L.drop 3).take 8)), v]
def pkE (L : List Int) : Bool := ends (L.getD 1 0) (L.getD 2 0) (lowN ((L.drop 3).take 8))
def Gok (L : List Int) (w : World) (r : Ending) (w' : World) : Prop := ∃ v, r = .returned (.tuple #[.agg (pkv L v), .int .i64 0]) ∧ Ob w.heap.size w' v (L.drop 11) ∧ Gr w w'
theorem agg4_one {a b c d : Value} (h : (#[a, b, c, d] : Array Value).all (·.oneCell') = true) : True := trivial
set_option maxHeartbeats 4000000 in
theorem pof_up_no (a : Option Addr) (m c : Nat) (hm : m < 9223372036854775808) (hS : onS ((m : Int) - 11) = false) (w : World) : Calls Try.prog 69 #[.slice a m c, .int .i64 2, .func (.func 48) #[] #[]] w (Rno #[.int .i64 0, .int .i64 0, .int .u64 0, .slice none 0 0] 240 w) := by
  obtain ⟨T, hT⟩ : ∃ T, T = Rno #[.int .i64 0, .int .i64 0, .int .u64 0, .slice none 0 0] 240 w := ⟨_, rfl⟩
  rw [← hT]
  replace hT := hide hT
  obtain ⟨x, hx⟩ : ∃ x : Int, x = (m : Int) - 11 := ⟨_, rfl⟩
  have hw1 : IntKind.i64.wrap ((m : Int) - 11) = x := by rw [IntKind.wrap_i64]; omega
  rw [← hx] at hS
  clear hx
  go_enter Try.func69, Try.ntmps69
  go_upto_region 1 with fail
  have hB := ((Bl.nil w).new #[.int .i64 0, .int .i64 0, .int .u64 0, .slice none 0 0] 113)
  simp only [size_alloc, List.nil_append, List.cons_append] at hB
  generalize World.alloc _ _ = u at *
  replace hB : Bl w [⟨w.heap.size, #[.int .i64 0, .int .i64 0, .int .u64 0, .slice none 0 0], 113⟩] u := hB
  refine wp_region_lit ?_
  refine list_val (.func (.func 48) #[] #[]) (by kernel_rfl) (by kernel_rfl) ?_
  simp only [Act.put, List.setIfInBounds_toArray, List.set_cons_zero, List.set_cons_succ, List.getElem_toArray, List.getElem_cons_zero, List.getElem_cons_succ]
  refine list_val (.slice a m c) (by kernel_rfl) (by kernel_rfl) ?_
  simp only [Act.put, List.setIfInBounds_toArray, List.set_cons_zero, List.set_cons_succ, List.getElem_toArray, List.getElem_cons_zero, List.getElem_cons_succ]
  refine list_val (.int .i64 m) (by kernel_rfl) (by kernel_rfl) ?_
  simp only [Act.put, List.setIfInBounds_toArray, List.set_cons_zero, List.set_cons_succ, List.getElem_toArray, List.getElem_cons_zero, List.getElem_cons_succ]
  refine list_val (.int .i64 x) (by kernel_rfl) (by go_simp) ?_
  simp only [Act.put, List.setIfInBounds_toArray, List.set_cons_zero, List.set_cons_succ, List.getElem_toArray, List.getElem_cons_zero, List.getElem_cons_succ]
  refine list_call 80 #[.func (.func 48) #[] #[], .int .i64 x] (by kernel_rfl) (by kernel_rfl) ((some_on x u).mono ?_)
  rintro r_ u1 ⟨rfl, hg1⟩
  rw [hS]
  replace hB := hB.more hg1
  clear hg1
  refine ⟨_, rfl, ?_⟩
  simp only [Act.put, List.setIfInBounds_toArray, List.set_cons_zero, List.set_cons_succ, List.getElem_toArray, List.getElem_cons_zero, List.getElem_cons_succ]
  refine list_val (.bool true) (by kernel_rfl) (by kernel_rfl) ?_
  simp only [Act.put, List.setIfInBounds_toArray, List.set_cons_zero, List.set_cons_succ, List.getElem_toArray, List.getElem_cons_zero, List.getElem_cons_succ]
  refine wpList_nil ?_
  replace hB := hide hB
  go_upto_region 2 with fail
  replace hB := unhide hB
  refine wp_region_lit ?_
  refine list_val (.agg #[.int .i64 0, .int .i64 0, .int .u64 0, .slice none 0 0]) (by kernel_rfl) (by kernel_rfl) ?_
  simp only [Act.put, List.setIfInBounds_toArray, List.set_cons_zero, List.set_cons_succ, List.getElem_toArray, List.getElem_cons_zero, List.getElem_cons_succ]
  refine list_store 113 (.tmp 6) (.tmp 17) (w.heap.size) #[.int .i64 0, .int .i64 0, .int .u64 0, .slice none 0 0] 113 #[.int .i64 0, .int .i64 0, .int .u64 0, .slice none 0 0] (by kernel_rfl) rfl (by kernel_rfl) (by kernel_rfl) (hB.get 0 (x := ⟨w.heap.size, #[.int .i64 0, .int .i64 0, .int .u64 0, .slice none 0 0], 113⟩) rfl) (by rw [Try.infoP]; rfl) rfl (by simp [Value.oneCell']) ?_
  replace hB := hB.set 0 (x := ⟨w.heap.size, #[.int .i64 0, .int .i64 0, .int .u64 0, .slice none 0 0], 113⟩) rfl #[.int .i64 0, .int .i64 0, .int .u64 0, .slice none 0 0]
  simp only [List.set_cons_zero, List.set_cons_succ] at hB
  generalize World.setRow _ _ _ = u2 at *
  replace hB : Bl w [⟨w.heap.size, #[.int .i64 0, .int .i64 0, .int .u64 0, .slice none 0 0], 113⟩] u2 := hB
  simp only [Act.put, List.setIfInBounds_toArray, List.set_cons_zero, List.set_cons_succ, List.getElem_toArray, List.getElem_cons_zero, List.getElem_cons_succ]
  (refine wpList_step fun K hK => ?_; replace hK := hide hK; go_simp; refine unhide hK _ _ ?_; clear hK K)
  refine wpList_nil ?_
  replace hB := hide hB
  go_wp2_with fail
  replace hB := unhide hB
  rw [unhide hT]
  exact bodyPost_ret (v := .tuple #[.agg #[.int .i64 0, .int .i64 0, .int .u64 0, .slice none 0 0], .int .i64 240]) (results_cell_tmp Try.results69 _ _ (w.heap.size) 113 #[.int .i64 0, .int .i64 0, .int .u64 0, .slice none 0 0] (0, 0) _ rfl (.int .i64 240) rfl (hB.get 0 (x := ⟨w.heap.size, #[.int .i64 0, .int .i64 0, .int .u64 0, .slice none 0 0], 113⟩) rfl) Try.underlying113 rfl (by rw [Try.infoP]; rfl)) rfl ⟨rfl, hB.gr⟩
set_option maxHeartbeats 4000000 in
theorem pof_up_ok (L : List Int) (a : Option Addr) (n0 c0 : Nat) (hS : onS ((n0 : Int) - 11) = true) (hF : L.getD 0 0 = 2) (hE : pkE L = true) (w : World) (hB0 : Lb w a n0 c0 L) : Calls Try.prog 69 #[.slice a n0 c0, .int .i64 2, .func (.func 48) #[] #[]] w (Gok L w) := by
  obtain ⟨T, hT⟩ : ∃ T, T = Gok L w := ⟨_, rfl⟩
  rw [← hT]
  replace hT := hide hT
  have hn0 : 12 ≤ n0 ∧ n0 ≤ 301 := by unfold onS at hS; rw [decide_eq_true_iff] at hS; omega
  obtain ⟨p0, q0, rfl, hB0⟩ := hB0.some (by omega)
  obtain ⟨x, hx⟩ : ∃ x : Int, x = (n0 : Int) - 11 := ⟨_, rfl⟩
  have hw1 : IntKind.i64.wrap ((n0 : Int) - 11) = x := by rw [IntKind.wrap_i64]; omega
  rw [← hx] at hS
  clear hx
  have hL := hB0.len
  have hLb := hide hB0.isB
  replace hB0 := hide hB0; replace hF := hide hF
  replace hE := hide hE
  go_enter Try.func69, Try.ntmps69
  go_upto_region 1 with fail
  have hB := ((Bl.nil w).new #[.int .i64 0, .int .i64 0, .int .u64 0, .slice none 0 0] 113)
  simp only [size_alloc, List.nil_append, List.cons_append] at hB
  generalize World.alloc _ _ = u at *
  replace hB : Bl w [⟨w.heap.size, #[.int .i64 0, .int .i64 0, .int .u64 0, .slice none 0 0], 113⟩] u := hB
  refine wp_region_lit ?_
  refine list_val (.func (.func 48) #[] #[]) (by kernel_rfl) (by kernel_rfl) ?_
  simp only [Act.put, List.setIfInBounds_toArray, List.set_cons_zero, List.set_cons_succ, List.getElem_toArray, List.getElem_cons_zero, List.getElem_cons_succ]
  refine list_val (.slice (some ⟨p0, q0, none⟩) n0 c0) (by kernel_rfl) (by kernel_rfl) ?_
  simp only [Act.put, List.setIfInBounds_toArray, List.set_cons_zero, List.set_cons_succ, List.getElem_toArray, List.getElem_cons_zero, List.getElem_cons_succ]
  refine list_val (.int .i64 n0) (by kernel_rfl) (by kernel_rfl) ?_
  simp only [Act.put, List.setIfInBounds_toArray, List.set_cons_zero, List.set_cons_succ, List.getElem_toArray, List.getElem_cons_zero, List.getElem_cons_succ]
  refine list_val (.int .i64 x) (by kernel_rfl) (by go_simp) ?_
  simp only [Act.put, List.setIfInBounds_toArray, List.set_cons_zero, List.set_cons_succ, List.getElem_toArray, List.getElem_cons_zero, List.getElem_cons_succ]
  refine list_call 80 #[.func (.func 48) #[] #[], .int .i64 x] (by kernel_rfl) (by kernel_rfl) ((some_on x u).mono ?_)
  rintro r_ u1 ⟨rfl, hg1⟩
  rw [hS]
  replace hB := hB.more hg1
  clear hg1
  refine ⟨_, rfl, ?_⟩
  simp only [Act.put, List.setIfInBounds_toArray, List.set_cons_zero, List.set_cons_succ, List.getElem_toArray, List.getElem_cons_zero, List.getElem_cons_succ]
  refine list_val (.bool false) (by kernel_rfl) (by kernel_rfl) ?_
  simp only [Act.put, List.setIfInBounds_toArray, List.set_cons_zero, List.set_cons_succ, List.getElem_toArray, List.getElem_cons_zero, List.getElem_cons_succ]
  refine wpList_nil ?_
  clear hw1
  replace hB := hide hB
  go_upto_region 3 with fail
  replace hB := unhide hB
  refine wp_region_lit ?_
  refine list_val (.slice (some ⟨p0, q0, none⟩) n0 c0) (by kernel_rfl) (by kernel_rfl) ?_
  simp only [Act.put, List.setIfInBounds_toArray, List.set_cons_zero, List.set_cons_succ, List.getElem_toArray, List.getElem_cons_zero, List.getElem_cons_succ]
  refine list_call 54 #[.slice (some ⟨p0, q0, none⟩) n0 c0] (by kernel_rfl) (by kernel_rfl) ((oreadt_ok L p0 q0 n0 c0 u1 ((unhide hB0).gr hB.gr) (by omega) (by omega)).mono ?_)
  rintro r u2 ⟨g, p, c, rfl, hgg, hpp, hrd, hty, hgr⟩
  rw [hL] at hrd
  have hG : Gt g w [⟨w.heap.size, #[.int .i64 0, .int .i64 0, .int .u64 0, .slice none 0 0], 113⟩] p n0 c 0 L u2 := hB.gt hgr hgg hpp hrd hty (by intro y hy; rw [List.mem_singleton.1 hy]; exact ⟨(by decide : (113 : TypeId) ≠ 126), (by decide : (113 : TypeId) ≠ 5)⟩)
  have hwg : w.heap.size ≤ g := Nat.le_trans hB.gr.size hgg
  clear hB hgr hgg hpp hrd hty
  refine ⟨_, rfl, ?_⟩
  simp only [Act.put, List.setIfInBounds_toArray, List.set_cons_zero, List.set_cons_succ, List.getElem_toArray, List.getElem_cons_zero, List.getElem_cons_succ]
  (refine wpList_step fun K hK => ?_; replace hK := hide hK; go_simp; refine unhide hK _ _ ?_; clear hK K)
  refine wpList_nil ?_
  replace hG := hide hG
  go_upto_region 4 with fail
  replace hG := unhide hG
  refine wp_region_lit ?_
  refine list_val (.pointer (some ⟨g, 0, none⟩)) (by kernel_rfl) (by kernel_rfl) ?_
  simp only [Act.put, List.setIfInBounds_toArray, List.set_cons_zero, List.set_cons_succ, List.getElem_toArray, List.getElem_cons_zero, List.getElem_cons_succ]
  refine list_call 59 #[P0 g] (by kernel_rfl) (by kernel_rfl) ((fone_ok g p n0 c 0 L u2 hG.rd (by omega) (by omega)).mono ?_)
  rintro r u3 ⟨rfl, hR1, hb1⟩
  replace hG := hG.read hR1 hb1
  clear hR1 hb1
  obtain ⟨f1, hf10⟩ : ∃ x, x = L.getD 0 0 := ⟨_, rfl⟩
  rw [← hf10]
  refine ⟨_, rfl, ?_⟩
  replace hf10 := hide hf10
  simp only [Act.put, List.setIfInBounds_toArray, List.set_cons_zero, List.set_cons_succ, List.getElem_toArray, List.getElem_cons_zero, List.getElem_cons_succ]
  (refine wpList_step fun K hK => ?_; replace hK := hide hK; go_simp; refine unhide hK _ _ ?_; clear hK K)
  refine wpList_nil ?_
  replace hG := hide hG
  go_upto_region 5 with fail
  replace hG := unhide hG
  refine wp_region_lit ?_
  refine list_valw (.pointer (some ⟨u3.heap.size, 0, none⟩)) (u3.alloc (.cells #[.int .i64 0, .int .i64 0, .int .u64 0, .slice none 0 0] 113 (0, 0))) (by kernel_rfl) (by kernel_rfl) ?_
  replace hG := hG.new #[.int .i64 0, .int .i64 0, .int .u64 0, .slice none 0 0] 113 ⟨by decide, by decide⟩
  simp only [List.nil_append, List.cons_append] at hG
  generalize World.alloc _ _ = u4 at *
  generalize u3.heap.size = q5 at *
  replace hG : Gt g w [⟨w.heap.size, #[.int .i64 0, .int .i64 0, .int .u64 0, .slice none 0 0], 113⟩, ⟨q5, #[.int .i64 0, .int .i64 0, .int .u64 0, .slice none 0 0], 113⟩] p n0 c (0 + 1) L u4 := hG
  simp only [Act.put, List.setIfInBounds_toArray, List.set_cons_zero, List.set_cons_succ, List.getElem_toArray, List.getElem_cons_zero, List.getElem_cons_succ]
  refine wpList_nil ?_
  replace hG : Gt g w [⟨w.heap.size, #[.int .i64 0, .int .i64 0, .int .u64 0, .slice none 0 0], 113⟩, ⟨q5, #[.int .i64 0, .int .i64 0, .int .u64 0, .slice none 0 0], 113⟩] p n0 c (1) L u4 := hG
  replace hG := hide hG
  go_upto_region 6 with fail
  replace hG := unhide hG
  refine wp_region_lit ?_
  refine list_val (.pointer (some ⟨g, 0, none⟩)) (by kernel_rfl) (by kernel_rfl) ?_
  simp only [Act.put, List.setIfInBounds_toArray, List.set_cons_zero, List.set_cons_succ, List.getElem_toArray, List.getElem_cons_zero, List.getElem_cons_succ]
  refine list_call 59 #[P0 g] (by kernel_rfl) (by kernel_rfl) ((fone_ok g p n0 c 1 L u4 hG.rd (by omega) (by omega)).mono ?_)
  rintro r u5 ⟨rfl, hR1, hb1⟩
  replace hG := hG.read hR1 hb1
  clear hR1 hb1
  obtain ⟨x1, hx10⟩ : ∃ x, x = L.getD 1 0 := ⟨_, rfl⟩
  rw [← hx10]
  refine ⟨_, rfl, ?_⟩
  replace hx10 := hide hx10
  simp only [Act.put, List.setIfInBounds_toArray, List.set_cons_zero, List.set_cons_succ, List.getElem_toArray, List.getElem_cons_zero, List.getElem_cons_succ]
  refine list_val (.pointer (some ⟨q5, 0, none⟩)) (by kernel_rfl) (by kernel_rfl) ?_
  simp only [Act.put, List.setIfInBounds_toArray, List.set_cons_zero, List.set_cons_succ, List.getElem_toArray, List.getElem_cons_zero, List.getElem_cons_succ]
  have c4 := cell_of (hG.get 1 (x := ⟨q5, #[.int .i64 0, .int .i64 0, .int .u64 0, .slice none 0 0], 113⟩) rfl) (i := 0) rfl
  have fz := froz_of (i := 0) (hG.get 1 (x := ⟨q5, #[.int .i64 0, .int .i64 0, .int .u64 0, .slice none 0 0], 113⟩) rfl)
  have hG2 := hG.cell 1 (x := ⟨q5, #[.int .i64 0, .int .i64 0, .int .u64 0, .slice none 0 0], 113⟩) rfl 0 (.int .i64 x1)
  simp only [List.set_cons_zero, List.set_cons_succ] at hG2
  replace hG2 : Gt g w [⟨w.heap.size, #[.int .i64 0, .int .i64 0, .int .u64 0, .slice none 0 0], 113⟩, ⟨q5, #[.int .i64 x1, .int .i64 0, .int .u64 0, .slice none 0 0], 113⟩] p n0 c (1 + 1) L _ := hG2
  clear hG
  replace hG2 := hide hG2
  dsimp only at c4 fz
  (refine wpList_step fun K hK => ?_; replace hK := hide hK; go_simp; refine unhide hK _ _ ?_; clear hK K)
  clear c4 fz
  have hG := unhide hG2
  clear hG2
  generalize World.setCell _ _ _ = u6 at *
  refine wpList_nil ?_
  replace hG : Gt g w [⟨w.heap.size, #[.int .i64 0, .int .i64 0, .int .u64 0, .slice none 0 0], 113⟩, ⟨q5, #[.int .i64 x1, .int .i64 0, .int .u64 0, .slice none 0 0], 113⟩] p n0 c (2) L u6 := hG
  replace hG := hide hG
  go_upto_region 7 with fail
  replace hG := unhide hG
  refine wp_region_lit ?_
  refine list_val (.pointer (some ⟨g, 0, none⟩)) (by kernel_rfl) (by kernel_rfl) ?_
  simp only [Act.put, List.setIfInBounds_toArray, List.set_cons_zero, List.set_cons_succ, List.getElem_toArray, List.getElem_cons_zero, List.getElem_cons_succ]
  refine list_call 59 #[P0 g] (by kernel_rfl) (by kernel_rfl) ((fone_ok g p n0 c 2 L u6 hG.rd (by omega) (by omega)).mono ?_)
  rintro r u7 ⟨rfl, hR1, hb1⟩
  replace hG := hG.read hR1 hb1
  clear hR1 hb1
  obtain ⟨x2, hx20⟩ : ∃ x, x = L.getD 2 0 := ⟨_, rfl⟩
  rw [← hx20]
  refine ⟨_, rfl, ?_⟩
  replace hx20 := hide hx20
  simp only [Act.put, List.setIfInBounds_toArray, List.set_cons_zero, List.set_cons_succ, List.getElem_toArray, List.getElem_cons_zero, List.getElem_cons_succ]
  refine list_val (.pointer (some ⟨q5, 1, none⟩)) (by kernel_rfl) (by kernel_rfl) ?_
  simp only [Act.put, List.setIfInBounds_toArray, List.set_cons_zero, List.set_cons_succ, List.getElem_toArray, List.getElem_cons_zero, List.getElem_cons_succ]
  have c4 := cell_of (hG.get 1 (x := ⟨q5, #[.int .i64 x1, .int .i64 0, .int .u64 0, .slice none 0 0], 113⟩) rfl) (i := 1) rfl
  have fz := froz_of (i := 1) (hG.get 1 (x := ⟨q5, #[.int .i64 x1, .int .i64 0, .int .u64 0, .slice none 0 0], 113⟩) rfl)
  have hG2 := hG.cell 1 (x := ⟨q5, #[.int .i64 x1, .int .i64 0, .int .u64 0, .slice none 0 0], 113⟩) rfl 1 (.int .i64 x2)
  simp only [List.set_cons_zero, List.set_cons_succ] at hG2
  replace hG2 : Gt g w [⟨w.heap.size, #[.int .i64 0, .int .i64 0, .int .u64 0, .slice none 0 0], 113⟩, ⟨q5, #[.int .i64 x1, .int .i64 x2, .int .u64 0, .slice none 0 0], 113⟩] p n0 c (2 + 1) L _ := hG2
  clear hG
  replace hG2 := hide hG2
  dsimp only at c4 fz
  (refine wpList_step fun K hK => ?_; replace hK := hide hK; go_simp; refine unhide hK _ _ ?_; clear hK K)
  clear c4 fz
  have hG := unhide hG2
  clear hG2
  generalize World.setCell _ _ _ = u8 at *
  refine wpList_nil ?_
  replace hG : Gt g w [⟨w.heap.size, #[.int .i64 0, .int .i64 0, .int .u64 0, .slice none 0 0], 113⟩, ⟨q5, #[.int .i64 x1, .int .i64 x2, .int .u64 0, .slice none 0 0], 113⟩] p n0 c (3) L u8 := hG
  replace hG := hide hG
  go_upto_region 8 with fail
  replace hG := unhide hG
  refine wp_region_lit ?_
  refine list_val (.pointer (some ⟨g, 0, none⟩)) (by kernel_rfl) (by kernel_rfl) ?_
  simp only [Act.put, List.setIfInBounds_toArray, List.set_cons_zero, List.set_cons_succ, List.getElem_toArray, List.getElem_cons_zero, List.getElem_cons_succ]
  refine list_call 63 #[P0 g] (by kernel_rfl) (by kernel_rfl) ((ru64_ok g p n0 c 3 L u8 hG.rd (by omega) (by omega)).mono ?_)
  rintro r u9 ⟨rfl, hR1, hb1⟩
  replace hG := hG.read hR1 hb1
  clear hR1 hb1
  obtain ⟨x3, hx30⟩ : ∃ x, x = lowN ((L.drop 3).take 8) := ⟨_, rfl⟩
  rw [← hx30]
  refine ⟨_, rfl, ?_⟩
  replace hx30 := hide hx30
  simp only [Act.put, List.setIfInBounds_toArray, List.set_cons_zero, List.set_cons_succ, List.getElem_toArray, List.getElem_cons_zero, List.getElem_cons_succ]
  refine list_val (.pointer (some ⟨q5, 2, none⟩)) (by kernel_rfl) (by kernel_rfl) ?_
  simp only [Act.put, List.setIfInBounds_toArray, List.set_cons_zero, List.set_cons_succ, List.getElem_toArray, List.getElem_cons_zero, List.getElem_cons_succ]
  have c4 := cell_of (hG.get 1 (x := ⟨q5, #[.int .i64 x1, .int .i64 x2, .int .u64 0, .slice none 0 0], 113⟩) rfl) (i := 2) rfl
  have fz := froz_of (i := 2) (hG.get 1 (x := ⟨q5, #[.int .i64 x1, .int .i64 x2, .int .u64 0, .slice none 0 0], 113⟩) rfl)
  have hG2 := hG.cell 1 (x := ⟨q5, #[.int .i64 x1, .int .i64 x2, .int .u64 0, .slice none 0 0], 113⟩) rfl 2 (.int .u64 x3)
  simp only [List.set_cons_zero, List.set_cons_succ] at hG2
  replace hG2 : Gt g w [⟨w.heap.size, #[.int .i64 0, .int .i64 0, .int .u64 0, .slice none 0 0], 113⟩, ⟨q5, #[.int .i64 x1, .int .i64 x2, .int .u64 x3, .slice none 0 0], 113⟩] p n0 c (3 + 8) L _ := hG2
  clear hG
  replace hG2 := hide hG2
  dsimp only at c4 fz
  (refine wpList_step fun K hK => ?_; replace hK := hide hK; go_simp; refine unhide hK _ _ ?_; clear hK K)
  clear c4 fz
  have hG := unhide hG2
  clear hG2
  generalize World.setCell _ _ _ = u10 at *
  refine wpList_nil ?_
  replace hG : Gt g w [⟨w.heap.size, #[.int .i64 0, .int .i64 0, .int .u64 0, .slice none 0 0], 113⟩, ⟨q5, #[.int .i64 x1, .int .i64 x2, .int .u64 x3, .slice none 0 0], 113⟩] p n0 c (11) L u10 := hG
  replace hG := hide hG
  go_upto_region 9 with fail
  replace hG := unhide hG
  refine wp_region_lit ?_
  refine list_val (.pointer (some ⟨g, 0, none⟩)) (by kernel_rfl) (by kernel_rfl) ?_
  simp only [Act.put, List.setIfInBounds_toArray, List.set_cons_zero, List.set_cons_succ, List.getElem_toArray, List.getElem_cons_zero, List.getElem_cons_succ]
  refine list_val (.pointer (some ⟨g, 0, none⟩)) (by kernel_rfl) (by kernel_rfl) ?_
  simp only [Act.put, List.setIfInBounds_toArray, List.set_cons_zero, List.set_cons_succ, List.getElem_toArray, List.getElem_cons_zero, List.getElem_cons_succ]
  refine list_call 66 #[P0 g] (by kernel_rfl) (by kernel_rfl) ((rleft_ok g p n0 c 11 (by omega) (by omega) u10 hG.rd.cel).mono ?_)
  rintro r u11 ⟨rfl, hg1⟩
  replace hG := hG.more hg1
  clear hg1
  obtain ⟨m, hm⟩ : ∃ m, m = n0 - 11 := ⟨_, rfl⟩
  rw [← hm]
  have hm1 : 11 + m ≤ n0 := by omega
  have hm2 : n0 ≤ 11 + m := by omega
  clear hm
  refine ⟨_, rfl, ?_⟩
  simp only [Act.put, List.setIfInBounds_toArray, List.set_cons_zero, List.set_cons_succ, List.getElem_toArray, List.getElem_cons_zero, List.getElem_cons_succ]
  refine list_call 55 #[P0 g, .int .i64 (m : Int)] (by kernel_rfl) (by kernel_rfl) ((rraw_ok g p n0 c 11 m L u11 hG.rd (by omega) (by omega) (by omega)).mono ?_)
  rintro r u12 ⟨v, rfl, hO, hR1, hb1⟩
  rw [show (L.drop 11).take m = L.drop 11 from List.take_of_length_le (by rw [List.length_drop, hL]; omega)] at hO
  have hwo : w.heap.size ≤ u11.heap.size := (hG.gr hwg).size
  replace hO := hide (ob_base hO hwo)
  replace hG := hG.read hR1 hb1
  clear hR1 hb1 hwo
  obtain ⟨va, vc, rfl, _⟩ := ob_lb (unhide hO) (isB_drop (unhide hLb) 11) (n := m) (by rw [List.length_drop, hL]; omega)
  refine ⟨_, rfl, ?_⟩
  simp only [Act.put, List.setIfInBounds_toArray, List.set_cons_zero, List.set_cons_succ, List.getElem_toArray, List.getElem_cons_zero, List.getElem_cons_succ]
  refine list_val (.pointer (some ⟨q5, 3, none⟩)) (by kernel_rfl) (by kernel_rfl) ?_
  simp only [Act.put, List.setIfInBounds_toArray, List.set_cons_zero, List.set_cons_succ, List.getElem_toArray, List.getElem_cons_zero, List.getElem_cons_succ]
  have hbt := setCell_bt u12 q5 3 (.slice va m vc)
  have hq5 := (hG.get 1 (x := ⟨q5, #[.int .i64 x1, .int .i64 x2, .int .u64 x3, .slice none 0 0], 113⟩) rfl)
  dsimp only at hq5
  replace hO := hide (ob_bt (unhide hO) hq5 (by decide) hbt)
  clear hbt hq5
  have c4 := cell_of (hG.get 1 (x := ⟨q5, #[.int .i64 x1, .int .i64 x2, .int .u64 x3, .slice none 0 0], 113⟩) rfl) (i := 3) rfl
  have fz := froz_of (i := 3) (hG.get 1 (x := ⟨q5, #[.int .i64 x1, .int .i64 x2, .int .u64 x3, .slice none 0 0], 113⟩) rfl)
  have hG2 := hG.cell 1 (x := ⟨q5, #[.int .i64 x1, .int .i64 x2, .int .u64 x3, .slice none 0 0], 113⟩) rfl 3 (.slice va m vc)
  simp only [List.set_cons_zero, List.set_cons_succ] at hG2
  replace hG2 : Gt g w [⟨w.heap.size, #[.int .i64 0, .int .i64 0, .int .u64 0, .slice none 0 0], 113⟩, ⟨q5, #[.int .i64 x1, .int .i64 x2, .int .u64 x3, .slice va m vc], 113⟩] p n0 c (11 + m) L _ := hG2
  clear hG
  replace hG2 := hide hG2
  dsimp only at c4 fz
  (refine wpList_step fun K hK => ?_; replace hK := hide hK; go_simp; refine unhide hK _ _ ?_; clear hK K)
  clear c4 fz
  have hG := unhide hG2
  clear hG2
  generalize World.setCell _ _ _ = u13 at *
  refine wpList_nil ?_
  unfold pkE at hE
  rw [← unhide hx10, ← unhide hx20, ← unhide hx30] at hE
  rw [← unhide hf10] at hF
  obtain rfl : f1 = 2 := unhide hF
  replace hG := hide hG
  go_upto_region 10 with fail
  replace hG := unhide hG
  refine wp_region_lit ?_
  refine list_val (.int .i64 2) (by kernel_rfl) (by kernel_rfl) ?_
  simp only [Act.put, List.setIfInBounds_toArray, List.set_cons_zero, List.set_cons_succ, List.getElem_toArray, List.getElem_cons_zero, List.getElem_cons_succ]
  refine list_val (.int .i64 2) (by kernel_rfl) (by kernel_rfl) ?_
  simp only [Act.put, List.setIfInBounds_toArray, List.set_cons_zero, List.set_cons_succ, List.getElem_toArray, List.getElem_cons_zero, List.getElem_cons_succ]
  refine list_val (.bool false) (by kernel_rfl) (by kernel_rfl) ?_
  simp only [Act.put, List.setIfInBounds_toArray, List.set_cons_zero, List.set_cons_succ, List.getElem_toArray, List.getElem_cons_zero, List.getElem_cons_succ]
  refine list_val (.bool false) (by kernel_rfl) (by kernel_rfl) ?_
  simp only [Act.put, List.setIfInBounds_toArray, List.set_cons_zero, List.set_cons_succ, List.getElem_toArray, List.getElem_cons_zero, List.getElem_cons_succ]
  refine list_val (.agg #[.int .i64 x1, .int .i64 x2, .int .u64 x3, .slice va m vc]) (by kernel_rfl) (exec_arr _ 113 (.tmp 10) rfl q5 (by kernel_rfl) #[.int .i64 x1, .int .i64 x2, .int .u64 x3, .slice va m vc] 113 _ (hG.get 1 (x := ⟨q5, #[.int .i64 x1, .int .i64 x2, .int .u64 x3, .slice va m vc], 113⟩) rfl) Try.underlying113 rfl (by rw [Try.infoP]; rfl)) ?_
  simp only [Act.put, List.setIfInBounds_toArray, List.set_cons_zero, List.set_cons_succ, List.getElem_toArray, List.getElem_cons_zero, List.getElem_cons_succ]
  refine list_call 79 #[.agg #[.int .i64 x1, .int .i64 x2, .int .u64 x3, .slice va m vc]] (by kernel_rfl) (by kernel_rfl) ((fpm_ok x1 x2 x3 va m vc u13).mono ?_)
  rintro r_ u14 ⟨rfl, hg1⟩
  rw [unhide hE]
  replace hG := hG.more hg1
  replace hO := hide ((unhide hO).gr hg1)
  clear hg1
  refine ⟨_, rfl, ?_⟩
  simp only [Act.put, List.setIfInBounds_toArray, List.set_cons_zero, List.set_cons_succ, List.getElem_toArray, List.getElem_cons_zero, List.getElem_cons_succ]
  refine list_val (.bool false) (by kernel_rfl) (by kernel_rfl) ?_
  simp only [Act.put, List.setIfInBounds_toArray, List.set_cons_zero, List.set_cons_succ, List.getElem_toArray, List.getElem_cons_zero, List.getElem_cons_succ]
  refine list_val (.bool false) (by kernel_rfl) (by kernel_rfl) ?_
  simp only [Act.put, List.setIfInBounds_toArray, List.set_cons_zero, List.set_cons_succ, List.getElem_toArray, List.getElem_cons_zero, List.getElem_cons_succ]
  refine wpList_nil ?_
  replace hG := hide hG
  go_upto_region 12 with fail
  replace hG := unhide hG
  refine wp_region_lit ?_
  refine list_val (.agg #[.int .i64 x1, .int .i64 x2, .int .u64 x3, .slice va m vc]) (by kernel_rfl) (exec_arr _ 113 (.tmp 10) rfl q5 (by kernel_rfl) #[.int .i64 x1, .int .i64 x2, .int .u64 x3, .slice va m vc] 113 _ (hG.get 1 (x := ⟨q5, #[.int .i64 x1, .int .i64 x2, .int .u64 x3, .slice va m vc], 113⟩) rfl) Try.underlying113 rfl (by rw [Try.infoP]; rfl)) ?_
  simp only [Act.put, List.setIfInBounds_toArray, List.set_cons_zero, List.set_cons_succ, List.getElem_toArray, List.getElem_cons_zero, List.getElem_cons_succ]
  refine list_store 113 (.tmp 6) (.tmp 45) (w.heap.size) #[.int .i64 x1, .int .i64 x2, .int .u64 x3, .slice va m vc] 113 #[.int .i64 0, .int .i64 0, .int .u64 0, .slice none 0 0] (by kernel_rfl) rfl (by kernel_rfl) (by kernel_rfl) (hG.get 0 (x := ⟨w.heap.size, #[.int .i64 0, .int .i64 0, .int .u64 0, .slice none 0 0], 113⟩) rfl) (by rw [Try.infoP]; rfl) rfl (by simp [Value.oneCell']) ?_
  have hbt := setRow_bt u14 (w.heap.size) #[.int .i64 x1, .int .i64 x2, .int .u64 x3, .slice va m vc]
  have hq5 := (hG.get 0 (x := ⟨w.heap.size, #[.int .i64 0, .int .i64 0, .int .u64 0, .slice none 0 0], 113⟩) rfl)
  dsimp only at hq5
  replace hO := hide (ob_bt (unhide hO) hq5 (by decide) hbt)
  clear hbt hq5
  replace hG := hG.set 0 (x := ⟨w.heap.size, #[.int .i64 0, .int .i64 0, .int .u64 0, .slice none 0 0], 113⟩) rfl #[.int .i64 x1, .int .i64 x2, .int .u64 x3, .slice va m vc]
  simp only [List.set_cons_zero, List.set_cons_succ] at hG
  generalize World.setRow _ _ _ = u15 at *
  replace hG : Gt g w [⟨w.heap.size, #[.int .i64 x1, .int .i64 x2, .int .u64 x3, .slice va m vc], 113⟩, ⟨q5, #[.int .i64 x1, .int .i64 x2, .int .u64 x3, .slice va m vc], 113⟩] p n0 c (11 + m) L u15 := hG
  simp only [Act.put, List.setIfInBounds_toArray, List.set_cons_zero, List.set_cons_succ, List.getElem_toArray, List.getElem_cons_zero, List.getElem_cons_succ]
  (refine wpList_step fun K hK => ?_; replace hK := hide hK; go_simp; refine unhide hK _ _ ?_; clear hK K)
  refine wpList_nil ?_
  have hbk : Hid (u15.heap[w.heap.size]? = some (.cells #[.int .i64 x1, .int .i64 x2, .int .u64 x3, .slice va m vc] 113 (0, 0))) := (hG.get 0 (x := ⟨w.heap.size, #[.int .i64 x1, .int .i64 x2, .int .u64 x3, .slice va m vc], 113⟩) rfl)
  have hP : Hid (T (.returned (.tuple #[.agg #[.int .i64 x1, .int .i64 x2, .int .u64 x3, .slice va m vc], .int .i64 0])) u15) := by
    rw [unhide hT]
    refine ⟨.slice va m vc, ?_, unhide hO, hG.gr hwg⟩
    unfold pkv
    rw [unhide hx10, unhide hx20, unhide hx30]
  clear hG
  go_wp2_with fail
  exact bodyPost_ret (v := .tuple #[.agg #[.int .i64 x1, .int .i64 x2, .int .u64 x3, .slice va m vc], .int .i64 0]) (results_cell_tmp Try.results69 _ _ (w.heap.size) 113 #[.int .i64 x1, .int .i64 x2, .int .u64 x3, .slice va m vc] (0, 0) _ rfl (.int .i64 0) rfl (unhide hbk) Try.underlying113 rfl (by rw [Try.infoP]; rfl)) rfl (unhide hP)
set_option maxHeartbeats 4000000 in
theorem pof_up_bad (L : List Int) (a : Option Addr) (n0 c0 : Nat) (hS : onS ((n0 : Int) - 11) = true) (hF : L.getD 0 0 ≠ 2 ∨ pkE L = false) (w : World) (hB0 : Lb w a n0 c0 L) : Calls Try.prog 69 #[.slice a n0 c0, .int .i64 2, .func (.func 48) #[] #[]] w (Rno #[.int .i64 0, .int .i64 0, .int .u64 0, .slice none 0 0] 241 w) := by
  obtain ⟨T, hT⟩ : ∃ T, T = Rno #[.int .i64 0, .int .i64 0, .int .u64 0, .slice none 0 0] 241 w := ⟨_, rfl⟩
  rw [← hT]
  replace hT := hide hT
  have hn0 : 12 ≤ n0 ∧ n0 ≤ 301 := by unfold onS at hS; rw [decide_eq_true_iff] at hS; omega
  obtain ⟨p0, q0, rfl, hB0⟩ := hB0.some (by omega)
  obtain ⟨x, hx⟩ : ∃ x : Int, x = (n0 : Int) - 11 := ⟨_, rfl⟩
  have hw1 : IntKind.i64.wrap ((n0 : Int) - 11) = x := by rw [IntKind.wrap_i64]; omega
  rw [← hx] at hS
  clear hx
  have hL := hB0.len
  have hLb := hide hB0.isB
  replace hB0 := hide hB0; replace hF := hide hF
  go_enter Try.func69, Try.ntmps69
  go_upto_region 1 with fail
  have hB := ((Bl.nil w).new #[.int .i64 0, .int .i64 0, .int .u64 0, .slice none 0 0] 113)
  simp only [size_alloc, List.nil_append, List.cons_append] at hB
  generalize World.alloc _ _ = u at *
  replace hB : Bl w [⟨w.heap.size, #[.int .i64 0, .int .i64 0, .int .u64 0, .slice none 0 0], 113⟩] u := hB
  refine wp_region_lit ?_
  refine list_val (.func (.func 48) #[] #[]) (by kernel_rfl) (by kernel_rfl) ?_
  simp only [Act.put, List.setIfInBounds_toArray, List.set_cons_zero, List.set_cons_succ, List.getElem_toArray, List.getElem_cons_zero, List.getElem_cons_succ]
  refine list_val (.slice (some ⟨p0, q0, none⟩) n0 c0) (by kernel_rfl) (by kernel_rfl) ?_
  simp only [Act.put, List.setIfInBounds_toArray, List.set_cons_zero, List.set_cons_succ, List.getElem_toArray, List.getElem_cons_zero, List.getElem_cons_succ]
  refine list_val (.int .i64 n0) (by kernel_rfl) (by kernel_rfl) ?_
  simp only [Act.put, List.setIfInBounds_toArray, List.set_cons_zero, List.set_cons_succ, List.getElem_toArray, List.getElem_cons_zero, List.getElem_cons_succ]
  refine list_val (.int .i64 x) (by kernel_rfl) (by go_simp) ?_
  simp only [Act.put, List.setIfInBounds_toArray, List.set_cons_zero, List.set_cons_succ, List.getElem_toArray, List.getElem_cons_zero, List.getElem_cons_succ]
  refine list_call 80 #[.func (.func 48) #[] #[], .int .i64 x] (by kernel_rfl) (by kernel_rfl) ((some_on x u).mono ?_)
  rintro r_ u1 ⟨rfl, hg1⟩
  rw [hS]
  replace hB := hB.more hg1
  clear hg1
  refine ⟨_, rfl, ?_⟩
  simp only [Act.put, List.setIfInBounds_toArray, List.set_cons_zero, List.set_cons_succ, List.getElem_toArray, List.getElem_cons_zero, List.getElem_cons_succ]
  refine list_val (.bool false) (by kernel_rfl) (by kernel_rfl) ?_
  simp only [Act.put, List.setIfInBounds_toArray, List.set_cons_zero, List.set_cons_succ, List.getElem_toArray, List.getElem_cons_zero, List.getElem_cons_succ]
  refine wpList_nil ?_
  clear hw1
  replace hB := hide hB
  go_upto_region 3 with fail
  replace hB := unhide hB
  refine wp_region_lit ?_
  refine list_val (.slice (some ⟨p0, q0, none⟩) n0 c0) (by kernel_rfl) (by kernel_rfl) ?_
  simp only [Act.put, List.setIfInBounds_toArray, List.set_cons_zero, List.set_cons_succ, List.getElem_toArray, List.getElem_cons_zero, List.getElem_cons_succ]
  refine list_call 54 #[.slice (some ⟨p0, q0, none⟩) n0 c0] (by kernel_rfl) (by kernel_rfl) ((oreadt_ok L p0 q0 n0 c0 u1 ((unhide hB0).gr hB.gr) (by omega) (by omega)).mono ?_)
  rintro r u2 ⟨g, p, c, rfl, hgg, hpp, hrd, hty, hgr⟩
  rw [hL] at hrd
  have hG : Gt g w [⟨w.heap.size, #[.int .i64 0, .int .i64 0, .int .u64 0, .slice none 0 0], 113⟩] p n0 c 0 L u2 := hB.gt hgr hgg hpp hrd hty (by intro y hy; rw [List.mem_singleton.1 hy]; exact ⟨(by decide : (113 : TypeId) ≠ 126), (by decide : (113 : TypeId) ≠ 5)⟩)
  have hwg : w.heap.size ≤ g := Nat.le_trans hB.gr.size hgg
  clear hB hgr hgg hpp hrd hty
  refine ⟨_, rfl, ?_⟩
  simp only [Act.put, List.setIfInBounds_toArray, List.set_cons_zero, List.set_cons_succ, List.getElem_toArray, List.getElem_cons_zero, List.getElem_cons_succ]
  (refine wpList_step fun K hK => ?_; replace hK := hide hK; go_simp; refine unhide hK _ _ ?_; clear hK K)
  refine wpList_nil ?_
  replace hG := hide hG
  go_upto_region 4 with fail
  replace hG := unhide hG
  refine wp_region_lit ?_
  refine list_val (.pointer (some ⟨g, 0, none⟩)) (by kernel_rfl) (by kernel_rfl) ?_
  simp only [Act.put, List.setIfInBounds_toArray, List.set_cons_zero, List.set_cons_succ, List.getElem_toArray, List.getElem_cons_zero, List.getElem_cons_succ]
  refine list_call 59 #[P0 g] (by kernel_rfl) (by kernel_rfl) ((fone_ok g p n0 c 0 L u2 hG.rd (by omega) (by omega)).mono ?_)
  rintro r u3 ⟨rfl, hR1, hb1⟩
  replace hG := hG.read hR1 hb1
  clear hR1 hb1
  obtain ⟨f1, hf10⟩ : ∃ x, x = L.getD 0 0 := ⟨_, rfl⟩
  rw [← hf10]
  refine ⟨_, rfl, ?_⟩
  replace hf10 := hide hf10
  simp only [Act.put, List.setIfInBounds_toArray, List.set_cons_zero, List.set_cons_succ, List.getElem_toArray, List.getElem_cons_zero, List.getElem_cons_succ]
  (refine wpList_step fun K hK => ?_; replace hK := hide hK; go_simp; refine unhide hK _ _ ?_; clear hK K)
  refine wpList_nil ?_
  replace hG := hide hG
  go_upto_region 5 with fail
  replace hG := unhide hG
  refine wp_region_lit ?_
  refine list_valw (.pointer (some ⟨u3.heap.size, 0, none⟩)) (u3.alloc (.cells #[.int .i64 0, .int .i64 0, .int .u64 0, .slice none 0 0] 113 (0, 0))) (by kernel_rfl) (by kernel_rfl) ?_
  replace hG := hG.new #[.int .i64 0, .int .i64 0, .int .u64 0, .slice none 0 0] 113 ⟨by decide, by decide⟩
  simp only [List.nil_append, List.cons_append] at hG
  generalize World.alloc _ _ = u4 at *
  generalize u3.heap.size = q5 at *
  replace hG : Gt g w [⟨w.heap.size, #[.int .i64 0, .int .i64 0, .int .u64 0, .slice none 0 0], 113⟩, ⟨q5, #[.int .i64 0, .int .i64 0, .int .u64 0, .slice none 0 0], 113⟩] p n0 c (0 + 1) L u4 := hG
  simp only [Act.put, List.setIfInBounds_toArray, List.set_cons_zero, List.set_cons_succ, List.getElem_toArray, List.getElem_cons_zero, List.getElem_cons_succ]
  refine wpList_nil ?_
  replace hG : Gt g w [⟨w.heap.size, #[.int .i64 0, .int .i64 0, .int .u64 0, .slice none 0 0], 113⟩, ⟨q5, #[.int .i64 0, .int .i64 0, .int .u64 0, .slice none 0 0], 113⟩] p n0 c (1) L u4 := hG
  replace hG := hide hG
  go_upto_region 6 with fail
  replace hG := unhide hG
  refine wp_region_lit ?_
  refine list_val (.pointer (some ⟨g, 0, none⟩)) (by kernel_rfl) (by kernel_rfl) ?_
  simp only [Act.put, List.setIfInBounds_toArray, List.set_cons_zero, List.set_cons_succ, List.getElem_toArray, List.getElem_cons_zero, List.getElem_cons_succ]
  refine list_call 59 #[P0 g] (by kernel_rfl) (by kernel_rfl) ((fone_ok g p n0 c 1 L u4 hG.rd (by omega) (by omega)).mono ?_)
  rintro r u5 ⟨rfl, hR1, hb1⟩
  replace hG := hG.read hR1 hb1
  clear hR1 hb1
  obtain ⟨x1, hx10⟩ : ∃ x, x = L.getD 1 0 := ⟨_, rfl⟩
  rw [← hx10]
  refine ⟨_, rfl, ?_⟩
  replace hx10 := hide hx10
  simp only [Act.put, List.setIfInBounds_toArray, List.set_cons_zero, List.set_cons_succ, List.getElem_toArray, List.getElem_cons_zero, List.getElem_cons_succ]
  refine list_val (.pointer (some ⟨q5, 0, none⟩)) (by kernel_rfl) (by kernel_rfl) ?_
  simp only [Act.put, List.setIfInBounds_toArray, List.set_cons_zero, List.set_cons_succ, List.getElem_toArray, List.getElem_cons_zero, List.getElem_cons_succ]
  have c4 := cell_of (hG.get 1 (x := ⟨q5, #[.int .i64 0, .int .i64 0, .int .u64 0, .slice none 0 0], 113⟩) rfl) (i := 0) rfl
  have fz := froz_of (i := 0) (hG.get 1 (x := ⟨q5, #[.int .i64 0, .int .i64 0, .int .u64 0, .slice none 0 0], 113⟩) rfl)
  have hG2 := hG.cell 1 (x := ⟨q5, #[.int .i64 0, .int .i64 0, .int .u64 0, .slice none 0 0], 113⟩) rfl 0 (.int .i64 x1)
  simp only [List.set_cons_zero, List.set_cons_succ] at hG2
  replace hG2 : Gt g w [⟨w.heap.size, #[.int .i64 0, .int .i64 0, .int .u64 0, .slice none 0 0], 113⟩, ⟨q5, #[.int .i64 x1, .int .i64 0, .int .u64 0, .slice none 0 0], 113⟩] p n0 c (1 + 1) L _ := hG2
  clear hG
  replace hG2 := hide hG2
  dsimp only at c4 fz
  (refine wpList_step fun K hK => ?_; replace hK := hide hK; go_simp; refine unhide hK _ _ ?_; clear hK K)
  clear c4 fz
  have hG := unhide hG2
  clear hG2
  generalize World.setCell _ _ _ = u6 at *
  refine wpList_nil ?_
  replace hG : Gt g w [⟨w.heap.size, #[.int .i64 0, .int .i64 0, .int .u64 0, .slice none 0 0], 113⟩, ⟨q5, #[.int .i64 x1, .int .i64 0, .int .u64 0, .slice none 0 0], 113⟩] p n0 c (2) L u6 := hG
  replace hG := hide hG
  go_upto_region 7 with fail
  replace hG := unhide hG
  refine wp_region_lit ?_
  refine list_val (.pointer (some ⟨g, 0, none⟩)) (by kernel_rfl) (by kernel_rfl) ?_
  simp only [Act.put, List.setIfInBounds_toArray, List.set_cons_zero, List.set_cons_succ, List.getElem_toArray, List.getElem_cons_zero, List.getElem_cons_succ]
  refine list_call 59 #[P0 g] (by kernel_rfl) (by kernel_rfl) ((fone_ok g p n0 c 2 L u6 hG.rd (by omega) (by omega)).mono ?_)
  rintro r u7 ⟨rfl, hR1, hb1⟩
  replace hG := hG.read hR1 hb1
  clear hR1 hb1
  obtain ⟨x2, hx20⟩ : ∃ x, x = L.getD 2 0 := ⟨_, rfl⟩
  rw [← hx20]
  refine ⟨_, rfl, ?_⟩
  replace hx20 := hide hx20
  simp only [Act.put, List.setIfInBounds_toArray, List.set_cons_zero, List.set_cons_succ, List.getElem_toArray, List.getElem_cons_zero, List.getElem_cons_succ]
  refine list_val (.pointer (some ⟨q5, 1, none⟩)) (by kernel_rfl) (by kernel_rfl) ?_
  simp only [Act.put, List.setIfInBounds_toArray, List.set_cons_zero, List.set_cons_succ, List.getElem_toArray, List.getElem_cons_zero, List.getElem_cons_succ]
  have c4 := cell_of (hG.get 1 (x := ⟨q5, #[.int .i64 x1, .int .i64 0, .int .u64 0, .slice none 0 0], 113⟩) rfl) (i := 1) rfl
  have fz := froz_of (i := 1) (hG.get 1 (x := ⟨q5, #[.int .i64 x1, .int .i64 0, .int .u64 0, .slice none 0 0], 113⟩) rfl)
  have hG2 := hG.cell 1 (x := ⟨q5, #[.int .i64 x1, .int .i64 0, .int .u64 0, .slice none 0 0], 113⟩) rfl 1 (.int .i64 x2)
  simp only [List.set_cons_zero, List.set_cons_succ] at hG2
  replace hG2 : Gt g w [⟨w.heap.size, #[.int .i64 0, .int .i64 0, .int .u64 0, .slice none 0 0], 113⟩, ⟨q5, #[.int .i64 x1, .int .i64 x2, .int .u64 0, .slice none 0 0], 113⟩] p n0 c (2 + 1) L _ := hG2
  clear hG
  replace hG2 := hide hG2
  dsimp only at c4 fz
  (refine wpList_step fun K hK => ?_; replace hK := hide hK; go_simp; refine unhide hK _ _ ?_; clear hK K)
  clear c4 fz
  have hG := unhide hG2
  clear hG2
  generalize World.setCell _ _ _ = u8 at *
  refine wpList_nil ?_
  replace hG : Gt g w [⟨w.heap.size, #[.int .i64 0, .int .i64 0, .int .u64 0, .slice none 0 0], 113⟩, ⟨q5, #[.int .i64 x1, .int .i64 x2, .int .u64 0, .slice none 0 0], 113⟩] p n0 c (3) L u8 := hG
  replace hG := hide hG
  go_upto_region 8 with fail
  replace hG := unhide hG
  refine wp_region_lit ?_
  refine list_val (.pointer (some ⟨g, 0, none⟩)) (by kernel_rfl) (by kernel_rfl) ?_
  simp only [Act.put, List.setIfInBounds_toArray, List.set_cons_zero, List.set_cons_succ, List.getElem_toArray, List.getElem_cons_zero, List.getElem_cons_succ]
  refine list_call 63 #[P0 g] (by kernel_rfl) (by kernel_rfl) ((ru64_ok g p n0 c 3 L u8 hG.rd (by omega) (by omega)).mono ?_)
  rintro r u9 ⟨rfl, hR1, hb1⟩
  replace hG := hG.read hR1 hb1
  clear hR1 hb1
  obtain ⟨x3, hx30⟩ : ∃ x, x = lowN ((L.drop 3).take 8) := ⟨_, rfl⟩
  rw [← hx30]
  refine ⟨_, rfl, ?_⟩
  replace hx30 := hide hx30
  simp only [Act.put, List.setIfInBounds_toArray, List.set_cons_zero, List.set_cons_succ, List.getElem_toArray, List.getElem_cons_zero, List.getElem_cons_succ]
  refine list_val (.pointer (some ⟨q5, 2, none⟩)) (by kernel_rfl) (by kernel_rfl) ?_
  simp only [Act.put, List.setIfInBounds_toArray, List.set_cons_zero, List.set_cons_succ, List.getElem_toArray, List.getElem_cons_zero, List.getElem_cons_succ]
  have c4 := cell_of (hG.get 1 (x := ⟨q5, #[.int .i64 x1, .int .i64 x2, .int .u64 0, .slice none 0 0], 113⟩) rfl) (i := 2) rfl
  have fz := froz_of (i := 2) (hG.get 1 (x := ⟨q5, #[.int .i64 x1, .int .i64 x2, .int .u64 0, .slice none 0 0], 113⟩) rfl)
  have hG2 := hG.cell 1 (x := ⟨q5, #[.int .i64 x1, .int .i64 x2, .int .u64 0, .slice none 0 0], 113⟩) rfl 2 (.int .u64 x3)
  simp only [List.set_cons_zero, List.set_cons_succ] at hG2
  replace hG2 : Gt g w [⟨w.heap.size, #[.int .i64 0, .int .i64 0, .int .u64 0, .slice none 0 0], 113⟩, ⟨q5, #[.int .i64 x1, .int .i64 x2, .int .u64 x3, .slice none 0 0], 113⟩] p n0 c (3 + 8) L _ := hG2
  clear hG
  replace hG2 := hide hG2
  dsimp only at c4 fz
  (refine wpList_step fun K hK => ?_; replace hK := hide hK; go_simp; refine unhide hK _ _ ?_; clear hK K)
  clear c4 fz
  have hG := unhide hG2
  clear hG2
  generalize World.setCell _ _ _ = u10 at *
  refine wpList_nil ?_
  replace hG : Gt g w [⟨w.heap.size, #[.int .i64 0, .int .i64 0, .int .u64 0, .slice none 0 0], 113⟩, ⟨q5, #[.int .i64 x1, .int .i64 x2, .int .u64 x3, .slice none 0 0], 113⟩] p n0 c (11) L u10 := hG
  replace hG := hide hG
  go_upto_region 9 with fail
  replace hG := unhide hG
  refine wp_region_lit ?_
  refine list_val (.pointer (some ⟨g, 0, none⟩)) (by kernel_rfl) (by kernel_rfl) ?_
  simp only [Act.put, List.setIfInBounds_toArray, List.set_cons_zero, List.set_cons_succ, List.getElem_toArray, List.getElem_cons_zero, List.getElem_cons_succ]
  refine list_val (.pointer (some ⟨g, 0, none⟩)) (by kernel_rfl) (by kernel_rfl) ?_
  simp only [Act.put, List.setIfInBounds_toArray, List.set_cons_zero, List.set_cons_succ, List.getElem_toArray, List.getElem_cons_zero, List.getElem_cons_succ]
  refine list_call 66 #[P0 g] (by kernel_rfl) (by kernel_rfl) ((rleft_ok g p n0 c 11 (by omega) (by omega) u10 hG.rd.cel).mono ?_)
  rintro r u11 ⟨rfl, hg1⟩
  replace hG := hG.more hg1
  clear hg1
  obtain ⟨m, hm⟩ : ∃ m, m = n0 - 11 := ⟨_, rfl⟩
  rw [← hm]
  have hm1 : 11 + m ≤ n0 := by omega
  have hm2 : n0 ≤ 11 + m := by omega
  clear hm
  refine ⟨_, rfl, ?_⟩
  simp only [Act.put, List.setIfInBounds_toArray, List.set_cons_zero, List.set_cons_succ, List.getElem_toArray, List.getElem_cons_zero, List.getElem_cons_succ]
  refine list_call 55 #[P0 g, .int .i64 (m : Int)] (by kernel_rfl) (by kernel_rfl) ((rraw_ok g p n0 c 11 m L u11 hG.rd (by omega) (by omega) (by omega)).mono ?_)
  rintro r u12 ⟨v, rfl, hO, hR1, hb1⟩
  rw [show (L.drop 11).take m = L.drop 11 from List.take_of_length_le (by rw [List.length_drop, hL]; omega)] at hO
  have hwo : w.heap.size ≤ u11.heap.size := (hG.gr hwg).size
  replace hO := hide (ob_base hO hwo)
  replace hG := hG.read hR1 hb1
  clear hR1 hb1 hwo
  obtain ⟨va, vc, rfl, _⟩ := ob_lb (unhide hO) (isB_drop (unhide hLb) 11) (n := m) (by rw [List.length_drop, hL]; omega)
  refine ⟨_, rfl, ?_⟩
  simp only [Act.put, List.setIfInBounds_toArray, List.set_cons_zero, List.set_cons_succ, List.getElem_toArray, List.getElem_cons_zero, List.getElem_cons_succ]
  refine list_val (.pointer (some ⟨q5, 3, none⟩)) (by kernel_rfl) (by kernel_rfl) ?_
  simp only [Act.put, List.setIfInBounds_toArray, List.set_cons_zero, List.set_cons_succ, List.getElem_toArray, List.getElem_cons_zero, List.getElem_cons_succ]
  have hbt := setCell_bt u12 q5 3 (.slice va m vc)
  have hq5 := (hG.get 1 (x := ⟨q5, #[.int .i64 x1, .int .i64 x2, .int .u64 x3, .slice none 0 0], 113⟩) rfl)
  dsimp only at hq5
  replace hO := hide (ob_bt (unhide hO) hq5 (by decide) hbt)
  clear hbt hq5
  have c4 := cell_of (hG.get 1 (x := ⟨q5, #[.int .i64 x1, .int .i64 x2, .int .u64 x3, .slice none 0 0], 113⟩) rfl) (i := 3) rfl
  have fz := froz_of (i := 3) (hG.get 1 (x := ⟨q5, #[.int .i64 x1, .int .i64 x2, .int .u64 x3, .slice none 0 0], 113⟩) rfl)
  have hG2 := hG.cell 1 (x := ⟨q5, #[.int .i64 x1, .int .i64 x2, .int .u64 x3, .slice none 0 0], 113⟩) rfl 3 (.slice va m vc)
  simp only [List.set_cons_zero, List.set_cons_succ] at hG2
  replace hG2 : Gt g w [⟨w.heap.size, #[.int .i64 0, .int .i64 0, .int .u64 0, .slice none 0 0], 113⟩, ⟨q5, #[.int .i64 x1, .int .i64 x2, .int .u64 x3, .slice va m vc], 113⟩] p n0 c (11 + m) L _ := hG2
  clear hG
  replace hG2 := hide hG2
  dsimp only at c4 fz
  (refine wpList_step fun K hK => ?_; replace hK := hide hK; go_simp; refine unhide hK _ _ ?_; clear hK K)
  clear c4 fz
  have hG := unhide hG2
  clear hG2
  generalize World.setCell _ _ _ = u13 at *
  refine wpList_nil ?_
  unfold pkE at hF
  rw [← unhide hx10, ← unhide hx20, ← unhide hx30, ← unhide hf10] at hF
  by_cases hf : f1 = 2
  · skip
    have hE := (unhide hF).resolve_left (fun e => e hf)
    subst hf
    replace hG := hide hG
    go_upto_region 10 with fail
    replace hG := unhide hG
    refine wp_region_lit ?_
    refine list_val (.int .i64 2) (by kernel_rfl) (by kernel_rfl) ?_
    simp only [Act.put, List.setIfInBounds_toArray, List.set_cons_zero, List.set_cons_succ, List.getElem_toArray, List.getElem_cons_zero, List.getElem_cons_succ]
    refine list_val (.int .i64 2) (by kernel_rfl) (by kernel_rfl) ?_
    simp only [Act.put, List.setIfInBounds_toArray, List.set_cons_zero, List.set_cons_succ, List.getElem_toArray, List.getElem_cons_zero, List.getElem_cons_succ]
    refine list_val (.bool false) (by kernel_rfl) (by kernel_rfl) ?_
    simp only [Act.put, List.setIfInBounds_toArray, List.set_cons_zero, List.set_cons_succ, List.getElem_toArray, List.getElem_cons_zero, List.getElem_cons_succ]
    refine list_val (.bool false) (by kernel_rfl) (by kernel_rfl) ?_
    simp only [Act.put, List.setIfInBounds_toArray, List.set_cons_zero, List.set_cons_succ, List.getElem_toArray, List.getElem_cons_zero, List.getElem_cons_succ]
    refine list_val (.agg #[.int .i64 x1, .int .i64 x2, .int .u64 x3, .slice va m vc]) (by kernel_rfl) (exec_arr _ 113 (.tmp 10) rfl q5 (by kernel_rfl) #[.int .i64 x1, .int .i64 x2, .int .u64 x3, .slice va m vc] 113 _ (hG.get 1 (x := ⟨q5, #[.int .i64 x1, .int .i64 x2, .int .u64 x3, .slice va m vc], 113⟩) rfl) Try.underlying113 rfl (by rw [Try.infoP]; rfl)) ?_
    simp only [Act.put, List.setIfInBounds_toArray, List.set_cons_zero, List.set_cons_succ, List.getElem_toArray, List.getElem_cons_zero, List.getElem_cons_succ]
    refine list_call 79 #[.agg #[.int .i64 x1, .int .i64 x2, .int .u64 x3, .slice va m vc]] (by kernel_rfl) (by kernel_rfl) ((fpm_ok x1 x2 x3 va m vc u13).mono ?_)
    rintro r_ u14 ⟨rfl, hg1⟩
    rw [hE]
    replace hG := hG.more hg1
    replace hO := hide ((unhide hO).gr hg1)
    clear hg1
    refine ⟨_, rfl, ?_⟩
    simp only [Act.put, List.setIfInBounds_toArray, List.set_cons_zero, List.set_cons_succ, List.getElem_toArray, List.getElem_cons_zero, List.getElem_cons_succ]
    refine list_val (.bool true) (by kernel_rfl) (by kernel_rfl) ?_
    simp only [Act.put, List.setIfInBounds_toArray, List.set_cons_zero, List.set_cons_succ, List.getElem_toArray, List.getElem_cons_zero, List.getElem_cons_succ]
    refine list_val (.bool true) (by kernel_rfl) (by kernel_rfl) ?_
    simp only [Act.put, List.setIfInBounds_toArray, List.set_cons_zero, List.set_cons_succ, List.getElem_toArray, List.getElem_cons_zero, List.getElem_cons_succ]
    refine wpList_nil ?_
    replace hG := hide hG
    go_upto_region 11 with fail
    replace hG := unhide hG
    refine wp_region_lit ?_
    refine list_val (.agg #[.int .i64 0, .int .i64 0, .int .u64 0, .slice none 0 0]) (by kernel_rfl) (by kernel_rfl) ?_
    simp only [Act.put, List.setIfInBounds_toArray, List.set_cons_zero, List.set_cons_succ, List.getElem_toArray, List.getElem_cons_zero, List.getElem_cons_succ]
    refine list_store 113 (.tmp 6) (.tmp 44) (w.heap.size) #[.int .i64 0, .int .i64 0, .int .u64 0, .slice none 0 0] 113 #[.int .i64 0, .int .i64 0, .int .u64 0, .slice none 0 0] (by kernel_rfl) rfl (by kernel_rfl) (by kernel_rfl) (hG.get 0 (x := ⟨w.heap.size, #[.int .i64 0, .int .i64 0, .int .u64 0, .slice none 0 0], 113⟩) rfl) (by rw [Try.infoP]; rfl) rfl (by simp [Value.oneCell']) ?_
    have hbt := setRow_bt u14 (w.heap.size) #[.int .i64 0, .int .i64 0, .int .u64 0, .slice none 0 0]
    have hq5 := (hG.get 0 (x := ⟨w.heap.size, #[.int .i64 0, .int .i64 0, .int .u64 0, .slice none 0 0], 113⟩) rfl)
    dsimp only at hq5
    replace hO := hide (ob_bt (unhide hO) hq5 (by decide) hbt)
    clear hbt hq5
    replace hG := hG.set 0 (x := ⟨w.heap.size, #[.int .i64 0, .int .i64 0, .int .u64 0, .slice none 0 0], 113⟩) rfl #[.int .i64 0, .int .i64 0, .int .u64 0, .slice none 0 0]
    simp only [List.set_cons_zero, List.set_cons_succ] at hG
    generalize World.setRow _ _ _ = u15 at *
    replace hG : Gt g w [⟨w.heap.size, #[.int .i64 0, .int .i64 0, .int .u64 0, .slice none 0 0], 113⟩, ⟨q5, #[.int .i64 x1, .int .i64 x2, .int .u64 x3, .slice va m vc], 113⟩] p n0 c (11 + m) L u15 := hG
    simp only [Act.put, List.setIfInBounds_toArray, List.set_cons_zero, List.set_cons_succ, List.getElem_toArray, List.getElem_cons_zero, List.getElem_cons_succ]
    (refine wpList_step fun K hK => ?_; replace hK := hide hK; go_simp; refine unhide hK _ _ ?_; clear hK K)
    refine wpList_nil ?_
    have hbk : Hid (u15.heap[w.heap.size]? = some (.cells #[.int .i64 0, .int .i64 0, .int .u64 0, .slice none 0 0] 113 (0, 0))) := (hG.get 0 (x := ⟨w.heap.size, #[.int .i64 0, .int .i64 0, .int .u64 0, .slice none 0 0], 113⟩) rfl)
    have hP : Hid (T (.returned (.tuple #[.agg #[.int .i64 0, .int .i64 0, .int .u64 0, .slice none 0 0], .int .i64 241])) u15) := by
      rw [unhide hT]
      exact ⟨rfl, hG.gr hwg⟩
    clear hG
    go_wp2_with fail
    exact bodyPost_ret (v := .tuple #[.agg #[.int .i64 0, .int .i64 0, .int .u64 0, .slice none 0 0], .int .i64 241]) (results_cell_tmp Try.results69 _ _ (w.heap.size) 113 #[.int .i64 0, .int .i64 0, .int .u64 0, .slice none 0 0] (0, 0) _ rfl (.int .i64 241) rfl (unhide hbk) Try.underlying113 rfl (by rw [Try.infoP]; rfl)) rfl (unhide hP)
  · skip
    replace hG := hide hG
    go_upto_region 10 with fail
    replace hG := unhide hG
    refine wp_region_lit ?_
    refine list_val (.int .i64 f1) (by kernel_rfl) (by kernel_rfl) ?_
    simp only [Act.put, List.setIfInBounds_toArray, List.set_cons_zero, List.set_cons_succ, List.getElem_toArray, List.getElem_cons_zero, List.getElem_cons_succ]
    refine list_val (.int .i64 2) (by kernel_rfl) (by kernel_rfl) ?_
    simp only [Act.put, List.setIfInBounds_toArray, List.set_cons_zero, List.set_cons_succ, List.getElem_toArray, List.getElem_cons_zero, List.getElem_cons_succ]
    refine list_val (.bool true) (by kernel_rfl) (by go_simp) ?_
    simp only [Act.put, List.setIfInBounds_toArray, List.set_cons_zero, List.set_cons_succ, List.getElem_toArray, List.getElem_cons_zero, List.getElem_cons_succ]
    refine list_val (.bool true) (by kernel_rfl) (by kernel_rfl) ?_
    simp only [Act.put, List.setIfInBounds_toArray, List.set_cons_zero, List.set_cons_succ, List.getElem_toArray, List.getElem_cons_zero, List.getElem_cons_succ]
    refine wpList_step fun K hK => ?_
    rw [if_neg (ne_true_of_eq_false (by kernel_rfl))]
    refine hK _ _ ?_
    clear hK K
    simp only [Act.put, List.setIfInBounds_toArray, List.set_cons_zero, List.set_cons_succ, List.getElem_toArray, List.getElem_cons_zero, List.getElem_cons_succ]
    refine wpList_step fun K hK => ?_
    rw [if_neg (ne_true_of_eq_false (by kernel_rfl))]
    refine hK _ _ ?_
    clear hK K
    simp only [Act.put, List.setIfInBounds_toArray, List.set_cons_zero, List.set_cons_succ, List.getElem_toArray, List.getElem_cons_zero, List.getElem_cons_succ]
    refine wpList_step fun K hK => ?_
    rw [if_neg (ne_true_of_eq_false (by kernel_rfl))]
    refine hK _ _ ?_
    clear hK K
    simp only [Act.put, List.setIfInBounds_toArray, List.set_cons_zero, List.set_cons_succ, List.getElem_toArray, List.getElem_cons_zero, List.getElem_cons_succ]
    refine list_val (.bool true) (by kernel_rfl) (by kernel_rfl) ?_
    simp only [Act.put, List.setIfInBounds_toArray, List.set_cons_zero, List.set_cons_succ, List.getElem_toArray, List.getElem_cons_zero, List.getElem_cons_succ]
    refine wpList_nil ?_
    replace hG := hide hG
    go_upto_region 11 with fail
    replace hG := unhide hG
    refine wp_region_lit ?_
    refine list_val (.agg #[.int .i64 0, .int .i64 0, .int .u64 0, .slice none 0 0]) (by kernel_rfl) (by kernel_rfl) ?_
    simp only [Act.put, List.setIfInBounds_toArray, List.set_cons_zero, List.set_cons_succ, List.getElem_toArray, List.getElem_cons_zero, List.getElem_cons_succ]
    refine list_store 113 (.tmp 6) (.tmp 44) (w.heap.size) #[.int .i64 0, .int .i64 0, .int .u64 0, .slice none 0 0] 113 #[.int .i64 0, .int .i64 0, .int .u64 0, .slice none 0 0] (by kernel_rfl) rfl (by kernel_rfl) (by kernel_rfl) (hG.get 0 (x := ⟨w.heap.size, #[.int .i64 0, .int .i64 0, .int .u64 0, .slice none 0 0], 113⟩) rfl) (by rw [Try.infoP]; rfl) rfl (by simp [Value.oneCell']) ?_
    have hbt := setRow_bt u13 (w.heap.size) #[.int .i64 0, .int .i64 0, .int .u64 0, .slice none 0 0]
    have hq5 := (hG.get 0 (x := ⟨w.heap.size, #[.int .i64 0, .int .i64 0, .int .u64 0, .slice none 0 0], 113⟩) rfl)
    dsimp only at hq5
    replace hO := hide (ob_bt (unhide hO) hq5 (by decide) hbt)
    clear hbt hq5
    replace hG := hG.set 0 (x := ⟨w.heap.size, #[.int .i64 0, .int .i64 0, .int .u64 0, .slice none 0 0], 113⟩) rfl #[.int .i64 0, .int .i64 0, .int .u64 0, .slice none 0 0]
    simp only [List.set_cons_zero, List.set_cons_succ] at hG
    generalize World.setRow _ _ _ = u15 at *
    replace hG : Gt g w [⟨w.heap.size, #[.int .i64 0, .int .i64 0, .int .u64 0, .slice none 0 0], 113⟩, ⟨q5, #[.int .i64 x1, .int .i64 x2, .int .u64 x3, .slice va m vc], 113⟩] p n0 c (11 + m) L u15 := hG
    simp only [Act.put, List.setIfInBounds_toArray, List.set_cons_zero, List.set_cons_succ, List.getElem_toArray, List.getElem_cons_zero, List.getElem_cons_succ]
    (refine wpList_step fun K hK => ?_; replace hK := hide hK; go_simp; refine unhide hK _ _ ?_; clear hK K)
    refine wpList_nil ?_
    have hbk : Hid (u15.heap[w.heap.size]? = some (.cells #[.int .i64 0, .int .i64 0, .int .u64 0, .slice none 0 0] 113 (0, 0))) := (hG.get 0 (x := ⟨w.heap.size, #[.int .i64 0, .int .i64 0, .int .u64 0, .slice none 0 0], 113⟩) rfl)
    have hP : Hid (T (.returned (.tuple #[.agg #[.int .i64 0, .int .i64 0, .int .u64 0, .slice none 0 0], .int .i64 241])) u15) := by
      rw [unhide hT]
      exact ⟨rfl, hG.gr hwg⟩
    clear hG
    go_wp2_with fail
    exact bodyPost_ret (v := .tuple #[.agg #[.int .i64 0, .int .i64 0, .int .u64 0, .slice none 0 0], .int .i64 241]) (results_cell_tmp Try.results69 _ _ (w.heap.size) 113 #[.int .i64 0, .int .i64 0, .int .u64 0, .slice none 0 0] (0, 0) _ rfl (.int .i64 241) rfl (unhide hbk) Try.underlying113 rfl (by rw [Try.infoP]; rfl)) rfl (unhide hP)
set_option maxHeartbeats 4000000 in
theorem pof_dn_no (a : Option Addr) (m c : Nat) (hm : m < 9223372036854775808) (hS : rpS ((m : Int) - 11) = false) (w : World) : Calls Try.prog 69 #[.slice a m c, .int .i64 3, .func (.func 49) #[] #[]] w (Rno #[.int .i64 0, .int .i64 0, .int .u64 0, .slice none 0 0] 240 w) := by
  obtain ⟨T, hT⟩ : ∃ T, T = Rno #[.int .i64 0, .int .i64 0, .int .u64 0, .slice none 0 0] 240 w := ⟨_, rfl⟩
  rw [← hT]
  replace hT := hide hT
  obtain ⟨x, hx⟩ : ∃ x : Int, x = (m : Int) - 11 := ⟨_, rfl⟩
  have hw1 : IntKind.i64.wrap ((m : Int) - 11) = x := by rw [IntKind.wrap_i64]; omega
  rw [← hx] at hS
  clear hx
  go_enter Try.func69, Try.ntmps69
  go_upto_region 1 with fail
  have hB := ((Bl.nil w).new #[.int .i64 0, .int .i64 0, .int .u64 0, .slice none 0 0] 113)
  simp only [size_alloc, List.nil_append, List.cons_append] at hB
  generalize World.alloc _ _ = u at *
  replace hB : Bl w [⟨w.heap.size, #[.int .i64 0, .int .i64 0, .int .u64 0, .slice none 0 0], 113⟩] u := hB
  refine wp_region_lit ?_
  refine list_val (.func (.func 49) #[] #[]) (by kernel_rfl) (by kernel_rfl) ?_
  simp only [Act.put, List.setIfInBounds_toArray, List.set_cons_zero, List.set_cons_succ, List.getElem_toArray, List.getElem_cons_zero, List.getElem_cons_succ]
  refine list_val (.slice a m c) (by kernel_rfl) (by kernel_rfl) ?_
  simp only [Act.put, List.setIfInBounds_toArray, List.set_cons_zero, List.set_cons_succ, List.getElem_toArray, List.getElem_cons_zero, List.getElem_cons_succ]
  refine list_val (.int .i64 m) (by kernel_rfl) (by kernel_rfl) ?_
  simp only [Act.put, List.setIfInBounds_toArray, List.set_cons_zero, List.set_cons_succ, List.getElem_toArray, List.getElem_cons_zero, List.getElem_cons_succ]
  refine list_val (.int .i64 x) (by kernel_rfl) (by go_simp) ?_
  simp only [Act.put, List.setIfInBounds_toArray, List.set_cons_zero, List.set_cons_succ, List.getElem_toArray, List.getElem_cons_zero, List.getElem_cons_succ]
  refine list_call 80 #[.func (.func 49) #[] #[], .int .i64 x] (by kernel_rfl) (by kernel_rfl) ((some_rp x u).mono ?_)
  rintro r_ u1 ⟨rfl, hg1⟩
  rw [hS]
  replace hB := hB.more hg1
  clear hg1
  refine ⟨_, rfl, ?_⟩
  simp only [Act.put, List.setIfInBounds_toArray, List.set_cons_zero, List.set_cons_succ, List.getElem_toArray, List.getElem_cons_zero, List.getElem_cons_succ]
  refine list_val (.bool true) (by kernel_rfl) (by kernel_rfl) ?_
  simp only [Act.put, List.setIfInBounds_toArray, List.set_cons_zero, List.set_cons_succ, List.getElem_toArray, List.getElem_cons_zero, List.getElem_cons_succ]
  refine wpList_nil ?_
  replace hB := hide hB
  go_upto_region 2 with fail
  replace hB := unhide hB
  refine wp_region_lit ?_
  refine list_val (.agg #[.int .i64 0, .int .i64 0, .int .u64 0, .slice none 0 0]) (by kernel_rfl) (by kernel_rfl) ?_
  simp only [Act.put, List.setIfInBounds_toArray, List.set_cons_zero, List.set_cons_succ, List.getElem_toArray, List.getElem_cons_zero, List.getElem_cons_succ]
  refine list_store 113 (.tmp 6) (.tmp 17) (w.heap.size) #[.int .i64 0, .int .i64 0, .int .u64 0, .slice none 0 0] 113 #[.int .i64 0, .int .i64 0, .int .u64 0, .slice none 0 0] (by kernel_rfl) rfl (by kernel_rfl) (by kernel_rfl) (hB.get 0 (x := ⟨w.heap.size, #[.int .i64 0, .int .i64 0, .int .u64 0, .slice none 0 0], 113⟩) rfl) (by rw [Try.infoP]; rfl) rfl (by simp [Value.oneCell']) ?_
  replace hB := hB.set 0 (x := ⟨w.heap.size, #[.int .i64 0, .int .i64 0, .int .u64 0, .slice none 0 0], 113⟩) rfl #[.int .i64 0, .int .i64 0, .int .u64 0, .slice none 0 0]
  simp only [List.set_cons_zero, List.set_cons_succ] at hB
  generalize World.setRow _ _ _ = u2 at *
  replace hB : Bl w [⟨w.heap.size, #[.int .i64 0, .int .i64 0, .int .u64 0, .slice none 0 0], 113⟩] u2 := hB
  simp only [Act.put, List.setIfInBounds_toArray, List.set_cons_zero, List.set_cons_succ, List.getElem_toArray, List.getElem_cons_zero, List.getElem_cons_succ]
  (refine wpList_step fun K hK => ?_; replace hK := hide hK; go_simp; refine unhide hK _ _ ?_; clear hK K)
  refine wpList_nil ?_
  replace hB := hide hB
  go_wp2_with fail
  replace hB := unhide hB
  rw [unhide hT]
  exact bodyPost_ret (v := .tuple #[.agg #[.int .i64 0, .int .i64 0, .int .u64 0, .slice none 0 0], .int .i64 240]) (results_cell_tmp Try.results69 _ _ (w.heap.size) 113 #[.int .i64 0, .int .i64 0, .int .u64 0, .slice none 0 0] (0, 0) _ rfl (.int .i64 240) rfl (hB.get 0 (x := ⟨w.heap.size, #[.int .i64 0, .int .i64 0, .int .u64 0, .slice none 0 0], 113⟩) rfl) Try.underlying113 rfl (by rw [Try.infoP]; rfl)) rfl ⟨rfl, hB.gr⟩
set_option maxHeartbeats 4000000 in
theorem pof_dn_ok (L : List Int) (a : Option Addr) (n0 c0 : Nat) (hS : rpS ((n0 : Int) - 11) = true) (hF : L.getD 0 0 = 3) (hE : pkE L = true) (w : World) (hB0 : Lb w a n0 c0 L) : Calls Try.prog 69 #[.slice a n0 c0, .int .i64 3, .func (.func 49) #[] #[]] w (Gok L w) := by
  obtain ⟨T, hT⟩ : ∃ T, T = Gok L w := ⟨_, rfl⟩
  rw [← hT]
  replace hT := hide hT
  have hn0 : 12 ≤ n0 ∧ n0 ≤ 301 := by unfold rpS at hS; rw [decide_eq_true_iff] at hS; omega
  obtain ⟨p0, q0, rfl, hB0⟩ := hB0.some (by omega)
  obtain ⟨x, hx⟩ : ∃ x : Int, x = (n0 : Int) - 11 := ⟨_, rfl⟩
  have hw1 : IntKind.i64.wrap ((n0 : Int) - 11) = x := by rw [IntKind.wrap_i64]; omega
  rw [← hx] at hS
  clear hx
  have hL := hB0.len
  have hLb := hide hB0.isB
  replace hB0 := hide hB0; replace hF := hide hF
  replace hE := hide hE
  go_enter Try.func69, Try.ntmps69
  go_upto_region 1 with fail
  have hB := ((Bl.nil w).new #[.int .i64 0, .int .i64 0, .int .u64 0, .slice none 0 0] 113)
  simp only [size_alloc, List.nil_append, List.cons_append] at hB
  generalize World.alloc _ _ = u at *
  replace hB : Bl w [⟨w.heap.size, #[.int .i64 0, .int .i64 0, .int .u64 0, .slice none 0 0], 113⟩] u := hB
  refine wp_region_lit ?_
  refine list_val (.func (.func 49) #[] #[]) (by kernel_rfl) (by kernel_rfl) ?_
  simp only [Act.put, List.setIfInBounds_toArray, List.set_cons_zero, List.set_cons_succ, List.getElem_toArray, List.getElem_cons_zero, List.getElem_cons_succ]
  refine list_val (.slice (some ⟨p0, q0, none⟩) n0 c0) (by kernel_rfl) (by kernel_rfl) ?_
  simp only [Act.put, List.setIfInBounds_toArray, List.set_cons_zero, List.set_cons_succ, List.getElem_toArray, List.getElem_cons_zero, List.getElem_cons_succ]
  refine list_val (.int .i64 n0) (by kernel_rfl) (by kernel_rfl) ?_
  simp only [Act.put, List.setIfInBounds_toArray, List.set_cons_zero, List.set_cons_succ, List.getElem_toArray, List.getElem_cons_zero, List.getElem_cons_succ]
  refine list_val (.int .i64 x) (by kernel_rfl) (by go_simp) ?_
  simp only [Act.put, List.setIfInBounds_toArray, List.set_cons_zero, List.set_cons_succ, List.getElem_toArray, List.getElem_cons_zero, List.getElem_cons_succ]
  refine list_call 80 #[.func (.func 49) #[] #[], .int .i64 x] (by kernel_rfl) (by kernel_rfl) ((some_rp x u).mono ?_)
  rintro r_ u1 ⟨rfl, hg1⟩
  rw [hS]
  replace hB := hB.more hg1
  clear hg1
  refine ⟨_, rfl, ?_⟩
  simp only [Act.put, List.setIfInBounds_toArray, List.set_cons_zero, List.set_cons_succ, List.getElem_toArray, List.getElem_cons_zero, List.getElem_cons_succ]
  refine list_val (.bool false) (by kernel_rfl) (by kernel_rfl) ?_
  simp only [Act.put, List.setIfInBounds_toArray, List.set_cons_zero, List.set_cons_succ, List.getElem_toArray, List.getElem_cons_zero, List.getElem_cons_succ]
  refine wpList_nil ?_
  clear hw1
  replace hB := hide hB
  go_upto_region 3 with fail
  replace hB := unhide hB
  refine wp_region_lit ?_
  refine list_val (.slice (some ⟨p0, q0, none⟩) n0 c0) (by kernel_rfl) (by kernel_rfl) ?_
  simp only [Act.put, List.setIfInBounds_toArray, List.set_cons_zero, List.set_cons_succ, List.getElem_toArray, List.getElem_cons_zero, List.getElem_cons_succ]
  refine list_call 54 #[.slice (some ⟨p0, q0, none⟩) n0 c0] (by kernel_rfl) (by kernel_rfl) ((oreadt_ok L p0 q0 n0 c0 u1 ((unhide hB0).gr hB.gr) (by omega) (by omega)).mono ?_)
  rintro r u2 ⟨g, p, c, rfl, hgg, hpp, hrd, hty, hgr⟩
  rw [hL] at hrd
  have hG : Gt g w [⟨w.heap.size, #[.int .i64 0, .int .i64 0, .int .u64 0, .slice none 0 0], 113⟩] p n0 c 0 L u2 := hB.gt hgr hgg hpp hrd hty (by intro y hy; rw [List.mem_singleton.1 hy]; exact ⟨(by decide : (113 : TypeId) ≠ 126), (by decide : (113 : TypeId) ≠ 5)⟩)
  have hwg : w.heap.size ≤ g := Nat.le_trans hB.gr.size hgg
  clear hB hgr hgg hpp hrd hty
  refine ⟨_, rfl, ?_⟩
  simp only [Act.put, List.setIfInBounds_toArray, List.set_cons_zero, List.set_cons_succ, List.getElem_toArray, List.getElem_cons_zero, List.getElem_cons_succ]
  (refine wpList_step fun K hK => ?_; replace hK := hide hK; go_simp; refine unhide hK _ _ ?_; clear hK K)
  refine wpList_nil ?_
  replace hG := hide hG
  go_upto_region 4 with fail
  replace hG := unhide hG
  refine wp_region_lit ?_
  refine list_val (.pointer (some ⟨g, 0, none⟩)) (by kernel_rfl) (by kernel_rfl) ?_
  simp only [Act.put, List.setIfInBounds_toArray, List.set_cons_zero, List.set_cons_succ, List.getElem_toArray, List.getElem_cons_zero, List.getElem_cons_succ]
  refine list_call 59 #[P0 g] (by kernel_rfl) (by kernel_rfl) ((fone_ok g p n0 c 0 L u2 hG.rd (by omega) (by omega)).mono ?_)
  rintro r u3 ⟨rfl, hR1, hb1⟩
  replace hG := hG.read hR1 hb1
  clear hR1 hb1
  obtain ⟨f1, hf10⟩ : ∃ x, x = L.getD 0 0 := ⟨_, rfl⟩
  rw [← hf10]
  refine ⟨_, rfl, ?_⟩
  replace hf10 := hide hf10
  simp only [Act.put, List.setIfInBounds_toArray, List.set_cons_zero, List.set_cons_succ, List.getElem_toArray, List.getElem_cons_zero, List.getElem_cons_succ]
  (refine wpList_step fun K hK => ?_; replace hK := hide hK; go_simp; refine unhide hK _ _ ?_; clear hK K)
  refine wpList_nil ?_
  replace hG := hide hG
  go_upto_region 5 with fail
  replace hG := unhide hG
  refine wp_region_lit ?_
  refine list_valw (.pointer (some ⟨u3.heap.size, 0, none⟩)) (u3.alloc (.cells #[.int .i64 0, .int .i64 0, .int .u64 0, .slice none 0 0] 113 (0, 0))) (by kernel_rfl) (by kernel_rfl) ?_
  replace hG := hG.new #[.int .i64 0, .int .i64 0, .int .u64 0, .slice none 0 0] 113 ⟨by decide, by decide⟩
  simp only [List.nil_append, List.cons_append] at hG
  generalize World.alloc _ _ = u4 at *
  generalize u3.heap.size = q5 at *
  replace hG : Gt g w [⟨w.heap.size, #[.int .i64 0, .int .i64 0, .int .u64 0, .slice none 0 0], 113⟩, ⟨q5, #[.int .i64 0, .int .i64 0, .int .u64 0, .slice none 0 0], 113⟩] p n0 c (0 + 1) L u4 := hG
  simp only [Act.put, List.setIfInBounds_toArray, List.set_cons_zero, List.set_cons_succ, List.getElem_toArray, List.getElem_cons_zero, List.getElem_cons_succ]
  refine wpList_nil ?_
  replace hG : Gt g w [⟨w.heap.size, #[.int .i64 0, .int .i64 0, .int .u64 0, .slice none 0 0], 113⟩, ⟨q5, #[.int .i64 0, .int .i64 0, .int .u64 0, .slice none 0 0], 113⟩] p n0 c (1) L u4 := hG
  replace hG := hide hG
  go_upto_region 6 with fail
  replace hG := unhide hG
  refine wp_region_lit ?_
  refine list_val (.pointer (some ⟨g, 0, none⟩)) (by kernel_rfl) (by kernel_rfl) ?_
  simp only [Act.put, List.setIfInBounds_toArray, List.set_cons_zero, List.set_cons_succ, List.getElem_toArray, List.getElem_cons_zero, List.getElem_cons_succ]
  refine list_call 59 #[P0 g] (by kernel_rfl) (by kernel_rfl) ((fone_ok g p n0 c 1 L u4 hG.rd (by omega) (by omega)).mono ?_)
  rintro r u5 ⟨rfl, hR1, hb1⟩
  replace hG := hG.read hR1 hb1
  clear hR1 hb1
  obtain ⟨x1, hx10⟩ : ∃ x, x = L.getD 1 0 := ⟨_, rfl⟩
  rw [← hx10]
  refine ⟨_, rfl, ?_⟩
  replace hx10 := hide hx10
  simp only [Act.put, List.setIfInBounds_toArray, List.set_cons_zero, List.set_cons_succ, List.getElem_toArray, List.getElem_cons_zero, List.getElem_cons_succ]
  refine list_val (.pointer (some ⟨q5, 0, none⟩)) (by kernel_rfl) (by kernel_rfl) ?_
  simp only [Act.put, List.setIfInBounds_toArray, List.set_cons_zero, List.set_cons_succ, List.getElem_toArray, List.getElem_cons_zero, List.getElem_cons_succ]
  have c4 := cell_of (hG.get 1 (x := ⟨q5, #[.int .i64 0, .int .i64 0, .int .u64 0, .slice none 0 0], 113⟩) rfl) (i := 0) rfl
  have fz := froz_of (i := 0) (hG.get 1 (x := ⟨q5, #[.int .i64 0, .int .i64 0, .int .u64 0, .slice none 0 0], 113⟩) rfl)
  have hG2 := hG.cell 1 (x := ⟨q5, #[.int .i64 0, .int .i64 0, .int .u64 0, .slice none 0 0], 113⟩) rfl 0 (.int .i64 x1)
  simp only [List.set_cons_zero, List.set_cons_succ] at hG2
  replace hG2 : Gt g w [⟨w.heap.size, #[.int .i64 0, .int .i64 0, .int .u64 0, .slice none 0 0], 113⟩, ⟨q5, #[.int .i64 x1, .int .i64 0, .int .u64 0, .slice none 0 0], 113⟩] p n0 c (1 + 1) L _ := hG2
  clear hG
  replace hG2 := hide hG2
  dsimp only at c4 fz
  (refine wpList_step fun K hK => ?_; replace hK := hide hK; go_simp; refine unhide hK _ _ ?_; clear hK K)
  clear c4 fz
  have hG := unhide hG2
  clear hG2
  generalize World.setCell _ _ _ = u6 at *
  refine wpList_nil ?_
  replace hG : Gt g w [⟨w.heap.size, #[.int .i64 0, .int .i64 0, .int .u64 0, .slice none 0 0], 113⟩, ⟨q5, #[.int .i64 x1, .int .i64 0, .int .u64 0, .slice none 0 0], 113⟩] p n0 c (2) L u6 := hG
  replace hG := hide hG
  go_upto_region 7 with fail
  replace hG := unhide hG
  refine wp_region_lit ?_
  refine list_val (.pointer (some ⟨g, 0, none⟩)) (by kernel_rfl) (by kernel_rfl) ?_
  simp only [Act.put, List.setIfInBounds_toArray, List.set_cons_zero, List.set_cons_succ, List.getElem_toArray, List.getElem_cons_zero, List.getElem_cons_succ]
  refine list_call 59 #[P0 g] (by kernel_rfl) (by kernel_rfl) ((fone_ok g p n0 c 2 L u6 hG.rd (by omega) (by omega)).mono ?_)
  rintro r u7 ⟨rfl, hR1, hb1⟩
  replace hG := hG.read hR1 hb1
  clear hR1 hb1
  obtain ⟨x2, hx20⟩ : ∃ x, x = L.getD 2 0 := ⟨_, rfl⟩
  rw [← hx20]
  refine ⟨_, rfl, ?_⟩
  replace hx20 := hide hx20
  simp only [Act.put, List.setIfInBounds_toArray, List.set_cons_zero, List.set_cons_succ, List.getElem_toArray, List.getElem_cons_zero, List.getElem_cons_succ]
  refine list_val (.pointer (some ⟨q5, 1, none⟩)) (by kernel_rfl) (by kernel_rfl) ?_
  simp only [Act.put, List.setIfInBounds_toArray, List.set_cons_zero, List.set_cons_succ, List.getElem_toArray, List.getElem_cons_zero, List.getElem_cons_succ]
  have c4 := cell_of (hG.get 1 (x := ⟨q5, #[.int .i64 x1, .int .i64 0, .int .u64 0, .slice none 0 0], 113⟩) rfl) (i := 1) rfl
  have fz := froz_of (i := 1) (hG.get 1 (x := ⟨q5, #[.int .i64 x1, .int .i64 0, .int .u64 0, .slice none 0 0], 113⟩) rfl)
  have hG2 := hG.cell 1 (x := ⟨q5, #[.int .i64 x1, .int .i64 0, .int .u64 0, .slice none 0 0], 113⟩) rfl 1 (.int .i64 x2)
  simp only [List.set_cons_zero, List.set_cons_succ] at hG2
  replace hG2 : Gt g w [⟨w.heap.size, #[.int .i64 0, .int .i64 0, .int .u64 0, .slice none 0 0], 113⟩, ⟨q5, #[.int .i64 x1, .int .i64 x2, .int .u64 0, .slice none 0 0], 113⟩] p n0 c (2 + 1) L _ := hG2
  clear hG
  replace hG2 := hide hG2
  dsimp only at c4 fz
  (refine wpList_step fun K hK => ?_; replace hK := hide hK; go_simp; refine unhide hK _ _ ?_; clear hK K)
  clear c4 fz
  have hG := unhide hG2
  clear hG2
  generalize World.setCell _ _ _ = u8 at *
  refine wpList_nil ?_
  replace hG : Gt g w [⟨w.heap.size, #[.int .i64 0, .int .i64 0, .int .u64 0, .slice none 0 0], 113⟩, ⟨q5, #[.int .i64 x1, .int .i64 x2, .int .u64 0, .slice none 0 0], 113⟩] p n0 c (3) L u8 := hG
  replace hG := hide hG
  go_upto_region 8 with fail
  replace hG := unhide hG
  refine wp_region_lit ?_
  refine list_val (.pointer (some ⟨g, 0, none⟩)) (by kernel_rfl) (by kernel_rfl) ?_
  simp only [Act.put, List.setIfInBounds_toArray, List.set_cons_zero, List.set_cons_succ, List.getElem_toArray, List.getElem_cons_zero, List.getElem_cons_succ]
  refine list_call 63 #[P0 g] (by kernel_rfl) (by kernel_rfl) ((ru64_ok g p n0 c 3 L u8 hG.rd (by omega) (by omega)).mono ?_)
  rintro r u9 ⟨rfl, hR1, hb1⟩
  replace hG := hG.read hR1 hb1
  clear hR1 hb1
  obtain ⟨x3, hx30⟩ : ∃ x, x = lowN ((L.drop 3).take 8) := ⟨_, rfl⟩
  rw [← hx30]
  refine ⟨_, rfl, ?_⟩
  replace hx30 := hide hx30
  simp only [Act.put, List.setIfInBounds_toArray, List.set_cons_zero, List.set_cons_succ, List.getElem_toArray, List.getElem_cons_zero, List.getElem_cons_succ]
  refine list_val (.pointer (some ⟨q5, 2, none⟩)) (by kernel_rfl) (by kernel_rfl) ?_
  simp only [Act.put, List.setIfInBounds_toArray, List.set_cons_zero, List.set_cons_succ, List.getElem_toArray, List.getElem_cons_zero, List.getElem_cons_succ]
  have c4 := cell_of (hG.get 1 (x := ⟨q5, #[.int .i64 x1, .int .i64 x2, .int .u64 0, .slice none 0 0], 113⟩) rfl) (i := 2) rfl
  have fz := froz_of (i := 2) (hG.get 1 (x := ⟨q5, #[.int .i64 x1, .int .i64 x2, .int .u64 0, .slice none 0 0], 113⟩) rfl)
  have hG2 := hG.cell 1 (x := ⟨q5, #[.int .i64 x1, .int .i64 x2, .int .u64 0, .slice none 0 0], 113⟩) rfl 2 (.int .u64 x3)
  simp only [List.set_cons_zero, List.set_cons_succ] at hG2
  replace hG2 : Gt g w [⟨w.heap.size, #[.int .i64 0, .int .i64 0, .int .u64 0, .slice none 0 0], 113⟩, ⟨q5, #[.int .i64 x1, .int .i64 x2, .int .u64 x3, .slice none 0 0], 113⟩] p n0 c (3 + 8) L _ := hG2
  clear hG
  replace hG2 := hide hG2
  dsimp only at c4 fz
  (refine wpList_step fun K hK => ?_; replace hK := hide hK; go_simp; refine unhide hK _ _ ?_; clear hK K)
  clear c4 fz
  have hG := unhide hG2
  clear hG2
  generalize World.setCell _ _ _ = u10 at *
  refine wpList_nil ?_
  replace hG : Gt g w [⟨w.heap.size, #[.int .i64 0, .int .i64 0, .int .u64 0, .slice none 0 0], 113⟩, ⟨q5, #[.int .i64 x1, .int .i64 x2, .int .u64 x3, .slice none 0 0], 113⟩] p n0 c (11) L u10 := hG
  replace hG := hide hG
  go_upto_region 9 with fail
  replace hG := unhide hG
  refine wp_region_lit ?_
  refine list_val (.pointer (some ⟨g, 0, none⟩)) (by kernel_rfl) (by kernel_rfl) ?_
  simp only [Act.put, List.setIfInBounds_toArray, List.set_cons_zero, List.set_cons_succ, List.getElem_toArray, List.getElem_cons_zero, List.getElem_cons_succ]
  refine list_val (.pointer (some ⟨g, 0, none⟩)) (by kernel_rfl) (by kernel_rfl) ?_
  simp only [Act.put, List.setIfInBounds_toArray, List.set_cons_zero, List.set_cons_succ, List.getElem_toArray, List.getElem_cons_zero, List.getElem_cons_succ]
  refine list_call 66 #[P0 g] (by kernel_rfl) (by kernel_rfl) ((rleft_ok g p n0 c 11 (by omega) (by omega) u10 hG.rd.cel).mono ?_)
  rintro r u11 ⟨rfl, hg1⟩
  replace hG := hG.more hg1
  clear hg1
  obtain ⟨m, hm⟩ : ∃ m, m = n0 - 11 := ⟨_, rfl⟩
  rw [← hm]
  have hm1 : 11 + m ≤ n0 := by omega
  have hm2 : n0 ≤ 11 + m := by omega
  clear hm
  refine ⟨_, rfl, ?_⟩
  simp only [Act.put, List.setIfInBounds_toArray, List.set_cons_zero, List.set_cons_succ, List.getElem_toArray, List.getElem_cons_zero, List.getElem_cons_succ]
  refine list_call 55 #[P0 g, .int .i64 (m : Int)] (by kernel_rfl) (by kernel_rfl) ((rraw_ok g p n0 c 11 m L u11 hG.rd (by omega) (by omega) (by omega)).mono ?_)
  rintro r u12 ⟨v, rfl, hO, hR1, hb1⟩
  rw [show (L.drop 11).take m = L.drop 11 from List.take_of_length_le (by rw [List.length_drop, hL]; omega)] at hO
  have hwo : w.heap.size ≤ u11.heap.size := (hG.gr hwg).size
  replace hO := hide (ob_base hO hwo)
  replace hG := hG.read hR1 hb1
  clear hR1 hb1 hwo
  obtain ⟨va, vc, rfl, _⟩ := ob_lb (unhide hO) (isB_drop (unhide hLb) 11) (n := m) (by rw [List.length_drop, hL]; omega)
  refine ⟨_, rfl, ?_⟩
  simp only [Act.put, List.setIfInBounds_toArray, List.set_cons_zero, List.set_cons_succ, List.getElem_toArray, List.getElem_cons_zero, List.getElem_cons_succ]
  refine list_val (.pointer (some ⟨q5, 3, none⟩)) (by kernel_rfl) (by kernel_rfl) ?_
  simp only [Act.put, List.setIfInBounds_toArray, List.set_cons_zero, List.set_cons_succ, List.getElem_toArray, List.getElem_cons_zero, List.getElem_cons_succ]
  have hbt := setCell_bt u12 q5 3 (.slice va m vc)
  have hq5 := (hG.get 1 (x := ⟨q5, #[.int .i64 x1, .int .i64 x2, .int .u64 x3, .slice none 0 0], 113⟩) rfl)
  dsimp only at hq5
  replace hO := hide (ob_bt (unhide hO) hq5 (by decide) hbt)
  clear hbt hq5
  have c4 := cell_of (hG.get 1 (x := ⟨q5, #[.int .i64 x1, .int .i64 x2, .int .u64 x3, .slice none 0 0], 113⟩) rfl) (i := 3) rfl
  have fz := froz_of (i := 3) (hG.get 1 (x := ⟨q5, #[.int .i64 x1, .int .i64 x2, .int .u64 x3, .slice none 0 0], 113⟩) rfl)
  have hG2 := hG.cell 1 (x := ⟨q5, #[.int .i64 x1, .int .i64 x2, .int .u64 x3, .slice none 0 0], 113⟩) rfl 3 (.slice va m vc)
  simp only [List.set_cons_zero, List.set_cons_succ] at hG2
  replace hG2 : Gt g w [⟨w.heap.size, #[.int .i64 0, .int .i64 0, .int .u64 0, .slice none 0 0], 113⟩, ⟨q5, #[.int .i64 x1, .int .i64 x2, .int .u64 x3, .slice va m vc], 113⟩] p n0 c (11 + m) L _ := hG2
  clear hG
  replace hG2 := hide hG2
  dsimp only at c4 fz
  (refine wpList_step fun K hK => ?_; replace hK := hide hK; go_simp; refine unhide hK _ _ ?_; clear hK K)
  clear c4 fz
  have hG := unhide hG2
  clear hG2
  generalize World.setCell _ _ _ = u13 at *
  refine wpList_nil ?_
  unfold pkE at hE
  rw [← unhide hx10, ← unhide hx20, ← unhide hx30] at hE
  rw [← unhide hf10] at hF
  obtain rfl : f1 = 3 := unhide hF
  replace hG := hide hG
  go_upto_region 10 with fail
  replace hG := unhide hG
  refine wp_region_lit ?_
  refine list_val (.int .i64 3) (by kernel_rfl) (by kernel_rfl) ?_
  simp only [Act.put, List.setIfInBounds_toArray, List.set_cons_zero, List.set_cons_succ, List.getElem_toArray, List.getElem_cons_zero, List.getElem_cons_succ]
  refine list_val (.int .i64 3) (by kernel_rfl) (by kernel_rfl) ?_
  simp only [Act.put, List.setIfInBounds_toArray, List.set_cons_zero, List.set_cons_succ, List.getElem_toArray, List.getElem_cons_zero, List.getElem_cons_succ]
  refine list_val (.bool false) (by kernel_rfl) (by kernel_rfl) ?_
  simp only [Act.put, List.setIfInBounds_toArray, List.set_cons_zero, List.set_cons_succ, List.getElem_toArray, List.getElem_cons_zero, List.getElem_cons_succ]
  refine list_val (.bool false) (by kernel_rfl) (by kernel_rfl) ?_
  simp only [Act.put, List.setIfInBounds_toArray, List.set_cons_zero, List.set_cons_succ, List.getElem_toArray, List.getElem_cons_zero, List.getElem_cons_succ]
  refine list_val (.agg #[.int .i64 x1, .int .i64 x2, .int .u64 x3, .slice va m vc]) (by kernel_rfl) (exec_arr _ 113 (.tmp 10) rfl q5 (by kernel_rfl) #[.int .i64 x1, .int .i64 x2, .int .u64 x3, .slice va m vc] 113 _ (hG.get 1 (x := ⟨q5, #[.int .i64 x1, .int .i64 x2, .int .u64 x3, .slice va m vc], 113⟩) rfl) Try.underlying113 rfl (by rw [Try.infoP]; rfl)) ?_
  simp only [Act.put, List.setIfInBounds_toArray, List.set_cons_zero, List.set_cons_succ, List.getElem_toArray, List.getElem_cons_zero, List.getElem_cons_succ]
  refine list_call 79 #[.agg #[.int .i64 x1, .int .i64 x2, .int .u64 x3, .slice va m vc]] (by kernel_rfl) (by kernel_rfl) ((fpm_ok x1 x2 x3 va m vc u13).mono ?_)
  rintro r_ u14 ⟨rfl, hg1⟩
  rw [unhide hE]
  replace hG := hG.more hg1
  replace hO := hide ((unhide hO).gr hg1)
  clear hg1
  refine ⟨_, rfl, ?_⟩
  simp only [Act.put, List.setIfInBounds_toArray, List.set_cons_zero, List.set_cons_succ, List.getElem_toArray, List.getElem_cons_zero, List.getElem_cons_succ]
  refine list_val (.bool false) (by kernel_rfl) (by kernel_rfl) ?_
  simp only [Act.put, List.setIfInBounds_toArray, List.set_cons_zero, List.set_cons_succ, List.getElem_toArray, List.getElem_cons_zero, List.getElem_cons_succ]
  refine list_val (.bool false) (by kernel_rfl) (by kernel_rfl) ?_
  simp only [Act.put, List.setIfInBounds_toArray, List.set_cons_zero, List.set_cons_succ, List.getElem_toArray, List.getElem_cons_zero, List.getElem_cons_succ]
  refine wpList_nil ?_
  replace hG := hide hG
  go_upto_region 12 with fail
  replace hG := unhide hG
  refine wp_region_lit ?_
  refine list_val (.agg #[.int .i64 x1, .int .i64 x2, .int .u64 x3, .slice va m vc]) (by kernel_rfl) (exec_arr _ 113 (.tmp 10) rfl q5 (by kernel_rfl) #[.int .i64 x1, .int .i64 x2, .int .u64 x3, .slice va m vc] 113 _ (hG.get 1 (x := ⟨q5, #[.int .i64 x1, .int .i64 x2, .int .u64 x3, .slice va m vc], 113⟩) rfl) Try.underlying113 rfl (by rw [Try.infoP]; rfl)) ?_
  simp only [Act.put, List.setIfInBounds_toArray, List.set_cons_zero, List.set_cons_succ, List.getElem_toArray, List.getElem_cons_zero, List.getElem_cons_succ]
  refine list_store 113 (.tmp 6) (.tmp 45) (w.heap.size) #[.int .i64 x1, .int .i64 x2, .int .u64 x3, .slice va m vc] 113 #[.int .i64 0, .int .i64 0, .int .u64 0, .slice none 0 0] (by kernel_rfl) rfl (by kernel_rfl) (by kernel_rfl) (hG.get 0 (x := ⟨w.heap.size, #[.int .i64 0, .int .i64 0, .int .u64 0, .slice none 0 0], 113⟩) rfl) (by rw [Try.infoP]; rfl) rfl (by simp [Value.oneCell']) ?_
  have hbt := setRow_bt u14 (w.heap.size) #[.int .i64 x1, .int .i64 x2, .int .u64 x3, .slice va m vc]
  have hq5 := (hG.get 0 (x := ⟨w.heap.size, #[.int .i64 0, .int .i64 0, .int .u64 0, .slice none 0 0], 113⟩) rfl)
  dsimp only at hq5
  replace hO := hide (ob_bt (unhide hO) hq5 (by decide) hbt)
  clear hbt hq5
  replace hG := hG.set 0 (x := ⟨w.heap.size, #[.int .i64 0, .int .i64 0, .int .u64 0, .slice none 0 0], 113⟩) rfl #[.int .i64 x1, .int .i64 x2, .int .u64 x3, .slice va m vc]
  simp only [List.set_cons_zero, List.set_cons_succ] at hG
  generalize World.setRow _ _ _ = u15 at *
  replace hG : Gt g w [⟨w.heap.size, #[.int .i64 x1, .int .i64 x2, .int .u64 x3, .slice va m vc], 113⟩, ⟨q5, #[.int .i64 x1, .int .i64 x2, .int .u64 x3, .slice va m vc], 113⟩] p n0 c (11 + m) L u15 := hG
  simp only [Act.put, List.setIfInBounds_toArray, List.set_cons_zero, List.set_cons_succ, List.getElem_toArray, List.getElem_cons_zero, List.getElem_cons_succ]
  (refine wpList_step fun K hK => ?_; replace hK := hide hK; go_simp; refine unhide hK _ _ ?_; clear hK K)
  refine wpList_nil ?_
  have hbk : Hid (u15.heap[w.heap.size]? = some (.cells #[.int .i64 x1, .int .i64 x2, .int .u64 x3, .slice va m vc] 113 (0, 0))) := (hG.get 0 (x := ⟨w.heap.size, #[.int .i64 x1, .int .i64 x2, .int .u64 x3, .slice va m vc], 113⟩) rfl)
  have hP : Hid (T (.returned (.tuple #[.agg #[.int .i64 x1, .int .i64 x2, .int .u64 x3, .slice va m vc], .int .i64 0])) u15) := by
    rw [unhide hT]
    refine ⟨.slice va m vc, ?_, unhide hO, hG.gr hwg⟩
    unfold pkv
    rw [unhide hx10, unhide hx20, unhide hx30]
  clear hG
  go_wp2_with fail
  exact bodyPost_ret (v := .tuple #[.agg #[.int .i64 x1, .int .i64 x2, .int .u64 x3, .slice va m vc], .int .i64 0]) (results_cell_tmp Try.results69 _ _ (w.heap.size) 113 #[.int .i64 x1, .int .i64 x2, .int .u64 x3, .slice va m vc] (0, 0) _ rfl (.int .i64 0) rfl (unhide hbk) Try.underlying113 rfl (by rw [Try.infoP]; rfl)) rfl (unhide hP)
set_option maxHeartbeats 4000000 in
theorem pof_dn_bad (L : List Int) (a : Option Addr) (n0 c0 : Nat) (hS : rpS ((n0 : Int) - 11) = true) (hF : L.getD 0 0 ≠ 3 ∨ pkE L = false) (w : World) (hB0 : Lb w a n0 c0 L) : Calls Try.prog 69 #[.slice a n0 c0, .int .i64 3, .func (.func 49) #[] #[]] w (Rno #[.int .i64 0, .int .i64 0, .int .u64 0, .slice none 0 0] 241 w) := by
  obtain ⟨T, hT⟩ : ∃ T, T = Rno #[.int .i64 0, .int .i64 0, .int .u64 0, .slice none 0 0] 241 w := ⟨_, rfl⟩
  rw [← hT]
  replace hT := hide hT
  have hn0 : 12 ≤ n0 ∧ n0 ≤ 301 := by unfold rpS at hS; rw [decide_eq_true_iff] at hS; omega
  obtain ⟨p0, q0, rfl, hB0⟩ := hB0.some (by omega)
  obtain ⟨x, hx⟩ : ∃ x : Int, x = (n0 : Int) - 11 := ⟨_, rfl⟩
  have hw1 : IntKind.i64.wrap ((n0 : Int) - 11) = x := by rw [IntKind.wrap_i64]; omega
  rw [← hx] at hS
  clear hx
  have hL := hB0.len
  have hLb := hide hB0.isB
  replace hB0 := hide hB0; replace hF := hide hF
  go_enter Try.func69, Try.ntmps69
  go_upto_region 1 with fail
  have hB := ((Bl.nil w).new #[.int .i64 0, .int .i64 0, .int .u64 0, .slice none 0 0] 113)
  simp only [size_alloc, List.nil_append, List.cons_append] at hB
  generalize World.alloc _ _ = u at *
  replace hB : Bl w [⟨w.heap.size, #[.int .i64 0, .int .i64 0, .int .u64 0, .slice none 0 0], 113⟩] u := hB
  refine wp_region_lit ?_
  refine list_val (.func (.func 49) #[] #[]) (by kernel_rfl) (by kernel_rfl) ?_
  simp only [Act.put, List.setIfInBounds_toArray, List.set_cons_zero, List.set_cons_succ, List.getElem_toArray, List.getElem_cons_zero, List.getElem_cons_succ]
  refine list_val (.slice (some ⟨p0, q0, none⟩) n0 c0) (by kernel_rfl) (by kernel_rfl) ?_
  simp only [Act.put, List.setIfInBounds_toArray, List.set_cons_zero, List.set_cons_succ, List.getElem_toArray, List.getElem_cons_zero, List.getElem_cons_succ]
  refine list_val (.int .i64 n0) (by kernel_rfl) (by kernel_rfl) ?_
  simp only [Act.put, List.setIfInBounds_toArray, List.set_cons_zero, List.set_cons_succ, List.getElem_toArray, List.getElem_cons_zero, List.getElem_cons_succ]
  refine list_val (.int .i64 x) (by kernel_rfl) (by go_simp) ?_
  simp only [Act.put, List.setIfInBounds_toArray, List.set_cons_zero, List.set_cons_succ, List.getElem_toArray, List.getElem_cons_zero, List.getElem_cons_succ]
  refine list_call 80 #[.func (.func 49) #[] #[], .int .i64 x] (by kernel_rfl) (by kernel_rfl) ((some_rp x u).mono ?_)
  rintro r_ u1 ⟨rfl, hg1⟩
  rw [hS]
  replace hB := hB.more hg1
  clear hg1
  refine ⟨_, rfl, ?_⟩
  simp only [Act.put, List.setIfInBounds_toArray, List.set_cons_zero, List.set_cons_succ, List.getElem_toArray, List.getElem_cons_zero, List.getElem_cons_succ]
  refine list_val (.bool false) (by kernel_rfl) (by kernel_rfl) ?_
  simp only [Act.put, List.setIfInBounds_toArray, List.set_cons_zero, List.set_cons_succ, List.getElem_toArray, List.getElem_cons_zero, List.getElem_cons_succ]
  refine wpList_nil ?_
  clear hw1
  replace hB := hide hB
  go_upto_region 3 with fail
  replace hB := unhide hB
  refine wp_region_lit ?_
  refine list_val (.slice (some ⟨p0, q0, none⟩) n0 c0) (by kernel_rfl) (by kernel_rfl) ?_
  simp only [Act.put, List.setIfInBounds_toArray, List.set_cons_zero, List.set_cons_succ, List.getElem_toArray, List.getElem_cons_zero, List.getElem_cons_succ]
  refine list_call 54 #[.slice (some ⟨p0, q0, none⟩) n0 c0] (by kernel_rfl) (by kernel_rfl) ((oreadt_ok L p0 q0 n0 c0 u1 ((unhide hB0).gr hB.gr) (by omega) (by omega)).mono ?_)
  rintro r u2 ⟨g, p, c, rfl, hgg, hpp, hrd, hty, hgr⟩
  rw [hL] at hrd
  have hG : Gt g w [⟨w.heap.size, #[.int .i64 0, .int .i64 0, .int .u64 0, .slice none 0 0], 113⟩] p n0 c 0 L u2 := hB.gt hgr hgg hpp hrd hty (by intro y hy; rw [List.mem_singleton.1 hy]; exact ⟨(by decide : (113 : TypeId) ≠ 126), (by decide : (113 : TypeId) ≠ 5)⟩)
  have hwg : w.heap.size ≤ g := Nat.le_trans hB.gr.size hgg
  clear hB hgr hgg hpp hrd hty
  refine ⟨_, rfl, ?_⟩
  simp only [Act.put, List.setIfInBounds_toArray, List.set_cons_zero, List.set_cons_succ, List.getElem_toArray, List.getElem_cons_zero, List.getElem_cons_succ]
  (refine wpList_step fun K hK => ?_; replace hK := hide hK; go_simp; refine unhide hK _ _ ?_; clear hK K)
  refine wpList_nil ?_
  replace hG := hide hG
  go_upto_region 4 with fail
  replace hG := unhide hG
  refine wp_region_lit ?_
  refine list_val (.pointer (some ⟨g, 0, none⟩)) (by kernel_rfl) (by kernel_rfl) ?_
  simp only [Act.put, List.setIfInBounds_toArray, List.set_cons_zero, List.set_cons_succ, List.getElem_toArray, List.getElem_cons_zero, List.getElem_cons_succ]
  refine list_call 59 #[P0 g] (by kernel_rfl) (by kernel_rfl) ((fone_ok g p n0 c 0 L u2 hG.rd (by omega) (by omega)).mono ?_)
  rintro r u3 ⟨rfl, hR1, hb1⟩
  replace hG := hG.read hR1 hb1
  clear hR1 hb1
  obtain ⟨f1, hf10⟩ : ∃ x, x = L.getD 0 0 := ⟨_, rfl⟩
  rw [← hf10]
  refine ⟨_, rfl, ?_⟩
  replace hf10 := hide hf10
  simp only [Act.put, List.setIfInBounds_toArray, List.set_cons_zero, List.set_cons_succ, List.getElem_toArray, List.getElem_cons_zero, List.getElem_cons_succ]
  (refine wpList_step fun K hK => ?_; replace hK := hide hK; go_simp; refine unhide hK _ _ ?_; clear hK K)
  refine wpList_nil ?_
  replace hG := hide hG
  go_upto_region 5 with fail
  replace hG := unhide hG
  refine wp_region_lit ?_
  refine list_valw (.pointer (some ⟨u3.heap.size, 0, none⟩)) (u3.alloc (.cells #[.int .i64 0, .int .i64 0, .int .u64 0, .slice none 0 0] 113 (0, 0))) (by kernel_rfl) (by kernel_rfl) ?_
  replace hG := hG.new #[.int .i64 0, .int .i64 0, .int .u64 0, .slice none 0 0] 113 ⟨by decide, by decide⟩
  simp only [List.nil_append, List.cons_append] at hG
  generalize World.alloc _ _ = u4 at *
  generalize u3.heap.size = q5 at *
  replace hG : Gt g w [⟨w.heap.size, #[.int .i64 0, .int .i64 0, .int .u64 0, .slice none 0 0], 113⟩, ⟨q5, #[.int .i64 0, .int .i64 0, .int .u64 0, .slice none 0 0], 113⟩] p n0 c (0 + 1) L u4 := hG
  simp only [Act.put, List.setIfInBounds_toArray, List.set_cons_zero, List.set_cons_succ, List.getElem_toArray, List.getElem_cons_zero, List.getElem_cons_succ]
  refine wpList_nil ?_
  replace hG : Gt g w [⟨w.heap.size, #[.int .i64 0, .int .i64 0, .int .u64 0, .slice none 0 0], 113⟩, ⟨q5, #[.int .i64 0, .int .i64 0, .int .u64 0, .slice none 0 0], 113⟩] p n0 c (1) L u4 := hG
  replace hG := hide hG
  go_upto_region 6 with fail
  replace hG := unhide hG
  refine wp_region_lit ?_
  refine list_val (.pointer (some ⟨g, 0, none⟩)) (by kernel_rfl) (by kernel_rfl) ?_
  simp only [Act.put, List.setIfInBounds_toArray, List.set_cons_zero, List.set_cons_succ, List.getElem_toArray, List.getElem_cons_zero, List.getElem_cons_succ]
  refine list_call 59 #[P0 g] (by kernel_rfl) (by kernel_rfl) ((fone_ok g p n0 c 1 L u4 hG.rd (by omega) (by omega)).mono ?_)
  rintro r u5 ⟨rfl, hR1, hb1⟩
  replace hG := hG.read hR1 hb1
  clear hR1 hb1
  obtain ⟨x1, hx10⟩ : ∃ x, x = L.getD 1 0 := ⟨_, rfl⟩
  rw [← hx10]
  refine ⟨_, rfl, ?_⟩
  replace hx10 := hide hx10
  simp only [Act.put, List.setIfInBounds_toArray, List.set_cons_zero, List.set_cons_succ, List.getElem_toArray, List.getElem_cons_zero, List.getElem_cons_succ]
  refine list_val (.pointer (some ⟨q5, 0, none⟩)) (by kernel_rfl) (by kernel_rfl) ?_
  simp only [Act.put, List.setIfInBounds_toArray, List.set_cons_zero, List.set_cons_succ, List.getElem_toArray, List.getElem_cons_zero, List.getElem_cons_succ]
  have c4 := cell_of (hG.get 1 (x := ⟨q5, #[.int .i64 0, .int .i64 0, .int .u64 0, .slice none 0 0], 113⟩) rfl) (i := 0) rfl
  have fz := froz_of (i := 0) (hG.get 1 (x := ⟨q5, #[.int .i64 0, .int .i64 0, .int .u64 0, .slice none 0 0], 113⟩) rfl)
  have hG2 := hG.cell 1 (x := ⟨q5, #[.int .i64 0, .int .i64 0, .int .u64 0, .slice none 0 0], 113⟩) rfl 0 (.int .i64 x1)
  simp only [List.set_cons_zero, List.set_cons_succ] at hG2
  replace hG2 : Gt g w [⟨w.heap.size, #[.int .i64 0, .int .i64 0, .int .u64 0, .slice none 0 0], 113⟩, ⟨q5, #[.int .i64 x1, .int .i64 0, .int .u64 0, .slice none 0 0], 113⟩] p n0 c (1 + 1) L _ := hG2
  clear hG
  replace hG2 := hide hG2
  dsimp only at c4 fz
  (refine wpList_step fun K hK => ?_; replace hK := hide hK; go_simp; refine unhide hK _ _ ?_; clear hK K)
  clear c4 fz
  have hG := unhide hG2
  clear hG2
  generalize World.setCell _ _ _ = u6 at *
  refine wpList_nil ?_
  replace hG : Gt g w [⟨w.heap.size, #[.int .i64 0, .int .i64 0, .int .u64 0, .slice none 0 0], 113⟩, ⟨q5, #[.int .i64 x1, .int .i64 0, .int .u64 0, .slice none 0 0], 113⟩] p n0 c (2) L u6 := hG
  replace hG := hide hG
  go_upto_region 7 with fail
  replace hG := unhide hG
  refine wp_region_lit ?_
  refine list_val (.pointer (some ⟨g, 0, none⟩)) (by kernel_rfl) (by kernel_rfl) ?_
  simp only [Act.put, List.setIfInBounds_toArray, List.set_cons_zero, List.set_cons_succ, List.getElem_toArray, List.getElem_cons_zero, List.getElem_cons_succ]
  refine list_call 59 #[P0 g] (by kernel_rfl) (by kernel_rfl) ((fone_ok g p n0 c 2 L u6 hG.rd (by omega) (by omega)).mono ?_)
  rintro r u7 ⟨rfl, hR1, hb1⟩
  replace hG := hG.read hR1 hb1
  clear hR1 hb1
  obtain ⟨x2, hx20⟩ : ∃ x, x = L.getD 2 0 := ⟨_, rfl⟩
  rw [← hx20]
  refine ⟨_, rfl, ?_⟩
  replace hx20 := hide hx20
  simp only [Act.put, List.setIfInBounds_toArray, List.set_cons_zero, List.set_cons_succ, List.getElem_toArray, List.getElem_cons_zero, List.getElem_cons_succ]
  refine list_val (.pointer (some ⟨q5, 1, none⟩)) (by kernel_rfl) (by kernel_rfl) ?_
  simp only [Act.put, List.setIfInBounds_toArray, List.set_cons_zero, List.set_cons_succ, List.getElem_toArray, List.getElem_cons_zero, List.getElem_cons_succ]
  have c4 := cell_of (hG.get 1 (x := ⟨q5, #[.int .i64 x1, .int .i64 0, .int .u64 0, .slice none 0 0], 113⟩) rfl) (i := 1) rfl
  have fz := froz_of (i := 1) (hG.get 1 (x := ⟨q5, #[.int .i64 x1, .int .i64 0, .int .u64 0, .slice none 0 0], 113⟩) rfl)
  have hG2 := hG.cell 1 (x := ⟨q5, #[.int .i64 x1, .int .i64 0, .int .u64 0, .slice none 0 0], 113⟩) rfl 1 (.int .i64 x2)
  simp only [List.set_cons_zero, List.set_cons_succ] at hG2
  replace hG2 : Gt g w [⟨w.heap.size, #[.int .i64 0, .int .i64 0, .int .u64 0, .slice none 0 0], 113⟩, ⟨q5, #[.int .i64 x1, .int .i64 x2, .int .u64 0, .slice none 0 0], 113⟩] p n0 c (2 + 1) L _ := hG2
  clear hG
  replace hG2 := hide hG2
  dsimp only at c4 fz
  (refine wpList_step fun K hK => ?_; replace hK := hide hK; go_simp; refine unhide hK _ _ ?_; clear hK K)
  clear c4 fz
  have hG := unhide hG2
  clear hG2
  generalize World.setCell _ _ _ = u8 at *
  refine wpList_nil ?_
  replace hG : Gt g w [⟨w.heap.size, #[.int .i64 0, .int .i64 0, .int .u64 0, .slice none 0 0], 113⟩, ⟨q5, #[.int .i64 x1, .int .i64 x2, .int .u64 0, .slice none 0 0], 113⟩] p n0 c (3) L u8 := hG
  replace hG := hide hG
  go_upto_region 8 with fail
  replace hG := unhide hG
  refine wp_region_lit ?_
  refine list_val (.pointer (some ⟨g, 0, none⟩)) (by kernel_rfl) (by kernel_rfl) ?_
  simp only [Act.put, List.setIfInBounds_toArray, List.set_cons_zero, List.set_cons_succ, List.getElem_toArray, List.getElem_cons_zero, List.getElem_cons_succ]
  refine list_call 63 #[P0 g] (by kernel_rfl) (by kernel_rfl) ((ru64_ok g p n0 c 3 L u8 hG.rd (by omega) (by omega)).mono ?_)
  rintro r u9 ⟨rfl, hR1, hb1⟩
  replace hG := hG.read hR1 hb1
  clear hR1 hb1
  obtain ⟨x3, hx30⟩ : ∃ x, x = lowN ((L.drop 3).take 8) := ⟨_, rfl⟩
  rw [← hx30]
  refine ⟨_, rfl, ?_⟩
  replace hx30 := hide hx30
  simp only [Act.put, List.setIfInBounds_toArray, List.set_cons_zero, List.set_cons_succ, List.getElem_toArray, List.getElem_cons_zero, List.getElem_cons_succ]
  refine list_val (.pointer (some ⟨q5, 2, none⟩)) (by kernel_rfl) (by kernel_rfl) ?_
  simp only [Act.put, List.setIfInBounds_toArray, List.set_cons_zero, List.set_cons_succ, List.getElem_toArray, List.getElem_cons_zero, List.getElem_cons_succ]
  have c4 := cell_of (hG.get 1 (x := ⟨q5, #[.int .i64 x1, .int .i64 x2, .int .u64 0, .slice none 0 0], 113⟩) rfl) (i := 2) rfl
  have fz := froz_of (i := 2) (hG.get 1 (x := ⟨q5, #[.int .i64 x1, .int .i64 x2, .int .u64 0, .slice none 0 0], 113⟩) rfl)
  have hG2 := hG.cell 1 (x := ⟨q5, #[.int .i64 x1, .int .i64 x2, .int .u64 0, .slice none 0 0], 113⟩) rfl 2 (.int .u64 x3)
  simp only [List.set_cons_zero, List.set_cons_succ] at hG2
  replace hG2 : Gt g w [⟨w.heap.size, #[.int .i64 0, .int .i64 0, .int .u64 0, .slice none 0 0], 113⟩, ⟨q5, #[.int .i64 x1, .int .i64 x2, .int .u64 x3, .slice none 0 0], 113⟩] p n0 c (3 + 8) L _ := hG2
  clear hG
  replace hG2 := hide hG2
  dsimp only at c4 fz
  (refine wpList_step fun K hK => ?_; replace hK := hide hK; go_simp; refine unhide hK _ _ ?_; clear hK K)
  clear c4 fz
  have hG := unhide hG2
  clear hG2
  generalize World.setCell _ _ _ = u10 at *
  refine wpList_nil ?_
  replace hG : Gt g w [⟨w.heap.size, #[.int .i64 0, .int .i64 0, .int .u64 0, .slice none 0 0], 113⟩, ⟨q5, #[.int .i64 x1, .int .i64 x2, .int .u64 x3, .slice none 0 0], 113⟩] p n0 c (11) L u10 := hG
  replace hG := hide hG
  go_upto_region 9 with fail
  replace hG := unhide hG
  refine wp_region_lit ?_
  refine list_val (.pointer (some ⟨g, 0, none⟩)) (by kernel_rfl) (by kernel_rfl) ?_
  simp only [Act.put, List.setIfInBounds_toArray, List.set_cons_zero, List.set_cons_succ, List.getElem_toArray, List.getElem_cons_zero, List.getElem_cons_succ]
  refine list_val (.pointer (some ⟨g, 0, none⟩)) (by kernel_rfl) (by kernel_rfl) ?_
  simp only [Act.put, List.setIfInBounds_toArray, List.set_cons_zero, List.set_cons_succ, List.getElem_toArray, List.getElem_cons_zero, List.getElem_cons_succ]
  refine list_call 66 #[P0 g] (by kernel_rfl) (by kernel_rfl) ((rleft_ok g p n0 c 11 (by omega) (by omega) u10 hG.rd.cel).mono ?_)
  rintro r u11 ⟨rfl, hg1⟩
  replace hG := hG.more hg1
  clear hg1
  obtain ⟨m, hm⟩ : ∃ m, m = n0 - 11 := ⟨_, rfl⟩
  rw [← hm]
  have hm1 : 11 + m ≤ n0 := by omega
  have hm2 : n0 ≤ 11 + m := by omega
  clear hm
  refine ⟨_, rfl, ?_⟩
  simp only [Act.put, List.setIfInBounds_toArray, List.set_cons_zero, List.set_cons_succ, List.getElem_toArray, List.getElem_cons_zero, List.getElem_cons_succ]
  refine list_call 55 #[P0 g, .int .i64 (m : Int)] (by kernel_rfl) (by kernel_rfl) ((rraw_ok g p n0 c 11 m L u11 hG.rd (by omega) (by omega) (by omega)).mono ?_)
  rintro r u12 ⟨v, rfl, hO, hR1, hb1⟩
  rw [show (L.drop 11).take m = L.drop 11 from List.take_of_length_le (by rw [List.length_drop, hL]; omega)] at hO
  have hwo : w.heap.size ≤ u11.heap.size := (hG.gr hwg).size
  replace hO := hide (ob_base hO hwo)
  replace hG := hG.read hR1 hb1
  clear hR1 hb1 hwo
  obtain ⟨va, vc, rfl, _⟩ := ob_lb (unhide hO) (isB_drop (unhide hLb) 11) (n := m) (by rw [List.length_drop, hL]; omega)
  refine ⟨_, rfl, ?_⟩
  simp only [Act.put, List.setIfInBounds_toArray, List.set_cons_zero, List.set_cons_succ, List.getElem_toArray, List.getElem_cons_zero, List.getElem_cons_succ]
  refine list_val (.pointer (some ⟨q5, 3, none⟩)) (by kernel_rfl) (by kernel_rfl) ?_
  simp only [Act.put, List.setIfInBounds_toArray, List.set_cons_zero, List.set_cons_succ, List.getElem_toArray, List.getElem_cons_zero, List.getElem_cons_succ]
  have hbt := setCell_bt u12 q5 3 (.slice va m vc)
  have hq5 := (hG.get 1 (x := ⟨q5, #[.int .i64 x1, .int .i64 x2, .int .u64 x3, .slice none 0 0], 113⟩) rfl)
  dsimp only at hq5
  replace hO := hide (ob_bt (unhide hO) hq5 (by decide) hbt)
  clear hbt hq5
  have c4 := cell_of (hG.get 1 (x := ⟨q5, #[.int .i64 x1, .int .i64 x2, .int .u64 x3, .slice none 0 0], 113⟩) rfl) (i := 3) rfl
  have fz := froz_of (i := 3) (hG.get 1 (x := ⟨q5, #[.int .i64 x1, .int .i64 x2, .int .u64 x3, .slice none 0 0], 113⟩) rfl)
  have hG2 := hG.cell 1 (x := ⟨q5, #[.int .i64 x1, .int .i64 x2, .int .u64 x3, .slice none 0 0], 113⟩) rfl 3 (.slice va m vc)
  simp only [List.set_cons_zero, List.set_cons_succ] at hG2
  replace hG2 : Gt g w [⟨w.heap.size, #[.int .i64 0, .int .i64 0, .int .u64 0, .slice none 0 0], 113⟩, ⟨q5, #[.int .i64 x1, .int .i64 x2, .int .u64 x3, .slice va m vc], 113⟩] p n0 c (11 + m) L _ := hG2
  clear hG
  replace hG2 := hide hG2
  dsimp only at c4 fz
  (refine wpList_step fun K hK => ?_; replace hK := hide hK; go_simp; refine unhide hK _ _ ?_; clear hK K)
  clear c4 fz
  have hG := unhide hG2
  clear hG2
  generalize World.setCell _ _ _ = u13 at *
  refine wpList_nil ?_
  unfold pkE at hF
  rw [← unhide hx10, ← unhide hx20, ← unhide hx30, ← unhide hf10] at hF
  by_cases hf : f1 = 3
  · skip
    have hE := (unhide hF).resolve_left (fun e => e hf)
    subst hf
    replace hG := hide hG
    go_upto_region 10 with fail
    replace hG := unhide hG
    refine wp_region_lit ?_
    refine list_val (.int .i64 3) (by kernel_rfl) (by kernel_rfl) ?_
    simp only [Act.put, List.setIfInBounds_toArray, List.set_cons_zero, List.set_cons_succ, List.getElem_toArray, List.getElem_cons_zero, List.getElem_cons_succ]
    refine list_val (.int .i64 3) (by kernel_rfl) (by kernel_rfl) ?_
    simp only [Act.put, List.setIfInBounds_toArray, List.set_cons_zero, List.set_cons_succ, List.getElem_toArray, List.getElem_cons_zero, List.getElem_cons_succ]
    refine list_val (.bool false) (by kernel_rfl) (by kernel_rfl) ?_
    simp only [Act.put, List.setIfInBounds_toArray, List.set_cons_zero, List.set_cons_succ, List.getElem_toArray, List.getElem_cons_zero, List.getElem_cons_succ]
    refine list_val (.bool false) (by kernel_rfl) (by kernel_rfl) ?_
    simp only [Act.put, List.setIfInBounds_toArray, List.set_cons_zero, List.set_cons_succ, List.getElem_toArray, List.getElem_cons_zero, List.getElem_cons_succ]
    refine list_val (.agg #[.int .i64 x1, .int .i64 x2, .int .u64 x3, .slice va m vc]) (by kernel_rfl) (exec_arr _ 113 (.tmp 10) rfl q5 (by kernel_rfl) #[.int .i64 x1, .int .i64 x2, .int .u64 x3, .slice va m vc] 113 _ (hG.get 1 (x := ⟨q5, #[.int .i64 x1, .int .i64 x2, .int .u64 x3, .slice va m vc], 113⟩) rfl) Try.underlying113 rfl (by rw [Try.infoP]; rfl)) ?_
    simp only [Act.put, List.setIfInBounds_toArray, List.set_cons_zero, List.set_cons_succ, List.getElem_toArray, List.getElem_cons_zero, List.getElem_cons_succ]
    refine list_call 79 #[.agg #[.int .i64 x1, .int .i64 x2, .int .u64 x3, .slice va m vc]] (by kernel_rfl) (by kernel_rfl) ((fpm_ok x1 x2 x3 va m vc u13).mono ?_)
    rintro r_ u14 ⟨rfl, hg1⟩
    rw [hE]
    replace hG := hG.more hg1
    replace hO := hide ((unhide hO).gr hg1)
    clear hg1
    refine ⟨_, rfl, ?_⟩
    simp only [Act.put, List.setIfInBounds_toArray, List.set_cons_zero, List.set_cons_succ, List.getElem_toArray, List.getElem_cons_zero, List.getElem_cons_succ]
    refine list_val (.bool true) (by kernel_rfl) (by kernel_rfl) ?_
    simp only [Act.put, List.setIfInBounds_toArray, List.set_cons_zero, List.set_cons_succ, List.getElem_toArray, List.getElem_cons_zero, List.getElem_cons_succ]
    refine list_val (.bool true) (by kernel_rfl) (by kernel_rfl) ?_
    simp only [Act.put, List.setIfInBounds_toArray, List.set_cons_zero, List.set_cons_succ, List.getElem_toArray, List.getElem_cons_zero, List.getElem_cons_succ]
    refine wpList_nil ?_
    replace hG := hide hG
    go_upto_region 11 with fail
    replace hG := unhide hG
    refine wp_region_lit ?_
    refine list_val (.agg #[.int .i64 0, .int .i64 0, .int .u64 0, .slice none 0 0]) (by kernel_rfl) (by kernel_rfl) ?_
    simp only [Act.put, List.setIfInBounds_toArray, List.set_cons_zero, List.set_cons_succ, List.getElem_toArray, List.getElem_cons_zero, List.getElem_cons_succ]
    refine list_store 113 (.tmp 6) (.tmp 44) (w.heap.size) #[.int .i64 0, .int .i64 0, .int .u64 0, .slice none 0 0] 113 #[.int .i64 0, .int .i64 0, .int .u64 0, .slice none 0 0] (by kernel_rfl) rfl (by kernel_rfl) (by kernel_rfl) (hG.get 0 (x := ⟨w.heap.size, #[.int .i64 0, .int .i64 0, .int .u64 0, .slice none 0 0], 113⟩) rfl) (by rw [Try.infoP]; rfl) rfl (by simp [Value.oneCell']) ?_
    have hbt := setRow_bt u14 (w.heap.size) #[.int .i64 0, .int .i64 0, .int .u64 0, .slice none 0 0]
    have hq5 := (hG.get 0 (x := ⟨w.heap.size, #[.int .i64 0, .int .i64 0, .int .u64 0, .slice none 0 0], 113⟩) rfl)
    dsimp only at hq5
    replace hO := hide (ob_bt (unhide hO) hq5 (by decide) hbt)
    clear hbt hq5
    replace hG := hG.set 0 (x := ⟨w.heap.size, #[.int .i64 0, .int .i64 0, .int .u64 0, .slice none 0 0], 113⟩) rfl #[.int .i64 0, .int .i64 0, .int .u64 0, .slice none 0 0]
    simp only [List.set_cons_zero, List.set_cons_succ] at hG
    generalize World.setRow _ _ _ = u15 at *
    replace hG : Gt g w [⟨w.heap.size, #[.int .i64 0, .int .i64 0, .int .u64 0, .slice none 0 0], 113⟩, ⟨q5, #[.int .i64 x1, .int .i64 x2, .int .u64 x3, .slice va m vc], 113⟩] p n0 c (11 + m) L u15 := hG
    simp only [Act.put, List.setIfInBounds_toArray, List.set_cons_zero, List.set_cons_succ, List.getElem_toArray, List.getElem_cons_zero, List.getElem_cons_succ]
    (refine wpList_step fun K hK => ?_; replace hK := hide hK; go_simp; refine unhide hK _ _ ?_; clear hK K)
    refine wpList_nil ?_
    have hbk : Hid (u15.heap[w.heap.size]? = some (.cells #[.int .i64 0, .int .i64 0, .int .u64 0, .slice none 0 0] 113 (0, 0))) := (hG.get 0 (x := ⟨w.heap.size, #[.int .i64 0, .int .i64 0, .int .u64 0, .slice none 0 0], 113⟩) rfl)
    have hP : Hid (T (.returned (.tuple #[.agg #[.int .i64 0, .int .i64 0, .int .u64 0, .slice none 0 0], .int .i64 241])) u15) := by
      rw [unhide hT]
      exact ⟨rfl, hG.gr hwg⟩
    clear hG
    go_wp2_with fail
    exact bodyPost_ret (v := .tuple #[.agg #[.int .i64 0, .int .i64 0, .int .u64 0, .slice none 0 0], .int .i64 241]) (results_cell_tmp Try.results69 _ _ (w.heap.size) 113 #[.int .i64 0, .int .i64 0, .int .u64 0, .slice none 0 0] (0, 0) _ rfl (.int .i64 241) rfl (unhide hbk) Try.underlying113 rfl (by rw [Try.infoP]; rfl)) rfl (unhide hP)
  · skip
    replace hG := hide hG
    go_upto_region 10 with fail
    replace hG := unhide hG
    refine wp_region_lit ?_
    refine list_val (.int .i64 f1) (by kernel_rfl) (by kernel_rfl) ?_
    simp only [Act.put, List.setIfInBounds_toArray, List.set_cons_zero, List.set_cons_succ, List.getElem_toArray, List.getElem_cons_zero, List.getElem_cons_succ]
    refine list_val (.int .i64 3) (by kernel_rfl) (by kernel_rfl) ?_
    simp only [Act.put, List.setIfInBounds_toArray, List.set_cons_zero, List.set_cons_succ, List.getElem_toArray, List.getElem_cons_zero, List.getElem_cons_succ]
    refine list_val (.bool true) (by kernel_rfl) (by go_simp) ?_
    simp only [Act.put, List.setIfInBounds_toArray, List.set_cons_zero, List.set_cons_succ, List.getElem_toArray, List.getElem_cons_zero, List.getElem_cons_succ]
    refine list_val (.bool true) (by kernel_rfl) (by kernel_rfl) ?_
    simp only [Act.put, List.setIfInBounds_toArray, List.set_cons_zero, List.set_cons_succ, List.getElem_toArray, List.getElem_cons_zero, List.getElem_cons_succ]
    refine wpList_step fun K hK => ?_
    rw [if_neg (ne_true_of_eq_false (by kernel_rfl))]
    refine hK _ _ ?_
    clear hK K
    simp only [Act.put, List.setIfInBounds_toArray, List.set_cons_zero, List.set_cons_succ, List.getElem_toArray, List.getElem_cons_zero, List.getElem_cons_succ]
    refine wpList_step fun K hK => ?_
    rw [if_neg (ne_true_of_eq_false (by kernel_rfl))]
    refine hK _ _ ?_
    clear hK K
    simp only [Act.put, List.setIfInBounds_toArray, List.set_cons_zero, List.set_cons_succ, List.getElem_toArray, List.getElem_cons_zero, List.getElem_cons_succ]
    refine wpList_step fun K hK => ?_
    rw [if_neg (ne_true_of_eq_false (by kernel_rfl))]
    refine hK _ _ ?_
    clear hK K
    simp only [Act.put, List.setIfInBounds_toArray, List.set_cons_zero, List.set_cons_succ, List.getElem_toArray, List.getElem_cons_zero, List.getElem_cons_succ]
    refine list_val (.bool true) (by kernel_rfl) (by kernel_rfl) ?_
    simp only [Act.put, List.setIfInBounds_toArray, List.set_cons_zero, List.set_cons_succ, List.getElem_toArray, List.getElem_cons_zero, List.getElem_cons_succ]
    refine wpList_nil ?_
    replace hG := hide hG
    go_upto_region 11 with fail
    replace hG := unhide hG
    refine wp_region_lit ?_
    refine list_val (.agg #[.int .i64 0, .int .i64 0, .int .u64 0, .slice none 0 0]) (by kernel_rfl) (by kernel_rfl) ?_
    simp only [Act.put, List.setIfInBounds_toArray, List.set_cons_zero, List.set_cons_succ, List.getElem_toArray, List.getElem_cons_zero, List.getElem_cons_succ]
    refine list_store 113 (.tmp 6) (.tmp 44) (w.heap.size) #[.int .i64 0, .int .i64 0, .int .u64 0, .slice none 0 0] 113 #[.int .i64 0, .int .i64 0, .int .u64 0, .slice none 0 0] (by kernel_rfl) rfl (by kernel_rfl) (by kernel_rfl) (hG.get 0 (x := ⟨w.heap.size, #[.int .i64 0, .int .i64 0, .int .u64 0, .slice none 0 0], 113⟩) rfl) (by rw [Try.infoP]; rfl) rfl (by simp [Value.oneCell']) ?_
    have hbt := setRow_bt u13 (w.heap.size) #[.int .i64 0, .int .i64 0, .int .u64 0, .slice none 0 0]
    have hq5 := (hG.get 0 (x := ⟨w.heap.size, #[.int .i64 0, .int .i64 0, .int .u64 0, .slice none 0 0], 113⟩) rfl)
    dsimp only at hq5
    replace hO := hide (ob_bt (unhide hO) hq5 (by decide) hbt)
    clear hbt hq5
    replace hG := hG.set 0 (x := ⟨w.heap.size, #[.int .i64 0, .int .i64 0, .int .u64 0, .slice none 0 0], 113⟩) rfl #[.int .i64 0, .int .i64 0, .int .u64 0, .slice none 0 0]
    simp only [List.set_cons_zero, List.set_cons_succ] at hG
    generalize World.setRow _ _ _ = u15 at *
    replace hG : Gt g w [⟨w.heap.size, #[.int .i64 0, .int .i64 0, .int .u64 0, .slice none 0 0], 113⟩, ⟨q5, #[.int .i64 x1, .int .i64 x2, .int .u64 x3, .slice va m vc], 113⟩] p n0 c (11 + m) L u15 := hG
    simp only [Act.put, List.setIfInBounds_toArray, List.set_cons_zero, List.set_cons_succ, List.getElem_toArray, List.getElem_cons_zero, List.getElem_cons_succ]
    (refine wpList_step fun K hK => ?_; replace hK := hide hK; go_simp; refine unhide hK _ _ ?_; clear hK K)
    refine wpList_nil ?_
    have hbk : Hid (u15.heap[w.heap.size]? = some (.cells #[.int .i64 0, .int .i64 0, .int .u64 0, .slice none 0 0] 113 (0, 0))) := (hG.get 0 (x := ⟨w.heap.size, #[.int .i64 0, .int .i64 0, .int .u64 0, .slice none 0 0], 113⟩) rfl)
    have hP : Hid (T (.returned (.tuple #[.agg #[.int .i64 0, .int .i64 0, .int .u64 0, .slice none 0 0], .int .i64 241])) u15) := by
      rw [unhide hT]
      exact ⟨rfl, hG.gr hwg⟩
    clear hG
    go_wp2_with fail
    exact bodyPost_ret (v := .tuple #[.agg #[.int .i64 0, .int .i64 0, .int .u64 0, .slice none 0 0], .int .i64 241]) (results_cell_tmp Try.results69 _ _ (w.heap.size) 113 #[.int .i64 0, .int .i64 0, .int .u64 0, .slice none 0 0] (0, 0) _ rfl (.int .i64 241) rfl (unhide hbk) Try.underlying113 rfl (by rw [Try.infoP]; rfl)) rfl (unhide hP)
end Go.Proofs.Ytfmocneoffkmpaa
