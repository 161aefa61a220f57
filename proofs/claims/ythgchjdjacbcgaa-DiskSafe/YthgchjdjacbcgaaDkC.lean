/-
  The reference: New, Read, done, Arm, all.
-/
import Derived.Test.YthgchjdjacbcgaaDkB
namespace Go.Proofs.Ythgchjdjacbcgaa
open Go.RowKit
set_option maxRecDepth 100000
set_option linter.unusedSimpArgs false
set_option linter.unusedVariables false
theorem exec_sb {op : Oper} {a : Act} (w : World) (x : Operand) (ho : op.op = .load 28 x) (g i : Nat) (hx : a.eval x = .pointer (some ⟨g, i, none⟩)) (s : Option Addr) (n c : Nat) (hc : w.cell? ⟨g, i, none⟩ = some (.slice s n c)) : (execOp a.eval op).run Try.prog w = .ok (.value (.slice s n c)) w := by
  unfold execOp
  simp only [ho, hx, Instr.loadAt, Instr.sureAddr, Sem.run_bind, Sem.run_pure, Result.andThen_ok]
  go_simp
theorem exec_sw {op : Oper} {a : Act} (w : World) (x : Operand) (ho : op.op = .load 29 x) (g i : Nat) (hx : a.eval x = .pointer (some ⟨g, i, none⟩)) (s : Option Addr) (n c : Nat) (hc : w.cell? ⟨g, i, none⟩ = some (.slice s n c)) : (execOp a.eval op).run Try.prog w = .ok (.value (.slice s n c)) w := by
  unfold execOp
  simp only [ho, hx, Instr.loadAt, Instr.sureAddr, Sem.run_bind, Sem.run_pure, Result.andThen_ok]
  go_simp
theorem exec_sk {op : Oper} {a : Act} (w : World) (x : Operand) (ho : op.op = .load 35 x) (g i : Nat) (hx : a.eval x = .pointer (some ⟨g, i, none⟩)) (s : Option Addr) (n c : Nat) (hc : w.cell? ⟨g, i, none⟩ = some (.slice s n c)) : (execOp a.eval op).run Try.prog w = .ok (.value (.slice s n c)) w := by
  unfold execOp
  simp only [ho, hx, Instr.loadAt, Instr.sureAddr, Sem.run_bind, Sem.run_pure, Result.andThen_ok]
  go_simp
theorem exec_si {op : Oper} {a : Act} (w : World) (x : Operand) (ho : op.op = .load 50 x) (g i : Nat) (hx : a.eval x = .pointer (some ⟨g, i, none⟩)) (s : Option Addr) (n c : Nat) (hc : w.cell? ⟨g, i, none⟩ = some (.slice s n c)) : (execOp a.eval op).run Try.prog w = .ok (.value (.slice s n c)) w := by
  unfold execOp
  simp only [ho, hx, Instr.loadAt, Instr.sureAddr, Sem.run_bind, Sem.run_pure, Result.andThen_ok]
  go_simp
theorem exec_so {op : Oper} {a : Act} (w : World) (x : Operand) (ho : op.op = .load 22 x) (g i : Nat) (hx : a.eval x = .pointer (some ⟨g, i, none⟩)) (s : Option Addr) (n c : Nat) (hc : w.cell? ⟨g, i, none⟩ = some (.slice s n c)) : (execOp a.eval op).run Try.prog w = .ok (.value (.slice s n c)) w := by
  unfold execOp
  simp only [ho, hx, Instr.loadAt, Instr.sureAddr, Sem.run_bind, Sem.run_pure, Result.andThen_ok]
  go_simp
theorem exec_ib {a : Act} {o : Oper} (w : World) (x y : Operand) (ho : o.op = .indexAddr 28 x y) (g q len cap i : Nat) (hx : a.eval x = .slice (some ⟨g, q, none⟩) len cap) (hy : a.eval y = .int .i64 i) (hi : i < len) :
    (execOp a.eval o).run Try.prog w = .ok (.value (.pointer (some ⟨g, q + 64 * i, none⟩))) w := by
  have h1 : (i : Int) < (len : Int) := by omega
  unfold execOp
  simp only [ho, hx, hy]
  go_simp
theorem exec_iw {a : Act} {o : Oper} (w : World) (x y : Operand) (ho : o.op = .indexAddr 29 x y) (g q len cap i : Nat) (hx : a.eval x = .slice (some ⟨g, q, none⟩) len cap) (hy : a.eval y = .int .i64 i) (hi : i < len) :
    (execOp a.eval o).run Try.prog w = .ok (.value (.pointer (some ⟨g, q + 65 * i, none⟩))) w := by
  have h1 : (i : Int) < (len : Int) := by omega
  unfold execOp
  simp only [ho, hx, hy]
  go_simp
theorem exec_ik {a : Act} {o : Oper} (w : World) (x y : Operand) (ho : o.op = .indexAddr 35 x y) (g q len cap i : Nat) (hx : a.eval x = .slice (some ⟨g, q, none⟩) len cap) (hy : a.eval y = .int .i64 i) (hi : i < len) :
    (execOp a.eval o).run Try.prog w = .ok (.value (.pointer (some ⟨g, q + i, none⟩))) w := by
  have h1 : (i : Int) < (len : Int) := by omega
  unfold execOp
  simp only [ho, hx, hy]
  go_simp
theorem exec_ii {a : Act} {o : Oper} (w : World) (x y : Operand) (ho : o.op = .indexAddr 50 x y) (g q len cap i : Nat) (hx : a.eval x = .slice (some ⟨g, q, none⟩) len cap) (hy : a.eval y = .int .i64 i) (hi : i < len) :
    (execOp a.eval o).run Try.prog w = .ok (.value (.pointer (some ⟨g, q + i, none⟩))) w := by
  have h1 : (i : Int) < (len : Int) := by omega
  unfold execOp
  simp only [ho, hx, hy]
  go_simp
theorem exec_io {a : Act} {o : Oper} (w : World) (x y : Operand) (ho : o.op = .indexAddr 22 x y) (g q len cap i : Nat) (hx : a.eval x = .slice (some ⟨g, q, none⟩) len cap) (hy : a.eval y = .int .i64 i) (hi : i < len) :
    (execOp a.eval o).run Try.prog w = .ok (.value (.pointer (some ⟨g, q + 4 * i, none⟩))) w := by
  have h1 : (i : Int) < (len : Int) := by omega
  unfold execOp
  simp only [ho, hx, hy]
  go_simp
theorem exec_bool {op : Oper} {a : Act} (w : World) (x : Operand) (ho : op.op = .load 4 x) (g i : Nat) (hx : a.eval x = .pointer (some ⟨g, i, none⟩)) (v : Bool) (hc : w.cell? ⟨g, i, none⟩ = some (.bool v)) : (execOp a.eval op).run Try.prog w = .ok (.value (.bool v)) w := by
  unfold execOp
  simp only [ho, hx, Instr.loadAt, Instr.sureAddr, Sem.run_bind, Sem.run_pure, Result.andThen_ok]
  go_simp
theorem Try.infoB : (Try.prog.info? 39).map (·.size) = some 64 := by kernel_rfl
theorem Try.infoRD : (Try.prog.info? 31).map (·.size) = some 5 := by kernel_rfl
theorem Try.infoW : (Try.prog.info? 73).map (·.size) = some 65 := by kernel_rfl
/-- a block and an error -/
def Rrd (b : List Int) (e : Int) (w : World) (r : Ending) (w' : World) : Prop := r = .returned (.tuple #[.agg (kc b), .int .i64 e]) ∧ Gr w w'
theorem ZB_len : ZB.length = 64 := rfl
set_option maxHeartbeats 4000000 in
theorem rread_ok (S : List (List Int)) (P : List (Nat × List Int)) (dd : Bool) (lf : Int) (os m : Nat) (hD : (Dk.mk S P dd lf os).Ok m) (hm : m ≤ 1000001) (sa : Option Addr) (sc : Nat) (pa : Option Addr) (pc : Nat) (i : Int) (w : World) (hR : Rd w sa sc pa pc (Dk.mk S P dd lf os)) :
    Calls Try.prog 18 #[.agg ((Dk.mk S P dd lf os).v sa sc pa pc), .int .i64 i] w (Rrd ((Dk.mk S P dd lf os).readB i) ((Dk.mk S P dd lf os).readE i) w) := by
  obtain ⟨T, hT⟩ : ∃ T, T = Rrd ((Dk.mk S P dd lf os).readB i) ((Dk.mk S P dd lf os).readE i) w := ⟨_, rfl⟩
  rw [← hT]
  replace hT := hide hT
  obtain ⟨sn, hsn⟩ : ∃ n, n = S.length := ⟨_, rfl⟩
  obtain ⟨pn, hpn⟩ : ∃ n, n = P.length := ⟨_, rfl⟩
  have hs512 : sn ≤ 512 := by rw [hsn]; exact hD.hi1
  have hpm : pn ≤ m := by rw [hpn]; exact hD.num
  obtain ⟨SD, hSD⟩ : ∃ X, X = dkv sa sn sc pa pn pc dd lf os := ⟨_, rfl⟩
  have e0 : (Dk.mk S P dd lf os).v sa sc pa pc = SD := by rw [hSD, hsn, hpn]; rfl
  rw [e0]
  clear e0
  replace hSD := hide hSD; replace hsn := hide hsn; replace hpn := hide hpn; replace hR := hide hR; replace hD := hide hD
  go_enter Try.func18, Try.ntmps18
  go_upto_region 1 with fail
  have hB := ((Bl.nil w).new SD 31).new #[.int .u8 0, .int .u8 0, .int .u8 0, .int .u8 0, .int .u8 0, .int .u8 0, .int .u8 0, .int .u8 0, .int .u8 0, .int .u8 0, .int .u8 0, .int .u8 0, .int .u8 0, .int .u8 0, .int .u8 0, .int .u8 0, .int .u8 0, .int .u8 0, .int .u8 0, .int .u8 0, .int .u8 0, .int .u8 0, .int .u8 0, .int .u8 0, .int .u8 0, .int .u8 0, .int .u8 0, .int .u8 0, .int .u8 0, .int .u8 0, .int .u8 0, .int .u8 0, .int .u8 0, .int .u8 0, .int .u8 0, .int .u8 0, .int .u8 0, .int .u8 0, .int .u8 0, .int .u8 0, .int .u8 0, .int .u8 0, .int .u8 0, .int .u8 0, .int .u8 0, .int .u8 0, .int .u8 0, .int .u8 0, .int .u8 0, .int .u8 0, .int .u8 0, .int .u8 0, .int .u8 0, .int .u8 0, .int .u8 0, .int .u8 0, .int .u8 0, .int .u8 0, .int .u8 0, .int .u8 0, .int .u8 0, .int .u8 0, .int .u8 0, .int .u8 0] 39
  simp only [size_alloc, List.nil_append, List.cons_append] at hB
  generalize World.alloc _ _ = u at *
  rw [unhide hSD] at hB
  replace hB : Bl w [⟨w.heap.size, dkv sa sn sc pa pn pc dd lf os, 31⟩, ⟨w.heap.size + 1, kc ZB, 39⟩] u := hB
  refine wp_region_lit ?_
  refine list_val (.pointer (some ⟨w.heap.size, 2, none⟩)) (by kernel_rfl) (by kernel_rfl) ?_
  simp only [Act.put, List.setIfInBounds_toArray, List.set_cons_zero, List.set_cons_succ, List.getElem_toArray, List.getElem_cons_zero, List.getElem_cons_succ]
  refine list_val (.bool dd) (by kernel_rfl) (exec_bool _ (.tmp 9) rfl (w.heap.size) 2 (by kernel_rfl) dd (cell_of (hB.get 0 (x := ⟨w.heap.size, dkv sa sn sc pa pn pc dd lf os, 31⟩) rfl) (i := 2) rfl)) ?_
  simp only [Act.put, List.setIfInBounds_toArray, List.set_cons_zero, List.set_cons_succ, List.getElem_toArray, List.getElem_cons_zero, List.getElem_cons_succ]
  refine wpList_nil ?_
  cases hdd : dd
  case true =>
    subst hdd
    replace hB := hide hB
    go_upto_region 2 with fail
    replace hB := unhide hB
    refine wp_region_lit ?_
    refine list_val (.agg (kc ZB)) (by kernel_rfl) (by kernel_rfl) ?_
    simp only [Act.put, List.setIfInBounds_toArray, List.set_cons_zero, List.set_cons_succ, List.getElem_toArray, List.getElem_cons_zero, List.getElem_cons_succ]
    refine list_store 39 (.tmp 4) (.tmp 11) (w.heap.size + 1) (kc ZB) 39 (kc ZB) (by kernel_rfl) rfl (by kernel_rfl) (by kernel_rfl) (hB.get 1 (x := ⟨w.heap.size + 1, kc ZB, 39⟩) rfl) (by rw [Try.infoB, kc_size, ZB_len]) ((show (kc ZB).size = 64 from rfl).trans ((kc_size _).trans ZB_len).symm) (kc_one _) ?_
    replace hB := hB.set 1 (x := ⟨w.heap.size + 1, kc ZB, 39⟩) rfl (kc ZB)
    simp only [List.set_cons_zero, List.set_cons_succ] at hB
    generalize World.setRow _ _ _ = u9 at *
    replace hB : Bl w [⟨w.heap.size, dkv sa sn sc pa pn pc true lf os, 31⟩, ⟨w.heap.size + 1, kc ZB, 39⟩] u9 := hB
    simp only [Act.put, List.setIfInBounds_toArray, List.set_cons_zero, List.set_cons_succ, List.getElem_toArray, List.getElem_cons_zero, List.getElem_cons_succ]
    (refine wpList_step fun K hK => ?_; replace hK := hide hK; go_simp; refine unhide hK _ _ ?_; clear hK K)
    refine wpList_nil ?_
    have hE : (Dk.mk S P true lf os).readB i = ZB ∧ (Dk.mk S P true lf os).readE i = 7 := by
      exact ⟨by simp [Dk.readB], by simp [Dk.readE]⟩
    replace hB := hide hB
    go_wp2_with fail
    replace hB := unhide hB
    rw [unhide hT]
    exact bodyPost_ret (v := .tuple #[.agg (kc ZB), .int .i64 7]) (results_cell_tmp Try.results18 _ _ (w.heap.size + 1) 39 (kc ZB) (0, 0) _ rfl (.int .i64 7) rfl (hB.get 1 (x := ⟨w.heap.size + 1, kc ZB, 39⟩) rfl) Try.underlying39 rfl ((by rw [Try.infoB]; rfl))) rfl (⟨by rw [hE.1, hE.2], hB.gr⟩)
  case false =>
  subst hdd
  replace hB := hide hB
  go_upto_region 3 with fail
  replace hB := unhide hB
  by_cases hi0 : i < 0
  · skip
    refine wp_region_lit ?_
    refine list_val (.int .i64 i) (by kernel_rfl) (by kernel_rfl) ?_
    simp only [Act.put, List.setIfInBounds_toArray, List.set_cons_zero, List.set_cons_succ, List.getElem_toArray, List.getElem_cons_zero, List.getElem_cons_succ]
    refine list_val (.bool true) (by kernel_rfl) (by go_simp) ?_
    simp only [Act.put, List.setIfInBounds_toArray, List.set_cons_zero, List.set_cons_succ, List.getElem_toArray, List.getElem_cons_zero, List.getElem_cons_succ]
    refine list_val (.bool true) (by kernel_rfl) (by kernel_rfl) ?_
    simp only [Act.put, List.setIfInBounds_toArray, List.set_cons_zero, List.set_cons_succ, List.getElem_toArray, List.getElem_cons_zero, List.getElem_cons_succ]
    refine wpList_step fun K hK => ?_
    rw [if_neg (ne_true_of_eq_false (by kernel_rfl))]
    refine hK _ _ ?_
    clear hK K
    simp only [Act.put, List.setIfInBounds_toArray, List.set_cons_zero, List.set_cons_succ, List.getElem_toArray, List.getElem_cons_zero, List.getElem_cons_succ]
    refine wpList_step fun K hK => ?_
    rw [if_neg (ne_true_of_eq_false (by kernel_rfl))]
    refine hK _ _ ?_
    clear hK K
    simp only [Act.put, List.setIfInBounds_toArray, List.set_cons_zero, List.set_cons_succ, List.getElem_toArray, List.getElem_cons_zero, List.getElem_cons_succ]
    refine wpList_step fun K hK => ?_
    rw [if_neg (ne_true_of_eq_false (by kernel_rfl))]
    refine hK _ _ ?_
    clear hK K
    simp only [Act.put, List.setIfInBounds_toArray, List.set_cons_zero, List.set_cons_succ, List.getElem_toArray, List.getElem_cons_zero, List.getElem_cons_succ]
    refine wpList_step fun K hK => ?_
    rw [if_neg (ne_true_of_eq_false (by kernel_rfl))]
    refine hK _ _ ?_
    clear hK K
    simp only [Act.put, List.setIfInBounds_toArray, List.set_cons_zero, List.set_cons_succ, List.getElem_toArray, List.getElem_cons_zero, List.getElem_cons_succ]
    refine wpList_step fun K hK => ?_
    rw [if_neg (ne_true_of_eq_false (by kernel_rfl))]
    refine hK _ _ ?_
    clear hK K
    simp only [Act.put, List.setIfInBounds_toArray, List.set_cons_zero, List.set_cons_succ, List.getElem_toArray, List.getElem_cons_zero, List.getElem_cons_succ]
    refine list_val (.bool true) (by kernel_rfl) (by kernel_rfl) ?_
    simp only [Act.put, List.setIfInBounds_toArray, List.set_cons_zero, List.set_cons_succ, List.getElem_toArray, List.getElem_cons_zero, List.getElem_cons_succ]
    refine wpList_nil ?_
    replace hB := hide hB
    go_upto_region 4 with fail
    replace hB := unhide hB
    refine wp_region_lit ?_
    refine list_val (.agg (kc ZB)) (by kernel_rfl) (by kernel_rfl) ?_
    simp only [Act.put, List.setIfInBounds_toArray, List.set_cons_zero, List.set_cons_succ, List.getElem_toArray, List.getElem_cons_zero, List.getElem_cons_succ]
    refine list_store 39 (.tmp 4) (.tmp 21) (w.heap.size + 1) (kc ZB) 39 (kc ZB) (by kernel_rfl) rfl (by kernel_rfl) (by kernel_rfl) (hB.get 1 (x := ⟨w.heap.size + 1, kc ZB, 39⟩) rfl) (by rw [Try.infoB, kc_size, ZB_len]) ((show (kc ZB).size = 64 from rfl).trans ((kc_size _).trans ZB_len).symm) (kc_one _) ?_
    replace hB := hB.set 1 (x := ⟨w.heap.size + 1, kc ZB, 39⟩) rfl (kc ZB)
    simp only [List.set_cons_zero, List.set_cons_succ] at hB
    generalize World.setRow _ _ _ = u9 at *
    replace hB : Bl w [⟨w.heap.size, dkv sa sn sc pa pn pc false lf os, 31⟩, ⟨w.heap.size + 1, kc ZB, 39⟩] u9 := hB
    simp only [Act.put, List.setIfInBounds_toArray, List.set_cons_zero, List.set_cons_succ, List.getElem_toArray, List.getElem_cons_zero, List.getElem_cons_succ]
    (refine wpList_step fun K hK => ?_; replace hK := hide hK; go_simp; refine unhide hK _ _ ?_; clear hK K)
    refine wpList_nil ?_
    have hE : (Dk.mk S P false lf os).readB i = ZB ∧ (Dk.mk S P false lf os).readE i = 2 := by
      have h : ¬ (Dk.mk S P false lf os).has i := by unfold Dk.has; omega
      exact ⟨by simp [Dk.readB, h], by simp [Dk.readE, h]⟩
    replace hB := hide hB
    go_wp2_with fail
    replace hB := unhide hB
    rw [unhide hT]
    exact bodyPost_ret (v := .tuple #[.agg (kc ZB), .int .i64 2]) (results_cell_tmp Try.results18 _ _ (w.heap.size + 1) 39 (kc ZB) (0, 0) _ rfl (.int .i64 2) rfl (hB.get 1 (x := ⟨w.heap.size + 1, kc ZB, 39⟩) rfl) Try.underlying39 rfl ((by rw [Try.infoB]; rfl))) rfl (⟨by rw [hE.1, hE.2], hB.gr⟩)
  by_cases hi1 : (sn : Int) ≤ i
  · skip
    refine wp_region_lit ?_
    refine list_val (.int .i64 i) (by kernel_rfl) (by kernel_rfl) ?_
    simp only [Act.put, List.setIfInBounds_toArray, List.set_cons_zero, List.set_cons_succ, List.getElem_toArray, List.getElem_cons_zero, List.getElem_cons_succ]
    refine list_val (.bool false) (by kernel_rfl) (by go_simp) ?_
    simp only [Act.put, List.setIfInBounds_toArray, List.set_cons_zero, List.set_cons_succ, List.getElem_toArray, List.getElem_cons_zero, List.getElem_cons_succ]
    refine list_val (.bool false) (by kernel_rfl) (by kernel_rfl) ?_
    simp only [Act.put, List.setIfInBounds_toArray, List.set_cons_zero, List.set_cons_succ, List.getElem_toArray, List.getElem_cons_zero, List.getElem_cons_succ]
    refine list_val (.int .i64 i) (by kernel_rfl) (by kernel_rfl) ?_
    simp only [Act.put, List.setIfInBounds_toArray, List.set_cons_zero, List.set_cons_succ, List.getElem_toArray, List.getElem_cons_zero, List.getElem_cons_succ]
    refine list_val (.pointer (some ⟨w.heap.size, 0, none⟩)) (by kernel_rfl) (by kernel_rfl) ?_
    simp only [Act.put, List.setIfInBounds_toArray, List.set_cons_zero, List.set_cons_succ, List.getElem_toArray, List.getElem_cons_zero, List.getElem_cons_succ]
    refine list_val (.slice sa sn sc) (by kernel_rfl) (exec_sb _ (.tmp 16) rfl (w.heap.size) 0 (by kernel_rfl) sa sn sc (cell_of (hB.get 0 (x := ⟨w.heap.size, dkv sa sn sc pa pn pc false lf os, 31⟩) rfl) (i := 0) rfl)) ?_
    simp only [Act.put, List.setIfInBounds_toArray, List.set_cons_zero, List.set_cons_succ, List.getElem_toArray, List.getElem_cons_zero, List.getElem_cons_succ]
    refine list_val (.int .i64 sn) (by kernel_rfl) (by kernel_rfl) ?_
    simp only [Act.put, List.setIfInBounds_toArray, List.set_cons_zero, List.set_cons_succ, List.getElem_toArray, List.getElem_cons_zero, List.getElem_cons_succ]
    refine list_val (.bool true) (by kernel_rfl) (by go_simp) ?_
    simp only [Act.put, List.setIfInBounds_toArray, List.set_cons_zero, List.set_cons_succ, List.getElem_toArray, List.getElem_cons_zero, List.getElem_cons_succ]
    refine list_val (.bool true) (by kernel_rfl) (by kernel_rfl) ?_
    simp only [Act.put, List.setIfInBounds_toArray, List.set_cons_zero, List.set_cons_succ, List.getElem_toArray, List.getElem_cons_zero, List.getElem_cons_succ]
    refine wpList_nil ?_
    replace hB := hide hB
    go_upto_region 4 with fail
    replace hB := unhide hB
    refine wp_region_lit ?_
    refine list_val (.agg (kc ZB)) (by kernel_rfl) (by kernel_rfl) ?_
    simp only [Act.put, List.setIfInBounds_toArray, List.set_cons_zero, List.set_cons_succ, List.getElem_toArray, List.getElem_cons_zero, List.getElem_cons_succ]
    refine list_store 39 (.tmp 4) (.tmp 21) (w.heap.size + 1) (kc ZB) 39 (kc ZB) (by kernel_rfl) rfl (by kernel_rfl) (by kernel_rfl) (hB.get 1 (x := ⟨w.heap.size + 1, kc ZB, 39⟩) rfl) (by rw [Try.infoB, kc_size, ZB_len]) ((show (kc ZB).size = 64 from rfl).trans ((kc_size _).trans ZB_len).symm) (kc_one _) ?_
    replace hB := hB.set 1 (x := ⟨w.heap.size + 1, kc ZB, 39⟩) rfl (kc ZB)
    simp only [List.set_cons_zero, List.set_cons_succ] at hB
    generalize World.setRow _ _ _ = u9 at *
    replace hB : Bl w [⟨w.heap.size, dkv sa sn sc pa pn pc false lf os, 31⟩, ⟨w.heap.size + 1, kc ZB, 39⟩] u9 := hB
    simp only [Act.put, List.setIfInBounds_toArray, List.set_cons_zero, List.set_cons_succ, List.getElem_toArray, List.getElem_cons_zero, List.getElem_cons_succ]
    (refine wpList_step fun K hK => ?_; replace hK := hide hK; go_simp; refine unhide hK _ _ ?_; clear hK K)
    refine wpList_nil ?_
    have hE : (Dk.mk S P false lf os).readB i = ZB ∧ (Dk.mk S P false lf os).readE i = 2 := by
      have h : ¬ (Dk.mk S P false lf os).has i := by unfold Dk.has; show ¬ (0 ≤ i ∧ i < (S.length : Int)); rw [← unhide hsn]; omega
      exact ⟨by simp [Dk.readB, h], by simp [Dk.readE, h]⟩
    replace hB := hide hB
    go_wp2_with fail
    replace hB := unhide hB
    rw [unhide hT]
    exact bodyPost_ret (v := .tuple #[.agg (kc ZB), .int .i64 2]) (results_cell_tmp Try.results18 _ _ (w.heap.size + 1) 39 (kc ZB) (0, 0) _ rfl (.int .i64 2) rfl (hB.get 1 (x := ⟨w.heap.size + 1, kc ZB, 39⟩) rfl) Try.underlying39 rfl ((by rw [Try.infoB]; rfl))) rfl (⟨by rw [hE.1, hE.2], hB.gr⟩)
  obtain ⟨k, rfl⟩ := Int.eq_ofNat_of_zero_le (show 0 ≤ i by omega)
  have hkn : k < sn := by omega
  have kI : (k : Int) < (sn : Int) := by omega
  obtain ⟨p, o, rfl, hrow⟩ := (unhide hR).sf.at_ k (by show k < S.length; rw [← unhide hsn]; exact hkn)
  rw [getD_map bv S k [] [] (by rw [← unhide hsn]; exact hkn)] at hrow
  have hb0 : BB (S.getD k []) := (unhide hD).blk _ (mem_of_getD (by show k < S.length; rw [← unhide hsn]; exact hkn))
  obtain ⟨b0, hb⟩ : ∃ b, b = S.getD k [] := ⟨_, rfl⟩
  rw [← hb] at hrow hb0
  have hl0 := hb0.1
  have hc0 : Hid (b0 = curL S P k 0) := hb
  replace hrow := hide hrow; replace hb := hide hb
  refine wp_region_lit ?_
  refine list_val (.int .i64 (k : Int)) (by kernel_rfl) (by kernel_rfl) ?_
  simp only [Act.put, List.setIfInBounds_toArray, List.set_cons_zero, List.set_cons_succ, List.getElem_toArray, List.getElem_cons_zero, List.getElem_cons_succ]
  refine list_val (.bool false) (by kernel_rfl) (by go_simp) ?_
  simp only [Act.put, List.setIfInBounds_toArray, List.set_cons_zero, List.set_cons_succ, List.getElem_toArray, List.getElem_cons_zero, List.getElem_cons_succ]
  refine list_val (.bool false) (by kernel_rfl) (by kernel_rfl) ?_
  simp only [Act.put, List.setIfInBounds_toArray, List.set_cons_zero, List.set_cons_succ, List.getElem_toArray, List.getElem_cons_zero, List.getElem_cons_succ]
  refine list_val (.int .i64 (k : Int)) (by kernel_rfl) (by kernel_rfl) ?_
  simp only [Act.put, List.setIfInBounds_toArray, List.set_cons_zero, List.set_cons_succ, List.getElem_toArray, List.getElem_cons_zero, List.getElem_cons_succ]
  refine list_val (.pointer (some ⟨w.heap.size, 0, none⟩)) (by kernel_rfl) (by kernel_rfl) ?_
  simp only [Act.put, List.setIfInBounds_toArray, List.set_cons_zero, List.set_cons_succ, List.getElem_toArray, List.getElem_cons_zero, List.getElem_cons_succ]
  refine list_val (.slice (some ⟨p, o, none⟩) sn sc) (by kernel_rfl) (exec_sb _ (.tmp 16) rfl (w.heap.size) 0 (by kernel_rfl) (some ⟨p, o, none⟩) sn sc (cell_of (hB.get 0 (x := ⟨w.heap.size, dkv (some ⟨p, o, none⟩) sn sc pa pn pc false lf os, 31⟩) rfl) (i := 0) rfl)) ?_
  simp only [Act.put, List.setIfInBounds_toArray, List.set_cons_zero, List.set_cons_succ, List.getElem_toArray, List.getElem_cons_zero, List.getElem_cons_succ]
  refine list_val (.int .i64 sn) (by kernel_rfl) (by kernel_rfl) ?_
  simp only [Act.put, List.setIfInBounds_toArray, List.set_cons_zero, List.set_cons_succ, List.getElem_toArray, List.getElem_cons_zero, List.getElem_cons_succ]
  refine list_val (.bool false) (by kernel_rfl) (by go_simp) ?_
  simp only [Act.put, List.setIfInBounds_toArray, List.set_cons_zero, List.set_cons_succ, List.getElem_toArray, List.getElem_cons_zero, List.getElem_cons_succ]
  refine list_val (.bool false) (by kernel_rfl) (by kernel_rfl) ?_
  simp only [Act.put, List.setIfInBounds_toArray, List.set_cons_zero, List.set_cons_succ, List.getElem_toArray, List.getElem_cons_zero, List.getElem_cons_succ]
  refine wpList_nil ?_
  replace hB := hide hB
  go_upto_region 5 with fail
  replace hB := unhide hB
  refine wp_region_lit ?_
  refine list_val (.pointer (some ⟨w.heap.size, 0, none⟩)) (by kernel_rfl) (by kernel_rfl) ?_
  simp only [Act.put, List.setIfInBounds_toArray, List.set_cons_zero, List.set_cons_succ, List.getElem_toArray, List.getElem_cons_zero, List.getElem_cons_succ]
  refine list_val (.slice (some ⟨p, o, none⟩) sn sc) (by kernel_rfl) (exec_sb _ (.tmp 22) rfl (w.heap.size) 0 (by kernel_rfl) (some ⟨p, o, none⟩) sn sc (cell_of (hB.get 0 (x := ⟨w.heap.size, dkv (some ⟨p, o, none⟩) sn sc pa pn pc false lf os, 31⟩) rfl) (i := 0) rfl)) ?_
  simp only [Act.put, List.setIfInBounds_toArray, List.set_cons_zero, List.set_cons_succ, List.getElem_toArray, List.getElem_cons_zero, List.getElem_cons_succ]
  refine list_val (.int .i64 (k : Int)) (by kernel_rfl) (by kernel_rfl) ?_
  simp only [Act.put, List.setIfInBounds_toArray, List.set_cons_zero, List.set_cons_succ, List.getElem_toArray, List.getElem_cons_zero, List.getElem_cons_succ]
  refine list_val (.pointer (some ⟨p, o + 64 * k, none⟩)) (by kernel_rfl) (exec_ib _ (.tmp 23) (.tmp 24) rfl p o sn sc k rfl rfl hkn) ?_
  simp only [Act.put, List.setIfInBounds_toArray, List.set_cons_zero, List.set_cons_succ, List.getElem_toArray, List.getElem_cons_zero, List.getElem_cons_succ]
  refine list_val (.agg (kc b0)) (by kernel_rfl) (exec_row _ 39 (.tmp 25) rfl p (o + 64 * k) (by kernel_rfl) (bv b0) _ (range_gr (unhide hrow) hB.gr) Try.underlying39 rfl (by rw [Try.infoB, bv_len, hl0])) ?_
  simp only [Act.put, List.setIfInBounds_toArray, List.set_cons_zero, List.set_cons_succ, List.getElem_toArray, List.getElem_cons_zero, List.getElem_cons_succ]
  refine list_valw (.pointer (some ⟨u.heap.size, 0, none⟩)) (u.alloc (.cells (kc ZB) 39 (0, 0))) (by kernel_rfl) (by kernel_rfl) ?_
  replace hB := hB.new (kc ZB) 39
  simp only [List.nil_append, List.cons_append] at hB
  generalize World.alloc _ _ = u1 at *
  generalize u.heap.size = g6 at *
  replace hB : Bl w [⟨w.heap.size, dkv (some ⟨p, o, none⟩) sn sc pa pn pc false lf os, 31⟩, ⟨w.heap.size + 1, kc ZB, 39⟩, ⟨g6, kc ZB, 39⟩] u1 := hB
  simp only [Act.put, List.setIfInBounds_toArray, List.set_cons_zero, List.set_cons_succ, List.getElem_toArray, List.getElem_cons_zero, List.getElem_cons_succ]
  refine list_store 39 (.tmp 6) (.tmp 26) (g6) (kc b0) 39 (kc ZB) (by kernel_rfl) rfl (by kernel_rfl) (by kernel_rfl) (hB.get 2 (x := ⟨g6, kc ZB, 39⟩) rfl) (by rw [Try.infoB, kc_size, hl0]) ((show (kc ZB).size = 64 from rfl).trans ((kc_size _).trans hl0).symm) (kc_one _) ?_
  replace hB := hB.set 2 (x := ⟨g6, kc ZB, 39⟩) rfl (kc b0)
  simp only [List.set_cons_zero, List.set_cons_succ] at hB
  generalize World.setRow _ _ _ = u2 at *
  replace hB : Bl w [⟨w.heap.size, dkv (some ⟨p, o, none⟩) sn sc pa pn pc false lf os, 31⟩, ⟨w.heap.size + 1, kc ZB, 39⟩, ⟨g6, kc b0, 39⟩] u2 := hB
  simp only [Act.put, List.setIfInBounds_toArray, List.set_cons_zero, List.set_cons_succ, List.getElem_toArray, List.getElem_cons_zero, List.getElem_cons_succ]
  refine wpList_nil ?_
  replace hB := hide hB
  go_upto_region 6 with fail
  replace hB := unhide hB
  refine wp_region_lit ?_
  refine list_val (.pointer (some ⟨w.heap.size, 1, none⟩)) (by kernel_rfl) (by kernel_rfl) ?_
  simp only [Act.put, List.setIfInBounds_toArray, List.set_cons_zero, List.set_cons_succ, List.getElem_toArray, List.getElem_cons_zero, List.getElem_cons_succ]
  refine list_val (.slice pa pn pc) (by kernel_rfl) (exec_sw _ (.tmp 27) rfl (w.heap.size) 1 (by kernel_rfl) pa pn pc (cell_of (hB.get 0 (x := ⟨w.heap.size, dkv (some ⟨p, o, none⟩) sn sc pa pn pc false lf os, 31⟩) rfl) (i := 1) rfl)) ?_
  simp only [Act.put, List.setIfInBounds_toArray, List.set_cons_zero, List.set_cons_succ, List.getElem_toArray, List.getElem_cons_zero, List.getElem_cons_succ]
  refine list_val (.int .i64 pn) (by kernel_rfl) (by kernel_rfl) ?_
  simp only [Act.put, List.setIfInBounds_toArray, List.set_cons_zero, List.set_cons_succ, List.getElem_toArray, List.getElem_cons_zero, List.getElem_cons_succ]
  refine list_val (.int .i64 0) (by kernel_rfl) (by kernel_rfl) ?_
  simp only [Act.put, List.setIfInBounds_toArray, List.set_cons_zero, List.set_cons_succ, List.getElem_toArray, List.getElem_cons_zero, List.getElem_cons_succ]
  refine wpList_nil ?_
  replace hB := hide hB
  go_wp2_with fail
  go_loopw [30] (fun i wr => ∃ j : Nat, ∃ b : List Int, j ≤ pn ∧ i = .int .i64 j ∧ Hid (b = curL S P k j) ∧ Hid (BB b) ∧ Hid (Bl w [⟨w.heap.size, dkv (some ⟨p, o, none⟩) sn sc pa pn pc false lf os, 31⟩, ⟨w.heap.size + 1, kc ZB, 39⟩, ⟨g6, kc b, 39⟩] wr)) (fun i _ => pn - (intOf i).toNat)
  case atStart => exact ⟨0, b0, by omega, rfl, hc0, hb0, hB⟩
  case round =>
  clear hB
  obtain ⟨j, b, hj, rfl, hcj, hbj, hB⟩ := hrel
  by_cases hjl : j < pn
  · skip
    obtain ⟨p2, o2, rfl, hrw⟩ := (unhide hR).pn.at_ j (by show j < P.length; rw [← unhide hpn]; exact hjl)
    rw [getD_map wv P j (0, []) [] (by rw [← unhide hpn]; exact hjl)] at hrw
    have hx := (unhide hD).pnd _ (mem_of_getD (d := (0, [])) (by show j < P.length; rw [← unhide hpn]; exact hjl))
    have hnx : Hid (curL S P k (j + 1) = if (P.getD j (0, [])).1 = k then (P.getD j (0, [])).2 else curL S P k j) := rfl
    obtain ⟨⟨ai, ab⟩, hab⟩ : ∃ x, x = P.getD j (0, []) := ⟨_, rfl⟩
    rw [← hab] at hrw hx hnx
    have hal : ab.length = 64 := hx.2.1
    have hwl : (wv (ai, ab)).length = 65 := by rw [wv_len, hal]
    replace hab := hide hab; replace hx := hide hx; replace hrw := hide hrw
    have jI : (j : Int) < (pn : Int) := by omega
    go_upto_region 8 with fail
    replace hB := unhide hB
    refine wp_region_lit ?_
    refine list_val (.pointer (some ⟨p2, o2 + 65 * j, none⟩)) (by kernel_rfl) (exec_iw _ (.tmp 28) (.tmp 30) rfl p2 o2 pn pc j rfl rfl hjl) ?_
    simp only [Act.put, List.setIfInBounds_toArray, List.set_cons_zero, List.set_cons_succ, List.getElem_toArray, List.getElem_cons_zero, List.getElem_cons_succ]
    refine list_val (.agg ((wv (ai, ab)).toArray)) (by kernel_rfl) (exec_row _ 73 (.tmp 32) rfl p2 (o2 + 65 * j) (by kernel_rfl) (wv (ai, ab)) _ (range_gr (unhide hrw) hB.gr) Try.underlying73 rfl (by rw [Try.infoW, hwl])) ?_
    simp only [Act.put, List.setIfInBounds_toArray, List.set_cons_zero, List.set_cons_succ, List.getElem_toArray, List.getElem_cons_zero, List.getElem_cons_succ]
    refine list_valw (.pointer (some ⟨wr.heap.size, 0, none⟩)) (wr.alloc (.cells ((wv (0, ZB)).toArray) 73 (0, 0))) (by kernel_rfl) (by kernel_rfl) ?_
    replace hB := hB.new ((wv (0, ZB)).toArray) 73
    simp only [List.nil_append, List.cons_append] at hB
    generalize World.alloc _ _ = v1 at *
    generalize wr.heap.size = g8 at *
    replace hB : Bl w [⟨w.heap.size, dkv (some ⟨p, o, none⟩) sn sc (some ⟨p2, o2, none⟩) pn pc false lf os, 31⟩, ⟨w.heap.size + 1, kc ZB, 39⟩, ⟨g6, kc b, 39⟩, ⟨g8, (wv (0, ZB)).toArray, 73⟩] v1 := hB
    simp only [Act.put, List.setIfInBounds_toArray, List.set_cons_zero, List.set_cons_succ, List.getElem_toArray, List.getElem_cons_zero, List.getElem_cons_succ]
    refine list_store 73 (.tmp 8) (.tmp 33) g8 ((wv (ai, ab)).toArray) 73 ((wv (0, ZB)).toArray) (by kernel_rfl) rfl (by kernel_rfl) (by kernel_rfl) (hB.get 3 (x := ⟨g8, (wv (0, ZB)).toArray, 73⟩) rfl) (by rw [Try.infoW, List.size_toArray, hwl]) ((show ((wv (0, ZB)).toArray).size = 65 from rfl).trans (by rw [List.size_toArray, hwl])) (wv_one _) ?_
    replace hB := hB.set 3 (x := ⟨g8, (wv (0, ZB)).toArray, 73⟩) rfl ((wv (ai, ab)).toArray)
    simp only [List.set_cons_zero, List.set_cons_succ] at hB
    generalize World.setRow _ _ _ = v2 at *
    replace hB : Bl w [⟨w.heap.size, dkv (some ⟨p, o, none⟩) sn sc (some ⟨p2, o2, none⟩) pn pc false lf os, 31⟩, ⟨w.heap.size + 1, kc ZB, 39⟩, ⟨g6, kc b, 39⟩, ⟨g8, (wv (ai, ab)).toArray, 73⟩] v2 := hB
    simp only [Act.put, List.setIfInBounds_toArray, List.set_cons_zero, List.set_cons_succ, List.getElem_toArray, List.getElem_cons_zero, List.getElem_cons_succ]
    refine wpList_nil ?_
    replace hB := hide hB
    go_upto_region 9 with fail
    replace hB := unhide hB
    by_cases hak : ai = k
    · skip
      have aI : (ai : Int) = (k : Int) := by omega
      replace hak := hide hak
      refine wp_region_lit ?_
      refine list_val (.pointer (some ⟨g8, 0, none⟩)) (by kernel_rfl) (by kernel_rfl) ?_
      simp only [Act.put, List.setIfInBounds_toArray, List.set_cons_zero, List.set_cons_succ, List.getElem_toArray, List.getElem_cons_zero, List.getElem_cons_succ]
      refine list_val (.int .i64 (ai : Int)) (by kernel_rfl) (exec_i64 _ (.tmp 34) rfl g8 0 (by kernel_rfl) _ (cell_of (hB.get 3 (x := ⟨g8, (wv (ai, ab)).toArray, 73⟩) rfl) (i := 0) rfl)) ?_
      simp only [Act.put, List.setIfInBounds_toArray, List.set_cons_zero, List.set_cons_succ, List.getElem_toArray, List.getElem_cons_zero, List.getElem_cons_succ]
      refine list_val (.int .i64 (k : Int)) (by kernel_rfl) (by kernel_rfl) ?_
      simp only [Act.put, List.setIfInBounds_toArray, List.set_cons_zero, List.set_cons_succ, List.getElem_toArray, List.getElem_cons_zero, List.getElem_cons_succ]
      refine list_val (.bool true) (by kernel_rfl) (by go_simp) ?_
      simp only [Act.put, List.setIfInBounds_toArray, List.set_cons_zero, List.set_cons_succ, List.getElem_toArray, List.getElem_cons_zero, List.getElem_cons_succ]
      refine wpList_nil ?_
      replace hB := hide hB
      go_upto_region 10 with fail
      replace hB := unhide hB
      refine wp_region_lit ?_
      refine list_val (.pointer (some ⟨g8, 1, none⟩)) (by kernel_rfl) (by kernel_rfl) ?_
      simp only [Act.put, List.setIfInBounds_toArray, List.set_cons_zero, List.set_cons_succ, List.getElem_toArray, List.getElem_cons_zero, List.getElem_cons_succ]
      refine list_val (.agg (kc ab)) (by kernel_rfl) (exec_row _ 39 (.tmp 38) rfl g8 1 (by kernel_rfl) (bv ab) _ (fun q_ v_ hq => cell_of (hB.get 3 (x := ⟨g8, (wv (ai, ab)).toArray, 73⟩) rfl) (by unfold wv; rw [List.getElem?_toArray, Nat.add_comm, List.getElem?_cons_succ]; exact hq)) Try.underlying39 rfl (by rw [Try.infoB, bv_len, hal])) ?_
      simp only [Act.put, List.setIfInBounds_toArray, List.set_cons_zero, List.set_cons_succ, List.getElem_toArray, List.getElem_cons_zero, List.getElem_cons_succ]
      refine list_store 39 (.tmp 6) (.tmp 39) (g6) (kc ab) 39 (kc b) (by kernel_rfl) rfl (by kernel_rfl) (by kernel_rfl) (hB.get 2 (x := ⟨g6, kc b, 39⟩) rfl) (by rw [Try.infoB, kc_size, hal]) (((kc_size b).trans (unhide hbj).1).trans ((kc_size _).trans hal).symm) (kc_one _) ?_
      replace hB := hB.set 2 (x := ⟨g6, kc b, 39⟩) rfl (kc ab)
      simp only [List.set_cons_zero, List.set_cons_succ] at hB
      generalize World.setRow _ _ _ = v3 at *
      replace hB : Bl w [⟨w.heap.size, dkv (some ⟨p, o, none⟩) sn sc (some ⟨p2, o2, none⟩) pn pc false lf os, 31⟩, ⟨w.heap.size + 1, kc ZB, 39⟩, ⟨g6, kc ab, 39⟩, ⟨g8, (wv (ai, ab)).toArray, 73⟩] v3 := hB
      simp only [Act.put, List.setIfInBounds_toArray, List.set_cons_zero, List.set_cons_succ, List.getElem_toArray, List.getElem_cons_zero, List.getElem_cons_succ]
      refine wpList_nil ?_
      have hB3 : Hid (Bl w [⟨w.heap.size, dkv (some ⟨p, o, none⟩) sn sc (some ⟨p2, o2, none⟩) pn pc false lf os, 31⟩, ⟨w.heap.size + 1, kc ZB, 39⟩, ⟨g6, kc ab, 39⟩] _) := Bl.left (M := [⟨g8, (wv (ai, ab)).toArray, 73⟩]) hB
      clear hB
      go_wp2_with fail
      go_roundw
      case rel => exact ⟨j + 1, ab, by omega, by go_num, by show ab = curL S P k (j + 1); rw [unhide hnx, if_pos (unhide hak)], (unhide hx).2, hB3⟩
      case measure => simp [intOf]; omega
    have aI : ¬ (ai : Int) = (k : Int) := by omega
    replace hak := hide hak
    refine wp_region_lit ?_
    refine list_val (.pointer (some ⟨g8, 0, none⟩)) (by kernel_rfl) (by kernel_rfl) ?_
    simp only [Act.put, List.setIfInBounds_toArray, List.set_cons_zero, List.set_cons_succ, List.getElem_toArray, List.getElem_cons_zero, List.getElem_cons_succ]
    refine list_val (.int .i64 (ai : Int)) (by kernel_rfl) (exec_i64 _ (.tmp 34) rfl g8 0 (by kernel_rfl) _ (cell_of (hB.get 3 (x := ⟨g8, (wv (ai, ab)).toArray, 73⟩) rfl) (i := 0) rfl)) ?_
    simp only [Act.put, List.setIfInBounds_toArray, List.set_cons_zero, List.set_cons_succ, List.getElem_toArray, List.getElem_cons_zero, List.getElem_cons_succ]
    refine list_val (.int .i64 (k : Int)) (by kernel_rfl) (by kernel_rfl) ?_
    simp only [Act.put, List.setIfInBounds_toArray, List.set_cons_zero, List.set_cons_succ, List.getElem_toArray, List.getElem_cons_zero, List.getElem_cons_succ]
    refine list_val (.bool false) (by kernel_rfl) (by go_simp) ?_
    simp only [Act.put, List.setIfInBounds_toArray, List.set_cons_zero, List.set_cons_succ, List.getElem_toArray, List.getElem_cons_zero, List.getElem_cons_succ]
    refine wpList_nil ?_
    have hB3 : Hid (Bl w [⟨w.heap.size, dkv (some ⟨p, o, none⟩) sn sc (some ⟨p2, o2, none⟩) pn pc false lf os, 31⟩, ⟨w.heap.size + 1, kc ZB, 39⟩, ⟨g6, kc b, 39⟩] _) := Bl.left (M := [⟨g8, (wv (ai, ab)).toArray, 73⟩]) hB
    clear hB
    go_wp2_with fail
    go_roundw
    case rel => exact ⟨j + 1, b, by omega, by go_num, by show b = curL S P k (j + 1); rw [unhide hnx, if_neg (unhide hak)]; exact unhide hcj, hbj, hB3⟩
    case measure => simp [intOf]; omega
  have jI : ¬ (j : Int) < (pn : Int) := by omega
  have e : j = P.length := by have := unhide hpn; omega
  have hfin : Hid ((Dk.mk S P false lf os).readB (k : Int) = b ∧ (Dk.mk S P false lf os).readE (k : Int) = 0) := by
    have h : (Dk.mk S P false lf os).has (k : Int) := by unfold Dk.has; show 0 ≤ (k : Int) ∧ (k : Int) < (S.length : Int); rw [← unhide hsn]; omega
    refine ⟨?_, by simp [Dk.readE, h]⟩
    simp only [Dk.readB, h, if_true, Int.toNat_natCast, Dk.cur]
    rw [unhide hcj, e]
    simp
  clear hcj e
  go_upto_region 12 with fail
  replace hB := unhide hB
  refine wp_region_lit ?_
  refine list_val (.agg (kc b)) (by kernel_rfl) (exec_arr _ 39 (.tmp 6) rfl (g6) (by kernel_rfl) (kc b) 39 _ (hB.get 2 (x := ⟨g6, kc b, 39⟩) rfl) Try.underlying39 rfl (by rw [Try.infoB, kc_size, (unhide hbj).1])) ?_
  simp only [Act.put, List.setIfInBounds_toArray, List.set_cons_zero, List.set_cons_succ, List.getElem_toArray, List.getElem_cons_zero, List.getElem_cons_succ]
  refine list_store 39 (.tmp 4) (.tmp 41) (w.heap.size + 1) (kc b) 39 (kc ZB) (by kernel_rfl) rfl (by kernel_rfl) (by kernel_rfl) (hB.get 1 (x := ⟨w.heap.size + 1, kc ZB, 39⟩) rfl) (by rw [Try.infoB, kc_size, (unhide hbj).1]) ((show (kc ZB).size = 64 from rfl).trans ((kc_size _).trans (unhide hbj).1).symm) (kc_one _) ?_
  replace hB := hB.set 1 (x := ⟨w.heap.size + 1, kc ZB, 39⟩) rfl (kc b)
  simp only [List.set_cons_zero, List.set_cons_succ] at hB
  generalize World.setRow _ _ _ = u9 at *
  replace hB : Bl w [⟨w.heap.size, dkv (some ⟨p, o, none⟩) sn sc pa pn pc false lf os, 31⟩, ⟨w.heap.size + 1, kc b, 39⟩, ⟨g6, kc b, 39⟩] u9 := hB
  simp only [Act.put, List.setIfInBounds_toArray, List.set_cons_zero, List.set_cons_succ, List.getElem_toArray, List.getElem_cons_zero, List.getElem_cons_succ]
  (refine wpList_step fun K hK => ?_; replace hK := hide hK; go_simp; refine unhide hK _ _ ?_; clear hK K)
  refine wpList_nil ?_
  replace hB := hide hB
  go_wp2_with fail
  replace hB := unhide hB
  rw [unhide hT]
  exact bodyPost_ret (v := .tuple #[.agg (kc b), .int .i64 0]) (results_cell_tmp Try.results18 _ _ (w.heap.size + 1) 39 (kc b) (0, 0) _ rfl (.int .i64 0) rfl (hB.get 1 (x := ⟨w.heap.size + 1, kc b, 39⟩) rfl) Try.underlying39 rfl ((by rw [Try.infoB, kc_size, (unhide hbj).1]))) rfl (⟨by rw [(unhide hfin).1, (unhide hfin).2], hB.gr⟩)
end Go.Proofs.Ythgchjdjacbcgaa
