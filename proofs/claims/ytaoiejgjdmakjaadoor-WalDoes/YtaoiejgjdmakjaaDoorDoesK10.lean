/-
  Of layer 12: what the proof leans on.
-/
import Derived.Test.YtaoiejgjdmakjaaDoorDoesK9
namespace Go.Proofs.YtaoiejgjdmakjaaDoor
open Go.RowKit
set_option maxRecDepth 100000
set_option linter.unusedSimpArgs false
set_option linter.unusedVariables false
def Chk (a : Option Addr) (n c : Nat) (w : World) (r : Ending) (w' : World) : Prop := ∃ Bs Bn, r = .returned (.func (.func 83) #[] #[.pointer (some ⟨Bs, 0, none⟩), .pointer (some ⟨Bn, 0, none⟩)]) ∧ Bl w [⟨Bs, #[.slice a n c], 32⟩, ⟨Bn, #[.int .i64 63], 3⟩] w'
set_option maxHeartbeats 4000000 in
theorem chunk_ok (a : Option Addr) (n c : Nat) (w : World) : Calls Tryd.prog 58 #[.slice a n c, .int .i64 63] w (Chk a n c w) := by
  obtain ⟨T, hT⟩ : ∃ T, T = Chk a n c w := ⟨_, rfl⟩
  rw [← hT]
  replace hT := hide hT
  go_enter Tryd.func58, Tryd.ntmps58
  go_upto_region 1 with fail
  have hB := (((Bl.nil w).new #[.slice a n c] 32).new #[.int .i64 63] 3)
  simp only [size_alloc, List.nil_append, List.cons_append] at hB
  generalize World.alloc _ _ = u at *
  replace hB : Bl w [⟨w.heap.size, #[.slice a n c], 32⟩, ⟨w.heap.size + 1, #[.int .i64 63], 3⟩] u := hB
  refine wp_region_lit ?_
  refine list_val (.int .i64 63) (by kernel_rfl) (exec_i64 _ (.tmp 3) rfl (w.heap.size + 1) 0 (by kernel_rfl) 63 (cell_of (hB.get 1 (x := ⟨w.heap.size + 1, #[.int .i64 63], 3⟩) rfl) (i := 0) rfl)) ?_
  simp only [nrm]
  refine list_val (.bool false) (by kernel_rfl) (by kernel_rfl) ?_
  simp only [nrm]
  refine wpList_nil ?_
  replace hB := hide hB
  go_upto_region 3 with fail
  replace hB := unhide hB
  refine wp_region_lit ?_
  refine list_val (.func (.func 83) #[] #[.pointer (some ⟨w.heap.size, 0, none⟩), .pointer (some ⟨w.heap.size + 1, 0, none⟩)]) (by kernel_rfl) (by kernel_rfl) ?_
  simp only [nrm]
  (refine wpList_step fun K hK => ?_; replace hK := hide hK; go_simp; refine unhide hK _ _ ?_; clear hK K)
  refine wpList_nil ?_
  have hZ : Hid (Chk a n c w (.returned (.func (.func 83) #[] #[.pointer (some ⟨w.heap.size, 0, none⟩), .pointer (some ⟨w.heap.size + 1, 0, none⟩)])) u) := ⟨_, _, rfl, hB⟩
  clear hB
  go_wp2_with fail
  rw [unhide hT]
  exact unhide hZ
set_option maxHeartbeats 4000000 in
theorem chunk1_ok (l Bs Bn p o n c : Nat) (hcap : n ≤ c) (hmax : c < 9223372036854775808) (hn : n ≤ 1000000) (J : Nat → World → Prop) (Jx : Option Code → World → Prop)
    (hJq : ∀ i W, J i W → W.heap[Bs]? = some (.cells #[.slice (some ⟨p, o, none⟩) n c] 32 (0, 0)) ∧ W.heap[Bn]? = some (.cells #[.int .i64 63] 3 (0, 0)))
    (hJg : ∀ i W W', J i W → Gr W W' → J i W')
    (hY : ∀ (i : Nat) (W : World) (r : Nat), 63 * i < n → r = min 63 (n - 63 * i) → J i W → YieldAt Fence.wide 8 Tryd.prog l #[.slice (some ⟨p, o + 63 * i, none⟩) r r] W fun e W' => ∃ b c, e = .returned (.bool b) ∧ (if b then J (i + 1) W' else Jx c W'))
    (W : World) (h0 : J 0 W) : Calls Tryd.prog 83 #[.func (.yield l) #[] #[], .pointer (some ⟨Bs, 0, none⟩), .pointer (some ⟨Bn, 0, none⟩)] W (fun e W' => e = .returned (.tuple #[]) ∧ (J ((n + 62) / 63) W' ∨ ∃ c, Jx c W')) := by
  obtain ⟨T, hT⟩ : ∃ T : Ending → World → Prop, T = fun e W' => e = .returned (.tuple #[]) ∧ (J ((n + 62) / 63) W' ∨ ∃ c, Jx c W') := ⟨_, rfl⟩
  rw [← hT]
  obtain ⟨K, hK⟩ : ∃ K, K = (n + 62) / 63 := ⟨_, rfl⟩
  rw [← hK] at hT
  replace hT := hide hT; replace hY := hide hY; replace hJq := hide hJq; replace h0 := hide h0; replace hJg := hide hJg; replace hK := hide hK
  go_enter Tryd.func83, Tryd.ntmps83
  go_wp2_with fail
  go_loopw [4] (fun i wr => ∃ (j q : Nat), q = 63 * j ∧ q < n + 63 ∧ i = .int .i64 (q : Int) ∧ Hid (J j wr)) (fun i _ => n + 63 - (intOf i).toNat)
  case atStart => exact ⟨0, 0, rfl, by omega, rfl, h0⟩
  case round =>
  clear h0
  obtain ⟨j, q, hq, hqn, rfl, hJ⟩ := hrel
  have hbs := ((unhide hJq) j wr (unhide hJ)).1
  have hbn := ((unhide hJq) j wr (unhide hJ)).2
  replace hbs := hide hbs; replace hbn := hide hbn; replace hq := hide hq
  by_cases hlt : q < n
  · skip
    have qI : (q : Int) < (n : Int) := by omega
    go_upto_region 1 with fail
    refine wp_region_lit ?_
    refine list_val (.int .i64 (q : Int)) (by kernel_rfl) (by kernel_rfl) ?_
    simp only [nrm]
    refine list_val (.slice (some ⟨p, o, none⟩) n c) (by kernel_rfl) (exec_sby _ (.tmp 1) rfl Bs 0 (by kernel_rfl) _ n c (cell_of (unhide hbs) (i := 0) rfl)) ?_
    simp only [nrm]
    refine list_val (.int .i64 (n : Int)) (by kernel_rfl) (by kernel_rfl) ?_
    simp only [nrm]
    refine list_val (.bool true) (by kernel_rfl) (by go_simp) ?_
    simp only [nrm]
    refine wpList_nil ?_
    obtain ⟨r, hr⟩ : ∃ r, r = min 63 (n - q) := ⟨_, rfl⟩
    obtain ⟨s9, hs9⟩ : ∃ s, s = q + r := ⟨_, rfl⟩
    have h0r : 0 < r := by omega
    have hsn : s9 ≤ c := by omega
    have ws9 : IntKind.i64.wrap ((q : Int) + (r : Int)) = (s9 : Int) := by rw [IntKind.wrap_i64]; omega
    replace hr := hide hr; replace hs9 := hide hs9
    go_upto_region 3 with fail
    refine any_start (S := fun (v : World) => v.heap[Bs]? = some (.cells #[.slice (some ⟨p, o, none⟩) n c] 32 (0, 0)) ∧ v.heap[Bn]? = some (.cells #[.int .i64 63] 3 (0, 0))) (by kernel_rfl) ?_
    have hG := (Gr.refl wr).drew
    generalize World.drew _ = x0 at *
    have hS : (fun (v : World) => v.heap[Bs]? = some (.cells #[.slice (some ⟨p, o, none⟩) n c] 32 (0, 0)) ∧ v.heap[Bn]? = some (.cells #[.int .i64 63] 3 (0, 0))) x0 := ⟨hG.blk (unhide hbs), hG.blk (unhide hbn)⟩
    simp only [List.size_toArray, List.length_cons, List.length_nil, Array.replicate, List.replicate]
    refine any_take (i := 0) (v := (.int .i64 63)) #[false, false, false, false, false, false, false] rfl (by kernel_rfl) (by kernel_rfl) (by kernel_rfl) (by kernel_rfl) (fun _ _ _ h => h) (.inl ⟨by kernel_rfl, fun x_ hu => exec_i64 _ (.tmp 2) rfl Bn 0 (by kernel_rfl) 63 (cell_of hu.2 (i := 0) rfl)⟩) hS ?_
    simp only [nrm]
    refine any_take (i := 1) (v := (.slice (some ⟨p, o, none⟩) n c)) #[true, false, false, false, false, false, false] rfl (by kernel_rfl) (by kernel_rfl) (by kernel_rfl) (by kernel_rfl) (fun _ _ _ h => h) (.inl ⟨by kernel_rfl, fun x_ hu => exec_sby _ (.tmp 1) rfl Bs 0 (by kernel_rfl) _ n c (cell_of hu.1 (i := 0) rfl)⟩) hS ?_
    simp only [nrm]
    refine any_take (i := 2) (v := (.int .i64 (q : Int))) #[true, true, false, false, false, false, false] rfl (by kernel_rfl) (by kernel_rfl) (by kernel_rfl) (by kernel_rfl) (fun _ _ _ h => h) (.inl ⟨by kernel_rfl, fun x_ hu => by kernel_rfl⟩) hS ?_
    simp only [nrm]
    refine any_take (i := 3) (v := (.slice (some ⟨p, o + q, none⟩) (n - q) (c - q))) #[true, true, true, false, false, false, false] rfl (by kernel_rfl) (by kernel_rfl) (by kernel_rfl) (by kernel_rfl) (fun _ _ _ h => h) (.inl ⟨by kernel_rfl, fun x_ hu => exec_fromo _ (.tmp 14) (.tmp 15) rfl p o n c q (by kernel_rfl) (by kernel_rfl) hcap hlt⟩) hS ?_
    simp only [nrm]
    refine any_take (i := 4) (v := (.int .i64 ((n - q : Nat) : Int))) #[true, true, true, true, false, false, false] rfl (by kernel_rfl) (by kernel_rfl) (by kernel_rfl) (by kernel_rfl) (fun _ _ _ h => h) (.inl ⟨by kernel_rfl, fun x_ hu => by kernel_rfl⟩) hS ?_
    simp only [nrm]
    refine any_take (i := 5) (v := (.int .i64 (r : Int))) #[true, true, true, true, true, false, false] rfl (by kernel_rfl) (by kernel_rfl) (by kernel_rfl) (by kernel_rfl) (fun _ _ _ h => h) (.inl ⟨by kernel_rfl, fun x_ hu => by have h9 := unhide hr; go_simp; omega⟩) hS ?_
    simp only [nrm]
    refine any_one (i := 6) (by kernel_rfl) rfl (fun K_ hQ => ?_)
    replace hQ := hide hQ
    go_simp
    refine (unhide hQ).out _ _ hS (fun _ => ?_)
    clear hQ K_
    refine any_done (by kernel_rfl) ?_
    replace hJ := hide ((unhide hJg) j wr x0 (unhide hJ) hG)
    replace hS := hide hS
    clear hG hbs hbn
    go_upto_region 4 with fail
    refine in_region 9 ?_
    refine in_val (.func (.yield l) #[] #[]) (by kernel_rfl) (by kernel_rfl) ?_
    simp only [nrm]
    refine in_val (.slice (some ⟨p, o, none⟩) n c) (by kernel_rfl) (exec_sby _ (.tmp 1) rfl Bs 0 (by kernel_rfl) _ n c (cell_of (unhide hS).1 (i := 0) rfl)) ?_
    simp only [nrm]
    refine in_val (.int .i64 (q : Int)) (by kernel_rfl) (by kernel_rfl) ?_
    simp only [nrm]
    refine in_val (.int .i64 (q : Int)) (by kernel_rfl) (by kernel_rfl) ?_
    simp only [nrm]
    refine in_val (.int .i64 (r : Int)) (by kernel_rfl) (by kernel_rfl) ?_
    simp only [nrm]
    refine in_val (.int .i64 (s9 : Int)) (by kernel_rfl) (by go_simp) ?_
    simp only [nrm]
    refine in_val (.int .i64 (q : Int)) (by kernel_rfl) (by kernel_rfl) ?_
    simp only [nrm]
    refine in_val (.int .i64 (r : Int)) (by kernel_rfl) (by kernel_rfl) ?_
    simp only [nrm]
    refine in_val (.int .i64 (s9 : Int)) (by kernel_rfl) (by go_simp) ?_
    simp only [nrm]
    refine in_val (.slice (some ⟨p, o + q, none⟩) r r) (by kernel_rfl) (exec_win3 _ (.tmp 20) (.tmp 21) (.tmp 24) (.tmp 27) rfl p o n c q s9 r (by kernel_rfl) (by kernel_rfl) (by kernel_rfl) (by kernel_rfl) (unhide hs9) h0r hsn) ?_
    simp only [nrm]
    refine in_yield l #[.slice (some ⟨p, o + q, none⟩) r r] (by kernel_rfl) (by kernel_rfl) ?_
    have hy := (unhide hY) j x0 r (by rw [← unhide hq]; exact hlt) (by rw [← unhide hq]; exact unhide hr) (unhide hJ)
    rw [← unhide hq] at hy
    obtain ⟨fn_, tm_, as_, bo_, hy1, hy2⟩ := hy
    refine ⟨fn_, tm_, as_, bo_, hy1, hy2.mono ?_⟩
    clear hy1 hy2 hJ hS
    rintro e_ u2 ⟨b, c_, rfl, hb⟩
    refine ⟨_, rfl, ?_⟩
    replace hb := hide hb
    simp only [nrm]
    refine in_val (.bool (!b)) (by kernel_rfl) (by kernel_rfl) ?_
    simp only [nrm]
    refine wpListIn_nil ?_
    cases b
    · skip
      have hZ : Hid (T (.returned (.tuple #[])) u2) := by show T _ _; rw [unhide hT]; exact ⟨rfl, .inr ⟨c_, unhide hb⟩⟩
      go_wp2_with fail
      refine bodyPost_ret (results_none Tryd.results83 _ _ _) rfl ?_
      exact unhide hZ
    have hJ2 : Hid (J (j + 1) u2) := unhide hb
    clear hb
    have hbn := ((unhide hJq) (j + 1) u2 (unhide hJ2)).2
    replace hbn := hide hbn
    obtain ⟨q2, hq2⟩ : ∃ q2, q2 = q + 63 := ⟨_, rfl⟩
    have ej : IntKind.i64.wrap ((q : Int) + 63) = (q2 : Int) := by rw [IntKind.wrap_i64]; omega
    replace hq2 := hide hq2
    go_upto_region 2 with fail
    refine wp_region_lit ?_
    refine list_val (.int .i64 (q : Int)) (by kernel_rfl) (by kernel_rfl) ?_
    simp only [nrm]
    refine list_val (.int .i64 63) (by kernel_rfl) (exec_i64 _ (.tmp 2) rfl Bn 0 (by kernel_rfl) 63 (cell_of (unhide hbn) (i := 0) rfl)) ?_
    simp only [nrm]
    refine list_val (.int .i64 (q2 : Int)) (by kernel_rfl) (by go_simp) ?_
    simp only [nrm]
    (refine wpList_step fun K hK => ?_; replace hK := hide hK; go_simp; refine unhide hK _ _ ?_; clear hK K)
    refine wpList_nil ?_
    go_wp2_with fail
    go_roundw
    case rel => exact ⟨j + 1, q2, by have h1 := unhide hq; have h2 := unhide hq2; omega, by have h2 := unhide hq2; omega, rfl, hJ2⟩
    case measure => have h2 := unhide hq2; simp [intOf]; omega
  have qI : ¬ (q : Int) < (n : Int) := by omega
  obtain rfl : K = j := by have h1 := unhide hq; have h2 := unhide hK; omega
  have hZ : Hid (T (.returned (.tuple #[])) wr) := by show T _ _; rw [unhide hT]; exact ⟨rfl, .inl (unhide hJ)⟩
  go_upto_region 1 with fail
  refine wp_region_lit ?_
  refine list_val (.int .i64 (q : Int)) (by kernel_rfl) (by kernel_rfl) ?_
  simp only [nrm]
  refine list_val (.slice (some ⟨p, o, none⟩) n c) (by kernel_rfl) (exec_sby _ (.tmp 1) rfl Bs 0 (by kernel_rfl) _ n c (cell_of (unhide hbs) (i := 0) rfl)) ?_
  simp only [nrm]
  refine list_val (.int .i64 (n : Int)) (by kernel_rfl) (by kernel_rfl) ?_
  simp only [nrm]
  refine list_val (.bool false) (by kernel_rfl) (by go_simp) ?_
  simp only [nrm]
  refine wpList_nil ?_
  go_wp2_with fail
  refine bodyPost_end (results_none Tryd.results83 _ _ _) rfl ?_
  exact unhide hZ
set_option maxHeartbeats 4000000 in
theorem chunk1_nil (l Bs Bn : Nat) (a : Option Addr) (c : Nat) (W : World) (hbs : W.heap[Bs]? = some (.cells #[.slice a 0 c] 32 (0, 0))) : Calls Tryd.prog 83 #[.func (.yield l) #[] #[], .pointer (some ⟨Bs, 0, none⟩), .pointer (some ⟨Bn, 0, none⟩)] W (fun e W' => e = .returned (.tuple #[]) ∧ W' = W) := by
  obtain ⟨T, hT⟩ : ∃ T : Ending → World → Prop, T = fun e W' => e = .returned (.tuple #[]) ∧ W' = W := ⟨_, rfl⟩
  rw [← hT]
  replace hT := hide hT; replace hbs := hide hbs
  go_enter Tryd.func83, Tryd.ntmps83
  go_wp2_with fail
  refine wp_loop_once ?_
  go_upto_region 1 with fail
  refine wp_region_lit ?_
  refine list_val (.int .i64 0) (by kernel_rfl) (by kernel_rfl) ?_
  simp only [nrm]
  refine list_val (.slice a 0 c) (by kernel_rfl) (exec_sby _ (.tmp 1) rfl Bs 0 (by kernel_rfl) _ 0 c (cell_of (unhide hbs) (i := 0) rfl)) ?_
  simp only [nrm]
  refine list_val (.int .i64 0) (by kernel_rfl) (by kernel_rfl) ?_
  simp only [nrm]
  refine list_val (.bool false) (by kernel_rfl) (by kernel_rfl) ?_
  simp only [nrm]
  refine wpList_nil ?_
  go_wp2_with fail
  refine bodyPost_end (results_none Tryd.results83 _ _ _) rfl ?_
  rw [unhide hT]
  exact ⟨rfl, rfl⟩
def lgv (gs : Nat) (sa : Option Addr) (sn sc : Nat) (xa : Option Addr) (xn xc : Nat) (bk : Bool) : Array Value := #[.pointer (some ⟨gs, 0, none⟩), .slice sa sn sc, .slice xa xn xc, .bool bk]
theorem exec_pst {op : Oper} {a : Act} (w : World) (x : Operand) (ho : op.op = .load 25 x) (g i : Nat) (hx : a.eval x = .pointer (some ⟨g, i, none⟩)) (s : Option Addr) (hc : w.cell? ⟨g, i, none⟩ = some (.pointer s)) : (execOp a.eval op).run Tryd.prog w = .ok (.value (.pointer s)) w := by
  unfold execOp
  simp only [ho, hx, Instr.loadAt, Instr.sureAddr, Sem.run_bind, Sem.run_pure, Result.andThen_ok]
  go_simp
theorem exec_plg {op : Oper} {a : Act} (w : World) (x : Operand) (ho : op.op = .load 28 x) (g i : Nat) (hx : a.eval x = .pointer (some ⟨g, i, none⟩)) (s : Option Addr) (hc : w.cell? ⟨g, i, none⟩ = some (.pointer s)) : (execOp a.eval op).run Tryd.prog w = .ok (.value (.pointer s)) w := by
  unfold execOp
  simp only [ho, hx, Instr.loadAt, Instr.sureAddr, Sem.run_bind, Sem.run_pure, Result.andThen_ok]
  go_simp
def Alf (xa : Option Addr) (xn xc : Nat) (w : World) (r : Ending) (w' : World) : Prop := ∃ Bx, r = .returned (.func (.func 47) #[] #[.pointer (some ⟨Bx, 0, none⟩)]) ∧ Bl w [⟨Bx, #[.slice xa xn xc], 33⟩] w'
set_option maxHeartbeats 4000000 in
theorem lall_ok (l gs : Nat) (sa : Option Addr) (sn sc : Nat) (xa : Option Addr) (xn xc : Nat) (bk : Bool) (w : World) (hl : w.heap[l]? = some (.cells (lgv gs sa sn sc xa xn xc bk) 69 (0, 0))) : Calls Tryd.prog 26 #[P0 l] w (Alf xa xn xc w) := by
  obtain ⟨T, hT⟩ : ∃ T, T = Alf xa xn xc w := ⟨_, rfl⟩
  rw [← hT]
  replace hT := hide hT
  replace hl := hide hl
  have hB := Bl.nil w
  go_enter Tryd.func26, Tryd.ntmps26
  go_upto_region 3 with fail
  refine wp_region_lit ?_
  refine list_val (.pointer (some ⟨l, 0, none⟩)) (by kernel_rfl) (by kernel_rfl) ?_
  simp only [nrm]
  refine list_val (.pointer (some ⟨l, 0, none⟩)) (by kernel_rfl) (by kernel_rfl) ?_
  simp only [nrm]
  refine list_val (.pointer (some ⟨l, 2, none⟩)) (by kernel_rfl) (by kernel_rfl) ?_
  simp only [nrm]
  refine list_val (.slice xa xn xc) (by kernel_rfl) (exec_sx _ (.tmp 8) rfl l 2 (by kernel_rfl) xa xn xc (cell_of (unhide hl) (i := 2) rfl)) ?_
  simp only [nrm]
  refine list_valw (.pointer (some ⟨w.heap.size, 0, none⟩)) (w.alloc (.cells (#[.slice none 0 0]) 33 (0, 0))) (by kernel_rfl) (by kernel_rfl) ?_
  replace hB := hB.new (#[.slice none 0 0]) 33
  simp only [List.nil_append, List.cons_append] at hB
  generalize World.alloc _ _ = u1 at *
  generalize w.heap.size = h1 at *
  replace hB : Bl w [⟨h1, #[.slice none 0 0], 33⟩] u1 := hB
  simp only [nrm]
  have c4 := cell_of (hB.get 0 (x := ⟨h1, #[.slice none 0 0], 33⟩) rfl) (i := 0) rfl
  have fz := froz_of (i := 0) (hB.get 0 (x := ⟨h1, #[.slice none 0 0], 33⟩) rfl)
  have hB2 := hB.cell 0 (x := ⟨h1, #[.slice none 0 0], 33⟩) rfl 0 (.slice xa xn xc)
  simp only [List.set_cons_zero, List.set_cons_succ] at hB2
  replace hB2 : Bl w [⟨h1, #[.slice xa xn xc], 33⟩] _ := hB2
  clear hB
  replace hB2 := hide hB2
  dsimp only at c4 fz
  (refine wpList_step fun K hK => ?_; replace hK := hide hK; go_simp; refine unhide hK _ _ ?_; clear hK K)
  clear c4 fz
  have hB := unhide hB2
  clear hB2
  generalize World.setCell _ _ _ = u2 at *
  refine wpList_nil ?_
  replace hB := hide hB
  go_upto_region 4 with fail
  replace hB := unhide hB
  refine wp_region_lit ?_
  refine list_val (.func (.func 47) #[] #[.pointer (some ⟨h1, 0, none⟩)]) (by kernel_rfl) (by kernel_rfl) ?_
  simp only [nrm]
  (refine wpList_step fun K hK => ?_; replace hK := hide hK; go_simp; refine unhide hK _ _ ?_; clear hK K)
  refine wpList_nil ?_
  have hZ : Hid (Alf xa xn xc w (.returned (.func (.func 47) #[] #[.pointer (some ⟨h1, 0, none⟩)])) u2) := ⟨_, rfl, hB⟩
  clear hB
  go_wp2_with fail
  rw [unhide hT]
  exact unhide hZ
def Txd (X : List (List Int)) (w : World) (r : Ending) (w' : World) : Prop := ∃ v, r = .returned v ∧ Ox w.heap.size w' v X ∧ Gr w w'
theorem grown_other {b : Nat} {w w' : World} {v : Value} {R : List (List Value)} (hr : Or_ 1 32 b w v R) (g : w.grownBy w' v.ownBlock) {i : Nat} {o : Obj} (hi : w.heap[i]? = some o) (hn : ∀ c, o ≠ .cells c 32 (0, 0)) : w'.heap[i]? = some o := by
  rw [g.block i (lt_of_block hi) ?_]
  · exact hi
  · intro e2
    rcases hr.2.2 with ⟨rfl, _⟩ | ⟨q, cap2, cur2, rfl, _, h6, _⟩
    · simp [Value.ownBlock] at e2
    · have e3 : i = q := by simpa [Value.ownBlock] using e2
      rw [e3, h6] at hi
      exact hn _ (Option.some.inj hi).symm
structure TxJ (l D : Nat) (rc : Loop) (w : World) (Bx bo : Nat) (xa : Option Addr) (xn xc : Nat) (X : List (List Int)) (i : Nat) (W : World) : Prop where
  rc : Rcd l D rc W
  gr : Gr w W
  bx : W.heap[Bx]? = some (.cells #[.slice xa xn xc] 33 (0, 0))
  bo : ∃ v, W.heap[bo]? = some (.cells #[v] 33 (0, 0)) ∧ Ox w.heap.size W v (X.take i)
theorem TxJ.gro {l D : Nat} {rc : Loop} {w : World} {Bx bo : Nat} {xa : Option Addr} {xn xc : Nat} {X : List (List Int)} {i : Nat} {W W' : World} (h : TxJ l D rc w Bx bo xa xn xc X i W) (k : Gr W W') : TxJ l D rc w Bx bo xa xn xc X i W' := by
  obtain ⟨v, h1, h2⟩ := h.bo
  exact ⟨h.rc.gr k, h.gr.trans k, k.blk h.bx, v, k.blk h1, h2.gr k⟩
theorem TxJ.put {l D : Nat} {rc rc' : Loop} {w : World} {Bx bo : Nat} {xa : Option Addr} {xn xc : Nat} {X : List (List Int)} {i : Nat} {W : World} (h : TxJ l D rc w Bx bo xa xn xc X i W) (hl : w.heap.size ≤ l) (hne : l ≠ D) : TxJ l D rc' w Bx bo xa xn xc X i (W.putObj l (.loop rc')) := by
  obtain ⟨v, h1, h2⟩ := h.bo
  have k := put_nk h.rc.lo rfl (.loop rc')
  exact ⟨⟨put_get h.rc.lo _, by rw [(put_bt W l _).block D (lt_of_block h.rc.de) (fun e => hne e.symm)]; exact h.rc.de⟩, gr_put h.gr hl _, k.blk h.bx, v, k.blk h1, h2.nk k⟩
theorem TxJ.put' {l D : Nat} {rc rc' : Loop} {w : World} {Bx bo : Nat} {xa : Option Addr} {xn xc : Nat} {X : List (List Int)} {i : Nat} {W W' : World} (h : TxJ l D rc w Bx bo xa xn xc X i W) (e : W' = W.putObj l (.loop rc')) (hl : w.heap.size ≤ l) (hne : l ≠ D) : TxJ l D rc' w Bx bo xa xn xc X i W' := by rw [e]; exact h.put hl hne
theorem owns_bt {b : Nat} {e t : TypeId} {k n g : Nat} {W W' : World} {v : Value} {xs : List Value} {c : Array Value} (h : W.ownsRow b e k v n xs) (hg : W.heap[g]? = some (.cells c t (0, 0))) (hn : e ≠ t) (q : Bt g W W') : W'.ownsRow b e k v n xs := by
  refine ⟨h.1, ?_⟩
  rcases h.2 with h | ⟨p, cap, cur, h1, h2, h3, h4⟩
  · exact .inl h
  · exact .inr ⟨p, cap, cur, h1, h2, q.blk h3 (ty_ne h3 hg hn), h4⟩
theorem Ox.btx {b g : Nat} {W W' : World} {v : Value} {X : List (List Int)} {c : Array Value} {t : TypeId} (h : Ox b W v X) (hg : W.heap[g]? = some (.cells c t (0, 0))) (h1 : (32 : TypeId) ≠ t) (h2 : (5 : TypeId) ≠ t) (k : Bt g W W') : Ox b W' v X := by
  obtain ⟨vs, a1, a2, a3⟩ := h.own
  exact ⟨⟨vs, ⟨a1.1, owns_bt a1.2 hg h1 k⟩, a2, fun i hi => owns_bt (a3 i hi) hg h2 k⟩, h.isB⟩
theorem take_succ_get (X : List (List Int)) (i : Nat) (hi : i < X.length) : X.take (i + 1) = X.take i ++ [X.getD i []] := by
  rw [List.take_succ_eq_append_getElem hi, List.getD_eq_getElem?_getD, List.getElem?_eq_getElem hi]
  rfl
theorem own_cell {W : World} {g : Nat} {v v' : Value} {t : TypeId} (h : W.heap[g]? = some (.cells #[v] t (0, 0))) : (W.setCell ⟨g, 0, none⟩ v').heap[g]? = some (.cells #[v'] t (0, 0)) := by
  have h1 := (((Bc.nil [g] W).add ⟨g, #[v], t⟩ h (.inl (by simp)) (fun y hy => by cases hy)).cell 0 (x := ⟨g, #[v], t⟩) rfl 0 v').get 0 (x := ⟨g, #[v'], t⟩) rfl
  exact h1
set_option maxHeartbeats 4000000 in
theorem txs_ok (l gs : Nat) (sa : Option Addr) (sn sc : Nat) (xa : Option Addr) (xn xc : Nat) (bk : Bool) (w : World) (hl : w.heap[l]? = some (.cells (lgv gs sa sn sc xa xn xc bk) 69 (0, 0))) (X : List (List Int)) (hX : ∀ x ∈ X, x.length ≤ 100000) (hxn : xn ≤ 1000000) (hq : Lq w xa xn xc X) : Calls Tryd.prog 28 #[P0 l] w (Txd X w) := by
  obtain ⟨T, hT⟩ : ∃ T, T = Txd X w := ⟨_, rfl⟩
  rw [← hT]
  replace hT := hide hT
  have hXl := hq.len
  have hXi : ∀ x ∈ X, IsB x := fun x hx => by
    obtain ⟨i, hi, e⟩ := List.getElem_of_mem hx
    obtain ⟨p, o, ai, ni, ci, -, -, hlb, -⟩ := hq.at_ i (by rw [← hXl]; exact hi)
    have h9 := hlb.isB
    rw [List.getD_eq_getElem?_getD, List.getElem?_eq_getElem hi, Option.getD_some, e] at h9
    exact h9
  replace hl := hide hl; replace hq := hide hq; replace hXi := hide hXi; replace hXl := hide hXl
  refine calls_range Tryd.func28 rfl ?_
  simp only [Tryd.ntmps28, List.size_toArray, List.length_cons, List.length_nil, Nat.reduceAdd, Nat.reduceSub, Array.replicate_succ, Array.replicate_zero, List.push_toArray, List.append_toArray, List.nil_append, List.cons_append]
  go_upto_region 1 with fail
  have hB := Bl.nil w
  refine wp_region_lit ?_
  refine list_valw (.pointer (some ⟨w.heap.size, 0, none⟩)) (w.alloc (.cells (#[.slice none 0 0]) 33 (0, 0))) (by kernel_rfl) (by kernel_rfl) ?_
  replace hB := hB.new (#[.slice none 0 0]) 33
  simp only [List.nil_append, List.cons_append] at hB
  generalize World.alloc _ _ = u1 at *
  generalize w.heap.size = bo at *
  replace hB : Bl w [⟨bo, #[.slice none 0 0], 33⟩] u1 := hB
  simp only [nrm]
  refine wpList_nil ?_
  replace hB := hide hB
  go_upto_region 2 with fail
  replace hB := unhide hB
  refine wp_region_lit ?_
  refine list_val (.pointer (some ⟨l, 0, none⟩)) (by kernel_rfl) (by kernel_rfl) ?_
  simp only [nrm]
  refine list_call 26 #[P0 l] (by kernel_rfl) (by kernel_rfl) ((lall_ok l gs sa sn sc xa xn xc bk u1 (hB.gr.blk (unhide hl))).mono ?_)
  rintro r u2 ⟨Bx, rfl, hb1⟩
  have hB2 := hB.join hb1.gr [⟨Bx, #[.slice xa xn xc], 33⟩] (by intro x hx; rw [List.mem_singleton] at hx; subst hx; exact ⟨hb1.get 0 (x := ⟨Bx, #[.slice xa xn xc], 33⟩) rfl, hb1.own 0 (x := ⟨Bx, #[.slice xa xn xc], 33⟩) rfl⟩) (List.pairwise_singleton _ _)
  replace hB2 : Bl w [⟨bo, #[.slice none 0 0], 33⟩, ⟨Bx, #[.slice xa xn xc], 33⟩] u2 := hB2
  clear hB hb1
  have hB := hB2
  clear hB2
  refine ⟨_, rfl, ?_⟩
  simp only [nrm]
  refine wpList_nil ?_
  replace hB := hide hB
  go_wp2_with fail
  rename_i K_ hK_
  replace hB := unhide hB
  replace hK_ := hide hK_
  refine range_law (lb := #[.pointer (some ⟨Bx, 0, none⟩)]) 8 (by kernel_rfl) (enters_of Tryd.func47 (by kernel_rfl) rfl) ?_
  intro fn W1 hG1 hR1
  have hgu : w.heap.size ≤ u2.heap.size := hB.gr.size
  have hJ0 : TxJ (u2.heap.size + 1) u2.heap.size _ w Bx bo xa xn xc X 0 W1 := ⟨hR1, hB.gr.trans hG1, hG1.blk (hB.get 1 (x := ⟨Bx, #[.slice xa xn xc], 33⟩) rfl), _, hG1.blk (hB.get 0 (x := ⟨bo, #[.slice none 0 0], 33⟩) rfl), Ox.nil _ W1⟩
  clear hR1
  have hbne : Bx ≠ bo := hB.neq 1 0 (x := ⟨Bx, #[.slice xa xn xc], 33⟩) (y := ⟨bo, #[.slice none 0 0], 33⟩) rfl rfl (by decide)
  have hbolt : bo < u2.heap.size := lt_of_block (hB.get 0 (x := ⟨bo, #[.slice none 0 0], 33⟩) rfl)
  have hbow : w.heap.size ≤ bo := hB.own 0 (x := ⟨bo, #[.slice none 0 0], 33⟩) rfl
  refine callsIn_wide.2 ((all2_ok (u2.heap.size + 1) Bx xa xn xc X hX hxn (fun i W => TxJ (u2.heap.size + 1) u2.heap.size _ w Bx bo xa xn xc X i W) (fun _ _ => False) (fun i W hJ => ⟨hJ.bx, (unhide hq).gr hJ.gr⟩) ?hY W1 hJ0).mono ?hD)
  case hD =>
    clear hJ0 hG1 hB
    rintro e W2 ⟨rfl, hJ | ⟨c, hf⟩⟩
    · refine ⟨⟨_, rfl⟩, none, hJ.rc, ?_⟩
      intro W3 hW3
      have hJ3 := hJ.put' hW3 (by omega) (by omega)
      refine unhide hK_ _ _ ?_
      clear hK_ hJ hW3
      have hD := hJ3.rc.de
      obtain ⟨v, hv1, hv2⟩ := hJ3.bo
      have hgr := hJ3.gr
      rw [List.take_of_length_le (by rw [unhide hXl]; exact Nat.le_refl _)] at hv2
      clear hJ3
      simp only [dact]
      obtain ⟨xa2, xc2, rfl, -⟩ := hv2.lq
      replace hv1 := hide hv1; replace hv2 := hide hv2; replace hgr := hide hgr; replace hD := hide hD
      go_upto_region 5 with fail
      refine wp_region_lit ?_
      refine list_val (.slice xa2 X.length xc2) (by kernel_rfl) (exec_sx _ (.tmp 3) rfl bo 0 (by kernel_rfl) xa2 X.length xc2 (cell_of (unhide hv1) (i := 0) rfl)) ?_
      simp only [nrm]
      (refine wpList_step fun K hK => ?_; replace hK := hide hK; go_simp; refine unhide hK _ _ ?_; clear hK K)
      refine wpList_nil ?_
      go_wp2_with fail
      refine postM_ret (unhide hD) (results_tmp Tryd.results28 _ _ _) ?_
      rw [unhide hT]
      exact ⟨_, rfl, (unhide hv2).nk (put_nk (unhide hD) rfl _), gr_put (unhide hgr) hgu _⟩
    · exact hf.elim
  case hY =>
    clear hJ0 hG1
    intro i W0 W v hi hJ hg hob
    have hJ2 := hJ.gro hg
    have hob2 : Ob w.heap.size W v (X.getD i []) := ob_base hob hJ.gr.size
    clear hJ hg hob
    refine yield_law 8 hJ2.rc (by omega) rfl ?a1 ?hassign ?hbody
    case hassign =>
      intro K hK
      refine region_round _ _ (by kernel_rfl) (fun ⟨_, _, h⟩ => h) ?_
      (refine wpList_step fun K hK => ?_; replace hK := hide hK; go_simp; refine unhide hK _ _ ?_; clear hK K)
      refine wpList_nil ?_
      exact hK
    case hbody =>
      intro W' hW' hR'
      have hJ3 := hJ2.put' hW' (by omega) (by omega)
      have hob3 : Ob w.heap.size W' v (X.getD i []) := by rw [hW']; exact hob2.nk (put_nk hJ2.rc.lo rfl _)
      clear hW' hR' hJ2 hob2
      refine wpIn_block ?_
      obtain ⟨ov, hv1, hv2⟩ := hJ3.bo
      obtain ⟨ea, ec, rfl, -⟩ := hv2.lq
      obtain ⟨vs, v1, v2, v3⟩ := hv2.own
      have hisb := hv2.isB
      have hrc := hJ3.rc
      have hgr := hJ3.gr
      have hbx := hJ3.bx
      have hi2 : i < X.length := by rw [unhide hXl]; exact hi
      have hln : (X.take i).length = i := by rw [List.length_take]; omega
      have hta := take_succ_get X i hi2
      have hxb := (unhide hXi) _ (mem_of_getD (d := []) hi2)
      have hxl := hX _ (mem_of_getD (d := []) hi2)
      generalize X.getD i [] = x at *
      obtain ⟨va, vc, rfl, -⟩ := ob_lb hob3 hxb rfl
      obtain ⟨vn, hvn⟩ : ∃ n, n = x.length := ⟨_, rfl⟩
      rw [hln] at hv1 v1
      rw [← hvn] at hob3 ⊢
      clear hJ3 hv2
      replace hrc := hide hrc
      refine region_round _ _ (by kernel_rfl) (fun ⟨_, _, h⟩ => h) ?_
      refine list_val (.slice ea i ec) (by kernel_rfl) (exec_sx _ (.tmp 3) rfl bo 0 (by kernel_rfl) ea i ec (cell_of hv1 (i := 0) rfl)) ?_
      simp only [nrm]
      refine list_val (.slice va vn vc) (by kernel_rfl) (by kernel_rfl) ?_
      simp only [nrm]
      refine list_valw (.slice (some ⟨W'.heap.size, 0, none⟩) 1 1) (W'.alloc (.cells #[.slice va vn vc] 32 (0, 0))) (by kernel_rfl) (by kernel_rfl) ?_
      have hls1 : Ls 1 (W'.alloc (.cells #[.slice va vn vc] 32 (0, 0))) (some ⟨W'.heap.size, 0, none⟩) 1 1 [[.slice va vn vc]] := by
        have h9 : Or_ 1 32 W'.heap.size (W'.alloc (.cells #[.slice va vn vc] 32 (0, 0))) (.slice (some ⟨W'.heap.size, 0, none⟩) 1 1) [[.slice va vn vc]] := ⟨by intro r hr; rw [List.mem_singleton] at hr; rw [hr]; rfl, rfl, .inr ⟨W'.heap.size, 1, _, rfl, Nat.le_refl _, blk_new _ _, Nat.le_refl _, by decide, rfl, rfl⟩⟩
        obtain ⟨a9, c9, h8, h7⟩ := h9.ls
        injection h8 with e1 e2 e3
        subst e1
        subst e3
        exact h7
      have hg := (Gr.refl W').alloc (.cells #[.slice va vn vc] 32 (0, 0))
      generalize World.alloc _ _ = z4 at *
      generalize W'.heap.size = gz at *
      simp only [nrm]
      refine wpList_step fun K_ hQ => ?_
      rw [if_pos (by kernel_rfl)]
      refine app_rows lt_s (.tmp 10) (.tmp 12) rfl w.heap.size _ (vs.map fun s => [s]) rfl (v1.gr hg) (some ⟨gz, 0, none⟩) 1 1 [[.slice va vn vc]] rfl hls1 (by intro r hr; rw [List.mem_singleton] at hr; subst hr; intro q hq; rw [List.mem_singleton] at hq; subst hq; rfl) (by rw [List.length_map, v2, hln]; omega) (hgr.trans hg).size ?_
      intro v5_ z5 hor5 hgr5
      have hox2 : Ox w.heap.size z5 v5_ (X.take i ++ [x]) := Ox.snoc (v1.gr hg) v2 (fun i hi => (v3 i hi).gr hg) hisb (hob3.gr hg) ⟨hxb, by omega⟩ hgr5 hor5
      have hG5 : Gr w z5 := grown_owned (v1.gr hg).2 (Nat.le_refl _) (hgr.trans hg) hgr5
      have hbx5 := grown_other (v1.gr hg) hgr5 (hg.blk hbx) (fun c e => by injection e with _ e2 _; exact absurd e2 (by decide))
      have hbo5 := grown_other (v1.gr hg) hgr5 (hg.blk hv1) (fun c e => by injection e with _ e2 _; exact absurd e2 (by decide))
      have hlo5 := grown_other (v1.gr hg) hgr5 (hg.blk (unhide hrc).lo) (fun c e => by cases e)
      have hde5 := grown_other (v1.gr hg) hgr5 (hg.blk (unhide hrc).de) (fun c e => by cases e)
      obtain ⟨oa, oc, ho5, -⟩ := hox2.lq
      obtain ⟨on, hon⟩ : ∃ n, n = (X.take i ++ [x]).length := ⟨_, rfl⟩
      rw [← hon] at ho5
      subst ho5
      replace hox2 := hide hox2; replace hG5 := hide hG5; replace hbx5 := hide hbx5; replace hlo5 := hide hlo5; replace hde5 := hide hde5; replace hon := hide hon
      clear hgr5 hls1 hor5 hg v1 v3 hgr hbx hrc hob3 hv1
      refine hQ _ _ ?_
      clear hQ K_
      simp only [nrm]
      have c4 := cell_of hbo5 (i := 0) rfl
      have fz := froz_of (i := 0) hbo5
      have hbo6 := hide (own_cell (v' := .slice oa on oc) hbo5)
      have hbt := hide (Bt.setCell (g := bo) z5 0 (.slice oa on oc))
      have hox6 := hide ((unhide hox2).btx hbo5 (by decide) (by decide) (unhide hbt))
      clear hbo5 hox2
      (refine wpList_step fun K hK => ?_; replace hK := hide hK; go_simp; refine unhide hK _ _ ?_; clear hK K)
      clear c4 fz
      generalize World.setCell _ _ _ = z6 at *
      refine wpList_nil ?_
      have hR6 : Rcd (u2.heap.size + 1) u2.heap.size _ z6 := ⟨by rw [(unhide hbt).block _ (lt_of_block (unhide hlo5)) (by omega)]; exact unhide hlo5, by rw [(unhide hbt).block _ (lt_of_block (unhide hde5)) (by omega)]; exact unhide hde5⟩
      refine ⟨hR6, ?_⟩
      refine (if_pos rfl).mpr ?_
      have hJ6 : TxJ (u2.heap.size + 1) u2.heap.size _ w Bx bo xa xn xc X (i + 1) z6 := ⟨hR6, (unhide hbt).gr (unhide hG5) hbow, (unhide hbt).blk (unhide hbx5) hbne, _, unhide hbo6, by rw [hta]; exact unhide hox6⟩
      exact hJ6.put (by omega) (by omega)
set_option maxHeartbeats 4000000 in
theorem lused_ok (l gs : Nat) (sa : Option Addr) (sn sc : Nat) (xa : Option Addr) (xn xc : Nat) (bk : Bool) (w : World) (hl : w.heap[l]? = some (.cells (lgv gs sa sn sc xa xn xc bk) 69 (0, 0))) (P : List (List Int)) (hP : Lq w xa xn xc P) (hs : xn ≤ 1000000) (hu : usd P < 4611686018427387904) : Calls Tryd.prog 24 #[P0 l] w (Vl (.int .i64 ((usd P : Nat) : Int)) w) := by
  obtain ⟨T, hT⟩ : ∃ T, T = Vl (.int .i64 ((usd P : Nat) : Int)) w := ⟨_, rfl⟩
  rw [← hT]
  replace hT := hide hT
  have hPl := hP.len
  replace hP := hide hP; replace hPl := hide hPl; replace hl := hide hl
  have hI0 : Hid (Gr w w) := Gr.refl w
  go_enter Tryd.func24, Tryd.ntmps24
  go_upto_region 4 with fail
  refine wp_region_lit ?_
  refine list_val (.pointer (some ⟨l, 0, none⟩)) (by kernel_rfl) (by kernel_rfl) ?_
  simp only [nrm]
  refine list_val (.pointer (some ⟨l, 0, none⟩)) (by kernel_rfl) (by kernel_rfl) ?_
  simp only [nrm]
  refine list_val (.pointer (some ⟨l, 2, none⟩)) (by kernel_rfl) (by kernel_rfl) ?_
  simp only [nrm]
  refine list_val (.slice xa xn xc) (by kernel_rfl) (exec_sx _ (.tmp 10) rfl l 2 (by kernel_rfl) xa xn xc (cell_of (unhide hl) (i := 2) rfl)) ?_
  simp only [nrm]
  refine list_val (.int .i64 xn) (by kernel_rfl) (by kernel_rfl) ?_
  simp only [nrm]
  refine list_val (.int .i64 0) (by kernel_rfl) (by kernel_rfl) ?_
  simp only [nrm]
  refine wpList_nil ?_
  go_wp2_with fail
  go_loopw [3, 13] (fun x i wr => ∃ j : Nat, j ≤ xn ∧ i = .int .i64 (j : Int) ∧ x = .int .i64 ((usd (P.take j) : Nat) : Int) ∧ Hid (Gr w wr)) (fun _ i _ => xn - (intOf i).toNat)
  case atStart => exact ⟨0, by omega, rfl, rfl, hI0⟩
  case round =>
  clear hI0
  obtain ⟨j, hj, rfl, rfl, hG⟩ := hrel
  have hle := usd_take_le P j
  by_cases hlt : j < xn
  · skip
    have jI : (j : Int) < (xn : Int) := by omega
    obtain ⟨p, o, ai, ni, ci, rfl, hc, hLb, hci⟩ := (unhide hP).at_ j hlt
    have hsu := usd_take P j (by rw [unhide hPl]; exact hlt)
    have hle2 := usd_take_le P (j + 1)
    rw [hLb.len] at hsu
    have hnc := hLb.cap
    have hmx := hLb.max
    obtain ⟨x, hx⟩ : ∃ x, x = usd (P.take j) := ⟨_, rfl⟩
    obtain ⟨y, hy⟩ : ∃ y, y = usd (P.take (j + 1)) := ⟨_, rfl⟩
    rw [← hx] at hsu hle
    rw [← hy] at hsu hle2
    rw [← hx]
    have ew : IntKind.i64.wrap ((x : Int) + ((ned ni : Nat) : Int)) = (y : Int) := by rw [IntKind.wrap_i64]; omega
    replace hc := hide hc; replace hx := hide hx; replace hy := hide hy; replace hsu := hide hsu
    clear hLb
    go_upto_region 6 with fail
    refine wp_region_lit ?_
    refine list_val (.pointer (some ⟨p, o + j, none⟩)) (by kernel_rfl) (exec_ils _ (.tmp 11) (.tmp 13) rfl p o xn xc j rfl rfl hlt) ?_
    simp only [nrm]
    refine list_val (.slice ai ni ci) (by kernel_rfl) (exec_sby _ (.tmp 15) rfl p (o + j) (by kernel_rfl) ai ni ci ((unhide hG).cell (unhide hc))) ?_
    simp only [nrm]
    (refine wpList_step fun K hK => ?_; replace hK := hide hK; go_simp; refine unhide hK _ _ ?_; clear hK K)
    refine wpList_nil ?_
    go_upto_region 7 with fail
    refine wp_region_lit ?_
    refine list_val (.int .i64 (x : Int)) (by kernel_rfl) (by kernel_rfl) ?_
    simp only [nrm]
    refine list_val (.slice ai ni ci) (by kernel_rfl) (by kernel_rfl) ?_
    simp only [nrm]
    refine list_val (.int .i64 (ni : Int)) (by kernel_rfl) (by kernel_rfl) ?_
    simp only [nrm]
    refine list_call 25 #[.int .i64 (ni : Int)] (by kernel_rfl) (by kernel_rfl) ((wneed_ok (ni : Int) (by omega) (by omega) _).mono ?_)
    rintro r v2 ⟨rfl, hg⟩
    refine ⟨_, rfl, ?_⟩
    rw [nedI_nat]
    have hG2 := hide ((unhide hG).trans hg)
    clear hg hG
    simp only [nrm]
    refine list_val (.int .i64 (y : Int)) (by kernel_rfl) (by go_simp) ?_
    simp only [nrm]
    (refine wpList_step fun K hK => ?_; replace hK := hide hK; go_simp; refine unhide hK _ _ ?_; clear hK K)
    refine wpList_nil ?_
    go_wp2_with fail
    go_roundw
    case rel => exact ⟨j + 1, by omega, by go_num, by rw [← unhide hy], hG2⟩
    case measure => simp [intOf]; omega
  have jI : ¬ (j : Int) < (xn : Int) := by omega
  obtain rfl : j = xn := by omega
  rw [List.take_of_length_le (by rw [unhide hPl]; exact Nat.le_refl _)] at *
  have hZ : Hid (Vl (.int .i64 ((usd P : Nat) : Int)) w (.returned (.int .i64 ((usd P : Nat) : Int))) wr) := ⟨rfl, unhide hG⟩
  clear hG
  generalize usd P = U at *
  go_wp2_with fail
  rw [unhide hT]
  exact unhide hZ
set_option maxHeartbeats 4000000 in
theorem lsnap_ok (l gs : Nat) (sa : Option Addr) (sn sc : Nat) (xa : Option Addr) (xn xc : Nat) (bk : Bool) (w : World) (hl : w.heap[l]? = some (.cells (lgv gs sa sn sc xa xn xc bk) 69 (0, 0))) (L : List Int) (hL : Lb w sa sn sc L) (hn : sn ≤ 100000) : Calls Tryd.prog 27 #[P0 l] w (Infd L w) := by
  obtain ⟨T, hT⟩ : ∃ T, T = Infd L w := ⟨_, rfl⟩
  rw [← hT]
  replace hT := hide hT
  replace hl := hide hl; replace hL := hide hL
  go_enter Tryd.func27, Tryd.ntmps27
  go_upto_region 3 with fail
  refine wp_region_lit ?_
  refine list_val (.pointer (some ⟨l, 0, none⟩)) (by kernel_rfl) (by kernel_rfl) ?_
  simp only [nrm]
  refine list_val (.pointer (some ⟨l, 0, none⟩)) (by kernel_rfl) (by kernel_rfl) ?_
  simp only [nrm]
  refine list_val (.pointer (some ⟨l, 1, none⟩)) (by kernel_rfl) (by kernel_rfl) ?_
  simp only [nrm]
  refine list_val (.slice sa sn sc) (by kernel_rfl) (exec_sby _ (.tmp 7) rfl l 1 (by kernel_rfl) sa sn sc (cell_of (unhide hl) (i := 1) rfl)) ?_
  simp only [nrm]
  refine list_call 35 #[.slice sa sn sc] (by kernel_rfl) (by kernel_rfl) ((clone_any L sa sn sc _ (unhide hL) hn).mono ?_)
  rintro r u ⟨vv, rfl, hob, hg⟩
  refine ⟨_, rfl, ?_⟩
  have hZ : Hid (Infd L w (.returned vv) u) := ⟨vv, rfl, hob, hg⟩
  clear hob hg
  simp only [nrm]
  (refine wpList_step fun K hK => ?_; replace hK := hide hK; go_simp; refine unhide hK _ _ ?_; clear hK K)
  refine wpList_nil ?_
  go_wp2_with fail
  rw [unhide hT]
  exact unhide hZ
set_option maxHeartbeats 4000000 in
theorem lroom_ok (l gs : Nat) (sa : Option Addr) (sn sc : Nat) (xa : Option Addr) (xn xc : Nat) (bk : Bool) (w : World) (hl : w.heap[l]? = some (.cells (lgv gs sa sn sc xa xn xc bk) 69 (0, 0))) (P : List (List Int)) (hP : Lq w xa xn xc P) (hs : xn ≤ 1000000) (G : List Nat) (gd N : Nat) (s : Sup) (hN : N ≤ 1000000) (hS : Sto G gs gd N s w) (n : Int) (h1 : -9223372036854775808 ≤ n) (h2 : n < 9223372036854775808) (sl : Nat) (hsl : sl = N - 2 - 2 * ((N - 2) / 4)) (hu : usd P ≤ sl) : Calls Tryd.prog 16 #[P0 l, .int .i64 n] w (Vl (.bool (decide (0 ≤ n ∧ nedI n ≤ ((sl - usd P : Nat) : Int)))) w) := by
  obtain ⟨T, hT⟩ : ∃ T, T = Vl (.bool (decide (0 ≤ n ∧ nedI n ≤ ((sl - usd P : Nat) : Int)))) w := ⟨_, rfl⟩
  rw [← hT]
  replace hT := hide hT
  have hl0 := hl
  replace hl := hide hl; replace hP := hide hP; replace hS := hide hS
  obtain ⟨U, hU⟩ : ∃ U, U = usd P := ⟨_, rfl⟩
  rw [← hU] at hu hT
  have hw : IntKind.i64.wrap ((sl : Int) - (U : Int)) = ((sl - U : Nat) : Int) := by rw [IntKind.wrap_i64]; omega
  replace hsl := hide hsl; replace hU := hide hU
  clear hl0
  have hB := Bl.nil w
  go_enter Tryd.func16, Tryd.ntmps16
  go_upto_region 1 with fail
  refine wp_region_lit ?_
  refine list_val (.pointer (some ⟨l, 0, none⟩)) (by kernel_rfl) (by kernel_rfl) ?_
  simp only [nrm]
  refine list_val (.bool true) (by kernel_rfl) (by kernel_rfl) ?_
  simp only [nrm]
  refine list_val (.bool true) (by kernel_rfl) (by kernel_rfl) ?_
  simp only [nrm]
  refine list_val (.int .i64 n) (by kernel_rfl) (by kernel_rfl) ?_
  simp only [nrm]
  refine list_val (.pointer (some ⟨l, 0, none⟩)) (by kernel_rfl) (by kernel_rfl) ?_
  simp only [nrm]
  refine list_val (.pointer (some ⟨l, 0, none⟩)) (by kernel_rfl) (by kernel_rfl) ?_
  simp only [nrm]
  refine list_val (.pointer (some ⟨l, 0, none⟩)) (by kernel_rfl) (by kernel_rfl) ?_
  simp only [nrm]
  refine list_val (.pointer (some ⟨gs, 0, none⟩)) (by kernel_rfl) (exec_pst _ (.tmp 11) rfl l 0 (by kernel_rfl) _ (cell_of (unhide hl) (i := 0) rfl)) ?_
  simp only [nrm]
  refine list_call 15 #[.pointer (some ⟨gs, 0, none⟩)] (by kernel_rfl) (by kernel_rfl) ((slots_ok G gs gd N s hN _ (unhide hS)).mono ?_)
  rintro r u1 ⟨rfl, hg⟩
  refine ⟨_, rfl, ?_⟩
  rw [← unhide hsl]
  replace hB := hB.more hg
  clear hg
  simp only [nrm]
  refine list_val (.pointer (some ⟨l, 0, none⟩)) (by kernel_rfl) (by kernel_rfl) ?_
  simp only [nrm]
  refine list_call 24 #[.pointer (some ⟨l, 0, none⟩)] (by kernel_rfl) (by kernel_rfl) ((lused_ok l gs sa sn sc xa xn xc bk _ (hB.gr.blk (unhide hl)) P ((unhide hP).gr hB.gr) hs (by have := unhide hU; have := unhide hsl; omega)).mono ?_)
  rintro r u2 ⟨rfl, hg⟩
  refine ⟨_, rfl, ?_⟩
  rw [← unhide hU]
  replace hB := hB.more hg
  clear hg
  simp only [nrm]
  refine list_val (.int .i64 ((sl - U : Nat) : Int)) (by kernel_rfl) (by go_simp) ?_
  simp only [nrm]
  refine list_call 33 #[.int .i64 n, .int .i64 ((sl - U : Nat) : Int)] (by kernel_rfl) (by kernel_rfl) ((wfits_ok n ((sl - U : Nat) : Int) h1 h2 _).mono ?_)
  rintro r u3 ⟨rfl, hg⟩
  refine ⟨_, rfl, ?_⟩
  replace hB := hB.more hg
  clear hg
  generalize decide (0 ≤ n ∧ nedI n ≤ ((sl - U : Nat) : Int)) = rr at *
  simp only [nrm]
  refine list_val (.bool rr) (by kernel_rfl) (by kernel_rfl) ?_
  simp only [nrm]
  (refine wpList_step fun K hK => ?_; replace hK := hide hK; go_simp; refine unhide hK _ _ ?_; clear hK K)
  refine wpList_nil ?_
  have hZ : Hid (Vl (.bool rr) w (.returned (.bool rr)) u3) := ⟨rfl, hB.gr⟩
  clear hB
  go_wp2_with fail
  rw [unhide hT]
  exact unhide hZ
theorem chunk1_any (l Bs Bn : Nat) (a : Option Addr) (n c : Nat) (hcap : n ≤ c) (hmax : c < 9223372036854775808) (hn : n ≤ 1000000) (ha : n = 0 ∨ ∃ p o, a = some ⟨p, o, none⟩) (J : Nat → World → Prop) (Jx : Option Code → World → Prop)
    (hJq : ∀ i W, J i W → W.heap[Bs]? = some (.cells #[.slice a n c] 32 (0, 0)) ∧ W.heap[Bn]? = some (.cells #[.int .i64 63] 3 (0, 0)))
    (hJg : ∀ i W W', J i W → Gr W W' → J i W')
    (hY : ∀ (p o i : Nat) (W : World) (r : Nat), a = some ⟨p, o, none⟩ → 63 * i < n → r = min 63 (n - 63 * i) → J i W → YieldAt Fence.wide 8 Tryd.prog l #[.slice (some ⟨p, o + 63 * i, none⟩) r r] W fun e W' => ∃ b c, e = .returned (.bool b) ∧ (if b then J (i + 1) W' else Jx c W'))
    (W : World) (h0 : J 0 W) : Calls Tryd.prog 83 #[.func (.yield l) #[] #[], .pointer (some ⟨Bs, 0, none⟩), .pointer (some ⟨Bn, 0, none⟩)] W (fun e W' => e = .returned (.tuple #[]) ∧ (J ((n + 62) / 63) W' ∨ ∃ c, Jx c W')) := by
  rcases ha with h | ⟨p, o, rfl⟩
  · subst h
    refine (chunk1_nil l Bs Bn a c W (hJq 0 W h0).1).mono ?_
    rintro e W' ⟨rfl, rfl⟩
    exact ⟨rfl, .inl h0⟩
  · exact chunk1_ok l Bs Bn p o n c hcap hmax hn J Jx hJq hJg (fun i W r h1 h2 h3 => hY p o i W r rfl h1 h2 h3) W h0
theorem lies_no {F : List Nat} {g : Nat} {D : Dk} {W : World} (h : Lies F g D W) {i : Nat} {o : Obj} (hi : W.heap[i]? = some o) (hn : ∀ c t, o = .cells c t (0, 0) → t ≠ 92 ∧ t ≠ 50 ∧ t ≠ 117) : i ∉ F := by
  obtain ⟨sg, sc, C, pa, pc, l, h, rfl⟩ := h
  intro hm
  rcases mem_pdF.1 hm with rfl | rfl | hm
  · rw [h.cel] at hi
    exact (hn _ _ (Option.some.inj hi).symm).1 rfl
  · rw [h.saf] at hi
    exact (hn _ _ (Option.some.inj hi).symm).2.1 rfl
  · obtain ⟨cur, hc⟩ := or_blk_lt h.pnd hm
    rw [hc] at hi
    exact (hn _ _ (Option.some.inj hi).symm).2.2 rfl
theorem step_alive {D : Dk} {o : Option (Nat × List Int)} (h : (D.step o).2 = 0) : (D.step o).1.dead = false := by
  cases o with
  | none =>
    by_cases hd : D.dead = true
    · simp [Dk.step, Dk.syncE, hd] at h
    · have hd : D.dead = false := by simpa using hd
      by_cases hl : D.left = 0
      · simp [Dk.step, Dk.syncE, hd, hl] at h
      · exact (step_sync hd hl).2.1
  | some x =>
    by_cases hd : D.dead = true
    · simp [Dk.step, Dk.writeE, hd] at h
    · have hd : D.dead = false := by simpa using hd
      by_cases hh : D.has (x.1 : Int)
      · by_cases hl : D.left = 0
        · simp [Dk.step, Dk.writeE, hd, hl, hh] at h
        · exact (step_write hd x (by have := hh.2; omega) hl).2.1
      · simp [Dk.step, Dk.writeE, hd, hh] at h
theorem runf_next {o : Nat} {f : Nat → List Int} {j : Nat} {D : Dk} (h : (Dk.runD ((wrf o f j).map some) D).2 = 0) : Dk.runD ((wrf o f (j + 1)).map some) D = (Dk.runD ((wrf o f j).map some) D).1.step (some (o + j, f j)) := by
  rw [wrf_succ, List.map_append, run_app, if_pos h]
  show Dk.runD [some (o + j, f j)] _ = _
  rw [Dk.runD, Dk.runD]
  split
  · rename_i h2
    rw [← h2]
  · rfl
theorem wrf_split (o : Nat) (f : Nat → List Int) (j K : Nat) (h : j < K) : ∃ r, wrf o f K = wrf o f j ++ (o + j, f j) :: r := by
  obtain ⟨d, rfl⟩ : ∃ d, K = j + 1 + d := ⟨K - j - 1, by omega⟩
  clear h
  induction d with
  | zero => exact ⟨[], wrf_succ o f j⟩
  | succ d ih =>
    obtain ⟨r, hr⟩ := ih
    refine ⟨r ++ [(o + (j + 1 + d), f (j + 1 + d))], ?_⟩
    rw [show j + 1 + (d + 1) = j + 1 + d + 1 from by omega, wrf_succ, hr, List.append_assoc]
    rfl
theorem appf_stop {o t k u : Nat} {x : List Int} {j : Nat} {D : Dk} (hj : j < (x.length + 62) / 63) (h : (Dk.runD ((wrf (o + u + 1) (dat x) j).map some) D).2 = 0) (h2 : ((Dk.runD ((wrf (o + u + 1) (dat x) j).map some) D).1.step (some (o + u + 1 + j, dat x j))).2 ≠ 0) : Dk.runD (appOps o t k u x) D = (Dk.runD ((wrf (o + u + 1) (dat x) j).map some) D).1.step (some (o + u + 1 + j, dat x j)) := by
  obtain ⟨r, hr⟩ := wrf_split (o + u + 1) (dat x) j _ hj
  unfold appOps
  rw [hr, List.map_append, List.append_assoc, run_app, if_pos h, List.map_cons, List.cons_append, Dk.runD, if_neg h2]
theorem appf_last {o t k u : Nat} {x : List Int} {D : Dk} (h : (Dk.runD ((wrf (o + u + 1) (dat x) ((x.length + 62) / 63)).map some) D).2 = 0) : Dk.runD (appOps o t k u x) D = Dk.runD [none, some (o + u, mkL t k x), none] (Dk.runD ((wrf (o + u + 1) (dat x) ((x.length + 62) / 63)).map some) D).1 := by
  unfold appOps
  rw [run_app, if_pos h]
theorem appf_cur {D : Dk} {m o u : Nat} {x : List Int} (hD : D.Ok m) (hx : IsB x) (hp : D.pend = []) (h : (Dk.runD ((wrf (o + u + 1) (dat x) ((x.length + 62) / 63)).map some) D).2 = 0) (j : Nat) (hj : j < o) : ((Dk.runD ((wrf (o + u + 1) (dat x) ((x.length + 62) / 63)).map some) D).1.step none).1.cur j = D.cur j := by
  have h1 := (run_cur (l := (wrf (o + u + 1) (dat x) ((x.length + 62) / 63)).map some ++ [none]) (j := j) hD (fun y hy => by
    rcases List.mem_append.1 hy with hy | hy
    · obtain ⟨z, hz, e⟩ := List.mem_map.1 hy
      have e2 := Option.some.inj e
      subst e2
      obtain ⟨h1, h2, h3⟩ := wrf_mem hz
      exact ⟨by rw [h3]; exact dat_bb hx _, by omega⟩
    · simp at hy) (by rw [hp]; intro y hy; cases hy) []).1
  rw [run_app, if_pos h, Dk.runD, Dk.runD] at h1
  split at h1
  · exact h1
  · exact h1
theorem results_cell1 {fn : Func} {p : Tmp} (h : fn.results = #[.cell p 29]) (tm : Array Value) (w : World) (g : Nat) (v : Int) (hp : tm.getD p undef = .pointer (some ⟨g, 0, none⟩)) (hc : w.cell? ⟨g, 0, none⟩ = some (.int .i64 v)) : (results fn tm).run Tryd.prog w = .ok (.int .i64 v) w := by
  have hp2 : tm[p]?.getD undef = .pointer (some ⟨g, 0, none⟩) := by rw [← Array.getD_eq_getD_getElem?]; exact hp
  simp only [results, h]
  go_simp
structure Lw (l : Nat) (bl br bat : Nat) (k : Nat) (e : Int) (W : World) : Prop where
  bl : W.heap[bl]? = some (.cells #[.pointer (some ⟨l, 0, none⟩)] 28 (0, 0))
  br : W.heap[br]? = some (.cells #[.int .i64 e] 29 (0, 0))
  bat : W.heap[bat]? = some (.cells #[.int .i64 (k : Int)] 3 (0, 0))
theorem Lw.nk {l bl br bat k : Nat} {e : Int} {W W' : World} (h : Lw l bl br bat k e W) (n : Nk W W') : Lw l bl br bat k e W' := ⟨n.blk h.bl, n.blk h.br, n.blk h.bat⟩
theorem Rcd.chg {lpo D0 : Nat} {rc : Loop} {F F' : List Nat} {g : Nat} {D : Dk} {W W' : World} (h : Rcd lpo D0 rc W) (hL : Lies F g D W) (n : Chg F F' W W') : Rcd lpo D0 rc W' :=
  ⟨n.blk h.lo (lies_no hL h.lo (fun c t e => by cases e)), n.blk h.de (lies_no hL h.de (fun c t e => by cases e))⟩
structure LwJ (lpo D0 : Nat) (rc : Loop) (F : List Nat) (w : World) (gd : Nat) (D : Dk) (m b u : Nat) (x : List Int) (a : Option Addr) (n c : Nat) (l bl br bat Bs Bn : Nat) (j : Nat) (W : World) : Prop where
  rc : Rcd lpo D0 rc W
  ls : ∃ F', Lies F' gd (Dk.runD ((wrf b (dat x) j).map some) D).1 W ∧ Chg F F' w W
  er : (Dk.runD ((wrf b (dat x) j).map some) D).2 = 0
  ok : (Dk.runD ((wrf b (dat x) j).map some) D).1.Ok (m + j)
  lw : Lw l bl br bat (u + j) 0 W
  bs : W.heap[Bs]? = some (.cells #[.slice a n c] 32 (0, 0))
  bn : W.heap[Bn]? = some (.cells #[.int .i64 63] 3 (0, 0))
theorem LwJ.gro {lpo D0 : Nat} {rc : Loop} {F : List Nat} {w : World} {gd : Nat} {D : Dk} {m b u : Nat} {x : List Int} {a : Option Addr} {n c l bl br bat Bs Bn j : Nat} {W W' : World} (h : LwJ lpo D0 rc F w gd D m b u x a n c l bl br bat Bs Bn j W) (k : Gr W W') : LwJ lpo D0 rc F w gd D m b u x a n c l bl br bat Bs Bn j W' := by
  obtain ⟨F', h1, h2⟩ := h.ls
  exact ⟨h.rc.gr k, ⟨F', h1.gr k, h2.gr k⟩, h.er, h.ok, h.lw.nk k.nk, k.blk h.bs, k.blk h.bn⟩
theorem Chg.put {F F' : List Nat} {w W : World} (h : Chg F F' w W) {l : Nat} (hl : w.heap.size ≤ l) (o : Obj) : Chg F F' w (W.putObj l o) := h.bt (put_bt W l o) hl
theorem Rcd.put' {lpo D0 : Nat} {rc rc' : Loop} {W W' : World} (h : Rcd lpo D0 rc W) (e : W' = W.putObj lpo (.loop rc')) (hne : lpo ≠ D0) : Rcd lpo D0 rc' W' := by
  rw [e]
  exact ⟨put_get h.lo _, by rw [(put_bt W lpo _).block D0 (lt_of_block h.de) (fun e => hne e.symm)]; exact h.de⟩
theorem LwJ.put' {lpo D0 : Nat} {rc rc' : Loop} {F : List Nat} {w : World} {gd : Nat} {D : Dk} {m b u : Nat} {x : List Int} {a : Option Addr} {n c l bl br bat Bs Bn j : Nat} {W W' : World} (h : LwJ lpo D0 rc F w gd D m b u x a n c l bl br bat Bs Bn j W) (e : W' = W.putObj lpo (.loop rc')) (hl : w.heap.size ≤ lpo) (hne : lpo ≠ D0) : LwJ lpo D0 rc' F w gd D m b u x a n c l bl br bat Bs Bn j W' := by
  obtain ⟨F', h1, h2⟩ := h.ls
  have hr := h.rc.put' e hne
  subst e
  have k := put_nk h.rc.lo rfl (.loop rc')
  exact ⟨hr, ⟨F', h1.nk k, h2.put hl _⟩, h.er, h.ok, h.lw.nk k, k.blk h.bs, k.blk h.bn⟩
structure LwX (lpo D0 : Nat) (rc : Loop) (F : List Nat) (w : World) (gd : Nat) (E : Dk) (e : Int) (br : Nat) (W : World) : Prop where
  rc : Rcd lpo D0 rc W
  ls : ∃ F', Lies F' gd E W ∧ Chg F F' w W
  br : W.heap[br]? = some (.cells #[.int .i64 e] 29 (0, 0))
theorem LwX.put' {lpo D0 : Nat} {rc rc' : Loop} {F : List Nat} {w : World} {gd : Nat} {E : Dk} {e : Int} {br : Nat} {W W' : World} (h : LwX lpo D0 rc F w gd E e br W) (q : W' = W.putObj lpo (.loop rc')) (hl : w.heap.size ≤ lpo) (hne : lpo ≠ D0) : LwX lpo D0 rc' F w gd E e br W' := by
  obtain ⟨F', h1, h2⟩ := h.ls
  have hr := h.rc.put' q hne
  subst q
  have k := put_nk h.rc.lo rfl (.loop rc')
  exact ⟨hr, ⟨F', h1.nk k, h2.put hl _⟩, k.blk h.br⟩
theorem LwX.leave {lpo D0 : Nat} {rc : Loop} {F : List Nat} {w : World} {gd : Nat} {E : Dk} {e : Int} {br : Nat} {W : World} (h : LwX lpo D0 rc F w gd E e br W) (hl : w.heap.size ≤ D0) : (W.putObj D0 (.deferred none)).cell? ⟨br, 0, none⟩ = some (.int .i64 e) ∧ Ch F gd E e w (.returned (.int .i64 e)) (W.putObj D0 (.deferred none)) := by
  obtain ⟨F', h1, h2⟩ := h.ls
  have k := put_nk h.rc.de rfl (.deferred none)
  exact ⟨cell_of (k.blk h.br) (i := 0) rfl, F', rfl, h1.nk k, h2.put hl _⟩
theorem rcd_of {lpo D0 : Nat} {tm : Array Value} {ps : Array Tmp} {as_ bo : Code} {D : Nat} {fn : FuncId} {W : World} (h : Rcd lpo D0 (lrc tm ps as_ bo D fn .ready none) W) : ∃ rf : LoopState → Option Code → Loop, rf = lrc tm ps as_ bo D fn := ⟨_, rfl⟩
theorem Lb.btn {W W' : World} {p q n c g : Nat} {L : List Int} (h : Lb W (some ⟨p, q, none⟩) n c L) (k : Bt g W W') (hp : p ≠ g) : Lb W' (some ⟨p, q, none⟩) n c L := by
  refine ⟨h.len, h.isB, ?_, h.cap, h.max⟩
  rcases h.sl with e | ⟨p2, o, e, h2⟩
  · exact .inl e
  · have e2 := Option.some.inj e
    injection e2 with e3 e4 _
    subst e3 e4
    exact .inr ⟨p, q, rfl, h2.bt k hp⟩
theorem mr_ok {t k n : Nat} {H : List Int} (h1 : t < 18446744073709551616) (h2 : k < 4294967296) (h3 : n < 4294967296) (h4 : H.length = 16) (h5 : IsB H) : (Mr.mk t k n H).Ok := ⟨h1, h2, h3, h4, h5⟩
set_option maxHeartbeats 4000000 in
theorem llay_ok (F G : List Nat) (l gs gd m : Nat) (D : Dk) (s : Sup) (hD : D.Ok m) (hm : m ≤ 800000) (hd : D.dead = false) (hp : D.pend = []) (hcn : cntS (D.cur 0) (D.cur 1) = (s, true)) (hn64 : 64 ≤ D.safe.length) (hst : s.turn < 18446744073709551616) (sa : Option Addr) (sn sc : Nat) (xa : Option Addr) (xc : Nat) (bk : Bool) (X : List (List Int)) (w : World) (hL : Lies F gd D w) (hs : Sto G gs gd D.safe.length s w) (hl : w.heap[l]? = some (.cells (lgv gs sa sn sc xa X.length xc bk) 69 (0, 0))) (hP : Lq w xa X.length xc X) (M : List Int) (a : Option Addr) (n c : Nat) (hM : Lb w a n c M) (hMa : M = [] ∨ ∀ i ∈ F, blkOf a ≠ some i) (hfit : usd X + ned M.length ≤ D.safe.length - lgo D.safe.length) (hf : Fst w) (h0 : 0 ∉ F) : Calls Tryd.prog 34 #[P0 l, .slice a n c] w (Ch F gd (Dk.runD (appOps (lgo D.safe.length) s.turn X.length (usd X) M) D).1 (Dk.runD (appOps (lgo D.safe.length) s.turn X.length (usd X) M) D).2 w) := by
  obtain ⟨T, hT⟩ : ∃ T, T = Ch F gd (Dk.runD (appOps (lgo D.safe.length) s.turn X.length (usd X) M) D).1 (Dk.runD (appOps (lgo D.safe.length) s.turn X.length (usd X) M) D).2 w := ⟨_, rfl⟩
  rw [← hT]
  replace hT := hide hT
  have h512 := hD.hi1
  have hMl := hM.len
  have hMb := hM.isB
  have hcap := hM.cap
  have hmax := hM.max
  have hxu := usd_ge X
  obtain ⟨N, hN⟩ : ∃ N, N = D.safe.length := ⟨_, rfl⟩
  obtain ⟨lg, hlg⟩ : ∃ g, g = lgo D.safe.length := ⟨_, rfl⟩
  have hlg2 : lg = 2 + 2 * ((N - 2) / 4) := by rw [hlg, hN]; rfl
  obtain ⟨u, hu⟩ : ∃ u, u = usd X := ⟨_, rfl⟩
  obtain ⟨K, hK⟩ : ∃ K, K = (n + 62) / 63 := ⟨_, rfl⟩
  have hned : ned M.length = K + 1 := by unfold ned; rw [hMl]; omega
  obtain ⟨AP, hAP⟩ : ∃ A, A = Dk.runD (appOps lg s.turn X.length u M) D := ⟨_, rfl⟩
  rw [← hlg, ← hu, ← hAP] at hT
  rw [← hN] at h512 hn64 hfit
  have hlgN : lgo N = lg := by rw [hlg, hN]
  rw [hned, ← hu, hlgN] at hfit
  rw [← hu] at hxu
  rw [← hN] at hs
  have ha : n = 0 ∨ ∃ p o, a = some ⟨p, o, none⟩ := by
    rcases hM.sl with h | ⟨p, o, h, _⟩
    · left; rw [← hMl, h]; rfl
    · exact .inr ⟨p, o, h⟩
  have hlF : l ∉ F := lies_no hL hl (fun c t e => by injection e with _ e2 _; subst e2; decide)
  have hgF : gs ∉ F := lies_no hL hs.2 (fun c t e => by injection e with _ e2 _; subst e2; decide)
  have hXn : X.length ≤ 512 := by omega
  have hK512 : K ≤ 512 := by omega
  have hn6 : n ≤ 1000000 := by omega
  replace hD := hide hD; replace hL := hide hL; replace hs := hide hs; replace hl := hide hl; replace hP := hide hP; replace hM := hide hM; replace hMa := hide hMa; replace hf := hide hf; replace hN := hide hN; replace hlg := hide hlg; replace hu := hide hu; replace hK := hide hK; replace hned := hide hned; replace hAP := hide hAP; replace hcn := hide hcn; replace hp := hide hp; replace hd := hide hd; replace hMl := hide hMl; replace hMb := hide hMb; replace hlgN := hide hlgN; replace hlg2 := hide hlg2
  refine calls_range Tryd.func34 rfl ?_
  simp only [Tryd.ntmps34, List.size_toArray, List.length_cons, List.length_nil, Nat.reduceAdd, Nat.reduceSub, Array.replicate_succ, Array.replicate_zero, List.push_toArray, List.append_toArray, List.nil_append, List.cons_append]
  go_upto_region 1 with fail
  have hB := (((Bl.nil w).new #[P0 l] 28).new #[.int .i64 0] 29)
  simp only [size_alloc, List.nil_append, List.cons_append] at hB
  generalize World.alloc _ _ = u0 at *
  replace hB : Bl w [⟨w.heap.size, #[.pointer (some ⟨l, 0, none⟩)], 28⟩, ⟨w.heap.size + 1, #[.int .i64 0], 29⟩] u0 := hB
  obtain ⟨bl, hbl⟩ : ∃ b, b = w.heap.size := ⟨_, rfl⟩
  obtain ⟨br, hbr⟩ : ∃ b, b = w.heap.size + 1 := ⟨_, rfl⟩
  rw [← hbr, ← hbl] at hB ⊢
  clear hbl hbr
  refine wp_region_lit ?_
  refine list_val (.pointer (some ⟨l, 0, none⟩)) (by kernel_rfl) (exec_plg _ (.tmp 2) rfl bl 0 (by kernel_rfl) _ (cell_of (hB.get 0 (x := ⟨bl, #[.pointer (some ⟨l, 0, none⟩)], 28⟩) rfl) (i := 0) rfl)) ?_
  simp only [nrm]
  refine list_call 24 #[.pointer (some ⟨l, 0, none⟩)] (by kernel_rfl) (by kernel_rfl) ((lused_ok l gs sa sn sc xa X.length xc bk _ (hB.gr.blk (unhide hl)) X ((unhide hP).gr hB.gr) (by omega) (by have := unhide hu; omega)).mono ?_)
  rintro r u1 ⟨rfl, hg⟩
  refine ⟨_, rfl, ?_⟩
  rw [← unhide hu]
  replace hB := hB.more hg
  clear hg
  simp only [nrm]
  (refine wpList_step fun K hK => ?_; replace hK := hide hK; go_simp; refine unhide hK _ _ ?_; clear hK K)
  refine wpList_nil ?_
  replace hB := hide hB
  go_upto_region 2 with fail
  replace hB := unhide hB
  refine wp_region_lit ?_
  refine list_val (.int .i64 (u : Int)) (by kernel_rfl) (by kernel_rfl) ?_
  simp only [nrm]
  refine list_valw (.pointer (some ⟨u1.heap.size, 0, none⟩)) (u1.alloc (.cells (#[.int .i64 0]) 3 (0, 0))) (by kernel_rfl) (by kernel_rfl) ?_
  replace hB := hB.new (#[.int .i64 0]) 3
  simp only [List.nil_append, List.cons_append] at hB
  generalize World.alloc _ _ = u2 at *
  generalize u1.heap.size = bat at *
  replace hB : Bl w [⟨bl, #[.pointer (some ⟨l, 0, none⟩)], 28⟩, ⟨br, #[.int .i64 0], 29⟩, ⟨bat, #[.int .i64 0], 3⟩] u2 := hB
  simp only [nrm]
  have c4 := cell_of (hB.get 2 (x := ⟨bat, #[.int .i64 0], 3⟩) rfl) (i := 0) rfl
  have fz := froz_of (i := 0) (hB.get 2 (x := ⟨bat, #[.int .i64 0], 3⟩) rfl)
  have hB2 := hB.cell 2 (x := ⟨bat, #[.int .i64 0], 3⟩) rfl 0 (.int .i64 (u : Int))
  simp only [List.set_cons_zero, List.set_cons_succ] at hB2
  replace hB2 : Bl w [⟨bl, #[.pointer (some ⟨l, 0, none⟩)], 28⟩, ⟨br, #[.int .i64 0], 29⟩, ⟨bat, #[.int .i64 (u : Int)], 3⟩] _ := hB2
  clear hB
  replace hB2 := hide hB2
  dsimp only at c4 fz
  (refine wpList_step fun K hK => ?_; replace hK := hide hK; go_simp; refine unhide hK _ _ ?_; clear hK K)
  clear c4 fz
  have hB := unhide hB2
  clear hB2
  generalize World.setCell _ _ _ = u3 at *
  refine wpList_nil ?_
  replace hB := hide hB
  go_upto_region 3 with fail
  replace hB := unhide hB
  refine wp_region_lit ?_
  refine list_val (.slice a n c) (by kernel_rfl) (by kernel_rfl) ?_
  simp only [nrm]
  refine list_call 58 #[.slice a n c, .int .i64 63] (by kernel_rfl) (by kernel_rfl) ((chunk_ok a n c u3).mono ?_)
  rintro r u4 ⟨Bs, Bn, rfl, hb1⟩
  have hB2 := hB.join hb1.gr [⟨Bs, #[.slice a n c], 32⟩, ⟨Bn, #[.int .i64 63], 3⟩] (by intro x hx; simp only [List.mem_cons, List.not_mem_nil, or_false] at hx; rcases hx with rfl | rfl <;> first | exact ⟨hb1.get 0 (x := ⟨Bs, #[.slice a n c], 32⟩) rfl, hb1.own 0 (x := ⟨Bs, #[.slice a n c], 32⟩) rfl⟩ | exact ⟨hb1.get 1 (x := ⟨Bn, #[.int .i64 63], 3⟩) rfl, hb1.own 1 (x := ⟨Bn, #[.int .i64 63], 3⟩) rfl⟩) hb1.ne
  replace hB2 : Bl w [⟨bl, #[.pointer (some ⟨l, 0, none⟩)], 28⟩, ⟨br, #[.int .i64 0], 29⟩, ⟨bat, #[.int .i64 (u : Int)], 3⟩, ⟨Bs, #[.slice a n c], 32⟩, ⟨Bn, #[.int .i64 63], 3⟩] u4 := hB2
  clear hB hb1
  have hB := hB2
  clear hB2
  refine ⟨_, rfl, ?_⟩
  simp only [nrm]
  refine wpList_nil ?_
  replace hB := hide hB
  go_wp2_with fail
  rename_i K_ hK_
  replace hB := unhide hB
  replace hK_ := hide hK_
  refine range_law (lb := #[.pointer (some ⟨Bs, 0, none⟩), .pointer (some ⟨Bn, 0, none⟩)]) 8 (by kernel_rfl) (enters_of Tryd.func83 (by kernel_rfl) rfl) ?_
  intro fn W1 hG1 hR1
  have hgu : w.heap.size ≤ u4.heap.size := hB.gr.size
  have hJ0 : LwJ (u4.heap.size + 1) u4.heap.size _ F w gd D m (lg + u + 1) u M a n c l bl br bat Bs Bn 0 W1 := ⟨hR1, ⟨F, (unhide hL).gr (hB.gr.trans hG1), (hB.gr.trans hG1).chg0 F⟩, rfl, unhide hD, ⟨hG1.blk (hB.get 0 (x := ⟨bl, #[.pointer (some ⟨l, 0, none⟩)], 28⟩) rfl), hG1.blk (hB.get 1 (x := ⟨br, #[.int .i64 0], 29⟩) rfl), hG1.blk (hB.get 2 (x := ⟨bat, #[.int .i64 (u : Int)], 3⟩) rfl)⟩, hG1.blk (hB.get 3 (x := ⟨Bs, #[.slice a n c], 32⟩) rfl), hG1.blk (hB.get 4 (x := ⟨Bn, #[.int .i64 63], 3⟩) rfl)⟩
  obtain ⟨rf, hrf⟩ := rcd_of hR1
  clear hR1
  have hn3 : bat ≠ Bn := hB.neq 2 4 (x := ⟨bat, #[.int .i64 (u : Int)], 3⟩) (y := ⟨Bn, #[.int .i64 63], 3⟩) rfl rfl (by decide)
  have hbaw : w.heap.size ≤ bat := hB.own 2 (x := ⟨bat, #[.int .i64 (u : Int)], 3⟩) rfl
  have hbrw : w.heap.size ≤ br := hB.own 1 (x := ⟨br, #[.int .i64 0], 29⟩) rfl
  clear hB
  refine callsIn_wide.2 ((chunk1_any (u4.heap.size + 1) Bs Bn a n c hcap hmax hn6 ha (fun j W => LwJ (u4.heap.size + 1) u4.heap.size _ F w gd D m (lg + u + 1) u M a n c l bl br bat Bs Bn j W) (fun pe W => pe = some .ret ∧ LwX (u4.heap.size + 1) u4.heap.size (rf .done (some .ret)) F w gd AP.1 AP.2 br W) (fun i W hJ => ⟨hJ.bs, hJ.bn⟩) (fun i W W' hJ hg => hJ.gro hg) ?hY W1 hJ0).mono ?hD)
  case hD =>
    clear hJ0 hG1
    rintro e W2 ⟨rfl, hJ | ⟨pe, rfl, hX⟩⟩
    · refine ⟨⟨_, rfl⟩, none, hJ.rc, ?_⟩
      intro W3 hW3
      have hJ3 := hJ.put' hW3 (by omega) (by omega)
      refine unhide hK_ _ _ ?_
      clear hK_ hJ hW3
      simp only [dact]
      obtain ⟨F1, hL1, hC1⟩ := hJ3.ls
      have her := hJ3.er
      have hok := hJ3.ok
      have hrc := hJ3.rc
      have hblk := hJ3.lw.bl
      have hbrk := hJ3.lw.br
      clear hJ3
      rw [show (n + 62) / 63 = K from (unhide hK).symm] at her hok hL1
      have hKM : (M.length + 62) / 63 = K := by rw [unhide hMl, unhide hK]
      have hlast := appf_last (o := lg) (t := s.turn) (k := X.length) (u := u) (x := M) (D := D) (by rw [hKM]; exact her)
      have hcur := fun i hi => appf_cur (o := lg) (u := u) (unhide hD) (unhide hMb) (unhide hp) (by rw [hKM]; exact her) i hi
      rw [hKM] at hlast hcur
      have hlen : (Dk.runD ((wrf (lg + u + 1) (dat M) K).map some) D).1.safe.length = N := by rw [run_len, ← unhide hN]
      rw [← unhide hAP] at hlast
      obtain ⟨E, hE⟩ : ∃ E, E = (Dk.runD ((wrf (lg + u + 1) (dat M) K).map some) D).1 := ⟨_, rfl⟩
      rw [← hE] at hL1 hok hlast hcur hlen
      clear her hE
      obtain ⟨mk, hmk⟩ : ∃ b, b = mkL s.turn X.length M := ⟨_, rfl⟩
      have hmb : BB mk := by rw [hmk]; exact mkL_bb _ _ _
      rw [← hmk] at hlast
      rw [Dk.runD] at hlast
      have hl1 : W3.heap[l]? = some (.cells (lgv gs sa sn sc xa X.length xc bk) 69 (0, 0)) := hC1.blk (unhide hl) hlF
      have hs1 : Sto G gs gd N s W3 := (unhide hs).chg hC1 (fun i hi hg => hgF (by rw [(unhide hs).1] at hg; rw [List.mem_singleton] at hg; rw [← hg]; exact hi))
      have hlen1 : (E.step none).1.safe.length = N := by rw [step_len]; exact hlen
      have hok1 := step_ok hok none (fun y e => by cases e)
      replace hlast := hide hlast; replace hcur := hide hcur; replace hlen := hide hlen; replace hmk := hide hmk; replace hmb := hide hmb; replace hL1 := hide hL1; replace hC1 := hide hC1; replace hok := hide hok; replace hrc := hide hrc; replace hblk := hide hblk; replace hbrk := hide hbrk; replace hl1 := hide hl1; replace hs1 := hide hs1; replace hKM := hide hKM; replace hlen1 := hide hlen1; replace hok1 := hide hok1
      go_upto_region 9 with fail
      refine wp_region_lit ?_
      refine list_val (.pointer (some ⟨l, 0, none⟩)) (by kernel_rfl) (exec_plg _ (.tmp 2) rfl bl 0 (by kernel_rfl) _ (cell_of (unhide hblk) (i := 0) rfl)) ?_
      simp only [nrm]
      refine list_val (.pointer (some ⟨l, 0, none⟩)) (by kernel_rfl) (by kernel_rfl) ?_
      simp only [nrm]
      refine list_val (.pointer (some ⟨l, 0, none⟩)) (by kernel_rfl) (by kernel_rfl) ?_
      simp only [nrm]
      refine list_val (.pointer (some ⟨gs, 0, none⟩)) (by kernel_rfl) (exec_pst _ (.tmp 32) rfl l 0 (by kernel_rfl) _ (cell_of (unhide hl1) (i := 0) rfl)) ?_
      simp only [nrm]
      refine list_call 60 #[.pointer (some ⟨gs, 0, none⟩)] (by kernel_rfl) (by kernel_rfl) ((esync_ok F1 G gs gd (m + K) E s (unhide hok) (by omega) W3 (unhide hL1) (by rw [unhide hlen]; exact unhide hs1)).mono ?_)
      rintro r W4 ⟨F2, rfl, hL4, hC4⟩
      obtain ⟨e1, he1⟩ : ∃ e, e = (E.step none).2 := ⟨_, rfl⟩
      rw [show E.syncE = e1 from by rw [he1]; rfl]
      have hblk4 := hide ((hC4).blk (unhide hblk) (lies_no (unhide hL1) (unhide hblk) (fun c t e => by injection e with _ e2 _; subst e2; decide)))
      have hbrk4 := hide ((hC4).blk (unhide hbrk) (lies_no (unhide hL1) (unhide hbrk) (fun c t e => by injection e with _ e2 _; subst e2; decide)))
      have hrc4 := hide ((unhide hrc).chg (unhide hL1) hC4)
      have hcc4 := hide ((unhide hC1).trans2 hC4)
      replace hL4 := hide hL4; replace he1 := hide he1
      clear hC4
      refine ⟨_, rfl, ?_⟩
      simp only [nrm]
      (refine wpList_step fun K hK => ?_; replace hK := hide hK; go_simp; refine unhide hK _ _ ?_; clear hK K)
      refine wpList_nil ?_
      by_cases hez : e1 = 0
      · skip
        subst hez
        have hal := step_alive (D := E) (o := none) (unhide he1).symm
        have hcn1 : cntS ((E.step none).1.cur 0) ((E.step none).1.cur 1) = (s, true) := by
          have hg9 := unhide hlg2
          rw [(unhide hcur) 0 (by omega), (unhide hcur) 1 (by omega)]
          exact unhide hcn
        have hl4 : W4.heap[l]? = some (.cells (lgv gs sa sn sc xa X.length xc bk) 69 (0, 0)) := (unhide hcc4).blk (unhide hl) hlF
        have hs4 : Sto G gs gd N s W4 := (unhide hs).chg (unhide hcc4) (fun i hi hg => hgF (by rw [(unhide hs).1] at hg; rw [List.mem_singleton] at hg; rw [← hg]; exact hi))
        have hla2 : AP = Dk.runD [some (lg + u, mk), none] (E.step none).1 := by
          have h9 := unhide hlast
          rw [if_pos (unhide he1).symm] at h9
          exact h9
        rw [Dk.runD] at hla2
        obtain ⟨D1, hD1⟩ : ∃ d, d = (E.step none).1 := ⟨_, rfl⟩
        have hL4' : Lies F2 gd D1 W4 := by rw [hD1]; exact unhide hL4
        rw [← hD1] at hal hcn1 hla2
        have hlen2 : D1.safe.length = N := by rw [hD1]; exact unhide hlen1
        have hokk : D1.Ok (m + K + 1) := by rw [hD1]; exact unhide hok1
        have hlen3 : (D1.step (some (lg + u, mk))).1.safe.length = N := by rw [step_len]; exact hlen2
        have hok3 := step_ok hokk (some (lg + u, mk)) (fun y e => by have e2 := Option.some.inj e; subst e2; exact unhide hmb)
        have hf4 : Fst W4 := (unhide hf).chg (unhide hcc4) h0
        have hfar : M = [] ∨ ∃ q, blkOf a = some q ∧ q ∉ F := by
          rcases (unhide hM).sl with h | ⟨p, o, h, _⟩
          · exact .inl h
          · rcases unhide hMa with h2 | h2
            · exact .inl h2
            · exact .inr ⟨p, by rw [h]; rfl, fun e => h2 p e (by rw [h]; rfl)⟩
        have hM4 : Lb W4 a n c M := (unhide hM).chg (unhide hcc4) hfar
        have hHl := sh16_len M
        have hHb := sh16_isB _ (sumL_isB M)
        have hmb2 : mk = (Mr.mk s.turn X.length M.length (sh16 M)).blk := by rw [unhide hmk]; exact mkL_mr s.turn X.length M
        obtain ⟨H, hH⟩ : ∃ h, h = sh16 M := ⟨_, rfl⟩
        rw [← hH] at hHl hHb hmb2
        rw [unhide hMl] at hmb2
        have hmo : (Mr.mk s.turn X.length n H).Ok := mr_ok hst (by omega) (by omega) hHl hHb
        replace hH := hide hH
        clear hL4 hD1
        have hL4 := hide hL4'
        clear hL4'
        replace hal := hide hal; replace hcn1 := hide hcn1; replace hl4 := hide hl4; replace hs4 := hide hs4; replace hla2 := hide hla2; replace hlen2 := hide hlen2; replace hokk := hide hokk; replace hlen3 := hide hlen3; replace hok3 := hide hok3; replace hf4 := hide hf4; replace hfar := hide hfar; replace hM4 := hide hM4; replace hmo := hide hmo; replace hmb2 := hide hmb2
        clear hL1 hC1 hblk hbrk hrc hl1 hs1 he1 hlast hcur
        go_upto_region 12 with fail
        refine any_start (S := fun (v : World) => v.heap[bl]? = some (.cells #[.pointer (some ⟨l, 0, none⟩)] 28 (0, 0)) ∧ v.heap[l]? = some (.cells (lgv gs sa sn sc xa X.length xc bk) 69 (0, 0))) (by kernel_rfl) ?_
        have hG9 := (Gr.refl W4).drew
        generalize World.drew _ = x0 at *
        have hS9 : (fun (v : World) => v.heap[bl]? = some (.cells #[.pointer (some ⟨l, 0, none⟩)] 28 (0, 0)) ∧ v.heap[l]? = some (.cells (lgv gs sa sn sc xa X.length xc bk) 69 (0, 0))) x0 := ⟨hG9.blk (unhide hblk4), hG9.blk (unhide hl4)⟩
        simp only [List.size_toArray, List.length_cons, List.length_nil, Array.replicate, List.replicate]
        refine any_take (i := 0) (v := (.pointer (some ⟨l, 0, none⟩))) #[false, false, false, false, false, false, false, false, false, false, false, false, false, false, false, false, false, false, false, false] rfl (by kernel_rfl) (by kernel_rfl) (by kernel_rfl) (by kernel_rfl) (fun _ _ _ h => h) (.inl ⟨by kernel_rfl, fun x_ hu => exec_plg _ (.tmp 2) rfl bl 0 (by kernel_rfl) _ (cell_of hu.1 (i := 0) rfl)⟩) hS9 ?_
        simp only [nrm]
        refine any_take (i := 1) (v := (.pointer (some ⟨l, 0, none⟩))) #[true, false, false, false, false, false, false, false, false, false, false, false, false, false, false, false, false, false, false, false] rfl (by kernel_rfl) (by kernel_rfl) (by kernel_rfl) (by kernel_rfl) (fun _ _ _ h => h) (.inl ⟨by kernel_rfl, fun x_ hu => by kernel_rfl⟩) hS9 ?_
        simp only [nrm]
        refine any_take (i := 2) (v := (.pointer (some ⟨l, 0, none⟩))) #[true, true, false, false, false, false, false, false, false, false, false, false, false, false, false, false, false, false, false, false] rfl (by kernel_rfl) (by kernel_rfl) (by kernel_rfl) (by kernel_rfl) (fun _ _ _ h => h) (.inl ⟨by kernel_rfl, fun x_ hu => by kernel_rfl⟩) hS9 ?_
        simp only [nrm]
        refine any_take (i := 3) (v := (.pointer (some ⟨gs, 0, none⟩))) #[true, true, true, false, false, false, false, false, false, false, false, false, false, false, false, false, false, false, false, false] rfl (by kernel_rfl) (by kernel_rfl) (by kernel_rfl) (by kernel_rfl) (fun _ _ _ h => h) (.inl ⟨by kernel_rfl, fun x_ hu => exec_pst _ (.tmp 40) rfl l 0 (by kernel_rfl) _ (cell_of hu.2 (i := 0) rfl)⟩) hS9 ?_
        simp only [nrm]
        refine any_take (i := 4) (v := (.int .i64 (u : Int))) #[true, true, true, true, false, false, false, false, false, false, false, false, false, false, false, false, false, false, false, false] rfl (by kernel_rfl) (by kernel_rfl) (by kernel_rfl) (by kernel_rfl) (fun _ _ _ h => h) (.inl ⟨by kernel_rfl, fun x_ hu => by kernel_rfl⟩) hS9 ?_
        simp only [nrm]
        refine any_take (i := 5) (v := (.pointer (some ⟨l, 0, none⟩))) #[true, true, true, true, true, false, false, false, false, false, false, false, false, false, false, false, false, false, false, false] rfl (by kernel_rfl) (by kernel_rfl) (by kernel_rfl) (by kernel_rfl) (fun _ _ _ h => h) (.inl ⟨by kernel_rfl, fun x_ hu => exec_plg _ (.tmp 2) rfl bl 0 (by kernel_rfl) _ (cell_of hu.1 (i := 0) rfl)⟩) hS9 ?_
        simp only [nrm]
        refine any_take (i := 6) (v := (.pointer (some ⟨l, 0, none⟩))) #[true, true, true, true, true, true, false, false, false, false, false, false, false, false, false, false, false, false, false, false] rfl (by kernel_rfl) (by kernel_rfl) (by kernel_rfl) (by kernel_rfl) (fun _ _ _ h => h) (.inl ⟨by kernel_rfl, fun x_ hu => by kernel_rfl⟩) hS9 ?_
        simp only [nrm]
        refine any_take (i := 7) (v := (.pointer (some ⟨l, 0, none⟩))) #[true, true, true, true, true, true, true, false, false, false, false, false, false, false, false, false, false, false, false, false] rfl (by kernel_rfl) (by kernel_rfl) (by kernel_rfl) (by kernel_rfl) (fun _ _ _ h => h) (.inl ⟨by kernel_rfl, fun x_ hu => by kernel_rfl⟩) hS9 ?_
        simp only [nrm]
        refine any_take (i := 8) (v := (.pointer (some ⟨gs, 0, none⟩))) #[true, true, true, true, true, true, true, true, false, false, false, false, false, false, false, false, false, false, false, false] rfl (by kernel_rfl) (by kernel_rfl) (by kernel_rfl) (by kernel_rfl) (fun _ _ _ h => h) (.inl ⟨by kernel_rfl, fun x_ hu => exec_pst _ (.tmp 45) rfl l 0 (by kernel_rfl) _ (cell_of hu.2 (i := 0) rfl)⟩) hS9 ?_
        simp only [nrm]
        refine any_take (i := 10) (v := (.pointer (some ⟨l, 0, none⟩))) #[true, true, true, true, true, true, true, true, true, false, false, false, false, false, false, false, false, false, false, false] rfl (by kernel_rfl) (by kernel_rfl) (by kernel_rfl) (by kernel_rfl) (fun _ _ _ h => h) (.inl ⟨by kernel_rfl, fun x_ hu => exec_plg _ (.tmp 2) rfl bl 0 (by kernel_rfl) _ (cell_of hu.1 (i := 0) rfl)⟩) hS9 ?_
        simp only [nrm]
        refine any_take (i := 11) (v := (.pointer (some ⟨l, 0, none⟩))) #[true, true, true, true, true, true, true, true, true, false, true, false, false, false, false, false, false, false, false, false] rfl (by kernel_rfl) (by kernel_rfl) (by kernel_rfl) (by kernel_rfl) (fun _ _ _ h => h) (.inl ⟨by kernel_rfl, fun x_ hu => by kernel_rfl⟩) hS9 ?_
        simp only [nrm]
        refine any_take (i := 12) (v := (.pointer (some ⟨l, 2, none⟩))) #[true, true, true, true, true, true, true, true, true, false, true, true, false, false, false, false, false, false, false, false] rfl (by kernel_rfl) (by kernel_rfl) (by kernel_rfl) (by kernel_rfl) (fun _ _ _ h => h) (.inl ⟨by kernel_rfl, fun x_ hu => by kernel_rfl⟩) hS9 ?_
        simp only [nrm]
        refine any_take (i := 13) (v := (.slice xa X.length xc)) #[true, true, true, true, true, true, true, true, true, false, true, true, true, false, false, false, false, false, false, false] rfl (by kernel_rfl) (by kernel_rfl) (by kernel_rfl) (by kernel_rfl) (fun _ _ _ h => h) (.inl ⟨by kernel_rfl, fun x_ hu => exec_sx _ (.tmp 50) rfl l 2 (by kernel_rfl) xa X.length xc (cell_of hu.2 (i := 2) rfl)⟩) hS9 ?_
        simp only [nrm]
        refine any_take (i := 14) (v := (.int .i64 (X.length : Int))) #[true, true, true, true, true, true, true, true, true, false, true, true, true, true, false, false, false, false, false, false] rfl (by kernel_rfl) (by kernel_rfl) (by kernel_rfl) (by kernel_rfl) (fun _ _ _ h => h) (.inl ⟨by kernel_rfl, fun x_ hu => by kernel_rfl⟩) hS9 ?_
        simp only [nrm]
        refine any_take (i := 15) (v := (.slice a n c)) #[true, true, true, true, true, true, true, true, true, false, true, true, true, true, true, false, false, false, false, false] rfl (by kernel_rfl) (by kernel_rfl) (by kernel_rfl) (by kernel_rfl) (fun _ _ _ h => h) (.inl ⟨by kernel_rfl, fun x_ hu => by kernel_rfl⟩) hS9 ?_
        simp only [nrm]
        refine any_one (i := 9) (by kernel_rfl) rfl (fun K_ hQ => ?_)
        refine step_callw (by kernel_rfl) 22 #[.pointer (some ⟨gs, 0, none⟩)] (by kernel_rfl) ((turn_ok F2 G gs gd (m + K + 1) D1 s (unhide hokk) (by omega) (unhide hal) (by rw [unhide hlen2]; omega) x0 ((unhide hL4).gr hG9) (by rw [unhide hlen2]; exact (unhide hs4).gr hG9) (unhide hcn1) ((unhide hf4).gr hG9)).mono ?_)
        rintro r x1 ⟨rfl, hg⟩
        refine ⟨_, rfl, ?_⟩
        replace hG9 := hG9.trans hg
        replace hS9 : (fun (v : World) => v.heap[bl]? = some (.cells #[.pointer (some ⟨l, 0, none⟩)] 28 (0, 0)) ∧ v.heap[l]? = some (.cells (lgv gs sa sn sc xa X.length xc bk) 69 (0, 0))) x1 := ⟨hg.blk hS9.1, hg.blk hS9.2⟩
        clear hg
        refine hQ.out _ _ hS9 (fun _ => ?_)
        clear hQ K_
        simp only [nrm]
        refine any_one (i := 16) (by kernel_rfl) rfl (fun K_ hQ => ?_)
        refine step_callw (by kernel_rfl) 61 #[.int .u64 (s.turn : Int), .int .i64 (X.length : Int), .slice a n c] (by kernel_rfl) ((wdescribe_ok s.turn X.length hst (by omega) M a n c x1 ((unhide hM4).gr hG9) (by omega) ((unhide hf4).gr hG9)).mono ?_)
        rintro r x2 ⟨rfl, hg⟩
        refine ⟨_, rfl, ?_⟩
        rw [← unhide hH]
        replace hG9 := hG9.trans hg
        replace hS9 : (fun (v : World) => v.heap[bl]? = some (.cells #[.pointer (some ⟨l, 0, none⟩)] 28 (0, 0)) ∧ v.heap[l]? = some (.cells (lgv gs sa sn sc xa X.length xc bk) 69 (0, 0))) x2 := ⟨hg.blk hS9.1, hg.blk hS9.2⟩
        clear hg
        refine hQ.out _ _ hS9 (fun _ => ?_)
        clear hQ K_
        simp only [nrm]
        refine any_one (i := 17) (by kernel_rfl) rfl (fun K_ hQ => ?_)
        refine step_callw (by kernel_rfl) 62 #[.agg (mrv ⟨s.turn, X.length, n, H⟩)] (by kernel_rfl) ((mblock_ok ⟨s.turn, X.length, n, H⟩ (unhide hmo) x2 ((unhide hf4).gr hG9)).mono ?_)
        rintro r x3 ⟨rfl, hg⟩
        refine ⟨_, rfl, ?_⟩
        rw [← unhide hmb2]
        replace hG9 := hG9.trans hg
        replace hS9 : (fun (v : World) => v.heap[bl]? = some (.cells #[.pointer (some ⟨l, 0, none⟩)] 28 (0, 0)) ∧ v.heap[l]? = some (.cells (lgv gs sa sn sc xa X.length xc bk) 69 (0, 0))) x3 := ⟨hg.blk hS9.1, hg.blk hS9.2⟩
        clear hg
        refine hQ.out _ _ hS9 (fun _ => ?_)
        clear hQ K_
        simp only [nrm]
        refine any_one (i := 18) (by kernel_rfl) rfl (fun K_ hQ => ?_)
        have hput := eput_ok F2 G gs gd (m + K + 1) D1 s (unhide hokk) (by omega) (u : Int) (by have h2 := unhide hlg2; rw [unhide hlen2]; constructor <;> omega) mk (unhide hmb) (fun i hi hg => lies_no ((unhide hL4).gr hG9) (((unhide hs4).gr hG9).2) (fun c t e => by injection e with _ e2 _; subst e2; decide) (by rw [((unhide hs4).gr hG9).1, List.mem_singleton] at hg; rw [← hg]; exact hi)) x3 ((unhide hL4).gr hG9) (by rw [unhide hlen2]; exact (unhide hs4).gr hG9)
        rw [show (((2 + 2 * ((D1.safe.length - 2) / 4) : Nat) : Int) + (u : Int)) = ((lg + u : Nat) : Int) from by have h2 := unhide hlg2; rw [unhide hlen2]; omega] at hput
        obtain ⟨e2, he2⟩ : ∃ e, e = (D1.step (some (lg + u, mk))).2 := ⟨_, rfl⟩
        have hqe : D1.writeE ((lg + u : Nat) : Int) = e2 := by rw [he2]; rfl
        replace he2 := hide he2
        refine step_callw (by kernel_rfl) 59 #[.pointer (some ⟨gs, 0, none⟩), .int .i64 (u : Int), .agg (kc mk)] (by kernel_rfl) ((hput).mono ?_)
        rintro r x4 ⟨F3, rfl, hL5, hC5⟩
        refine ⟨_, rfl, ?_⟩
        rw [hqe]
        have hL4g := (unhide hL4).gr hG9
        have hblk5 := hide (hC5.blk hS9.1 (lies_no hL4g hS9.1 (fun c t e => by injection e with _ e2 _; subst e2; decide)))
        have hbrk5 := hide (hC5.blk (hG9.blk (unhide hbrk4)) (lies_no hL4g (hG9.blk (unhide hbrk4)) (fun c t e => by injection e with _ e2 _; subst e2; decide)))
        have hrc5 := hide (((unhide hrc4).gr hG9).chg hL4g hC5)
        have hcc5 := hide (((unhide hcc4).gr hG9).trans2 hC5)
        replace hS9 : (fun (v : World) => v.heap[bl]? = some (.cells #[.pointer (some ⟨l, 0, none⟩)] 28 (0, 0)) ∧ v.heap[l]? = some (.cells (lgv gs sa sn sc xa X.length xc bk) 69 (0, 0))) x4 := ⟨unhide hblk5, hC5.blk hS9.2 (lies_no hL4g hS9.2 (fun c t e => by injection e with _ e2 _; subst e2; decide))⟩
        replace hL5 := hide hL5
        clear hput hC5 hL4g
        refine hQ.out _ _ hS9 (fun _ => ?_)
        clear hQ K_
        simp only [nrm]
        refine any_one (i := 19) (by kernel_rfl) rfl (fun K_ hQ => ?_)
        replace hQ := hide hQ
        go_simp
        refine (unhide hQ).out _ _ hS9 (fun _ => ?_)
        clear hQ K_
        refine any_done (by kernel_rfl) ?_
        have hl5 := hide hS9.2
        clear hS9 hG9 hblk4 hbrk4 hrc4 hcc4 hL4
        by_cases hez : e2 = 0
        · skip
          subst hez
          have hla3 : AP = Dk.runD [none] (D1.step (some (lg + u, mk))).1 := by
            have h9 := unhide hla2
            rw [if_pos (unhide he2).symm] at h9
            exact h9
          rw [Dk.runD] at hla3
          obtain ⟨D2, hD2⟩ : ∃ d, d = (D1.step (some (lg + u, mk))).1 := ⟨_, rfl⟩
          have hL5' : Lies F3 gd D2 x4 := by rw [hD2]; exact unhide hL5
          rw [← hD2] at hla3
          have hlen4 : D2.safe.length = N := by rw [hD2]; exact unhide hlen3
          have hokk2 : D2.Ok (m + K + 1 + 1) := by rw [hD2]; exact unhide hok3
          have hs5 : Sto G gs gd N s x4 := (unhide hs).chg (unhide hcc5) (fun i hi hg => hgF (by rw [(unhide hs).1] at hg; rw [List.mem_singleton] at hg; rw [← hg]; exact hi))
          clear hL5 hD2
          have hL5 := hide hL5'
          clear hL5'
          replace hla3 := hide hla3; replace hlen4 := hide hlen4; replace hokk2 := hide hokk2; replace hs5 := hide hs5
          go_upto_region 15 with fail
          refine wp_region_lit ?_
          refine list_val (.pointer (some ⟨l, 0, none⟩)) (by kernel_rfl) (exec_plg _ (.tmp 2) rfl bl 0 (by kernel_rfl) _ (cell_of (unhide hblk5) (i := 0) rfl)) ?_
          simp only [nrm]
          refine list_val (.pointer (some ⟨l, 0, none⟩)) (by kernel_rfl) (by kernel_rfl) ?_
          simp only [nrm]
          refine list_val (.pointer (some ⟨l, 0, none⟩)) (by kernel_rfl) (by kernel_rfl) ?_
          simp only [nrm]
          refine list_val (.pointer (some ⟨gs, 0, none⟩)) (by kernel_rfl) (exec_pst _ (.tmp 62) rfl l 0 (by kernel_rfl) _ (cell_of (unhide hl5) (i := 0) rfl)) ?_
          simp only [nrm]
          refine list_call 60 #[.pointer (some ⟨gs, 0, none⟩)] (by kernel_rfl) (by kernel_rfl) ((esync_ok F3 G gs gd (m + K + 1 + 1) D2 s (unhide hokk2) (by omega) x4 (unhide hL5) (by rw [unhide hlen4]; exact unhide hs5)).mono ?_)
          rintro r x5 ⟨F4, rfl, hL6, hC6⟩
          obtain ⟨e3, he3⟩ : ∃ e, e = (D2.step none).2 := ⟨_, rfl⟩
          rw [show D2.syncE = e3 from by rw [he3]; rfl]
          have hblk6 := hide ((hC6).blk (unhide hblk5) (lies_no (unhide hL5) (unhide hblk5) (fun c t e => by injection e with _ e2 _; subst e2; decide)))
          have hbrk6 := hide ((hC6).blk (unhide hbrk5) (lies_no (unhide hL5) (unhide hbrk5) (fun c t e => by injection e with _ e2 _; subst e2; decide)))
          have hrc6 := hide ((unhide hrc5).chg (unhide hL5) hC6)
          have hcc6 := hide ((unhide hcc5).trans2 hC6)
          replace hL6 := hide hL6; replace he3 := hide he3
          clear hC6
          refine ⟨_, rfl, ?_⟩
          simp only [nrm]
          have c4 := cell_of (unhide hbrk6) (i := 0) rfl
          have fz := froz_of (i := 0) (unhide hbrk6)
          have hbrs := hide (own_cell (v' := .int .i64 e3) (unhide hbrk6))
          have hbts := hide (Bt.setCell (g := br) x5 0 (.int .i64 e3))
          have hrs := hide ((⟨(unhide hbts).blk (unhide hrc6).lo (fun e => by have h9 := (unhide hrc6).lo; rw [e, unhide hbrk6] at h9; cases h9), (unhide hbts).blk (unhide hrc6).de (fun e => by have h9 := (unhide hrc6).de; rw [e, unhide hbrk6] at h9; cases h9)⟩ : Rcd (u4.heap.size + 1) u4.heap.size _ _))
          have hls := hide ((unhide hL6).bt (unhide hbts) (lies_no (unhide hL6) (unhide hbrk6) (fun c t e => by injection e with _ e2 _; subst e2; decide)))
          have hcs := hide ((unhide hcc6).bt (unhide hbts) hbrw)
          (refine wpList_step fun K hK => ?_; replace hK := hide hK; go_simp; refine unhide hK _ _ ?_; clear hK K)
          clear c4 fz
          generalize World.setCell _ _ _ = x6 at *
          refine wpList_nil ?_
          have hap : AP = ((D2.step none).1, e3) := by
            rw [unhide hla3]
            split
            · rw [Dk.runD, unhide he3]
              rename_i h9
              rw [h9]
            · rw [unhide he3]
          have hX7 : LwX (u4.heap.size + 1) u4.heap.size _ F w gd AP.1 AP.2 br x6 := ⟨unhide hrs, ⟨F4, by rw [hap]; exact unhide hls, unhide hcs⟩, by rw [hap]; exact unhide hbrs⟩
          obtain ⟨h1, h2⟩ := hX7.leave hgu
          have h3 := hX7.rc.de
          replace h1 := hide h1; replace h2 := hide h2; replace h3 := hide h3
          clear hX7 hap
          go_wp2_with fail
          refine postM_ret (unhide h3) (results_cell1 Tryd.results34 _ _ br AP.2 rfl (unhide h1)) ?_
          rw [unhide hT]
          exact unhide h2
        · skip
          go_upto_region 14 with fail
          refine wp_region_lit ?_
          refine list_val (.int .i64 e2) (by kernel_rfl) (by kernel_rfl) ?_
          simp only [nrm]
          have c4 := cell_of (unhide hbrk5) (i := 0) rfl
          have fz := froz_of (i := 0) (unhide hbrk5)
          have hbrs := hide (own_cell (v' := .int .i64 e2) (unhide hbrk5))
          have hbts := hide (Bt.setCell (g := br) x4 0 (.int .i64 e2))
          have hrs := hide ((⟨(unhide hbts).blk (unhide hrc5).lo (fun e => by have h9 := (unhide hrc5).lo; rw [e, unhide hbrk5] at h9; cases h9), (unhide hbts).blk (unhide hrc5).de (fun e => by have h9 := (unhide hrc5).de; rw [e, unhide hbrk5] at h9; cases h9)⟩ : Rcd (u4.heap.size + 1) u4.heap.size _ _))
          have hls := hide ((unhide hL5).bt (unhide hbts) (lies_no (unhide hL5) (unhide hbrk5) (fun c t e => by injection e with _ e2 _; subst e2; decide)))
          have hcs := hide ((unhide hcc5).bt (unhide hbts) hbrw)
          (refine wpList_step fun K hK => ?_; replace hK := hide hK; go_simp; refine unhide hK _ _ ?_; clear hK K)
          clear c4 fz
          generalize World.setCell _ _ _ = x6 at *
          refine wpList_nil ?_
          have hap : AP = ((D1.step (some (lg + u, mk))).1, e2) := by
            rw [unhide hla2, if_neg (by rw [← unhide he2]; exact hez), unhide he2]
          have hX7 : LwX (u4.heap.size + 1) u4.heap.size _ F w gd AP.1 AP.2 br x6 := ⟨unhide hrs, ⟨F3, by rw [hap]; exact unhide hls, unhide hcs⟩, by rw [hap]; exact unhide hbrs⟩
          obtain ⟨h1, h2⟩ := hX7.leave hgu
          have h3 := hX7.rc.de
          replace h1 := hide h1; replace h2 := hide h2; replace h3 := hide h3
          clear hX7 hap
          go_wp2_with fail
          refine postM_ret (unhide h3) (results_cell1 Tryd.results34 _ _ br AP.2 rfl (unhide h1)) ?_
          rw [unhide hT]
          exact unhide h2
      · skip
        go_upto_region 11 with fail
        refine wp_region_lit ?_
        refine list_val (.int .i64 e1) (by kernel_rfl) (by kernel_rfl) ?_
        simp only [nrm]
        have c4 := cell_of (unhide hbrk4) (i := 0) rfl
        have fz := froz_of (i := 0) (unhide hbrk4)
        have hbrs := hide (own_cell (v' := .int .i64 e1) (unhide hbrk4))
        have hbts := hide (Bt.setCell (g := br) W4 0 (.int .i64 e1))
        have hrs := hide ((⟨(unhide hbts).blk (unhide hrc4).lo (fun e => by have h9 := (unhide hrc4).lo; rw [e, unhide hbrk4] at h9; cases h9), (unhide hbts).blk (unhide hrc4).de (fun e => by have h9 := (unhide hrc4).de; rw [e, unhide hbrk4] at h9; cases h9)⟩ : Rcd (u4.heap.size + 1) u4.heap.size _ _))
        have hls := hide ((unhide hL4).bt (unhide hbts) (lies_no (unhide hL4) (unhide hbrk4) (fun c t e => by injection e with _ e2 _; subst e2; decide)))
        have hcs := hide ((unhide hcc4).bt (unhide hbts) hbrw)
        (refine wpList_step fun K hK => ?_; replace hK := hide hK; go_simp; refine unhide hK _ _ ?_; clear hK K)
        clear c4 fz
        generalize World.setCell _ _ _ = x6 at *
        refine wpList_nil ?_
        have hap : AP = ((E.step none).1, e1) := by
          rw [unhide hlast, if_neg (by rw [← unhide he1]; exact hez), unhide he1]
        have hX7 : LwX (u4.heap.size + 1) u4.heap.size _ F w gd AP.1 AP.2 br x6 := ⟨unhide hrs, ⟨F2, by rw [hap]; exact unhide hls, unhide hcs⟩, by rw [hap]; exact unhide hbrs⟩
        obtain ⟨h1, h2⟩ := hX7.leave hgu
        have h3 := hX7.rc.de
        replace h1 := hide h1; replace h2 := hide h2; replace h3 := hide h3
        clear hX7 hap
        go_wp2_with fail
        refine postM_ret (unhide h3) (results_cell1 Tryd.results34 _ _ br AP.2 rfl (unhide h1)) ?_
        rw [unhide hT]
        exact unhide h2
    · rw [hrf] at hX
      refine ⟨⟨_, rfl⟩, some .ret, hX.rc, ?_⟩
      intro W3 hW3
      have hX3 := hX.put' hW3 (by omega) (by omega)
      clear hK_ hX hW3
      obtain ⟨h1, h2⟩ := hX3.leave hgu
      refine wp_ret ?_
      refine postM_ret hX3.rc.de (results_cell1 Tryd.results34 _ _ br AP.2 rfl h1) ?_
      rw [unhide hT]
      exact h2
  case hY =>
    clear hJ0 hG1 hK_
    intro p o j W r hao hj hr hJ
    have hr63 : r ≤ 63 := by omega
    replace hr := hide hr; replace hao := hide hao
    refine yield_law 8 hJ.rc (by omega) rfl ?a1 ?hassign ?hbody
    case hassign =>
      intro K9 hK9
      refine region_round _ _ (by kernel_rfl) (fun ⟨_, _, h⟩ => h) ?_
      (refine wpList_step fun K hK => ?_; replace hK := hide hK; go_simp; refine unhide hK _ _ ?_; clear hK K)
      refine wpList_nil ?_
      exact hK9
    case hbody =>
      intro W' hW' hR'
      have hJ3 := hJ.put' hW' (by omega) (by omega)
      clear hW' hR' hJ
      refine wpIn_block ?_
      obtain ⟨F1, hL1, hC1⟩ := hJ3.ls
      have her := hJ3.er
      have hok := hJ3.ok
      have hlw := hJ3.lw
      have hrc := hJ3.rc
      have hbs := hJ3.bs
      have hbn := hJ3.bn
      clear hJ3
      have hjK : j < K := by have := unhide hK; omega
      have hnx := runf_next (f := dat M) her
      have hsp := fun h2 => appf_stop (o := lg) (t := s.turn) (k := X.length) (u := u) (x := M) (j := j) (D := D) (by rw [unhide hMl, ← unhide hK]; exact hjK) her h2
      have hlen : (Dk.runD ((wrf (lg + u + 1) (dat M) j).map some) D).1.safe.length = N := by rw [run_len, ← unhide hN]
      rw [← unhide hAP] at hsp
      obtain ⟨E, hE⟩ : ∃ E, E = (Dk.runD ((wrf (lg + u + 1) (dat M) j).map some) D).1 := ⟨_, rfl⟩
      rw [← hE] at hL1 hok hnx hsp hlen
      have hok2 := step_ok hok (some (lg + u + 1 + j, dat M j)) (fun y e => by have e2 := Option.some.inj e; subst e2; exact dat_bb (unhide hMb) j)
      rw [← hnx] at hok2
      obtain ⟨DX, hDX⟩ : ∃ d, d = dat M j := ⟨_, rfl⟩
      have hDb : BB DX := by rw [hDX]; exact dat_bb (unhide hMb) j
      rw [← hDX] at hnx hsp
      have hS2 : lay ZB 1 ((M.drop (63 * j)).take 63) = DX := by rw [hDX]; exact lay_dat M j
      have hMw : Lb W' (some ⟨p, o + 63 * j, none⟩) r r ((M.drop (63 * j)).take 63) := by
        have hao9 := unhide hao
        have hr9 := unhide hr
        subst hao9
        have h1 := unhide hMl
        have hfar : M = [] ∨ ∃ q, blkOf (some ⟨p, o, none⟩) = some q ∧ q ∉ F := by
          rcases unhide hMa with h | h
          · exact .inl h
          · exact .inr ⟨p, rfl, fun e => h p e rfl⟩
        have h3 := lb_drop ((unhide hM).chg hC1 hfar) hj
        have h4 := h3.pre r (by omega)
        have e9 : (M.drop (63 * j)).take r = (M.drop (63 * j)).take 63 := by
          apply List.ext_getElem?
          intro i
          rw [List.getElem?_take, List.getElem?_take]
          by_cases hi : i < r
          · rw [if_pos hi, if_pos (by omega)]
          · rw [if_neg hi]
            split
            · rw [List.getElem?_eq_none]
              rw [List.length_drop, h1]
              omega
            · rfl
        rw [e9] at h4
        exact ⟨h4.len, h4.isB, h4.sl, Nat.le_refl _, by omega⟩
      have hpw : p < w.heap.size := by
        have hao9 := unhide hao
        subst hao9
        rcases (unhide hM).sl with e | ⟨p2, o2, e, h2⟩
        · have h1 := unhide hMl
          rw [e, List.length_nil] at h1
          omega
        · have e2 := Option.some.inj e
          injection e2 with e3 e4 _
          subst e3
          exact lt_of_cell (h2 0 (by rw [unhide hMl]; omega))
      have hl1 : W'.heap[l]? = some (.cells (lgv gs sa sn sc xa X.length xc bk) 69 (0, 0)) := hC1.blk (unhide hl) hlF
      have hs1 : Sto G gs gd N s W' := (unhide hs).chg hC1 (fun i hi hg => hgF (by rw [(unhide hs).1] at hg; rw [List.mem_singleton] at hg; rw [← hg]; exact hi))
      have hgr0 : Hid (w.heap.size ≤ W'.heap.size) := hC1.size
      obtain ⟨k1, hk1⟩ : ∃ k, k = u + j + 1 := ⟨_, rfl⟩
      have ek1 : IntKind.i64.wrap ((u : Int) + (j : Int) + 1) = (k1 : Int) := by rw [IntKind.wrap_i64]; omega
      replace hE := hide hE; replace hDX := hide hDX; replace hnx := hide hnx; replace hsp := hide hsp; replace hok2 := hide hok2; replace hS2 := hide hS2; replace hl1 := hide hl1; replace hs1 := hide hs1; replace hMw := hide hMw; replace her := hide her; replace hok := hide hok; replace hL1 := hide hL1; replace hC1 := hide hC1; replace hrc := hide hrc; replace hbs := hide hbs; replace hbn := hide hbn; replace hk1 := hide hk1; replace hlen := hide hlen; replace hDb := hide hDb
      have hbat := hlw.bat
      have hblk := hlw.bl
      have hbrk := hlw.br
      replace hblk := hide hblk; replace hbrk := hide hbrk
      clear hlw
      refine wpIn_seq ?_
      refine region_round _ _ (by kernel_rfl) (fun ⟨_, _, h⟩ => h) ?_
      refine list_val (.int .i64 ((u + j : Nat) : Int)) (by kernel_rfl) (exec_i64 _ (.tmp 6) rfl bat 0 (by kernel_rfl) _ (cell_of hbat (i := 0) rfl)) ?_
      simp only [nrm]
      refine list_val (.int .i64 (k1 : Int)) (by kernel_rfl) (by go_simp) ?_
      simp only [nrm]
      have c4 := cell_of hbat (i := 0) rfl
      have fz := froz_of (i := 0) hbat
      have hbat2 := hide (own_cell (v' := .int .i64 (k1 : Int)) hbat)
      have hbt := hide (Bt.setCell (g := bat) W' 0 (.int .i64 (k1 : Int)))
      have hbo : ∀ {i : Nat} {c9 : Array Value} {t9 : TypeId}, W'.heap[i]? = some (.cells c9 t9 (0, 0)) → t9 ≠ 3 → (W'.setCell ⟨bat, 0, none⟩ (.int .i64 (k1 : Int))).heap[i]? = some (.cells c9 t9 (0, 0)) := fun h hne => (unhide hbt).blk h (ty_ne h hbat hne)
      have hloop : ∀ {i : Nat} {o9 : Obj}, W'.heap[i]? = some o9 → o9.isCells = false → (W'.setCell ⟨bat, 0, none⟩ (.int .i64 (k1 : Int))).heap[i]? = some o9 := fun h hne => (unhide hbt).blk h (fun e => by rw [e, hbat] at h; rw [← Option.some.inj h] at hne; cases hne)
      have hblk2 := hide (hbo (unhide hblk) (by decide))
      have hbrk2 := hide (hbo (unhide hbrk) (by decide))
      have hbs2 := hide (hbo (unhide hbs) (by decide))
      have hbn2 := hide ((unhide hbt).blk (unhide hbn) (fun e => hn3 e.symm))
      have hl2 := hide (hbo (unhide hl1) (by decide))
      have hs2 : Hid (Sto G gs gd N s (W'.setCell ⟨bat, 0, none⟩ (.int .i64 (k1 : Int)))) := ⟨(unhide hs1).1, hbo (unhide hs1).2 (by decide)⟩
      have hrc2 := hide ((⟨hloop (unhide hrc).lo rfl, hloop (unhide hrc).de rfl⟩ : Rcd _ _ _ _))
      have hL2 := hide ((unhide hL1).bt (unhide hbt) (lies_no (unhide hL1) hbat (fun c t e => by injection e with _ e2 _; subst e2; decide)))
      have hC2 := hide ((unhide hC1).bt (unhide hbt) hbaw)
      have hMw2 := hide ((unhide hMw).btn (unhide hbt) (by omega))
      clear hbat hbo hloop hblk hbrk hbs hbn hl1 hs1 hrc hL1 hC1 hMw
      (refine wpList_step fun K hK => ?_; replace hK := hide hK; go_simp; refine unhide hK _ _ ?_; clear hK K)
      clear c4 fz
      generalize World.setCell _ _ _ = W4 at *
      refine wpList_nil ?_
      simp only [Exit.then]
      refine wpIn_seq ?_
      refine any_round (S := fun (v : World) => v.heap[bl]? = some (.cells #[.pointer (some ⟨l, 0, none⟩)] 28 (0, 0)) ∧ v.heap[l]? = some (.cells (lgv gs sa sn sc xa X.length xc bk) 69 (0, 0)) ∧ v.heap[bat]? = some (.cells #[.int .i64 (k1 : Int)] 3 (0, 0))) _ _ (by kernel_rfl) (fun ⟨_, _, h⟩ => h) (by kernel_rfl) ?_
      have hG9 := (Gr.refl W4).drew
      generalize World.drew _ = x0 at *
      have hS9 : (fun (v : World) => v.heap[bl]? = some (.cells #[.pointer (some ⟨l, 0, none⟩)] 28 (0, 0)) ∧ v.heap[l]? = some (.cells (lgv gs sa sn sc xa X.length xc bk) 69 (0, 0)) ∧ v.heap[bat]? = some (.cells #[.int .i64 (k1 : Int)] 3 (0, 0))) x0 := ⟨hG9.blk (unhide hblk2), hG9.blk (unhide hl2), hG9.blk (unhide hbat2)⟩
      simp only [List.size_toArray, List.length_cons, List.length_nil, Array.replicate, List.replicate]
      refine any_take (i := 0) (v := (.pointer (some ⟨l, 0, none⟩))) #[false, false, false, false, false, false, false, false, false] rfl (by kernel_rfl) (by kernel_rfl) (by kernel_rfl) (by kernel_rfl) (fun _ _ _ h => h) (.inl ⟨by kernel_rfl, fun x_ hu => exec_plg _ (.tmp 2) rfl bl 0 (by kernel_rfl) _ (cell_of hu.1 (i := 0) rfl)⟩) hS9 ?_
      simp only [nrm]
      refine any_take (i := 1) (v := (.pointer (some ⟨l, 0, none⟩))) #[true, false, false, false, false, false, false, false, false] rfl (by kernel_rfl) (by kernel_rfl) (by kernel_rfl) (by kernel_rfl) (fun _ _ _ h => h) (.inl ⟨by kernel_rfl, fun x_ hu => by kernel_rfl⟩) hS9 ?_
      simp only [nrm]
      refine any_take (i := 2) (v := (.pointer (some ⟨l, 0, none⟩))) #[true, true, false, false, false, false, false, false, false] rfl (by kernel_rfl) (by kernel_rfl) (by kernel_rfl) (by kernel_rfl) (fun _ _ _ h => h) (.inl ⟨by kernel_rfl, fun x_ hu => by kernel_rfl⟩) hS9 ?_
      simp only [nrm]
      refine any_take (i := 3) (v := (.pointer (some ⟨gs, 0, none⟩))) #[true, true, true, false, false, false, false, false, false] rfl (by kernel_rfl) (by kernel_rfl) (by kernel_rfl) (by kernel_rfl) (fun _ _ _ h => h) (.inl ⟨by kernel_rfl, fun x_ hu => exec_pst _ (.tmp 21) rfl l 0 (by kernel_rfl) _ (cell_of hu.2.1 (i := 0) rfl)⟩) hS9 ?_
      simp only [nrm]
      refine any_take (i := 4) (v := (.int .i64 (k1 : Int))) #[true, true, true, true, false, false, false, false, false] rfl (by kernel_rfl) (by kernel_rfl) (by kernel_rfl) (by kernel_rfl) (fun _ _ _ h => h) (.inl ⟨by kernel_rfl, fun x_ hu => exec_i64 _ (.tmp 6) rfl bat 0 (by kernel_rfl) _ (cell_of hu.2.2 (i := 0) rfl)⟩) hS9 ?_
      simp only [nrm]
      refine any_take (i := 5) (v := (.slice (some ⟨p, o + 63 * j, none⟩) r r)) #[true, true, true, true, true, false, false, false, false] rfl (by kernel_rfl) (by kernel_rfl) (by kernel_rfl) (by kernel_rfl) (fun _ _ _ h => h) (.inl ⟨by kernel_rfl, fun x_ hu => by kernel_rfl⟩) hS9 ?_
      simp only [nrm]
      refine any_one (i := 6) (by kernel_rfl) rfl (fun K_ hQ => ?_)
      refine step_callw (by kernel_rfl) 56 #[.slice (some ⟨p, o + 63 * j, none⟩) r r] (by kernel_rfl) ((wsector_ok _ (some ⟨p, o + 63 * j, none⟩) r r x0 ((unhide hMw2).gr hG9) (by omega)).mono ?_)
      rintro r x1 ⟨rfl, hg⟩
      refine ⟨_, rfl, ?_⟩
      rw [unhide hS2]
      replace hG9 := hG9.trans hg
      replace hS9 : (fun (v : World) => v.heap[bl]? = some (.cells #[.pointer (some ⟨l, 0, none⟩)] 28 (0, 0)) ∧ v.heap[l]? = some (.cells (lgv gs sa sn sc xa X.length xc bk) 69 (0, 0)) ∧ v.heap[bat]? = some (.cells #[.int .i64 (k1 : Int)] 3 (0, 0))) x1 := ⟨hg.blk hS9.1, hg.blk hS9.2.1, hg.blk hS9.2.2⟩
      clear hg
      refine hQ.out _ _ hS9 (fun _ => ?_)
      clear hQ K_
      simp only [nrm]
      refine any_one (i := 7) (by kernel_rfl) rfl (fun K_ hQ => ?_)
      have hput := eput_ok F1 G gs gd (m + j) E s (unhide hok) (by omega) (k1 : Int) (by have h1 := unhide hk1; have h2 := unhide hlg2; rw [unhide hlen]; constructor <;> omega) DX (unhide hDb) (fun i hi hg => lies_no ((unhide hL2).gr hG9) (((unhide hs2).gr hG9).2) (fun c t e => by injection e with _ e2 _; subst e2; decide) (by rw [((unhide hs2).gr hG9).1, List.mem_singleton] at hg; rw [← hg]; exact hi)) x1 ((unhide hL2).gr hG9) (by rw [unhide hlen]; exact (unhide hs2).gr hG9)
      rw [show (((2 + 2 * ((E.safe.length - 2) / 4) : Nat) : Int) + (k1 : Int)) = ((lg + u + 1 + j : Nat) : Int) from by have h1 := unhide hk1; have h2 := unhide hlg2; rw [unhide hlen]; omega] at hput
      obtain ⟨ee, hee⟩ : ∃ e, e = (E.step (some (lg + u + 1 + j, DX))).2 := ⟨_, rfl⟩
      have hqe : E.writeE ((lg + u + 1 + j : Nat) : Int) = ee := by rw [hee]; rfl
      replace hee := hide hee
      refine step_callw (by kernel_rfl) 59 #[.pointer (some ⟨gs, 0, none⟩), .int .i64 (k1 : Int), .agg (kc DX)] (by kernel_rfl) ((hput).mono ?_)
      rintro r x2 ⟨F2, rfl, hL3, hC3⟩
      refine ⟨_, rfl, ?_⟩
      rw [hqe]
      replace hS9 : (fun (v : World) => v.heap[bl]? = some (.cells #[.pointer (some ⟨l, 0, none⟩)] 28 (0, 0)) ∧ v.heap[l]? = some (.cells (lgv gs sa sn sc xa X.length xc bk) 69 (0, 0)) ∧ v.heap[bat]? = some (.cells #[.int .i64 (k1 : Int)] 3 (0, 0))) x2 := ⟨hC3.blk hS9.1 (lies_no ((unhide hL2).gr hG9) hS9.1 (fun c t e => by injection e with _ e2 _; subst e2; decide)), hC3.blk hS9.2.1 (lies_no ((unhide hL2).gr hG9) hS9.2.1 (fun c t e => by injection e with _ e2 _; subst e2; decide)), hC3.blk hS9.2.2 (lies_no ((unhide hL2).gr hG9) hS9.2.2 (fun c t e => by injection e with _ e2 _; subst e2; decide))⟩
      replace hL3 := hide hL3; replace hC3 := hide hC3
      clear hput
      refine hQ.out _ _ hS9 (fun _ => ?_)
      clear hQ K_
      simp only [nrm]
      refine any_one (i := 8) (by kernel_rfl) rfl (fun K_ hQ => ?_)
      replace hQ := hide hQ
      go_simp
      refine (unhide hQ).out _ _ hS9 (fun _ => ?_)
      clear hQ K_
      refine any_done (by kernel_rfl) ?_
      simp only [Exit.then]
      refine wpIn_seq ?_
      by_cases hez : ee = 0
      · skip
        subst hez
        refine region_round _ _ (by kernel_rfl) (fun ⟨_, _, h⟩ => h) ?_
        refine list_val (.int .i64 0) (by kernel_rfl) (by kernel_rfl) ?_
        simp only [nrm]
        refine list_val (.bool false) (by kernel_rfl) (by kernel_rfl) ?_
        simp only [nrm]
        refine wpList_nil ?_
        simp only [Exit.then]
        refine wpIn_cond_false rfl ?_
        refine wpIn_skip ?_
        have hR6 : Rcd (u4.heap.size + 1) u4.heap.size _ x2 := ((unhide hrc2).gr hG9).chg ((unhide hL2).gr hG9) (unhide hC3)
        have hC6 : Chg F F2 w x2 := ((unhide hC2).gr hG9).trans2 (unhide hC3)
        refine ⟨hR6, ?_⟩
        refine (if_pos rfl).mpr ?_
        have hst0 : Dk.runD ((wrf (lg + u + 1) (dat M) (j + 1)).map some) D = E.step (some (lg + u + 1 + j, DX)) := unhide hnx
        have hL6 : Lies F2 gd (E.step (some (lg + u + 1 + j, DX))).1 x2 := unhide hL3
        have hJ6 : LwJ (u4.heap.size + 1) u4.heap.size _ F w gd D m (lg + u + 1) u M a n c l bl br bat Bs Bn (j + 1) x2 := ⟨hR6, ⟨F2, by rw [hst0]; exact hL6, hC6⟩, by rw [hst0]; exact (unhide hee).symm, unhide hok2, ⟨hS9.1, (unhide hC3).blk (hG9.blk (unhide hbrk2)) (lies_no ((unhide hL2).gr hG9) (hG9.blk (unhide hbrk2)) (fun c t e => by injection e with _ e2 _; subst e2; decide)), by rw [show u + (j + 1) = k1 from by have := unhide hk1; omega]; exact hS9.2.2⟩, (unhide hC3).blk (hG9.blk (unhide hbs2)) (lies_no ((unhide hL2).gr hG9) (hG9.blk (unhide hbs2)) (fun c t e => by injection e with _ e2 _; subst e2; decide)), (unhide hC3).blk (hG9.blk (unhide hbn2)) (lies_no ((unhide hL2).gr hG9) (hG9.blk (unhide hbn2)) (fun c t e => by injection e with _ e2 _; subst e2; decide))⟩
        exact hJ6.put' rfl (by omega) (by omega)
      · skip
        refine region_round _ _ (by kernel_rfl) (fun ⟨_, _, h⟩ => h) ?_
        refine list_val (.int .i64 ee) (by kernel_rfl) (by kernel_rfl) ?_
        simp only [nrm]
        refine list_val (.bool true) (by kernel_rfl) (by go_simp) ?_
        simp only [nrm]
        refine wpList_nil ?_
        simp only [Exit.then]
        refine wpIn_cond_true rfl ?_
        refine wpIn_seq ?_
        have hbr3 := (unhide hC3).blk (hG9.blk (unhide hbrk2)) (lies_no ((unhide hL2).gr hG9) (hG9.blk (unhide hbrk2)) (fun c t e => by injection e with _ e2 _; subst e2; decide))
        refine region_round _ _ (by kernel_rfl) (fun ⟨_, _, h⟩ => h) ?_
        refine list_val (.int .i64 ee) (by kernel_rfl) (by kernel_rfl) ?_
        simp only [nrm]
        have c4 := cell_of hbr3 (i := 0) rfl
        have fz := froz_of (i := 0) hbr3
        have hbr4 := hide (own_cell (v' := .int .i64 ee) hbr3)
        have hbt4 := hide (Bt.setCell (g := br) x2 0 (.int .i64 ee))
        have hR6 : Rcd (u4.heap.size + 1) u4.heap.size _ x2 := ((unhide hrc2).gr hG9).chg ((unhide hL2).gr hG9) (unhide hC3)
        have hC6 : Chg F F2 w x2 := ((unhide hC2).gr hG9).trans2 (unhide hC3)
        have hR7 := hide ((⟨(unhide hbt4).blk hR6.lo (fun e => by have h9 := hR6.lo; rw [e, hbr3] at h9; cases h9), (unhide hbt4).blk hR6.de (fun e => by have h9 := hR6.de; rw [e, hbr3] at h9; cases h9)⟩ : Rcd (u4.heap.size + 1) u4.heap.size _ _))
        have hL7 := hide ((unhide hL3).bt (unhide hbt4) (lies_no (unhide hL3) hbr3 (fun c t e => by injection e with _ e2 _; subst e2; decide)))
        have hC7 := hide (hC6.bt (unhide hbt4) hbrw)
        clear hR6 hC6 hS9 hbr3 hC3 hL3
        (refine wpList_step fun K hK => ?_; replace hK := hide hK; go_simp; refine unhide hK _ _ ?_; clear hK K)
        clear c4 fz
        generalize World.setCell _ _ _ = x3 at *
        refine wpList_nil ?_
        simp only [Exit.then]
        refine wpIn_ret ?_
        refine ⟨unhide hR7, ?_⟩
        refine (if_neg (by decide)).mpr ?_
        have hap := (unhide hsp) (by rw [← unhide hee]; exact hez)
        have hX7 : LwX (u4.heap.size + 1) u4.heap.size _ F w gd AP.1 AP.2 br x3 := ⟨unhide hR7, ⟨F2, by rw [hap]; exact unhide hL7, unhide hC7⟩, by rw [hap, ← unhide hee]; exact unhide hbr4⟩
        rw [hrf]
        exact ⟨rfl, hX7.put' rfl (by omega) (by omega)⟩
end Go.Proofs.YtaoiejgjdmakjaaDoor
