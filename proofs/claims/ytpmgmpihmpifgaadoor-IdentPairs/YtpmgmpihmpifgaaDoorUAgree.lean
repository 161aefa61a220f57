/-
  What Zero and Agree answer.
-/
import Derived.Test.YtpmgmpihmpifgaaDoorXK1
import Derived.Test.YtpmgmpihmpifgaaDoorUComm
namespace Go.Proofs.YtpmgmpihmpifgaaDoor.Cv
open Go.RowKit
set_option maxRecDepth 100000
set_option linter.unusedSimpArgs false

theorem or8n (a b : Nat) (ha : a < 256) (hb : b < 256) : bits .or .u8 (a : Int) (b : Int) = ((a ||| b : Nat) : Int) := by
  show IntKind.u8.wrap ((BitVec.ofInt 8 (a : Int) ||| BitVec.ofInt 8 (b : Int)).toNat : Int) = _
  have e : (BitVec.ofInt 8 (a : Int) ||| BitVec.ofInt 8 (b : Int)).toNat = a ||| b := by
    rw [BitVec.toNat_or, BitVec.toNat_ofInt, BitVec.toNat_ofInt]
    have h1 : ((a : Int) % ((2 ^ 8 : Nat) : Int)).toNat = a := by omega
    have h2 : ((b : Int) % ((2 ^ 8 : Nat) : Int)).toNat = b := by omega
    rw [h1, h2]
  have hl : a ||| b < 256 := Nat.or_lt_two_pow (n := 8) ha hb
  rw [e, IntKind.wrap_u8]
  omega
theorem or8z (u x : Int) (hu : 0 ≤ u ∧ u < 256) (hx : 0 ≤ x ∧ x < 256) : (0 ≤ bits .or .u8 u x ∧ bits .or .u8 u x < 256) ∧ (bits .or .u8 u x = 0 ↔ u = 0 ∧ x = 0) := by
  obtain ⟨U, rfl⟩ := Int.eq_ofNat_of_zero_le hu.1
  obtain ⟨X, rfl⟩ := Int.eq_ofNat_of_zero_le hx.1
  have hl : U ||| X < 256 := Nat.or_lt_two_pow (n := 8) (by omega) (by omega)
  have l1 := Nat.left_le_or (n := U) (m := X)
  have l2 := Nat.right_le_or (n := U) (m := X)
  rw [or8n U X (by omega) (by omega)]
  refine ⟨by omega, ⟨fun h => by omega, ?_⟩⟩
  rintro ⟨h1, h2⟩
  obtain rfl : U = 0 := by omega
  obtain rfl : X = 0 := by omega
  rfl
/-- what Zero has seen behind k bytes -/
def ZI (n : Nat) (k : Nat) (u : Int) : Prop := (0 ≤ u ∧ u < 256) ∧ (u = 0 ↔ ∀ j, j < k → (n : Int) / 256 ^ j % 256 = 0)
theorem ZI.step {n k : Nat} {u : Int} (h : ZI n k u) : ZI n (k + 1) (bits .or .u8 u ((n : Int) / 256 ^ k % 256)) := by
  have h1 := or8z u ((n : Int) / 256 ^ k % 256) h.1 (by omega)
  refine ⟨h1.1, h1.2.trans ?_⟩
  rw [h.2]
  constructor
  · rintro ⟨h2, h3⟩ j hj
    by_cases e : j = k
    · rw [e]; exact h3
    · exact h2 j (by omega)
  · intro h2
    exact ⟨fun j hj => h2 j (by omega), h2 k (by omega)⟩
theorem all_zero (n : Nat) (hn : n < 115792089237316195423570985008687907853269984665640564039457584007913129639936) : (∀ j, j < 32 → (n : Int) / 256 ^ j % 256 = 0) ↔ n = 0 := by
  constructor
  · intro h
    have e : digs (n : Int) 32 = digs 0 32 := by
      unfold digs
      apply List.map_congr_left
      intro j hj
      have hj' : j < 32 := List.mem_range.1 hj
      rw [if_pos hj', if_pos hj', h j hj']
      simp
    have := digs_inj (n : Int) 0 ⟨by omega, by omega⟩ ⟨by omega, by omega⟩ e
    omega
  · rintro rfl j _
    simp
set_option maxHeartbeats 1000000 in
theorem zero32_ok (n g : Nat) (hn : n < 115792089237316195423570985008687907853269984665640564039457584007913129639936) (w : World) (hg : w.heap[g]? = some (.cells (kc (digs (n : Int) 32)) 25 (0, 0))) :
    Calls Tryd.prog 48 #[.slice (some ⟨g, 0, none⟩) 32 32] w (fun r w' => r = .returned (.bool (decide (n = 0))) ∧ w' = w) := by
  replace hn := hide hn
  replace hg := hide hg
  have hZ : Hid (ZI n 0 0) := hide ⟨by omega, fun _ j hj => by omega, fun _ => rfl⟩
  go_enter Tryd.func48, Tryd.ntmps48
  go_wp2_with fail
  go_loopw [3, 8] (fun x i wr => ∃ (k : Nat) (u : Int), k ≤ 32 ∧ i = .int .i64 k ∧ x = .int .u8 u ∧ Hid (ZI n k u) ∧ wr = w) (fun _ i _ => 32 - (intOf i).toNat)
  case atStart => exact ⟨0, 0, Nat.zero_le _, rfl, rfl, hZ, rfl⟩
  case round =>
  clear hZ
  obtain ⟨k, u, hk, rfl, rfl, hZ, rfl⟩ := hrel
  by_cases hkl : k < 32
  · have c1 := key_cell (KB.of (unhide hg)) k hkl
    have hZ2 := hide (unhide hZ).step
    have kI : (k : Int) < 32 := by omega
    generalize (n : Int) / 256 ^ k % 256 = x at *
    go_wp2_with fail
    go_roundw
    case rel => exact ⟨k + 1, _, by omega, by go_num, rfl, hZ2, trivial⟩
    case measure => simp [intOf]; omega
  · have e : k = 32 := by omega
    subst e
    have hu := (unhide hZ).2.trans (all_zero n (unhide hn))
    have hb : (u == 0) = decide (n = 0) := by
      rw [Bool.eq_iff_iff]
      simpa using hu
    replace hb := hide hb
    clear hu
    go_wp2_with fail
    refine bodyPost_ret (v := .bool (decide (n = 0))) ?_ rfl ⟨rfl, rfl⟩
    have hb2 := unhide hb
    simp [results, Tryd.results48, go_sem, ← hb2]
theorem results_cell_tmp {P : Program} {fn : Func} {p q : Tmp} {ty : TypeId} (h : fn.results = #[.cell p ty, .tmp q]) (tmps : Array Value) (w : World) (g : Nat) (t : TypeId) (cs : Array Value) (fr : Nat × Nat) (d : TypeDesc)
    (hp : tmps.getD p undef = .pointer (some ⟨g, 0, none⟩)) (v : Value) (hq : tmps.getD q undef = v) (hg : w.heap[g]? = some (.cells cs t fr))
    (hu : P.underlying ty = some d) (hd : (match d with | .struct _ | .array _ _ => true | _ => false) = true) (hi : (P.info? ty).map (·.size) = some cs.size) :
    (results fn tmps).run P w = .ok (.tuple #[.agg cs, v]) w := by
  have hp' : tmps[p]?.getD undef = .pointer (some ⟨g, 0, none⟩) := by simpa using hp
  have hq' : tmps[q]?.getD undef = v := by simpa using hq
  simp [results, h, hp', hq', asAddr, run_loadVar_row w g t ty cs fr d hg hu hd hi]
theorem xN_256 (M U : Nat) : xN M U < 115792089237316195423570985008687907853269984665640564039457584007913129639936 := by
  have := xN_lt M U
  unfold Ed.p at this
  omega

set_option maxHeartbeats 1000000 in
theorem agree_n (M U : Nat) (h : Hid (xN M U ≠ 0)) (w : World) :
    Calls Tryd.prog 34 #[.agg (kc (digs (M : Int) 32)), .agg (kc (digs (U : Int) 32))] w (fun r w' => ∃ n : Nat, r = .returned (.tuple #[.agg (kc (digs (n : Int) 32)), .int .i64 0]) ∧ Hid (n = xN M U) ∧ Gr w w') := by
  go_enter Tryd.func34, Tryd.ntmps34
  go_upto_region 1 with fail
  have hB := ((((Bl.nil w).new (kc (digs (M : Int) 32)) 25).new (kc (digs (U : Int) 32)) 25).new #[.int .u8 0, .int .u8 0, .int .u8 0, .int .u8 0, .int .u8 0, .int .u8 0, .int .u8 0, .int .u8 0, .int .u8 0, .int .u8 0, .int .u8 0, .int .u8 0, .int .u8 0, .int .u8 0, .int .u8 0, .int .u8 0, .int .u8 0, .int .u8 0, .int .u8 0, .int .u8 0, .int .u8 0, .int .u8 0, .int .u8 0, .int .u8 0, .int .u8 0, .int .u8 0, .int .u8 0, .int .u8 0, .int .u8 0, .int .u8 0, .int .u8 0, .int .u8 0] 25)
  simp only [size_alloc, List.nil_append, List.cons_append] at hB
  generalize World.alloc _ _ = v1_ at *
  replace hB : Bl w [⟨w.heap.size, (kc (digs (M : Int) 32)), 25⟩, ⟨w.heap.size + 1, (kc (digs (U : Int) 32)), 25⟩, ⟨w.heap.size + 1 + 1, Z32, 25⟩] v1_ := hB
  refine wp_region_lit ?_
  refine list_val (.agg (kc (digs (M : Int) 32))) (by kernel_rfl) (exec_arr _ 25 (.tmp 2) rfl w.heap.size (by kernel_rfl) (kc (digs (M : Int) 32)) 25 _ (hB.get 0 (x := ⟨w.heap.size, (kc (digs (M : Int) 32)), 25⟩) rfl) Tryd.underlying25 rfl (by rw [Tryd.infoKey, kc32])) ?_
  simp only [nrm]
  refine list_val (.agg (kc (digs (U : Int) 32))) (by kernel_rfl) (exec_arr _ 25 (.tmp 3) rfl (w.heap.size + 1) (by kernel_rfl) (kc (digs (U : Int) 32)) 25 _ (hB.get 1 (x := ⟨w.heap.size + 1, (kc (digs (U : Int) 32)), 25⟩) rfl) Tryd.underlying25 rfl (by rw [Tryd.infoKey, kc32])) ?_
  simp only [nrm]
  refine list_call 40 #[.agg (kc (digs (M : Int) 32)), .agg (kc (digs (U : Int) 32))] (by kernel_rfl) (by kernel_rfl) ((x_n M U _).mono ?_)
  rintro r v2_ ⟨n1, rfl, hn1, hg⟩
  refine ⟨_, rfl, ?_⟩
  replace hB := hB.more hg
  clear hg
  simp only [nrm]
  refine wpList_step fun K hK => ?_
  replace hK := hide hK
  go_simp
  refine unhide hK _ _ ?_
  clear hK K
  replace hB := hB.new #[.int .u8 0, .int .u8 0, .int .u8 0, .int .u8 0, .int .u8 0, .int .u8 0, .int .u8 0, .int .u8 0, .int .u8 0, .int .u8 0, .int .u8 0, .int .u8 0, .int .u8 0, .int .u8 0, .int .u8 0, .int .u8 0, .int .u8 0, .int .u8 0, .int .u8 0, .int .u8 0, .int .u8 0, .int .u8 0, .int .u8 0, .int .u8 0, .int .u8 0, .int .u8 0, .int .u8 0, .int .u8 0, .int .u8 0, .int .u8 0, .int .u8 0, .int .u8 0] 25
  simp only [List.cons_append, List.nil_append] at hB
  generalize v2_.heap.size = g1_3 at *
  generalize World.alloc _ _ = v3_ at *
  replace hB : Bl w [⟨w.heap.size, (kc (digs (M : Int) 32)), 25⟩, ⟨w.heap.size + 1, (kc (digs (U : Int) 32)), 25⟩, ⟨w.heap.size + 1 + 1, Z32, 25⟩, ⟨g1_3, Z32, 25⟩] v3_ := hB
  refine list_store 25 (.tmp 6) (.tmp 9) g1_3 (kc (digs (n1 : Int) 32)) 25 Z32 (by kernel_rfl) rfl (by kernel_rfl) (by kernel_rfl) (hB.get 3 (x := ⟨g1_3, Z32, 25⟩) rfl) (by rw [Tryd.infoKey, kc32]) (Z32_size.trans (kc32 (n1 : Int) 32).symm) (kc_one _) ?_
  replace hB := hB.set 3 (x := ⟨g1_3, Z32, 25⟩) rfl (kc (digs (n1 : Int) 32))
  simp only [List.set_cons_zero, List.set_cons_succ] at hB
  generalize World.setRow _ _ _ = v4_ at *
  simp only [nrm]
  refine wpList_nil ?_
  have hnz : decide (n1 = 0) = false := by rw [unhide hn1]; simpa using unhide h
  have hlt : n1 < 115792089237316195423570985008687907853269984665640564039457584007913129639936 := by rw [unhide hn1]; exact xN_256 M U
  go_upto_region 2 with fail
  refine wp_region_lit ?_
  refine list_val (.slice (some ⟨g1_3, 0, none⟩) 32 32) (by kernel_rfl) (by kernel_rfl) ?_
  simp only [nrm]
  refine list_call 48 #[.slice (some ⟨g1_3, 0, none⟩) 32 32] (by kernel_rfl) (by kernel_rfl) ((zero32_ok n1 g1_3 hlt _ (hB.get 3 (x := ⟨g1_3, (kc (digs (n1 : Int) 32)), 25⟩) rfl)).mono ?_)
  rintro r vz_ ⟨rfl, rfl⟩
  refine ⟨_, rfl, ?_⟩
  rw [hnz]
  simp only [nrm]
  refine wpList_nil ?_
  go_upto_region 4 with fail
  refine wp_region_lit ?_
  refine list_val (.agg (kc (digs (n1 : Int) 32))) (by kernel_rfl) (exec_arr _ 25 (.tmp 6) rfl g1_3 (by kernel_rfl) (kc (digs (n1 : Int) 32)) 25 _ (hB.get 3 (x := ⟨g1_3, (kc (digs (n1 : Int) 32)), 25⟩) rfl) Tryd.underlying25 rfl (by rw [Tryd.infoKey, kc32])) ?_
  simp only [nrm]
  refine list_store 25 (.tmp 4) (.tmp 13) (w.heap.size + 1 + 1) (kc (digs (n1 : Int) 32)) 25 Z32 (by kernel_rfl) rfl (by kernel_rfl) (by kernel_rfl) (hB.get 2 (x := ⟨w.heap.size + 1 + 1, Z32, 25⟩) rfl) (by rw [Tryd.infoKey, kc32]) (Z32_size.trans (kc32 n1 32).symm) (kc_one _) ?_
  replace hB := hB.set 2 (x := ⟨w.heap.size + 1 + 1, Z32, 25⟩) rfl (kc (digs (n1 : Int) 32))
  simp only [List.set_cons_zero, List.set_cons_succ] at hB
  generalize World.setRow _ _ _ = v5_ at *
  simp only [nrm]
  refine wpList_step fun K hK => ?_
  replace hK := hide hK
  go_simp
  refine unhide hK _ _ ?_
  clear hK K
  refine wpList_nil ?_
  go_wp2_with fail
  exact bodyPost_ret (v := .tuple #[.agg (kc (digs (n1 : Int) 32)), .int .i64 0]) (results_cell_tmp Tryd.results34 _ _ (w.heap.size + 1 + 1) 25 (kc (digs (n1 : Int) 32)) (0, 0) _ rfl (.int .i64 0) rfl (hB.get 2 (x := ⟨w.heap.size + 1 + 1, (kc (digs (n1 : Int) 32)), 25⟩) rfl) Tryd.underlying25 rfl (by rw [Tryd.infoKey, kc32])) rfl ⟨n1, rfl, hn1, hB.gr⟩

set_option maxHeartbeats 1000000 in
theorem agree_low (M U : Nat) (h : Hid (xN M U = 0)) (w : World) :
    Calls Tryd.prog 34 #[.agg (kc (digs (M : Int) 32)), .agg (kc (digs (U : Int) 32))] w (fun r w' => r = .returned (.tuple #[.agg (kc (digs (0 : Int) 32)), .int .i64 130]) ∧ Gr w w') := by
  go_enter Tryd.func34, Tryd.ntmps34
  go_upto_region 1 with fail
  have hB := ((((Bl.nil w).new (kc (digs (M : Int) 32)) 25).new (kc (digs (U : Int) 32)) 25).new #[.int .u8 0, .int .u8 0, .int .u8 0, .int .u8 0, .int .u8 0, .int .u8 0, .int .u8 0, .int .u8 0, .int .u8 0, .int .u8 0, .int .u8 0, .int .u8 0, .int .u8 0, .int .u8 0, .int .u8 0, .int .u8 0, .int .u8 0, .int .u8 0, .int .u8 0, .int .u8 0, .int .u8 0, .int .u8 0, .int .u8 0, .int .u8 0, .int .u8 0, .int .u8 0, .int .u8 0, .int .u8 0, .int .u8 0, .int .u8 0, .int .u8 0, .int .u8 0] 25)
  simp only [size_alloc, List.nil_append, List.cons_append] at hB
  generalize World.alloc _ _ = v1_ at *
  replace hB : Bl w [⟨w.heap.size, (kc (digs (M : Int) 32)), 25⟩, ⟨w.heap.size + 1, (kc (digs (U : Int) 32)), 25⟩, ⟨w.heap.size + 1 + 1, Z32, 25⟩] v1_ := hB
  refine wp_region_lit ?_
  refine list_val (.agg (kc (digs (M : Int) 32))) (by kernel_rfl) (exec_arr _ 25 (.tmp 2) rfl w.heap.size (by kernel_rfl) (kc (digs (M : Int) 32)) 25 _ (hB.get 0 (x := ⟨w.heap.size, (kc (digs (M : Int) 32)), 25⟩) rfl) Tryd.underlying25 rfl (by rw [Tryd.infoKey, kc32])) ?_
  simp only [nrm]
  refine list_val (.agg (kc (digs (U : Int) 32))) (by kernel_rfl) (exec_arr _ 25 (.tmp 3) rfl (w.heap.size + 1) (by kernel_rfl) (kc (digs (U : Int) 32)) 25 _ (hB.get 1 (x := ⟨w.heap.size + 1, (kc (digs (U : Int) 32)), 25⟩) rfl) Tryd.underlying25 rfl (by rw [Tryd.infoKey, kc32])) ?_
  simp only [nrm]
  refine list_call 40 #[.agg (kc (digs (M : Int) 32)), .agg (kc (digs (U : Int) 32))] (by kernel_rfl) (by kernel_rfl) ((x_n M U _).mono ?_)
  rintro r v2_ ⟨n1, rfl, hn1, hg⟩
  refine ⟨_, rfl, ?_⟩
  replace hB := hB.more hg
  clear hg
  simp only [nrm]
  refine wpList_step fun K hK => ?_
  replace hK := hide hK
  go_simp
  refine unhide hK _ _ ?_
  clear hK K
  replace hB := hB.new #[.int .u8 0, .int .u8 0, .int .u8 0, .int .u8 0, .int .u8 0, .int .u8 0, .int .u8 0, .int .u8 0, .int .u8 0, .int .u8 0, .int .u8 0, .int .u8 0, .int .u8 0, .int .u8 0, .int .u8 0, .int .u8 0, .int .u8 0, .int .u8 0, .int .u8 0, .int .u8 0, .int .u8 0, .int .u8 0, .int .u8 0, .int .u8 0, .int .u8 0, .int .u8 0, .int .u8 0, .int .u8 0, .int .u8 0, .int .u8 0, .int .u8 0, .int .u8 0] 25
  simp only [List.cons_append, List.nil_append] at hB
  generalize v2_.heap.size = g1_3 at *
  generalize World.alloc _ _ = v3_ at *
  replace hB : Bl w [⟨w.heap.size, (kc (digs (M : Int) 32)), 25⟩, ⟨w.heap.size + 1, (kc (digs (U : Int) 32)), 25⟩, ⟨w.heap.size + 1 + 1, Z32, 25⟩, ⟨g1_3, Z32, 25⟩] v3_ := hB
  refine list_store 25 (.tmp 6) (.tmp 9) g1_3 (kc (digs (n1 : Int) 32)) 25 Z32 (by kernel_rfl) rfl (by kernel_rfl) (by kernel_rfl) (hB.get 3 (x := ⟨g1_3, Z32, 25⟩) rfl) (by rw [Tryd.infoKey, kc32]) (Z32_size.trans (kc32 (n1 : Int) 32).symm) (kc_one _) ?_
  replace hB := hB.set 3 (x := ⟨g1_3, Z32, 25⟩) rfl (kc (digs (n1 : Int) 32))
  simp only [List.set_cons_zero, List.set_cons_succ] at hB
  generalize World.setRow _ _ _ = v4_ at *
  simp only [nrm]
  refine wpList_nil ?_
  have hnz : decide (n1 = 0) = true := by rw [unhide hn1]; simpa using unhide h
  have hlt : n1 < 115792089237316195423570985008687907853269984665640564039457584007913129639936 := by rw [unhide hn1]; exact xN_256 M U
  go_upto_region 2 with fail
  refine wp_region_lit ?_
  refine list_val (.slice (some ⟨g1_3, 0, none⟩) 32 32) (by kernel_rfl) (by kernel_rfl) ?_
  simp only [nrm]
  refine list_call 48 #[.slice (some ⟨g1_3, 0, none⟩) 32 32] (by kernel_rfl) (by kernel_rfl) ((zero32_ok n1 g1_3 hlt _ (hB.get 3 (x := ⟨g1_3, (kc (digs (n1 : Int) 32)), 25⟩) rfl)).mono ?_)
  rintro r vz_ ⟨rfl, rfl⟩
  refine ⟨_, rfl, ?_⟩
  rw [hnz]
  simp only [nrm]
  refine wpList_nil ?_
  go_upto_region 3 with fail
  refine wp_region_lit ?_
  refine list_val (.agg (kc (digs (0 : Int) 32))) (by kernel_rfl) (by kernel_rfl) ?_
  simp only [nrm]
  refine list_store 25 (.tmp 4) (.tmp 12) (w.heap.size + 1 + 1) (kc (digs (0 : Int) 32)) 25 Z32 (by kernel_rfl) rfl (by kernel_rfl) (by kernel_rfl) (hB.get 2 (x := ⟨w.heap.size + 1 + 1, Z32, 25⟩) rfl) (by rw [Tryd.infoKey, kc32]) (Z32_size.trans (kc32 0 32).symm) (kc_one _) ?_
  replace hB := hB.set 2 (x := ⟨w.heap.size + 1 + 1, Z32, 25⟩) rfl (kc (digs (0 : Int) 32))
  simp only [List.set_cons_zero, List.set_cons_succ] at hB
  generalize World.setRow _ _ _ = v5_ at *
  simp only [nrm]
  refine wpList_step fun K hK => ?_
  replace hK := hide hK
  go_simp
  refine unhide hK _ _ ?_
  clear hK K
  refine wpList_nil ?_
  go_wp2_with fail
  exact bodyPost_ret (v := .tuple #[.agg (kc (digs (0 : Int) 32)), .int .i64 130]) (results_cell_tmp Tryd.results34 _ _ (w.heap.size + 1 + 1) 25 (kc (digs (0 : Int) 32)) (0, 0) _ rfl (.int .i64 130) rfl (hB.get 2 (x := ⟨w.heap.size + 1 + 1, (kc (digs (0 : Int) 32)), 25⟩) rfl) Tryd.underlying25 rfl (by rw [Tryd.infoKey, kc32])) rfl ⟨rfl, hB.gr⟩
end Go.Proofs.YtpmgmpihmpifgaaDoor.Cv

