/-
  The laws' own helpers: a block of a byte, kinds, few, keeps.
-/
import Derived.Test.YthgchjdjacbcgaaDkH
namespace Go.Proofs.Ythgchjdjacbcgaa
open Go.RowKit
set_option maxRecDepth 100000
set_option linter.unusedSimpArgs false
set_option linter.unusedVariables false
/-- a block of a byte -/
def bkf (x : Int) (i : Nat) : Int := xb x (i : Int)
def blkL (x : Int) : List Int := (List.range 64).map (bkf x)
theorem blkL_bb (x : Int) : BB (blkL x) := ⟨by simp [blkL], fun y hy => by
  unfold blkL at hy
  obtain ⟨i, _, rfl⟩ := List.mem_map.1 hy
  exact xb_rng _ _⟩
/-- an op -/
structure Opl where
  kind : Int
  at_ : Int
  fill : Int
  keep : List Bool
def Opl.k (o : Opl) : Nat := ((o.kind % 18446744073709551616) % 5).toNat
theorem Opl.k_lt (o : Opl) : o.k < 5 := by unfold Opl.k; omega
/-- an op that can be -/
structure Opl.Ok (o : Opl) : Prop where
  k1 : -9223372036854775808 ≤ o.kind
  k2 : o.kind < 9223372036854775808
  a1 : -9223372036854775808 ≤ o.at_
  a2 : o.at_ < 9223372036854775808
  f1 : 0 ≤ o.fill
  f2 : o.fill < 256
  kl : o.keep.length ≤ 140737488351232
def opv (o : Opl) (ka : Option Addr) (kn kp : Nat) : Array Value := #[.int .i64 o.kind, .int .i64 o.at_, .int .u8 o.fill, .slice ka kn kp]
set_option maxHeartbeats 4000000 in
theorem block_ok (x : Int) (w : World) : Calls Try.prog 30 #[.int .u8 x] w (fun r w' => r = .returned (.agg (kc (blkL x))) ∧ Gr w w') := by
  go_enter Try.func30, Try.ntmps30
  go_upto_region 2 with fail
  have hB := ((Bl.nil w).new #[.int .u8 0, .int .u8 0, .int .u8 0, .int .u8 0, .int .u8 0, .int .u8 0, .int .u8 0, .int .u8 0, .int .u8 0, .int .u8 0, .int .u8 0, .int .u8 0, .int .u8 0, .int .u8 0, .int .u8 0, .int .u8 0, .int .u8 0, .int .u8 0, .int .u8 0, .int .u8 0, .int .u8 0, .int .u8 0, .int .u8 0, .int .u8 0, .int .u8 0, .int .u8 0, .int .u8 0, .int .u8 0, .int .u8 0, .int .u8 0, .int .u8 0, .int .u8 0, .int .u8 0, .int .u8 0, .int .u8 0, .int .u8 0, .int .u8 0, .int .u8 0, .int .u8 0, .int .u8 0, .int .u8 0, .int .u8 0, .int .u8 0, .int .u8 0, .int .u8 0, .int .u8 0, .int .u8 0, .int .u8 0, .int .u8 0, .int .u8 0, .int .u8 0, .int .u8 0, .int .u8 0, .int .u8 0, .int .u8 0, .int .u8 0, .int .u8 0, .int .u8 0, .int .u8 0, .int .u8 0, .int .u8 0, .int .u8 0, .int .u8 0, .int .u8 0] 39).new #[.int .u8 0, .int .u8 0, .int .u8 0, .int .u8 0, .int .u8 0, .int .u8 0, .int .u8 0, .int .u8 0, .int .u8 0, .int .u8 0, .int .u8 0, .int .u8 0, .int .u8 0, .int .u8 0, .int .u8 0, .int .u8 0, .int .u8 0, .int .u8 0, .int .u8 0, .int .u8 0, .int .u8 0, .int .u8 0, .int .u8 0, .int .u8 0, .int .u8 0, .int .u8 0, .int .u8 0, .int .u8 0, .int .u8 0, .int .u8 0, .int .u8 0, .int .u8 0, .int .u8 0, .int .u8 0, .int .u8 0, .int .u8 0, .int .u8 0, .int .u8 0, .int .u8 0, .int .u8 0, .int .u8 0, .int .u8 0, .int .u8 0, .int .u8 0, .int .u8 0, .int .u8 0, .int .u8 0, .int .u8 0, .int .u8 0, .int .u8 0, .int .u8 0, .int .u8 0, .int .u8 0, .int .u8 0, .int .u8 0, .int .u8 0, .int .u8 0, .int .u8 0, .int .u8 0, .int .u8 0, .int .u8 0, .int .u8 0, .int .u8 0, .int .u8 0] 39
  simp only [size_alloc, List.nil_append, List.cons_append] at hB
  generalize World.alloc _ _ = u at *
  replace hB : Bl w [⟨w.heap.size, kc ZB, 39⟩, ⟨w.heap.size + 1, kc ZB, 39⟩] u := hB
  replace hB := hide hB
  go_wp2_with fail
  go_loopw [5] (fun i wr => ∃ j : Nat, j ≤ 64 ∧ i = .int .i64 j ∧ Hid (Bl w [⟨w.heap.size, kc ZB, 39⟩, ⟨w.heap.size + 1, kc (fil (bkf x) j ZB), 39⟩] wr)) (fun i _ => 64 - (intOf i).toNat)
  case atStart => exact ⟨0, by omega, rfl, by rw [fil_zero]; exact hB⟩
  case round =>
  clear hB
  obtain ⟨j, hj, rfl, hB⟩ := hrel
  by_cases hjl : j < 64
  · have jI : (j : Int) < 64 := by omega
    have hlen : (fil (bkf x) j ZB).length = 64 := by rw [fil_len _ _ _ (by show j ≤ 64; omega)]; rfl
    have c0 := kc_cell ((unhide hB).get 1 (x := ⟨w.heap.size + 1, kc (fil (bkf x) j ZB), 39⟩) rfl) j (by omega)
    have fz := froz_of (i := j) ((unhide hB).get 1 (x := ⟨w.heap.size + 1, kc (fil (bkf x) j ZB), 39⟩) rfl)
    have hB2 := (unhide hB).cell 1 (x := ⟨w.heap.size + 1, kc (fil (bkf x) j ZB), 39⟩) rfl j (.int .u8 (bkf x j))
    have e1 := fil_set (bkf x) j ZB (by show j < 64; omega)
    simp only [List.set_cons_zero, List.set_cons_succ, kc_set, e1] at hB2
    clear hB e1 hlen
    have e2 : IntKind.u8.wrap (j : Int) = (j : Int) := by rw [IntKind.wrap_u8]; omega
    have e3 : Hid (bits .xor .u8 x (j : Int) = bkf x j) := rfl
    replace hB2 := hide hB2
    dsimp only at c0 fz
    generalize (fil (bkf x) j ZB).getD j 0 = z at c0
    generalize hy : bkf x j = y at *
    replace hy := hide hy
    have e4 : bits .xor .u8 x (j : Int) = y := unhide e3
    go_wp2_with fail
    go_roundw
    case rel => exact ⟨j + 1, by omega, by go_num, hB2⟩
    case measure => simp [intOf]; omega
  have jI : ¬ (j : Int) < 64 := by omega
  have e : j = 64 := by omega
  rw [e] at hB
  have e2 : fil (bkf x) 64 ZB = blkL x := fil_all (bkf x) ZB
  rw [e2] at hB
  clear e2 e
  go_upto_region 7 with fail
  replace hB := unhide hB
  refine wp_region_lit ?_
  refine list_val (.agg (kc (blkL x))) (by kernel_rfl) (exec_arr _ 39 (.tmp 3) rfl (w.heap.size + 1) (by kernel_rfl) (kc (blkL x)) 39 _ (hB.get 1 (x := ⟨w.heap.size + 1, kc (blkL x), 39⟩) rfl) Try.underlying39 rfl (by rw [Try.infoB, kc_size, (blkL_bb x).1])) ?_
  simp only [Act.put, List.setIfInBounds_toArray, List.set_cons_zero, List.set_cons_succ, List.getElem_toArray, List.getElem_cons_zero, List.getElem_cons_succ]
  refine list_store 39 (.tmp 2) (.tmp 15) (w.heap.size) (kc (blkL x)) 39 (kc ZB) (by kernel_rfl) rfl (by kernel_rfl) (by kernel_rfl) (hB.get 0 (x := ⟨w.heap.size, kc ZB, 39⟩) rfl) (by rw [Try.infoB, kc_size, (blkL_bb x).1]) ((show (kc ZB).size = 64 from rfl).trans ((kc_size _).trans (blkL_bb x).1).symm) (kc_one _) ?_
  replace hB := hB.set 0 (x := ⟨w.heap.size, kc ZB, 39⟩) rfl (kc (blkL x))
  simp only [List.set_cons_zero, List.set_cons_succ] at hB
  generalize World.setRow _ _ _ = u2 at *
  replace hB : Bl w [⟨w.heap.size, kc (blkL x), 39⟩, ⟨w.heap.size + 1, kc (blkL x), 39⟩] u2 := hB
  simp only [Act.put, List.setIfInBounds_toArray, List.set_cons_zero, List.set_cons_succ, List.getElem_toArray, List.getElem_cons_zero, List.getElem_cons_succ]
  refine wpList_nil ?_
  replace hB := hide hB
  go_wp2_with fail
  replace hB := unhide hB
  exact bodyPost_ret (v := .agg (kc (blkL x))) (results_cell_row Try.results30 _ _ (w.heap.size) 39 (kc (blkL x)) (0, 0) _ rfl (hB.get 0 (x := ⟨w.heap.size, kc (blkL x), 39⟩) rfl) Try.underlying39 rfl (by rw [Try.infoB, kc_size, (blkL_bb x).1])) rfl ⟨rfl, hB.gr⟩
theorem Try.infoO : (Try.prog.info? 37).map (·.size) = some 4 := by kernel_rfl
set_option maxHeartbeats 4000000 in
theorem kind_ok (o : Opl) (ho : o.Ok) (ka : Option Addr) (kn kp : Nat) (w : World) : Calls Try.prog 29 #[.agg (opv o ka kn kp)] w (fun r w' => r = .returned (.int .i64 (o.k : Int)) ∧ Gr w w') := by
  obtain ⟨T, hT⟩ : ∃ T : Ending → World → Prop, T = fun r w' => r = .returned (.int .i64 (o.k : Int)) ∧ Gr w w' := ⟨_, rfl⟩
  rw [← hT]
  replace hT := hide hT
  obtain ⟨SD, hSD⟩ : ∃ X, X = opv o ka kn kp := ⟨_, rfl⟩
  rw [← hSD]
  replace hSD := hide hSD
  obtain ⟨q, hq⟩ : ∃ q, q = o.kind % 18446744073709551616 := ⟨_, rfl⟩
  have a1 : IntKind.u64.wrap o.kind = q := by rw [IntKind.wrap_u64, hq]
  have hk : (o.k : Int) = q % 5 := by unfold Opl.k; rw [← hq]; omega
  have a2 : Int.tmod q 5 = (o.k : Int) := by rw [Int.tmod_eq_emod_of_nonneg (by omega)]; omega
  have a3 : IntKind.i64.wrap (o.k : Int) = (o.k : Int) := by rw [IntKind.wrap_i64]; omega
  have a4 : IntKind.u64.wrap (o.k : Int) = (o.k : Int) := by rw [IntKind.wrap_u64]; omega
  obtain ⟨kk, hkk⟩ : ∃ kk : Nat, kk = o.k := ⟨_, rfl⟩
  rw [← hkk] at a2 a3 a4 hT hk
  replace hq := hide hq; replace hkk := hide hkk; replace hk := hide hk
  go_enter Try.func29, Try.ntmps29
  go_upto_region 1 with fail
  have hB := ((Bl.nil w).new SD 37)
  simp only [size_alloc, List.nil_append, List.cons_append] at hB
  generalize World.alloc _ _ = u at *
  rw [unhide hSD] at hB
  replace hB : Bl w [⟨w.heap.size, opv o ka kn kp, 37⟩] u := hB
  refine wp_region_lit ?_
  refine list_val (.pointer (some ⟨w.heap.size, 0, none⟩)) (by kernel_rfl) (by kernel_rfl) ?_
  simp only [Act.put, List.setIfInBounds_toArray, List.set_cons_zero, List.set_cons_succ, List.getElem_toArray, List.getElem_cons_zero, List.getElem_cons_succ]
  refine list_val (.int .i64 o.kind) (by kernel_rfl) (exec_i64 _ (.tmp 3) rfl (w.heap.size) 0 (by kernel_rfl) o.kind (cell_of (hB.get 0 (x := ⟨w.heap.size, opv o ka kn kp, 37⟩) rfl) (i := 0) rfl)) ?_
  simp only [Act.put, List.setIfInBounds_toArray, List.set_cons_zero, List.set_cons_succ, List.getElem_toArray, List.getElem_cons_zero, List.getElem_cons_succ]
  refine list_val (.int .u64 q) (by kernel_rfl) (by go_simp) ?_
  simp only [Act.put, List.setIfInBounds_toArray, List.set_cons_zero, List.set_cons_succ, List.getElem_toArray, List.getElem_cons_zero, List.getElem_cons_succ]
  refine list_val (.int .u64 (kk : Int)) (by kernel_rfl) (by go_simp) ?_
  simp only [Act.put, List.setIfInBounds_toArray, List.set_cons_zero, List.set_cons_succ, List.getElem_toArray, List.getElem_cons_zero, List.getElem_cons_succ]
  refine list_val (.int .i64 (kk : Int)) (by kernel_rfl) (by go_simp) ?_
  simp only [Act.put, List.setIfInBounds_toArray, List.set_cons_zero, List.set_cons_succ, List.getElem_toArray, List.getElem_cons_zero, List.getElem_cons_succ]
  (refine wpList_step fun K hK => ?_; replace hK := hide hK; go_simp; refine unhide hK _ _ ?_; clear hK K)
  refine wpList_nil ?_
  have hP : Hid (Gr w u) := hB.gr
  clear hB
  go_wp2_with fail
  rw [unhide hT]
  exact ⟨rfl, unhide hP⟩
end Go.Proofs.Ythgchjdjacbcgaa
