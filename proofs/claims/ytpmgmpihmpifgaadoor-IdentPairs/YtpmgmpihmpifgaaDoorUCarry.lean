/-
  The reference's carry.
-/
import Derived.Test.YtpmgmpihmpifgaaDoorXK1
import Derived.Test.YtpmgmpihmpifgaaDoorURefNum
import Derived.OwnWalk
namespace Go.Proofs.YtpmgmpihmpifgaaDoor.Cv
open Go.RowKit
set_option maxRecDepth 100000
set_option linter.unusedSimpArgs false

/-- where the number and the result lie -/
def CB (w : World) (m : List Int) (v : World) : Prop := Bl w [⟨w.heap.size, nc m, 80⟩, ⟨w.heap.size + 1, nc Zl, 80⟩] v
theorem CB.blk {w v : World} {m : List Int} (h : CB w m v) : v.heap[w.heap.size]? = some (.cells (nc m) 80 (0, 0)) := Bl.get h 0 (x := ⟨w.heap.size, nc m, 80⟩) rfl
theorem CB.res {w v : World} {m : List Int} (h : CB w m v) : v.heap[w.heap.size + 1]? = some (.cells (nc Zl) 80 (0, 0)) := Bl.get h 1 (x := ⟨w.heap.size + 1, nc Zl, 80⟩) rfl
theorem CB.set {w v : World} {m : List Int} (h : CB w m v) (i : Nat) (x : Int) : CB w (m.set i x) (v.setCell ⟨w.heap.size, i, none⟩ (.int .i64 x)) := by
  have := Bl.cell h 0 (x := ⟨w.heap.size, nc m, 80⟩) rfl i (.int .i64 x)
  unfold CB
  rw [← nc_set]
  exact this

set_option maxHeartbeats 2000000 in
theorem carry_ok (l : List Int) (hl : l.length = 16) (hb : ∀ j, j < 16 → -36028797018963968 ≤ l.getD j 0 ∧ l.getD j 0 ≤ 36028797018963968) (w : World) :
    Calls Tryd.prog 72 #[.agg (nc l)] w (RetN (sv l) w) := by
  have hN : Hid (NB 4 1 l (sv l)) := hide (NB.start hl hb)
  have hn : (nc l).size = 16 := by rw [nc_size]; exact hl
  obtain ⟨V, hV⟩ : ∃ V, V = sv l := ⟨_, rfl⟩
  rw [← hV] at hN ⊢
  clear hV hb
  go_enter Tryd.func72, Tryd.ntmps72
  go_wp2_with fail
  have hB := ((Bl.nil w).new (nc l) 80).new #[.int .i64 0, .int .i64 0, .int .i64 0, .int .i64 0, .int .i64 0, .int .i64 0, .int .i64 0, .int .i64 0, .int .i64 0, .int .i64 0, .int .i64 0, .int .i64 0, .int .i64 0, .int .i64 0, .int .i64 0, .int .i64 0] 80
  simp only [size_alloc, List.nil_append, List.cons_append] at hB
  generalize World.alloc _ _ = u at *
  replace hB : Hid (CB w l u) := hide hB
  go_loopg [3] 4 (fun k c wr => ∃ cv : Int, ∃ m : List Int, c = .int .i64 cv ∧ Hid (NB k cv m V) ∧ Hid (CB w m wr))
  case atStart => exact ⟨1, l, rfl, hN, hB⟩
  case round =>
  clear hN hB hn hl
  obtain ⟨cv, m, rfl, hN, hB⟩ := hrel
  by_cases hc : cv = 0
  · subst hc
    have hD := (unhide hN).2.2.2.1 rfl
    have hz := (unhide hN).1
    have he := (unhide hN).2.2.1
    go_upto_region 15 with fail
    replace hB := unhide hB
    refine wp_region_lit ?_
    refine list_val (.agg (nc m)) (by kernel_rfl) (exec_arr _ 80 (.tmp 1) rfl w.heap.size (by kernel_rfl) (nc m) 80 _ hB.blk Tryd.underlying80 rfl (by rw [Tryd.infoNum, nc_size, hz])) ?_
    simp only [nrm]
    refine list_store 80 (.tmp 2) (.tmp 36) (w.heap.size + 1) (nc m) 80 (nc Zl) (by kernel_rfl) rfl (by kernel_rfl) (by kernel_rfl) hB.res (by rw [Tryd.infoNum, nc_size, hz]) (by rw [nc_size, nc_size, hz]; rfl) (nc_one m) ?_
    have hB2 := Bl.set hB 1 (x := ⟨w.heap.size + 1, nc Zl, 80⟩) rfl (nc m)
    simp only [List.set_cons_zero, List.set_cons_succ] at hB2
    generalize World.setRow _ _ _ = u2 at *
    simp only [nrm]
    refine wpList_nil ?_
    go_wp2_with fail
    exact bodyPost_ret (v := .agg (nc m)) (results_cell_row Tryd.results72 _ _ (w.heap.size + 1) 80 (nc m) (0, 0) _ rfl (hB2.get 1 (x := ⟨w.heap.size + 1, nc m, 80⟩) rfl) Tryd.underlying80 rfl (by rw [Tryd.infoNum, nc_size, hz])) rfl ⟨_, rfl, ⟨m, rfl, hz, hD, he⟩, hB2.gr⟩
  · have hI : Hid (NI m 0 0 (sv m)) := hide ((unhide hN).first)
    obtain ⟨U, hU⟩ : ∃ U, U = sv m := ⟨_, rfl⟩
    rw [← hU] at hI
    have hlen := (unhide hN).1
    go_wp2_with fail
    go_loopw [3, 4] (fun c i wr => ∃ k : Nat, ∃ dv : Int, ∃ n : List Int, k ≤ 16 ∧ i = .int .i64 k ∧ c = .int .i64 dv ∧ Hid (NI n k dv U) ∧ Hid (CB w n wr)) (fun _ i _ => 16 - (intOf i).toNat)
    case atStart => exact ⟨0, 0, m, by omega, rfl, rfl, hI, hB⟩
    case round =>
    clear hI hB
    obtain ⟨i, dv, n, hi, rfl, rfl, hI, hB⟩ := hrel
    by_cases hil : i < 16
    · have c1 := nc_cell (unhide hB).blk i (by rw [(unhide hI).1]; exact hil)
      have f1 := froz_of (i := i) (unhide hB).blk
      have b1 := (unhide hI).2.2.2.2 i hil
      have b2 := (unhide hI).2.2.1
      have hI2 := hide ((unhide hI).step hil)
      generalize hy : n.getD i 0 = y at *
      replace hy := hide hy
      have hB2 := hide ((unhide hB).set i ((y + dv) % 65536))
      rcases tdivs (y + dv) with ⟨t0, t1, t2⟩ | ⟨t0, t1, t2⟩
      · rw [t2] at t0
        go_wp2_with fail
        exact ⟨⟨i + 1, _, _, by omega, by go_num, rfl, hI2, hB2⟩, by simp [intOf]; omega⟩
      · go_wp2_with fail
        exact ⟨⟨i + 1, _, _, by omega, by go_num, rfl, hI2, hB2⟩, by simp [intOf]; omega⟩
    · have e : i = 16 := by omega
      subst e
      obtain ⟨n1, n2, n3, n4, n5⟩ := (unhide hN).next hc (by rw [← hU]; exact unhide hI)
      have c1 := nc_cell (unhide hB).blk 0 (by rw [(unhide hI).1]; omega)
      have f1 := froz_of (i := 0) (unhide hB).blk
      replace n3 := hide n3
      generalize n.getD 0 0 = y at *
      have hB2 := hide ((unhide hB).set 0 (y + 38 * dv))
      go_wp2_with fail
      go_roundg (gk - 1)
      case measure => exact n2
      case rel => exact ⟨dv, _, rfl, n3, hB2⟩
end Go.Proofs.YtpmgmpihmpifgaaDoor.Cv
