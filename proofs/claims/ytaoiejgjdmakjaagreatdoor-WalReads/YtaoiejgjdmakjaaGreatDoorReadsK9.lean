/-
  Of layer 12: what the proof leans on.
-/
import Derived.ProofKit
import Derived.OpenShut
import Derived.SizedLaws
import Derived.Deep.Strs
import Derived.Deep.Grids
import Derived.Lib.SmallJoins
import Derived.Test.YtaoiejgjdmakjaaGreatDoorReadsK8
namespace Go.Proofs.YtaoiejgjdmakjaaGreatDoor
open Go.RowKit
set_option maxRecDepth 100000
set_option linter.unusedSimpArgs false
set_option linter.unusedVariables false
def Sto (G : List Nat) (g gd n : Nat) (_ : Sup) (v : World) : Prop := G = [g] ∧ v.heap[g]? = some (.cells (stN n gd) 80 (0, 0))
theorem Sto.lt {G : List Nat} {g gd h : Nat} {s : Sup} {v : World} (k : Sto G g gd h s v) : ∀ i ∈ G, i < v.heap.size := by
  intro i hi
  rw [k.1, List.mem_singleton] at hi
  rw [hi]
  exact lt_of_block k.2
theorem Sto.keep {G : List Nat} {g gd h : Nat} {s : Sup} {v u : World} (k : Sto G g gd h s v) (hs : v.heap.size ≤ u.heap.size) (e : ∀ i ∈ G, u.heap[i]? = v.heap[i]?) : Sto G g gd h s u := ⟨k.1, by rw [e g (by rw [k.1]; exact List.mem_singleton.2 rfl)]; exact k.2⟩
theorem Sto.any {G : List Nat} {g gd h : Nat} {s : Sup} {v : World} (k : Sto G g gd h s v) (t : Sup) : Sto G g gd h t v := k
theorem Sto.gr {G : List Nat} {g gd h : Nat} {s : Sup} {v u : World} (k : Sto G g gd h s v) (e : Gr v u) : Sto G g gd h s u := k.keep e.size (fun i hi => e.block i (k.lt i hi))
theorem Sto.chg {G F F' : List Nat} {g gd h : Nat} {s : Sup} {v u : World} (k : Sto G g gd h s v) (e : Chg F F' v u) (hn : ∀ i ∈ F, i ∉ G) : Sto G g gd h s u := k.keep e.size (fun i hi => e.block i (k.lt i hi) (fun hf => hn i hf hi))
theorem stN_is (n gd : Nat) : ∃ h lg sl, h = (n - 2) / 4 ∧ lg = 2 + 2 * h ∧ sl = n - lg ∧ stN n gd = stv h lg sl gd := ⟨_, _, _, rfl, rfl, rfl, rfl⟩
set_option maxHeartbeats 4000000 in
theorem room_ok (G : List Nat) (g gd n : Nat) (s : Sup) (hn : n ≤ 1000000) (w : World) (hs : Sto G g gd n s w) : Calls Tryz.prog 37 #[P0 g] w (Vl (.int .i64 ((64 * ((n - 2) / 4) : Nat) : Int)) w) := by
  obtain ⟨T, hT⟩ : ∃ T, T = Vl (.int .i64 ((64 * ((n - 2) / 4) : Nat) : Int)) w := ⟨_, rfl⟩
  rw [← hT]
  replace hT := hide hT
  obtain ⟨h, lg, sl, hh, hlg, hsl, hq⟩ := stN_is n gd
  obtain ⟨-, hS⟩ := hs
  rw [hq] at hS
  clear hq
  replace hS := hide hS
  obtain ⟨rm, hrm⟩ : ∃ x, x = 64 * ((n - 2) / 4) := ⟨_, rfl⟩
  have e1 : IntKind.i64.wrap ((h : Int) * 64) = (rm : Int) := by rw [IntKind.wrap_i64]; omega
  have hv : Hid (((64 * ((n - 2) / 4) : Nat) : Int) = (rm : Int)) := by show _ = _; rw [hrm]
  replace hrm := hide hrm; replace hh := hide hh; replace hlg := hide hlg; replace hsl := hide hsl
  go_enter Tryz.func37, Tryz.ntmps37
  go_upto_region 1 with fail
  refine wp_region_lit ?_
  refine list_val (.pointer (some ⟨g, 0, none⟩)) (by kernel_rfl) (by kernel_rfl) ?_
  simp only [nrm]
  refine list_val (.bool false) (by kernel_rfl) (by kernel_rfl) ?_
  simp only [nrm]
  refine wpList_nil ?_
  go_upto_region 3 with fail
  refine wp_region_lit ?_
  refine list_val (.pointer (some ⟨g, 0, none⟩)) (by kernel_rfl) (by kernel_rfl) ?_
  simp only [nrm]
  refine list_val (.pointer (some ⟨g, 0, none⟩)) (by kernel_rfl) (by kernel_rfl) ?_
  simp only [nrm]
  refine list_val (.pointer (some ⟨g, 0, none⟩)) (by kernel_rfl) (by kernel_rfl) ?_
  simp only [nrm]
  refine list_val (.pointer (some ⟨g, 0, none⟩)) (by kernel_rfl) (by kernel_rfl) ?_
  simp only [nrm]
  refine list_val (.int .i64 (h : Int)) (by kernel_rfl) (exec_i64 _ (.tmp 8) rfl g 0 (by kernel_rfl) _ (cell_of (unhide hS) (i := 0) rfl)) ?_
  simp only [nrm]
  refine list_val (.int .i64 (rm : Int)) (by kernel_rfl) (by go_simp) ?_
  simp only [nrm]
  (refine wpList_step fun K hK => ?_; replace hK := hide hK; go_simp; refine unhide hK _ _ ?_; clear hK K)
  refine wpList_nil ?_
  have hZ : Hid (Vl (.int .i64 ((64 * ((n - 2) / 4) : Nat) : Int)) w (.returned (.int .i64 (rm : Int))) w) := ⟨by first | rfl | (rw [unhide hv]), Gr.refl w⟩
  go_wp2_with fail
  rw [unhide hT]
  exact unhide hZ
set_option maxHeartbeats 4000000 in
theorem slots_ok (G : List Nat) (g gd n : Nat) (s : Sup) (hn : n ≤ 1000000) (w : World) (hs : Sto G g gd n s w) : Calls Tryz.prog 9 #[P0 g] w (Vl (.int .i64 ((n - 2 - 2 * ((n - 2) / 4) : Nat) : Int)) w) := by
  obtain ⟨T, hT⟩ : ∃ T, T = Vl (.int .i64 ((n - 2 - 2 * ((n - 2) / 4) : Nat) : Int)) w := ⟨_, rfl⟩
  rw [← hT]
  replace hT := hide hT
  obtain ⟨h, lg, sl, hh, hlg, hsl, hq⟩ := stN_is n gd
  obtain ⟨-, hS⟩ := hs
  rw [hq] at hS
  clear hq
  replace hS := hide hS
  have hv : Hid (((n - 2 - 2 * ((n - 2) / 4) : Nat) : Int) = (sl : Int)) := by show _ = _; omega
  replace hh := hide hh; replace hlg := hide hlg; replace hsl := hide hsl
  go_enter Tryz.func9, Tryz.ntmps9
  go_upto_region 1 with fail
  refine wp_region_lit ?_
  refine list_val (.pointer (some ⟨g, 0, none⟩)) (by kernel_rfl) (by kernel_rfl) ?_
  simp only [nrm]
  refine list_val (.bool false) (by kernel_rfl) (by kernel_rfl) ?_
  simp only [nrm]
  refine wpList_nil ?_
  go_upto_region 3 with fail
  refine wp_region_lit ?_
  refine list_val (.pointer (some ⟨g, 0, none⟩)) (by kernel_rfl) (by kernel_rfl) ?_
  simp only [nrm]
  refine list_val (.pointer (some ⟨g, 0, none⟩)) (by kernel_rfl) (by kernel_rfl) ?_
  simp only [nrm]
  refine list_val (.pointer (some ⟨g, 0, none⟩)) (by kernel_rfl) (by kernel_rfl) ?_
  simp only [nrm]
  refine list_val (.pointer (some ⟨g, 2, none⟩)) (by kernel_rfl) (by kernel_rfl) ?_
  simp only [nrm]
  refine list_val (.int .i64 (sl : Int)) (by kernel_rfl) (exec_i64 _ (.tmp 8) rfl g 2 (by kernel_rfl) _ (cell_of (unhide hS) (i := 2) rfl)) ?_
  simp only [nrm]
  (refine wpList_step fun K hK => ?_; replace hK := hide hK; go_simp; refine unhide hK _ _ ?_; clear hK K)
  refine wpList_nil ?_
  have hZ : Hid (Vl (.int .i64 ((n - 2 - 2 * ((n - 2) / 4) : Nat) : Int)) w (.returned (.int .i64 (sl : Int))) w) := ⟨by first | rfl | (rw [unhide hv]), Gr.refl w⟩
  go_wp2_with fail
  rw [unhide hT]
  exact unhide hZ
set_option maxHeartbeats 4000000 in
theorem esync_ok (F G : List Nat) (g gd m : Nat) (D : Dk) (s : Sup) (hD : D.Ok m) (hm : m ≤ 900000) (w : World) (hL : Lies F gd D w) (hs : Sto G g gd D.safe.length s w) : Calls Tryz.prog 76 #[P0 g] w (Ch F gd D.syncD D.syncE w) := by
  obtain ⟨T, hT⟩ : ∃ T, T = Ch F gd D.syncD D.syncE w := ⟨_, rfl⟩
  rw [← hT]
  replace hT := hide hT
  obtain ⟨h, lg, sl, hh, hlg, hsl, hq⟩ := stN_is D.safe.length gd
  obtain ⟨-, hS⟩ := hs
  rw [hq] at hS
  clear hq
  replace hS := hide hS
  clear hh hlg hsl
  replace hL := hide hL; replace hD := hide hD
  go_enter Tryz.func76, Tryz.ntmps76
  go_upto_region 1 with fail
  refine wp_region_lit ?_
  refine list_val (.pointer (some ⟨g, 0, none⟩)) (by kernel_rfl) (by kernel_rfl) ?_
  simp only [nrm]
  refine list_val (.bool false) (by kernel_rfl) (by kernel_rfl) ?_
  simp only [nrm]
  refine wpList_nil ?_
  go_upto_region 3 with fail
  refine wp_region_lit ?_
  refine list_val (.pointer (some ⟨g, 0, none⟩)) (by kernel_rfl) (by kernel_rfl) ?_
  simp only [nrm]
  refine list_val (.pointer (some ⟨g, 0, none⟩)) (by kernel_rfl) (by kernel_rfl) ?_
  simp only [nrm]
  refine list_val (.pointer (some ⟨g, 3, none⟩)) (by kernel_rfl) (by kernel_rfl) ?_
  simp only [nrm]
  refine list_val (.pointer (some ⟨gd, 0, none⟩)) (by kernel_rfl) (exec_pd _ (.tmp 7) rfl g 3 (by kernel_rfl) (some ⟨gd, 0, none⟩) (cell_of (unhide hS) (i := 3) rfl)) ?_
  simp only [nrm]
  refine list_call 84 #[P0 gd] (by kernel_rfl) (by kernel_rfl) ((dsync_ok F gd m D (unhide hD) (by omega) w (unhide hL)).mono ?_)
  rintro r u ⟨F', rfl, h1, h2⟩
  have hZ : Hid (Ch F gd D.syncD D.syncE w (.returned (.int .i64 D.syncE)) u) := ⟨F', rfl, h1, h2⟩
  refine ⟨_, rfl, ?_⟩
  clear h1 h2
  generalize D.syncE = e at *
  simp only [nrm]
  (refine wpList_step fun K hK => ?_; replace hK := hide hK; go_simp; refine unhide hK _ _ ?_; clear hK K)
  refine wpList_nil ?_
  go_wp2_with fail
  rw [unhide hT]
  exact unhide hZ
set_option maxHeartbeats 4000000 in
theorem sreach_ok (G : List Nat) (g gd n : Nat) (s : Sup) (hn : n ≤ 1000000) (i : Int) (hi : 0 ≤ i ∧ i < ((n - 2 - 2 * ((n - 2) / 4) : Nat) : Int)) (w : World) (hs : Sto G g gd n s w) : Calls Tryz.prog 34 #[P0 g, .int .i64 i] w (Vl (.int .i64 0) w) := by
  obtain ⟨T, hT⟩ : ∃ T, T = Vl (.int .i64 0) w := ⟨_, rfl⟩
  rw [← hT]
  replace hT := hide hT
  obtain ⟨h, lg, sl, hh, hlg, hsl, hq⟩ := stN_is n gd
  obtain ⟨-, hS⟩ := hs
  rw [hq] at hS
  clear hq
  replace hS := hide hS
  have hi2 : 0 ≤ i ∧ i < (sl : Int) := by omega
  clear hh hlg hsl hi
  go_enter Tryz.func34, Tryz.ntmps34
  go_upto_region 1 with fail
  refine wp_region_lit ?_
  refine list_val (.pointer (some ⟨g, 0, none⟩)) (by kernel_rfl) (by kernel_rfl) ?_
  simp only [nrm]
  refine list_val (.bool false) (by kernel_rfl) (by kernel_rfl) ?_
  simp only [nrm]
  refine wpList_nil ?_
  obtain ⟨i0, i1⟩ := hi2
  have i2 : ¬ i < 0 := by omega
  have i3 : ¬ (sl : Int) ≤ i := by omega
  clear i0 i1
  go_upto_region 3 with fail
  refine wp_region_lit ?_
  refine list_val (.int .i64 i) (by kernel_rfl) (by kernel_rfl) ?_
  simp only [nrm]
  refine list_val (.bool false) (by kernel_rfl) (by go_simp) ?_
  simp only [nrm]
  refine list_val (.bool false) (by kernel_rfl) (by kernel_rfl) ?_
  simp only [nrm]
  refine list_val (.int .i64 i) (by kernel_rfl) (by kernel_rfl) ?_
  simp only [nrm]
  refine list_val (.pointer (some ⟨g, 0, none⟩)) (by kernel_rfl) (by kernel_rfl) ?_
  simp only [nrm]
  refine list_val (.pointer (some ⟨g, 0, none⟩)) (by kernel_rfl) (by kernel_rfl) ?_
  simp only [nrm]
  refine list_val (.pointer (some ⟨g, 0, none⟩)) (by kernel_rfl) (by kernel_rfl) ?_
  simp only [nrm]
  refine list_val (.pointer (some ⟨g, 2, none⟩)) (by kernel_rfl) (by kernel_rfl) ?_
  simp only [nrm]
  refine list_val (.int .i64 (sl : Int)) (by kernel_rfl) (exec_i64 _ (.tmp 14) rfl g 2 (by kernel_rfl) _ (cell_of (unhide hS) (i := 2) rfl)) ?_
  simp only [nrm]
  refine list_val (.bool false) (by kernel_rfl) (by go_simp) ?_
  simp only [nrm]
  refine list_val (.bool false) (by kernel_rfl) (by kernel_rfl) ?_
  simp only [nrm]
  refine wpList_nil ?_
  have hZ : Hid (Vl (.int .i64 0) w (.returned (.int .i64 0)) w) := ⟨rfl, Gr.refl w⟩
  go_wp2_with fail
  rw [unhide hT]
  exact unhide hZ
set_option maxHeartbeats 4000000 in
theorem eslot_ok (F G : List Nat) (g gd m : Nat) (D : Dk) (s : Sup) (hD : D.Ok m) (hm : m ≤ 900000) (i : Int) (hi : 0 ≤ i ∧ i < ((D.safe.length - 2 - 2 * ((D.safe.length - 2) / 4) : Nat) : Int)) (w : World) (hL : Lies F gd D w) (hs : Sto G g gd D.safe.length s w) : Calls Tryz.prog 31 #[P0 g, .int .i64 i] w (Rrd (D.readB (((2 + 2 * ((D.safe.length - 2) / 4) : Nat) : Int) + i)) (D.readE (((2 + 2 * ((D.safe.length - 2) / 4) : Nat) : Int) + i)) w) := by
  obtain ⟨T, hT⟩ : ∃ T, T = Rrd (D.readB (((2 + 2 * ((D.safe.length - 2) / 4) : Nat) : Int) + i)) (D.readE (((2 + 2 * ((D.safe.length - 2) / 4) : Nat) : Int) + i)) w := ⟨_, rfl⟩
  rw [← hT]
  replace hT := hide hT
  have hst := hide hs
  obtain ⟨h, lg, sl, hh, hlg, hsl, hq⟩ := stN_is D.safe.length gd
  obtain ⟨-, hS⟩ := hs
  rw [hq] at hS
  clear hq
  replace hS := hide hS
  have h512 := hD.hi1
  obtain ⟨k, hk⟩ : ∃ k : Int, k = (lg : Int) + i := ⟨_, rfl⟩
  have e1 : IntKind.i64.wrap ((lg : Int) + i) = k := by rw [IntKind.wrap_i64]; omega
  have hkk : ((2 + 2 * ((D.safe.length - 2) / 4) : Nat) : Int) + i = k := by rw [hk, hlg, hh]
  rw [hkk] at hT
  have hbb := Dk.readB_bb hD k
  clear hkk hk hlg hh hsl
  replace hi := hide hi; replace hD := hide hD; replace hL := hide hL
  go_enter Tryz.func31, Tryz.ntmps31
  go_upto_region 1 with fail
  have hB := ((Bl.nil w).new #[.int .u8 0, .int .u8 0, .int .u8 0, .int .u8 0, .int .u8 0, .int .u8 0, .int .u8 0, .int .u8 0, .int .u8 0, .int .u8 0, .int .u8 0, .int .u8 0, .int .u8 0, .int .u8 0, .int .u8 0, .int .u8 0, .int .u8 0, .int .u8 0, .int .u8 0, .int .u8 0, .int .u8 0, .int .u8 0, .int .u8 0, .int .u8 0, .int .u8 0, .int .u8 0, .int .u8 0, .int .u8 0, .int .u8 0, .int .u8 0, .int .u8 0, .int .u8 0, .int .u8 0, .int .u8 0, .int .u8 0, .int .u8 0, .int .u8 0, .int .u8 0, .int .u8 0, .int .u8 0, .int .u8 0, .int .u8 0, .int .u8 0, .int .u8 0, .int .u8 0, .int .u8 0, .int .u8 0, .int .u8 0, .int .u8 0, .int .u8 0, .int .u8 0, .int .u8 0, .int .u8 0, .int .u8 0, .int .u8 0, .int .u8 0, .int .u8 0, .int .u8 0, .int .u8 0, .int .u8 0, .int .u8 0, .int .u8 0, .int .u8 0, .int .u8 0] 36)
  simp only [size_alloc, List.nil_append, List.cons_append] at hB
  generalize World.alloc _ _ = u at *
  replace hB : Bl w [⟨w.heap.size, kc ZB, 36⟩] u := hB
  refine wp_region_lit ?_
  refine list_val (.pointer (some ⟨g, 0, none⟩)) (by kernel_rfl) (by kernel_rfl) ?_
  simp only [nrm]
  refine list_val (.int .i64 i) (by kernel_rfl) (by kernel_rfl) ?_
  simp only [nrm]
  refine list_call 34 #[.pointer (some ⟨g, 0, none⟩), .int .i64 i] (by kernel_rfl) (by kernel_rfl) ((sreach_ok G g gd D.safe.length s (by omega) i (unhide hi) _ ((unhide hst).gr hB.gr)).mono ?_)
  rintro r u1 ⟨rfl, hg⟩
  refine ⟨_, rfl, ?_⟩
  replace hB := hB.more hg
  clear hg
  simp only [nrm]
  (refine wpList_step fun K hK => ?_; replace hK := hide hK; go_simp; refine unhide hK _ _ ?_; clear hK K)
  refine wpList_nil ?_
  replace hB := hide hB
  go_upto_region 4 with fail
  replace hB := unhide hB
  refine any_start (S := fun (v : World) => v.heap[g]? = some (.cells (stv h lg sl gd) 80 (0, 0))) (by kernel_rfl) ?_
  replace hB := hB.drew
  generalize World.drew _ = x0 at *
  have hS1 : (fun (v : World) => v.heap[g]? = some (.cells (stv h lg sl gd) 80 (0, 0))) x0 := hB.gr.blk (unhide hS)
  simp only [List.size_toArray, List.length_cons, List.length_nil, Array.replicate, List.replicate]
  refine any_take (i := 0) (v := (.pointer (some ⟨g, 0, none⟩))) #[false, false, false, false, false, false, false, false, false, false, false, false, false, false, false, false] rfl (by kernel_rfl) (by kernel_rfl) (by kernel_rfl) (by kernel_rfl) (fun _ _ _ h => h) (.inl ⟨by kernel_rfl, fun x_ hu => by kernel_rfl⟩) hS1 ?_
  simp only [nrm]
  refine any_take (i := 1) (v := (.pointer (some ⟨g, 0, none⟩))) #[true, false, false, false, false, false, false, false, false, false, false, false, false, false, false, false] rfl (by kernel_rfl) (by kernel_rfl) (by kernel_rfl) (by kernel_rfl) (fun _ _ _ h => h) (.inl ⟨by kernel_rfl, fun x_ hu => by kernel_rfl⟩) hS1 ?_
  simp only [nrm]
  refine any_take (i := 2) (v := (.pointer (some ⟨g, 3, none⟩))) #[true, true, false, false, false, false, false, false, false, false, false, false, false, false, false, false] rfl (by kernel_rfl) (by kernel_rfl) (by kernel_rfl) (by kernel_rfl) (fun _ _ _ h => h) (.inl ⟨by kernel_rfl, fun x_ hu => by kernel_rfl⟩) hS1 ?_
  simp only [nrm]
  refine any_take (i := 3) (v := (.pointer (some ⟨gd, 0, none⟩))) #[true, true, true, false, false, false, false, false, false, false, false, false, false, false, false, false] rfl (by kernel_rfl) (by kernel_rfl) (by kernel_rfl) (by kernel_rfl) (fun _ _ _ h => h) (.inl ⟨by kernel_rfl, fun x_ hu => exec_pd _ (.tmp 16) rfl g 3 (by kernel_rfl) (some ⟨gd, 0, none⟩) (cell_of hu (i := 3) rfl)⟩) hS1 ?_
  simp only [nrm]
  refine any_take (i := 4) (v := (.pointer (some ⟨g, 0, none⟩))) #[true, true, true, true, false, false, false, false, false, false, false, false, false, false, false, false] rfl (by kernel_rfl) (by kernel_rfl) (by kernel_rfl) (by kernel_rfl) (fun _ _ _ h => h) (.inl ⟨by kernel_rfl, fun x_ hu => by kernel_rfl⟩) hS1 ?_
  simp only [nrm]
  refine any_take (i := 5) (v := (.pointer (some ⟨g, 0, none⟩))) #[true, true, true, true, true, false, false, false, false, false, false, false, false, false, false, false] rfl (by kernel_rfl) (by kernel_rfl) (by kernel_rfl) (by kernel_rfl) (fun _ _ _ h => h) (.inl ⟨by kernel_rfl, fun x_ hu => by kernel_rfl⟩) hS1 ?_
  simp only [nrm]
  refine any_take (i := 6) (v := (.pointer (some ⟨g, 0, none⟩))) #[true, true, true, true, true, true, false, false, false, false, false, false, false, false, false, false] rfl (by kernel_rfl) (by kernel_rfl) (by kernel_rfl) (by kernel_rfl) (fun _ _ _ h => h) (.inl ⟨by kernel_rfl, fun x_ hu => by kernel_rfl⟩) hS1 ?_
  simp only [nrm]
  refine any_take (i := 7) (v := (.pointer (some ⟨g, 1, none⟩))) #[true, true, true, true, true, true, true, false, false, false, false, false, false, false, false, false] rfl (by kernel_rfl) (by kernel_rfl) (by kernel_rfl) (by kernel_rfl) (fun _ _ _ h => h) (.inl ⟨by kernel_rfl, fun x_ hu => by kernel_rfl⟩) hS1 ?_
  simp only [nrm]
  refine any_take (i := 8) (v := (.int .i64 (lg : Int))) #[true, true, true, true, true, true, true, true, false, false, false, false, false, false, false, false] rfl (by kernel_rfl) (by kernel_rfl) (by kernel_rfl) (by kernel_rfl) (fun _ _ _ h => h) (.inl ⟨by kernel_rfl, fun x_ hu => exec_i64 _ (.tmp 21) rfl g 1 (by kernel_rfl) _ (cell_of hu (i := 1) rfl)⟩) hS1 ?_
  simp only [nrm]
  refine any_take (i := 9) (v := (.int .i64 i)) #[true, true, true, true, true, true, true, true, true, false, false, false, false, false, false, false] rfl (by kernel_rfl) (by kernel_rfl) (by kernel_rfl) (by kernel_rfl) (fun _ _ _ h => h) (.inl ⟨by kernel_rfl, fun x_ hu => by kernel_rfl⟩) hS1 ?_
  simp only [nrm]
  refine any_take (i := 10) (v := (.int .i64 k)) #[true, true, true, true, true, true, true, true, true, true, false, false, false, false, false, false] rfl (by kernel_rfl) (by kernel_rfl) (by kernel_rfl) (by kernel_rfl) (fun _ _ _ h => h) (.inl ⟨by kernel_rfl, fun x_ hu => by go_simp⟩) hS1 ?_
  simp only [nrm]
  refine any_one (i := 11) (by kernel_rfl) rfl (fun K_ hQ => ?_)
  refine step_callw (by kernel_rfl) 63 #[P0 gd, .int .i64 k] (by kernel_rfl) ((dread_ok F gd m D (unhide hD) (by omega) k x0 ((unhide hL).gr hB.gr)).mono ?_)
  rintro r u2 ⟨rfl, hg⟩
  refine ⟨_, rfl, ?_⟩
  obtain ⟨rb, hrb⟩ : ∃ x, x = D.readB k := ⟨_, rfl⟩
  obtain ⟨re, hre⟩ : ∃ x, x = D.readE k := ⟨_, rfl⟩
  have hrl := hbb.1
  rw [← hrb] at hrl
  rw [← hrb, ← hre]
  replace hrb := hide hrb; replace hre := hide hre
  replace hB := hB.more hg
  replace hS1 : (fun (v : World) => v.heap[g]? = some (.cells (stv h lg sl gd) 80 (0, 0))) u2 := hg.blk hS1
  clear hg
  refine hQ.out _ _ hS1 (fun _ => ?_)
  clear hQ K_
  simp only [nrm]
  refine any_take (i := 12) (v := (.agg (kc rb))) #[true, true, true, true, true, true, true, true, true, true, true, true, false, false, false, false] rfl (by kernel_rfl) (by kernel_rfl) (by kernel_rfl) (by kernel_rfl) (fun _ _ _ h => h) (.inl ⟨by kernel_rfl, fun x_ hu => by kernel_rfl⟩) hS1 ?_
  simp only [nrm]
  refine any_take (i := 13) (v := (.int .i64 re)) #[true, true, true, true, true, true, true, true, true, true, true, true, true, false, false, false] rfl (by kernel_rfl) (by kernel_rfl) (by kernel_rfl) (by kernel_rfl) (fun _ _ _ h => h) (.inl ⟨by kernel_rfl, fun x_ hu => by kernel_rfl⟩) hS1 ?_
  simp only [nrm]
  refine any_one (i := 14) (by kernel_rfl) rfl (fun K_ hQ => ?_)
  rw [if_pos (by kernel_rfl)]
  refine wp_store_row 36 (.tmp 4) (.tmp 26) rfl (w.heap.size) (kc rb) (by kernel_rfl) (by kernel_rfl) 36 (kc ZB) (hB.get 0 (x := ⟨w.heap.size, kc ZB, 36⟩) rfl) (by rw [Tryz.infoB, kc_size, hrl]) ((show (kc ZB).size = 64 from rfl).trans ((kc_size _).trans hrl).symm) (kc_one _) ?_
  have hB2 := hB.set 0 (x := ⟨w.heap.size, kc ZB, 36⟩) rfl (kc rb)
  simp only [List.set_cons_zero, List.set_cons_succ] at hB2
  have hS2 : (fun (v : World) => v.heap[g]? = some (.cells (stv h lg sl gd) 80 (0, 0))) (u2.setRow (w.heap.size) (kc rb)) := (setRow_other _ _ _ _ (by have h1 := lt_of_block (unhide hst).2; omega)).trans hS1
  generalize World.setRow _ _ _ = u3 at *
  clear hB hS1
  have hB : Bl w [⟨w.heap.size, kc rb, 36⟩] u3 := hB2
  have hS1 := hS2
  clear hB2 hS2
  refine hQ.out _ _ hS1 (fun _ => ?_)
  clear hQ K_
  simp only [nrm]
  refine any_one (i := 15) (by kernel_rfl) rfl (fun K_ hQ => ?_)
  replace hQ := hide hQ
  go_simp
  refine (unhide hQ).out _ _ hS1 (fun _ => ?_)
  clear hQ K_
  refine any_done (by kernel_rfl) ?_
  clear hS1
  replace hB := hide hB
  go_wp2_with fail
  replace hB := unhide hB
  rw [unhide hT]
  exact bodyPost_ret (v := .tuple #[.agg (kc rb), .int .i64 re]) (results_cell_tmp Tryz.results31 _ _ (w.heap.size) 36 (kc rb) (0, 0) _ rfl (.int .i64 re) rfl (hB.get 0 (x := ⟨w.heap.size, kc rb, 36⟩) rfl) Tryz.underlying36 rfl ((by rw [Tryz.infoB, kc_size, hrl]))) rfl (⟨by rw [unhide hrb, unhide hre], hB.gr⟩)
set_option maxHeartbeats 4000000 in
theorem eput_ok (F G : List Nat) (g gd m : Nat) (D : Dk) (s : Sup) (hD : D.Ok m) (hm : m ≤ 900000) (i : Int) (hi : 0 ≤ i ∧ i < ((D.safe.length - 2 - 2 * ((D.safe.length - 2) / 4) : Nat) : Int)) (b : List Int) (hb : BB b) (hap : ∀ i ∈ F, i ∉ G) (w : World) (hL : Lies F gd D w) (hs : Sto G g gd D.safe.length s w) : Calls Tryz.prog 10 #[P0 g, .int .i64 i, .agg (kc b)] w (Ch F gd (D.writeD (((2 + 2 * ((D.safe.length - 2) / 4) : Nat) : Int) + i) b) (D.writeE (((2 + 2 * ((D.safe.length - 2) / 4) : Nat) : Int) + i)) w) := by
  obtain ⟨T, hT⟩ : ∃ T, T = Ch F gd (D.writeD (((2 + 2 * ((D.safe.length - 2) / 4) : Nat) : Int) + i) b) (D.writeE (((2 + 2 * ((D.safe.length - 2) / 4) : Nat) : Int) + i)) w := ⟨_, rfl⟩
  rw [← hT]
  replace hT := hide hT
  have hst := hide hs
  obtain ⟨h, lg, sl, hh, hlg, hsl, hq⟩ := stN_is D.safe.length gd
  obtain ⟨-, hS⟩ := hs
  rw [hq] at hS
  clear hq
  replace hS := hide hS
  have h512 := hD.hi1
  obtain ⟨k, hk⟩ : ∃ k : Int, k = (lg : Int) + i := ⟨_, rfl⟩
  have e1 : IntKind.i64.wrap ((lg : Int) + i) = k := by rw [IntKind.wrap_i64]; omega
  have hkk : ((2 + 2 * ((D.safe.length - 2) / 4) : Nat) : Int) + i = k := by rw [hk, hlg, hh]
  rw [hkk] at hT
  clear hkk hk hlg hh hsl
  replace hi := hide hi; replace hD := hide hD; replace hL := hide hL
  have hbl := hb.1
  obtain ⟨SK, hSK⟩ : ∃ X, X = kc b := ⟨_, rfl⟩
  rw [← hSK]
  replace hSK := hide hSK; replace hb := hide hb
  go_enter Tryz.func10, Tryz.ntmps10
  go_upto_region 1 with fail
  have hB := ((Bl.nil w).new SK 36)
  simp only [size_alloc, List.nil_append, List.cons_append] at hB
  generalize World.alloc _ _ = u at *
  rw [unhide hSK] at hB
  replace hB : Bl w [⟨w.heap.size, kc b, 36⟩] u := hB
  refine wp_region_lit ?_
  refine list_val (.pointer (some ⟨g, 0, none⟩)) (by kernel_rfl) (by kernel_rfl) ?_
  simp only [nrm]
  refine list_val (.int .i64 i) (by kernel_rfl) (by kernel_rfl) ?_
  simp only [nrm]
  refine list_call 34 #[.pointer (some ⟨g, 0, none⟩), .int .i64 i] (by kernel_rfl) (by kernel_rfl) ((sreach_ok G g gd D.safe.length s (by omega) i (unhide hi) _ ((unhide hst).gr hB.gr)).mono ?_)
  rintro r u1 ⟨rfl, hg⟩
  refine ⟨_, rfl, ?_⟩
  replace hB := hB.more hg
  clear hg
  simp only [nrm]
  (refine wpList_step fun K hK => ?_; replace hK := hide hK; go_simp; refine unhide hK _ _ ?_; clear hK K)
  refine wpList_nil ?_
  replace hB := hide hB
  go_upto_region 4 with fail
  replace hB := unhide hB
  refine any_start (S := fun (v : World) => v.heap[g]? = some (.cells (stv h lg sl gd) 80 (0, 0)) ∧ v.heap[w.heap.size]? = some (.cells (kc b) 36 (0, 0))) (by kernel_rfl) ?_
  replace hB := hB.drew
  generalize World.drew _ = x0 at *
  have hS1 : (fun (v : World) => v.heap[g]? = some (.cells (stv h lg sl gd) 80 (0, 0)) ∧ v.heap[w.heap.size]? = some (.cells (kc b) 36 (0, 0))) x0 := ⟨hB.gr.blk (unhide hS), (hB.get 0 (x := ⟨w.heap.size, kc b, 36⟩) rfl)⟩
  simp only [List.size_toArray, List.length_cons, List.length_nil, Array.replicate, List.replicate]
  refine any_take (i := 0) (v := (.pointer (some ⟨g, 0, none⟩))) #[false, false, false, false, false, false, false, false, false, false, false, false, false, false] rfl (by kernel_rfl) (by kernel_rfl) (by kernel_rfl) (by kernel_rfl) (fun _ _ _ h => h) (.inl ⟨by kernel_rfl, fun x_ hu => by kernel_rfl⟩) hS1 ?_
  simp only [nrm]
  refine any_take (i := 1) (v := (.pointer (some ⟨g, 0, none⟩))) #[true, false, false, false, false, false, false, false, false, false, false, false, false, false] rfl (by kernel_rfl) (by kernel_rfl) (by kernel_rfl) (by kernel_rfl) (fun _ _ _ h => h) (.inl ⟨by kernel_rfl, fun x_ hu => by kernel_rfl⟩) hS1 ?_
  simp only [nrm]
  refine any_take (i := 2) (v := (.pointer (some ⟨g, 3, none⟩))) #[true, true, false, false, false, false, false, false, false, false, false, false, false, false] rfl (by kernel_rfl) (by kernel_rfl) (by kernel_rfl) (by kernel_rfl) (fun _ _ _ h => h) (.inl ⟨by kernel_rfl, fun x_ hu => by kernel_rfl⟩) hS1 ?_
  simp only [nrm]
  refine any_take (i := 3) (v := (.pointer (some ⟨gd, 0, none⟩))) #[true, true, true, false, false, false, false, false, false, false, false, false, false, false] rfl (by kernel_rfl) (by kernel_rfl) (by kernel_rfl) (by kernel_rfl) (fun _ _ _ h => h) (.inl ⟨by kernel_rfl, fun x_ hu => exec_pd _ (.tmp 16) rfl g 3 (by kernel_rfl) (some ⟨gd, 0, none⟩) (cell_of hu.1 (i := 3) rfl)⟩) hS1 ?_
  simp only [nrm]
  refine any_take (i := 4) (v := (.pointer (some ⟨g, 0, none⟩))) #[true, true, true, true, false, false, false, false, false, false, false, false, false, false] rfl (by kernel_rfl) (by kernel_rfl) (by kernel_rfl) (by kernel_rfl) (fun _ _ _ h => h) (.inl ⟨by kernel_rfl, fun x_ hu => by kernel_rfl⟩) hS1 ?_
  simp only [nrm]
  refine any_take (i := 5) (v := (.pointer (some ⟨g, 0, none⟩))) #[true, true, true, true, true, false, false, false, false, false, false, false, false, false] rfl (by kernel_rfl) (by kernel_rfl) (by kernel_rfl) (by kernel_rfl) (fun _ _ _ h => h) (.inl ⟨by kernel_rfl, fun x_ hu => by kernel_rfl⟩) hS1 ?_
  simp only [nrm]
  refine any_take (i := 6) (v := (.pointer (some ⟨g, 0, none⟩))) #[true, true, true, true, true, true, false, false, false, false, false, false, false, false] rfl (by kernel_rfl) (by kernel_rfl) (by kernel_rfl) (by kernel_rfl) (fun _ _ _ h => h) (.inl ⟨by kernel_rfl, fun x_ hu => by kernel_rfl⟩) hS1 ?_
  simp only [nrm]
  refine any_take (i := 7) (v := (.pointer (some ⟨g, 1, none⟩))) #[true, true, true, true, true, true, true, false, false, false, false, false, false, false] rfl (by kernel_rfl) (by kernel_rfl) (by kernel_rfl) (by kernel_rfl) (fun _ _ _ h => h) (.inl ⟨by kernel_rfl, fun x_ hu => by kernel_rfl⟩) hS1 ?_
  simp only [nrm]
  refine any_take (i := 8) (v := (.int .i64 (lg : Int))) #[true, true, true, true, true, true, true, true, false, false, false, false, false, false] rfl (by kernel_rfl) (by kernel_rfl) (by kernel_rfl) (by kernel_rfl) (fun _ _ _ h => h) (.inl ⟨by kernel_rfl, fun x_ hu => exec_i64 _ (.tmp 21) rfl g 1 (by kernel_rfl) _ (cell_of hu.1 (i := 1) rfl)⟩) hS1 ?_
  simp only [nrm]
  refine any_take (i := 9) (v := (.int .i64 i)) #[true, true, true, true, true, true, true, true, true, false, false, false, false, false] rfl (by kernel_rfl) (by kernel_rfl) (by kernel_rfl) (by kernel_rfl) (fun _ _ _ h => h) (.inl ⟨by kernel_rfl, fun x_ hu => by kernel_rfl⟩) hS1 ?_
  simp only [nrm]
  refine any_take (i := 10) (v := (.int .i64 k)) #[true, true, true, true, true, true, true, true, true, true, false, false, false, false] rfl (by kernel_rfl) (by kernel_rfl) (by kernel_rfl) (by kernel_rfl) (fun _ _ _ h => h) (.inl ⟨by kernel_rfl, fun x_ hu => by go_simp⟩) hS1 ?_
  simp only [nrm]
  refine any_take (i := 11) (v := (.agg (kc b))) #[true, true, true, true, true, true, true, true, true, true, true, false, false, false] rfl (by kernel_rfl) (by kernel_rfl) (by kernel_rfl) (by kernel_rfl) (fun _ _ _ h => h) (.inl ⟨by kernel_rfl, fun x_ hu => exec_arr _ 36 (.tmp 5) rfl (w.heap.size) (by kernel_rfl) (kc b) 36 _ hu.2 Tryz.underlying36 rfl (by rw [Tryz.infoB, kc_size, hbl])⟩) hS1 ?_
  simp only [nrm]
  refine any_one (i := 12) (by kernel_rfl) rfl (fun K_ hQ => ?_)
  refine step_callw (by kernel_rfl) 35 #[P0 gd, .int .i64 k, .agg (kc b)] (by kernel_rfl) ((dwrite_ok F gd m D (unhide hD) (by omega) k b (unhide hb) x0 ((unhide hL).gr hB.gr)).mono ?_)
  rintro r u2 ⟨F', rfl, h1, h2⟩
  refine ⟨_, rfl, ?_⟩
  have hZ : Hid (Ch F gd (D.writeD k b) (D.writeE k) w (.returned (.int .i64 (D.writeE k))) u2) := ⟨F', rfl, h1, hB.gr.chg h2⟩
  obtain ⟨we, hwe⟩ : ∃ x, x = D.writeE k := ⟨_, rfl⟩
  rw [← hwe] at hZ ⊢
  rw [← hwe] at hT
  clear hwe
  have hgF : g ∉ F := fun e => hap g e (by rw [(unhide hst).1]; exact List.mem_singleton.2 rfl)
  have h0F : w.heap.size ∉ F := fun e => by have := (unhide hL).lt _ e; omega
  replace hS1 : (fun (v : World) => v.heap[g]? = some (.cells (stv h lg sl gd) 80 (0, 0)) ∧ v.heap[w.heap.size]? = some (.cells (kc b) 36 (0, 0))) u2 := ⟨h2.blk hS1.1 hgF, h2.blk hS1.2 h0F⟩
  clear h1 h2 hB
  refine hQ.out _ _ hS1 (fun _ => ?_)
  clear hQ K_
  simp only [nrm]
  refine any_one (i := 13) (by kernel_rfl) rfl (fun K_ hQ => ?_)
  replace hQ := hide hQ
  go_simp
  refine (unhide hQ).out _ _ hS1 (fun _ => ?_)
  clear hQ K_
  refine any_done (by kernel_rfl) ?_
  clear hS1
  go_wp2_with fail
  rw [unhide hT]
  exact unhide hZ
theorem eq_M (k m : List Int) (hk : k.length = 16) (hm : m.length = 16) (w : World) : Sem.run Tryz.prog (Op.equalIn 10000 83 (.agg (kc k)) (.agg (kc m))) w = .ok (decide (k = m)) w := by
  obtain ⟨i0, hi0, _⟩ := info_parts Tryz.info_b
  rw [run_equalIn_array (P := Tryz.prog) w 9999 (kc k) (kc m) Tryz.underlying83 hi0, Tryz.cells_b]
  refine (eqs_b k m (by omega) 9998 _ (by intro i hi; simp at hi; omega) w).trans ?_
  congr 1
  rw [decide_eq_decide]
  constructor
  · intro h
    exact list_ext (by omega) fun i hi => h i (by simp; omega)
  · rintro rfl i _
    rfl
theorem exec_neM {a : Act} {o : Oper} (w : World) (x y : Operand) (ho : o.op = .binOp .neq 83 x y 83) (b d : List Int) (hb : b.length = 16) (hd : d.length = 16) (hx : a.eval x = .agg (kc b)) (hy : a.eval y = .agg (kc d)) (q : Bool) (hq : decide (b = d) = !q) : (execOp a.eval o).run Tryz.prog w = .ok (.value (.bool q)) w := by
  have h := eq_M b d hb hd w
  rw [hq] at h
  unfold execOp
  simp only [ho, hx, hy]
  cases q <;> go_simp
theorem cnt_right {b0 b1 : List Int} (h0 : BB b0) (h1 : BB b1) {s : Sup} (h : cntS b0 b1 = (s, true)) : s.Ok := by
  unfold cntS at h
  split at h
  · have e1 := congrArg Prod.fst h
    have e2 := congrArg Prod.snd h
    dsimp only at e1 e2
    rw [← e1]
    exact (right_eq h1 e2).1
  · have e1 := congrArg Prod.fst h
    have e2 := congrArg Prod.snd h
    dsimp only at e1 e2
    rw [← e1]
    exact (right_eq h0 e2).1
def Snp (L : List Int) (w : World) (r : Ending) (w' : World) : Prop := ∃ v, r = .returned (.tuple #[v, .int .i64 0]) ∧ Ob w.heap.size w' v L ∧ Gr w w'
theorem ly_range {v : World} {g h lg sl gd : Nat} {t : TypeId} (hc : v.heap[g]? = some (.cells (stv h lg sl gd) t (0, 0))) : v.rangeAt g 0 [.int .i64 (h : Int), .int .i64 (lg : Int), .int .i64 (sl : Int)] := fun j x hj => by
  refine cell_of hc ?_
  have hlt := (List.getElem?_eq_some_iff.1 hj).1
  simp only [List.length_cons, List.length_nil] at hlt
  have : j = 0 ∨ j = 1 ∨ j = 2 := by omega
  rcases this with rfl | rfl | rfl <;> exact hj
set_option maxHeartbeats 4000000 in
theorem esnap_ok (F G : List Nat) (g gd m : Nat) (D : Dk) (s : Sup) (L : List Int) (hD : D.Ok m) (hm : m ≤ 900000) (hd : D.dead = false) (hn : 64 ≤ D.safe.length) (w : World) (hL : Lies F gd D w) (hs : Sto G g gd D.safe.length s w) (ho : Os D ((D.safe.length - 2) / 4) s L) (hf : Fst w) : Calls Tryz.prog 11 #[P0 g] w (Snp L w) := by
  obtain ⟨T, hT⟩ : ∃ T, T = Snp L w := ⟨_, rfl⟩
  rw [← hT]
  replace hT := hide hT
  have h512 := hD.hi1
  have c0 := Dk.cur_bb hD 0 (by omega)
  have c1 := Dk.cur_bb hD 1 (by omega)
  have hst := hide hs
  obtain ⟨h, lg, sl, hh, hlg, hsl, hq⟩ := stN_is D.safe.length gd
  obtain ⟨-, hS⟩ := hs
  rw [hq] at hS
  clear hq
  have hcn := ho.cnt
  have hfit := ho.fit
  have hsn := ho.snap
  have hha := ho.hash
  rw [← hh] at hfit hsn
  have hok := cnt_right c0 c1 hcn
  have hpl := hok.p
  have hzz := hok.z
  have hhl := hok.hl
  have hhb : h ≤ 1000 := by omega
  obtain ⟨rm, hrm⟩ : ∃ x, x = 64 * h := ⟨_, rfl⟩
  have hrm2 : rm ≤ 10000 := by omega
  have w1 : IntKind.u64.wrap (s.size : Int) = (s.size : Int) := by rw [IntKind.wrap_u64]; omega
  have w2 : IntKind.u64.wrap (rm : Int) = (rm : Int) := by rw [IntKind.wrap_u64]; omega
  have w3 : IntKind.i64.wrap (s.size : Int) = (s.size : Int) := by rw [IntKind.wrap_i64]; omega
  have hgt : ¬ (rm : Int) < (s.size : Int) := by omega
  obtain ⟨o, hoo⟩ : ∃ x, x = 2 + s.place * h := ⟨_, rfl⟩
  have hoz : o + (s.size + 63) / 64 ≤ D.safe.length := by
    have hp2 : s.place = 0 ∨ s.place = 1 := by omega
    rcases hp2 with e | e <;> rw [e] at hoo <;> simp only [Nat.zero_mul, Nat.one_mul, Nat.add_zero] at hoo <;> omega
  have hrow : (rows D.cur o ((s.size + 63) / 64)).take s.size = L := by rw [← hsn, hoo]; rfl
  have hLb : IsB L := by
    rw [← hrow]
    exact fun x hx => (rows_len _ (fun i hi => Dk.cur_bb hD (o + i) (by omega))).2 x (List.mem_of_mem_take hx)
  have hLl : L.length = s.size := by
    rw [← hrow, List.length_take, (rows_len _ (fun i hi => Dk.cur_bb hD (o + i) (by omega))).1]
    omega
  replace hL := hide hL; replace hD := hide hD; replace hf := hide hf; replace hS := hide hS; replace ho := hide ho
  replace hcn := hide hcn; replace hsn := hide hsn; replace hha := hide hha; replace hok := hide hok
  replace hoo := hide hoo; replace hrow := hide hrow; replace hLb := hide hLb; replace hLl := hide hLl
  replace hh := hide hh; replace hlg := hide hlg; replace hsl := hide hsl; replace c0 := hide c0; replace c1 := hide c1
  replace hrm := hide hrm
  go_enter Tryz.func11, Tryz.ntmps11
  go_upto_region 1 with fail
  refine wp_region_lit ?_
  refine list_val (.pointer (some ⟨g, 0, none⟩)) (by kernel_rfl) (by kernel_rfl) ?_
  simp only [nrm]
  refine list_val (.bool false) (by kernel_rfl) (by kernel_rfl) ?_
  simp only [nrm]
  refine wpList_nil ?_
  have hB := Bl.nil w
  replace hB := hide hB
  go_upto_region 3 with fail
  replace hB := unhide hB
  refine wp_region_lit ?_
  refine list_val (.pointer (some ⟨g, 0, none⟩)) (by kernel_rfl) (by kernel_rfl) ?_
  simp only [nrm]
  refine list_val (.pointer (some ⟨g, 0, none⟩)) (by kernel_rfl) (by kernel_rfl) ?_
  simp only [nrm]
  refine list_val (.pointer (some ⟨g, 3, none⟩)) (by kernel_rfl) (by kernel_rfl) ?_
  simp only [nrm]
  refine list_val (.pointer (some ⟨gd, 0, none⟩)) (by kernel_rfl) (exec_pd _ (.tmp 12) rfl g 3 (by kernel_rfl) (some ⟨gd, 0, none⟩) (cell_of (hB.gr.blk (unhide hS)) (i := 3) rfl)) ?_
  simp only [nrm]
  refine list_call 36 #[P0 gd] (by kernel_rfl) (by kernel_rfl) ((current_ok F gd m D (unhide hD) hm hd (by omega) _ ((unhide hL).gr hB.gr) ((unhide hf).gr hB.gr)).mono ?_)
  rintro r u1 ⟨rfl, hg⟩
  rw [unhide hcn]
  dsimp only
  rw [if_pos rfl, if_pos rfl]
  replace hB := hB.more hg
  clear hg
  refine ⟨_, rfl, ?_⟩
  simp only [nrm]
  refine list_val (.tuple #[.agg (spv s), .int .i64 0]) (by kernel_rfl) (by kernel_rfl) ?_
  simp only [nrm]
  refine list_val (.agg (spv s)) (by kernel_rfl) (by kernel_rfl) ?_
  simp only [nrm]
  refine list_val (.int .i64 0) (by kernel_rfl) (by kernel_rfl) ?_
  simp only [nrm]
  refine list_valw (.pointer (some ⟨u1.heap.size, 0, none⟩)) (u1.alloc (.cells (spv ZSp) 85 (0, 0))) (by kernel_rfl) (by kernel_rfl) ?_
  replace hB := hB.new (spv ZSp) 85
  simp only [List.nil_append, List.cons_append] at hB
  generalize World.alloc _ _ = u2 at *
  generalize u1.heap.size = gn at *
  replace hB : Bl w [⟨gn, spv ZSp, 85⟩] u2 := hB
  simp only [nrm]
  refine list_store 85 (.tmp 4) (.tmp 15) (gn) (spv s) 85 (spv ZSp) (by kernel_rfl) rfl (by kernel_rfl) (by kernel_rfl) (hB.get 0 (x := ⟨gn, spv ZSp, 85⟩) rfl) (by rw [Tryz.infoSp, spv_size (s := s) hhl]) (by rw [spv_size (s := s) hhl, spv_size (s := ZSp) ZSp_hl]) (spv_one _) ?_
  replace hB := hB.set 0 (x := ⟨gn, spv ZSp, 85⟩) rfl (spv s)
  simp only [List.set_cons_zero, List.set_cons_succ] at hB
  generalize World.setRow _ _ _ = u3 at *
  replace hB : Bl w [⟨gn, spv s, 85⟩] u3 := hB
  simp only [nrm]
  (refine wpList_step fun K hK => ?_; replace hK := hide hK; go_simp; refine unhide hK _ _ ?_; clear hK K)
  refine wpList_nil ?_
  replace hB := hide hB
  go_upto_region 6 with fail
  replace hB := unhide hB
  refine any_start (S := fun (v : World) => v.heap[gn]? = some (.cells (spv s) 85 (0, 0))) (by kernel_rfl) ?_
  replace hB := hB.drew
  generalize World.drew _ = x0 at *
  have hS1 : (fun (v : World) => v.heap[gn]? = some (.cells (spv s) 85 (0, 0))) x0 := (hB.get 0 (x := ⟨gn, spv s, 85⟩) rfl)
  simp only [List.size_toArray, List.length_cons, List.length_nil, Array.replicate, List.replicate]
  refine any_take (i := 0) (v := (.pointer (some ⟨gn, 2, none⟩))) #[false, false, false, false, false, false, false] rfl (by kernel_rfl) (by kernel_rfl) (by kernel_rfl) (by kernel_rfl) (fun _ _ _ h => h) (.inl ⟨by kernel_rfl, fun x_ hu => by kernel_rfl⟩) hS1 ?_
  simp only [nrm]
  refine any_take (i := 1) (v := (.int .u32 (s.size : Int))) #[true, false, false, false, false, false, false] rfl (by kernel_rfl) (by kernel_rfl) (by kernel_rfl) (by kernel_rfl) (fun _ _ _ h => h) (.inl ⟨by kernel_rfl, fun x_ hu => exec_w32 _ (.tmp 20) rfl gn 2 (by kernel_rfl) _ (spv_cells hu).2.2⟩) hS1 ?_
  simp only [nrm]
  refine any_take (i := 2) (v := (.int .u64 (s.size : Int))) #[true, true, false, false, false, false, false] rfl (by kernel_rfl) (by kernel_rfl) (by kernel_rfl) (by kernel_rfl) (fun _ _ _ h => h) (.inl ⟨by kernel_rfl, fun x_ hu => by go_simp⟩) hS1 ?_
  simp only [nrm]
  refine any_take (i := 3) (v := (.pointer (some ⟨g, 0, none⟩))) #[true, true, true, false, false, false, false] rfl (by kernel_rfl) (by kernel_rfl) (by kernel_rfl) (by kernel_rfl) (fun _ _ _ h => h) (.inl ⟨by kernel_rfl, fun x_ hu => by kernel_rfl⟩) hS1 ?_
  simp only [nrm]
  refine any_one (i := 4) (by kernel_rfl) rfl (fun K_ hQ => ?_)
  refine step_callw (by kernel_rfl) 37 #[P0 g] (by kernel_rfl) ((room_ok G g gd D.safe.length s (by omega) x0 ((unhide hst).gr hB.gr)).mono ?_)
  rintro r u4 ⟨rfl, hg⟩
  refine ⟨_, rfl, ?_⟩
  rw [← unhide hh, ← unhide hrm]
  replace hB := hB.more hg
  replace hS1 : (fun (v : World) => v.heap[gn]? = some (.cells (spv s) 85 (0, 0))) u4 := hg.blk hS1
  clear hg
  refine hQ.out _ _ hS1 (fun _ => ?_)
  clear hQ K_
  simp only [nrm]
  refine any_take (i := 5) (v := (.int .u64 (rm : Int))) #[true, true, true, true, true, false, false] rfl (by kernel_rfl) (by kernel_rfl) (by kernel_rfl) (by kernel_rfl) (fun _ _ _ h => h) (.inl ⟨by kernel_rfl, fun x_ hu => by go_simp⟩) hS1 ?_
  simp only [nrm]
  refine any_take (i := 6) (v := (.bool false)) #[true, true, true, true, true, true, false] rfl (by kernel_rfl) (by kernel_rfl) (by kernel_rfl) (by kernel_rfl) (fun _ _ _ h => h) (.inl ⟨by kernel_rfl, fun x_ hu => by go_simp⟩) hS1 ?_
  simp only [nrm]
  refine any_done (by kernel_rfl) ?_
  clear hS1 w1 w2
  clear hgt
  replace hB := hide hB
  go_upto_region 8 with fail
  replace hB := unhide hB
  refine any_start (S := fun (v : World) => v.heap[gn]? = some (.cells (spv s) 85 (0, 0)) ∧ v.heap[g]? = some (.cells (stv h lg sl gd) 80 (0, 0))) (by kernel_rfl) ?_
  replace hB := hB.drew
  generalize World.drew _ = x1 at *
  have hS1 : (fun (v : World) => v.heap[gn]? = some (.cells (spv s) 85 (0, 0)) ∧ v.heap[g]? = some (.cells (stv h lg sl gd) 80 (0, 0))) x1 := ⟨(hB.get 0 (x := ⟨gn, spv s, 85⟩) rfl), hB.gr.blk (unhide hS)⟩
  simp only [List.size_toArray, List.length_cons, List.length_nil, Array.replicate, List.replicate]
  refine any_take (i := 0) (v := (.pointer (some ⟨g, 0, none⟩))) #[false, false, false, false, false, false, false, false, false, false, false, false, false, false, false, false, false] rfl (by kernel_rfl) (by kernel_rfl) (by kernel_rfl) (by kernel_rfl) (fun _ _ _ h => h) (.inl ⟨by kernel_rfl, fun x_ hu => by kernel_rfl⟩) hS1 ?_
  simp only [nrm]
  refine any_take (i := 1) (v := (.pointer (some ⟨g, 0, none⟩))) #[true, false, false, false, false, false, false, false, false, false, false, false, false, false, false, false, false] rfl (by kernel_rfl) (by kernel_rfl) (by kernel_rfl) (by kernel_rfl) (fun _ _ _ h => h) (.inl ⟨by kernel_rfl, fun x_ hu => by kernel_rfl⟩) hS1 ?_
  simp only [nrm]
  refine any_take (i := 2) (v := (.pointer (some ⟨g, 0, none⟩))) #[true, true, false, false, false, false, false, false, false, false, false, false, false, false, false, false, false] rfl (by kernel_rfl) (by kernel_rfl) (by kernel_rfl) (by kernel_rfl) (fun _ _ _ h => h) (.inl ⟨by kernel_rfl, fun x_ hu => by kernel_rfl⟩) hS1 ?_
  simp only [nrm]
  refine any_take (i := 3) (v := (.pointer (some ⟨g, 0, none⟩))) #[true, true, true, false, false, false, false, false, false, false, false, false, false, false, false, false, false] rfl (by kernel_rfl) (by kernel_rfl) (by kernel_rfl) (by kernel_rfl) (fun _ _ _ h => h) (.inl ⟨by kernel_rfl, fun x_ hu => by kernel_rfl⟩) hS1 ?_
  simp only [nrm]
  refine any_take (i := 4) (v := (.agg (lyv h lg sl))) #[true, true, true, true, false, false, false, false, false, false, false, false, false, false, false, false, false] rfl (by kernel_rfl) (by kernel_rfl) (by kernel_rfl) (by kernel_rfl) (fun _ _ _ h => h) (.inl ⟨by kernel_rfl, fun x_ hu => exec_row _ 78 (.tmp 31) rfl g 0 (by kernel_rfl) [.int .i64 (h : Int), .int .i64 (lg : Int), .int .i64 (sl : Int)] _ (ly_range hu.2) Tryz.underlying78 rfl (by rw [Tryz.infoLy]; rfl)⟩) hS1 ?_
  simp only [nrm]
  refine any_take (i := 5) (v := (.pointer (some ⟨gn, 0, none⟩))) #[true, true, true, true, true, false, false, false, false, false, false, false, false, false, false, false, false] rfl (by kernel_rfl) (by kernel_rfl) (by kernel_rfl) (by kernel_rfl) (fun _ _ _ h => h) (.inl ⟨by kernel_rfl, fun x_ hu => by kernel_rfl⟩) hS1 ?_
  simp only [nrm]
  refine any_take (i := 6) (v := (.int .u8 (s.place : Int))) #[true, true, true, true, true, true, false, false, false, false, false, false, false, false, false, false, false] rfl (by kernel_rfl) (by kernel_rfl) (by kernel_rfl) (by kernel_rfl) (fun _ _ _ h => h) (.inl ⟨by kernel_rfl, fun x_ hu => exec_b _ (.tmp 33) rfl gn 0 (by kernel_rfl) _ (spv_cells hu.1).1⟩) hS1 ?_
  simp only [nrm]
  refine any_take (i := 8) (v := (.pointer (some ⟨gn, 2, none⟩))) #[true, true, true, true, true, true, true, false, false, false, false, false, false, false, false, false, false] rfl (by kernel_rfl) (by kernel_rfl) (by kernel_rfl) (by kernel_rfl) (fun _ _ _ h => h) (.inl ⟨by kernel_rfl, fun x_ hu => by kernel_rfl⟩) hS1 ?_
  simp only [nrm]
  refine any_take (i := 9) (v := (.int .u32 (s.size : Int))) #[true, true, true, true, true, true, true, false, true, false, false, false, false, false, false, false, false] rfl (by kernel_rfl) (by kernel_rfl) (by kernel_rfl) (by kernel_rfl) (fun _ _ _ h => h) (.inl ⟨by kernel_rfl, fun x_ hu => exec_w32 _ (.tmp 36) rfl gn 2 (by kernel_rfl) _ (spv_cells hu.1).2.2⟩) hS1 ?_
  simp only [nrm]
  refine any_take (i := 10) (v := (.int .i64 (s.size : Int))) #[true, true, true, true, true, true, true, false, true, true, false, false, false, false, false, false, false] rfl (by kernel_rfl) (by kernel_rfl) (by kernel_rfl) (by kernel_rfl) (fun _ _ _ h => h) (.inl ⟨by kernel_rfl, fun x_ hu => by go_simp⟩) hS1 ?_
  simp only [nrm]
  refine any_one (i := 7) (by kernel_rfl) rfl (fun K_ hQ => ?_)
  refine step_callw (by kernel_rfl) 39 #[.agg (lyv h lg sl), .int .u8 (s.place : Int)] (by kernel_rfl) ((start_ok h lg sl s.place (by omega) (by omega) x1).mono ?_)
  rintro r u5 ⟨rfl, hg⟩
  refine ⟨_, rfl, ?_⟩
  rw [← unhide hoo]
  replace hB := hB.more hg
  replace hS1 : (fun (v : World) => v.heap[gn]? = some (.cells (spv s) 85 (0, 0)) ∧ v.heap[g]? = some (.cells (stv h lg sl gd) 80 (0, 0))) u5 := ⟨hg.blk hS1.1, hg.blk hS1.2⟩
  clear hg
  refine hQ.out _ _ hS1 (fun _ => ?_)
  clear hQ K_
  simp only [nrm]
  refine any_one (i := 11) (by kernel_rfl) rfl (fun K_ hQ => ?_)
  refine step_callw (by kernel_rfl) 38 #[P0 g, .int .i64 (o : Int), .int .i64 (s.size : Int)] (by kernel_rfl) ((sfetch_ok F g gd m h lg sl D (unhide hD) (by omega) hd u5 ((unhide hL).gr hB.gr) hS1.2 o s.size hoz).mono ?_)
  rintro r u6 ⟨vb, rfl, hO, hg⟩
  refine ⟨_, rfl, ?_⟩
  rw [unhide hrow] at hO
  have hO2 := hide (ob_base hO hB.gr.size)
  clear hO
  replace hB := hB.more hg
  replace hS1 : (fun (v : World) => v.heap[gn]? = some (.cells (spv s) 85 (0, 0)) ∧ v.heap[g]? = some (.cells (stv h lg sl gd) 80 (0, 0))) u6 := ⟨hg.blk hS1.1, hg.blk hS1.2⟩
  clear hg
  refine hQ.out _ _ hS1 (fun _ => ?_)
  clear hQ K_
  simp only [nrm]
  refine any_take (i := 12) (v := (.tuple #[vb, .int .i64 0])) #[true, true, true, true, true, true, true, true, true, true, true, true, false, false, false, false, false] rfl (by kernel_rfl) (by kernel_rfl) (by kernel_rfl) (by kernel_rfl) (fun _ _ _ h => h) (.inl ⟨by kernel_rfl, fun x_ hu => by kernel_rfl⟩) hS1 ?_
  simp only [nrm]
  refine any_take (i := 13) (v := vb) #[true, true, true, true, true, true, true, true, true, true, true, true, true, false, false, false, false] rfl (by kernel_rfl) (by kernel_rfl) (by kernel_rfl) (by kernel_rfl) (fun _ _ _ h => h) (.inl ⟨by kernel_rfl, fun x_ hu => by kernel_rfl⟩) hS1 ?_
  simp only [nrm]
  refine any_take (i := 14) (v := (.int .i64 0)) #[true, true, true, true, true, true, true, true, true, true, true, true, true, true, false, false, false] rfl (by kernel_rfl) (by kernel_rfl) (by kernel_rfl) (by kernel_rfl) (fun _ _ _ h => h) (.inl ⟨by kernel_rfl, fun x_ hu => by kernel_rfl⟩) hS1 ?_
  simp only [nrm]
  refine any_one (i := 15) (by kernel_rfl) rfl (fun K_ hQ => ?_)
  replace hQ := hide hQ
  go_simp
  refine (unhide hQ).out _ _ hS1 (fun _ => ?_)
  clear hQ K_
  refine any_one (i := 16) (by kernel_rfl) rfl (fun K_ hQ => ?_)
  replace hQ := hide hQ
  go_simp
  refine (unhide hQ).out _ _ hS1 (fun _ => ?_)
  clear hQ K_
  refine any_done (by kernel_rfl) ?_
  clear hS1 w3
  obtain ⟨ab, cb, rfl, hlb⟩ := ob_lb (unhide hO2) (unhide hLb) (n := s.size) (unhide hLl)
  replace hlb := hide hlb
  replace hB := hide hB
  go_upto_region 11 with fail
  replace hB := unhide hB
  refine any_start (S := fun (v : World) => v.heap[gn]? = some (.cells (spv s) 85 (0, 0))) (by kernel_rfl) ?_
  have hgx := (Gr.refl u6).drew
  replace hB := hB.drew
  generalize World.drew _ = x2 at *
  have hS1 : (fun (v : World) => v.heap[gn]? = some (.cells (spv s) 85 (0, 0))) x2 := (hB.get 0 (x := ⟨gn, spv s, 85⟩) rfl)
  simp only [List.size_toArray, List.length_cons, List.length_nil, Array.replicate, List.replicate]
  refine any_take (i := 0) (v := (.slice ab s.size cb)) #[false, false, false, false, false] rfl (by kernel_rfl) (by kernel_rfl) (by kernel_rfl) (by kernel_rfl) (fun _ _ _ h => h) (.inl ⟨by kernel_rfl, fun x_ hu => by kernel_rfl⟩) hS1 ?_
  simp only [nrm]
  refine any_take (i := 2) (v := (.pointer (some ⟨gn, 3, none⟩))) #[true, false, false, false, false] rfl (by kernel_rfl) (by kernel_rfl) (by kernel_rfl) (by kernel_rfl) (fun _ _ _ h => h) (.inl ⟨by kernel_rfl, fun x_ hu => by kernel_rfl⟩) hS1 ?_
  simp only [nrm]
  refine any_take (i := 3) (v := (.agg (kc s.hash))) #[true, false, true, false, false] rfl (by kernel_rfl) (by kernel_rfl) (by kernel_rfl) (by kernel_rfl) (fun _ _ _ h => h) (.inl ⟨by kernel_rfl, fun x_ hu => exec_row _ 83 (.tmp 47) rfl gn 3 (by kernel_rfl) (bv s.hash) _ (spv_range hu) Tryz.underlying83 rfl (by rw [Tryz.infoMk, bv_len, hhl])⟩) hS1 ?_
  simp only [nrm]
  refine any_one (i := 1) (by kernel_rfl) rfl (fun K_ hQ => ?_)
  refine step_callw (by kernel_rfl) 40 #[.slice ab s.size cb] (by kernel_rfl) ((digest_ok L ab s.size cb x2 ((unhide hlb).gr hgx) (by omega) ((unhide hf).gr hB.gr)).mono ?_)
  rintro r u7 ⟨rfl, hg⟩
  refine ⟨_, rfl, ?_⟩
  have hHl := sh16_len L
  have hHq : Hid (decide (sh16 L = s.hash) = true) := decide_eq_true (unhide hha).symm
  generalize sh16 L = HH at *
  replace hB := hB.more hg
  replace hS1 : (fun (v : World) => v.heap[gn]? = some (.cells (spv s) 85 (0, 0))) u7 := hg.blk hS1
  replace hgx := hgx.trans hg
  clear hg
  refine hQ.out _ _ hS1 (fun _ => ?_)
  clear hQ K_
  simp only [nrm]
  refine any_take (i := 4) (v := (.bool false)) #[true, true, true, true, false] rfl (by kernel_rfl) (by kernel_rfl) (by kernel_rfl) (by kernel_rfl) (fun _ _ _ h => h) (.inl ⟨by kernel_rfl, fun x_ hu => exec_neM _ (.tmp 46) (.tmp 48) rfl HH s.hash hHl hhl (by kernel_rfl) (by kernel_rfl) false (by rw [unhide hHq]; rfl)⟩) hS1 ?_
  simp only [nrm]
  refine any_done (by kernel_rfl) ?_
  have hZ : Hid (Snp L w (.returned (.tuple #[.slice ab s.size cb, .int .i64 0])) u7) := ⟨_, rfl, (unhide hO2).gr hgx, hB.gr⟩
  replace hB := hide hB
  clear hS1 hgx
  go_wp2_with fail
  rw [unhide hT]
  exact unhide hZ
set_option maxHeartbeats 4000000 in
theorem turn_ok (F G : List Nat) (g gd m : Nat) (D : Dk) (s : Sup) (hD : D.Ok m) (hm : m ≤ 900000) (hd : D.dead = false) (hn : 2 ≤ D.safe.length) (w : World) (hL : Lies F gd D w) (hs : Sto G g gd D.safe.length s w) (hcn : cntS (D.cur 0) (D.cur 1) = (s, true)) (hf : Fst w) : Calls Tryz.prog 14 #[P0 g] w (Vl (.int .u64 (s.turn : Int)) w) := by
  obtain ⟨T, hT⟩ : ∃ T, T = Vl (.int .u64 (s.turn : Int)) w := ⟨_, rfl⟩
  rw [← hT]
  replace hT := hide hT
  have c0 := Dk.cur_bb hD 0 (by omega)
  have c1 := Dk.cur_bb hD 1 (by omega)
  have hhl := (cnt_right c0 c1 hcn).hl
  obtain ⟨h, lg, sl, hh, hlg, hsl, hq⟩ := stN_is D.safe.length gd
  obtain ⟨-, hS⟩ := hs
  rw [hq] at hS
  clear hq hh hlg hsl c0 c1
  replace hL := hide hL; replace hD := hide hD; replace hf := hide hf; replace hS := hide hS; replace hcn := hide hcn
  go_enter Tryz.func14, Tryz.ntmps14
  go_upto_region 1 with fail
  refine wp_region_lit ?_
  refine list_val (.pointer (some ⟨g, 0, none⟩)) (by kernel_rfl) (by kernel_rfl) ?_
  simp only [nrm]
  refine list_val (.bool false) (by kernel_rfl) (by kernel_rfl) ?_
  simp only [nrm]
  refine wpList_nil ?_
  go_upto_region 3 with fail
  refine wp_region_lit ?_
  refine list_val (.pointer (some ⟨g, 0, none⟩)) (by kernel_rfl) (by kernel_rfl) ?_
  simp only [nrm]
  refine list_val (.pointer (some ⟨g, 0, none⟩)) (by kernel_rfl) (by kernel_rfl) ?_
  simp only [nrm]
  refine list_val (.pointer (some ⟨g, 3, none⟩)) (by kernel_rfl) (by kernel_rfl) ?_
  simp only [nrm]
  refine list_val (.pointer (some ⟨gd, 0, none⟩)) (by kernel_rfl) (exec_pd _ (.tmp 10) rfl g 3 (by kernel_rfl) (some ⟨gd, 0, none⟩) (cell_of (unhide hS) (i := 3) rfl)) ?_
  simp only [nrm]
  (refine wpList_step fun K hK => ?_; replace hK := hide hK; go_simp; refine unhide hK _ _ ?_; clear hK K)
  refine wpList_nil ?_
  have hB := Bl.nil w
  replace hB := hide hB
  go_upto_region 4 with fail
  replace hB := unhide hB
  refine wp_region_lit ?_
  refine list_val (.pointer (some ⟨gd, 0, none⟩)) (by kernel_rfl) (by kernel_rfl) ?_
  simp only [nrm]
  refine list_call 48 #[.pointer (some ⟨gd, 0, none⟩)] (by kernel_rfl) (by kernel_rfl) ((ddead_ok F gd m D (unhide hD) (by omega) _ ((unhide hL).gr hB.gr)).mono ?_)
  rintro r u0 ⟨rfl, hg⟩
  refine ⟨_, rfl, ?_⟩
  rw [hd]
  replace hB := hB.more hg
  clear hg
  simp only [nrm]
  refine wpList_nil ?_
  replace hB := hide hB
  go_upto_region 7 with fail
  replace hB := unhide hB
  refine wp_region_lit ?_
  refine list_val (.pointer (some ⟨gd, 0, none⟩)) (by kernel_rfl) (by kernel_rfl) ?_
  simp only [nrm]
  refine list_call 36 #[P0 gd] (by kernel_rfl) (by kernel_rfl) ((current_ok F gd m D (unhide hD) hm hd (by omega) _ ((unhide hL).gr hB.gr) ((unhide hf).gr hB.gr)).mono ?_)
  rintro r u1 ⟨rfl, hg⟩
  rw [unhide hcn]
  dsimp only
  rw [if_pos rfl, if_pos rfl]
  replace hB := hB.more hg
  clear hg
  refine ⟨_, rfl, ?_⟩
  simp only [nrm]
  refine list_val (.tuple #[.agg (spv s), .int .i64 0]) (by kernel_rfl) (by kernel_rfl) ?_
  simp only [nrm]
  refine list_val (.agg (spv s)) (by kernel_rfl) (by kernel_rfl) ?_
  simp only [nrm]
  refine list_val (.int .i64 0) (by kernel_rfl) (by kernel_rfl) ?_
  simp only [nrm]
  refine list_valw (.pointer (some ⟨u1.heap.size, 0, none⟩)) (u1.alloc (.cells (spv ZSp) 85 (0, 0))) (by kernel_rfl) (by kernel_rfl) ?_
  replace hB := hB.new (spv ZSp) 85
  simp only [List.nil_append, List.cons_append] at hB
  generalize World.alloc _ _ = u2 at *
  generalize u1.heap.size = gn at *
  replace hB : Bl w [⟨gn, spv ZSp, 85⟩] u2 := hB
  simp only [nrm]
  refine list_store 85 (.tmp 4) (.tmp 21) (gn) (spv s) 85 (spv ZSp) (by kernel_rfl) rfl (by kernel_rfl) (by kernel_rfl) (hB.get 0 (x := ⟨gn, spv ZSp, 85⟩) rfl) (by rw [Tryz.infoSp, spv_size (s := s) hhl]) (by rw [spv_size (s := s) hhl, spv_size (s := ZSp) ZSp_hl]) (spv_one _) ?_
  replace hB := hB.set 0 (x := ⟨gn, spv ZSp, 85⟩) rfl (spv s)
  simp only [List.set_cons_zero, List.set_cons_succ] at hB
  generalize World.setRow _ _ _ = u3 at *
  replace hB : Bl w [⟨gn, spv s, 85⟩] u3 := hB
  simp only [nrm]
  (refine wpList_step fun K hK => ?_; replace hK := hide hK; go_simp; refine unhide hK _ _ ?_; clear hK K)
  refine wpList_nil ?_
  replace hB := hide hB
  go_upto_region 8 with fail
  replace hB := unhide hB
  refine wp_region_lit ?_
  refine list_val (.pointer (some ⟨gn, 1, none⟩)) (by kernel_rfl) (by kernel_rfl) ?_
  simp only [nrm]
  refine list_val (.int .u64 (s.turn : Int)) (by kernel_rfl) (exec_u64 _ (.tmp 23) rfl gn 1 (by kernel_rfl) _ (spv_cells (hB.get 0 (x := ⟨gn, spv s, 85⟩) rfl)).2.1) ?_
  simp only [nrm]
  (refine wpList_step fun K hK => ?_; replace hK := hide hK; go_simp; refine unhide hK _ _ ?_; clear hK K)
  refine wpList_nil ?_
  have hZ : Hid (Vl (.int .u64 (s.turn : Int)) w (.returned (.int .u64 (s.turn : Int))) u3) := ⟨rfl, hB.gr⟩
  replace hB := hide hB
  go_wp2_with fail
  rw [unhide hT]
  exact unhide hZ
theorem chg_app {F F' : List Nat} {w u : World} (h : Chg F F' w u) (G : List Nat) : Chg (F ++ G) (F' ++ G) w u :=
  ⟨h.os, h.tape, h.output, h.size, fun i hi hn => h.block i hi (fun e => hn (List.mem_append_left _ e)), fun i hi => by
    rcases List.mem_append.1 hi with hi | hi
    · exact (h.new i hi).imp (List.mem_append_left _) id
    · exact .inl (List.mem_append_right _ hi)⟩
theorem Fst.chg {F F' : List Nat} {w v : World} (h : Fst w) (k : Chg F F' w v) (h0 : 0 ∉ F) : Fst v := fun j x hj => k.cell (h j x hj) h0
theorem chk_self {b : List Int} (hb : b.length = 64) : chk b 0 = b := by
  unfold chk
  rw [Nat.mul_zero, List.drop_zero, List.take_of_length_le (by omega), hb, Nat.sub_self, List.replicate_zero, List.append_nil]
theorem lay_one {q : Nat} {b : List Int} (hb : b.length = 64) : layOps q b = [some (q, b), none] := by
  have e : wrs q b 1 = [(q, chk b 0)] := rfl
  unfold layOps
  rw [hb, show (64 + 63) / 64 = 1 from rfl, e, chk_self hb]
  rfl
theorem take_lay {s : Sup} {h : Nat} {M : List Int} (hok : (s.next M).Ok) : takeOps s h M = layOps (2 + (1 - s.place) * h) M ++ layOps ((s.turn + 1) % 2) (s.next M).blk := by
  have hb := (blk_bb hok).1
  unfold takeOps
  generalize (s.next M).blk = bk at *
  rw [lay_one hb]
  unfold layOps
  rw [List.append_assoc]
  rfl
theorem lay_bb {o : Nat} {M : List Int} (hM : IsB M) : ∀ x, some x ∈ layOps o M → BB x.2 := by
  intro x hx
  unfold layOps at hx
  rcases List.mem_append.1 hx with hx | hx
  · obtain ⟨y, hy, e⟩ := List.mem_map.1 hx
    have e2 := Option.some.inj e
    subst e2
    unfold wrs at hy
    obtain ⟨i, _, rfl⟩ := List.mem_map.1 hy
    exact chk_bb hM i
  · rw [List.mem_singleton] at hx
    cases hx
theorem lay_ops_len (o : Nat) (M : List Int) : (layOps o M).length = (M.length + 63) / 64 + 1 := by
  unfold layOps
  rw [List.length_append, List.length_map, wrs_len]
  rfl
def NX (b : Nat) (u : World) (q : Value) : Prop := ∃ g, q = .pointer (some ⟨g, 0, none⟩) ∧ b ≤ g ∧ u.heap[g]? = some (.cells (spv ZSp) 85 (0, 0))
theorem NX.gr {b : Nat} {u v : World} {q : Value} (h : NX b u q) (k : Gr u v) : NX b v q := by
  obtain ⟨g, h1, h2, h3⟩ := h
  exact ⟨g, h1, h2, k.blk h3⟩
def Tk (F G : List Nat) (g gd n : Nat) (D : Dk) (s : Sup) (M : List Int) (w : World) (r : Ending) (w' : World) : Prop := ∃ F' G', r = .returned (.int .i64 (Dk.runD (takeOps s ((n - 2) / 4) M) D).2) ∧ Lies F' gd (Dk.runD (takeOps s ((n - 2) / 4) M) D).1 w' ∧ Sto G' g gd n (if (Dk.runD (takeOps s ((n - 2) / 4) M) D).2 = 0 then s.next M else s) w' ∧ (∀ i ∈ F', i ∉ G') ∧ Chg (F ++ G) (F' ++ G') w w'
set_option maxHeartbeats 4000000 in
theorem etake_ok (F G : List Nat) (g gd m : Nat) (D : Dk) (s : Sup) (L : List Int) (hD : D.Ok m) (hm : m ≤ 900000) (hd : D.dead = false) (w : World) (hL : Lies F gd D w) (hs : Sto G g gd D.safe.length s w) (hn : 64 ≤ D.safe.length) (ho : Os D ((D.safe.length - 2) / 4) s L) (hap : ∀ i ∈ F, i ∉ G) (hf : Fst w) (h0 : 0 ∉ F ∧ 0 ∉ G) (M : List Int) (a : Option Addr) (n c : Nat) (hM : Lb w a n c M) (hMa : M = [] ∨ ∀ i, i ∈ F ∨ i ∈ G → blkOf a ≠ some i) (hfit : n ≤ 64 * ((D.safe.length - 2) / 4)) (ht : s.turn + 1 < 18446744073709551616) : Calls Tryz.prog 32 #[P0 g, .slice a n c] w (Tk F G g gd D.safe.length D s M w) := by
  obtain ⟨T, hT⟩ : ∃ T, T = Tk F G g gd D.safe.length D s M w := ⟨_, rfl⟩
  rw [← hT]
  replace hT := hide hT
  have h512 := hD.hi1
  have c0 := Dk.cur_bb hD 0 (by omega)
  have c1 := Dk.cur_bb hD 1 (by omega)
  have hcn := ho.cnt
  have hok := cnt_right c0 c1 hcn
  have hpl := hok.p
  have hhl := hok.hl
  have hMl := hM.len
  have hMc := hM.cap
  have hMx := hM.max
  have hnxk := Sup.next_ok hok M (by omega) ht (sumL_isB M)
  have htl := take_lay (h := (D.safe.length - 2) / 4) hnxk
  have hMa2 : M = [] ∨ ∀ i ∈ F, blkOf a ≠ some i := hMa.imp id (fun h i hi => h i (.inl hi))
  have hGg := hs.1
  have hgF : g ∉ F := fun e => hap g e (by rw [hGg]; exact List.mem_singleton.2 rfl)
  have hgw := lt_of_block hs.2
  have hFl := hL.lt
  have hst := hide hs
  obtain ⟨h, lg, sl, hh, hlg, hsl, hq⟩ := stN_is D.safe.length gd
  obtain ⟨-, hS⟩ := hs
  rw [hq] at hS
  clear hq
  have hhb : h ≤ 1000 := by omega
  obtain ⟨rm, hrm⟩ : ∃ x, x = 64 * ((D.safe.length - 2) / 4) := ⟨_, rfl⟩
  have hgt : ¬ (rm : Int) < (n : Int) := by omega
  obtain ⟨p2, hp2⟩ : ∃ x, x = 1 - s.place := ⟨_, rfl⟩
  obtain ⟨t2, ht2⟩ : ∃ x, x = s.turn + 1 := ⟨_, rfl⟩
  have w1 : IntKind.u64.wrap ((s.turn : Int) + 1) = (t2 : Int) := by rw [IntKind.wrap_u64]; omega
  have hmx : ¬ (s.turn : Int) = 18446744073709551615 := by omega
  obtain ⟨o2, ho2⟩ : ∃ x, x = 2 + p2 * h := ⟨_, rfl⟩
  have ho2b : o2 ≤ 3000 := by
    have hq2 : p2 = 0 ∨ p2 = 1 := by omega
    rcases hq2 with e | e <;> rw [e] at ho2 <;> omega
  obtain ⟨q2, hq2⟩ : ∃ x, x = t2 % 2 := ⟨_, rfl⟩
  obtain ⟨nx, hnx⟩ : ∃ x, x = s.next M := ⟨_, rfl⟩
  have hnxe : (⟨p2, t2, n, sh16 M⟩ : Sup) = nx := by rw [hnx, hp2, ht2, ← hMl]; simp only [Sup.next]
  have hnt : nx.turn = t2 := by rw [← hnxe]
  have hnp : nx.place = p2 := by rw [← hnxe]
  rw [← hnx] at hnxk htl
  rw [← hh, ← hp2, ← ht2, ← ho2, ← hq2] at htl
  have hnhl := hnxk.hl
  replace hL := hide hL; replace hD := hide hD; replace hf := hide hf; replace hS := hide hS; replace hM := hide hM; replace hMa := hide hMa; replace hMa2 := hide hMa2; replace hcn := hide hcn; replace hok := hide hok; replace hnxk := hide hnxk; replace htl := hide htl; replace hap := hide hap; replace hFl := hide hFl
  replace hh := hide hh; replace hlg := hide hlg; replace hsl := hide hsl; replace hrm := hide hrm; replace hp2 := hide hp2; replace ht2 := hide ht2; replace ho2 := hide ho2; replace hq2 := hide hq2; replace hnx := hide hnx; replace hnxe := hide hnxe; replace hnt := hide hnt; replace hnp := hide hnp; replace hMl := hide hMl; replace hGg := hide hGg
  clear ho c0 c1 hMa
  go_enter Tryz.func32, Tryz.ntmps32
  go_upto_region 1 with fail
  refine wp_region_lit ?_
  refine list_val (.pointer (some ⟨g, 0, none⟩)) (by kernel_rfl) (by kernel_rfl) ?_
  simp only [nrm]
  refine list_val (.bool false) (by kernel_rfl) (by kernel_rfl) ?_
  simp only [nrm]
  refine wpList_nil ?_
  have hB := Bl.nil w
  replace hB := hide hB
  go_upto_region 3 with fail
  replace hB := unhide hB
  refine wp_region_lit ?_
  refine list_val (.slice a n c) (by kernel_rfl) (by kernel_rfl) ?_
  simp only [nrm]
  refine list_val (.int .i64 n) (by kernel_rfl) (by kernel_rfl) ?_
  simp only [nrm]
  refine list_val (.pointer (some ⟨g, 0, none⟩)) (by kernel_rfl) (by kernel_rfl) ?_
  simp only [nrm]
  refine list_call 37 #[.pointer (some ⟨g, 0, none⟩)] (by kernel_rfl) (by kernel_rfl) ((room_ok G g gd D.safe.length s (by omega) w (unhide hst)).mono ?_)
  rintro r u0 ⟨rfl, hg⟩
  refine ⟨_, rfl, ?_⟩
  rw [← unhide hrm]
  replace hB := hB.more hg
  clear hg
  simp only [nrm]
  refine list_val (.bool false) (by kernel_rfl) (by go_simp) ?_
  simp only [nrm]
  refine wpList_nil ?_
  clear hgt
  replace hB := hide hB
  go_upto_region 5 with fail
  replace hB := unhide hB
  refine wp_region_lit ?_
  refine list_val (.pointer (some ⟨g, 0, none⟩)) (by kernel_rfl) (by kernel_rfl) ?_
  simp only [nrm]
  refine list_val (.pointer (some ⟨g, 0, none⟩)) (by kernel_rfl) (by kernel_rfl) ?_
  simp only [nrm]
  refine list_val (.pointer (some ⟨g, 3, none⟩)) (by kernel_rfl) (by kernel_rfl) ?_
  simp only [nrm]
  refine list_val (.pointer (some ⟨gd, 0, none⟩)) (by kernel_rfl) (exec_pd _ (.tmp 20) rfl g 3 (by kernel_rfl) (some ⟨gd, 0, none⟩) (cell_of (hB.gr.blk (unhide hS)) (i := 3) rfl)) ?_
  simp only [nrm]
  refine list_call 36 #[P0 gd] (by kernel_rfl) (by kernel_rfl) ((current_ok F gd m D (unhide hD) hm hd (by omega) _ ((unhide hL).gr hB.gr) ((unhide hf).gr hB.gr)).mono ?_)
  rintro r u1 ⟨rfl, hg⟩
  rw [unhide hcn]
  dsimp only
  rw [if_pos rfl, if_pos rfl]
  replace hB := hB.more hg
  clear hg
  refine ⟨_, rfl, ?_⟩
  simp only [nrm]
  refine list_val (.tuple #[.agg (spv s), .int .i64 0]) (by kernel_rfl) (by kernel_rfl) ?_
  simp only [nrm]
  refine list_val (.agg (spv s)) (by kernel_rfl) (by kernel_rfl) ?_
  simp only [nrm]
  refine list_val (.int .i64 0) (by kernel_rfl) (by kernel_rfl) ?_
  simp only [nrm]
  refine list_valw (.pointer (some ⟨u1.heap.size, 0, none⟩)) (u1.alloc (.cells (spv ZSp) 85 (0, 0))) (by kernel_rfl) (by kernel_rfl) ?_
  replace hB := hB.new (spv ZSp) 85
  simp only [List.nil_append, List.cons_append] at hB
  generalize World.alloc _ _ = u2 at *
  generalize u1.heap.size = gn at *
  replace hB : Bl w [⟨gn, spv ZSp, 85⟩] u2 := hB
  simp only [nrm]
  refine list_store 85 (.tmp 5) (.tmp 23) (gn) (spv s) 85 (spv ZSp) (by kernel_rfl) rfl (by kernel_rfl) (by kernel_rfl) (hB.get 0 (x := ⟨gn, spv ZSp, 85⟩) rfl) (by rw [Tryz.infoSp, spv_size (s := s) hhl]) (by rw [spv_size (s := s) hhl, spv_size (s := ZSp) ZSp_hl]) (spv_one _) ?_
  replace hB := hB.set 0 (x := ⟨gn, spv ZSp, 85⟩) rfl (spv s)
  simp only [List.set_cons_zero, List.set_cons_succ] at hB
  generalize World.setRow _ _ _ = u3 at *
  replace hB : Bl w [⟨gn, spv s, 85⟩] u3 := hB
  simp only [nrm]
  (refine wpList_step fun K hK => ?_; replace hK := hide hK; go_simp; refine unhide hK _ _ ?_; clear hK K)
  refine wpList_nil ?_
  replace hB := hide hB
  go_upto_region 8 with fail
  replace hB := unhide hB
  refine wp_region_lit ?_
  refine list_val (.pointer (some ⟨gn, 1, none⟩)) (by kernel_rfl) (by kernel_rfl) ?_
  simp only [nrm]
  refine list_val (.int .u64 (s.turn : Int)) (by kernel_rfl) (exec_u64 _ (.tmp 28) rfl gn 1 (by kernel_rfl) _ (spv_cells (hB.get 0 (x := ⟨gn, spv s, 85⟩) rfl)).2.1) ?_
  simp only [nrm]
  refine list_val (.bool false) (by kernel_rfl) (by go_simp) ?_
  simp only [nrm]
  refine wpList_nil ?_
  clear hmx
  replace hB := hide hB
  go_upto_region 10 with fail
  replace hB := unhide hB
  refine any_start (S := fun (v : World) => Bl w [⟨gn, spv s, 85⟩] v) (by kernel_rfl) ?_
  replace hB := hB.drew
  generalize World.drew _ = x0 at *
  simp only [List.size_toArray, List.length_cons, List.length_nil, Array.replicate, List.replicate]
  refine any_take (i := 0) (v := (.pointer (some ⟨gn, 0, none⟩))) #[false, false, false, false, false, false, false, false, false, false] rfl (by kernel_rfl) (by kernel_rfl) (by kernel_rfl) (by kernel_rfl) (fun _ _ _ h => h) (.inl ⟨by kernel_rfl, fun x_ hu => by kernel_rfl⟩) hB ?_
  simp only [nrm]
  refine any_take (i := 1) (v := (.int .u8 (s.place : Int))) #[true, false, false, false, false, false, false, false, false, false] rfl (by kernel_rfl) (by kernel_rfl) (by kernel_rfl) (by kernel_rfl) (fun _ _ _ h => h) (.inl ⟨by kernel_rfl, fun x_ hu => exec_b _ (.tmp 31) rfl gn 0 (by kernel_rfl) _ (spv_cells (hu.get 0 (x := ⟨gn, spv s, 85⟩) rfl)).1⟩) hB ?_
  simp only [nrm]
  refine any_take (i := 3) (v := (.pointer (some ⟨gn, 1, none⟩))) #[true, true, false, false, false, false, false, false, false, false] rfl (by kernel_rfl) (by kernel_rfl) (by kernel_rfl) (by kernel_rfl) (fun _ _ _ h => h) (.inl ⟨by kernel_rfl, fun x_ hu => by kernel_rfl⟩) hB ?_
  simp only [nrm]
  refine any_take (i := 4) (v := (.int .u64 (s.turn : Int))) #[true, true, false, true, false, false, false, false, false, false] rfl (by kernel_rfl) (by kernel_rfl) (by kernel_rfl) (by kernel_rfl) (fun _ _ _ h => h) (.inl ⟨by kernel_rfl, fun x_ hu => exec_u64 _ (.tmp 34) rfl gn 1 (by kernel_rfl) _ (spv_cells (hu.get 0 (x := ⟨gn, spv s, 85⟩) rfl)).2.1⟩) hB ?_
  simp only [nrm]
  refine any_take (i := 5) (v := (.int .u64 (t2 : Int))) #[true, true, false, true, true, false, false, false, false, false] rfl (by kernel_rfl) (by kernel_rfl) (by kernel_rfl) (by kernel_rfl) (fun _ _ _ h => h) (.inl ⟨by kernel_rfl, fun x_ hu => by go_simp⟩) hB ?_
  simp only [nrm]
  refine any_take (i := 6) (v := (.slice a n c)) #[true, true, false, true, true, true, false, false, false, false] rfl (by kernel_rfl) (by kernel_rfl) (by kernel_rfl) (by kernel_rfl) (fun _ _ _ h => h) (.inl ⟨by kernel_rfl, fun x_ hu => by kernel_rfl⟩) hB ?_
  simp only [nrm]
  refine float_first (fun q u => NX (gn + 1) u q) 7 (fun b_ => #[true, true, false, true, true, true, true, false, b_, false]) 8 2 false rfl rfl (fun _ g_ => hB.more g_) (by kernel_rfl) (fun b_ => by cases b_ <;> rfl) ?_ ?_
  all_goals simp only [fw1, Act.put, List.setIfInBounds_toArray, List.set_cons_zero, List.set_cons_succ, List.getElem_toArray, List.getElem_cons_zero, List.getElem_cons_succ]
  · intro q_ x_ hgx K hK
    refine wpOp_step (o := _) rfl (fun K' hK' => ?_)
    replace hK' := hide hK'
    replace hK := hide hK
    refine step_val (.pointer (some ⟨x_.heap.size, 0, none⟩)) (x_.alloc (.cells (spv ZSp) 85 (0, 0))) (by kernel_rfl) (by kernel_rfl) ?_
    exact unhide hK' _ _ (unhide hK _ _ ((Gr.refl _).alloc _) (⟨_, rfl, Nat.le_trans (Nat.succ_le_of_lt (lt_of_block (hB.get 0 (x := ⟨gn, spv s, 85⟩) rfl))) hgx.size, blk_new _ _⟩))
  intro b1_2 q1_2 x1_2 hg hTq hall
  replace hB := hB.more hg
  clear hall
  refine wpOp_step (o := _) rfl (fun K hK => ?_)
  replace hK := hide hK
  refine step_callw (by kernel_rfl) 64 #[.int .u8 (s.place : Int)] (by kernel_rfl) ((other_ok s.place hpl _).mono ?_)
  rintro r y1 ⟨rfl, hg⟩
  refine ⟨_, rfl, ?_⟩
  replace hTq := fun e => NX.gr (hTq e) hg
  rw [← unhide hp2]
  replace hB := hB.more hg
  clear hg
  refine unhide hK _ _ ⟨hB, ?_⟩
  clear hK K
  simp only [nrm]
  refine float_again (fun q u => NX (gn + 1) u q) 7 (fun b_ => #[true, true, true, true, true, true, true, false, b_, false]) 8 7 false (b := b1_2) (q := q1_2) rfl rfl hTq (fun _ g_ => hB.more g_) (by kernel_rfl) (fun b_ => by cases b_ <;> rfl) ?_ ?_
  all_goals simp only [fw1, Act.put, List.setIfInBounds_toArray, List.set_cons_zero, List.set_cons_succ, List.getElem_toArray, List.getElem_cons_zero, List.getElem_cons_succ]
  · intro q_ x_ hgx K hK
    refine wpOp_step (o := _) rfl (fun K' hK' => ?_)
    replace hK' := hide hK'
    replace hK := hide hK
    refine step_val (.pointer (some ⟨x_.heap.size, 0, none⟩)) (x_.alloc (.cells (spv ZSp) 85 (0, 0))) (by kernel_rfl) (by kernel_rfl) ?_
    exact unhide hK' _ _ (unhide hK _ _ ((Gr.refl _).alloc _) (⟨_, rfl, Nat.le_trans (Nat.succ_le_of_lt (lt_of_block (hB.get 0 (x := ⟨gn, spv s, 85⟩) rfl))) hgx.size, blk_new _ _⟩))
  clear hTq
  intro b1_7 q1_7 x1_7 hg hTq hall
  replace hB := hB.more hg
  clear hall
  refine wpOp_step (o := _) rfl (fun K hK => ?_)
  replace hK := hide hK
  refine step_callw (by kernel_rfl) 57 #[.int .u8 (p2 : Int), .int .u64 (t2 : Int), .slice a n c] (by kernel_rfl) ((describe_ok p2 t2 (by have := unhide hp2; omega) (by have := unhide ht2; omega) M a n c _ ((unhide hM).gr hB.gr) (by omega) ((unhide hf).gr hB.gr)).mono ?_)
  rintro r y2 ⟨rfl, hg⟩
  refine ⟨_, rfl, ?_⟩
  replace hTq := fun e => NX.gr (hTq e) hg
  rw [unhide hnxe]
  replace hB := hB.more hg
  clear hg
  refine unhide hK _ _ ⟨hB, ?_⟩
  clear hK K
  simp only [nrm]
  refine float_again (fun q u => NX (gn + 1) u q) 7 (fun b_ => #[true, true, true, true, true, true, true, true, b_, false]) 8 9 true (b := b1_7) (q := q1_7) rfl rfl hTq (fun _ g_ => hB.more g_) (by kernel_rfl) (fun b_ => by cases b_ <;> rfl) ?_ ?_
  all_goals simp only [fw1, Act.put, List.setIfInBounds_toArray, List.set_cons_zero, List.set_cons_succ, List.getElem_toArray, List.getElem_cons_zero, List.getElem_cons_succ]
  · intro q_ x_ hgx K hK
    refine wpOp_step (o := _) rfl (fun K' hK' => ?_)
    replace hK' := hide hK'
    replace hK := hide hK
    refine step_val (.pointer (some ⟨x_.heap.size, 0, none⟩)) (x_.alloc (.cells (spv ZSp) 85 (0, 0))) (by kernel_rfl) (by kernel_rfl) ?_
    exact unhide hK' _ _ (unhide hK _ _ ((Gr.refl _).alloc _) (⟨_, rfl, Nat.le_trans (Nat.succ_le_of_lt (lt_of_block (hB.get 0 (x := ⟨gn, spv s, 85⟩) rfl))) hgx.size, blk_new _ _⟩))
  clear hTq
  intro b1_9 q1_9 x1_9 hg hTq hall
  replace hB := hB.more hg
  obtain rfl : b1_9 = true := hall (by trivial)
  replace hTq := hTq rfl
  clear hall
  obtain ⟨gx, rfl, hgx1, hgb⟩ := hTq
  refine wpOp_step (o := _) rfl (fun K hK => ?_)
  replace hK := hide hK
  rw [if_pos (by kernel_rfl)]
  refine wp_store_row 85 (.tmp 7) (.tmp 38) rfl gx (spv nx) (by kernel_rfl) (by kernel_rfl) 85 (spv ZSp) hgb (by rw [Tryz.infoSp, spv_size (s := nx) hnhl]) (by rw [spv_size (s := nx) hnhl]; rfl) (spv_one _) ?_
  have hB2 := hB.add ⟨gx, spv ZSp, 85⟩ hgb (show w.heap.size ≤ gx by have := hB.own 0 (x := ⟨gn, spv s, 85⟩) rfl; dsimp only at this; omega) (by intro y hy; simp only [List.mem_cons, List.not_mem_nil, or_false] at hy; subst hy; show gn ≠ gx; omega)
  replace hB2 := hB2.set 1 (x := ⟨gx, spv ZSp, 85⟩) rfl (spv nx)
  simp only [List.cons_append, List.nil_append, List.set_cons_zero, List.set_cons_succ] at hB2
  replace hB2 : Bl w [⟨gn, spv s, 85⟩, ⟨gx, spv nx, 85⟩] _ := hB2
  have hBl : Bl w [⟨gn, spv s, 85⟩] _ := Bl.left (M := [⟨gx, spv nx, 85⟩]) hB2
  clear hB hgb
  generalize World.setRow _ _ _ = x9 at *
  have hB := hB2
  clear hB2
  refine unhide hK _ _ ⟨hBl, ?_⟩
  clear hK K hBl
  simp only [nrm]
  refine any_done (by kernel_rfl) ?_
  clear w1
  replace hB := hide hB
  go_upto_region 11 with fail
  replace hB := unhide hB
  refine any_start (S := fun (v : World) => v.heap[gx]? = some (.cells (spv nx) 85 (0, 0)) ∧ v.heap[g]? = some (.cells (stv h lg sl gd) 80 (0, 0))) (by kernel_rfl) ?_
  replace hB := hB.drew
  generalize World.drew _ = x1 at *
  have hS1 : (fun (v : World) => v.heap[gx]? = some (.cells (spv nx) 85 (0, 0)) ∧ v.heap[g]? = some (.cells (stv h lg sl gd) 80 (0, 0))) x1 := ⟨(hB.get 1 (x := ⟨gx, spv nx, 85⟩) rfl), hB.gr.blk (unhide hS)⟩
  simp only [List.size_toArray, List.length_cons, List.length_nil, Array.replicate, List.replicate]
  refine any_take (i := 0) (v := (.pointer (some ⟨g, 0, none⟩))) #[false, false, false, false, false, false, false, false, false, false, false] rfl (by kernel_rfl) (by kernel_rfl) (by kernel_rfl) (by kernel_rfl) (fun _ _ _ h => h) (.inl ⟨by kernel_rfl, fun x_ hu => by kernel_rfl⟩) hS1 ?_
  simp only [nrm]
  refine any_take (i := 1) (v := (.pointer (some ⟨g, 0, none⟩))) #[true, false, false, false, false, false, false, false, false, false, false] rfl (by kernel_rfl) (by kernel_rfl) (by kernel_rfl) (by kernel_rfl) (fun _ _ _ h => h) (.inl ⟨by kernel_rfl, fun x_ hu => by kernel_rfl⟩) hS1 ?_
  simp only [nrm]
  refine any_take (i := 2) (v := (.pointer (some ⟨g, 0, none⟩))) #[true, true, false, false, false, false, false, false, false, false, false] rfl (by kernel_rfl) (by kernel_rfl) (by kernel_rfl) (by kernel_rfl) (fun _ _ _ h => h) (.inl ⟨by kernel_rfl, fun x_ hu => by kernel_rfl⟩) hS1 ?_
  simp only [nrm]
  refine any_take (i := 3) (v := (.pointer (some ⟨g, 0, none⟩))) #[true, true, true, false, false, false, false, false, false, false, false] rfl (by kernel_rfl) (by kernel_rfl) (by kernel_rfl) (by kernel_rfl) (fun _ _ _ h => h) (.inl ⟨by kernel_rfl, fun x_ hu => by kernel_rfl⟩) hS1 ?_
  simp only [nrm]
  refine any_take (i := 4) (v := (.agg (lyv h lg sl))) #[true, true, true, true, false, false, false, false, false, false, false] rfl (by kernel_rfl) (by kernel_rfl) (by kernel_rfl) (by kernel_rfl) (fun _ _ _ h => h) (.inl ⟨by kernel_rfl, fun x_ hu => exec_row _ 78 (.tmp 42) rfl g 0 (by kernel_rfl) [.int .i64 (h : Int), .int .i64 (lg : Int), .int .i64 (sl : Int)] _ (ly_range hu.2) Tryz.underlying78 rfl (by rw [Tryz.infoLy]; rfl)⟩) hS1 ?_
  simp only [nrm]
  refine any_take (i := 5) (v := (.pointer (some ⟨gx, 0, none⟩))) #[true, true, true, true, true, false, false, false, false, false, false] rfl (by kernel_rfl) (by kernel_rfl) (by kernel_rfl) (by kernel_rfl) (fun _ _ _ h => h) (.inl ⟨by kernel_rfl, fun x_ hu => by kernel_rfl⟩) hS1 ?_
  simp only [nrm]
  refine any_take (i := 6) (v := (.int .u8 (p2 : Int))) #[true, true, true, true, true, true, false, false, false, false, false] rfl (by kernel_rfl) (by kernel_rfl) (by kernel_rfl) (by kernel_rfl) (fun _ _ _ h => h) (.inl ⟨by kernel_rfl, fun x_ hu => exec_b _ (.tmp 44) rfl gx 0 (by kernel_rfl) _ (by have h9 := (spv_cells hu.1).1; rw [unhide hnp] at h9; exact h9)⟩) hS1 ?_
  simp only [nrm]
  refine any_take (i := 8) (v := (.slice a n c)) #[true, true, true, true, true, true, true, false, false, false, false] rfl (by kernel_rfl) (by kernel_rfl) (by kernel_rfl) (by kernel_rfl) (fun _ _ _ h => h) (.inl ⟨by kernel_rfl, fun x_ hu => by kernel_rfl⟩) hS1 ?_
  simp only [nrm]
  refine any_one (i := 7) (by kernel_rfl) rfl (fun K_ hQ => ?_)
  refine step_callw (by kernel_rfl) 39 #[.agg (lyv h lg sl), .int .u8 (p2 : Int)] (by kernel_rfl) ((start_ok h lg sl p2 (by omega) (by have := unhide hp2; omega) x1).mono ?_)
  rintro r y3 ⟨rfl, hg⟩
  refine ⟨_, rfl, ?_⟩
  rw [← unhide ho2]
  replace hB := hB.more hg
  replace hS1 : (fun (v : World) => v.heap[gx]? = some (.cells (spv nx) 85 (0, 0)) ∧ v.heap[g]? = some (.cells (stv h lg sl gd) 80 (0, 0))) y3 := ⟨hg.blk hS1.1, hg.blk hS1.2⟩
  clear hg
  refine hQ.out _ _ hS1 (fun _ => ?_)
  clear hQ K_
  simp only [nrm]
  refine any_one (i := 9) (by kernel_rfl) rfl (fun K_ hQ => ?_)
  refine step_callw (by kernel_rfl) 59 #[P0 g, .int .i64 (o2 : Int), .slice a n c] (by kernel_rfl) ((slay_ok F g gd m h lg sl D (unhide hD) y3 ((unhide hL).gr hB.gr) hS1.2 hgF o2 (by omega) M a n c ((unhide hM).gr hB.gr) (unhide hMa2) (by omega) (by omega)).mono ?_)
  rintro r v1 ⟨F1, rfl, hL1, hc1⟩
  refine ⟨_, rfl, ?_⟩
  have hgxF : gx ∉ F := fun e => by have h1 := unhide hFl gx e; have h2 := hB.own 1 (x := ⟨gx, spv nx, 85⟩) rfl; dsimp only at h2; omega
  have hgy : gx < y3.heap.size := lt_of_block hS1.1
  have hgxF1 : Hid (gx ∉ F1) := fun e => by rcases hc1.new gx e with e | e; exact hgxF e; omega
  clear hgy
  replace hS1 : (fun (v : World) => v.heap[gx]? = some (.cells (spv nx) 85 (0, 0)) ∧ v.heap[g]? = some (.cells (stv h lg sl gd) 80 (0, 0))) v1 := ⟨hc1.blk hS1.1 hgxF, hc1.blk hS1.2 hgF⟩
  have hch1 := hide (hB.gr.chg hc1)
  have okD := hide (run_ok (layOps o2 M) (unhide hD) (lay_bb (unhide hM).isB))
  obtain ⟨D1, hD1⟩ : ∃ x, x = (Dk.runD (layOps o2 M) D).1 := ⟨_, rfl⟩
  obtain ⟨e1, he1⟩ : ∃ x, x = (Dk.runD (layOps o2 M) D).2 := ⟨_, rfl⟩
  rw [← hD1] at hL1 okD
  rw [← he1]
  replace hD1 := hide hD1; replace he1 := hide he1; replace hL1 := hide hL1
  clear hB hc1 hgxF
  refine hQ.out _ _ hS1 (fun _ => ?_)
  clear hQ K_
  simp only [nrm]
  refine any_one (i := 10) (by kernel_rfl) rfl (fun K_ hQ => ?_)
  replace hQ := hide hQ
  go_simp
  refine (unhide hQ).out _ _ hS1 (fun _ => ?_)
  clear hQ K_
  refine any_done (by kernel_rfl) ?_
  have hst1 : Hid (Sto G g gd D.safe.length s v1) := (unhide hst).chg (unhide hch1) (fun i hi hg => by
    rw [unhide hGg, List.mem_singleton] at hg
    rw [hg] at hi
    exact hgF hi)
  have hap1 : Hid (∀ i ∈ F1, i ∉ G) := by
    intro i hi hg
    rcases (unhide hch1).new i hi with e | e
    · exact unhide hap i e hg
    · rw [unhide hGg, List.mem_singleton] at hg
      omega
  have hX1 : Hid (v1.heap[gx]? = some (.cells (spv nx) 85 (0, 0))) := hS1.1
  have hS2 : Hid (v1.heap[g]? = some (.cells (stv h lg sl gd) 80 (0, 0))) := hS1.2
  have hrun : Hid (Dk.runD (takeOps s ((D.safe.length - 2) / 4) M) D = if e1 = 0 then Dk.runD (layOps q2 nx.blk) D1 else (D1, e1)) := by
    show Dk.runD (takeOps s ((D.safe.length - 2) / 4) M) D = _
    rw [← unhide hh, unhide htl, run_app, ← unhide he1, ← unhide hD1]
    by_cases hq9 : e1 = 0
    · rw [if_pos hq9, if_pos hq9]
    · rw [if_neg hq9, if_neg hq9, unhide he1, unhide hD1]
  clear hS1
  by_cases hz : e1 = 0
  · skip
    subst hz
    have hkb := blk_bb (unhide hnxk)
    obtain ⟨bk, hbk⟩ : ∃ x, x = nx.blk := ⟨_, rfl⟩
    rw [← hbk] at hkb hrun
    have hkl := hkb.1
    replace hkb := hide hkb; replace hbk := hide hbk
    have hf1 := hide ((unhide hf).chg (unhide hch1) h0.1)
    have hB := Bl.nil v1
    replace hB := hide hB
    go_upto_region 14 with fail
    replace hB := unhide hB
    refine wp_region_lit ?_
    refine list_val (.agg (spv nx)) (by kernel_rfl) (exec_arr _ 85 (.tmp 7) rfl gx (by kernel_rfl) (spv nx) 85 _ (hB.gr.blk (unhide hX1)) Tryz.underlying85 rfl (by rw [Tryz.infoSp, spv_size (s := nx) hnhl])) ?_
    simp only [nrm]
    refine list_call 58 #[.agg (spv nx)] (by kernel_rfl) (by kernel_rfl) ((sblock_ok nx (unhide hnxk) _ ((unhide hf1).gr hB.gr)).mono ?_)
    rintro r v2 ⟨rfl, hg⟩
    rw [← unhide hbk]
    replace hB := hB.more hg
    clear hg
    refine ⟨_, rfl, ?_⟩
    simp only [nrm]
    refine list_valw (.pointer (some ⟨v2.heap.size, 0, none⟩)) (v2.alloc (.cells (kc ZB) 36 (0, 0))) (by kernel_rfl) (by kernel_rfl) ?_
    replace hB := hB.new (kc ZB) 36
    simp only [List.nil_append, List.cons_append] at hB
    generalize World.alloc _ _ = v3 at *
    generalize v2.heap.size = gb at *
    replace hB : Bl v1 [⟨gb, kc ZB, 36⟩] v3 := hB
    simp only [nrm]
    refine list_store 36 (.tmp 9) (.tmp 53) (gb) (kc bk) 36 (kc ZB) (by kernel_rfl) rfl (by kernel_rfl) (by kernel_rfl) (hB.get 0 (x := ⟨gb, kc ZB, 36⟩) rfl) (by rw [Tryz.infoB, kc_size, hkl]) ((show (kc ZB).size = 64 from rfl).trans ((kc_size _).trans hkl).symm) (kc_one _) ?_
    replace hB := hB.set 0 (x := ⟨gb, kc ZB, 36⟩) rfl (kc bk)
    simp only [List.set_cons_zero, List.set_cons_succ] at hB
    generalize World.setRow _ _ _ = v4 at *
    replace hB : Bl v1 [⟨gb, kc bk, 36⟩] v4 := hB
    simp only [nrm]
    refine wpList_nil ?_
    have i1 : (t2 : Int).tmod 2 = (q2 : Int) := by rw [Int.tmod_eq_emod_of_nonneg (by omega)]; have := unhide hq2; omega
    have i2 : IntKind.u64.wrap (q2 : Int) = (q2 : Int) := by rw [IntKind.wrap_u64]; have := unhide hq2; omega
    have i3 : IntKind.i64.wrap (q2 : Int) = (q2 : Int) := by rw [IntKind.wrap_i64]; have := unhide hq2; omega
    replace hB := hide hB
    go_upto_region 15 with fail
    replace hB := unhide hB
    refine any_start (S := fun (v : World) => v.heap[gx]? = some (.cells (spv nx) 85 (0, 0))) (by kernel_rfl) ?_
    replace hB := hB.drew
    generalize World.drew _ = x2 at *
    have hS1 : (fun (v : World) => v.heap[gx]? = some (.cells (spv nx) 85 (0, 0))) x2 := hB.gr.blk (unhide hX1)
    have hok1 := unhide okD
    rw [lay_ops_len, unhide hMl] at hok1
    have hgF1 : g ∉ F1 := fun e => by
      rcases (unhide hch1).new g e with e | e
      · exact hgF e
      · omega
    have hgbF : ∀ i ∈ F1, blkOf (some (⟨gb, 0, none⟩ : Addr)) ≠ some i := by
      intro i hi e
      have e2 : gb = i := Option.some.inj e
      have h1 := (unhide hL1).lt i hi
      have h2 := hB.own 0 (x := ⟨gb, kc bk, 36⟩) rfl
      dsimp only at h2
      omega
    simp only [List.size_toArray, List.length_cons, List.length_nil, Array.replicate, List.replicate]
    refine any_take (i := 0) (v := (.pointer (some ⟨g, 0, none⟩))) #[false, false, false, false, false, false, false, false] rfl (by kernel_rfl) (by kernel_rfl) (by kernel_rfl) (by kernel_rfl) (fun _ _ _ h => h) (.inl ⟨by kernel_rfl, fun x_ hu => by kernel_rfl⟩) hS1 ?_
    simp only [nrm]
    refine any_take (i := 1) (v := (.pointer (some ⟨gx, 1, none⟩))) #[true, false, false, false, false, false, false, false] rfl (by kernel_rfl) (by kernel_rfl) (by kernel_rfl) (by kernel_rfl) (fun _ _ _ h => h) (.inl ⟨by kernel_rfl, fun x_ hu => by kernel_rfl⟩) hS1 ?_
    simp only [nrm]
    refine any_take (i := 2) (v := (.int .u64 (t2 : Int))) #[true, true, false, false, false, false, false, false] rfl (by kernel_rfl) (by kernel_rfl) (by kernel_rfl) (by kernel_rfl) (fun _ _ _ h => h) (.inl ⟨by kernel_rfl, fun x_ hu => exec_u64 _ (.tmp 55) rfl gx 1 (by kernel_rfl) _ (by have h9 := (spv_cells hu).2.1; rw [unhide hnt] at h9; exact h9)⟩) hS1 ?_
    simp only [nrm]
    refine any_take (i := 3) (v := (.int .u64 (q2 : Int))) #[true, true, true, false, false, false, false, false] rfl (by kernel_rfl) (by kernel_rfl) (by kernel_rfl) (by kernel_rfl) (fun _ _ _ h => h) (.inl ⟨by kernel_rfl, fun x_ hu => by go_simp⟩) hS1 ?_
    simp only [nrm]
    refine any_take (i := 4) (v := (.int .i64 (q2 : Int))) #[true, true, true, true, false, false, false, false] rfl (by kernel_rfl) (by kernel_rfl) (by kernel_rfl) (by kernel_rfl) (fun _ _ _ h => h) (.inl ⟨by kernel_rfl, fun x_ hu => by go_simp⟩) hS1 ?_
    simp only [nrm]
    refine any_take (i := 5) (v := (.slice (some ⟨gb, 0, none⟩) 64 64)) #[true, true, true, true, true, false, false, false] rfl (by kernel_rfl) (by kernel_rfl) (by kernel_rfl) (by kernel_rfl) (fun _ _ _ h => h) (.inl ⟨by kernel_rfl, fun x_ hu => by kernel_rfl⟩) hS1 ?_
    simp only [nrm]
    refine any_one (i := 6) (by kernel_rfl) rfl (fun K_ hQ => ?_)
    refine step_callw (by kernel_rfl) 59 #[P0 g, .int .i64 (q2 : Int), .slice (some ⟨gb, 0, none⟩) 64 64] (by kernel_rfl) ((slay_ok F1 g gd (m + ((n + 63) / 64 + 1)) h lg sl D1 hok1 x2 ((unhide hL1).gr hB.gr) (hB.gr.blk (unhide hS2)) hgF1 q2 (by have := unhide hq2; omega) bk (some ⟨gb, 0, none⟩) 64 64 (nw_lb0 (hB.get 0 (x := ⟨gb, kc bk, 36⟩) rfl) (unhide hkb).2 hkl (by omega)) (.inr hgbF) (by omega) (by omega)).mono ?_)
    rintro r v5 ⟨F2, rfl, hL2, hc2⟩
    refine ⟨_, rfl, ?_⟩
    have hZ : Hid (Tk F G g gd D.safe.length D s M w (.returned (.int .i64 (Dk.runD (layOps q2 bk) D1).2)) v5) := by
      have hr := unhide hrun
      rw [if_pos rfl] at hr
      have hcc := (unhide hch1).trans2 (hB.gr.chg hc2)
      refine ⟨F2, G, ?_, ?_, ?_, ?_, chg_app hcc G⟩
      · rw [hr]
      · rw [hr]; exact hL2
      · exact (((unhide hst1).gr hB.gr).chg hc2 (fun i hi => unhide hap1 i hi)).any _
      · intro i hi hg
        rcases hcc.new i hi with e | e
        · exact unhide hap i e hg
        · rw [unhide hGg, List.mem_singleton] at hg
          omega
    
    obtain ⟨e2, he2⟩ : ∃ x, x = (Dk.runD (layOps q2 bk) D1).2 := ⟨_, rfl⟩
    rw [← he2] at hZ ⊢
    clear he2
    replace hS1 : (fun (v : World) => v.heap[gx]? = some (.cells (spv nx) 85 (0, 0))) v5 := hc2.blk hS1 (unhide hgxF1)
    clear hB hL2 hc2
    refine hQ.out _ _ hS1 (fun _ => ?_)
    clear hQ K_
    simp only [nrm]
    refine any_one (i := 7) (by kernel_rfl) rfl (fun K_ hQ => ?_)
    replace hQ := hide hQ
    go_simp
    refine (unhide hQ).out _ _ hS1 (fun _ => ?_)
    clear hQ K_
    refine any_done (by kernel_rfl) ?_
    clear hS1
    go_wp2_with fail
    rw [unhide hT]
    exact unhide hZ
  have hZ : Hid (Tk F G g gd D.safe.length D s M w (.returned (.int .i64 e1)) v1) := by
    have hr := unhide hrun
    rw [if_neg hz] at hr
    refine ⟨F1, G, ?_, ?_, (unhide hst1).any _, unhide hap1, chg_app (unhide hch1) G⟩
    · rw [hr]
    · rw [hr]; exact unhide hL1
  go_wp2_with fail
  rw [unhide hT]
  exact unhide hZ
theorem run_append_zeros (w : World) (ty : TypeId) (b : Addr) (olds : List Value) (hlo : olds.length = 64) (holds : ∀ j v, olds[j]? = some v → w.cell? (b.add j) = some v) :
    (Builtin.append_ #[33, 3] ty #[.slice (some b) 64 64, .int .i64 64]).run Tryz.prog w =
      .ok (.slice (some ⟨w.heap.size, 0, none⟩) 128 (grownCap w 128 64 5))
        (w.drew.alloc (.cells (olds.toArray ++ Builtin.zeroCells (Value.int .u8 0).cells 64 ++ Builtin.zeroCells (Value.int .u8 0).cells (grownCap w 128 64 5 - 128)) 5)) := by
  obtain ⟨i0, hi, hz0, hz1, hz2⟩ := info_parts Tryz.info5
  have hfo := run_firstCells_some (P := Tryz.prog) w.drew i0.size 64 b 64 64 olds (by rw [hlo, hz1]) (by simpa using holds)
  rw [hz1] at hfo
  have hfit : ¬ (281474976710656 < Builtin.nextslicecap 128 64) := by decide
  simp [Builtin.append_, run_underlying Tryz.underlying33, run_underlying Tryz.underlying3, sizeOf, typeInfo, zeroValue, hi, hz0, hz1, hz2, asInt, asIntOf, IntKind.wrap_i64, Question.forced, hfo, newRow, grownCap, hfit]
  intro h
  exfalso
  omega
theorem zero64 : Builtin.zeroCells (Value.int .u8 0).cells 64 = kc ZB := by kernel_rfl
theorem app_zeros {w : World} {ops : Array Oper} {rest : List Oper} {o : Oper} {a : Act} {Q : Exit → Act → World → Prop} (hw : Region.wanted o (yielded ops a.tmps) = true) (s : Operand)
    (ho : o.op = .call { callee := .builtin .append, args := #[s, .const (.int .i64 64)], argTypes := #[33, 3] }) (g : Nat) (B : List Int) (hB : BB B) (hs : a.eval s = .slice (some ⟨g, 0, none⟩) 64 64) (hat : At w g 0 B)
    (h : ∀ a' c' w', Lb w' a' 128 c' (B ++ ZB) → (∀ i, blkOf a' = some i → w.heap.size ≤ i) → Gr w w' → wpList Tryz.prog ops Q rest (a.put o.dst (.slice a' 128 c')) w') :
    wpList Tryz.prog ops Q (o :: rest) a w := by
  have hl := hB.1
  rw [wpList, if_pos hw]
  refine Or.inl ?_
  have hold : ∀ j v, (B.map (Value.int .u8))[j]? = some v → w.cell? ((⟨g, 0, none⟩ : Addr).add j) = some v := by
    intro j v hj
    have hjl : j < B.length := by have := (List.getElem?_eq_some_iff.1 hj).1; simpa using this
    rw [Addr.add_mid, hat j hjl]
    simp [hjl] at hj ⊢
    exact hj
  have hrun := run_append_zeros w o.type ⟨g, 0, none⟩ (B.map (Value.int .u8)) (by rw [List.length_map, hl]) hold
  have hcm := grownCap_le_maxLen w 128 64 5 (by unfold maxLen; omega)
  have hcg := grownCap_ge w 128 64 5
  have hev : a.eval (.const (.int .i64 64)) = .int .i64 64 := rfl
  unfold Oper.wp
  simp only [execOp, ho, resolve, invoke, builtin, Sem.run_bind, Sem.run_pure, Result.andThen_ok, List.map_toArray, List.map_cons, List.map_nil, hs, hev, hrun]
  refine h _ _ _ ⟨by rw [List.length_append, hl]; rfl, isB_app hB.2 ZB_bb.2, .inr ⟨_, 0, rfl, fun j hj => ?_⟩, hcg, by unfold maxLen at hcm; omega⟩ (fun i hi => ?_) ((Gr.refl w).drew.alloc _)
  · rw [List.length_append, hl, ZB_len] at hj
    rw [Nat.zero_add]
    refine cell_of (blk_new w.drew _) ?_
    rw [zero64, Array.getElem?_append_left (by simp [kc_size, hl, ZB_len]; omega)]
    unfold kc
    rw [List.append_toArray, List.getElem?_toArray, ← List.map_append, List.getElem?_map, List.getElem?_eq_getElem (by rw [List.length_append, hl, ZB_len]; exact hj)]
    simp [List.getD_eq_getElem?_getD, List.getElem?_eq_getElem (show j < (B ++ ZB).length from by rw [List.length_append, hl, ZB_len]; exact hj)]
  · have e : w.heap.size = i := Option.some.inj hi
    omega
theorem fmt_lay : fmtOps = layOps 0 (sup0.blk ++ ZB) := by
  have hb := (blk_bb sup0_ok).1
  unfold fmtOps
  generalize sup0.blk = bk at *
  have hl : (bk ++ ZB).length = 128 := by rw [List.length_append, hb]; rfl
  have e : wrs 0 (bk ++ ZB) 2 = [(0, chk (bk ++ ZB) 0), (1, chk (bk ++ ZB) 1)] := rfl
  have e0 : chk (bk ++ ZB) 0 = bk := by
    unfold chk
    rw [Nat.mul_zero, List.drop_zero, take_app bk ZB 64 hb, hb, Nat.sub_self, List.replicate_zero, List.append_nil]
  have e1 : chk (bk ++ ZB) 1 = ZB := by
    unfold chk
    have h1 : (bk ++ ZB).drop (64 * 1) = ZB := by
      have h := drop_app bk ZB 64 0 hb
      exact h
    rw [h1, List.take_of_length_le (by rw [ZB_len]; omega), ZB_len, Nat.sub_self, List.replicate_zero, List.append_nil]
  unfold layOps
  rw [hl, show (128 + 63) / 64 = 2 from rfl, e, e0, e1]
  rfl
theorem eturn_ok (F G : List Nat) (g gd m : Nat) (D : Dk) (s : Sup) (L : List Int) (hD : D.Ok m) (hm : m ≤ 900000) (hd : D.dead = false) (hn : 64 ≤ D.safe.length) (w : World) (h : Lies F gd D w) (hs : Sto G g gd D.safe.length s w) (ho : Os D ((D.safe.length - 2) / 4) s L) (hf : Fst w) : Calls Tryz.prog 14 #[P0 g] w (Vl (.int .u64 (s.turn : Int)) w) := turn_ok F G g gd m D s hD hm hd (by omega) w h hs ho.cnt hf
def Fmt (F : List Nat) (gd : Nat) (D : Dk) (w : World) (r : Ending) (w' : World) : Prop := ∃ g F' G, r = .returned (.tuple #[P0 g, .int .i64 0]) ∧ Lies F' gd (Dk.runD fmtOps D).1 w' ∧ Sto G g gd D.safe.length sup0 w' ∧ (∀ i ∈ G, w.heap.size ≤ i) ∧ (∀ i ∈ F', i ∉ G) ∧ Chg F F' w w'
set_option maxHeartbeats 4000000 in
theorem eformat_ok (F : List Nat) (gd m : Nat) (D : Dk) (hD : D.Ok m) (hm : m ≤ 900000) (hd : D.dead = false) (hl : D.left = -1) (hn : 64 ≤ D.safe.length) (w : World) (hL : Lies F gd D w) (hf : Fst w) (h0 : 0 ∉ F) : Calls Tryz.prog 29 #[P0 gd] w (Fmt F gd D w) := by
  obtain ⟨T, hT⟩ : ∃ T, T = Fmt F gd D w := ⟨_, rfl⟩
  rw [← hT]
  replace hT := hide hT
  have h512 := hD.hi1
  obtain ⟨hz, -, hsz, -, -⟩ := fmt_all hD hd hl hn
  have hFl := hL.lt
  have hkb := blk_bb sup0_ok
  have hfl := fmt_lay
  have he0 : (⟨0, 0, 0, sh16 []⟩ : Sup) = sup0 := by simp only [sup0]
  obtain ⟨bk, hbk⟩ : ∃ x, x = sup0.blk := ⟨_, rfl⟩
  rw [← hbk] at hkb hfl
  have hkl := hkb.1
  have hok0 := sup0_ok
  have h0l := hok0.hl
  obtain ⟨h, lg, sl, hh, hlg, hsl, hq⟩ := stN_is D.safe.length gd
  replace hL := hide hL; replace hD := hide hD; replace hf := hide hf; replace hz := hide hz; replace hsz := hide hsz; replace hFl := hide hFl; replace hkb := hide hkb; replace hfl := hide hfl; replace he0 := hide he0; replace hbk := hide hbk; replace hok0 := hide hok0; replace hq := hide hq
  clear hh hlg hsl
  go_enter Tryz.func29, Tryz.ntmps29
  go_upto_region 1 with fail
  have hB := Bl.nil w
  refine wp_region_lit ?_
  refine list_val (.pointer (some ⟨gd, 0, none⟩)) (by kernel_rfl) (by kernel_rfl) ?_
  simp only [nrm]
  refine list_call 56 #[P0 gd] (by kernel_rfl) (by kernel_rfl) ((on_ok F gd m D (unhide hD) hm hn w (unhide hL)).mono ?_)
  rintro r u1 ⟨gs, rfl, hg1, hg2, hg⟩
  replace hB := hB.join hg [⟨gs, stN D.safe.length gd, 80⟩] (by intro x hx; rw [List.mem_singleton] at hx; subst hx; exact ⟨hg2, hg1⟩) (List.pairwise_singleton _ _)
  replace hB : Bl w [⟨gs, stN D.safe.length gd, 80⟩] u1 := hB
  clear hg hg2
  refine ⟨_, rfl, ?_⟩
  simp only [nrm]
  refine list_val (.tuple #[.pointer (some ⟨gs, 0, none⟩), .int .i64 0]) (by kernel_rfl) (by kernel_rfl) ?_
  simp only [nrm]
  refine list_val (.pointer (some ⟨gs, 0, none⟩)) (by kernel_rfl) (by kernel_rfl) ?_
  simp only [nrm]
  refine list_val (.int .i64 0) (by kernel_rfl) (by kernel_rfl) ?_
  simp only [nrm]
  (refine wpList_step fun K hK => ?_; replace hK := hide hK; go_simp; refine unhide hK _ _ ?_; clear hK K)
  (refine wpList_step fun K hK => ?_; replace hK := hide hK; go_simp; refine unhide hK _ _ ?_; clear hK K)
  refine wpList_nil ?_
  replace hB := hide hB
  go_upto_region 4 with fail
  replace hB := unhide hB
  refine wp_region_lit ?_
  refine list_call 57 #[.int .u8 ((0 : Nat) : Int), .int .u64 ((0 : Nat) : Int), .slice none 0 0] (by kernel_rfl) (by kernel_rfl) ((describe_ok 0 0 (by omega) (by omega) [] none 0 0 _ (Lb.nil _) (by omega) ((unhide hf).gr hB.gr)).mono ?_)
  rintro r u2 ⟨rfl, hg⟩
  rw [unhide he0]
  replace hB := hB.more hg
  clear hg he0
  generalize sup0 = s0 at *
  refine ⟨_, rfl, ?_⟩
  simp only [nrm]
  refine list_call 58 #[.agg (spv s0)] (by kernel_rfl) (by kernel_rfl) ((sblock_ok s0 (unhide hok0) _ ((unhide hf).gr hB.gr)).mono ?_)
  rintro r u3 ⟨rfl, hg⟩
  rw [← unhide hbk]
  replace hB := hB.more hg
  clear hg
  refine ⟨_, rfl, ?_⟩
  simp only [nrm]
  refine list_valw (.pointer (some ⟨u3.heap.size, 0, none⟩)) (u3.alloc (.cells (kc ZB) 36 (0, 0))) (by kernel_rfl) (by kernel_rfl) ?_
  replace hB := hB.new (kc ZB) 36
  simp only [List.nil_append, List.cons_append] at hB
  generalize World.alloc _ _ = u4 at *
  generalize u3.heap.size = gf at *
  replace hB : Bl w [⟨gs, stN D.safe.length gd, 80⟩, ⟨gf, kc ZB, 36⟩] u4 := hB
  simp only [nrm]
  refine list_store 36 (.tmp 6) (.tmp 17) (gf) (kc bk) 36 (kc ZB) (by kernel_rfl) rfl (by kernel_rfl) (by kernel_rfl) (hB.get 1 (x := ⟨gf, kc ZB, 36⟩) rfl) (by rw [Tryz.infoB, kc_size, hkl]) ((show (kc ZB).size = 64 from rfl).trans ((kc_size _).trans hkl).symm) (kc_one _) ?_
  replace hB := hB.set 1 (x := ⟨gf, kc ZB, 36⟩) rfl (kc bk)
  simp only [List.set_cons_zero, List.set_cons_succ] at hB
  generalize World.setRow _ _ _ = u5 at *
  replace hB : Bl w [⟨gs, stN D.safe.length gd, 80⟩, ⟨gf, kc bk, 36⟩] u5 := hB
  simp only [nrm]
  refine wpList_nil ?_
  replace hB := hide hB
  go_upto_region 5 with fail
  replace hB := unhide hB
  refine wp_region_lit ?_
  refine list_val (.pointer (some ⟨gs, 0, none⟩)) (by kernel_rfl) (by kernel_rfl) ?_
  simp only [nrm]
  refine list_val (.slice (some ⟨gf, 0, none⟩) 64 64) (by kernel_rfl) (by kernel_rfl) ?_
  simp only [nrm]
  refine app_zeros (by kernel_rfl) (.tmp 19) rfl gf bk (unhide hkb) (by kernel_rfl) (kc_at (hB.get 1 (x := ⟨gf, kc bk, 36⟩) rfl)) ?_
  intro az cz u6 hlz hfz hg
  have hfz2 : Hid (∀ i ∈ F, blkOf az ≠ some i) := fun i hi e => by
    have h1 := hfz i e
    have h2 := unhide hFl i hi
    have h3 := hB.gr.size
    omega
  replace hB := hB.more hg
  replace hlz := hide hlz
  clear hfz hg
  simp only [nrm]
  refine list_call 59 #[P0 gs, .int .i64 ((0 : Nat) : Int), .slice az 128 cz] (by kernel_rfl) (by kernel_rfl) ((slay_ok F gs gd m h lg sl D (unhide hD) u6 ((unhide hL).gr hB.gr) (by rw [← unhide hq]; exact (hB.get 0 (x := ⟨gs, stN D.safe.length gd, 80⟩) rfl)) (fun e => by have h2 := unhide hFl gs e; omega) 0 (by omega) (bk ++ ZB) az 128 cz (unhide hlz) (.inr (unhide hfz2)) (by omega) (by omega)).mono ?_)
  rintro r u7 ⟨F', rfl, hL7, hc7⟩
  rw [← unhide hfl, unhide hz]
  have hZ : Hid (Fmt F gd D w (.returned (.tuple #[P0 gs, .int .i64 0])) u7) := by
    rw [← unhide hfl] at hL7
    have hcc := hB.gr.chg hc7
    refine ⟨gs, F', [gs], rfl, hL7, ⟨rfl, hc7.blk (hB.get 0 (x := ⟨gs, stN D.safe.length gd, 80⟩) rfl) (fun e => by have h2 := unhide hFl gs e; omega)⟩, fun i hi => ?_, fun i hi hg => ?_, hcc⟩
    · rw [List.mem_singleton] at hi
      rw [hi]
      exact hg1
    · rw [List.mem_singleton] at hg
      rw [hg] at hi
      rcases hc7.new gs hi with e | e
      · have h2 := unhide hFl gs e
        omega
      · have h2 := lt_of_block (hB.get 0 (x := ⟨gs, stN D.safe.length gd, 80⟩) rfl)
        dsimp only at h2
        omega
  refine ⟨_, rfl, ?_⟩
  clear hB hL7 hc7
  simp only [nrm]
  (refine wpList_step fun K hK => ?_; replace hK := hide hK; go_simp; refine unhide hK _ _ ?_; clear hK K)
  refine wpList_nil ?_
  go_wp2_with fail
  rw [unhide hT]
  exact unhide hZ
def Shut (D : Dk) (h : Nat) : Prop := (cntS (D.cur 0) (D.cur 1)).2 = false ∨ ∃ s, cntS (D.cur 0) (D.cur 1) = (s, true) ∧ (64 * h < s.size ∨ (s.size ≤ 64 * h ∧ ¬ sh16 (D.snap h s) = s.hash))
structure Xs (w : World) (F G : List Nat) (g gd : Nat) (D : Dk) (s : Sup) (v : World) : Prop where
  gr : Gr w v
  ls : Lies F gd D v
  st : Sto G g gd D.safe.length s v
  oF : ∀ i ∈ F, w.heap.size ≤ i
  oG : ∀ i ∈ G, w.heap.size ≤ i
  ap : ∀ i ∈ F, i ∉ G
theorem Xs.more {w : World} {F G : List Nat} {g gd : Nat} {D : Dk} {s : Sup} {v u : World} (h : Xs w F G g gd D s v) (k : Gr v u) : Xs w F G g gd D s u := ⟨h.gr.trans k, h.ls.gr k, h.st.gr k, h.oF, h.oG, h.ap⟩
theorem fst_size {w : World} (h : Fst w) : 0 < w.heap.size := lt_of_cell (h 0 (.int .u32 1779033703) rfl)
theorem Xs.none_ {w : World} {F G : List Nat} {g gd : Nat} {D : Dk} {s : Sup} {v : World} (h : Xs w F G g gd D s v) (hf : Fst w) : 0 ∉ F ∧ 0 ∉ G := ⟨fun e => by have := h.oF 0 e; have := fst_size hf; omega, fun e => by have := h.oG 0 e; have := fst_size hf; omega⟩
theorem Xs.dsk {w : World} {F G F' : List Nat} {g gd : Nat} {D E : Dk} {s : Sup} {v u : World} (h : Xs w F G g gd D s v) (hE : E.safe.length = D.safe.length) (hL : Lies F' gd E u) (c : Chg F F' v u) : Xs w F' G g gd E s u := by
  refine ⟨Chg.own h.gr c h.oF, hL, by rw [hE]; exact h.st.chg c h.ap, fun i hi => (c.new i hi).elim (h.oF i) (fun e => Nat.le_trans h.gr.size e), h.oG, fun i hi hg => ?_⟩
  rcases c.new i hi with e | e
  · exact h.ap i e hg
  · have := h.st.lt i hg
    omega
end Go.Proofs.YtaoiejgjdmakjaaGreatDoor

namespace Go.Proofs.YtaoiejgjdmakjaaGreatDoor
open Go.ChangeShapes Go.WideShapes Go.ChangeAt Go.RowKit
set_option maxRecDepth 100000
set_option linter.unusedVariables false
set_option linter.unusedSimpArgs false
theorem open_nums {H : Type} {enc : TypeId × Value → H} {W : World} {t e : TypeId} {k : IntKind} {n fuel : Nat} {cs : List Value} {x : DataW H × List MemPlace} (ht : Tryz.prog.underlying t = some (.array n e)) (he : Tryz.prog.underlying e = some (.int k)) (hc : Tryz.prog.cellsOf e = 1) (hn : Tryz.prog.cellsOf t = n)
    (h : DataW.trod enc Tryz.prog W 0 (fun _ => true) true fuel t cs = some x) : ∃ zs : List Int, cs = zs.map (Value.int k) ∧ zs.length = n ∧ ∀ z ∈ zs, (Lit.int k z).wf = true := by
  obtain ⟨xs, m, _, hx, hl, hxl, hh⟩ := DataW.trod_array ht h
  rw [hn] at hl
  have hce : ∀ i, i < n → ∃ z, cs[i]? = some (.int k z) ∧ (Lit.int k z).wf = true := by
    intro i hi
    have h1 := hh i hi
    rw [hc, Nat.mul_one, List.getElem?_eq_getElem (by omega)] at h1
    obtain ⟨z, e, _, hw⟩ := DataW.trod_int he h1
    refine ⟨z, ?_, hw⟩
    have h2 : ((cs.drop i).take 1)[0]? = some (.int k z) := by rw [e]; rfl
    simpa using h2
  refine ⟨cs.map (fun v => match v with | .int _ z => z | _ => 0), ?_, by simp [hl], ?_⟩
  · apply List.ext_getElem?
    intro i
    rcases Nat.lt_or_ge i n with hi | hi
    · obtain ⟨z, h1, _⟩ := hce i hi
      simp [h1]
    · rw [List.getElem?_eq_none (by omega), List.getElem?_eq_none (by simp; omega)]
  · intro z hz
    obtain ⟨v, hv, rfl⟩ := List.mem_map.1 hz
    obtain ⟨i, hi⟩ := List.getElem?_of_mem hv
    have hi2 : i < n := by have := (List.getElem?_eq_some_iff.1 hi).1; omega
    obtain ⟨z, h1, h2⟩ := hce i hi2
    rw [hi] at h1
    obtain rfl := Option.some.inj h1
    exact h2
theorem Tryz.cellsBk : Tryz.prog.cellsOf 36 = 64 := by kernel_rfl
theorem Tryz.cellsU8 : Tryz.prog.cellsOf 5 = 1 := by kernel_rfl
theorem wf_b8 {x : Int} (h : (Lit.int .u8 x).wf = true) : 0 ≤ x ∧ x < 256 := by
  have := bounds_u8 h
  omega
theorem open_blkc {H : Type} {enc : TypeId × Value → H} {W : World} {fuel : Nat} {cs : List Value} {x : DataW H × List MemPlace} (h : DataW.trod enc Tryz.prog W 0 (fun _ => true) true fuel 36 cs = some x) : ∃ b, cs = bv b ∧ BB b := by
  obtain ⟨zs, h1, h2, h3⟩ := open_nums Tryz.underlying36 Tryz.underlying5 Tryz.cellsU8 Tryz.cellsBk h
  exact ⟨zs, h1, h2, fun z hz => wf_b8 (h3 z hz)⟩
structure Lr (k : Nat) (W : World) (a : Option Addr) (n c : Nat) (R : List (List Value)) : Prop where
  len : R.length = n
  sl : n = 0 ∨ ∃ p o, a = some ⟨p, o, none⟩ ∧ ∀ i, i < n → W.rangeAt p (o + k * i) (R.getD i [])
  cap : n ≤ c
  max : c < 9223372036854775808
theorem Lr.gr {k : Nat} {w v : World} {a : Option Addr} {n c : Nat} {R : List (List Value)} (h : Lr k w a n c R) (g : Gr w v) : Lr k v a n c R := by
  refine ⟨h.len, ?_, h.cap, h.max⟩
  rcases h.sl with h | ⟨p, o, h1, h2⟩
  · exact .inl h
  · exact .inr ⟨p, o, h1, fun i hi => range_gr (h2 i hi) g⟩
theorem open_rows {H : Type} {enc : TypeId × Value → H} {W : World} {t e : TypeId} {k : Nat} (ht : Tryz.prog.underlying t = some (.slice e)) (hk : Tryz.prog.cellsOf e = k) (hk0 : 0 < k) {α : Type} (z : α) (f : α → List Value) (Ok : α → Prop) (hlen : ∀ o, Ok o → (f o).length = k)
    (each : ∀ (fuel : Nat) (cs : List Value) (x : DataW H × List MemPlace), DataW.trod enc Tryz.prog W 0 (fun _ => true) true fuel e cs = some x → ∃ o, cs = f o ∧ Ok o)
    {fuel : Nat} {cs : List Value} {x : DataW H × List MemPlace} (hf : DataW.trod enc Tryz.prog W 0 (fun _ => true) true fuel t cs = some x) : ∃ a len cap l, cs = [.slice a len cap] ∧ Lr k W a len cap ((l : List α).map f) ∧ ∀ o ∈ l, Ok o := by
  rcases DataW.trod_slice ht hf with ⟨hcs, _⟩ | ⟨ad, len, cap, elems, rest, n, _, hcs, hx, hb, hl, hm, hlen2, hel, hsp, hns⟩
  · exact ⟨none, 0, 0, [], hcs, ⟨rfl, .inl rfl, Nat.le_refl _, by omega⟩, fun o h => by cases h⟩
  · have each2 : ∀ i, ∃ o : α, i < len → (∀ j, j < k → W.cell? (ad.add (i * k + j)) = (f o)[j]?) ∧ Ok o := by
      intro i
      by_cases hi : i < len
      · have hy : elems[i]? = some (elems[i]'(by omega)) := List.getElem?_eq_getElem (by omega)
        have h1 := hel i hi
        rw [hy, hk, Option.bind_eq_some_iff] at h1
        obtain ⟨cs', hcs', hy'⟩ := h1
        obtain ⟨o, e, ho⟩ := each _ _ _ hy'
        obtain ⟨_, hl4, hc4⟩ := World.cells?_some hcs'
        refine ⟨o, fun _ => ⟨fun j hj => ?_, ho⟩⟩
        have h9 := hc4 j hj
        rw [Deep.add_add] at h9
        rw [h9, e]
      · exact ⟨z, fun h => absurd h hi⟩
    obtain ⟨g, hg⟩ := Classical.axiomOfChoice each2
    refine ⟨some ad, len, cap, (List.range len).map g, hcs, ⟨by simp, ?_, hl, by unfold maxLen at hm; omega⟩, ?_⟩
    · rcases Nat.eq_zero_or_pos len with h0 | h0
      · exact .inl h0
      · right
        obtain ⟨b, off, spot⟩ := ad
        obtain ⟨h1, h2⟩ := hg 0 h0
        have h1 := h1 0 hk0
        have hspot : spot = none := by
          rw [List.getElem?_eq_getElem (by rw [hlen _ h2]; exact hk0)] at h1
          simpa [Addr.add] using World.cell?_spot h1
        subst hspot
        refine ⟨b, off, rfl, fun i hi => ?_⟩
        obtain ⟨h3, h4⟩ := hg i hi
        have e : (((List.range len).map g).map f).getD i [] = f (g i) := by simp [hi]
        rw [e]
        intro q v hq
        have hqk : q < k := by have := (List.getElem?_eq_some_iff.1 hq).1; rw [hlen _ h4] at this; exact this
        have h5 := h3 q hqk
        rw [Addr.add_mid, hq] at h5
        rw [Nat.add_assoc, Nat.mul_comm k i]
        exact h5
    · intro o ho
      obtain ⟨i, hi, rfl⟩ := List.mem_map.1 ho
      exact (hg i (List.mem_range.1 hi)).2
theorem open_blks {H : Type} {enc : TypeId × Value → H} {W : World} {a : Option Addr} {len cap : Nat} {d : DataW H} {p : List MemPlace}
    (h : DataW.Trod enc Tryz.prog W 0 (fun _ => true) true 22 (.slice a len cap) d p) : ∃ l : List (List Int), Lr 64 W a len cap (l.map bv) ∧ ∀ b ∈ l, BB b := by
  obtain ⟨fuel, hf⟩ := h
  obtain ⟨a2, l2, c2, l, e, h1, h2⟩ := open_rows Tryz.underlying22 Tryz.cellsBk (by omega) [] bv BB (fun b hb => by rw [bv_len, hb.1]) (fun fuel cs x h => open_blkc h) hf
  simp [Value.cells] at e
  obtain ⟨rfl, rfl, rfl⟩ := e
  exact ⟨l, h1, h2⟩
end Go.Proofs.YtaoiejgjdmakjaaGreatDoor
