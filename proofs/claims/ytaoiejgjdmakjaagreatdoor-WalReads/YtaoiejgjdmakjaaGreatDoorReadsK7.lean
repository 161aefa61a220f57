/-
  Of layer 12: what the proof leans on.
-/
import Derived.Test.YtaoiejgjdmakjaaGreatDoorReadsK6
namespace Go.Proofs.YtaoiejgjdmakjaaGreatDoor
open Go.RowKit
set_option maxRecDepth 100000
set_option linter.unusedSimpArgs false
set_option linter.unusedVariables false
theorem Tryz.infoMk : (Tryz.prog.info? 83).map (·.size) = some 16 := by kernel_rfl
theorem Tryz.infoSp : (Tryz.prog.info? 85).map (·.size) = some 19 := by kernel_rfl
theorem range_sub {v : World} {g : Nat} {b : List Int} {t : TypeId} (h : v.heap[g]? = some (.cells (kc b) t (0, 0))) (o n : Nat) : v.rangeAt g o (bv ((b.drop o).take n)) := fun j x hj => by
  refine cell_of h ?_
  unfold bv at hj
  unfold kc
  rw [List.getElem?_map, List.getElem?_take] at hj
  rw [List.getElem?_toArray, List.getElem?_map]
  split at hj
  · rw [List.getElem?_drop] at hj
    exact hj
  · cases hj
theorem list16 : ∀ (M : List Int), M.length = 16 → ∃ m0 m1 m2 m3 m4 m5 m6 m7 m8 m9 m10 m11 m12 m13 m14 m15, M = [m0, m1, m2, m3, m4, m5, m6, m7, m8, m9, m10, m11, m12, m13, m14, m15]
  | [m0, m1, m2, m3, m4, m5, m6, m7, m8, m9, m10, m11, m12, m13, m14, m15], _ => ⟨m0, m1, m2, m3, m4, m5, m6, m7, m8, m9, m10, m11, m12, m13, m14, m15, rfl⟩
def spl (s : Sup) : List Value := .int .u8 (s.place : Int) :: .int .u64 (s.turn : Int) :: .int .u32 (s.size : Int) :: bv s.hash
def spv (s : Sup) : Array Value := (spl s).toArray
def Z16 : List Int := List.replicate 16 0
def ZSp : Sup := ⟨0, 0, 0, Z16⟩
theorem spv_size {s : Sup} (h : s.hash.length = 16) : (spv s).size = 19 := by unfold spv spl bv; simp [h]
theorem spv_one (s : Sup) : (spv s).all (·.oneCell') = true := by
  unfold spv
  rw [List.all_toArray, List.all_eq_true]
  intro x hx
  unfold spl at hx
  simp only [List.mem_cons] at hx
  rcases hx with rfl | rfl | rfl | hx
  · rfl
  · rfl
  · rfl
  · exact bv_one' _ x hx
theorem exec_bsp {a : Act} {o : Oper} (w : World) (x y z t : Operand) (ho : o.op = .build 85 #[(0, x), (1, y), (2, z), (3, t)]) (s : Sup) (hb : s.hash.length = 16) (hx : a.eval x = .int .u8 (s.place : Int)) (hy : a.eval y = .int .u64 (s.turn : Int)) (hz : a.eval z = .int .u32 (s.size : Int)) (ht : a.eval t = .agg (kc s.hash)) :
    (execOp a.eval o).run Tryz.prog w = .ok (.value (.agg (spv s))) w := by
  obtain ⟨pl, tu, sz, hh⟩ := s
  dsimp only at *
  obtain ⟨m0, m1, m2, m3, m4, m5, m6, m7, m8, m9, m10, m11, m12, m13, m14, m15, rfl⟩ := list16 hh hb
  have h := run_build (P := Tryz.prog) w 85 #[(0, .int .u8 (pl : Int)), (1, .int .u64 (tu : Int)), (2, .int .u32 (sz : Int)), (3, .agg (kc [m0, m1, m2, m3, m4, m5, m6, m7, m8, m9, m10, m11, m12, m13, m14, m15]))] (spv ⟨pl, tu, sz, [m0, m1, m2, m3, m4, m5, m6, m7, m8, m9, m10, m11, m12, m13, m14, m15]⟩) (by kernel_rfl)
  unfold execOp
  simp only [ho, List.map_toArray, List.map_cons, List.map_nil, hx, hy, hz, ht, Sem.run_bind, h, Result.andThen_ok, Sem.run_pure]
theorem exec_afrom {a : Act} {o : Oper} (w : World) (x y : Operand) (ho : o.op = .slice 36 x (some y) none none) (g k : Nat) (hx : a.eval x = .pointer (some ⟨g, 0, none⟩)) (hy : a.eval y = .int .i64 k) (hk : k < 64) :
    (execOp a.eval o).run Tryz.prog w = .ok (.value (.slice (some ⟨g, k, none⟩) (64 - k) (64 - k))) w := by
  have e1 : (0 : Int) ≤ k := by omega
  have hu : Tryz.prog.underlying 36 = some (.array (Tryz.prog.arrayLen 36) (Tryz.prog.elem 36)) := by kernel_rfl
  have hl : Tryz.prog.arrayLen 36 = 64 := by kernel_rfl
  have hs : (sizeOf (Tryz.prog.elem 36)).run Tryz.prog w = .ok 1 w := by kernel_rfl
  have e2 : (k : Int) ≤ Tryz.prog.arrayLen 36 := by rw [hl]; omega
  have hne : ¬ 64 = k := by omega
  simp [execOp, ho, hx, hy, run_sliceAt_array_l _ _ _ hu _ _ e1 e2, hs, slicedAt, hl, hne, Addr.add_mid]
set_option maxHeartbeats 4000000 in
theorem digest_ok (B : List Int) (a : Option Addr) (n c : Nat) (w : World) (hB0 : Lb w a n c B) (hn : n ≤ 100000000) (hf : Fst w) : Calls Tryz.prog 40 #[.slice a n c] w (Vl (.agg (kc (sh16 B))) w) := by
  obtain ⟨T, hT⟩ : ∃ T, T = Vl (.agg (kc (sh16 B))) w := ⟨_, rfl⟩
  rw [← hT]
  replace hT := hide hT
  replace hB0 := hide hB0; replace hf := hide hf
  go_enter Tryz.func40, Tryz.ntmps40
  go_upto_region 1 with fail
  have hB := ((Bl.nil w).new #[.int .u8 0, .int .u8 0, .int .u8 0, .int .u8 0, .int .u8 0, .int .u8 0, .int .u8 0, .int .u8 0, .int .u8 0, .int .u8 0, .int .u8 0, .int .u8 0, .int .u8 0, .int .u8 0, .int .u8 0, .int .u8 0] 83)
  simp only [size_alloc, List.nil_append, List.cons_append] at hB
  generalize World.alloc _ _ = u at *
  replace hB : Bl w [⟨w.heap.size, kc Z16, 83⟩] u := hB
  refine wp_region_lit ?_
  refine list_val (.slice a n c) (by kernel_rfl) (by kernel_rfl) ?_
  simp only [nrm]
  refine list_call 69 #[.slice a n c] (by kernel_rfl) (by kernel_rfl) ((sum_ok B (unhide hB0).isB n (unhide hB0).len (by omega) a c (unhide hB0).cap (unhide hB0).max u ((unhide hf).gr hB.gr) ((unhide hB0).gr hB.gr).sl).mono ?_)
  rintro r u1 ⟨rfl, hg⟩
  replace hB := hB.more hg
  have kl := sumL_len B
  have kT : Hid (sh16 B = (sumL B).take 16) := rfl
  generalize sumL B = K at *
  generalize hH : sh16 B = H at *
  have hHl : H.length = 16 := by rw [unhide kT, List.length_take, kl]; rfl
  clear hg hH
  refine ⟨_, rfl, ?_⟩
  simp only [nrm]
  refine list_valw (.pointer (some ⟨u1.heap.size, 0, none⟩)) (u1.alloc (.cells (kc (List.replicate 32 0)) 124 (0, 0))) (by kernel_rfl) (by kernel_rfl) ?_
  replace hB := hB.new (kc (List.replicate 32 0)) 124
  simp only [List.nil_append, List.cons_append] at hB
  generalize World.alloc _ _ = u2 at *
  generalize u1.heap.size = h1 at *
  replace hB : Bl w [⟨w.heap.size, kc Z16, 83⟩, ⟨h1, kc (List.replicate 32 0), 124⟩] u2 := hB
  simp only [nrm]
  refine list_store 124 (.tmp 3) (.tmp 5) (h1) (kc K) 124 (kc (List.replicate 32 0)) (by kernel_rfl) rfl (by kernel_rfl) (by kernel_rfl) (hB.get 1 (x := ⟨h1, kc (List.replicate 32 0), 124⟩) rfl) (by rw [Tryz.infoKy, kc_size, kl]) (by rw [kc_size, kc_size, kl, List.length_replicate]) (kc_one _) ?_
  replace hB := hB.set 1 (x := ⟨h1, kc (List.replicate 32 0), 124⟩) rfl (kc K)
  simp only [List.set_cons_zero, List.set_cons_succ] at hB
  generalize World.setRow _ _ _ = u3 at *
  replace hB : Bl w [⟨w.heap.size, kc Z16, 83⟩, ⟨h1, kc K, 124⟩] u3 := hB
  simp only [nrm]
  refine wpList_nil ?_
  replace hB := hide hB
  go_upto_region 2 with fail
  replace hB := unhide hB
  refine wp_region_lit ?_
  refine list_val (.slice (some ⟨h1, 0, none⟩) 16 32) (by kernel_rfl) (by kernel_rfl) ?_
  simp only [nrm]
  refine list_val (.pointer (some ⟨h1, 0, none⟩)) (by kernel_rfl) (by kernel_rfl) ?_
  simp only [nrm]
  refine list_val (.agg (kc H)) (by kernel_rfl) (exec_row _ 83 (.tmp 7) rfl h1 0 (by kernel_rfl) (bv H) _ (by have h := range_sub (hB.get 1 (x := ⟨h1, kc K, 124⟩) rfl) 0 16; rw [List.drop_zero, ← unhide kT] at h; exact h) Tryz.underlying83 rfl (by rw [Tryz.infoMk, bv_len, hHl])) ?_
  simp only [nrm]
  refine list_store 83 (.tmp 2) (.tmp 8) (w.heap.size) (kc H) 83 (kc Z16) (by kernel_rfl) rfl (by kernel_rfl) (by kernel_rfl) (hB.get 0 (x := ⟨w.heap.size, kc Z16, 83⟩) rfl) (by rw [Tryz.infoMk, kc_size, hHl]) (by rw [kc_size, kc_size, hHl]; rfl) (kc_one _) ?_
  replace hB := hB.set 0 (x := ⟨w.heap.size, kc Z16, 83⟩) rfl (kc H)
  simp only [List.set_cons_zero, List.set_cons_succ] at hB
  generalize World.setRow _ _ _ = u4 at *
  replace hB : Bl w [⟨w.heap.size, kc H, 83⟩, ⟨h1, kc K, 124⟩] u4 := hB
  simp only [nrm]
  refine wpList_nil ?_
  replace hB := hide hB
  go_wp2_with fail
  replace hB := unhide hB
  rw [unhide hT]
  exact bodyPost_ret (v := .agg (kc H)) (results_cell_row Tryz.results40 _ _ (w.heap.size) 83 (kc H) (0, 0) _ rfl (hB.get 0 (x := ⟨w.heap.size, kc H, 83⟩) rfl) Tryz.underlying83 rfl (by rw [Tryz.infoMk, kc_size, hHl])) rfl (⟨rfl, hB.gr⟩)
set_option maxHeartbeats 4000000 in
theorem describe_ok (p t : Nat) (hp : p < 256) (ht : t < 18446744073709551616) (B : List Int) (a : Option Addr) (n c : Nat) (w : World) (hB0 : Lb w a n c B) (hn : n ≤ 100000000) (hf : Fst w) : Calls Tryz.prog 57 #[.int .u8 (p : Int), .int .u64 (t : Int), .slice a n c] w (Vl (.agg (spv ⟨p, t, n, sh16 B⟩)) w) := by
  obtain ⟨T, hT⟩ : ∃ T, T = Vl (.agg (spv ⟨p, t, n, sh16 B⟩)) w := ⟨_, rfl⟩
  rw [← hT]
  replace hT := hide hT
  have hHl := sh16_len B
  have hwn : IntKind.u32.wrap (n : Int) = (n : Int) := by rw [IntKind.wrap_u32]; omega
  replace hB0 := hide hB0; replace hf := hide hf
  go_enter Tryz.func57, Tryz.ntmps57
  go_upto_region 1 with fail
  have hB := ((Bl.nil w).new #[.int .u8 0, .int .u64 0, .int .u32 0, .int .u8 0, .int .u8 0, .int .u8 0, .int .u8 0, .int .u8 0, .int .u8 0, .int .u8 0, .int .u8 0, .int .u8 0, .int .u8 0, .int .u8 0, .int .u8 0, .int .u8 0, .int .u8 0, .int .u8 0, .int .u8 0] 85)
  simp only [size_alloc, List.nil_append, List.cons_append] at hB
  generalize World.alloc _ _ = u at *
  replace hB : Bl w [⟨w.heap.size, spv ZSp, 85⟩] u := hB
  refine wp_region_lit ?_
  refine list_val (.int .u8 (p : Int)) (by kernel_rfl) (by kernel_rfl) ?_
  simp only [nrm]
  refine list_val (.int .u64 (t : Int)) (by kernel_rfl) (by kernel_rfl) ?_
  simp only [nrm]
  refine list_val (.slice a n c) (by kernel_rfl) (by kernel_rfl) ?_
  simp only [nrm]
  refine list_val (.int .i64 n) (by kernel_rfl) (by kernel_rfl) ?_
  simp only [nrm]
  refine list_val (.int .u32 (n : Int)) (by kernel_rfl) (by go_simp) ?_
  simp only [nrm]
  refine list_val (.slice a n c) (by kernel_rfl) (by kernel_rfl) ?_
  simp only [nrm]
  refine list_call 40 #[.slice a n c] (by kernel_rfl) (by kernel_rfl) ((digest_ok B a n c u ((unhide hB0).gr hB.gr) hn ((unhide hf).gr hB.gr)).mono ?_)
  rintro r u1 ⟨rfl, hg⟩
  replace hB := hB.more hg
  clear hg
  generalize sh16 B = H at *
  refine ⟨_, rfl, ?_⟩
  simp only [nrm]
  refine list_val (.agg (spv ⟨p, t, n, H⟩)) (by kernel_rfl) (exec_bsp _ (.tmp 7) (.tmp 8) (.tmp 11) (.tmp 13) rfl ⟨p, t, n, H⟩ hHl (by kernel_rfl) (by kernel_rfl) (by kernel_rfl) (by kernel_rfl)) ?_
  simp only [nrm]
  refine list_store 85 (.tmp 6) (.tmp 14) (w.heap.size) (spv ⟨p, t, n, H⟩) 85 (spv ZSp) (by kernel_rfl) rfl (by kernel_rfl) (by kernel_rfl) (hB.get 0 (x := ⟨w.heap.size, spv ZSp, 85⟩) rfl) (by rw [Tryz.infoSp, spv_size hHl]) (by rw [spv_size (s := ⟨p, t, n, H⟩) hHl]; rfl) (spv_one _) ?_
  replace hB := hB.set 0 (x := ⟨w.heap.size, spv ZSp, 85⟩) rfl (spv ⟨p, t, n, H⟩)
  simp only [List.set_cons_zero, List.set_cons_succ] at hB
  generalize World.setRow _ _ _ = u4 at *
  replace hB : Bl w [⟨w.heap.size, spv ⟨p, t, n, H⟩, 85⟩] u4 := hB
  simp only [nrm]
  refine wpList_nil ?_
  replace hB := hide hB
  go_wp2_with fail
  replace hB := unhide hB
  rw [unhide hT]
  exact bodyPost_ret (v := .agg (spv ⟨p, t, n, H⟩)) (results_cell_row Tryz.results57 _ _ (w.heap.size) 85 (spv ⟨p, t, n, H⟩) (0, 0) _ rfl (hB.get 0 (x := ⟨w.heap.size, spv ⟨p, t, n, H⟩, 85⟩) rfl) Tryz.underlying85 rfl (by rw [Tryz.infoSp, spv_size hHl])) rfl ⟨rfl, hB.gr⟩
set_option maxHeartbeats 4000000 in
theorem sput_ok (ga gb k : Nat) (C S : List Int) (hC : C.length = 64) (a : Option Addr) (n c : Nat) (w : World) (h1 : w.heap[ga]? = some (.cells #[.int .i64 (k : Int)] 3 (0, 0))) (h2 : w.heap[gb]? = some (.cells (kc C) 36 (0, 0))) (hS0 : Lb w a n c S) (hn : 0 < n) (hfit : k + n ≤ 64) : Calls Tryz.prog 81 #[.slice a n c, .pointer (some ⟨ga, 0, none⟩), .pointer (some ⟨gb, 0, none⟩)] w (fun r w' => r = .returned (.tuple #[]) ∧ w'.heap[ga]? = some (.cells #[.int .i64 ((k + n : Nat) : Int)] 3 (0, 0)) ∧ w'.heap[gb]? = some (.cells (kc (lay C k S)) 36 (0, 0)) ∧ Chg [ga, gb] [ga, gb] w w') := by
  obtain ⟨T, hT⟩ : ∃ T : Ending → World → Prop, T = fun r w' => r = .returned (.tuple #[]) ∧ w'.heap[ga]? = some (.cells #[.int .i64 ((k + n : Nat) : Int)] 3 (0, 0)) ∧ w'.heap[gb]? = some (.cells (kc (lay C k S)) 36 (0, 0)) ∧ Chg [ga, gb] [ga, gb] w w' := ⟨_, rfl⟩
  rw [← hT]
  replace hT := hide hT
  have hne : gb ≠ ga := ty_ne h2 h1 (by decide)
  obtain ⟨kn, hkn⟩ : ∃ x, x = k + n := ⟨_, rfl⟩
  have hw1 : IntKind.i64.wrap ((k : Int) + (n : Int)) = (kn : Int) := by rw [IntKind.wrap_i64]; omega
  have hB := ((Bc.nil [ga, gb] w).add ⟨ga, #[.int .i64 (k : Int)], 3⟩ h1 (.inl (by simp)) (fun y hy => by cases hy)).add ⟨gb, kc C, 36⟩ h2 (.inl (by simp)) (fun y hy => by simp at hy; subst hy; exact hne.symm)
  replace hB : Bc [ga, gb] w [⟨ga, #[.int .i64 (k : Int)], 3⟩, ⟨gb, kc C, 36⟩] w := hB
  clear h1 h2
  replace hS0 := hide hS0; replace hB := hide hB; replace hkn := hide hkn
  go_enter Tryz.func81, Tryz.ntmps81
  go_upto_region 0 with fail
  replace hB := unhide hB
  refine anyC_start 6 (fun (v : World) => v.heap[ga]? = some (.cells #[.int .i64 (k : Int)] 3 (0, 0))) (by kernel_rfl) ?_
  replace hB := hB.drew
  have hG := (Gr.refl w).drew
  generalize World.drew _ = x0 at *
  have hS : (fun (v : World) => v.heap[ga]? = some (.cells #[.int .i64 (k : Int)] 3 (0, 0))) x0 := (hB.get 0 (x := ⟨ga, #[.int .i64 (k : Int)], 3⟩) rfl)
  simp only [List.size_toArray, List.length_cons, List.length_nil, Array.replicate, List.replicate]
  refine anyC_take (i := 0) (v := (.int .i64 (k : Int))) (fun (v : World) => v.heap[ga]? = some (.cells #[.int .i64 (k : Int)] 3 (0, 0))) (fun _ h_ => h_) (.inr (by kernel_rfl)) rfl (by kernel_rfl) (by kernel_rfl) (by kernel_rfl) (by decide) (by kernel_rfl) (by decide) (fun _ _ _ h => h) (.inl ⟨by kernel_rfl, fun x_ hu => exec_i64 _ (.tmp 1) rfl ga 0 (by kernel_rfl) (k : Int) (cell_of hu (i := 0) rfl)⟩) hS ?_
  simp only [nrm]
  refine anyC_take (i := 1) (v := (.int .i64 (k : Int))) (fun (v : World) => v.heap[ga]? = some (.cells #[.int .i64 (k : Int)] 3 (0, 0))) (fun _ h_ => h_) (.inr (by kernel_rfl)) rfl (by kernel_rfl) (by kernel_rfl) (by kernel_rfl) (by decide) (by kernel_rfl) (by decide) (fun _ _ _ h => h) (.inl ⟨by kernel_rfl, fun x_ hu => exec_i64 _ (.tmp 1) rfl ga 0 (by kernel_rfl) (k : Int) (cell_of hu (i := 0) rfl)⟩) hS ?_
  simp only [nrm]
  refine anyC_take (i := 2) (v := (.slice (some ⟨gb, k, none⟩) (64 - k) (64 - k))) (fun (v : World) => v.heap[ga]? = some (.cells #[.int .i64 (k : Int)] 3 (0, 0))) (fun _ h_ => h_) (.inr (by kernel_rfl)) rfl (by kernel_rfl) (by kernel_rfl) (by kernel_rfl) (by decide) (by kernel_rfl) (by decide) (fun _ _ _ h => h) (.inl ⟨by kernel_rfl, fun x_ hu => exec_afrom _ (.tmp 2) (.tmp 5) rfl gb k (by kernel_rfl) (by kernel_rfl) (by omega)⟩) hS ?_
  simp only [nrm]
  refine anyC_take (i := 3) (v := (.slice a n c)) (fun (v : World) => v.heap[ga]? = some (.cells #[.int .i64 (k : Int)] 3 (0, 0))) (fun _ h_ => h_) (.inr (by kernel_rfl)) rfl (by kernel_rfl) (by kernel_rfl) (by kernel_rfl) (by decide) (by kernel_rfl) (by decide) (fun _ _ _ h => h) (.inl ⟨by kernel_rfl, fun x_ hu => by kernel_rfl⟩) hS ?_
  simp only [nrm]
  refine anyC_one (i := 4) (by kernel_rfl) rfl (fun K_ hQ => ?_)
  rw [if_pos (by kernel_rfl)]
  have hsl := (unhide hS0).len
  refine copy_wp (.tmp 6) (.tmp 7) rfl gb k (64 - k) (64 - k) a n c (by kernel_rfl) (by kernel_rfl) (C.map (Value.int .u8)) 36 (hB.get 1 (x := ⟨gb, kc C, 36⟩) rfl) S (by rw [hsl]; exact (Nat.min_eq_left (by omega)).symm) ((unhide hS0).gr hG).sl (by rw [hsl, List.length_map, hC]; omega) ?_
  have hcell := laid (S := S) (o := k) (hB.get 1 (x := ⟨gb, kc C, 36⟩) rfl) (by rw [hsl, hC]; omega)
  have hB2 := hB.but (setCells_bt (S.map (Value.int .u8)) x0 gb k) 1 (x := ⟨gb, kc C, 36⟩) rfl rfl hcell
  simp only [List.set_cons_zero, List.set_cons_succ] at hB2
  generalize World.setCells _ _ _ _ = x1 at *
  rw [hsl]
  clear hcell hB hS hG
  have hB : Bc [ga, gb] w [⟨ga, #[.int .i64 (k : Int)], 3⟩, ⟨gb, kc (lay C k S), 36⟩] x1 := hB2
  clear hB2
  generalize lay C k S = CL at *
  have hS : (fun (v : World) => v.heap[ga]? = some (.cells #[.int .i64 (k : Int)] 3 (0, 0))) x1 := (hB.get 0 (x := ⟨ga, #[.int .i64 (k : Int)], 3⟩) rfl)
  refine hQ.out _ _ hS (fun _ => ?_)
  clear hQ K_
  simp only [nrm]
  refine anyC_take (i := 5) (v := (.int .i64 (kn : Int))) (fun (v : World) => v.heap[ga]? = some (.cells #[.int .i64 (k : Int)] 3 (0, 0))) (fun _ h_ => h_) (.inr (by kernel_rfl)) rfl (by kernel_rfl) (by kernel_rfl) (by kernel_rfl) (by decide) (by kernel_rfl) (by decide) (fun _ _ _ h => h) (.inl ⟨by kernel_rfl, fun x_ hu => by go_simp⟩) hS ?_
  simp only [nrm]
  refine anyC_last (by kernel_rfl) rfl (fun K_ hQ => ?_)
  have c4 := cell_of (hB.get 0 (x := ⟨ga, #[.int .i64 (k : Int)], 3⟩) rfl) (i := 0) rfl
  have fz := froz_of (i := 0) (hB.get 0 (x := ⟨ga, #[.int .i64 (k : Int)], 3⟩) rfl)
  have hB2 := hB.cell 0 (x := ⟨ga, #[.int .i64 (k : Int)], 3⟩) rfl 0 (.int .i64 (kn : Int))
  simp only [List.set_cons_zero, List.set_cons_succ] at hB2
  replace hB2 : Bc [ga, gb] w [⟨ga, #[.int .i64 (kn : Int)], 3⟩, ⟨gb, kc CL, 36⟩] _ := hB2
  clear hB hS
  replace hB2 := hide hB2
  replace hQ := hide hQ
  dsimp only at c4 fz
  go_simp
  refine (unhide hQ).out _ _ ?_
  clear hQ K_ c4 fz
  have hB := unhide hB2
  clear hB2
  generalize World.setCell _ _ _ = x2 at *
  refine any_done (by kernel_rfl) ?_
  replace hB := hide hB
  go_wp2_with fail
  rw [unhide hT]
  exact bodyPost_end (results_none Tryz.results81 _ _ _) rfl ⟨rfl, by have h := (unhide hB).get 0 (x := ⟨ga, #[.int .i64 (kn : Int)], 3⟩) rfl; rw [← unhide hkn]; exact h, (unhide hB).get 1 (x := ⟨gb, kc CL, 36⟩) rfl, (unhide hB).chg⟩
theorem exec_w32 {op : Oper} {a : Act} (w : World) (x : Operand) (ho : op.op = .load 81 x) (g i : Nat) (hx : a.eval x = .pointer (some ⟨g, i, none⟩)) (v : Int) (hc : w.cell? ⟨g, i, none⟩ = some (.int .u32 v)) : (execOp a.eval op).run Tryz.prog w = .ok (.value (.int .u32 v)) w := by
  unfold execOp
  simp only [ho, hx, Instr.loadAt, Instr.sureAddr, Sem.run_bind, Sem.run_pure, Result.andThen_ok]
  go_simp
theorem Bl.neq {w v : World} {L : List Blk} (h : Bl w L v) (i j : Nat) {x y : Blk} (hi : L[i]? = some x) (hj : L[j]? = some y) (hij : i ≠ j) : x.g ≠ y.g := by
  obtain ⟨hil, rfl⟩ := List.getElem?_eq_some_iff.1 hi
  obtain ⟨hjl, rfl⟩ := List.getElem?_eq_some_iff.1 hj
  rcases Nat.lt_or_gt_of_ne hij with hlt | hlt
  · exact List.pairwise_iff_getElem.1 h.ne i j hil hjl hlt
  · exact (List.pairwise_iff_getElem.1 h.ne j i hjl hil hlt).symm
theorem map_set_g {L : List Blk} {i : Nat} {x : Blk} (hi : L[i]? = some x) (c : Array Value) (t : TypeId) : (L.set i ⟨x.g, c, t⟩).map (·.g) = L.map (·.g) := by
  apply List.ext_getElem?
  intro j
  rw [List.getElem?_map, List.getElem?_map]
  by_cases hji : j = i
  · subst hji
    rw [List.getElem?_set_self', hi]
    rfl
  · rw [List.getElem?_set_ne (fun e => hji e.symm)]
theorem Bl.chg2 {w u v : World} {L : List Blk} (h : Bl w L u) (i j : Nat) (hij : i ≠ j) {x y : Blk} (hi : L[i]? = some x) (hj : L[j]? = some y) (k : Chg [x.g, y.g] [x.g, y.g] u v) {c d : Array Value} (h1 : v.heap[x.g]? = some (.cells c x.t (0, 0))) (h2 : v.heap[y.g]? = some (.cells d y.t (0, 0))) : Bl w ((L.set i ⟨x.g, c, x.t⟩).set j ⟨y.g, d, y.t⟩) v := by
  have hj2 : (L.set i ⟨x.g, c, x.t⟩)[j]? = some y := by rw [List.getElem?_set_ne hij]; exact hj
  refine ⟨Chg.own h.gr k (fun q hq => ?_), fun z hz => ?_, ?_⟩
  · simp only [List.mem_cons, List.not_mem_nil, or_false] at hq
    rcases hq with rfl | rfl
    · exact h.own i hi
    · exact h.own j hj
  · obtain ⟨q, hq⟩ := List.mem_iff_getElem?.1 hz
    by_cases hqj : q = j
    · subst hqj
      rw [List.getElem?_set_self', hj2] at hq
      have hq : (⟨y.g, d, y.t⟩ : Blk) = z := Option.some.inj hq
      subst hq
      exact ⟨h2, by have := h.own q hj; exact this⟩
    · rw [List.getElem?_set_ne (fun e => hqj e.symm)] at hq
      by_cases hqi : q = i
      · subst hqi
        rw [List.getElem?_set_self', hi] at hq
        have hq : (⟨x.g, c, x.t⟩ : Blk) = z := Option.some.inj hq
        subst hq
        exact ⟨h1, by have := h.own q hi; exact this⟩
      · rw [List.getElem?_set_ne (fun e => hqi e.symm)] at hq
        exact ⟨k.blk (h.get q hq) (by simp only [List.mem_cons, List.not_mem_nil, or_false, not_or]; exact ⟨h.neq q i hq hi hqi, h.neq q j hq hj hqj⟩), h.own q hq⟩
  · have hp : (((L.set i ⟨x.g, c, x.t⟩).set j ⟨y.g, d, y.t⟩).map (·.g)).Pairwise (fun a b => a ≠ b) := by
      rw [map_set_g hj2, map_set_g hi]
      exact List.pairwise_map.2 h.ne
    exact List.pairwise_map.1 hp
theorem lay_zero (A S : List Int) (m : Nat) (h : S.length ≤ m) : lay (A ++ List.replicate m 0) A.length S = (A ++ S) ++ List.replicate (m - S.length) 0 := by
  unfold lay
  rw [List.take_left, List.drop_append, List.drop_eq_nil_of_le (by omega), List.nil_append, show A.length + S.length - A.length = S.length from by omega, List.drop_replicate, List.append_assoc]
theorem spv_cells {w : World} {g : Nat} {s : Sup} {t : TypeId} (h : w.heap[g]? = some (.cells (spv s) t (0, 0))) : w.cell? ⟨g, 0, none⟩ = some (.int .u8 (s.place : Int)) ∧ w.cell? ⟨g, 1, none⟩ = some (.int .u64 (s.turn : Int)) ∧ w.cell? ⟨g, 2, none⟩ = some (.int .u32 (s.size : Int)) := ⟨cell_of h (i := 0) rfl, cell_of h (i := 1) rfl, cell_of h (i := 2) rfl⟩
theorem spv_range {w : World} {g : Nat} {s : Sup} {t : TypeId} (h : w.heap[g]? = some (.cells (spv s) t (0, 0))) : w.rangeAt g 3 (bv s.hash) := fun j x hj => by
  refine cell_of h ?_
  unfold spv spl
  rw [List.getElem?_toArray, show 3 + j = j + 1 + 1 + 1 from by omega, List.getElem?_cons_succ, List.getElem?_cons_succ, List.getElem?_cons_succ]
  exact hj
theorem spv_hash {w : World} {g : Nat} {s : Sup} {t : TypeId} (h : w.heap[g]? = some (.cells (spv s) t (0, 0))) (hs : s.Ok) : Lb w (some ⟨g, 3, none⟩) 16 16 s.hash := by
  refine ⟨hs.hl, hs.hb, .inr ⟨g, 3, rfl, fun j hj => spv_range h j _ ?_⟩, Nat.le_refl _, by omega⟩
  unfold bv
  rw [List.getElem?_map, List.getElem?_eq_getElem hj]
  simp [List.getD_eq_getElem?_getD, hj]
theorem nw_lb0 {w : World} {g n : Nat} {L : List Int} {t : TypeId} (h : w.heap[g]? = some (.cells (kc L) t (0, 0))) (hb : IsB L) (hn : L.length = n) (hs : n < 9223372036854775808) : Lb w (some ⟨g, 0, none⟩) n n L := ⟨hn, hb, .inr ⟨g, 0, rfl, kc_at h⟩, Nat.le_refl _, hs⟩
theorem b48_of (s : Sup) (h : s.hash.length = 16) : ((((htr ++ [(s.place : Int), 0]) ++ lowL (s.turn : Int) 8) ++ lowL (s.size : Int) 4) ++ s.hash) ++ List.replicate 24 0 = s.b48 ++ List.replicate 16 0 := by
  unfold Sup.b48
  rw [show (24 : Nat) = 8 + 16 from rfl, ← List.replicate_append_replicate]
  simp only [List.append_assoc]
set_option maxHeartbeats 4000000 in
theorem sblock_ok (s : Sup) (hs : s.Ok) (w : World) (hf : Fst w) : Calls Tryz.prog 58 #[.agg (spv s)] w (Vl (.agg (kc s.blk)) w) := by
  obtain ⟨T, hT⟩ : ∃ T, T = Vl (.agg (kc s.blk)) w := ⟨_, rfl⟩
  rw [← hT]
  replace hT := hide hT
  obtain ⟨SK, hSK⟩ : ∃ X, X = spv s := ⟨_, rfl⟩
  rw [← hSK]
  have hp := hs.p
  have ht := hs.t
  have hz := hs.z
  have hhl := hs.hl
  replace hSK := hide hSK; replace hs := hide hs; replace hf := hide hf
  go_enter Tryz.func58, Tryz.ntmps58
  go_upto_region 2 with fail
  have hB := ((((Bl.nil w).new SK 85).new #[.int .u8 0, .int .u8 0, .int .u8 0, .int .u8 0, .int .u8 0, .int .u8 0, .int .u8 0, .int .u8 0, .int .u8 0, .int .u8 0, .int .u8 0, .int .u8 0, .int .u8 0, .int .u8 0, .int .u8 0, .int .u8 0, .int .u8 0, .int .u8 0, .int .u8 0, .int .u8 0, .int .u8 0, .int .u8 0, .int .u8 0, .int .u8 0, .int .u8 0, .int .u8 0, .int .u8 0, .int .u8 0, .int .u8 0, .int .u8 0, .int .u8 0, .int .u8 0, .int .u8 0, .int .u8 0, .int .u8 0, .int .u8 0, .int .u8 0, .int .u8 0, .int .u8 0, .int .u8 0, .int .u8 0, .int .u8 0, .int .u8 0, .int .u8 0, .int .u8 0, .int .u8 0, .int .u8 0, .int .u8 0, .int .u8 0, .int .u8 0, .int .u8 0, .int .u8 0, .int .u8 0, .int .u8 0, .int .u8 0, .int .u8 0, .int .u8 0, .int .u8 0, .int .u8 0, .int .u8 0, .int .u8 0, .int .u8 0, .int .u8 0, .int .u8 0] 36).new #[.int .u8 0, .int .u8 0, .int .u8 0, .int .u8 0, .int .u8 0, .int .u8 0, .int .u8 0, .int .u8 0, .int .u8 0, .int .u8 0, .int .u8 0, .int .u8 0, .int .u8 0, .int .u8 0, .int .u8 0, .int .u8 0, .int .u8 0, .int .u8 0, .int .u8 0, .int .u8 0, .int .u8 0, .int .u8 0, .int .u8 0, .int .u8 0, .int .u8 0, .int .u8 0, .int .u8 0, .int .u8 0, .int .u8 0, .int .u8 0, .int .u8 0, .int .u8 0, .int .u8 0, .int .u8 0, .int .u8 0, .int .u8 0, .int .u8 0, .int .u8 0, .int .u8 0, .int .u8 0, .int .u8 0, .int .u8 0, .int .u8 0, .int .u8 0, .int .u8 0, .int .u8 0, .int .u8 0, .int .u8 0, .int .u8 0, .int .u8 0, .int .u8 0, .int .u8 0, .int .u8 0, .int .u8 0, .int .u8 0, .int .u8 0, .int .u8 0, .int .u8 0, .int .u8 0, .int .u8 0, .int .u8 0, .int .u8 0, .int .u8 0, .int .u8 0] 36)
  simp only [size_alloc, List.nil_append, List.cons_append] at hB
  generalize World.alloc _ _ = u at *
  rw [unhide hSK] at hB
  replace hB : Bl w [⟨w.heap.size, spv s, 85⟩, ⟨w.heap.size + 1, kc ZB, 36⟩, ⟨w.heap.size + 1 + 1, kc ZB, 36⟩] u := hB
  refine wp_region_lit ?_
  refine list_valw (.pointer (some ⟨u.heap.size, 0, none⟩)) (u.alloc (.cells (#[.int .i64 0]) 3 (0, 0))) (by kernel_rfl) (by kernel_rfl) ?_
  replace hB := hB.new (#[.int .i64 0]) 3
  simp only [List.nil_append, List.cons_append] at hB
  generalize World.alloc _ _ = u1 at *
  generalize u.heap.size = ga at *
  replace hB : Bl w [⟨w.heap.size, spv s, 85⟩, ⟨w.heap.size + 1, kc ZB, 36⟩, ⟨w.heap.size + 1 + 1, kc ZB, 36⟩, ⟨ga, #[.int .i64 0], 3⟩] u1 := hB
  simp only [nrm]
  have c4 := cell_of (hB.get 3 (x := ⟨ga, #[.int .i64 0], 3⟩) rfl) (i := 0) rfl
  have fz := froz_of (i := 0) (hB.get 3 (x := ⟨ga, #[.int .i64 0], 3⟩) rfl)
  have hB2 := hB.cell 3 (x := ⟨ga, #[.int .i64 0], 3⟩) rfl 0 (.int .i64 ((0 : Nat) : Int))
  simp only [List.set_cons_zero, List.set_cons_succ] at hB2
  replace hB2 : Bl w [⟨w.heap.size, spv s, 85⟩, ⟨w.heap.size + 1, kc ZB, 36⟩, ⟨w.heap.size + 1 + 1, kc ZB, 36⟩, ⟨ga, #[.int .i64 ((0 : Nat) : Int)], 3⟩] _ := hB2
  clear hB
  replace hB2 := hide hB2
  dsimp only at c4 fz
  (refine wpList_step fun K hK => ?_; replace hK := hide hK; go_simp; refine unhide hK _ _ ?_; clear hK K)
  clear c4 fz
  have hB := unhide hB2
  clear hB2
  generalize World.setCell _ _ _ = u2 at *
  refine wpList_nil ?_
  replace hB := hide hB
  go_upto_region 3 with fail
  replace hB := unhide hB
  refine wp_region_lit ?_
  refine list_val (.func (.func 81) #[] #[.pointer (some ⟨ga, 0, none⟩), .pointer (some ⟨w.heap.size + 1 + 1, 0, none⟩)]) (by kernel_rfl) (by kernel_rfl) ?_
  simp only [nrm]
  (refine wpList_step fun K hK => ?_; replace hK := hide hK; go_simp; refine unhide hK _ _ ?_; clear hK K)
  refine wpList_nil ?_
  replace hB := hide hB
  go_upto_region 4 with fail
  replace hB := unhide hB
  have lC0 : ZB.length = 64 := rfl
  obtain ⟨C0, eC0⟩ : ∃ x, x = ZB := ⟨_, rfl⟩
  replace hB : Bl w [⟨w.heap.size, spv s, 85⟩, ⟨w.heap.size + 1, kc ZB, 36⟩, ⟨w.heap.size + 1 + 1, kc C0, 36⟩, ⟨ga, #[.int .i64 ((0 : Nat) : Int)], 3⟩] u2 := by rw [eC0]; exact hB
  rw [← eC0] at lC0
  replace eC0 := hide eC0
  refine wp_region_lit ?_
  refine list_val (.func (.func 81) #[] #[.pointer (some ⟨ga, 0, none⟩), .pointer (some ⟨w.heap.size + 1 + 1, 0, none⟩)]) (by kernel_rfl) (by kernel_rfl) ?_
  simp only [nrm]
  refine list_valw (.slice (some ⟨u2.heap.size, 0, none⟩) 10 10) (u2.alloc (.cells (kc htr) 5 (0, 0))) (by kernel_rfl) (by kernel_rfl) ?_
  simp only [nrm]
  refine list_valw (.slice (some ⟨u2.heap.size, 0, none⟩) 10 10) (u2.alloc (.cells (kc htr) 5 ((kc htr).size, (kc htr).size + 1))) (by kernel_rfl) (exec_const u2 (.tmp 9) rfl (kc htr) 10 10 (by kernel_rfl)) ?_
  simp only [nrm]
  have hg := (Gr.refl u2).alloc (.cells (kc htr) 5 ((kc htr).size, (kc htr).size + 1))
  have l1 : Lb (u2.alloc (.cells (kc htr) 5 ((kc htr).size, (kc htr).size + 1))) (some ⟨u2.heap.size, 0, none⟩) 10 10 htr := ⟨rfl, htr_isB, .inr ⟨_, 0, rfl, fun j hj => by rw [Nat.zero_add]; exact cell_of (blk_new _ _) (kc_get htr j hj)⟩, by omega, by omega⟩
  replace hB := hB.more hg
  clear hg
  generalize World.alloc _ _ = u3 at *
  generalize u2.heap.size = h1 at *
  refine list_call 81 #[.slice (some ⟨h1, 0, none⟩) 10 10, .pointer (some ⟨ga, 0, none⟩), .pointer (some ⟨w.heap.size + 1 + 1, 0, none⟩)] (by kernel_rfl) (by kernel_rfl) ((sput_ok ga (w.heap.size + 1 + 1) 0 C0 (htr) lC0 (some ⟨h1, 0, none⟩) 10 10 u3 (hB.get 3 (x := ⟨ga, #[.int .i64 ((0 : Nat) : Int)], 3⟩) rfl) (hB.get 2 (x := ⟨w.heap.size + 1 + 1, kc C0, 36⟩) rfl) (l1) (by omega) (by omega)).mono ?_)
  rintro r u4 ⟨rfl, hc1, hc2, hch⟩
  have hB2 := hB.chg2 3 2 (by decide) (x := ⟨ga, #[.int .i64 ((0 : Nat) : Int)], 3⟩) (y := ⟨w.heap.size + 1 + 1, kc C0, 36⟩) rfl rfl hch hc1 hc2
  simp only [List.set_cons_zero, List.set_cons_succ] at hB2
  have lC1 : (lay C0 0 (htr)).length = 64 := (lay_len _ _ _ (by rw [(l1).len, lC0]; omega)).trans lC0
  have eC1 : Hid (lay C0 0 (htr) = lay C0 0 (htr)) := rfl
  generalize hq_ : lay C0 0 (htr) = C1 at *
  replace eC1 : Hid (C1 = lay C0 0 (htr)) := hq_.symm
  clear hB hc1 hc2 hch hq_
  replace hB2 : Bl w [⟨w.heap.size, spv s, 85⟩, ⟨w.heap.size + 1, kc ZB, 36⟩, ⟨w.heap.size + 1 + 1, kc C1, 36⟩, ⟨ga, #[.int .i64 ((10 : Nat) : Int)], 3⟩] u4 := hB2
  have hB := hB2
  clear hB2
  refine ⟨_, rfl, ?_⟩
  simp only [nrm]
  refine wpList_nil ?_
  clear l1
  replace hB := hide hB
  go_upto_region 5 with fail
  replace hB := unhide hB
  refine wp_region_lit ?_
  refine list_val (.func (.func 81) #[] #[.pointer (some ⟨ga, 0, none⟩), .pointer (some ⟨w.heap.size + 1 + 1, 0, none⟩)]) (by kernel_rfl) (by kernel_rfl) ?_
  simp only [nrm]
  refine list_val (.pointer (some ⟨w.heap.size, 0, none⟩)) (by kernel_rfl) (by kernel_rfl) ?_
  simp only [nrm]
  refine list_val (.int .u8 (s.place : Int)) (by kernel_rfl) (exec_b _ (.tmp 13) rfl (w.heap.size) 0 (by kernel_rfl) _ (spv_cells (hB.get 0 (x := ⟨w.heap.size, spv s, 85⟩) rfl)).1) ?_
  simp only [nrm]
  refine list_valw (.slice (some ⟨u4.heap.size, 0, none⟩) 2 2) (u4.alloc (.cells (kc [(s.place : Int), 0]) 5 (0, 0))) (by kernel_rfl) (by kernel_rfl) ?_
  have l2 : Lb (u4.alloc (.cells (kc [(s.place : Int), 0]) 5 (0, 0))) (some ⟨u4.heap.size, 0, none⟩) 2 2 [(s.place : Int), 0] := nw_lb (blk_new _ _) (by intro x hx; simp at hx; omega) rfl (by omega)
  have hg := (Gr.refl u4).alloc (.cells (kc [(s.place : Int), 0]) 5 (0, 0))
  replace hB := hB.more hg
  clear hg
  generalize World.alloc _ _ = u5 at *
  generalize u4.heap.size = h2 at *
  simp only [nrm]
  refine list_call 81 #[.slice (some ⟨h2, 0, none⟩) 2 2, .pointer (some ⟨ga, 0, none⟩), .pointer (some ⟨w.heap.size + 1 + 1, 0, none⟩)] (by kernel_rfl) (by kernel_rfl) ((sput_ok ga (w.heap.size + 1 + 1) 10 C1 ([(s.place : Int), 0]) lC1 (some ⟨h2, 0, none⟩) 2 2 u5 (hB.get 3 (x := ⟨ga, #[.int .i64 ((10 : Nat) : Int)], 3⟩) rfl) (hB.get 2 (x := ⟨w.heap.size + 1 + 1, kc C1, 36⟩) rfl) (l2) (by omega) (by omega)).mono ?_)
  rintro r u6 ⟨rfl, hc1, hc2, hch⟩
  have hB2 := hB.chg2 3 2 (by decide) (x := ⟨ga, #[.int .i64 ((10 : Nat) : Int)], 3⟩) (y := ⟨w.heap.size + 1 + 1, kc C1, 36⟩) rfl rfl hch hc1 hc2
  simp only [List.set_cons_zero, List.set_cons_succ] at hB2
  have lC2 : (lay C1 10 ([(s.place : Int), 0])).length = 64 := (lay_len _ _ _ (by rw [(l2).len, lC1]; omega)).trans lC1
  have eC2 : Hid (lay C1 10 ([(s.place : Int), 0]) = lay C1 10 ([(s.place : Int), 0])) := rfl
  generalize hq_ : lay C1 10 ([(s.place : Int), 0]) = C2 at *
  replace eC2 : Hid (C2 = lay C1 10 ([(s.place : Int), 0])) := hq_.symm
  clear hB hc1 hc2 hch hq_
  replace hB2 : Bl w [⟨w.heap.size, spv s, 85⟩, ⟨w.heap.size + 1, kc ZB, 36⟩, ⟨w.heap.size + 1 + 1, kc C2, 36⟩, ⟨ga, #[.int .i64 ((12 : Nat) : Int)], 3⟩] u6 := hB2
  have hB := hB2
  clear hB2
  refine ⟨_, rfl, ?_⟩
  simp only [nrm]
  refine wpList_nil ?_
  clear l2
  replace hB := hide hB
  go_upto_region 6 with fail
  replace hB := unhide hB
  refine wp_region_lit ?_
  refine list_val (.func (.func 81) #[] #[.pointer (some ⟨ga, 0, none⟩), .pointer (some ⟨w.heap.size + 1 + 1, 0, none⟩)]) (by kernel_rfl) (by kernel_rfl) ?_
  simp only [nrm]
  refine list_val (.pointer (some ⟨w.heap.size, 1, none⟩)) (by kernel_rfl) (by kernel_rfl) ?_
  simp only [nrm]
  refine list_val (.int .u64 (s.turn : Int)) (by kernel_rfl) (exec_u64 _ (.tmp 18) rfl (w.heap.size) 1 (by kernel_rfl) _ (spv_cells (hB.get 0 (x := ⟨w.heap.size, spv s, 85⟩) rfl)).2.1) ?_
  simp only [nrm]
  refine list_call 82 #[.slice none 0 0, .int .u64 (s.turn : Int)] (by kernel_rfl) (by kernel_rfl) ((put64_ok [] none 0 0 (s.turn : Int) (by omega) (by omega) _ (Lb.nil0 _)).mono ?_)
  rintro r u7 ⟨h3, rfl, hg1, hg2, hg3⟩
  replace hB := hB.more hg3
  rw [List.nil_append] at hg2
  have l3 := kc_lb hg2 (lowL_len _ _) (lowL_isB _ _) (by omega)
  have hl3 := lowL_len (s.turn : Int) 8
  clear hg1 hg2 hg3
  refine ⟨_, rfl, ?_⟩
  rw [List.nil_append]
  rw [hl3]
  obtain ⟨N8, eN8⟩ : ∃ x, x = lowL (s.turn : Int) 8 := ⟨_, rfl⟩
  rw [← eN8] at l3
  replace eN8 := hide eN8
  simp only [nrm]
  refine list_call 81 #[.slice (some ⟨h3, 0, none⟩) 8 8, .pointer (some ⟨ga, 0, none⟩), .pointer (some ⟨w.heap.size + 1 + 1, 0, none⟩)] (by kernel_rfl) (by kernel_rfl) ((sput_ok ga (w.heap.size + 1 + 1) 12 C2 (N8) lC2 (some ⟨h3, 0, none⟩) 8 8 u7 (hB.get 3 (x := ⟨ga, #[.int .i64 ((12 : Nat) : Int)], 3⟩) rfl) (hB.get 2 (x := ⟨w.heap.size + 1 + 1, kc C2, 36⟩) rfl) (l3) (by omega) (by omega)).mono ?_)
  rintro r u8 ⟨rfl, hc1, hc2, hch⟩
  have hB2 := hB.chg2 3 2 (by decide) (x := ⟨ga, #[.int .i64 ((12 : Nat) : Int)], 3⟩) (y := ⟨w.heap.size + 1 + 1, kc C2, 36⟩) rfl rfl hch hc1 hc2
  simp only [List.set_cons_zero, List.set_cons_succ] at hB2
  have lC3 : (lay C2 12 (N8)).length = 64 := (lay_len _ _ _ (by rw [(l3).len, lC2]; omega)).trans lC2
  have eC3 : Hid (lay C2 12 (N8) = lay C2 12 (N8)) := rfl
  generalize hq_ : lay C2 12 (N8) = C3 at *
  replace eC3 : Hid (C3 = lay C2 12 (N8)) := hq_.symm
  clear hB hc1 hc2 hch hq_
  replace hB2 : Bl w [⟨w.heap.size, spv s, 85⟩, ⟨w.heap.size + 1, kc ZB, 36⟩, ⟨w.heap.size + 1 + 1, kc C3, 36⟩, ⟨ga, #[.int .i64 ((20 : Nat) : Int)], 3⟩] u8 := hB2
  have hB := hB2
  clear hB2
  refine ⟨_, rfl, ?_⟩
  simp only [nrm]
  refine wpList_nil ?_
  clear l3 hl3
  replace hB := hide hB
  go_upto_region 7 with fail
  replace hB := unhide hB
  refine wp_region_lit ?_
  refine list_val (.func (.func 81) #[] #[.pointer (some ⟨ga, 0, none⟩), .pointer (some ⟨w.heap.size + 1 + 1, 0, none⟩)]) (by kernel_rfl) (by kernel_rfl) ?_
  simp only [nrm]
  refine list_val (.pointer (some ⟨w.heap.size, 2, none⟩)) (by kernel_rfl) (by kernel_rfl) ?_
  simp only [nrm]
  refine list_val (.int .u32 (s.size : Int)) (by kernel_rfl) (exec_w32 _ (.tmp 23) rfl (w.heap.size) 2 (by kernel_rfl) _ (spv_cells (hB.get 0 (x := ⟨w.heap.size, spv s, 85⟩) rfl)).2.2) ?_
  simp only [nrm]
  refine list_call 83 #[.slice none 0 0, .int .u32 (s.size : Int)] (by kernel_rfl) (by kernel_rfl) ((put32_ok (s.size : Int) ⟨by omega, by omega⟩ _).mono ?_)
  rintro r u9 ⟨h4, rfl, hg1, hg2, hg3⟩
  replace hB := hB.more hg3
  skip
  have l3 := kc_lb hg2 (lowL_len _ _) (lowL_isB _ _) (by omega)
  have hl3 := lowL_len (s.size : Int) 4
  clear hg1 hg2 hg3
  refine ⟨_, rfl, ?_⟩
  skip
  rw [hl3]
  obtain ⟨N4, eN4⟩ : ∃ x, x = lowL (s.size : Int) 4 := ⟨_, rfl⟩
  rw [← eN4] at l3
  replace eN4 := hide eN4
  simp only [nrm]
  refine list_call 81 #[.slice (some ⟨h4, 0, none⟩) 4 4, .pointer (some ⟨ga, 0, none⟩), .pointer (some ⟨w.heap.size + 1 + 1, 0, none⟩)] (by kernel_rfl) (by kernel_rfl) ((sput_ok ga (w.heap.size + 1 + 1) 20 C3 (N4) lC3 (some ⟨h4, 0, none⟩) 4 4 u9 (hB.get 3 (x := ⟨ga, #[.int .i64 ((20 : Nat) : Int)], 3⟩) rfl) (hB.get 2 (x := ⟨w.heap.size + 1 + 1, kc C3, 36⟩) rfl) (l3) (by omega) (by omega)).mono ?_)
  rintro r u10 ⟨rfl, hc1, hc2, hch⟩
  have hB2 := hB.chg2 3 2 (by decide) (x := ⟨ga, #[.int .i64 ((20 : Nat) : Int)], 3⟩) (y := ⟨w.heap.size + 1 + 1, kc C3, 36⟩) rfl rfl hch hc1 hc2
  simp only [List.set_cons_zero, List.set_cons_succ] at hB2
  have lC4 : (lay C3 20 (N4)).length = 64 := (lay_len _ _ _ (by rw [(l3).len, lC3]; omega)).trans lC3
  have eC4 : Hid (lay C3 20 (N4) = lay C3 20 (N4)) := rfl
  generalize hq_ : lay C3 20 (N4) = C4 at *
  replace eC4 : Hid (C4 = lay C3 20 (N4)) := hq_.symm
  clear hB hc1 hc2 hch hq_
  replace hB2 : Bl w [⟨w.heap.size, spv s, 85⟩, ⟨w.heap.size + 1, kc ZB, 36⟩, ⟨w.heap.size + 1 + 1, kc C4, 36⟩, ⟨ga, #[.int .i64 ((24 : Nat) : Int)], 3⟩] u10 := hB2
  have hB := hB2
  clear hB2
  refine ⟨_, rfl, ?_⟩
  simp only [nrm]
  refine wpList_nil ?_
  clear l3 hl3
  replace hB := hide hB
  go_upto_region 8 with fail
  replace hB := unhide hB
  refine wp_region_lit ?_
  refine list_val (.func (.func 81) #[] #[.pointer (some ⟨ga, 0, none⟩), .pointer (some ⟨w.heap.size + 1 + 1, 0, none⟩)]) (by kernel_rfl) (by kernel_rfl) ?_
  simp only [nrm]
  refine list_val (.pointer (some ⟨w.heap.size, 3, none⟩)) (by kernel_rfl) (by kernel_rfl) ?_
  simp only [nrm]
  refine list_val (.slice (some ⟨w.heap.size, 3, none⟩) 16 16) (by kernel_rfl) (by kernel_rfl) ?_
  simp only [nrm]
  refine list_call 81 #[.slice (some ⟨w.heap.size, 3, none⟩) 16 16, .pointer (some ⟨ga, 0, none⟩), .pointer (some ⟨w.heap.size + 1 + 1, 0, none⟩)] (by kernel_rfl) (by kernel_rfl) ((sput_ok ga (w.heap.size + 1 + 1) 24 C4 (s.hash) lC4 (some ⟨w.heap.size, 3, none⟩) 16 16 u10 (hB.get 3 (x := ⟨ga, #[.int .i64 ((24 : Nat) : Int)], 3⟩) rfl) (hB.get 2 (x := ⟨w.heap.size + 1 + 1, kc C4, 36⟩) rfl) (spv_hash (hB.get 0 (x := ⟨w.heap.size, spv s, 85⟩) rfl) (unhide hs)) (by omega) (by omega)).mono ?_)
  rintro r u11 ⟨rfl, hc1, hc2, hch⟩
  have hB2 := hB.chg2 3 2 (by decide) (x := ⟨ga, #[.int .i64 ((24 : Nat) : Int)], 3⟩) (y := ⟨w.heap.size + 1 + 1, kc C4, 36⟩) rfl rfl hch hc1 hc2
  simp only [List.set_cons_zero, List.set_cons_succ] at hB2
  have lC5 : (lay C4 24 (s.hash)).length = 64 := (lay_len _ _ _ (by rw [(spv_hash (hB.get 0 (x := ⟨w.heap.size, spv s, 85⟩) rfl) (unhide hs)).len, lC4]; omega)).trans lC4
  have eC5 : Hid (lay C4 24 (s.hash) = lay C4 24 (s.hash)) := rfl
  generalize hq_ : lay C4 24 (s.hash) = C5 at *
  replace eC5 : Hid (C5 = lay C4 24 (s.hash)) := hq_.symm
  clear hB hc1 hc2 hch hq_
  replace hB2 : Bl w [⟨w.heap.size, spv s, 85⟩, ⟨w.heap.size + 1, kc ZB, 36⟩, ⟨w.heap.size + 1 + 1, kc C5, 36⟩, ⟨ga, #[.int .i64 ((40 : Nat) : Int)], 3⟩] u11 := hB2
  have hB := hB2
  clear hB2
  refine ⟨_, rfl, ?_⟩
  simp only [nrm]
  refine wpList_nil ?_
  replace hB := hide hB
  go_upto_region 9 with fail
  replace hB := unhide hB
  refine wp_region_lit ?_
  have c4 := cell_of (hB.get 3 (x := ⟨ga, #[.int .i64 ((40 : Nat) : Int)], 3⟩) rfl) (i := 0) rfl
  have fz := froz_of (i := 0) (hB.get 3 (x := ⟨ga, #[.int .i64 ((40 : Nat) : Int)], 3⟩) rfl)
  have hB2 := hB.cell 3 (x := ⟨ga, #[.int .i64 ((40 : Nat) : Int)], 3⟩) rfl 0 (.int .i64 ((48 : Nat) : Int))
  simp only [List.set_cons_zero, List.set_cons_succ] at hB2
  replace hB2 : Bl w [⟨w.heap.size, spv s, 85⟩, ⟨w.heap.size + 1, kc ZB, 36⟩, ⟨w.heap.size + 1 + 1, kc C5, 36⟩, ⟨ga, #[.int .i64 ((48 : Nat) : Int)], 3⟩] _ := hB2
  clear hB
  replace hB2 := hide hB2
  dsimp only at c4 fz
  (refine wpList_step fun K hK => ?_; replace hK := hide hK; go_simp; refine unhide hK _ _ ?_; clear hK K)
  clear c4 fz
  have hB := unhide hB2
  clear hB2
  generalize World.setCell _ _ _ = u12 at *
  refine wpList_nil ?_
  have eA : Hid (C5 = s.b48 ++ List.replicate 16 0) := by
    show C5 = _
    have z0 : C0 = [] ++ List.replicate 64 0 := unhide eC0
    have z1 : C1 = htr ++ List.replicate 54 0 := by rw [unhide eC1, z0]; exact lay_zero [] htr 64 (by decide)
    have z2 : C2 = (htr ++ [(s.place : Int), 0]) ++ List.replicate 52 0 := by rw [unhide eC2, z1]; exact lay_zero htr [(s.place : Int), 0] 54 (by simp)
    have z3 : C3 = ((htr ++ [(s.place : Int), 0]) ++ lowL (s.turn : Int) 8) ++ List.replicate 44 0 := by
      have h := lay_zero (htr ++ [(s.place : Int), 0]) (lowL (s.turn : Int) 8) 52 (by rw [lowL_len]; omega)
      rw [lowL_len] at h
      rw [unhide eC3, z2, unhide eN8]
      exact h
    have z4 : C4 = (((htr ++ [(s.place : Int), 0]) ++ lowL (s.turn : Int) 8) ++ lowL (s.size : Int) 4) ++ List.replicate 40 0 := by
      have h := lay_zero ((htr ++ [(s.place : Int), 0]) ++ lowL (s.turn : Int) 8) (lowL (s.size : Int) 4) 44 (by rw [lowL_len]; omega)
      rw [lowL_len, List.length_append, lowL_len] at h
      rw [unhide eC4, z3, unhide eN4]
      exact h
    have h := lay_zero (((htr ++ [(s.place : Int), 0]) ++ lowL (s.turn : Int) 8) ++ lowL (s.size : Int) 4) s.hash 40 (by rw [hhl]; omega)
    rw [hhl, List.length_append, lowL_len, List.length_append, lowL_len] at h
    rw [unhide eC5, z4, ← b48_of s hhl]
    exact h
  have hb48 : Hid (C5.take 48 = s.b48) := by show C5.take 48 = s.b48; rw [unhide eA]; exact take_app _ _ 48 (s.b48_len hhl)
  have hok := blk_bb (unhide hs)
  have hi48 : IsB s.b48 := fun x hx => hok.2 x (by unfold Sup.blk; exact List.mem_append_left _ hx)
  have hl48 := s.b48_len hhl
  have hbl : Hid (s.blk = s.b48 ++ sh16 s.b48) := rfl
  have hB4 : Hid (lay C5 48 (sh16 s.b48) = s.blk) := by
    show lay C5 48 (sh16 s.b48) = s.blk
    rw [unhide hbl]
    have h := lay_zero s.b48 (sh16 s.b48) 16 (by rw [sh16_len]; omega)
    rw [hl48, sh16_len] at h
    rw [unhide eA, h]
    exact List.append_nil _
  clear eC1 eC2 eC3 eC4 eC5 eC0 eA hok hbl
  generalize s.b48 = S48 at *
  replace hB := hide hB
  go_upto_region 10 with fail
  replace hB := unhide hB
  refine wp_region_lit ?_
  refine list_val (.int .i64 ((48 : Nat) : Int)) (by kernel_rfl) (exec_i64 _ (.tmp 4) rfl ga 0 (by kernel_rfl) _ (cell_of (hB.get 3 (x := ⟨ga, #[.int .i64 ((48 : Nat) : Int)], 3⟩) rfl) (i := 0) rfl)) ?_
  simp only [nrm]
  refine list_val (.slice (some ⟨w.heap.size + 1 + 1, 0, none⟩) 48 64) (by kernel_rfl) (by kernel_rfl) ?_
  simp only [nrm]
  have hlb : Lb u12 (some ⟨w.heap.size + 1 + 1, 0, none⟩) 48 64 S48 := by
    have h := sub_lb (hB.get 2 (x := ⟨w.heap.size + 1 + 1, kc C5, 36⟩) rfl) (b := C5)
    refine ⟨hl48, hi48, .inr ⟨_, 0, rfl, ?_⟩, by omega, by omega⟩
    have h2 := (kc_at (hB.get 2 (x := ⟨w.heap.size + 1 + 1, kc C5, 36⟩) rfl)).take 48
    rw [unhide hb48] at h2
    exact h2
  refine list_call 40 #[.slice (some ⟨w.heap.size + 1 + 1, 0, none⟩) 48 64] (by kernel_rfl) (by kernel_rfl) ((digest_ok S48 (some ⟨w.heap.size + 1 + 1, 0, none⟩) 48 64 u12 hlb (by omega) ((unhide hf).gr hB.gr)).mono ?_)
  rintro r u13 ⟨rfl, hg⟩
  replace hB := hB.more hg
  have hHl := sh16_len S48
  have hHb := sh16_isB S48 (sumL_isB S48)
  clear hg hlb
  generalize sh16 S48 = H at *
  refine ⟨_, rfl, ?_⟩
  simp only [nrm]
  refine list_valw (.pointer (some ⟨u13.heap.size, 0, none⟩)) (u13.alloc (.cells (kc Z16) 83 (0, 0))) (by kernel_rfl) (by kernel_rfl) ?_
  replace hB := hB.new (kc Z16) 83
  simp only [List.nil_append, List.cons_append] at hB
  generalize World.alloc _ _ = u14 at *
  generalize u13.heap.size = gm at *
  replace hB : Bl w [⟨w.heap.size, spv s, 85⟩, ⟨w.heap.size + 1, kc ZB, 36⟩, ⟨w.heap.size + 1 + 1, kc C5, 36⟩, ⟨ga, #[.int .i64 ((48 : Nat) : Int)], 3⟩, ⟨gm, kc Z16, 83⟩] u14 := hB
  simp only [nrm]
  refine list_store 83 (.tmp 6) (.tmp 33) (gm) (kc H) 83 (kc Z16) (by kernel_rfl) rfl (by kernel_rfl) (by kernel_rfl) (hB.get 4 (x := ⟨gm, kc Z16, 83⟩) rfl) (by rw [Tryz.infoMk, kc_size, hHl]) (by rw [kc_size, kc_size, hHl]; rfl) (kc_one _) ?_
  replace hB := hB.set 4 (x := ⟨gm, kc Z16, 83⟩) rfl (kc H)
  simp only [List.set_cons_zero, List.set_cons_succ] at hB
  generalize World.setRow _ _ _ = u15 at *
  replace hB : Bl w [⟨w.heap.size, spv s, 85⟩, ⟨w.heap.size + 1, kc ZB, 36⟩, ⟨w.heap.size + 1 + 1, kc C5, 36⟩, ⟨ga, #[.int .i64 ((48 : Nat) : Int)], 3⟩, ⟨gm, kc H, 83⟩] u15 := hB
  simp only [nrm]
  refine wpList_nil ?_
  replace hB := hide hB
  go_upto_region 11 with fail
  replace hB := unhide hB
  refine wp_region_lit ?_
  refine list_val (.func (.func 81) #[] #[.pointer (some ⟨ga, 0, none⟩), .pointer (some ⟨w.heap.size + 1 + 1, 0, none⟩)]) (by kernel_rfl) (by kernel_rfl) ?_
  simp only [nrm]
  refine list_val (.slice (some ⟨gm, 0, none⟩) 16 16) (by kernel_rfl) (by kernel_rfl) ?_
  simp only [nrm]
  refine list_call 81 #[.slice (some ⟨gm, 0, none⟩) 16 16, .pointer (some ⟨ga, 0, none⟩), .pointer (some ⟨w.heap.size + 1 + 1, 0, none⟩)] (by kernel_rfl) (by kernel_rfl) ((sput_ok ga (w.heap.size + 1 + 1) 48 C5 (H) lC5 (some ⟨gm, 0, none⟩) 16 16 u15 (hB.get 3 (x := ⟨ga, #[.int .i64 ((48 : Nat) : Int)], 3⟩) rfl) (hB.get 2 (x := ⟨w.heap.size + 1 + 1, kc C5, 36⟩) rfl) ((nw_lb0 (hB.get 4 (x := ⟨gm, kc H, 83⟩) rfl) hHb hHl (by omega))) (by omega) (by omega)).mono ?_)
  rintro r u16 ⟨rfl, hc1, hc2, hch⟩
  have hB2 := hB.chg2 3 2 (by decide) (x := ⟨ga, #[.int .i64 ((48 : Nat) : Int)], 3⟩) (y := ⟨w.heap.size + 1 + 1, kc C5, 36⟩) rfl rfl hch hc1 hc2
  simp only [List.set_cons_zero, List.set_cons_succ] at hB2
  have lC6 : (lay C5 48 (H)).length = 64 := (lay_len _ _ _ (by rw [((nw_lb0 (hB.get 4 (x := ⟨gm, kc H, 83⟩) rfl) hHb hHl (by omega))).len, lC5]; omega)).trans lC5
  have eC6 : Hid (lay C5 48 (H) = lay C5 48 (H)) := rfl
  generalize hq_ : lay C5 48 (H) = C6 at *
  replace eC6 : Hid (C6 = lay C5 48 (H)) := hq_.symm
  clear hB hc1 hc2 hch hq_
  replace hB2 : Bl w [⟨w.heap.size, spv s, 85⟩, ⟨w.heap.size + 1, kc ZB, 36⟩, ⟨w.heap.size + 1 + 1, kc C6, 36⟩, ⟨ga, #[.int .i64 ((64 : Nat) : Int)], 3⟩, ⟨gm, kc H, 83⟩] u16 := hB2
  have hB := hB2
  clear hB2
  refine ⟨_, rfl, ?_⟩
  simp only [nrm]
  refine wpList_nil ?_
  replace hB := hide hB
  go_upto_region 12 with fail
  replace hB := unhide hB
  refine wp_region_lit ?_
  refine list_val (.agg (kc C6)) (by kernel_rfl) (exec_arr _ 36 (.tmp 3) rfl (w.heap.size + 1 + 1) (by kernel_rfl) (kc C6) 36 _ (hB.get 2 (x := ⟨w.heap.size + 1 + 1, kc C6, 36⟩) rfl) Tryz.underlying36 rfl (by rw [Tryz.infoB, kc_size, lC6])) ?_
  simp only [nrm]
  refine list_store 36 (.tmp 2) (.tmp 37) (w.heap.size + 1) (kc C6) 36 (kc ZB) (by kernel_rfl) rfl (by kernel_rfl) (by kernel_rfl) (hB.get 1 (x := ⟨w.heap.size + 1, kc ZB, 36⟩) rfl) (by rw [Tryz.infoB, kc_size, lC6]) ((show (kc ZB).size = 64 from rfl).trans ((kc_size _).trans lC6).symm) (kc_one _) ?_
  replace hB := hB.set 1 (x := ⟨w.heap.size + 1, kc ZB, 36⟩) rfl (kc C6)
  simp only [List.set_cons_zero, List.set_cons_succ] at hB
  generalize World.setRow _ _ _ = u17 at *
  replace hB : Bl w [⟨w.heap.size, spv s, 85⟩, ⟨w.heap.size + 1, kc C6, 36⟩, ⟨w.heap.size + 1 + 1, kc C6, 36⟩, ⟨ga, #[.int .i64 ((64 : Nat) : Int)], 3⟩, ⟨gm, kc H, 83⟩] u17 := hB
  simp only [nrm]
  refine wpList_nil ?_
  have e9 : C6 = s.blk := unhide hB4
  replace e9 := hide e9
  clear eC6 hB4 hb48
  replace hB := hide hB
  go_wp2_with fail
  replace hB := unhide hB
  rw [unhide hT, ← unhide e9]
  exact bodyPost_ret (v := .agg (kc C6)) (results_cell_row Tryz.results58 _ _ (w.heap.size + 1) 36 (kc C6) (0, 0) _ rfl (hB.get 1 (x := ⟨w.heap.size + 1, kc C6, 36⟩) rfl) Tryz.underlying36 rfl (by rw [Tryz.infoB, kc_size, lC6])) rfl (⟨rfl, hB.gr⟩)
theorem exec_eqB {a : Act} {o : Oper} (w : World) (x y : Operand) (ho : o.op = .binOp .eql 36 x y 36) (b d : List Int) (hb : b.length = 64) (hd : d.length = 64) (hx : a.eval x = .agg (kc b)) (hy : a.eval y = .agg (kc d)) (q : Bool) (hq : q = decide (b = d)) : (execOp a.eval o).run Tryz.prog w = .ok (.value (.bool q)) w := by
  have h := eq_B b d hb hd w
  rw [← hq] at h
  unfold execOp
  simp only [ho, hx, hy]
  go_simp
theorem spl_len {s : Sup} (h : s.hash.length = 16) : (spl s).length = 19 := by unfold spl bv; simp [h]
theorem sub_sub (b : List Int) (o n k m : Nat) (h : k + m ≤ n) : (((b.drop o).take n).drop k).take m = (b.drop (o + k)).take m := by
  rw [List.drop_take, List.take_take, List.drop_drop, Nat.min_eq_left (by omega)]
theorem sp_spl (s : Sup) (h : List Int) (hs : s.hash.length = h.length) : sp (spl s) 3 (h.map (Value.int .u8)) = spl ⟨s.place, s.turn, s.size, h⟩ := by
  have e := sp_mid (h.map (Value.int .u8)) [.int .u8 (s.place : Int), .int .u64 (s.turn : Int), .int .u32 (s.size : Int)] (bv s.hash) [] (by unfold bv; rw [List.length_map, List.length_map, hs])
  rw [List.append_nil, List.append_nil] at e
  exact e
theorem sup_right {b : List Int} (hb : BB b) : ((supOf b).place < 2 ∧ (supOf b).blk = b) ↔ rightB b = true := by
  constructor
  · rintro ⟨h1, h2⟩
    obtain ⟨e1, e2, e3, e4, b1, b2, b3, b4⟩ := sup_nums hb
    have hl := hb.1
    have ok : (supOf b).Ok := ⟨h1, by omega, by omega, by rw [e4, List.length_take, List.length_drop]; omega, by rw [e4]; exact fun x hx => hb.2 x (List.mem_of_mem_drop (List.mem_of_mem_take hx))⟩
    have := right_blk ok
    rw [h2] at this
    exact this
  · intro h
    obtain ⟨h1, h2⟩ := right_eq hb h
    exact ⟨h1.p, h2.symm⟩
theorem sup_ok2 {b : List Int} (hb : BB b) (h1 : (supOf b).place < 2) : (supOf b).Ok := by
  obtain ⟨e1, e2, e3, e4, b1, b2, b3, b4⟩ := sup_nums hb
  have hl := hb.1
  exact ⟨h1, by omega, by omega, by rw [e4, List.length_take, List.length_drop]; omega, by rw [e4]; exact fun x hx => hb.2 x (List.mem_of_mem_drop (List.mem_of_mem_take hx))⟩
theorem sup_hl {b : List Int} (hb : BB b) : (supOf b).hash.length = 16 := by
  obtain ⟨e1, e2, e3, e4, b1, b2, b3, b4⟩ := sup_nums hb
  have hl := hb.1
  rw [e4, List.length_take, List.length_drop]
  omega
def Rds (b : List Int) (w : World) (r : Ending) (w' : World) : Prop := r = .returned (.tuple #[.agg (spv (supOf b)), .bool (rightB b)]) ∧ Gr w w'
set_option maxHeartbeats 4000000 in
theorem sread_ok (b : List Int) (hb : BB b) (w : World) (hf : Fst w) : Calls Tryz.prog 88 #[.agg (kc b)] w (Rds b w) := by
  obtain ⟨T, hT⟩ : ∃ T, T = Rds b w := ⟨_, rfl⟩
  rw [← hT]
  replace hT := hide hT
  obtain ⟨SK, hSK⟩ : ∃ X, X = kc b := ⟨_, rfl⟩
  rw [← hSK]
  obtain ⟨e1, e2, e3, e4, -⟩ := sup_nums hb
  have hrt := sup_right hb
  have hok2 := sup_ok2 hb
  have hhl := sup_hl hb
  have hbl := hb.1
  have hR0 : Hid (T = fun r w' => r = .returned (.tuple #[.agg (spv (supOf b)), .bool (rightB b)]) ∧ Gr w w') := hT
  clear hT
  generalize hs : supOf b = s at *
  generalize rightB b = rt at *
  have t1 : lowN ((((b.drop 12).take 52).drop 0).take 8) = (s.turn : Int) := by rw [sub_sub b 12 52 0 8 (by omega)]; exact e2.symm
  have t2 : lowN ((((b.drop 12).take 52).drop 8).take 4) = (s.size : Int) := by rw [sub_sub b 12 52 8 4 (by omega)]; exact e3.symm
  have t3 : (((b.drop 12).take 52).drop 12).take 16 = s.hash := by rw [sub_sub b 12 52 12 16 (by omega)]; exact e4.symm
  have hBl : ((b.drop 12).take 52).length = 52 := by rw [List.length_take, List.length_drop, hbl]; rfl
  have hih : IsB s.hash := by rw [e4]; exact fun x hx => hb.2 x (List.mem_of_mem_drop (List.mem_of_mem_take hx))
  clear hs e2 e3 e4
  replace hSK := hide hSK; replace hf := hide hf; replace hb := hide hb; replace e1 := hide e1; replace t1 := hide t1; replace t2 := hide t2; replace t3 := hide t3; replace hrt := hide hrt; replace hok2 := hide hok2; replace hih := hide hih
  go_enter Tryz.func88, Tryz.ntmps88
  go_upto_region 1 with fail
  have hB := (((Bl.nil w).new SK 36).new #[.int .u8 0, .int .u64 0, .int .u32 0, .int .u8 0, .int .u8 0, .int .u8 0, .int .u8 0, .int .u8 0, .int .u8 0, .int .u8 0, .int .u8 0, .int .u8 0, .int .u8 0, .int .u8 0, .int .u8 0, .int .u8 0, .int .u8 0, .int .u8 0, .int .u8 0] 85)
  simp only [size_alloc, List.nil_append, List.cons_append] at hB
  generalize World.alloc _ _ = u at *
  rw [unhide hSK] at hB
  replace hB : Bl w [⟨w.heap.size, kc b, 36⟩, ⟨w.heap.size + 1, spv ZSp, 85⟩] u := hB
  refine wp_region_lit ?_
  refine list_val (.pointer (some ⟨w.heap.size, 10, none⟩)) (by kernel_rfl) (by kernel_rfl) ?_
  simp only [nrm]
  refine list_val (.int .u8 (s.place : Int)) (by kernel_rfl) (exec_b _ (.tmp 6) rfl (w.heap.size) 10 (by kernel_rfl) _ (by rw [unhide e1]; exact kc_cell (hB.get 0 (x := ⟨w.heap.size, kc b, 36⟩) rfl) 10 (by omega))) ?_
  simp only [nrm]
  refine list_val (.agg (spv ⟨s.place, 0, 0, Z16⟩)) (by kernel_rfl) (by kernel_rfl) ?_
  simp only [nrm]
  refine list_valw (.pointer (some ⟨u.heap.size, 0, none⟩)) (u.alloc (.cells (spv ZSp) 85 (0, 0))) (by kernel_rfl) (by kernel_rfl) ?_
  replace hB := hB.new (spv ZSp) 85
  simp only [List.nil_append, List.cons_append] at hB
  generalize World.alloc _ _ = u1 at *
  generalize u.heap.size = gs at *
  replace hB : Bl w [⟨w.heap.size, kc b, 36⟩, ⟨w.heap.size + 1, spv ZSp, 85⟩, ⟨gs, spv ZSp, 85⟩] u1 := hB
  simp only [nrm]
  refine list_store 85 (.tmp 4) (.tmp 8) (gs) (spv ⟨s.place, 0, 0, Z16⟩) 85 (spv ZSp) (by kernel_rfl) rfl (by kernel_rfl) (by kernel_rfl) (hB.get 2 (x := ⟨gs, spv ZSp, 85⟩) rfl) (by rw [Tryz.infoSp, spv_size (s := ⟨s.place, 0, 0, Z16⟩) (by first | rfl | exact hhl)]) (by rw [spv_size (s := ⟨s.place, 0, 0, Z16⟩) (by first | rfl | exact hhl)]; rfl) (spv_one _) ?_
  replace hB := hB.set 2 (x := ⟨gs, spv ZSp, 85⟩) rfl (spv ⟨s.place, 0, 0, Z16⟩)
  simp only [List.set_cons_zero, List.set_cons_succ] at hB
  generalize World.setRow _ _ _ = u2 at *
  replace hB : Bl w [⟨w.heap.size, kc b, 36⟩, ⟨w.heap.size + 1, spv ZSp, 85⟩, ⟨gs, spv ⟨s.place, 0, 0, Z16⟩, 85⟩] u2 := hB
  simp only [nrm]
  refine wpList_nil ?_
  replace hB := hide hB
  go_upto_region 2 with fail
  replace hB := unhide hB
  refine wp_region_lit ?_
  refine list_val (.slice (some ⟨w.heap.size, 12, none⟩) 52 52) (by kernel_rfl) (by kernel_rfl) ?_
  simp only [nrm]
  have hlb : Lb u2 (some ⟨w.heap.size, 12, none⟩) 52 52 ((b.drop 12).take 52) := sub_lb (hB.get 0 (x := ⟨w.heap.size, kc b, 36⟩) rfl) (unhide hb).2 12 52 52 (by omega) (by omega) (by omega)
  refine list_call 85 #[.slice (some ⟨w.heap.size, 12, none⟩) 52 52] (by kernel_rfl) (by kernel_rfl) ((oread_ok _ (w.heap.size) 12 52 52 u2 hlb (by omega) (by omega)).mono ?_)
  rintro r u3 ⟨gr, p, c, rfl, hg1, hg2, hR, hg⟩
  rw [hBl] at hR
  have hgs : gs < u2.heap.size := lt_of_block (hB.get 2 (x := ⟨gs, spv ⟨s.place, 0, 0, Z16⟩, 85⟩) rfl)
  have hne1 : gr ≠ gs := by omega
  have hne2 : p ≠ gs := by omega
  have hB2 := hB.join hg [⟨gr, rdr 0 p 52 c, 152⟩] (by intro x hx; rw [List.mem_singleton] at hx; subst hx; exact ⟨hR.cel, hg1⟩) (List.pairwise_singleton _ _)
  replace hB2 : Bl w [⟨w.heap.size, kc b, 36⟩, ⟨w.heap.size + 1, spv ZSp, 85⟩, ⟨gs, spv ⟨s.place, 0, 0, Z16⟩, 85⟩, ⟨gr, rdr 0 p 52 c, 152⟩] u3 := hB2
  clear hB hg1 hg2 hg hgs hlb
  have hB := hB2
  clear hB2
  replace hR := hide hR
  generalize (b.drop 12).take 52 = B12 at *
  refine ⟨_, rfl, ?_⟩
  simp only [nrm]
  (refine wpList_step fun K hK => ?_; replace hK := hide hK; go_simp; refine unhide hK _ _ ?_; clear hK K)
  refine wpList_nil ?_
  replace hB := hide hB
  go_upto_region 3 with fail
  replace hB := unhide hB
  refine wp_region_lit ?_
  refine list_val (.pointer (some ⟨gr, 0, none⟩)) (by kernel_rfl) (by kernel_rfl) ?_
  simp only [nrm]
  refine list_call 101 #[P0 gr] (by kernel_rfl) (by kernel_rfl) ((ru64_ok gr p 52 c 0 B12 u3 (unhide hR) (by omega) (by omega)).mono ?_)
  rintro r u4 ⟨rfl, hR2, hbt⟩
  have hB2 := hB.but hbt 3 (x := ⟨gr, rdr 0 p 52 c, 152⟩) rfl rfl hR2.cel
  simp only [List.set_cons_zero, List.set_cons_succ] at hB2
  clear hB hR
  have hB : Bl w [⟨w.heap.size, kc b, 36⟩, ⟨w.heap.size + 1, spv ZSp, 85⟩, ⟨gs, spv ⟨s.place, 0, 0, Z16⟩, 85⟩, ⟨gr, rdr 8 p 52 c, 152⟩] u4 := hB2
  rw [unhide t1]
  have hR : Hid (Rdr gr p 52 c 8 B12 u4) := hR2
  clear hB2 hR2 hbt
  refine ⟨_, rfl, ?_⟩
  simp only [nrm]
  refine list_val (.pointer (some ⟨gs, 1, none⟩)) (by kernel_rfl) (by kernel_rfl) ?_
  simp only [nrm]
  have hR2 := hide ((unhide hR).bt (Bt.setCell (g := gs) u4 1 (.int .u64 (s.turn : Int))) hne1 hne2)
  clear hR
  have c4 := cell_of (hB.get 2 (x := ⟨gs, spv ⟨s.place, 0, 0, Z16⟩, 85⟩) rfl) (i := 1) rfl
  have fz := froz_of (i := 1) (hB.get 2 (x := ⟨gs, spv ⟨s.place, 0, 0, Z16⟩, 85⟩) rfl)
  have hB2 := hB.cell 2 (x := ⟨gs, spv ⟨s.place, 0, 0, Z16⟩, 85⟩) rfl 1 (.int .u64 (s.turn : Int))
  simp only [List.set_cons_zero, List.set_cons_succ] at hB2
  replace hB2 : Bl w [⟨w.heap.size, kc b, 36⟩, ⟨w.heap.size + 1, spv ZSp, 85⟩, ⟨gs, spv ⟨s.place, s.turn, 0, Z16⟩, 85⟩, ⟨gr, rdr 8 p 52 c, 152⟩] _ := hB2
  clear hB
  replace hB2 := hide hB2
  dsimp only at c4 fz
  (refine wpList_step fun K hK => ?_; replace hK := hide hK; go_simp; refine unhide hK _ _ ?_; clear hK K)
  clear c4 fz
  have hB := unhide hB2
  clear hB2
  generalize World.setCell _ _ _ = u5 at *
  have hR := hR2
  clear hR2
  refine wpList_nil ?_
  replace hB := hide hB
  go_upto_region 4 with fail
  replace hB := unhide hB
  refine wp_region_lit ?_
  refine list_val (.pointer (some ⟨gr, 0, none⟩)) (by kernel_rfl) (by kernel_rfl) ?_
  simp only [nrm]
  refine list_call 86 #[P0 gr] (by kernel_rfl) (by kernel_rfl) ((ru32_ok gr p 52 c 8 B12 u5 (unhide hR) (by omega) (by omega)).mono ?_)
  rintro r u6 ⟨rfl, hR2, hbt⟩
  have hB2 := hB.but hbt 3 (x := ⟨gr, rdr 8 p 52 c, 152⟩) rfl rfl hR2.cel
  simp only [List.set_cons_zero, List.set_cons_succ] at hB2
  clear hB hR
  have hB : Bl w [⟨w.heap.size, kc b, 36⟩, ⟨w.heap.size + 1, spv ZSp, 85⟩, ⟨gs, spv ⟨s.place, s.turn, 0, Z16⟩, 85⟩, ⟨gr, rdr 12 p 52 c, 152⟩] u6 := hB2
  rw [unhide t2]
  have hR : Hid (Rdr gr p 52 c 12 B12 u6) := hR2
  clear hB2 hR2 hbt
  refine ⟨_, rfl, ?_⟩
  simp only [nrm]
  refine list_val (.pointer (some ⟨gs, 2, none⟩)) (by kernel_rfl) (by kernel_rfl) ?_
  simp only [nrm]
  have hR2 := hide ((unhide hR).bt (Bt.setCell (g := gs) u6 2 (.int .u32 (s.size : Int))) hne1 hne2)
  clear hR
  have c4 := cell_of (hB.get 2 (x := ⟨gs, spv ⟨s.place, s.turn, 0, Z16⟩, 85⟩) rfl) (i := 2) rfl
  have fz := froz_of (i := 2) (hB.get 2 (x := ⟨gs, spv ⟨s.place, s.turn, 0, Z16⟩, 85⟩) rfl)
  have hB2 := hB.cell 2 (x := ⟨gs, spv ⟨s.place, s.turn, 0, Z16⟩, 85⟩) rfl 2 (.int .u32 (s.size : Int))
  simp only [List.set_cons_zero, List.set_cons_succ] at hB2
  replace hB2 : Bl w [⟨w.heap.size, kc b, 36⟩, ⟨w.heap.size + 1, spv ZSp, 85⟩, ⟨gs, spv ⟨s.place, s.turn, s.size, Z16⟩, 85⟩, ⟨gr, rdr 12 p 52 c, 152⟩] _ := hB2
  clear hB
  replace hB2 := hide hB2
  dsimp only at c4 fz
  (refine wpList_step fun K hK => ?_; replace hK := hide hK; go_simp; refine unhide hK _ _ ?_; clear hK K)
  clear c4 fz
  have hB := unhide hB2
  clear hB2
  generalize World.setCell _ _ _ = u7 at *
  have hR := hR2
  clear hR2
  refine wpList_nil ?_
  replace hB := hide hB
  go_upto_region 5 with fail
  replace hB := unhide hB
  refine any_start (S := fun _ => True) (by kernel_rfl) ?_
  replace hB := hB.drew
  replace hR := hide ((unhide hR).gr (Gr.refl _).drew)
  generalize World.drew _ = x0 at *
  simp only [List.size_toArray, List.length_cons, List.length_nil, Array.replicate, List.replicate]
  refine any_take (i := 0) (v := (.pointer (some ⟨gs, 3, none⟩))) #[false, false, false, false, false] rfl (by kernel_rfl) (by kernel_rfl) (by kernel_rfl) (by kernel_rfl) (fun _ _ _ h => h) (.inl ⟨by kernel_rfl, fun x_ hu => by kernel_rfl⟩) trivial ?_
  simp only [nrm]
  refine any_take (i := 1) (v := (.slice (some ⟨gs, 3, none⟩) 16 16)) #[true, false, false, false, false] rfl (by kernel_rfl) (by kernel_rfl) (by kernel_rfl) (by kernel_rfl) (fun _ _ _ h => h) (.inl ⟨by kernel_rfl, fun x_ hu => by kernel_rfl⟩) trivial ?_
  simp only [nrm]
  refine any_take (i := 2) (v := (.pointer (some ⟨gr, 0, none⟩))) #[true, true, false, false, false] rfl (by kernel_rfl) (by kernel_rfl) (by kernel_rfl) (by kernel_rfl) (fun _ _ _ h => h) (.inl ⟨by kernel_rfl, fun x_ hu => by kernel_rfl⟩) trivial ?_
  simp only [nrm]
  refine any_one (i := 3) (by kernel_rfl) rfl (fun K_ hQ => ?_)
  refine step_callw (by kernel_rfl) 87 #[P0 gr, .int .i64 ((16 : Nat) : Int)] (by kernel_rfl) ((rraw_ok gr p 52 c 12 16 B12 x0 (unhide hR) (by omega) (by omega) (by omega)).mono ?_)
  rintro r u8 ⟨vr, rfl, hO, hR2, hbt⟩
  refine ⟨_, rfl, ?_⟩
  rw [unhide t3] at hO
  obtain ⟨ar, cr, rfl, hlr⟩ := ob_lb hO (unhide hih) hhl
  have hB2 := hB.but hbt 3 (x := ⟨gr, rdr 12 p 52 c, 152⟩) rfl rfl hR2.cel
  simp only [List.set_cons_zero, List.set_cons_succ] at hB2
  clear hB hR hO hbt hR2
  have hB : Bl w [⟨w.heap.size, kc b, 36⟩, ⟨w.heap.size + 1, spv ZSp, 85⟩, ⟨gs, spv ⟨s.place, s.turn, s.size, Z16⟩, 85⟩, ⟨gr, rdr 28 p 52 c, 152⟩] u8 := hB2
  clear hB2
  refine hQ.out _ _ trivial (fun _ => ?_)
  clear hQ K_
  simp only [nrm]
  refine any_one (i := 4) (by kernel_rfl) rfl (fun K_ hQ => ?_)
  rw [if_pos (by kernel_rfl)]
  refine copy_wp (.tmp 18) (.tmp 20) rfl gs 3 16 16 ar 16 cr (by kernel_rfl) (by kernel_rfl) (spl ⟨s.place, s.turn, s.size, Z16⟩) 85 (hB.get 2 (x := ⟨gs, spv ⟨s.place, s.turn, s.size, Z16⟩, 85⟩) rfl) s.hash (by rw [hhl]; rfl) hlr.sl (by have := spl_len (s := ⟨s.place, s.turn, s.size, Z16⟩) rfl; rw [hhl]; omega) ?_
  have hcell := setCells_heap (s.hash.map (Value.int .u8)) u8 gs 3 (spl ⟨s.place, s.turn, s.size, Z16⟩) 85 (hB.get 2 (x := ⟨gs, spv ⟨s.place, s.turn, s.size, Z16⟩, 85⟩) rfl)
  rw [sp_spl _ _ (by rw [hhl]; rfl)] at hcell
  have hB2 := hB.but (setCells_bt (s.hash.map (Value.int .u8)) u8 gs 3) 2 (x := ⟨gs, spv ⟨s.place, s.turn, s.size, Z16⟩, 85⟩) rfl rfl hcell
  simp only [List.set_cons_zero, List.set_cons_succ] at hB2
  generalize World.setCells _ _ _ _ = u9 at *
  rw [hhl]
  clear hcell hB hlr
  have hB : Bl w [⟨w.heap.size, kc b, 36⟩, ⟨w.heap.size + 1, spv ZSp, 85⟩, ⟨gs, spv s, 85⟩, ⟨gr, rdr 28 p 52 c, 152⟩] u9 := hB2
  clear hB2
  refine hQ.out _ _ trivial (fun _ => ?_)
  clear hQ K_
  simp only [nrm]
  refine any_done (by kernel_rfl) ?_
  replace hB := hide hB
  go_upto_region 6 with fail
  replace hB := unhide hB
  by_cases hpl : s.place < 2
  · skip
    have hpI : (s.place : Int) < 2 := by omega
    have hok := unhide hok2 hpl
    have hrt2 : rt = decide (s.blk = b) := by
      have h := unhide hrt
      by_cases hq : s.blk = b
      · rw [decide_eq_true hq]; exact h.1 ⟨hpl, hq⟩
      · rw [decide_eq_false hq]
        cases hr : rt
        · rfl
        · exact absurd (h.2 hr).2 hq
    clear hpl
    replace hrt2 := hide hrt2
    refine any_start (S := fun (v : World) => v.heap[gs]? = some (.cells (spv s) 85 (0, 0)) ∧ v.heap[w.heap.size]? = some (.cells (kc b) 36 (0, 0))) (by kernel_rfl) ?_
    replace hB := hB.drew
    generalize World.drew _ = x1 at *
    have hS : (fun (v : World) => v.heap[gs]? = some (.cells (spv s) 85 (0, 0)) ∧ v.heap[w.heap.size]? = some (.cells (kc b) 36 (0, 0))) x1 := ⟨(hB.get 2 (x := ⟨gs, spv s, 85⟩) rfl), (hB.get 0 (x := ⟨w.heap.size, kc b, 36⟩) rfl)⟩
    simp only [List.size_toArray, List.length_cons, List.length_nil, Array.replicate, List.replicate]
    refine any_take (i := 0) (v := (.agg (spv s))) #[false, false, false, false, false, false, false, false, false, false, false, false] rfl (by kernel_rfl) (by kernel_rfl) (by kernel_rfl) (by kernel_rfl) (fun _ _ _ h => h) (.inl ⟨by kernel_rfl, fun x_ hu => exec_arr _ 85 (.tmp 4) rfl gs (by kernel_rfl) (spv s) 85 _ hu.1 Tryz.underlying85 rfl (by rw [Tryz.infoSp, spv_size hhl])⟩) hS ?_
    simp only [nrm]
    refine any_take (i := 1) (v := (.pointer (some ⟨gs, 0, none⟩))) #[true, false, false, false, false, false, false, false, false, false, false, false] rfl (by kernel_rfl) (by kernel_rfl) (by kernel_rfl) (by kernel_rfl) (fun _ _ _ h => h) (.inl ⟨by kernel_rfl, fun x_ hu => by kernel_rfl⟩) hS ?_
    simp only [nrm]
    refine any_take (i := 2) (v := (.int .u8 (s.place : Int))) #[true, true, false, false, false, false, false, false, false, false, false, false] rfl (by kernel_rfl) (by kernel_rfl) (by kernel_rfl) (by kernel_rfl) (fun _ _ _ h => h) (.inl ⟨by kernel_rfl, fun x_ hu => exec_b _ (.tmp 23) rfl gs 0 (by kernel_rfl) _ (spv_cells hu.1).1⟩) hS ?_
    simp only [nrm]
    refine any_take (i := 3) (v := (.bool true)) #[true, true, true, false, false, false, false, false, false, false, false, false] rfl (by kernel_rfl) (by kernel_rfl) (by kernel_rfl) (by kernel_rfl) (fun _ _ _ h => h) (.inl ⟨by kernel_rfl, fun x_ hu => by go_simp⟩) hS ?_
    simp only [nrm]
    refine any_take (i := 4) (v := (.bool true)) #[true, true, true, true, false, false, false, false, false, false, false, false] rfl (by kernel_rfl) (by kernel_rfl) (by kernel_rfl) (by kernel_rfl) (fun _ _ _ h => h) (.inl ⟨by kernel_rfl, fun x_ hu => by kernel_rfl⟩) hS ?_
    simp only [nrm]
    refine any_take (i := 5) (v := (.agg (spv s))) #[true, true, true, true, true, false, false, false, false, false, false, false] rfl (by kernel_rfl) (by kernel_rfl) (by kernel_rfl) (by kernel_rfl) (fun _ _ _ h => h) (.inl ⟨by kernel_rfl, fun x_ hu => exec_arr _ 85 (.tmp 4) rfl gs (by kernel_rfl) (spv s) 85 _ hu.1 Tryz.underlying85 rfl (by rw [Tryz.infoSp, spv_size hhl])⟩) hS ?_
    simp only [nrm]
    refine any_take (i := 7) (v := (.agg (kc b))) #[true, true, true, true, true, true, false, false, false, false, false, false] rfl (by kernel_rfl) (by kernel_rfl) (by kernel_rfl) (by kernel_rfl) (fun _ _ _ h => h) (.inl ⟨by kernel_rfl, fun x_ hu => exec_arr _ 36 (.tmp 1) rfl (w.heap.size) (by kernel_rfl) (kc b) 36 _ hu.2 Tryz.underlying36 rfl (by rw [Tryz.infoB, kc_size, hbl])⟩) hS ?_
    simp only [nrm]
    refine any_one (i := 6) (by kernel_rfl) rfl (fun K_ hQ => ?_)
    refine step_callw (by kernel_rfl) 58 #[.agg (spv s)] (by kernel_rfl) ((sblock_ok s hok x1 ((unhide hf).gr hB.gr)).mono ?_)
    rintro r u11 ⟨rfl, hg⟩
    refine ⟨_, rfl, ?_⟩
    replace hB := hB.more hg
    have hKl := (blk_bb hok).1
    obtain ⟨BK, hBK⟩ : ∃ x, x = s.blk := ⟨_, rfl⟩
    rw [← hBK] at hKl ⊢
    have hrq : rt = decide (BK = b) := by rw [hBK]; exact unhide hrt2
    replace hrq := hide hrq
    replace hS : (fun (v : World) => v.heap[gs]? = some (.cells (spv s) 85 (0, 0)) ∧ v.heap[w.heap.size]? = some (.cells (kc b) 36 (0, 0))) u11 := ⟨hg.blk hS.1, hg.blk hS.2⟩
    replace hBK := hide hBK
    clear hg
    refine hQ.out _ _ hS (fun _ => ?_)
    clear hQ K_
    simp only [nrm]
    refine any_take (i := 8) (v := (.bool rt)) #[true, true, true, true, true, true, true, true, false, false, false, false] rfl (by kernel_rfl) (by kernel_rfl) (by kernel_rfl) (by kernel_rfl) (fun _ _ _ h => h) (.inl ⟨by kernel_rfl, fun x_ hu => exec_eqB _ (.tmp 28) (.tmp 29) rfl BK b hKl hbl (by kernel_rfl) (by kernel_rfl) rt (unhide hrq)⟩) hS ?_
    simp only [nrm]
    refine any_take (i := 9) (v := (.bool rt)) #[true, true, true, true, true, true, true, true, true, false, false, false] rfl (by kernel_rfl) (by kernel_rfl) (by kernel_rfl) (by kernel_rfl) (fun _ _ _ h => h) (.inl ⟨by kernel_rfl, fun x_ hu => by kernel_rfl⟩) hS ?_
    simp only [nrm]
    refine any_one (i := 10) (by kernel_rfl) rfl (fun K_ hQ => ?_)
    rw [if_pos (by kernel_rfl)]
    refine wp_store_row 85 (.tmp 2) (.tmp 22) rfl (w.heap.size + 1) (spv s) (by kernel_rfl) (by kernel_rfl) 85 (spv ZSp) (hB.get 1 (x := ⟨w.heap.size + 1, spv ZSp, 85⟩) rfl) (by rw [Tryz.infoSp, spv_size hhl]) (by rw [spv_size hhl]; rfl) (spv_one _) ?_
    have hB2 := hB.set 1 (x := ⟨w.heap.size + 1, spv ZSp, 85⟩) rfl (spv s)
    simp only [List.set_cons_zero, List.set_cons_succ] at hB2
    generalize World.setRow _ _ _ = u12 at *
    clear hB hS
    have hB : Bl w [⟨w.heap.size, kc b, 36⟩, ⟨w.heap.size + 1, spv s, 85⟩, ⟨gs, spv s, 85⟩, ⟨gr, rdr 28 p 52 c, 152⟩] u12 := hB2
    clear hB2
    have hS : (fun (v : World) => v.heap[gs]? = some (.cells (spv s) 85 (0, 0)) ∧ v.heap[w.heap.size]? = some (.cells (kc b) 36 (0, 0))) u12 := ⟨(hB.get 2 (x := ⟨gs, spv s, 85⟩) rfl), (hB.get 0 (x := ⟨w.heap.size, kc b, 36⟩) rfl)⟩
    refine hQ.out _ _ hS (fun _ => ?_)
    clear hQ K_
    simp only [nrm]
    refine any_one (i := 11) (by kernel_rfl) rfl (fun K_ hQ => ?_)
    replace hQ := hide hQ
    go_simp
    refine (unhide hQ).out _ _ hS (fun _ => ?_)
    clear hQ K_
    refine any_done (by kernel_rfl) ?_
    replace hB := hide hB
    clear hS
    go_wp2_with fail
    replace hB := unhide hB
    rw [unhide hR0]
    exact bodyPost_ret (v := .tuple #[.agg (spv s), .bool rt]) (results_cell_tmp Tryz.results88 _ _ (w.heap.size + 1) 85 (spv s) (0, 0) _ rfl (.bool rt) rfl (hB.get 1 (x := ⟨w.heap.size + 1, spv s, 85⟩) rfl) Tryz.underlying85 rfl (by rw [Tryz.infoSp, spv_size hhl])) rfl ⟨rfl, hB.gr⟩
  · skip
    have hpI : ¬ (s.place : Int) < 2 := by omega
    have hrf : rt = false := by
      cases hr : rt
      · rfl
      · exact absurd ((unhide hrt).2 hr).1 hpl
    clear hpl
    replace hrf := hide hrf
    refine any_start (S := fun (v : World) => v.heap[gs]? = some (.cells (spv s) 85 (0, 0)) ∧ v.heap[w.heap.size]? = some (.cells (kc b) 36 (0, 0))) (by kernel_rfl) ?_
    replace hB := hB.drew
    generalize World.drew _ = x1 at *
    have hS : (fun (v : World) => v.heap[gs]? = some (.cells (spv s) 85 (0, 0)) ∧ v.heap[w.heap.size]? = some (.cells (kc b) 36 (0, 0))) x1 := ⟨(hB.get 2 (x := ⟨gs, spv s, 85⟩) rfl), (hB.get 0 (x := ⟨w.heap.size, kc b, 36⟩) rfl)⟩
    simp only [List.size_toArray, List.length_cons, List.length_nil, Array.replicate, List.replicate]
    refine any_take (i := 0) (v := (.agg (spv s))) #[false, false, false, false, false, false, false, false, false, false, false, false] rfl (by kernel_rfl) (by kernel_rfl) (by kernel_rfl) (by kernel_rfl) (fun _ _ _ h => h) (.inl ⟨by kernel_rfl, fun x_ hu => exec_arr _ 85 (.tmp 4) rfl gs (by kernel_rfl) (spv s) 85 _ hu.1 Tryz.underlying85 rfl (by rw [Tryz.infoSp, spv_size hhl])⟩) hS ?_
    simp only [nrm]
    refine any_take (i := 1) (v := (.pointer (some ⟨gs, 0, none⟩))) #[true, false, false, false, false, false, false, false, false, false, false, false] rfl (by kernel_rfl) (by kernel_rfl) (by kernel_rfl) (by kernel_rfl) (fun _ _ _ h => h) (.inl ⟨by kernel_rfl, fun x_ hu => by kernel_rfl⟩) hS ?_
    simp only [nrm]
    refine any_take (i := 2) (v := (.int .u8 (s.place : Int))) #[true, true, false, false, false, false, false, false, false, false, false, false] rfl (by kernel_rfl) (by kernel_rfl) (by kernel_rfl) (by kernel_rfl) (fun _ _ _ h => h) (.inl ⟨by kernel_rfl, fun x_ hu => exec_b _ (.tmp 23) rfl gs 0 (by kernel_rfl) _ (spv_cells hu.1).1⟩) hS ?_
    simp only [nrm]
    refine any_take (i := 3) (v := (.bool false)) #[true, true, true, false, false, false, false, false, false, false, false, false] rfl (by kernel_rfl) (by kernel_rfl) (by kernel_rfl) (by kernel_rfl) (fun _ _ _ h => h) (.inl ⟨by kernel_rfl, fun x_ hu => by go_simp⟩) hS ?_
    simp only [nrm]
    refine any_take (i := 4) (v := (.bool false)) #[true, true, true, true, false, false, false, false, false, false, false, false] rfl (by kernel_rfl) (by kernel_rfl) (by kernel_rfl) (by kernel_rfl) (fun _ _ _ h => h) (.inl ⟨by kernel_rfl, fun x_ hu => by kernel_rfl⟩) hS ?_
    simp only [nrm]
    refine any_take (i := 5) (v := undef) #[true, true, true, true, true, false, false, false, false, false, false, false] rfl (by kernel_rfl) (by kernel_rfl) (by kernel_rfl) (by kernel_rfl) (fun _ _ _ h => h) (.inr ⟨by kernel_rfl, rfl⟩) hS ?_
    simp only [nrm]
    refine any_take (i := 6) (v := undef) #[true, true, true, true, true, true, false, false, false, false, false, false] rfl (by kernel_rfl) (by kernel_rfl) (by kernel_rfl) (by kernel_rfl) (fun _ _ _ h => h) (.inr ⟨by kernel_rfl, rfl⟩) hS ?_
    simp only [nrm]
    refine any_take (i := 7) (v := undef) #[true, true, true, true, true, true, true, false, false, false, false, false] rfl (by kernel_rfl) (by kernel_rfl) (by kernel_rfl) (by kernel_rfl) (fun _ _ _ h => h) (.inr ⟨by kernel_rfl, rfl⟩) hS ?_
    simp only [nrm]
    refine any_take (i := 8) (v := undef) #[true, true, true, true, true, true, true, true, false, false, false, false] rfl (by kernel_rfl) (by kernel_rfl) (by kernel_rfl) (by kernel_rfl) (fun _ _ _ h => h) (.inr ⟨by kernel_rfl, rfl⟩) hS ?_
    simp only [nrm]
    refine any_take (i := 9) (v := (.bool false)) #[true, true, true, true, true, true, true, true, true, false, false, false] rfl (by kernel_rfl) (by kernel_rfl) (by kernel_rfl) (by kernel_rfl) (fun _ _ _ h => h) (.inl ⟨by kernel_rfl, fun x_ hu => by kernel_rfl⟩) hS ?_
    simp only [nrm]
    refine any_one (i := 10) (by kernel_rfl) rfl (fun K_ hQ => ?_)
    rw [if_pos (by kernel_rfl)]
    refine wp_store_row 85 (.tmp 2) (.tmp 22) rfl (w.heap.size + 1) (spv s) (by kernel_rfl) (by kernel_rfl) 85 (spv ZSp) (hB.get 1 (x := ⟨w.heap.size + 1, spv ZSp, 85⟩) rfl) (by rw [Tryz.infoSp, spv_size hhl]) (by rw [spv_size hhl]; rfl) (spv_one _) ?_
    have hB2 := hB.set 1 (x := ⟨w.heap.size + 1, spv ZSp, 85⟩) rfl (spv s)
    simp only [List.set_cons_zero, List.set_cons_succ] at hB2
    generalize World.setRow _ _ _ = u12 at *
    clear hB hS
    have hB : Bl w [⟨w.heap.size, kc b, 36⟩, ⟨w.heap.size + 1, spv s, 85⟩, ⟨gs, spv s, 85⟩, ⟨gr, rdr 28 p 52 c, 152⟩] u12 := hB2
    clear hB2
    have hS : (fun (v : World) => v.heap[gs]? = some (.cells (spv s) 85 (0, 0)) ∧ v.heap[w.heap.size]? = some (.cells (kc b) 36 (0, 0))) u12 := ⟨(hB.get 2 (x := ⟨gs, spv s, 85⟩) rfl), (hB.get 0 (x := ⟨w.heap.size, kc b, 36⟩) rfl)⟩
    refine hQ.out _ _ hS (fun _ => ?_)
    clear hQ K_
    simp only [nrm]
    refine any_one (i := 11) (by kernel_rfl) rfl (fun K_ hQ => ?_)
    replace hQ := hide hQ
    go_simp
    refine (unhide hQ).out _ _ hS (fun _ => ?_)
    clear hQ K_
    refine any_done (by kernel_rfl) ?_
    replace hB := hide hB
    clear hS
    go_wp2_with fail
    replace hB := unhide hB
    rw [unhide hR0]
    exact bodyPost_ret (v := .tuple #[.agg (spv s), .bool false]) (results_cell_tmp Tryz.results88 _ _ (w.heap.size + 1) 85 (spv s) (0, 0) _ rfl (.bool false) rfl (hB.get 1 (x := ⟨w.heap.size + 1, spv s, 85⟩) rfl) Tryz.underlying85 rfl (by rw [Tryz.infoSp, spv_size hhl])) rfl ⟨by rw [unhide hrf], hB.gr⟩
end Go.Proofs.YtaoiejgjdmakjaaGreatDoor
