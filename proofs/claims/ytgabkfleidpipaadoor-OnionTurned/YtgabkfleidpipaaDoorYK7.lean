/-
  Of layer 15: what the proof leans on.
-/
import Derived.Lib.SlBytesConst
import Derived.Test.YtgabkfleidpipaaDoorYK6
namespace Go.Proofs.YtgabkfleidpipaaDoor
open Go.RowKit
set_option maxRecDepth 100000
set_option linter.unusedSimpArgs false
set_option linter.unusedVariables false
def ZK : List Int := List.replicate 32 0
def ZN : List Int := List.replicate 12 0
theorem lay_all (C S : List Int) (h : S.length = C.length) : lay C 0 S = S := by
  unfold lay
  rw [List.take_zero, List.nil_append, Nat.zero_add, List.drop_of_length_le (by omega), List.append_nil]
theorem exec_ptr {op : Oper} {a : Act} (w : World) (x : Operand) (ho : op.op = .load 89 x) (g i : Nat) (hx : a.eval x = .pointer (some ⟨g, i, none⟩)) (p : Option Addr) (hc : w.cell? ⟨g, i, none⟩ = some (.pointer p)) : (execOp a.eval op).run Tryd.prog w = .ok (.value (.pointer p)) w := by
  unfold execOp
  simp only [ho, hx, Instr.loadAt, Instr.sureAddr, Sem.run_bind, Sem.run_pure, Result.andThen_ok]
  go_simp
theorem Cd.keep {K : List Int} {g : Nat} {L : List Int} {w v : World} (h : Cd K g L w) (e : v.heap[g]? = w.heap[g]?) : Cd K g L v := by
  obtain ⟨l, S, M, A, hH, hr⟩ := h
  exact ⟨l, S, M, A, ⟨hH.1, e.trans hH.2⟩, hr⟩
theorem Cd.ne {K : List Int} {g : Nat} {L : List Int} {w : World} (h : Cd K g L w) {b : Nat} {c : Array Value} {t : TypeId} (hb : w.heap[b]? = some (.cells c t (0, 0))) (ht : t ≠ 117) : b ≠ g := by
  obtain ⟨l, S, M, A, hH, _⟩ := h
  intro e
  have h2 := hH.2
  rw [← e, hb] at h2
  simp only [Option.some.injEq, Obj.cells.injEq] at h2
  exact ht h2.2.1
theorem Bl.beside {K : List Int} {w u v : World} {L : List Blk} {g : Nat} {M : List Int} (h : Bl w L u) (hC : Cd K g M u) (k : Bt g u v) (hg : w.heap.size ≤ g) (ht : ∀ x ∈ L, x.t ≠ 117) : Bl w L v :=
  ⟨k.gr h.gr hg, fun x hx => ⟨k.blk (h.at_ x hx).1 (hC.ne (h.at_ x hx).1 (ht x hx)), (h.at_ x hx).2⟩, h.ne⟩
set_option maxHeartbeats 4000000 in
theorem once_ok (K N : List Int) (hK : K.length = 32) (hN : N.length = 12) (hKb : IsB K) (hNb : IsB N) (w : World) : Calls Tryd.prog 46 #[.agg (kc K), .agg (kc N)] w (Tg (otk K N) w) := by
  obtain ⟨T, hT⟩ : ∃ T, T = Tg (otk K N) w := ⟨_, rfl⟩
  rw [← hT]
  replace hT := hide hT
  obtain ⟨SK, hSK⟩ : ∃ S, S = kc K := ⟨_, rfl⟩
  obtain ⟨SN, hSN⟩ : ∃ S, S = kc N := ⟨_, rfl⟩
  rw [← hSK, ← hSN]
  replace hSK := hide hSK
  replace hSN := hide hSN
  replace hKb := hide hKb
  replace hNb := hide hNb
  go_enter Tryd.func46, Tryd.ntmps46
  go_upto_region 2 with fail
  have hB := (((((Bl.nil w).new SK 34).new SN 58).new #[.int .u8 0, .int .u8 0, .int .u8 0, .int .u8 0, .int .u8 0, .int .u8 0, .int .u8 0, .int .u8 0, .int .u8 0, .int .u8 0, .int .u8 0, .int .u8 0, .int .u8 0, .int .u8 0, .int .u8 0, .int .u8 0, .int .u8 0, .int .u8 0, .int .u8 0, .int .u8 0, .int .u8 0, .int .u8 0, .int .u8 0, .int .u8 0, .int .u8 0, .int .u8 0, .int .u8 0, .int .u8 0, .int .u8 0, .int .u8 0, .int .u8 0, .int .u8 0] 34).new #[.int .u8 0, .int .u8 0, .int .u8 0, .int .u8 0, .int .u8 0, .int .u8 0, .int .u8 0, .int .u8 0, .int .u8 0, .int .u8 0, .int .u8 0, .int .u8 0, .int .u8 0, .int .u8 0, .int .u8 0, .int .u8 0, .int .u8 0, .int .u8 0, .int .u8 0, .int .u8 0, .int .u8 0, .int .u8 0, .int .u8 0, .int .u8 0, .int .u8 0, .int .u8 0, .int .u8 0, .int .u8 0, .int .u8 0, .int .u8 0, .int .u8 0, .int .u8 0] 34)
  simp only [size_alloc, List.nil_append, List.cons_append] at hB
  generalize World.alloc _ _ = u at *
  rw [unhide hSK, unhide hSN] at hB
  replace hB : Bl w [⟨w.heap.size, kc K, 34⟩, ⟨w.heap.size + 1, kc N, 58⟩, ⟨w.heap.size + 1 + 1, kc ZK, 34⟩, ⟨w.heap.size + 1 + 1 + 1, kc ZK, 34⟩] u := hB
  refine wp_region_lit ?_
  refine list_val (.agg (kc K)) (by kernel_rfl) (exec_arr _ 34 (.tmp 2) rfl (w.heap.size) (by kernel_rfl) (kc K) 34 _ (hB.get 0 (x := ⟨w.heap.size, kc K, 34⟩) rfl) Tryd.underlying34 rfl (by rw [Tryd.infoKey, kc_size, hK])) ?_
  simp only [nrm]
  refine list_val (.agg (kc N)) (by kernel_rfl) (exec_arr _ 58 (.tmp 3) rfl (w.heap.size + 1) (by kernel_rfl) (kc N) 58 _ (hB.get 1 (x := ⟨w.heap.size + 1, kc N, 58⟩) rfl) Tryd.underlying58 rfl (by rw [Tryd.infoN, kc_size, hN])) ?_
  simp only [nrm]
  refine list_call 65 #[.agg (kc K), .int .u32 0, .agg (kc N)] (by kernel_rfl) (by kernel_rfl) ((block_ok K N hK hN (unhide hKb) (unhide hNb) 0 _).mono ?_)
  rintro r u1 ⟨rfl, hg⟩
  refine ⟨_, rfl, ?_⟩
  replace hB := hB.more hg
  clear hg
  obtain ⟨D, hD⟩ : ∃ D, D = bk K N 0 := ⟨_, rfl⟩
  rw [← hD]
  have hDl : D.length = 64 := by rw [hD, bk_len]
  replace hD := hide hD
  simp only [nrm]
  replace hB := hide hB
  (refine wpList_step fun K hK => ?_; replace hK := hide hK; go_simp; refine unhide hK _ _ ?_; clear hK K)
  replace hB := (unhide hB).new #[.int .u8 0, .int .u8 0, .int .u8 0, .int .u8 0, .int .u8 0, .int .u8 0, .int .u8 0, .int .u8 0, .int .u8 0, .int .u8 0, .int .u8 0, .int .u8 0, .int .u8 0, .int .u8 0, .int .u8 0, .int .u8 0, .int .u8 0, .int .u8 0, .int .u8 0, .int .u8 0, .int .u8 0, .int .u8 0, .int .u8 0, .int .u8 0, .int .u8 0, .int .u8 0, .int .u8 0, .int .u8 0, .int .u8 0, .int .u8 0, .int .u8 0, .int .u8 0, .int .u8 0, .int .u8 0, .int .u8 0, .int .u8 0, .int .u8 0, .int .u8 0, .int .u8 0, .int .u8 0, .int .u8 0, .int .u8 0, .int .u8 0, .int .u8 0, .int .u8 0, .int .u8 0, .int .u8 0, .int .u8 0, .int .u8 0, .int .u8 0, .int .u8 0, .int .u8 0, .int .u8 0, .int .u8 0, .int .u8 0, .int .u8 0, .int .u8 0, .int .u8 0, .int .u8 0, .int .u8 0, .int .u8 0, .int .u8 0, .int .u8 0, .int .u8 0] 98
  simp only [List.nil_append, List.cons_append] at hB
  generalize World.alloc _ _ = u2 at *
  generalize u1.heap.size = h6 at *
  replace hB : Bl w [⟨w.heap.size, kc K, 34⟩, ⟨w.heap.size + 1, kc N, 58⟩, ⟨w.heap.size + 1 + 1, kc ZK, 34⟩, ⟨w.heap.size + 1 + 1 + 1, kc ZK, 34⟩, ⟨h6, kc Z64, 98⟩] u2 := hB
  refine list_store 98 (.tmp 6) (.tmp 9) (h6) (kc D) 98 (kc Z64) (by kernel_rfl) rfl (by kernel_rfl) (by kernel_rfl) (hB.get 4 (x := ⟨h6, kc Z64, 98⟩) rfl) (by rw [Tryd.info64, kc_size, hDl]) ((show (kc Z64).size = 64 from rfl).trans ((kc_size _).trans hDl).symm) (kc_one _) ?_
  replace hB := hB.set 4 (x := ⟨h6, kc Z64, 98⟩) rfl (kc D)
  simp only [List.set_cons_zero, List.set_cons_succ] at hB
  generalize World.setRow _ _ _ = u3 at *
  simp only [nrm]
  refine wpList_nil ?_
  replace hB := hide hB
  go_upto_region 3 with fail
  replace hB := unhide hB
  refine any_start (S := fun _ => True) (by kernel_rfl) ?_
  replace hB := hB.drew
  generalize World.drew _ = x0 at *
  simp only [List.size_toArray, List.length_cons, List.length_nil, Array.replicate, List.replicate]
  refine any_take (i := 0) (v := (.slice (some ⟨w.heap.size + 1 + 1 + 1, 0, none⟩) 32 32)) #[false, false, false] rfl (by kernel_rfl) (by kernel_rfl) (by kernel_rfl) (by kernel_rfl) (fun _ _ _ h => h) (.inl ⟨by kernel_rfl, fun x_ hu => by kernel_rfl⟩) trivial ?_
  simp only [nrm]
  refine any_take (i := 1) (v := (.slice (some ⟨h6, 0, none⟩) 64 64)) #[true, false, false] rfl (by kernel_rfl) (by kernel_rfl) (by kernel_rfl) (by kernel_rfl) (fun _ _ _ h => h) (.inl ⟨by kernel_rfl, fun x_ hu => by kernel_rfl⟩) trivial ?_
  simp only [nrm]
  refine any_one (i := 2) (by kernel_rfl) rfl (fun K_ hQ => ?_)
  rw [if_pos (by kernel_rfl)]
  obtain ⟨E, hE⟩ : ∃ E, E = D.take 32 := ⟨_, rfl⟩
  have hEl : E.length = 32 := by rw [hE, List.length_take, hDl]; rfl
  refine copy_wp (.tmp 10) (.tmp 11) rfl (w.heap.size + 1 + 1 + 1) 0 32 32 (some ⟨h6, 0, none⟩) 64 64 (by kernel_rfl) (by kernel_rfl) (ZK.map (Value.int .u8)) 34 (hB.get 3 (x := ⟨w.heap.size + 1 + 1 + 1, kc ZK, 34⟩) rfl) E (by rw [hEl]; rfl) (.inr ⟨h6, 0, rfl, by rw [hE]; exact (kc_at (hB.get 4 (x := ⟨h6, kc D, 98⟩) rfl)).take 32⟩) (by rw [hEl]; exact Nat.le_refl _) ?_
  have hcell := laid (S := E) (o := 0) (hB.get 3 (x := ⟨w.heap.size + 1 + 1 + 1, kc ZK, 34⟩) rfl) (by rw [hEl]; exact Nat.le_refl _)
  rw [lay_all ZK E hEl] at hcell
  have hB2 := hB.but (setCells_bt (E.map (Value.int .u8)) x0 (w.heap.size + 1 + 1 + 1) 0) 3 (x := ⟨w.heap.size + 1 + 1 + 1, kc ZK, 34⟩) rfl rfl hcell
  simp only [List.set_cons_zero, List.set_cons_succ] at hB2
  clear hcell hB
  generalize World.setCells _ _ _ _ = x1 at *
  refine hQ.out _ _ trivial (fun _ => ?_)
  clear hQ K_
  simp only [nrm]
  refine any_done (by kernel_rfl) ?_
  rw [hEl]
  replace hB2 := hide hB2
  go_upto_region 4 with fail
  have hB := unhide hB2
  clear hB2
  refine wp_region_lit ?_
  refine list_val (.agg (kc E)) (by kernel_rfl) (exec_arr _ 34 (.tmp 5) rfl (w.heap.size + 1 + 1 + 1) (by kernel_rfl) (kc E) 34 _ (hB.get 3 (x := ⟨w.heap.size + 1 + 1 + 1, kc E, 34⟩) rfl) Tryd.underlying34 rfl (by rw [Tryd.infoKey, kc_size, hEl])) ?_
  simp only [nrm]
  refine list_store 34 (.tmp 4) (.tmp 13) (w.heap.size + 1 + 1) (kc E) 34 (kc ZK) (by kernel_rfl) rfl (by kernel_rfl) (by kernel_rfl) (hB.get 2 (x := ⟨w.heap.size + 1 + 1, kc ZK, 34⟩) rfl) (by rw [Tryd.infoKey, kc_size, hEl]) ((show (kc ZK).size = 32 from rfl).trans ((kc_size _).trans hEl).symm) (kc_one _) ?_
  replace hB := hB.set 2 (x := ⟨w.heap.size + 1 + 1, kc ZK, 34⟩) rfl (kc E)
  simp only [List.set_cons_zero, List.set_cons_succ] at hB
  generalize World.setRow _ _ _ = x2 at *
  simp only [nrm]
  refine wpList_nil ?_
  have hE2 : E = otk K N := by rw [hE, unhide hD]; rfl
  clear hE
  replace hB := hide hB
  go_wp2_with fail
  replace hB := unhide hB
  rw [unhide hT]
  exact bodyPost_ret (v := .agg (kc E)) (results_cell_row Tryd.results46 _ _ (w.heap.size + 1 + 1) 34 (kc E) (0, 0) _ rfl (hB.get 2 (x := ⟨w.heap.size + 1 + 1, kc E, 34⟩) rfl) Tryd.underlying34 rfl (by rw [Tryd.infoKey, kc_size, hEl])) rfl (⟨by rw [hE2], hB.gr⟩)
def Filled (K : List Int) (g : Nat) (L : List Int) (w : World) (r : Ending) (w' : World) : Prop := r = .returned (.tuple #[]) ∧ Cd K g L w' ∧ Bt g w w'
theorem zt_lb {v : World} {g : Nat} (h : v.heap[g]? = some (.cells (kc ZT) 71 (0, 0))) (n : Nat) (hn : n < 16) : Lb v (some ⟨g, 0, none⟩) n 16 (List.replicate n 0) := by
  refine ⟨by simp, rep_isB n, .inr ⟨g, 0, rfl, ?_⟩, by omega, by omega⟩
  have h1 := (kc_at h).take n
  have e : ZT.take n = List.replicate n 0 := by
    unfold ZT
    rw [List.take_replicate, Nat.min_eq_left (by omega)]
  rw [e] at h1
  exact h1
set_option maxHeartbeats 4000000 in
theorem fill_ok (K L P : List Int) (g gv : Nat) (s : Option Addr) (n cap : Nat) (w : World) (hC : Cd K g L w) (hv : w.heap[gv]? = some (.cells #[.pointer (some ⟨g, 0, none⟩)] 89 (0, 0))) (lb : ∀ v, Bt g w v → Lb v s n cap P) : Calls Tryd.prog 47 #[.slice s n cap, .pointer (some ⟨gv, 0, none⟩)] w (Filled K g (L ++ pd P) w) := by
  obtain ⟨T, hT⟩ : ∃ T, T = Filled K g (L ++ pd P) w := ⟨_, rfl⟩
  rw [← hT]
  replace hT := hide hT
  have hlb := lb w (Bt.refl g w)
  have hPl := hlb.len
  have hmx : (n : Int) < 9223372036854775808 := by have h1 := hlb.cap; have h2 := hlb.max; omega
  clear hlb
  obtain ⟨m, hm⟩ : ∃ m, m = padz n := ⟨_, rfl⟩
  have hm16 : m < 16 := by rw [hm]; exact padz_lt n
  obtain ⟨r1, hr1⟩ : ∃ r, r = n % 16 := ⟨_, rfl⟩
  have hr16 : r1 < 16 := by omega
  have e1 : Int.tmod (n : Int) 16 = (r1 : Int) := by rw [Int.tmod_eq_emod_of_nonneg (by omega)]; omega
  obtain ⟨r2, hr2⟩ : ∃ r, r = 16 - r1 := ⟨_, rfl⟩
  have e2 : (16 : Int) - (r1 : Int) = (r2 : Int) := by omega
  have e4 : IntKind.i64.wrap (r2 : Int) = (r2 : Int) := by rw [IntKind.wrap_i64]; omega
  have e3 : Int.tmod (r2 : Int) 16 = (m : Int) := by rw [Int.tmod_eq_emod_of_nonneg (by omega)]; rw [hm]; unfold padz; omega
  have m16 : (m : Int) ≤ 16 := by omega
  replace hm := hide hm
  replace hr1 := hide hr1
  replace hr2 := hide hr2
  replace hC := hide hC; replace lb := hide lb; replace hv := hide hv; replace hPl := hide hPl
  go_enter Tryd.func47, Tryd.ntmps47
  go_upto_region 1 with fail
  have hg := (Gr.refl w).alloc (.cells #[.int .u8 0, .int .u8 0, .int .u8 0, .int .u8 0, .int .u8 0, .int .u8 0, .int .u8 0, .int .u8 0, .int .u8 0, .int .u8 0, .int .u8 0, .int .u8 0, .int .u8 0, .int .u8 0, .int .u8 0, .int .u8 0] 71 (0, 0))
  have hz := blk_new w (.cells #[.int .u8 0, .int .u8 0, .int .u8 0, .int .u8 0, .int .u8 0, .int .u8 0, .int .u8 0, .int .u8 0, .int .u8 0, .int .u8 0, .int .u8 0, .int .u8 0, .int .u8 0, .int .u8 0, .int .u8 0, .int .u8 0] 71 (0, 0))
  generalize World.alloc _ _ = u at *
  replace hz : u.heap[w.heap.size]? = some (.cells (kc ZT) 71 (0, 0)) := hz
  have hC1 := (unhide hC).gr hg
  have hv1 := hg.blk (unhide hv)
  have hne := hC1.ne hv1 (by decide)
  have hnz := hC1.ne hz (by decide)
  have bt := hg.bt g
  clear hg hC hv
  refine wp_region_lit ?_
  refine list_val (.pointer (some ⟨g, 0, none⟩)) (by kernel_rfl) (exec_ptr _ (.tmp 1) rfl gv 0 (by kernel_rfl) (some ⟨g, 0, none⟩) (cell_of hv1 rfl)) ?_
  simp only [nrm]
  refine list_val (.slice s n cap) (by kernel_rfl) (by kernel_rfl) ?_
  simp only [nrm]
  refine list_call 48 #[.pointer (some ⟨g, 0, none⟩), .slice s n cap] (by kernel_rfl) (by kernel_rfl) ((pwrite_ok K L P g s n cap _ hC1 (fun v h => (unhide lb) v (bt.trans h))).mono ?_)
  rintro r u2 ⟨rfl, hC2, hb⟩
  refine ⟨_, rfl, ?_⟩
  have hv2 := hb.blk hv1 hne
  have hz2 := hb.blk hz hnz
  replace bt := bt.trans hb
  clear hb hC1 hv1 hz
  simp only [nrm]
  refine wpList_nil ?_
  replace bt := hide bt; replace hC2 := hide hC2; replace hv2 := hide hv2; replace hz2 := hide hz2
  go_upto_region 2 with fail
  replace bt := unhide bt; replace hC2 := unhide hC2; replace hv2 := unhide hv2; replace hz2 := unhide hz2
  refine any_start (S := fun v => v.heap[gv]? = some (.cells #[.pointer (some ⟨g, 0, none⟩)] 89 (0, 0))) (by kernel_rfl) ?_
  replace hC2 := hC2.gr (Gr.refl _).drew
  replace bt := bt.trans ((Gr.refl _).drew.bt g)
  replace hz2 : (World.drew _).heap[w.heap.size]? = some (.cells (kc ZT) 71 (0, 0)) := hz2
  replace hv2 : (World.drew _).heap[gv]? = some (.cells #[.pointer (some ⟨g, 0, none⟩)] 89 (0, 0)) := hv2
  generalize World.drew _ = x0 at *
  simp only [List.size_toArray, List.length_cons, List.length_nil, Array.replicate, List.replicate]
  refine any_take (i := 0) (v := (.pointer (some ⟨g, 0, none⟩))) #[false, false, false, false, false, false, false, false] rfl (by kernel_rfl) (by kernel_rfl) (by kernel_rfl) (by kernel_rfl) (fun _ _ _ h => h) (.inl ⟨by kernel_rfl, fun x_ hu => exec_ptr _ (.tmp 1) rfl gv 0 (by kernel_rfl) (some ⟨g, 0, none⟩) (cell_of hu rfl)⟩) hv2 ?_
  simp only [nrm]
  refine any_take (i := 1) (v := (.slice s n cap)) #[true, false, false, false, false, false, false, false] rfl (by kernel_rfl) (by kernel_rfl) (by kernel_rfl) (by kernel_rfl) (fun _ _ _ h => h) (.inl ⟨by kernel_rfl, fun x_ hu => by kernel_rfl⟩) hv2 ?_
  simp only [nrm]
  refine any_take (i := 2) (v := (.int .i64 n)) #[true, true, false, false, false, false, false, false] rfl (by kernel_rfl) (by kernel_rfl) (by kernel_rfl) (by kernel_rfl) (fun _ _ _ h => h) (.inl ⟨by kernel_rfl, fun x_ hu => by kernel_rfl⟩) hv2 ?_
  simp only [nrm]
  refine any_take (i := 3) (v := (.int .i64 r1)) #[true, true, true, false, false, false, false, false] rfl (by kernel_rfl) (by kernel_rfl) (by kernel_rfl) (by kernel_rfl) (fun _ _ _ h => h) (.inl ⟨by kernel_rfl, fun x_ hu => by go_simp⟩) hv2 ?_
  simp only [nrm]
  refine any_take (i := 4) (v := (.int .i64 r2)) #[true, true, true, true, false, false, false, false] rfl (by kernel_rfl) (by kernel_rfl) (by kernel_rfl) (by kernel_rfl) (fun _ _ _ h => h) (.inl ⟨by kernel_rfl, fun x_ hu => by go_simp⟩) hv2 ?_
  simp only [nrm]
  refine any_take (i := 5) (v := (.int .i64 m)) #[true, true, true, true, true, false, false, false] rfl (by kernel_rfl) (by kernel_rfl) (by kernel_rfl) (by kernel_rfl) (fun _ _ _ h => h) (.inl ⟨by kernel_rfl, fun x_ hu => by go_simp⟩) hv2 ?_
  simp only [nrm]
  refine any_take (i := 6) (v := (.slice (some ⟨w.heap.size, 0, none⟩) m 16)) #[true, true, true, true, true, true, false, false] rfl (by kernel_rfl) (by kernel_rfl) (by kernel_rfl) (by kernel_rfl) (fun _ _ _ h => h) (.inl ⟨by kernel_rfl, fun x_ hu => by go_simp⟩) hv2 ?_
  simp only [nrm]
  refine any_one (i := 7) (by kernel_rfl) rfl (fun K_ hQ => ?_)
  refine step_callw (by kernel_rfl) 48 #[.pointer (some ⟨g, 0, none⟩), .slice (some ⟨w.heap.size, 0, none⟩) m 16] (by kernel_rfl) ((pwrite_ok K (L ++ P) (List.replicate m 0) g _ m 16 _ hC2 (fun v h => zt_lb (h.blk hz2 hnz) m hm16)).mono ?_)
  rintro r u4 ⟨rfl, hC4, hb⟩
  refine ⟨_, rfl, ?_⟩
  have hv4 := hb.blk hv2 hne
  replace bt := bt.trans hb
  clear hb hC2 hz2 hv2
  have hv2 := hv4
  refine hQ.out _ _ hv2 (fun _ => ?_)
  clear hQ K_
  simp only [nrm]
  refine any_done (by kernel_rfl) ?_
  have hC5 : Cd K g (L ++ pd P) u4 := by
    unfold pd
    rw [unhide hPl, ← unhide hm, ← List.append_assoc]
    exact hC4
  clear hC4 hv2 hv4 hm
  go_end0
  rw [unhide hT]
  exact ⟨rfl, hC5, bt⟩
theorem nocode {a b c d : Blk} (ha : a.t ≠ 117) (hb : b.t ≠ 117) (hc : c.t ≠ 117) (hd : d.t ≠ 117) : ∀ x ∈ [a, b, c, d], x.t ≠ 117 := by
  intro x hx
  simp only [List.mem_cons, List.not_mem_nil, or_false] at hx
  rcases hx with rfl | rfl | rfl | rfl <;> assumption
set_option maxHeartbeats 4000000 in
theorem atag_ok (K N : List Int) (hK : K.length = 32) (hN : N.length = 12) (hKb : IsB K) (hNb : IsB N) (A C : List Int) (s s2 : Option Addr) (n n2 cap cap2 : Nat) (w : World) (la : Lb w s n cap A) (lc : Lb w s2 n2 cap2 C) : Calls Tryd.prog 32 #[.agg (kc K), .agg (kc N), .slice s n cap, .slice s2 n2 cap2] w (Tg (tagL K N A C) w) := by
  obtain ⟨T, hT⟩ : ∃ T, T = Tg (tagL K N A C) w := ⟨_, rfl⟩
  rw [← hT]
  replace hT := hide hT
  obtain ⟨SK, hSK⟩ : ∃ S, S = kc K := ⟨_, rfl⟩
  obtain ⟨SN, hSN⟩ : ∃ S, S = kc N := ⟨_, rfl⟩
  rw [← hSK, ← hSN]
  replace hSK := hide hSK
  replace hSN := hide hSN
  have e1 : IntKind.u64.wrap (n : Int) = (n : Int) := by have h1 := la.cap; have h2 := la.max; rw [IntKind.wrap_u64]; omega
  have e2 : IntKind.u64.wrap (n2 : Int) = (n2 : Int) := by have h1 := lc.cap; have h2 := lc.max; rw [IntKind.wrap_u64]; omega
  have hAl := hide la.len
  have hCl := hide lc.len
  replace hKb := hide hKb
  replace hNb := hide hNb
  replace la := hide la
  replace lc := hide lc
  go_enter Tryd.func32, Tryd.ntmps32
  go_upto_region 1 with fail
  have hB := ((((Bl.nil w).new SK 34).new SN 58).new #[.int .u8 0, .int .u8 0, .int .u8 0, .int .u8 0, .int .u8 0, .int .u8 0, .int .u8 0, .int .u8 0, .int .u8 0, .int .u8 0, .int .u8 0, .int .u8 0, .int .u8 0, .int .u8 0, .int .u8 0, .int .u8 0] 72)
  simp only [size_alloc, List.nil_append, List.cons_append] at hB
  generalize World.alloc _ _ = u at *
  rw [unhide hSK, unhide hSN] at hB
  replace hB : Bl w [⟨w.heap.size, kc K, 34⟩, ⟨w.heap.size + 1, kc N, 58⟩, ⟨w.heap.size + 1 + 1, kc ZT, 72⟩] u := hB
  refine wp_region_lit ?_
  refine list_val (.agg (kc K)) (by kernel_rfl) (exec_arr _ 34 (.tmp 4) rfl (w.heap.size) (by kernel_rfl) (kc K) 34 _ (hB.get 0 (x := ⟨w.heap.size, kc K, 34⟩) rfl) Tryd.underlying34 rfl (by rw [Tryd.infoKey, kc_size, hK])) ?_
  simp only [nrm]
  refine list_val (.agg (kc N)) (by kernel_rfl) (exec_arr _ 58 (.tmp 5) rfl (w.heap.size + 1) (by kernel_rfl) (kc N) 58 _ (hB.get 1 (x := ⟨w.heap.size + 1, kc N, 58⟩) rfl) Tryd.underlying58 rfl (by rw [Tryd.infoN, kc_size, hN])) ?_
  simp only [nrm]
  refine list_call 46 #[.agg (kc K), .agg (kc N)] (by kernel_rfl) (by kernel_rfl) ((once_ok K N hK hN (unhide hKb) (unhide hNb) _).mono ?_)
  rintro r u1 ⟨rfl, hg⟩
  refine ⟨_, rfl, ?_⟩
  replace hB := hB.more hg
  clear hg
  have hTg : Hid (∀ A C, tagL K N A C = mcL (otk K N) (tin A C)) := fun _ _ => rfl
  have hOl := otk_len K N
  have hOb := hide (otk_isB K N)
  generalize otk K N = O at *
  simp only [nrm]
  refine list_call 45 #[.agg (kc O)] (by kernel_rfl) (by kernel_rfl) ((pnew_ok O hOl (unhide hOb) _).mono ?_)
  rintro r u2 ⟨gc, rfl, hgc, cd, hg⟩
  refine ⟨_, rfl, ?_⟩
  have hgw : w.heap.size ≤ gc := Nat.le_trans hB.gr.size hgc
  replace hB := hB.more hg
  clear hg hgc
  simp only [nrm]
  replace hB := hide hB
  (refine wpList_step fun K hK => ?_; replace hK := hide hK; go_simp; refine unhide hK _ _ ?_; clear hK K)
  replace cd := cd.gr ((Gr.refl u2).alloc (.cells #[.pointer none] 89 (0, 0)))
  replace hB := (unhide hB).new #[.pointer none] 89
  simp only [List.nil_append, List.cons_append] at hB
  generalize World.alloc _ _ = u3 at *
  generalize u2.heap.size = h9 at *
  replace hB : Bl w [⟨w.heap.size, kc K, 34⟩, ⟨w.heap.size + 1, kc N, 58⟩, ⟨w.heap.size + 1 + 1, kc ZT, 72⟩, ⟨h9, #[.pointer none], 89⟩] u3 := hB
  have c4 := cell_of (i := 0) (hB.get 3 (x := ⟨h9, #[.pointer none], 89⟩) rfl) rfl
  have fz := froz_of (i := 0) (hB.get 3 (x := ⟨h9, #[.pointer none], 89⟩) rfl)
  have hne := cd.ne (hB.get 3 (x := ⟨h9, #[.pointer none], 89⟩) rfl) (show (89 : TypeId) ≠ 117 by decide)
  have hB2 := hB.cell 3 (x := ⟨h9, #[.pointer none], 89⟩) rfl 0 (.pointer (some ⟨gc, 0, none⟩))
  have hB3 : Bl w [⟨w.heap.size, kc K, 34⟩, ⟨w.heap.size + 1, kc N, 58⟩, ⟨w.heap.size + 1 + 1, kc ZT, 72⟩, ⟨h9, #[.pointer (some ⟨gc, 0, none⟩)], 89⟩] _ := hB2
  replace cd : Cd O gc [] (World.setCell u3 ⟨h9, 0, none⟩ (.pointer (some ⟨gc, 0, none⟩))) := cd.keep (Below.heap_setCell u3 ⟨h9, 0, none⟩ _ gc hne.symm)
  clear hB hB2
  dsimp only at c4 fz
  replace hB3 := hide hB3
  replace cd := hide cd
  (refine wpList_step fun K hK => ?_; replace hK := hide hK; go_simp; refine unhide hK _ _ ?_; clear hK K)
  clear c4 fz
  generalize World.setCell _ _ _ = u4 at *
  have hB := unhide hB3
  replace cd := unhide cd
  clear hB3
  refine wpList_nil ?_
  replace hB := hide hB
  replace cd := hide cd
  go_upto_region 2 with fail
  replace hB := unhide hB
  replace cd := unhide cd
  refine wp_region_lit ?_
  refine list_val (.func (.func 47) #[] #[.pointer (some ⟨h9, 0, none⟩)]) (by kernel_rfl) (by kernel_rfl) ?_
  simp only [nrm]
  (refine wpList_step fun K hK => ?_; replace hK := hide hK; go_simp; refine unhide hK _ _ ?_; clear hK K)
  refine wpList_nil ?_
  replace hB := hide hB
  replace cd := hide cd
  go_upto_region 3 with fail
  replace hB := unhide hB
  replace cd := unhide cd
  refine wp_region_lit ?_
  refine list_val (.func (.func 47) #[] #[.pointer (some ⟨h9, 0, none⟩)]) (by kernel_rfl) (by kernel_rfl) ?_
  simp only [nrm]
  refine list_val (.slice s n cap) (by kernel_rfl) (by kernel_rfl) ?_
  simp only [nrm]
  refine list_call 47 #[.slice s n cap, .pointer (some ⟨h9, 0, none⟩)] (by kernel_rfl) (by kernel_rfl) ((fill_ok O [] A gc h9 s n cap _ cd (hB.get 3 (x := ⟨h9, #[.pointer (some ⟨gc, 0, none⟩)], 89⟩) rfl) (fun v h => (unhide la).gr (h.gr hB.gr hgw))).mono ?_)
  rintro r u5 ⟨rfl, cd2, hb⟩
  refine ⟨_, rfl, ?_⟩
  replace hB := hB.beside cd hb hgw (nocode (show (34 : TypeId) ≠ 117 by decide) (show (58 : TypeId) ≠ 117 by decide) (show (72 : TypeId) ≠ 117 by decide) (show (89 : TypeId) ≠ 117 by decide))
  clear cd hb
  have cd := cd2
  clear cd2
  simp only [nrm]
  refine wpList_nil ?_
  rw [List.nil_append] at cd
  replace hB := hide hB
  replace cd := hide cd
  go_upto_region 4 with fail
  replace hB := unhide hB
  replace cd := unhide cd
  refine wp_region_lit ?_
  refine list_val (.func (.func 47) #[] #[.pointer (some ⟨h9, 0, none⟩)]) (by kernel_rfl) (by kernel_rfl) ?_
  simp only [nrm]
  refine list_val (.slice s2 n2 cap2) (by kernel_rfl) (by kernel_rfl) ?_
  simp only [nrm]
  refine list_call 47 #[.slice s2 n2 cap2, .pointer (some ⟨h9, 0, none⟩)] (by kernel_rfl) (by kernel_rfl) ((fill_ok O (pd A) C gc h9 s2 n2 cap2 _ cd (hB.get 3 (x := ⟨h9, #[.pointer (some ⟨gc, 0, none⟩)], 89⟩) rfl) (fun v h => (unhide lc).gr (h.gr hB.gr hgw))).mono ?_)
  rintro r u6 ⟨rfl, cd2, hb⟩
  refine ⟨_, rfl, ?_⟩
  replace hB := hB.beside cd hb hgw (nocode (show (34 : TypeId) ≠ 117 by decide) (show (58 : TypeId) ≠ 117 by decide) (show (72 : TypeId) ≠ 117 by decide) (show (89 : TypeId) ≠ 117 by decide))
  clear cd hb
  have cd := cd2
  clear cd2
  simp only [nrm]
  refine wpList_nil ?_
  replace hB := hide hB
  replace cd := hide cd
  go_upto_region 5 with fail
  replace hB := unhide hB
  replace cd := unhide cd
  refine any_start (S := fun v => Bl w [⟨w.heap.size, kc K, 34⟩, ⟨w.heap.size + 1, kc N, 58⟩, ⟨w.heap.size + 1 + 1, kc ZT, 72⟩, ⟨h9, #[.pointer (some ⟨gc, 0, none⟩)], 89⟩] v) (by kernel_rfl) ?_
  replace hB := hB.drew
  replace cd := cd.gr (Gr.refl _).drew
  generalize World.drew _ = x0 at *
  simp only [List.size_toArray, List.length_cons, List.length_nil, Array.replicate, List.replicate]
  refine any_take (i := 0) (v := (.pointer (some ⟨gc, 0, none⟩))) #[false, false, false, false, false, false, false, false, false, false] rfl (by kernel_rfl) (by kernel_rfl) (by kernel_rfl) (by kernel_rfl) (fun _ _ _ h => h) (.inl ⟨by kernel_rfl, fun x_ hu => exec_ptr _ (.tmp 9) rfl h9 0 (by kernel_rfl) (some ⟨gc, 0, none⟩) (cell_of (hu.get 3 (x := ⟨h9, #[.pointer (some ⟨gc, 0, none⟩)], 89⟩) rfl) rfl)⟩) hB ?_
  simp only [nrm]
  refine any_take (i := 1) (v := (.slice s n cap)) #[true, false, false, false, false, false, false, false, false, false] rfl (by kernel_rfl) (by kernel_rfl) (by kernel_rfl) (by kernel_rfl) (fun _ _ _ h => h) (.inl ⟨by kernel_rfl, fun x_ hu => by kernel_rfl⟩) hB ?_
  simp only [nrm]
  refine any_take (i := 2) (v := (.int .i64 n)) #[true, true, false, false, false, false, false, false, false, false] rfl (by kernel_rfl) (by kernel_rfl) (by kernel_rfl) (by kernel_rfl) (fun _ _ _ h => h) (.inl ⟨by kernel_rfl, fun x_ hu => by kernel_rfl⟩) hB ?_
  simp only [nrm]
  refine any_take (i := 3) (v := (.int .u64 n)) #[true, true, true, false, false, false, false, false, false, false] rfl (by kernel_rfl) (by kernel_rfl) (by kernel_rfl) (by kernel_rfl) (fun _ _ _ h => h) (.inl ⟨by kernel_rfl, fun x_ hu => by go_simp⟩) hB ?_
  simp only [nrm]
  refine any_take (i := 5) (v := (.slice s2 n2 cap2)) #[true, true, true, true, false, false, false, false, false, false] rfl (by kernel_rfl) (by kernel_rfl) (by kernel_rfl) (by kernel_rfl) (fun _ _ _ h => h) (.inl ⟨by kernel_rfl, fun x_ hu => by kernel_rfl⟩) hB ?_
  simp only [nrm]
  refine any_take (i := 6) (v := (.int .i64 n2)) #[true, true, true, true, false, true, false, false, false, false] rfl (by kernel_rfl) (by kernel_rfl) (by kernel_rfl) (by kernel_rfl) (fun _ _ _ h => h) (.inl ⟨by kernel_rfl, fun x_ hu => by kernel_rfl⟩) hB ?_
  simp only [nrm]
  refine any_take (i := 7) (v := (.int .u64 n2)) #[true, true, true, true, false, true, true, false, false, false] rfl (by kernel_rfl) (by kernel_rfl) (by kernel_rfl) (by kernel_rfl) (fun _ _ _ h => h) (.inl ⟨by kernel_rfl, fun x_ hu => by go_simp⟩) hB ?_
  simp only [nrm]
  refine any_one (i := 4) (by kernel_rfl) rfl (fun K_ hQ => ?_)
  refine step_callw (by kernel_rfl) 35 #[.slice none 0 0, .int .u64 n] (by kernel_rfl) ((put64_ok [] none 0 0 n (by omega) (by omega) _ (Lb.nil0 _)).mono ?_)
  rintro r v1 ⟨ga, rfl, hga, ha, hg⟩
  refine ⟨_, rfl, ?_⟩
  replace hB := hB.more hg
  replace cd := cd.gr hg
  rw [List.nil_append] at ha
  have l1 : Lb v1 (some ⟨ga, 0, none⟩) 8 8 (lowL (n : Int) 8) := kc_lb ha (lowL_len _ _) (lowL_isB _ _) (by omega)
  clear hg ha hga
  rw [List.nil_append, lowL_len]
  refine hQ.out _ _ hB (fun _ => ?_)
  clear hQ K_
  simp only [nrm]
  refine any_one (i := 8) (by kernel_rfl) rfl (fun K_ hQ => ?_)
  refine step_callw (by kernel_rfl) 35 #[.slice (some ⟨ga, 0, none⟩) 8 8, .int .u64 n2] (by kernel_rfl) ((put64_ok (lowL (n : Int) 8) _ 8 8 n2 (by omega) (by omega) _ l1).mono ?_)
  rintro r v2 ⟨gb, rfl, hgb, hb, hg⟩
  refine ⟨_, rfl, ?_⟩
  replace hB := hB.more hg
  replace cd := cd.gr hg
  have l2 : Lb v2 (some ⟨gb, 0, none⟩) 16 16 (lowL (n : Int) 8 ++ lowL (n2 : Int) 8) := kc_lb hb (by rw [List.length_append, lowL_len, lowL_len]) ((lowL_isB _ _).append (lowL_isB _ _)) (by omega)
  have hnb := cd.ne hb (by decide)
  clear hg l1 hgb
  rw [List.length_append, lowL_len, lowL_len]
  refine hQ.out _ _ hB (fun _ => ?_)
  clear hQ K_
  simp only [nrm]
  refine any_one (i := 9) (by kernel_rfl) rfl (fun K_ hQ => ?_)
  refine step_callw (by kernel_rfl) 48 #[.pointer (some ⟨gc, 0, none⟩), .slice (some ⟨gb, 0, none⟩) 16 16] (by kernel_rfl) ((pwrite_ok O (pd A ++ pd C) (lowL (n : Int) 8 ++ lowL (n2 : Int) 8) gc _ 16 16 _ cd (fun v h => kc_lb (h.blk hb hnb) (by rw [List.length_append, lowL_len, lowL_len]) ((lowL_isB _ _).append (lowL_isB _ _)) (by omega))).mono ?_)
  rintro r v3 ⟨rfl, cd2, hbt⟩
  refine ⟨_, rfl, ?_⟩
  replace hB := hB.beside cd hbt hgw (nocode (show (34 : TypeId) ≠ 117 by decide) (show (58 : TypeId) ≠ 117 by decide) (show (72 : TypeId) ≠ 117 by decide) (show (89 : TypeId) ≠ 117 by decide))
  clear hbt cd l2 hb hnb
  refine hQ.out _ _ hB (fun _ => ?_)
  clear hQ K_
  simp only [nrm]
  refine any_done (by kernel_rfl) ?_
  have hXt := unhide hTg A C
  unfold tin at hXt
  rw [unhide hAl, unhide hCl] at hXt
  replace hXt := hide hXt
  replace hB := hide hB
  replace cd2 := hide cd2
  go_upto_region 6 with fail
  replace hB := unhide hB
  replace cd2 := unhide cd2
  refine wp_region_lit ?_
  refine list_val (.pointer (some ⟨gc, 0, none⟩)) (by kernel_rfl) (exec_ptr _ (.tmp 9) rfl h9 0 (by kernel_rfl) (some ⟨gc, 0, none⟩) (cell_of (hB.get 3 (x := ⟨h9, #[.pointer (some ⟨gc, 0, none⟩)], 89⟩) rfl) rfl)) ?_
  simp only [nrm]
  refine list_call 49 #[.pointer (some ⟨gc, 0, none⟩)] (by kernel_rfl) (by kernel_rfl) ((ctag_ok O _ gc _ cd2).mono ?_)
  rintro r v4 ⟨rfl, hg⟩
  refine ⟨_, rfl, ?_⟩
  replace hB := hB.more hg
  clear hg cd2
  rw [← unhide hXt]
  have hXl := tagL_len K N A C
  clear hXt
  generalize tagL K N A C = X at *
  simp only [nrm]
  refine list_store 72 (.tmp 8) (.tmp 33) (w.heap.size + 1 + 1) (kc X) 72 (kc ZT) (by kernel_rfl) rfl (by kernel_rfl) (by kernel_rfl) (hB.get 2 (x := ⟨w.heap.size + 1 + 1, kc ZT, 72⟩) rfl) (by rw [Tryd.infoT, kc_size, hXl]) ((show (kc ZT).size = 16 from rfl).trans ((kc_size _).trans hXl).symm) (kc_one _) ?_
  replace hB := hB.set 2 (x := ⟨w.heap.size + 1 + 1, kc ZT, 72⟩) rfl (kc X)
  simp only [List.set_cons_zero, List.set_cons_succ] at hB
  generalize World.setRow _ _ _ = v5 at *
  simp only [nrm]
  refine wpList_nil ?_
  replace hB := hide hB
  go_wp2_with fail
  replace hB := unhide hB
  rw [unhide hT]
  exact bodyPost_ret (v := .agg (kc X)) (results_cell_row Tryd.results32 _ _ (w.heap.size + 1 + 1) 72 (kc X) (0, 0) _ rfl (hB.get 2 (x := ⟨w.heap.size + 1 + 1, kc X, 72⟩) rfl) Tryd.underlying72 rfl (by rw [Tryd.infoT, kc_size, hXl])) rfl (⟨rfl, hB.gr⟩)
def Obd (L : List Int) (w : World) (r : Ending) (w' : World) : Prop := ∃ v, r = .returned v ∧ Ob w.heap.size w' v L ∧ Gr w w'
theorem lay_cnt (n : Int) : lay ZN 4 (lowL n 8) = cntL n := by
  unfold lay cntL ZN
  rw [lowL_len, List.drop_of_length_le (by simp), List.append_nil]
  rfl
set_option maxHeartbeats 4000000 in
theorem seal_ok (K N : List Int) (hK : K.length = 32) (hN : N.length = 12) (hKb : IsB K) (hNb : IsB N) (A P : List Int) (s s2 : Option Addr) (n n2 cap cap2 : Nat) (hbig : n2 ≤ 20000) (w : World) (la : Lb w s n cap A) (lp : Lb w s2 n2 cap2 P) : Calls Tryd.prog 25 #[.agg (kc K), .agg (kc N), .slice s n cap, .slice s2 n2 cap2] w (Obd (sealL K N A P) w) := by
  obtain ⟨T, hT⟩ : ∃ T, T = Obd (sealL K N A P) w := ⟨_, rfl⟩
  rw [← hT]
  replace hT := hide hT
  obtain ⟨SK, hSK⟩ : ∃ S, S = kc K := ⟨_, rfl⟩
  obtain ⟨SN, hSN⟩ : ∃ S, S = kc N := ⟨_, rfl⟩
  rw [← hSK, ← hSN]
  replace hSK := hide hSK
  replace hSN := hide hSN
  have hPl := hide lp.len
  replace hKb := hide hKb
  replace hNb := hide hNb
  replace la := hide la
  replace lp := hide lp
  go_enter Tryd.func25, Tryd.ntmps25
  go_upto_region 1 with fail
  have hB := (((Bl.nil w).new SK 34).new SN 58)
  simp only [size_alloc, List.nil_append, List.cons_append] at hB
  generalize World.alloc _ _ = u at *
  rw [unhide hSK, unhide hSN] at hB
  replace hB : Bl w [⟨w.heap.size, kc K, 34⟩, ⟨w.heap.size + 1, kc N, 58⟩] u := hB
  refine wp_region_lit ?_
  refine list_val (.agg (kc K)) (by kernel_rfl) (exec_arr _ 34 (.tmp 4) rfl (w.heap.size) (by kernel_rfl) (kc K) 34 _ (hB.get 0 (x := ⟨w.heap.size, kc K, 34⟩) rfl) Tryd.underlying34 rfl (by rw [Tryd.infoKey, kc_size, hK])) ?_
  simp only [nrm]
  refine list_val (.agg (kc N)) (by kernel_rfl) (exec_arr _ 58 (.tmp 5) rfl (w.heap.size + 1) (by kernel_rfl) (kc N) 58 _ (hB.get 1 (x := ⟨w.heap.size + 1, kc N, 58⟩) rfl) Tryd.underlying58 rfl (by rw [Tryd.infoN, kc_size, hN])) ?_
  simp only [nrm]
  refine list_val (.slice s2 n2 cap2) (by kernel_rfl) (by kernel_rfl) ?_
  simp only [nrm]
  have hgw := hB.gr.size
  refine list_call 33 #[.agg (kc K), .int .u32 1, .agg (kc N), .slice s2 n2 cap2] (by kernel_rfl) (by kernel_rfl) ((xor_ok K N hK hN (unhide hKb) (unhide hNb) 1 ⟨by decide, by decide⟩ P _ n2 cap2 (by omega) _ ((unhide lp).gr hB.gr)).mono ?_)
  rintro r u1 ⟨gx, rfl, hgx, hx, hg⟩
  refine ⟨_, rfl, ?_⟩
  replace hB := hB.more hg
  have hXl : Hid ((xl K N 1 P).length = n2) := by rw [xl_len]; exact unhide hPl
  have hXb := hide (xl_isB K N 1 P)
  have hSe : Hid (sealL K N A P = xl K N 1 P ++ tagL K N A (xl K N 1 P)) := rfl
  generalize xl K N 1 P = X at *
  have ob : Ob w.heap.size u1 (.slice (some ⟨gx, 0, none⟩) n2 n2) X := ob_of hx (unhide hXl) (Nat.le_trans hgw hgx) (by omega)
  rw [unhide hPl]
  have lx : Lb u1 (some ⟨gx, 0, none⟩) n2 n2 X := kc_lb hx (unhide hXl) (unhide hXb) (by omega)
  clear hg hx hgx hgw
  simp only [nrm]
  (refine wpList_step fun K hK => ?_; replace hK := hide hK; go_simp; refine unhide hK _ _ ?_; clear hK K)
  refine wpList_nil ?_
  replace hB := hide hB
  replace ob := hide ob
  replace lx := hide lx
  go_upto_region 2 with fail
  replace hB := unhide hB
  replace ob := unhide ob
  replace lx := unhide lx
  refine wp_region_lit ?_
  refine list_val (.agg (kc K)) (by kernel_rfl) (exec_arr _ 34 (.tmp 4) rfl (w.heap.size) (by kernel_rfl) (kc K) 34 _ (hB.get 0 (x := ⟨w.heap.size, kc K, 34⟩) rfl) Tryd.underlying34 rfl (by rw [Tryd.infoKey, kc_size, hK])) ?_
  simp only [nrm]
  refine list_val (.agg (kc N)) (by kernel_rfl) (exec_arr _ 58 (.tmp 5) rfl (w.heap.size + 1) (by kernel_rfl) (kc N) 58 _ (hB.get 1 (x := ⟨w.heap.size + 1, kc N, 58⟩) rfl) Tryd.underlying58 rfl (by rw [Tryd.infoN, kc_size, hN])) ?_
  simp only [nrm]
  refine list_val (.slice s n cap) (by kernel_rfl) (by kernel_rfl) ?_
  simp only [nrm]
  refine list_val (.slice (some ⟨gx, 0, none⟩) n2 n2) (by kernel_rfl) (by kernel_rfl) ?_
  simp only [nrm]
  refine list_call 32 #[.agg (kc K), .agg (kc N), .slice s n cap, .slice (some ⟨gx, 0, none⟩) n2 n2] (by kernel_rfl) (by kernel_rfl) ((atag_ok K N hK hN (unhide hKb) (unhide hNb) A X s (some ⟨gx, 0, none⟩) n n2 cap n2 _ ((unhide la).gr hB.gr) lx).mono ?_)
  rintro r u2 ⟨rfl, hg⟩
  refine ⟨_, rfl, ?_⟩
  replace hB := hB.more hg
  replace ob := ob.gr hg
  clear hg lx
  have hYl := tagL_len K N A X
  generalize tagL K N A X = Y at *
  simp only [nrm]
  replace hB := hide hB
  (refine wpList_step fun K hK => ?_; replace hK := hide hK; go_simp; refine unhide hK _ _ ?_; clear hK K)
  replace ob := ob.gr ((Gr.refl u2).alloc (.cells #[.int .u8 0, .int .u8 0, .int .u8 0, .int .u8 0, .int .u8 0, .int .u8 0, .int .u8 0, .int .u8 0, .int .u8 0, .int .u8 0, .int .u8 0, .int .u8 0, .int .u8 0, .int .u8 0, .int .u8 0, .int .u8 0] 72 (0, 0)))
  replace hB := (unhide hB).new #[.int .u8 0, .int .u8 0, .int .u8 0, .int .u8 0, .int .u8 0, .int .u8 0, .int .u8 0, .int .u8 0, .int .u8 0, .int .u8 0, .int .u8 0, .int .u8 0, .int .u8 0, .int .u8 0, .int .u8 0, .int .u8 0] 72
  simp only [List.nil_append, List.cons_append] at hB
  generalize World.alloc _ _ = u3 at *
  generalize u2.heap.size = h10 at *
  replace hB : Bl w [⟨w.heap.size, kc K, 34⟩, ⟨w.heap.size + 1, kc N, 58⟩, ⟨h10, kc ZT, 72⟩] u3 := hB
  have ob2 := ob.other (hB.get 2 (x := ⟨h10, kc ZT, 72⟩) rfl) (show (72 : TypeId) ≠ 5 by decide) (kc Y)
  clear ob
  refine list_store 72 (.tmp 10) (.tmp 19) (h10) (kc Y) 72 (kc ZT) (by kernel_rfl) rfl (by kernel_rfl) (by kernel_rfl) (hB.get 2 (x := ⟨h10, kc ZT, 72⟩) rfl) (by rw [Tryd.infoT, kc_size, hYl]) ((show (kc ZT).size = 16 from rfl).trans ((kc_size _).trans hYl).symm) (kc_one _) ?_
  replace hB := hB.set 2 (x := ⟨h10, kc ZT, 72⟩) rfl (kc Y)
  simp only [List.set_cons_zero, List.set_cons_succ] at hB
  generalize World.setRow _ _ _ = u4 at *
  simp only [nrm]
  refine wpList_nil ?_
  replace hB := hide hB
  replace ob2 := hide ob2
  go_upto_region 3 with fail
  replace hB := unhide hB
  replace ob2 := unhide ob2
  refine wp_region_lit ?_
  refine list_val (.slice (some ⟨gx, 0, none⟩) n2 n2) (by kernel_rfl) (by kernel_rfl) ?_
  simp only [nrm]
  refine list_val (.slice (some ⟨h10, 0, none⟩) 16 16) (by kernel_rfl) (by kernel_rfl) ?_
  simp only [nrm]
  refine app_bs (by kernel_rfl) (.tmp 20) (.tmp 21) rfl w.heap.size _ X rfl ob2 (some ⟨h10, 0, none⟩) 16 16 Y rfl hYl (.inr ⟨h10, 0, rfl, kc_at (hB.get 2 (x := ⟨h10, kc Y, 72⟩) rfl)⟩) (by rw [unhide hXl]; omega) hB.gr.size ?_
  intro v2 u5 ob5 hgr
  simp only [nrm]
  have hG := Ob.grown ob2 (Nat.le_refl _) hB.gr hgr
  rw [← unhide hSe] at ob5
  clear hgr ob2 hB
  (refine wpList_step fun K hK => ?_; replace hK := hide hK; go_simp; refine unhide hK _ _ ?_; clear hK K)
  refine wpList_nil ?_
  have hP : Hid (Obd (sealL K N A P) w (.returned v2) u5) := ⟨v2, rfl, ob5, hG⟩
  clear ob5 hG
  go_wp2_with fail
  rw [unhide hT]
  exact unhide hP
set_option maxHeartbeats 4000000 in
theorem count_ok (n : Int) (hn : 0 ≤ n) (w : World) : Calls Tryd.prog 24 #[.int .u64 n] w (Tg (cntL n) w) := by
  obtain ⟨T, hT⟩ : ∃ T, T = Tg (cntL n) w := ⟨_, rfl⟩
  rw [← hT]
  replace hT := hide hT
  go_enter Tryd.func24, Tryd.ntmps24
  go_upto_region 2 with fail
  have hB := (((Bl.nil w).new #[.int .u8 0, .int .u8 0, .int .u8 0, .int .u8 0, .int .u8 0, .int .u8 0, .int .u8 0, .int .u8 0, .int .u8 0, .int .u8 0, .int .u8 0, .int .u8 0] 58).new #[.int .u8 0, .int .u8 0, .int .u8 0, .int .u8 0, .int .u8 0, .int .u8 0, .int .u8 0, .int .u8 0, .int .u8 0, .int .u8 0, .int .u8 0, .int .u8 0] 58)
  simp only [size_alloc, List.nil_append, List.cons_append] at hB
  generalize World.alloc _ _ = u at *
  replace hB : Bl w [⟨w.heap.size, kc ZN, 58⟩, ⟨w.heap.size + 1, kc ZN, 58⟩] u := hB
  refine any_start (S := fun _ => True) (by kernel_rfl) ?_
  replace hB := hB.drew
  generalize World.drew _ = x0 at *
  simp only [List.size_toArray, List.length_cons, List.length_nil, Array.replicate, List.replicate]
  refine any_take (i := 0) (v := (.slice (some ⟨w.heap.size + 1, 4, none⟩) 8 8)) #[false, false, false, false] rfl (by kernel_rfl) (by kernel_rfl) (by kernel_rfl) (by kernel_rfl) (fun _ _ _ h => h) (.inl ⟨by kernel_rfl, fun x_ hu => by kernel_rfl⟩) trivial ?_
  simp only [nrm]
  refine any_take (i := 1) (v := (.int .u64 n)) #[true, false, false, false] rfl (by kernel_rfl) (by kernel_rfl) (by kernel_rfl) (by kernel_rfl) (fun _ _ _ h => h) (.inl ⟨by kernel_rfl, fun x_ hu => by kernel_rfl⟩) trivial ?_
  simp only [nrm]
  refine any_one (i := 2) (by kernel_rfl) rfl (fun K hK => ?_)
  refine step_callw (by kernel_rfl) 35 #[.slice none 0 0, .int .u64 n] (by kernel_rfl) ((put64_ok [] none 0 0 n hn (by omega) _ (Lb.nil0 _)).mono ?_)
  rintro r x1 ⟨gp, rfl, hgp, hp, hg⟩
  refine ⟨_, rfl, ?_⟩
  replace hB := hB.more hg
  rw [List.nil_append] at hp
  rw [List.nil_append, lowL_len]
  clear hg hgp
  refine hK.out _ _ trivial (fun _ => ?_)
  clear hK K
  simp only [nrm]
  refine any_one (i := 3) (by kernel_rfl) rfl (fun K hK => ?_)
  rw [if_pos (by kernel_rfl)]
  refine copy_wp (.tmp 4) (.tmp 6) rfl (w.heap.size + 1) 4 8 8 (some ⟨gp, 0, none⟩) 8 8 (by kernel_rfl) (by kernel_rfl) (ZN.map (Value.int .u8)) 58 (hB.get 1 (x := ⟨w.heap.size + 1, kc ZN, 58⟩) rfl) (lowL n 8) (by rw [lowL_len]; rfl) (.inr ⟨gp, 0, rfl, kc_at hp⟩) (by rw [lowL_len]; exact Nat.le_refl _) ?_
  have hcell := laid (S := lowL n 8) (o := 4) (hB.get 1 (x := ⟨w.heap.size + 1, kc ZN, 58⟩) rfl) (by rw [lowL_len]; exact Nat.le_refl _)
  rw [lay_cnt n] at hcell
  have hB2 := hB.but (setCells_bt ((lowL n 8).map (Value.int .u8)) x1 (w.heap.size + 1) 4) 1 (x := ⟨w.heap.size + 1, kc ZN, 58⟩) rfl rfl hcell
  simp only [List.set_cons_zero, List.set_cons_succ] at hB2
  clear hcell hB
  generalize World.setCells _ _ _ _ = x2 at *
  refine hK.out _ _ trivial (fun _ => ?_)
  clear hK K
  simp only [nrm]
  refine any_done (by kernel_rfl) ?_
  rw [lowL_len]
  replace hB2 := hide hB2
  go_upto_region 3 with fail
  have hB := unhide hB2
  clear hB2
  have hXl := cntL_len n
  generalize cntL n = X at *
  refine wp_region_lit ?_
  refine list_val (.agg (kc X)) (by kernel_rfl) (exec_arr _ 58 (.tmp 3) rfl (w.heap.size + 1) (by kernel_rfl) (kc X) 58 _ (hB.get 1 (x := ⟨w.heap.size + 1, kc X, 58⟩) rfl) Tryd.underlying58 rfl (by rw [Tryd.infoN, kc_size, hXl])) ?_
  simp only [nrm]
  refine list_store 58 (.tmp 2) (.tmp 8) (w.heap.size) (kc X) 58 (kc ZN) (by kernel_rfl) rfl (by kernel_rfl) (by kernel_rfl) (hB.get 0 (x := ⟨w.heap.size, kc ZN, 58⟩) rfl) (by rw [Tryd.infoN, kc_size, hXl]) ((show (kc ZN).size = 12 from rfl).trans ((kc_size _).trans hXl).symm) (kc_one _) ?_
  replace hB := hB.set 0 (x := ⟨w.heap.size, kc ZN, 58⟩) rfl (kc X)
  simp only [List.set_cons_zero, List.set_cons_succ] at hB
  generalize World.setRow _ _ _ = x3 at *
  simp only [nrm]
  refine wpList_nil ?_
  replace hB := hide hB
  go_wp2_with fail
  replace hB := unhide hB
  rw [unhide hT]
  exact bodyPost_ret (v := .agg (kc X)) (results_cell_row Tryd.results24 _ _ (w.heap.size) 58 (kc X) (0, 0) _ rfl (hB.get 0 (x := ⟨w.heap.size, kc X, 58⟩) rfl) Tryd.underlying58 rfl (by rw [Tryd.infoN, kc_size, hXl])) rfl (⟨rfl, hB.gr⟩)
def Opd (P : List Int) (w : World) (r : Ending) (w' : World) : Prop := ∃ g, r = .returned (.tuple #[.slice (some ⟨g, 0, none⟩) P.length P.length, .int .i64 0]) ∧ w.heap.size ≤ g ∧ w'.heap[g]? = some (.cells (kc P) 5 (0, 0)) ∧ Gr w w'
def Shut8 (w : World) (r : Ending) (w' : World) : Prop := r = .returned (.tuple #[.slice none 0 0, .int .i64 180]) ∧ Gr w w'
theorem seal_take (K N A P : List Int) : (sealL K N A P).take P.length = xl K N 1 P := by
  unfold sealL
  rw [List.take_append_of_le_length (by rw [xl_len]; exact Nat.le_refl _), List.take_of_length_le (by rw [xl_len]; exact Nat.le_refl _)]
theorem seal_drop (K N A P : List Int) : (sealL K N A P).drop P.length = tagL K N A (xl K N 1 P) := by
  unfold sealL
  rw [List.drop_append_of_le_length (by rw [xl_len]; exact Nat.le_refl _), List.drop_of_length_le (by rw [xl_len]; exact Nat.le_refl _), List.nil_append]
theorem not_sealed (K N A S : List Int) (m : Nat) (hm : S.length = m + 16) (hb : IsB S) (h : ∀ P, IsB P → S ≠ sealL K N A P) : tagL K N A (S.take m) ≠ S.drop m := by
  intro e
  refine h (xl K N 1 (S.take m)) (xl_isB _ _ _ _) ?_
  unfold sealL
  rw [xl_twice K N 1 (S.take m) (hb.take m), e, List.take_append_drop]
set_option maxHeartbeats 4000000 in
theorem open_short (K N : List Int) (hK : K.length = 32) (hN : N.length = 12) (hKb : IsB K) (hNb : IsB N) (A S : List Int) (s s2 : Option Addr) (n n2 cap cap2 : Nat) (hsh : n2 < 16) (w : World) : Calls Tryd.prog 22 #[.agg (kc K), .agg (kc N), .slice s n cap, .slice s2 n2 cap2] w (Shut8 w) := by
  obtain ⟨T, hT⟩ : ∃ T, T = Shut8 w := ⟨_, rfl⟩
  rw [← hT]
  replace hT := hide hT
  obtain ⟨SK, hSK⟩ : ∃ S, S = kc K := ⟨_, rfl⟩
  obtain ⟨SN, hSN⟩ : ∃ S, S = kc N := ⟨_, rfl⟩
  rw [← hSK, ← hSN]
  replace hSK := hide hSK
  replace hSN := hide hSN
  have hI : (n2 : Int) < 16 := by omega
  have hB := (((Bl.nil w).new SK 34).new SN 58)
  replace hB := hide hB
  go_enter Tryd.func22, Tryd.ntmps22
  go_wp2_with fail
  rw [unhide hT]
  exact ⟨rfl, (unhide hB).gr⟩
set_option maxHeartbeats 4000000 in
theorem open_yes (K N : List Int) (hK : K.length = 32) (hN : N.length = 12) (hKb : IsB K) (hNb : IsB N) (A P : List Int) (hPb : IsB P) (s s2 : Option Addr) (n n2 cap cap2 : Nat) (hbig : n2 ≤ 20000) (w : World) (la : Lb w s n cap A) (ls : Lb w s2 n2 cap2 (sealL K N A P)) : Calls Tryd.prog 22 #[.agg (kc K), .agg (kc N), .slice s n cap, .slice s2 n2 cap2] w (Opd P w) := by
  obtain ⟨T, hT⟩ : ∃ T, T = Opd P w := ⟨_, rfl⟩
  rw [← hT]
  replace hT := hide hT
  have hl := ls.len
  rw [sealL_len] at hl
  obtain ⟨m, hm⟩ : ∃ m, m = P.length := ⟨_, rfl⟩
  have hm16 : n2 = m + 16 := by omega
  have hSt := seal_take K N A P
  have hSd := seal_drop K N A P
  have hxx := xl_twice K N 1 P hPb
  rw [← hm] at hSt hSd
  generalize sealL K N A P = S at *
  obtain ⟨C, hC⟩ : ∃ C, C = xl K N 1 P := ⟨_, rfl⟩
  rw [← hC] at hSt hSd hxx
  have hCl : C.length = m := by rw [hC, xl_len, hm]
  obtain ⟨Y, hY⟩ : ∃ Y, Y = tagL K N A C := ⟨_, rfl⟩
  have hYl : Y.length = 16 := by rw [hY, tagL_len]
  rw [← hY] at hSd
  clear hC
  replace hPb := hide hPb; replace hm := hide hm; replace hxx := hide hxx; replace hY := hide hY
  have hcap := ls.cap
  obtain ⟨c4, hc4⟩ : ∃ c, c = cap2 - m := ⟨_, rfl⟩
  obtain ⟨s3, hs3⟩ : ∃ x, x = if cap2 = 0 then s2 else s2.map (·.add 0) := ⟨_, rfl⟩
  obtain ⟨s4, hs4⟩ : ∃ x, x = if cap2 = m then s2 else s2.map (·.add m) := ⟨_, rfl⟩
  have e16 : n2 - m = 16 := by omega
  have l3 : Lb w s3 m cap2 C := by
    have h := ls.upto m (by omega)
    rw [hSt, ← hs3] at h
    exact h
  have l4 : Lb w s4 16 c4 Y := by
    have h := ls.rest m (by omega)
    rw [hSd, ← hs4, ← hc4, e16] at h
    exact h
  have hle : m ≤ n2 := by omega
  have i1 : ¬ (n2 : Int) < 16 := by omega
  have i2 : (n2 : Int) - 16 = (m : Int) := by omega
  have i3 : IntKind.i64.wrap (m : Int) = (m : Int) := by rw [IntKind.wrap_i64]; omega
  have i4 : ¬ n2 < 16 := by omega
  replace hc4 := hide hc4; replace hs3 := hide hs3; replace hs4 := hide hs4; replace e16 := hide e16; replace l3 := hide l3; replace l4 := hide l4; replace hm16 := hide hm16; replace hCl := hide hCl
  clear ls hSt hSd
  obtain ⟨SK, hSK⟩ : ∃ S, S = kc K := ⟨_, rfl⟩
  obtain ⟨SN, hSN⟩ : ∃ S, S = kc N := ⟨_, rfl⟩
  rw [← hSK, ← hSN]
  replace hSK := hide hSK
  replace hSN := hide hSN
  replace hKb := hide hKb
  replace hNb := hide hNb
  replace la := hide la
  go_enter Tryd.func22, Tryd.ntmps22
  go_upto_region 3 with fail
  have hB := (((Bl.nil w).new SK 34).new SN 58)
  simp only [size_alloc, List.nil_append, List.cons_append] at hB
  generalize World.alloc _ _ = u at *
  rw [unhide hSK, unhide hSN] at hB
  replace hB : Bl w [⟨w.heap.size, kc K, 34⟩, ⟨w.heap.size + 1, kc N, 58⟩] u := hB
  refine wp_region_lit ?_
  refine list_val (.slice s2 n2 cap2) (by kernel_rfl) (by kernel_rfl) ?_
  simp only [nrm]
  refine list_val (.int .i64 n2) (by kernel_rfl) (by kernel_rfl) ?_
  simp only [nrm]
  refine list_val (.int .i64 m) (by kernel_rfl) (by go_simp) ?_
  simp only [nrm]
  (refine wpList_step fun K hK => ?_; replace hK := hide hK; go_simp; refine unhide hK _ _ ?_; clear hK K)
  refine wpList_nil ?_
  replace hB := hide hB
  go_upto_region 4 with fail
  replace hB := unhide hB
  refine any_start (S := fun _ => True) (by kernel_rfl) ?_
  replace hB := hB.drew
  generalize World.drew _ = x0 at *
  simp only [List.size_toArray, List.length_cons, List.length_nil, Array.replicate, List.replicate]
  refine any_take (i := 0) (v := (.slice s2 n2 cap2)) #[false, false, false, false, false, false, false, false] rfl (by kernel_rfl) (by kernel_rfl) (by kernel_rfl) (by kernel_rfl) (fun _ _ _ h => h) (.inl ⟨by kernel_rfl, fun x_ hu => by kernel_rfl⟩) trivial ?_
  simp only [nrm]
  refine any_take (i := 1) (v := (.int .i64 m)) #[true, false, false, false, false, false, false, false] rfl (by kernel_rfl) (by kernel_rfl) (by kernel_rfl) (by kernel_rfl) (fun _ _ _ h => h) (.inl ⟨by kernel_rfl, fun x_ hu => by kernel_rfl⟩) trivial ?_
  simp only [nrm]
  refine any_take (i := 2) (v := (.slice s3 m cap2)) #[true, true, false, false, false, false, false, false] rfl (by kernel_rfl) (by kernel_rfl) (by kernel_rfl) (by kernel_rfl) (fun _ _ _ h => h) (.inl ⟨by kernel_rfl, fun x_ hu => by rw [unhide hs3]; exact exec_upto _ (.tmp 20) (.tmp 21) rfl s2 n2 cap2 m rfl rfl hcap hle⟩) trivial ?_
  simp only [nrm]
  refine any_take (i := 3) (v := (.slice s2 n2 cap2)) #[true, true, true, false, false, false, false, false] rfl (by kernel_rfl) (by kernel_rfl) (by kernel_rfl) (by kernel_rfl) (fun _ _ _ h => h) (.inl ⟨by kernel_rfl, fun x_ hu => by kernel_rfl⟩) trivial ?_
  simp only [nrm]
  refine any_take (i := 4) (v := (.int .i64 m)) #[true, true, true, true, false, false, false, false] rfl (by kernel_rfl) (by kernel_rfl) (by kernel_rfl) (by kernel_rfl) (fun _ _ _ h => h) (.inl ⟨by kernel_rfl, fun x_ hu => by kernel_rfl⟩) trivial ?_
  simp only [nrm]
  refine any_take (i := 5) (v := (.slice s4 16 c4)) #[true, true, true, true, true, false, false, false] rfl (by kernel_rfl) (by kernel_rfl) (by kernel_rfl) (by kernel_rfl) (fun _ _ _ h => h) (.inl ⟨by kernel_rfl, fun x_ hu => by rw [unhide hs4, unhide hc4, ← unhide e16]; exact exec_from _ (.tmp 23) (.tmp 24) rfl s2 n2 cap2 m rfl rfl hcap hle⟩) trivial ?_
  simp only [nrm]
  refine any_one (i := 6) (by kernel_rfl) rfl (fun K_ hQ => ?_)
  replace hQ := hide hQ
  go_simp
  refine (unhide hQ).out _ _ trivial (fun _ => ?_)
  clear hQ K_
  refine any_one (i := 7) (by kernel_rfl) rfl (fun K_ hQ => ?_)
  replace hQ := hide hQ
  go_simp
  refine (unhide hQ).out _ _ trivial (fun _ => ?_)
  clear hQ K_
  refine any_done (by kernel_rfl) ?_
  replace hB := hide hB
  go_upto_region 5 with fail
  replace hB := unhide hB
  refine wp_region_lit ?_
  refine list_val (.agg (kc K)) (by kernel_rfl) (exec_arr _ 34 (.tmp 4) rfl (w.heap.size) (by kernel_rfl) (kc K) 34 _ (hB.get 0 (x := ⟨w.heap.size, kc K, 34⟩) rfl) Tryd.underlying34 rfl (by rw [Tryd.infoKey, kc_size, hK])) ?_
  simp only [nrm]
  refine list_val (.agg (kc N)) (by kernel_rfl) (exec_arr _ 58 (.tmp 5) rfl (w.heap.size + 1) (by kernel_rfl) (kc N) 58 _ (hB.get 1 (x := ⟨w.heap.size + 1, kc N, 58⟩) rfl) Tryd.underlying58 rfl (by rw [Tryd.infoN, kc_size, hN])) ?_
  simp only [nrm]
  refine list_val (.slice s n cap) (by kernel_rfl) (by kernel_rfl) ?_
  simp only [nrm]
  refine list_val (.slice s3 m cap2) (by kernel_rfl) (by kernel_rfl) ?_
  simp only [nrm]
  refine list_call 32 #[.agg (kc K), .agg (kc N), .slice s n cap, .slice s3 m cap2] (by kernel_rfl) (by kernel_rfl) ((atag_ok K N hK hN (unhide hKb) (unhide hNb) A C s s3 n m cap cap2 _ ((unhide la).gr hB.gr) ((unhide l3).gr hB.gr)).mono ?_)
  rintro r u2 ⟨rfl, hg⟩
  refine ⟨_, rfl, ?_⟩
  replace hB := hB.more hg
  rw [← unhide hY]
  clear hg
  simp only [nrm]
  replace hB := hide hB
  (refine wpList_step fun K hK => ?_; replace hK := hide hK; go_simp; refine unhide hK _ _ ?_; clear hK K)
  replace hB := (unhide hB).new #[.int .u8 0, .int .u8 0, .int .u8 0, .int .u8 0, .int .u8 0, .int .u8 0, .int .u8 0, .int .u8 0, .int .u8 0, .int .u8 0, .int .u8 0, .int .u8 0, .int .u8 0, .int .u8 0, .int .u8 0, .int .u8 0] 72
  simp only [List.nil_append, List.cons_append] at hB
  generalize World.alloc _ _ = u3 at *
  generalize u2.heap.size = h10 at *
  replace hB : Bl w [⟨w.heap.size, kc K, 34⟩, ⟨w.heap.size + 1, kc N, 58⟩, ⟨h10, kc ZT, 72⟩] u3 := hB
  refine list_store 72 (.tmp 13) (.tmp 30) (h10) (kc Y) 72 (kc ZT) (by kernel_rfl) rfl (by kernel_rfl) (by kernel_rfl) (hB.get 2 (x := ⟨h10, kc ZT, 72⟩) rfl) (by rw [Tryd.infoT, kc_size, hYl]) ((show (kc ZT).size = 16 from rfl).trans ((kc_size _).trans hYl).symm) (kc_one _) ?_
  replace hB := hB.set 2 (x := ⟨h10, kc ZT, 72⟩) rfl (kc Y)
  simp only [List.set_cons_zero, List.set_cons_succ] at hB
  generalize World.setRow _ _ _ = u4 at *
  simp only [nrm]
  refine wpList_nil ?_
  replace hB := hide hB
  go_upto_region 6 with fail
  replace hB := unhide hB
  refine wp_region_lit ?_
  refine list_val (.slice (some ⟨h10, 0, none⟩) 16 16) (by kernel_rfl) (by kernel_rfl) ?_
  simp only [nrm]
  refine list_val (.slice s4 16 c4) (by kernel_rfl) (by kernel_rfl) ?_
  simp only [nrm]
  refine list_call 12 #[.slice (some ⟨h10, 0, none⟩) 16 16, .slice s4 16 c4] (by kernel_rfl) (by kernel_rfl) ((oequal_ok Y Y _ s4 16 16 c4 (by omega) _ (kc_lb (hB.get 2 (x := ⟨h10, kc Y, 72⟩) rfl) hYl (by rw [unhide hY]; exact tagL_isB _ _ _ _) (by omega)) ((unhide l4).gr hB.gr)).mono ?_)
  rintro r u5 ⟨rfl, rfl⟩
  refine ⟨_, rfl, ?_⟩
  rw [decide_eq_true (rfl : Y = Y)]
  simp only [nrm]
  refine list_val (.bool false) (by kernel_rfl) (by kernel_rfl) ?_
  simp only [nrm]
  refine wpList_nil ?_
  replace hB := hide hB
  go_upto_region 8 with fail
  replace hB := unhide hB
  refine wp_region_lit ?_
  refine list_val (.agg (kc K)) (by kernel_rfl) (exec_arr _ 34 (.tmp 4) rfl (w.heap.size) (by kernel_rfl) (kc K) 34 _ (hB.get 0 (x := ⟨w.heap.size, kc K, 34⟩) rfl) Tryd.underlying34 rfl (by rw [Tryd.infoKey, kc_size, hK])) ?_
  simp only [nrm]
  refine list_val (.agg (kc N)) (by kernel_rfl) (exec_arr _ 58 (.tmp 5) rfl (w.heap.size + 1) (by kernel_rfl) (kc N) 58 _ (hB.get 1 (x := ⟨w.heap.size + 1, kc N, 58⟩) rfl) Tryd.underlying58 rfl (by rw [Tryd.infoN, kc_size, hN])) ?_
  simp only [nrm]
  refine list_val (.slice s3 m cap2) (by kernel_rfl) (by kernel_rfl) ?_
  simp only [nrm]
  have hgw := hB.gr.size
  refine list_call 33 #[.agg (kc K), .int .u32 1, .agg (kc N), .slice s3 m cap2] (by kernel_rfl) (by kernel_rfl) ((xor_ok K N hK hN (unhide hKb) (unhide hNb) 1 ⟨by decide, by decide⟩ C _ m cap2 (by omega) _ ((unhide l3).gr hB.gr)).mono ?_)
  rintro r u6 ⟨gx, rfl, hgx, hx, hg⟩
  refine ⟨_, rfl, ?_⟩
  replace hB := hB.more hg
  rw [unhide hxx] at hx
  rw [unhide hCl]
  replace hgx := Nat.le_trans hgw hgx
  clear hg hgw
  simp only [nrm]
  (refine wpList_step fun K hK => ?_; replace hK := hide hK; go_simp; refine unhide hK _ _ ?_; clear hK K)
  (refine wpList_step fun K hK => ?_; replace hK := hide hK; go_simp; refine unhide hK _ _ ?_; clear hK K)
  refine wpList_nil ?_
  have hP : Hid (Opd P w (.returned (.tuple #[.slice (some ⟨gx, 0, none⟩) m m, .int .i64 0])) u6) := ⟨gx, by rw [← unhide hm], hgx, hx, hB.gr⟩
  clear hB hx hgx
  go_wp2_with fail
  rw [unhide hT]
  exact unhide hP
set_option maxHeartbeats 4000000 in
theorem open_tag (K N : List Int) (hK : K.length = 32) (hN : N.length = 12) (hKb : IsB K) (hNb : IsB N) (A S : List Int) (s s2 : Option Addr) (n n2 cap cap2 : Nat) (hbig : n2 ≤ 20000) (w : World) (h16 : 16 ≤ n2) (la : Lb w s n cap A) (ls : Lb w s2 n2 cap2 S) (hno : ∀ P, IsB P → S ≠ sealL K N A P) : Calls Tryd.prog 22 #[.agg (kc K), .agg (kc N), .slice s n cap, .slice s2 n2 cap2] w (Shut8 w) := by
  obtain ⟨T, hT⟩ : ∃ T, T = Shut8 w := ⟨_, rfl⟩
  rw [← hT]
  replace hT := hide hT
  obtain ⟨m, hm16⟩ : ∃ m, n2 = m + 16 := ⟨n2 - 16, by omega⟩
  have hne := not_sealed K N A S m (by rw [ls.len, hm16]) ls.isB hno
  obtain ⟨C, hSt⟩ : ∃ C, S.take m = C := ⟨_, rfl⟩
  obtain ⟨Y0, hSd⟩ : ∃ C, S.drop m = C := ⟨_, rfl⟩
  rw [hSt, hSd] at hne
  have hCl : C.length = m := by rw [← hSt, List.length_take, ls.len]; omega
  obtain ⟨Y, hY⟩ : ∃ Y, Y = tagL K N A C := ⟨_, rfl⟩
  have hYl : Y.length = 16 := by rw [hY, tagL_len]
  rw [← hY] at hne
  clear hno
  replace hY := hide hY; replace hne := hide hne
  have hcap := ls.cap
  obtain ⟨c4, hc4⟩ : ∃ c, c = cap2 - m := ⟨_, rfl⟩
  obtain ⟨s3, hs3⟩ : ∃ x, x = if cap2 = 0 then s2 else s2.map (·.add 0) := ⟨_, rfl⟩
  obtain ⟨s4, hs4⟩ : ∃ x, x = if cap2 = m then s2 else s2.map (·.add m) := ⟨_, rfl⟩
  have e16 : n2 - m = 16 := by omega
  have l3 : Lb w s3 m cap2 C := by
    have h := ls.upto m (by omega)
    rw [hSt, ← hs3] at h
    exact h
  have l4 : Lb w s4 16 c4 Y0 := by
    have h := ls.rest m (by omega)
    rw [hSd, ← hs4, ← hc4, e16] at h
    exact h
  have hle : m ≤ n2 := by omega
  have i1 : ¬ (n2 : Int) < 16 := by omega
  have i2 : (n2 : Int) - 16 = (m : Int) := by omega
  have i3 : IntKind.i64.wrap (m : Int) = (m : Int) := by rw [IntKind.wrap_i64]; omega
  have i4 : ¬ n2 < 16 := by omega
  replace hc4 := hide hc4; replace hs3 := hide hs3; replace hs4 := hide hs4; replace e16 := hide e16; replace l3 := hide l3; replace l4 := hide l4; replace hm16 := hide hm16; replace hCl := hide hCl
  clear ls hSt hSd
  obtain ⟨SK, hSK⟩ : ∃ S, S = kc K := ⟨_, rfl⟩
  obtain ⟨SN, hSN⟩ : ∃ S, S = kc N := ⟨_, rfl⟩
  rw [← hSK, ← hSN]
  replace hSK := hide hSK
  replace hSN := hide hSN
  replace hKb := hide hKb
  replace hNb := hide hNb
  replace la := hide la
  go_enter Tryd.func22, Tryd.ntmps22
  go_upto_region 3 with fail
  have hB := (((Bl.nil w).new SK 34).new SN 58)
  simp only [size_alloc, List.nil_append, List.cons_append] at hB
  generalize World.alloc _ _ = u at *
  rw [unhide hSK, unhide hSN] at hB
  replace hB : Bl w [⟨w.heap.size, kc K, 34⟩, ⟨w.heap.size + 1, kc N, 58⟩] u := hB
  refine wp_region_lit ?_
  refine list_val (.slice s2 n2 cap2) (by kernel_rfl) (by kernel_rfl) ?_
  simp only [nrm]
  refine list_val (.int .i64 n2) (by kernel_rfl) (by kernel_rfl) ?_
  simp only [nrm]
  refine list_val (.int .i64 m) (by kernel_rfl) (by go_simp) ?_
  simp only [nrm]
  (refine wpList_step fun K hK => ?_; replace hK := hide hK; go_simp; refine unhide hK _ _ ?_; clear hK K)
  refine wpList_nil ?_
  replace hB := hide hB
  go_upto_region 4 with fail
  replace hB := unhide hB
  refine any_start (S := fun _ => True) (by kernel_rfl) ?_
  replace hB := hB.drew
  generalize World.drew _ = x0 at *
  simp only [List.size_toArray, List.length_cons, List.length_nil, Array.replicate, List.replicate]
  refine any_take (i := 0) (v := (.slice s2 n2 cap2)) #[false, false, false, false, false, false, false, false] rfl (by kernel_rfl) (by kernel_rfl) (by kernel_rfl) (by kernel_rfl) (fun _ _ _ h => h) (.inl ⟨by kernel_rfl, fun x_ hu => by kernel_rfl⟩) trivial ?_
  simp only [nrm]
  refine any_take (i := 1) (v := (.int .i64 m)) #[true, false, false, false, false, false, false, false] rfl (by kernel_rfl) (by kernel_rfl) (by kernel_rfl) (by kernel_rfl) (fun _ _ _ h => h) (.inl ⟨by kernel_rfl, fun x_ hu => by kernel_rfl⟩) trivial ?_
  simp only [nrm]
  refine any_take (i := 2) (v := (.slice s3 m cap2)) #[true, true, false, false, false, false, false, false] rfl (by kernel_rfl) (by kernel_rfl) (by kernel_rfl) (by kernel_rfl) (fun _ _ _ h => h) (.inl ⟨by kernel_rfl, fun x_ hu => by rw [unhide hs3]; exact exec_upto _ (.tmp 20) (.tmp 21) rfl s2 n2 cap2 m rfl rfl hcap hle⟩) trivial ?_
  simp only [nrm]
  refine any_take (i := 3) (v := (.slice s2 n2 cap2)) #[true, true, true, false, false, false, false, false] rfl (by kernel_rfl) (by kernel_rfl) (by kernel_rfl) (by kernel_rfl) (fun _ _ _ h => h) (.inl ⟨by kernel_rfl, fun x_ hu => by kernel_rfl⟩) trivial ?_
  simp only [nrm]
  refine any_take (i := 4) (v := (.int .i64 m)) #[true, true, true, true, false, false, false, false] rfl (by kernel_rfl) (by kernel_rfl) (by kernel_rfl) (by kernel_rfl) (fun _ _ _ h => h) (.inl ⟨by kernel_rfl, fun x_ hu => by kernel_rfl⟩) trivial ?_
  simp only [nrm]
  refine any_take (i := 5) (v := (.slice s4 16 c4)) #[true, true, true, true, true, false, false, false] rfl (by kernel_rfl) (by kernel_rfl) (by kernel_rfl) (by kernel_rfl) (fun _ _ _ h => h) (.inl ⟨by kernel_rfl, fun x_ hu => by rw [unhide hs4, unhide hc4, ← unhide e16]; exact exec_from _ (.tmp 23) (.tmp 24) rfl s2 n2 cap2 m rfl rfl hcap hle⟩) trivial ?_
  simp only [nrm]
  refine any_one (i := 6) (by kernel_rfl) rfl (fun K_ hQ => ?_)
  replace hQ := hide hQ
  go_simp
  refine (unhide hQ).out _ _ trivial (fun _ => ?_)
  clear hQ K_
  refine any_one (i := 7) (by kernel_rfl) rfl (fun K_ hQ => ?_)
  replace hQ := hide hQ
  go_simp
  refine (unhide hQ).out _ _ trivial (fun _ => ?_)
  clear hQ K_
  refine any_done (by kernel_rfl) ?_
  replace hB := hide hB
  go_upto_region 5 with fail
  replace hB := unhide hB
  refine wp_region_lit ?_
  refine list_val (.agg (kc K)) (by kernel_rfl) (exec_arr _ 34 (.tmp 4) rfl (w.heap.size) (by kernel_rfl) (kc K) 34 _ (hB.get 0 (x := ⟨w.heap.size, kc K, 34⟩) rfl) Tryd.underlying34 rfl (by rw [Tryd.infoKey, kc_size, hK])) ?_
  simp only [nrm]
  refine list_val (.agg (kc N)) (by kernel_rfl) (exec_arr _ 58 (.tmp 5) rfl (w.heap.size + 1) (by kernel_rfl) (kc N) 58 _ (hB.get 1 (x := ⟨w.heap.size + 1, kc N, 58⟩) rfl) Tryd.underlying58 rfl (by rw [Tryd.infoN, kc_size, hN])) ?_
  simp only [nrm]
  refine list_val (.slice s n cap) (by kernel_rfl) (by kernel_rfl) ?_
  simp only [nrm]
  refine list_val (.slice s3 m cap2) (by kernel_rfl) (by kernel_rfl) ?_
  simp only [nrm]
  refine list_call 32 #[.agg (kc K), .agg (kc N), .slice s n cap, .slice s3 m cap2] (by kernel_rfl) (by kernel_rfl) ((atag_ok K N hK hN (unhide hKb) (unhide hNb) A C s s3 n m cap cap2 _ ((unhide la).gr hB.gr) ((unhide l3).gr hB.gr)).mono ?_)
  rintro r u2 ⟨rfl, hg⟩
  refine ⟨_, rfl, ?_⟩
  replace hB := hB.more hg
  rw [← unhide hY]
  clear hg
  simp only [nrm]
  replace hB := hide hB
  (refine wpList_step fun K hK => ?_; replace hK := hide hK; go_simp; refine unhide hK _ _ ?_; clear hK K)
  replace hB := (unhide hB).new #[.int .u8 0, .int .u8 0, .int .u8 0, .int .u8 0, .int .u8 0, .int .u8 0, .int .u8 0, .int .u8 0, .int .u8 0, .int .u8 0, .int .u8 0, .int .u8 0, .int .u8 0, .int .u8 0, .int .u8 0, .int .u8 0] 72
  simp only [List.nil_append, List.cons_append] at hB
  generalize World.alloc _ _ = u3 at *
  generalize u2.heap.size = h10 at *
  replace hB : Bl w [⟨w.heap.size, kc K, 34⟩, ⟨w.heap.size + 1, kc N, 58⟩, ⟨h10, kc ZT, 72⟩] u3 := hB
  refine list_store 72 (.tmp 13) (.tmp 30) (h10) (kc Y) 72 (kc ZT) (by kernel_rfl) rfl (by kernel_rfl) (by kernel_rfl) (hB.get 2 (x := ⟨h10, kc ZT, 72⟩) rfl) (by rw [Tryd.infoT, kc_size, hYl]) ((show (kc ZT).size = 16 from rfl).trans ((kc_size _).trans hYl).symm) (kc_one _) ?_
  replace hB := hB.set 2 (x := ⟨h10, kc ZT, 72⟩) rfl (kc Y)
  simp only [List.set_cons_zero, List.set_cons_succ] at hB
  generalize World.setRow _ _ _ = u4 at *
  simp only [nrm]
  refine wpList_nil ?_
  replace hB := hide hB
  go_upto_region 6 with fail
  replace hB := unhide hB
  refine wp_region_lit ?_
  refine list_val (.slice (some ⟨h10, 0, none⟩) 16 16) (by kernel_rfl) (by kernel_rfl) ?_
  simp only [nrm]
  refine list_val (.slice s4 16 c4) (by kernel_rfl) (by kernel_rfl) ?_
  simp only [nrm]
  refine list_call 12 #[.slice (some ⟨h10, 0, none⟩) 16 16, .slice s4 16 c4] (by kernel_rfl) (by kernel_rfl) ((oequal_ok Y Y0 _ s4 16 16 c4 (by omega) _ (kc_lb (hB.get 2 (x := ⟨h10, kc Y, 72⟩) rfl) hYl (by rw [unhide hY]; exact tagL_isB _ _ _ _) (by omega)) ((unhide l4).gr hB.gr)).mono ?_)
  rintro r u5 ⟨rfl, rfl⟩
  refine ⟨_, rfl, ?_⟩
  rw [decide_eq_false (unhide hne)]
  simp only [nrm]
  refine list_val (.bool true) (by kernel_rfl) (by kernel_rfl) ?_
  simp only [nrm]
  refine wpList_nil ?_
  replace hB := hide hB
  go_wp2_with fail
  rw [unhide hT]
  exact ⟨rfl, (unhide hB).gr⟩
theorem open_no (K N : List Int) (hK : K.length = 32) (hN : N.length = 12) (hKb : IsB K) (hNb : IsB N) (A S : List Int) (s s2 : Option Addr) (n n2 cap cap2 : Nat) (hbig : n2 ≤ 20000) (w : World) (la : Lb w s n cap A) (ls : Lb w s2 n2 cap2 S) (hno : ∀ P, IsB P → S ≠ sealL K N A P) : Calls Tryd.prog 22 #[.agg (kc K), .agg (kc N), .slice s n cap, .slice s2 n2 cap2] w (Shut8 w) := by
  rcases Nat.lt_or_ge n2 16 with h | h
  · exact open_short K N hK hN hKb hNb A S s s2 n n2 cap cap2 h w
  · exact open_tag K N hK hN hKb hNb A S s s2 n n2 cap cap2 hbig w h la ls hno
theorem Ob.some {b : Nat} {w : World} {v : Value} {L : List Int} (h : Ob b w v L) (hL : L ≠ []) : ∃ g c cur, v = .slice (some ⟨g, 0, none⟩) L.length c ∧ b ≤ g ∧ w.heap[g]? = some (.cells cur 5 (0, 0)) ∧ L.length ≤ c ∧ c ≤ maxLen ∧ cur.size = c ∧ cur.toList.take L.length = L.map (Value.int .u8) := by
  rcases h.2 with ⟨h1, h2⟩ | ⟨g, cap, cur, h1, h2, h3, h4, h5, h6, h7⟩
  · exact absurd (List.eq_nil_of_length_eq_zero h2) hL
  · exact ⟨g, cap, cur, h1, h2, h3, h4, h5, by rw [h6, Nat.mul_one], by rw [Nat.mul_one] at h7; exact h7⟩
theorem exec_bs {op : Oper} {a : Act} (w : World) (x : Operand) (ho : op.op = .load 24 x) (g i : Nat) (hx : a.eval x = .pointer (some ⟨g, i, none⟩)) (s : Option Addr) (n c : Nat) (hc : w.cell? ⟨g, i, none⟩ = some (.slice s n c)) : (execOp a.eval op).run Tryd.prog w = .ok (.value (.slice s n c)) w := by
  unfold execOp
  simp only [ho, hx, Instr.loadAt, Instr.sureAddr, Sem.run_bind, Sem.run_pure, Result.andThen_ok]
  go_simp
def Woke (w : World) (r : Ending) (w' : World) : Prop := r = .returned (.bool true) ∧ Gr w w'
theorem exec_u8 {op : Oper} {a : Act} (w : World) (x : Operand) (ho : op.op = .load 5 x) (g i : Nat) (hx : a.eval x = .pointer (some ⟨g, i, none⟩)) (v : Int) (hc : w.cell? ⟨g, i, none⟩ = some (.int .u8 v)) : (execOp a.eval op).run Tryd.prog w = .ok (.value (.int .u8 v)) w := by
  unfold execOp
  simp only [ho, hx, Instr.loadAt, Instr.sureAddr, Sem.run_bind, Sem.run_pure, Result.andThen_ok]
  go_simp
theorem exec_at {a : Act} {o : Oper} (w : World) (x y : Operand) (ho : o.op = .indexAddr 24 x y) (g q len cap i : Nat) (hx : a.eval x = .slice (some ⟨g, q, none⟩) len cap) (hy : a.eval y = .int .i64 i) (hi : i < len) :
    (execOp a.eval o).run Tryd.prog w = .ok (.value (.pointer (some ⟨g, q + i, none⟩))) w := by
  have h1 : (i : Int) < (len : Int) := by omega
  unfold execOp
  simp only [ho, hx, hy]
  go_simp
theorem seal_inj (K N A : List Int) {P Q : List Int} (hP : IsB P) (hQ : IsB Q) (hl : P.length = Q.length) (h : sealL K N A P = sealL K N A Q) : P = Q := by
  unfold sealL at h
  exact xl_inj K N 1 hP hQ (List.append_inj h (by rw [xl_len, xl_len, hl])).1
def IsK (l : List Int) : Prop := l.length = 32 ∧ IsB l
def okL (r : Int) (K : List Int) (t : ByteArray) : List Int := spL K (infoL (tb t) [lowL r 8]) 32
theorem okL_len (r : Int) (K : List Int) (t : ByteArray) : (okL r K t).length = 32 := spL_len _ _ _
theorem okL_isB (r : Int) (K : List Int) (t : ByteArray) : IsB (okL r K t) := spL_isB _ _ _
def tO : ByteArray := ⟨#[111, 117, 116]⟩
def tB : ByteArray := ⟨#[98, 97, 99, 107]⟩
def seO (r : Int) (K : List Int) (t : ByteArray) (P : List Int) : List Int := sealL (okL r K t) (cntL 0) [] P
theorem seO_len (r : Int) (K : List Int) (t : ByteArray) (P : List Int) : (seO r K t P).length = P.length + 16 := sealL_len _ _ _ _
theorem seO_isB (r : Int) (K : List Int) (t : ByteArray) (P : List Int) : IsB (seO r K t P) := sealL_isB _ _ _ _
theorem step_storew {P : Program} {ops : Array Oper} {Q : Exit → Act → World → Prop} {a : Act} {w : World} {o : Oper} {K : Act → World → Prop} (ty : TypeId) (x y : Operand) (g : Nat) (c : Array Value) (t : TypeId) (old : Array Value) (hw : Region.wanted o (yielded ops a.tmps) = true) (ho : o.op = .store ty x y)
    (hx : a.eval x = .pointer (some ⟨g, 0, none⟩)) (hy : a.eval y = .agg c) (hg : w.heap[g]? = some (.cells old t (0, 0))) (hi : (P.info? ty).map (·.size) = some c.size) (hold : old.size = c.size) (h1 : c.all (·.oneCell') = true)
    (h : K (a.put o.dst undef) (w.setRow g c)) : if Region.wanted o (yielded ops a.tmps) = true then Oper.wp P o a w K Q else K (a.put o.dst undef) w := by
  rw [if_pos hw]
  exact wp_store_row ty x y ho g c hx hy t old hg hi hold h1 h
theorem small_low (r : Int) : small4 [lowL r 8] := ⟨by simp, fun p hp => by rw [List.mem_singleton.1 hp, lowL_len]; omega⟩
set_option maxHeartbeats 4000000 in
theorem nkey_ok (r : Int) (hr : 0 ≤ r) (K : List Int) (hK : K.length = 32) (hKb : IsB K) (t : ByteArray) (ht : t.size ≤ 1000) (w : World) (hF : Fst w) : Calls Tryd.prog 23 #[.int .u64 r, .agg (kc K), .string t] w (Derd (okL r K t) w) := by
  obtain ⟨T, hT⟩ : ∃ T, T = Derd (okL r K t) w := ⟨_, rfl⟩
  rw [← hT]
  replace hT := hide hT
  obtain ⟨SK, hSK⟩ : ∃ S, S = kc K := ⟨_, rfl⟩
  rw [← hSK]
  replace hSK := hide hSK
  replace hKb := hide hKb
  replace hF := hide hF
  go_enter Tryd.func23, Tryd.ntmps23
  go_upto_region 1 with fail
  have hB := (((Bl.nil w).new SK 34).new #[.int .u8 0, .int .u8 0, .int .u8 0, .int .u8 0, .int .u8 0, .int .u8 0, .int .u8 0, .int .u8 0, .int .u8 0, .int .u8 0, .int .u8 0, .int .u8 0, .int .u8 0, .int .u8 0, .int .u8 0, .int .u8 0, .int .u8 0, .int .u8 0, .int .u8 0, .int .u8 0, .int .u8 0, .int .u8 0, .int .u8 0, .int .u8 0, .int .u8 0, .int .u8 0, .int .u8 0, .int .u8 0, .int .u8 0, .int .u8 0, .int .u8 0, .int .u8 0] 34)
  simp only [size_alloc, List.nil_append, List.cons_append] at hB
  generalize World.alloc _ _ = u at *
  rw [unhide hSK] at hB
  replace hB : Bl w [⟨w.heap.size, kc K, 34⟩, ⟨w.heap.size + 1, kc ZK, 34⟩] u := hB
  refine any_start (S := fun v => v.heap[w.heap.size]? = some (.cells (kc K) 34 (0, 0))) (by kernel_rfl) ?_
  replace hB := hB.drew
  generalize World.drew _ = x0 at *
  simp only [List.size_toArray, List.length_cons, List.length_nil, Array.replicate, List.replicate]
  refine any_take (i := 0) (v := (.agg (kc K))) #[false, false, false, false, false, false, false] rfl (by kernel_rfl) (by kernel_rfl) (by kernel_rfl) (by kernel_rfl) (fun _ _ _ h => h) (.inl ⟨by kernel_rfl, fun x_ hu => exec_arr _ 34 (.tmp 4) rfl (w.heap.size) (by kernel_rfl) (kc K) 34 _ (hu) Tryd.underlying34 rfl (by rw [Tryd.infoKey, kc_size, hK])⟩) (hB.get 0 (x := ⟨w.heap.size, kc K, 34⟩) rfl) ?_
  simp only [nrm]
  refine any_take (i := 1) (v := (.string t)) #[true, false, false, false, false, false, false] rfl (by kernel_rfl) (by kernel_rfl) (by kernel_rfl) (by kernel_rfl) (fun _ _ _ h => h) (.inl ⟨by kernel_rfl, fun x_ hu => by kernel_rfl⟩) (hB.get 0 (x := ⟨w.heap.size, kc K, 34⟩) rfl) ?_
  simp only [nrm]
  refine any_take (i := 2) (v := (.int .u64 r)) #[true, true, false, false, false, false, false] rfl (by kernel_rfl) (by kernel_rfl) (by kernel_rfl) (by kernel_rfl) (fun _ _ _ h => h) (.inl ⟨by kernel_rfl, fun x_ hu => by kernel_rfl⟩) (hB.get 0 (x := ⟨w.heap.size, kc K, 34⟩) rfl) ?_
  simp only [nrm]
  refine any_one (i := 3) (by kernel_rfl) rfl (fun K_ hQ => ?_)
  refine step_callw (by kernel_rfl) 35 #[.slice none 0 0, .int .u64 r] (by kernel_rfl) ((put64_ok [] none 0 0 r hr (by omega) x0 (Lb.nil x0)).mono ?_)
  rintro r x1 ⟨gp, rfl, hgp, hpb, hg⟩
  refine ⟨_, rfl, ?_⟩
  simp only [List.nil_append] at hpb ⊢
  rw [lowL_len]
  replace hB := hB.more hg
  have lp := hide (kc_lb (n := 8) hpb (lowL_len r 8) (lowL_isB r 8) (by omega))
  clear hg hgp hpb
  refine hQ.out _ _ (hB.get 0 (x := ⟨w.heap.size, kc K, 34⟩) rfl) (fun _ => ?_)
  clear hQ K_
  simp only [nrm]
  refine any_one (i := 4) (by kernel_rfl) rfl (fun K_ hQ => ?_)
  replace hB := hide hB
  replace hQ := hide hQ
  go_simp
  refine (unhide hQ).out _ _ ?_ (fun _ => ?_)
  · exact ((Gr.refl x1).alloc (.cells #[.slice (some ⟨gp, 0, none⟩) 8 8] 24)).blk ((unhide hB).get 0 (x := ⟨w.heap.size, kc K, 34⟩) rfl)
  clear hQ K_
  have hg := (Gr.refl x1).alloc (.cells #[.slice (some ⟨gp, 0, none⟩) 8 8] 24 (0, 0))
  have hnew := blk_new x1 (.cells #[.slice (some ⟨gp, 0, none⟩) 8 8] 24 (0, 0))
  replace hB := (unhide hB).more hg
  replace lp := hide ((unhide lp).gr hg)
  generalize World.alloc _ _ = x2 at *
  generalize x1.heap.size = gq at *
  clear hg
  simp only [nrm]
  refine any_one (i := 5) (by kernel_rfl) rfl (fun K_ hQ => ?_)
  refine step_callw (by kernel_rfl) 34 #[.agg (kc K), .string t, .slice (some ⟨gq, 0, none⟩) 1 1] (by kernel_rfl) ((derive_ok K hK (unhide hKb) t ht [lowL r 8] (some ⟨gq, 0, none⟩) 1 1 rfl (small_low r) x2 ((unhide hF).gr hB.gr) (Pr.one hnew (unhide lp))).mono ?_)
  rintro r x3 ⟨rfl, hg⟩
  refine ⟨_, rfl, ?_⟩
  replace hB := hB.more hg
  clear hg lp hnew
  obtain ⟨D, hD⟩ : ∃ D, D = okL r K t := ⟨_, rfl⟩
  rw [show spL K (infoL (tb t) [lowL r 8]) 32 = D from hD.symm]
  have hDl : D.length = 32 := by rw [hD, okL_len]
  replace hD := hide hD
  refine hQ.out _ _ (hB.get 0 (x := ⟨w.heap.size, kc K, 34⟩) rfl) (fun _ => ?_)
  clear hQ K_
  simp only [nrm]
  refine any_one (i := 6) (by kernel_rfl) rfl (fun K_ hQ => ?_)
  refine step_storew 34 (.tmp 6) (.tmp 12) (w.heap.size + 1) (kc D) 34 (kc ZK) (by kernel_rfl) rfl (by kernel_rfl) (by kernel_rfl) (hB.get 1 (x := ⟨w.heap.size + 1, kc ZK, 34⟩) rfl) (by rw [Tryd.infoKey, kc_size, hDl]) ((show (kc ZK).size = 32 from rfl).trans ((kc_size _).trans hDl).symm) (kc_one _) ?_
  replace hB := hB.set 1 (x := ⟨w.heap.size + 1, kc ZK, 34⟩) rfl (kc D)
  simp only [List.set_cons_zero, List.set_cons_succ] at hB
  generalize World.setRow _ _ _ = x4 at *
  refine hQ.out _ _ (hB.get 0 (x := ⟨w.heap.size, kc K, 34⟩) rfl) (fun _ => ?_)
  clear hQ K_
  simp only [nrm]
  refine any_done (by kernel_rfl) ?_
  replace hB := hide hB
  go_wp2_with fail
  replace hB := unhide hB
  rw [unhide hT]
  exact bodyPost_ret (v := .agg (kc D)) (results_cell_row Tryd.results23 _ _ (w.heap.size + 1) 34 (kc D) (0, 0) _ rfl (hB.get 1 (x := ⟨w.heap.size + 1, kc D, 34⟩) rfl) Tryd.underlying34 rfl (by rw [Tryd.infoKey, kc_size, hDl])) rfl (⟨by rw [unhide hD], hB.gr⟩)
set_option maxHeartbeats 4000000 in
theorem nseal_ok (r : Int) (hr : 0 ≤ r) (K : List Int) (hK : K.length = 32) (hKb : IsB K) (t : ByteArray) (ht : t.size ≤ 1000) (P : List Int) (s : Option Addr) (n c : Nat) (hn : n ≤ 20000) (w : World) (hF : Fst w) (lp : Lb w s n c P) : Calls Tryd.prog 18 #[.int .u64 r, .agg (kc K), .string t, .slice s n c] w (Obd (seO r K t P) w) := by
  obtain ⟨T, hT⟩ : ∃ T, T = Obd (seO r K t P) w := ⟨_, rfl⟩
  rw [← hT]
  replace hT := hide hT
  replace lp := hide lp
  obtain ⟨SK, hSK⟩ : ∃ S, S = kc K := ⟨_, rfl⟩
  rw [← hSK]
  replace hSK := hide hSK
  replace hKb := hide hKb
  replace hF := hide hF
  go_enter Tryd.func18, Tryd.ntmps18
  go_upto_region 1 with fail
  have hB := ((Bl.nil w).new SK 34)
  simp only [size_alloc, List.nil_append, List.cons_append] at hB
  generalize World.alloc _ _ = u at *
  rw [unhide hSK] at hB
  replace hB : Bl w [⟨w.heap.size, kc K, 34⟩] u := hB
  refine wp_region_lit ?_
  refine list_val (.int .u64 r) (by kernel_rfl) (by kernel_rfl) ?_
  simp only [nrm]
  refine list_val (.agg (kc K)) (by kernel_rfl) (exec_arr _ 34 (.tmp 5) rfl (w.heap.size) (by kernel_rfl) (kc K) 34 _ (hB.get 0 (x := ⟨w.heap.size, kc K, 34⟩) rfl) Tryd.underlying34 rfl (by rw [Tryd.infoKey, kc_size, hK])) ?_
  simp only [nrm]
  refine list_val (.string t) (by kernel_rfl) (by kernel_rfl) ?_
  simp only [nrm]
  refine list_call 23 #[.int .u64 r, .agg (kc K), .string t] (by kernel_rfl) (by kernel_rfl) ((nkey_ok r hr K hK (unhide hKb) t ht _ ((unhide hF).gr hB.gr)).mono ?_)
  rintro r u1 ⟨rfl, hg⟩
  refine ⟨_, rfl, ?_⟩
  replace hB := hB.more hg
  clear hg
  obtain ⟨D, hD⟩ : ∃ D, D = okL r K t := ⟨_, rfl⟩
  rw [← hD]
  have hDl : D.length = 32 := by rw [hD, okL_len]
  have hDb := hide (show IsB D by rw [hD]; exact okL_isB r K t)
  replace hD := hide hD
  simp only [nrm]
  refine list_call 24 #[.int .u64 0] (by kernel_rfl) (by kernel_rfl) ((count_ok 0 (Int.le_refl 0) _).mono ?_)
  rintro r u2 ⟨rfl, hg⟩
  refine ⟨_, rfl, ?_⟩
  replace hB := hB.more hg
  clear hg
  obtain ⟨N, hN⟩ : ∃ N, N = cntL 0 := ⟨_, rfl⟩
  rw [← hN]
  have hNl : N.length = 12 := by rw [hN, cntL_len]
  have hNb := hide (show IsB N by rw [hN]; exact cntL_isB 0)
  replace hN := hide hN
  simp only [nrm]
  refine list_val (.slice s n c) (by kernel_rfl) (by kernel_rfl) ?_
  simp only [nrm]
  refine list_call 25 #[.agg (kc D), .agg (kc N), .slice none 0 0, .slice s n c] (by kernel_rfl) (by kernel_rfl) ((seal_ok D N hDl hNl (unhide hDb) (unhide hNb) [] P none s 0 n 0 c hn _ (Lb.nil _) ((unhide lp).gr hB.gr)).mono ?_)
  rintro r u3 ⟨v3, rfl, hO, hg⟩
  refine ⟨_, rfl, ?_⟩
  replace hO := hO.up hB.gr.size
  replace hB := hB.more hg
  clear hg
  simp only [nrm]
  (refine wpList_step fun K hK => ?_; replace hK := hide hK; go_simp; refine unhide hK _ _ ?_; clear hK K)
  refine wpList_nil ?_
  have hP : Hid (Obd (seO r K t P) w (.returned v3) u3) := ⟨v3, rfl, by unfold seO; rw [← unhide hD, ← unhide hN]; exact hO, hB.gr⟩
  clear hO hB
  go_wp2_with fail
  rw [unhide hT]
  exact unhide hP
set_option maxHeartbeats 4000000 in
theorem nopen_yes (r : Int) (hr : 0 ≤ r) (K : List Int) (hK : K.length = 32) (hKb : IsB K) (t : ByteArray) (ht : t.size ≤ 1000) (P : List Int) (hPb : IsB P) (s : Option Addr) (n c : Nat) (hn : n ≤ 20000) (w : World) (hF : Fst w) (lp : Lb w s n c (seO r K t P)) : Calls Tryd.prog 17 #[.int .u64 r, .agg (kc K), .string t, .slice s n c] w (Opd P w) := by
  obtain ⟨T, hT⟩ : ∃ T, T = Opd P w := ⟨_, rfl⟩
  rw [← hT]
  replace hT := hide hT
  replace lp := hide lp
  replace hPb := hide hPb
  obtain ⟨SK, hSK⟩ : ∃ S, S = kc K := ⟨_, rfl⟩
  rw [← hSK]
  replace hSK := hide hSK
  replace hKb := hide hKb
  replace hF := hide hF
  go_enter Tryd.func17, Tryd.ntmps17
  go_upto_region 1 with fail
  have hB := ((Bl.nil w).new SK 34)
  simp only [size_alloc, List.nil_append, List.cons_append] at hB
  generalize World.alloc _ _ = u at *
  rw [unhide hSK] at hB
  replace hB : Bl w [⟨w.heap.size, kc K, 34⟩] u := hB
  refine wp_region_lit ?_
  refine list_val (.int .u64 r) (by kernel_rfl) (by kernel_rfl) ?_
  simp only [nrm]
  refine list_val (.agg (kc K)) (by kernel_rfl) (exec_arr _ 34 (.tmp 5) rfl (w.heap.size) (by kernel_rfl) (kc K) 34 _ (hB.get 0 (x := ⟨w.heap.size, kc K, 34⟩) rfl) Tryd.underlying34 rfl (by rw [Tryd.infoKey, kc_size, hK])) ?_
  simp only [nrm]
  refine list_val (.string t) (by kernel_rfl) (by kernel_rfl) ?_
  simp only [nrm]
  refine list_call 23 #[.int .u64 r, .agg (kc K), .string t] (by kernel_rfl) (by kernel_rfl) ((nkey_ok r hr K hK (unhide hKb) t ht _ ((unhide hF).gr hB.gr)).mono ?_)
  rintro r u1 ⟨rfl, hg⟩
  refine ⟨_, rfl, ?_⟩
  replace hB := hB.more hg
  clear hg
  obtain ⟨D, hD⟩ : ∃ D, D = okL r K t := ⟨_, rfl⟩
  rw [← hD]
  have hDl : D.length = 32 := by rw [hD, okL_len]
  have hDb := hide (show IsB D by rw [hD]; exact okL_isB r K t)
  replace hD := hide hD
  simp only [nrm]
  refine list_call 24 #[.int .u64 0] (by kernel_rfl) (by kernel_rfl) ((count_ok 0 (Int.le_refl 0) _).mono ?_)
  rintro r u2 ⟨rfl, hg⟩
  refine ⟨_, rfl, ?_⟩
  replace hB := hB.more hg
  clear hg
  obtain ⟨N, hN⟩ : ∃ N, N = cntL 0 := ⟨_, rfl⟩
  rw [← hN]
  have hNl : N.length = 12 := by rw [hN, cntL_len]
  have hNb := hide (show IsB N by rw [hN]; exact cntL_isB 0)
  replace hN := hide hN
  simp only [nrm]
  refine list_val (.slice s n c) (by kernel_rfl) (by kernel_rfl) ?_
  simp only [nrm]
  refine list_call 22 #[.agg (kc D), .agg (kc N), .slice none 0 0, .slice s n c] (by kernel_rfl) (by kernel_rfl) ((open_yes D N hDl hNl (unhide hDb) (unhide hNb) [] P (unhide hPb) none s 0 n 0 c hn _ (Lb.nil _) (by have h := (unhide lp).gr hB.gr; unfold seO at h; rw [← unhide hD, ← unhide hN] at h; exact h)).mono ?_)
  rintro r u3 ⟨g3, rfl, hg3, hb3, hg⟩
  refine ⟨_, rfl, ?_⟩
  have hsz := hB.gr.size
  replace hB := hB.more hg
  clear hg
  simp only [nrm]
  refine list_val (.slice (some ⟨g3, 0, none⟩) P.length P.length) (by kernel_rfl) (by kernel_rfl) ?_
  simp only [nrm]
  refine list_val (.int .i64 0) (by kernel_rfl) (by kernel_rfl) ?_
  simp only [nrm]
  (refine wpList_step fun K hK => ?_; replace hK := hide hK; go_simp; refine unhide hK _ _ ?_; clear hK K)
  (refine wpList_step fun K hK => ?_; replace hK := hide hK; go_simp; refine unhide hK _ _ ?_; clear hK K)
  refine wpList_nil ?_
  have hP : Hid (T (.returned (.tuple #[.slice (some ⟨g3, 0, none⟩) P.length P.length, .int .i64 0])) u3) := by
    rw [unhide hT]
    exact ⟨g3, rfl, Nat.le_trans hsz hg3, hb3, hB.gr⟩
  clear hB
  go_wp2_with fail
  exact unhide hP
set_option maxHeartbeats 4000000 in
theorem nopen_no (r : Int) (hr : 0 ≤ r) (K : List Int) (hK : K.length = 32) (hKb : IsB K) (t : ByteArray) (ht : t.size ≤ 1000) (S : List Int) (s : Option Addr) (n c : Nat) (hn : n ≤ 20000) (w : World) (hF : Fst w) (lp : Lb w s n c S) (hno : ∀ P, IsB P → S ≠ seO r K t P) : Calls Tryd.prog 17 #[.int .u64 r, .agg (kc K), .string t, .slice s n c] w (Shut8 w) := by
  obtain ⟨T, hT⟩ : ∃ T, T = Shut8 w := ⟨_, rfl⟩
  rw [← hT]
  replace hT := hide hT
  replace lp := hide lp
  replace hno := hide hno
  obtain ⟨SK, hSK⟩ : ∃ S, S = kc K := ⟨_, rfl⟩
  rw [← hSK]
  replace hSK := hide hSK
  replace hKb := hide hKb
  replace hF := hide hF
  go_enter Tryd.func17, Tryd.ntmps17
  go_upto_region 1 with fail
  have hB := ((Bl.nil w).new SK 34)
  simp only [size_alloc, List.nil_append, List.cons_append] at hB
  generalize World.alloc _ _ = u at *
  rw [unhide hSK] at hB
  replace hB : Bl w [⟨w.heap.size, kc K, 34⟩] u := hB
  refine wp_region_lit ?_
  refine list_val (.int .u64 r) (by kernel_rfl) (by kernel_rfl) ?_
  simp only [nrm]
  refine list_val (.agg (kc K)) (by kernel_rfl) (exec_arr _ 34 (.tmp 5) rfl (w.heap.size) (by kernel_rfl) (kc K) 34 _ (hB.get 0 (x := ⟨w.heap.size, kc K, 34⟩) rfl) Tryd.underlying34 rfl (by rw [Tryd.infoKey, kc_size, hK])) ?_
  simp only [nrm]
  refine list_val (.string t) (by kernel_rfl) (by kernel_rfl) ?_
  simp only [nrm]
  refine list_call 23 #[.int .u64 r, .agg (kc K), .string t] (by kernel_rfl) (by kernel_rfl) ((nkey_ok r hr K hK (unhide hKb) t ht _ ((unhide hF).gr hB.gr)).mono ?_)
  rintro r u1 ⟨rfl, hg⟩
  refine ⟨_, rfl, ?_⟩
  replace hB := hB.more hg
  clear hg
  obtain ⟨D, hD⟩ : ∃ D, D = okL r K t := ⟨_, rfl⟩
  rw [← hD]
  have hDl : D.length = 32 := by rw [hD, okL_len]
  have hDb := hide (show IsB D by rw [hD]; exact okL_isB r K t)
  replace hD := hide hD
  simp only [nrm]
  refine list_call 24 #[.int .u64 0] (by kernel_rfl) (by kernel_rfl) ((count_ok 0 (Int.le_refl 0) _).mono ?_)
  rintro r u2 ⟨rfl, hg⟩
  refine ⟨_, rfl, ?_⟩
  replace hB := hB.more hg
  clear hg
  obtain ⟨N, hN⟩ : ∃ N, N = cntL 0 := ⟨_, rfl⟩
  rw [← hN]
  have hNl : N.length = 12 := by rw [hN, cntL_len]
  have hNb := hide (show IsB N by rw [hN]; exact cntL_isB 0)
  replace hN := hide hN
  simp only [nrm]
  refine list_val (.slice s n c) (by kernel_rfl) (by kernel_rfl) ?_
  simp only [nrm]
  refine list_call 22 #[.agg (kc D), .agg (kc N), .slice none 0 0, .slice s n c] (by kernel_rfl) (by kernel_rfl) ((open_no D N hDl hNl (unhide hDb) (unhide hNb) [] S none s 0 n 0 c hn _ (Lb.nil _) ((unhide lp).gr hB.gr) (by have h := unhide hno; unfold seO at h; rw [← unhide hD, ← unhide hN] at h; exact h)).mono ?_)
  rintro r u3 ⟨rfl, hg⟩
  refine ⟨_, rfl, ?_⟩
  have hsz := hB.gr.size
  replace hB := hB.more hg
  clear hg
  simp only [nrm]
  refine list_val (.slice none 0 0) (by kernel_rfl) (by kernel_rfl) ?_
  simp only [nrm]
  refine list_val (.int .i64 180) (by kernel_rfl) (by kernel_rfl) ?_
  simp only [nrm]
  (refine wpList_step fun K hK => ?_; replace hK := hide hK; go_simp; refine unhide hK _ _ ?_; clear hK K)
  (refine wpList_step fun K hK => ?_; replace hK := hide hK; go_simp; refine unhide hK _ _ ?_; clear hK K)
  refine wpList_nil ?_
  have hP : Hid (T (.returned (.tuple #[.slice none 0 0, .int .i64 180])) u3) := by
    rw [unhide hT]
    exact ⟨rfl, hB.gr⟩
  clear hB
  go_wp2_with fail
  exact unhide hP
set_option maxHeartbeats 4000000 in
theorem wrap_ok (r : Int) (hr : 0 ≤ r) (K : List Int) (hK : K.length = 32) (hKb : IsB K) (P : List Int) (s : Option Addr) (n c : Nat) (hn : n ≤ 20000) (w : World) (hF : Fst w) (lp : Lb w s n c P) : Calls Tryd.prog 10 #[.int .u64 r, .agg (kc K), .slice s n c] w (Obd (seO r K tB P) w) := by
  obtain ⟨T, hT⟩ : ∃ T, T = Obd (seO r K tB P) w := ⟨_, rfl⟩
  rw [← hT]
  replace hT := hide hT
  replace lp := hide lp
  obtain ⟨SK, hSK⟩ : ∃ S, S = kc K := ⟨_, rfl⟩
  rw [← hSK]
  replace hSK := hide hSK
  replace hKb := hide hKb
  replace hF := hide hF
  go_enter Tryd.func10, Tryd.ntmps10
  go_upto_region 1 with fail
  have hB := ((Bl.nil w).new SK 34)
  simp only [size_alloc, List.nil_append, List.cons_append] at hB
  generalize World.alloc _ _ = u at *
  rw [unhide hSK] at hB
  replace hB : Bl w [⟨w.heap.size, kc K, 34⟩] u := hB
  refine wp_region_lit ?_
  refine list_val (.int .u64 r) (by kernel_rfl) (by kernel_rfl) ?_
  simp only [nrm]
  refine list_val (.agg (kc K)) (by kernel_rfl) (exec_arr _ 34 (.tmp 4) rfl (w.heap.size) (by kernel_rfl) (kc K) 34 _ (hB.get 0 (x := ⟨w.heap.size, kc K, 34⟩) rfl) Tryd.underlying34 rfl (by rw [Tryd.infoKey, kc_size, hK])) ?_
  simp only [nrm]
  refine list_val (.slice s n c) (by kernel_rfl) (by kernel_rfl) ?_
  simp only [nrm]
  refine list_call 18 #[.int .u64 r, .agg (kc K), .string tB, .slice s n c] (by kernel_rfl) (by kernel_rfl) ((nseal_ok r hr K hK (unhide hKb) tB (by decide) P s n c hn _ ((unhide hF).gr hB.gr) ((unhide lp).gr hB.gr)).mono ?_)
  rintro r_ u3 ⟨v3, rfl, hO, hg⟩
  refine ⟨_, rfl, ?_⟩
  replace hO := hO.up hB.gr.size
  replace hB := hB.more hg
  clear hg
  simp only [nrm]
  (refine wpList_step fun K hK => ?_; replace hK := hide hK; go_simp; refine unhide hK _ _ ?_; clear hK K)
  refine wpList_nil ?_
  have hP : Hid (Obd (seO r K tB P) w (.returned v3) u3) := ⟨v3, rfl, hO, hB.gr⟩
  clear hO hB
  go_wp2_with fail
  rw [unhide hT]
  exact unhide hP
theorem Ob.nil (b : Nat) (w : World) : Ob b w (.slice none 0 0) [] := ⟨rfl, .inl ⟨rfl, rfl⟩⟩
theorem Ob.sl {b : Nat} {w : World} {v : Value} {L : List Int} (h : Ob b w v L) : ∃ a c, v = .slice a L.length c := by
  rcases h.2 with ⟨e, e2⟩ | ⟨g, cap, cur, e, _⟩
  · exact ⟨none, 0, by rw [e, e2]⟩
  · exact ⟨_, cap, e⟩
set_option maxHeartbeats 4000000 in
theorem clone_some (B : List Int) (x : Addr) (n c : Nat) (w : World) (hB0 : Lb w (some x) n c B) (hn : n ≤ 100000) : Calls Tryd.prog 19 #[.slice (some x) n c] w (Infd B w) := by
  obtain ⟨T, hT⟩ : ∃ T, T = Infd B w := ⟨_, rfl⟩
  rw [← hT]
  replace hT := hide hT
  replace hB0 := hide hB0
  go_enter Tryd.func19, Tryd.ntmps19
  go_upto_region 1 with fail
  refine wp_region_lit ?_
  refine list_val (.slice (some x) n c) (by kernel_rfl) (by kernel_rfl) ?_
  simp only [nrm]
  refine list_val (.bool false) (by kernel_rfl) (by kernel_rfl) ?_
  simp only [nrm]
  refine wpList_nil ?_
  go_upto_region 3 with fail
  refine wp_region_lit ?_
  refine list_valw (.slice (some ⟨w.heap.size, 0, none⟩) 0 0) (w.alloc (.cells #[] 5 (0, 0))) (by kernel_rfl) (by kernel_rfl) ?_
  have hO : Ob w.heap.size (w.alloc (.cells #[] 5 (0, 0))) (.slice (some ⟨w.heap.size, 0, none⟩) 0 0) [] := blk_bytes [] (Nat.le_refl _) (Nat.zero_le _)
  have hG := (Gr.refl w).alloc (.cells #[] 5 (0, 0))
  generalize World.alloc _ _ = u at *
  simp only [nrm]
  refine list_val (.slice (some x) n c) (by kernel_rfl) (by kernel_rfl) ?_
  simp only [nrm]
  refine app_bs (by kernel_rfl) (.tmp 5) (.tmp 6) rfl w.heap.size _ [] rfl hO (some x) n c B rfl (unhide hB0).len ((unhide hB0).gr hG).sl (by simp only [List.length_nil, Nat.zero_add]; omega) hG.size ?_
  intro v9 u9 hO9 hgr
  rw [List.nil_append] at hO9
  have hZ : Hid (Infd B w (.returned v9) u9) := ⟨v9, rfl, hO9, hO.grown (Nat.le_refl _) hG hgr⟩
  clear hO9 hgr hO hG
  simp only [nrm]
  (refine wpList_step fun K hK => ?_; replace hK := hide hK; go_simp; refine unhide hK _ _ ?_; clear hK K)
  refine wpList_nil ?_
  go_wp2_with fail
  rw [unhide hT]
  exact unhide hZ
theorem clone_any (B : List Int) (a : Option Addr) (n c : Nat) (w : World) (hB0 : Lb w a n c B) (hn : n ≤ 100000) : Calls Tryd.prog 19 #[.slice a n c] w (Infd B w) := by
  cases a with
  | some x => exact clone_some B x n c w hB0 hn
  | none =>
    have hb : B = [] := by
      rcases hB0.sl with e | ⟨p, o, e, _⟩
      · exact e
      · cases e
    subst hb
    have hZ : Hid (Infd [] w (.returned (.slice none 0 0)) w) := ⟨_, rfl, Ob.nil _ w, Gr.refl w⟩
    obtain ⟨T, hT⟩ : ∃ T, T = Infd [] w := ⟨_, rfl⟩
    rw [← hT]
    replace hT := hide hT
    clear hB0
    go_enter Tryd.func19, Tryd.ntmps19
    go_upto_region 1 with fail
    refine wp_region_lit ?_
    refine list_val (.slice none n c) (by kernel_rfl) (by kernel_rfl) ?_
    simp only [nrm]
    refine list_val (.bool true) (by kernel_rfl) (by kernel_rfl) ?_
    simp only [nrm]
    refine wpList_nil ?_
    go_wp2_with fail
    rw [unhide hT]
    exact unhide hZ
structure Kw (w : World) (a : Option Addr) (n c : Nat) (ks : List (List Int)) : Prop where
  len : ks.length = n
  ok : ∀ k ∈ ks, IsK k
  sl : ks = [] ∨ ∃ p o, a = some ⟨p, o, none⟩ ∧ At w p o ks.flatten
  cap : n ≤ c
  max : c < 9223372036854775808
theorem Kw.gr {w v : World} {a : Option Addr} {n c : Nat} {ks : List (List Int)} (h : Kw w a n c ks) (g : Gr w v) : Kw v a n c ks := by
  refine ⟨h.len, h.ok, ?_, h.cap, h.max⟩
  rcases h.sl with h1 | ⟨p, o, h1, h2⟩
  · exact .inl h1
  · exact .inr ⟨p, o, h1, h2.gr g⟩
theorem flat_at : ∀ (ks : List (List Int)) (i j : Nat), (∀ k ∈ ks, IsK k) → i < ks.length → j < 32 → 32 * i + j < ks.flatten.length ∧ ks.flatten.getD (32 * i + j) 0 = (ks.getD i []).getD j 0
  | [], i, j, _, hi, _ => by simp at hi
  | k :: ks, 0, j, h, _, hj => by
    have h1 := (h k (by simp)).1
    refine ⟨by simp; omega, ?_⟩
    rw [List.flatten_cons, Nat.mul_zero, Nat.zero_add, List.getD_eq_getElem?_getD, List.getElem?_append_left (by omega), ← List.getD_eq_getElem?_getD]
    rfl
  | k :: ks, i + 1, j, h, hi, hj => by
    have h1 := (h k (by simp)).1
    have h2 := flat_at ks i j (fun x hx => h x (by simp [hx])) (by simpa using hi) hj
    refine ⟨by rw [List.flatten_cons, List.length_append, h1]; omega, ?_⟩
    rw [List.flatten_cons, List.getD_eq_getElem?_getD, List.getElem?_append_right (by omega), h1, show 32 * (i + 1) + j - 32 = 32 * i + j by omega, ← List.getD_eq_getElem?_getD, h2.2]
    rfl
theorem Kw.key {w : World} {a : Option Addr} {n c : Nat} {ks : List (List Int)} (h : Kw w a n c ks) (i : Nat) (hi : i < n) : IsK (ks.getD i []) := by
  have : i < ks.length := by rw [h.len]; exact hi
  refine h.ok _ ?_
  rw [List.getD_eq_getElem?_getD, List.getElem?_eq_getElem this]
  exact List.getElem_mem _
theorem Kw.row {w : World} {a : Option Addr} {n c : Nat} {ks : List (List Int)} (h : Kw w a n c ks) (i : Nat) (hi : i < n) : ∃ p o, a = some ⟨p, o, none⟩ ∧ w.rangeAt p (o + 32 * i) ((ks.getD i []).map (Value.int .u8)) := by
  have hl : i < ks.length := by rw [h.len]; exact hi
  rcases h.sl with h0 | ⟨p, o, h1, h2⟩
  · rw [h0] at hl
    simp at hl
  · refine ⟨p, o, h1, fun j x hj => ?_⟩
    have hk := (h.key i hi).1
    rw [List.getElem?_map, Option.map_eq_some_iff] at hj
    obtain ⟨y, hy, rfl⟩ := hj
    have hjl : j < 32 := by
      have := (List.getElem?_eq_some_iff.1 hy).1
      omega
    obtain ⟨h3, h4⟩ := flat_at ks i j h.ok hl hjl
    have h5 := h2 (32 * i + j) h3
    rw [h4] at h5
    rw [show o + 32 * i + j = o + (32 * i + j) by omega, h5, List.getD_eq_getElem?_getD, hy]
    rfl
theorem exec_iks {a : Act} {o : Oper} (w : World) (x y : Operand) (ho : o.op = .indexAddr 23 x y) (g q len cap i : Nat) (hx : a.eval x = .slice (some ⟨g, q, none⟩) len cap) (hy : a.eval y = .int .i64 i) (hi : i < len) :
    (execOp a.eval o).run Tryd.prog w = .ok (.value (.pointer (some ⟨g, q + 32 * i, none⟩))) w := by
  have h1 : (i : Int) < (len : Int) := by omega
  unfold execOp
  simp only [ho, hx, hy]
  go_simp
theorem exec_kr {op : Oper} {a : Act} (w : World) (x : Operand) (ho : op.op = .load 34 x) (g q : Nat) (hx : a.eval x = .pointer (some ⟨g, q, none⟩)) (K : List Int) (hK : K.length = 32) (h : w.rangeAt g q (K.map (Value.int .u8))) : (execOp a.eval op).run Tryd.prog w = .ok (.value (.agg (kc K))) w :=
  exec_row w 34 x ho g q hx (K.map (Value.int .u8)) _ h Tryd.underlying34 rfl (by rw [Tryd.infoKey, List.length_map, hK])
def wrL (r : Int) (P : List Int) : List (List Int) → List Int
  | [] => P
  | s :: ss => seO r s tB (wrL r P ss)
theorem wrL_len (r : Int) (P : List Int) : ∀ ss, (wrL r P ss).length = P.length + 16 * ss.length
  | [] => by simp [wrL]
  | s :: ss => by rw [wrL, seO_len, wrL_len r P ss, List.length_cons]; omega
theorem wrL_isB (r : Int) (P : List Int) (h : IsB P) : ∀ ss, IsB (wrL r P ss)
  | [] => h
  | s :: ss => seO_isB _ _ _ _
theorem wrL_drop (r : Int) (P : List Int) (ss : List (List Int)) (i : Nat) (h : i < ss.length) : wrL r P (ss.drop i) = seO r (ss.getD i []) tB (wrL r P (ss.drop (i + 1))) := by
  rw [List.drop_eq_getElem_cons h, wrL, List.getD_eq_getElem?_getD, List.getElem?_eq_getElem h]
  rfl
def Unw (P : List Int) (w : World) (r : Ending) (w' : World) : Prop := ∃ v, r = .returned (.tuple #[v, .int .i64 0]) ∧ Ob w.heap.size w' v P ∧ Gr w w'
set_option maxHeartbeats 4000000 in
theorem unwrap_yes (r : Int) (hr : 0 ≤ r) (ss : List (List Int)) (P : List Int) (hP : IsB P) (a s : Option Addr) (n c m cm : Nat) (hm : m ≤ 20000) (w : World) (hF : Fst w) (lk : Kw w a n c ss) (ls : Lb w s m cm (wrL r P ss)) : Calls Tryd.prog 11 #[.int .u64 r, .slice a n c, .slice s m cm] w (Unw P w) := by
  obtain ⟨T, hT⟩ : ∃ T, T = Unw P w := ⟨_, rfl⟩
  rw [← hT]
  replace hT := hide hT
  have hkn := lk.len
  have hmx := lk.max
  have hcn := lk.cap
  have hPm : P.length + 16 * ss.length = m := by rw [← wrL_len r P ss]; exact ls.len
  replace hF := hide hF
  replace lk := hide lk
  replace ls := hide ls
  replace hP := hide hP
  replace hkn := hide hkn
  replace hPm := hide hPm
  go_enter Tryd.func11, Tryd.ntmps11
  refine wp_seq ?_
  go_wp2_with fail
  refine wp_scope_straight ?_
  go_upto_region 1 with fail
  refine wp_region_lit ?_
  refine list_val (.slice s m cm) (by kernel_rfl) (by kernel_rfl) ?_
  simp only [nrm]
  refine list_call 19 #[.slice s m cm] (by kernel_rfl) (by kernel_rfl) ((clone_any (wrL r P ss) s m cm w (unhide ls) (by omega)).mono ?_)
  rintro r_ u1 ⟨v1, rfl, hO, hG⟩
  refine ⟨_, rfl, ?_⟩
  simp only [nrm]
  (refine wpList_step fun K hK => ?_; replace hK := hide hK; go_simp; refine unhide hK _ _ ?_; clear hK K)
  (refine wpList_step fun K hK => ?_; replace hK := hide hK; go_simp; refine unhide hK _ _ ?_; clear hK K)
  refine wpList_nil ?_
  have hI0 : Hid (Ob w.heap.size u1 v1 (wrL r P (ss.drop 0)) ∧ Gr w u1) := ⟨hO, hG⟩
  clear hO hG ls
  go_upto_region 2 with fail
  refine wp_label ?_
  go_upto_region 2 with fail
  refine wp_region_lit ?_
  refine list_val (.slice a n c) (by kernel_rfl) (by kernel_rfl) ?_
  simp only [nrm]
  refine list_val (.int .i64 (n : Int)) (by kernel_rfl) (by kernel_rfl) ?_
  simp only [nrm]
  refine list_val (.int .i64 0) (by kernel_rfl) (by kernel_rfl) ?_
  simp only [nrm]
  refine wpList_nil ?_
  go_wp2_with fail
  go_loopw [8, 9, 16] (fun v e i wr => ∃ (j : Nat) (v' : Value), j ≤ n ∧ v' = v ∧ e = .int .i64 0 ∧ i = .int .i64 (j : Int) ∧ Hid (Ob w.heap.size wr v' (wrL r P (ss.drop j)) ∧ Gr w wr)) (fun _ _ i _ => n - (intOf i).toNat)
  case atStart => exact ⟨0, _, by omega, rfl, rfl, rfl, hI0⟩
  case round =>
  clear hI0
  obtain ⟨j, v', hj, rfl, rfl, rfl, hA⟩ := hrel
  obtain ⟨hO, hG⟩ := unhide hA
  clear hA
  by_cases hlt : j < n
  · skip
    have jI : (j : Int) < (n : Int) := by omega
    have hjk : j < ss.length := by rw [unhide hkn]; exact hlt
    obtain ⟨hkl, hkb⟩ := (unhide lk).key j hlt
    obtain ⟨p, q, ea, hrg⟩ := ((unhide lk).gr hG).row j hlt
    rw [wrL_drop r P ss j hjk] at hO
    have hln : (wrL r P (ss.drop (j + 1))).length + 16 ≤ m := by
      have := unhide hPm
      rw [wrL_len, List.length_drop]
      omega
    obtain ⟨KJ, hKJ⟩ : ∃ K, K = ss.getD j [] := ⟨_, rfl⟩
    rw [← hKJ] at hkl hkb hrg hO
    clear hKJ
    obtain ⟨a8, c8, rfl, l8⟩ := hO.lb (seO_isB _ _ _ _)
    rw [seO_len] at l8 ⊢
    obtain ⟨PP, hPP⟩ : ∃ P', P' = wrL r P (ss.drop (j + 1)) := ⟨_, rfl⟩
    have hPb : IsB PP := by rw [hPP]; exact wrL_isB r P (unhide hP) _
    rw [← hPP] at l8 hO hln ⊢
    obtain ⟨n8, hn8⟩ : ∃ n, n = PP.length + 16 := ⟨_, rfl⟩
    rw [← hn8] at l8 hln ⊢
    have hPl : PP.length ≤ 20000 := by omega
    clear hO hn8
    replace hG := hide hG; replace hrg := hide hrg; replace hkb := hide hkb; replace l8 := hide l8; replace hPP := hide hPP; replace hPb := hide hPb; replace ea := hide ea
    go_upto_region 4 with fail
    refine wp_region_lit ?_
    refine list_val (.pointer (some ⟨p, q + 32 * j, none⟩)) (by kernel_rfl) (exec_iks _ (.tmp 14) (.tmp 16) rfl p q n c j (by rw [← unhide ea]; kernel_rfl) (by kernel_rfl) hlt) ?_
    simp only [nrm]
    refine list_val (.agg (kc KJ)) (by kernel_rfl) (exec_kr _ (.tmp 18) rfl p (q + 32 * j) (by kernel_rfl) KJ hkl (unhide hrg)) ?_
    simp only [nrm]
    refine list_valw (.pointer (some ⟨wr.heap.size, 0, none⟩)) (wr.alloc (.cells (kc ZK) 34 (0, 0))) (by kernel_rfl) (by kernel_rfl) ?_
    have hB := (Bl.nil wr).new (kc ZK) 34
    simp only [List.nil_append] at hB
    generalize World.alloc _ _ = y1 at *
    generalize wr.heap.size = gk at *
    replace hB : Bl wr [⟨gk, kc ZK, 34⟩] y1 := hB
    simp only [nrm]
    refine list_store 34 (.tmp 11) (.tmp 19) gk (kc KJ) 34 (kc ZK) (by kernel_rfl) rfl (by kernel_rfl) (by kernel_rfl) (hB.get 0 (x := ⟨gk, kc ZK, 34⟩) rfl) (by rw [Tryd.infoKey, kc_size, hkl]) (by rw [kc_size, kc_size, hkl]; rfl) (kc_one _) ?_
    replace hB := hB.set 0 (x := ⟨gk, kc ZK, 34⟩) rfl (kc KJ)
    simp only [List.set_cons_zero] at hB
    generalize World.setRow _ _ _ = y2 at *
    replace hB : Bl wr [⟨gk, kc KJ, 34⟩] y2 := hB
    simp only [nrm]
    refine wpList_nil ?_
    replace hB := hide hB
    go_upto_region 5 with fail
    replace hB := unhide hB
    refine wp_region_lit ?_
    refine list_val (.int .u64 r) (by kernel_rfl) (by kernel_rfl) ?_
    simp only [nrm]
    refine list_val (.agg (kc KJ)) (by kernel_rfl) (exec_arr _ 34 (.tmp 11) rfl (gk) (by kernel_rfl) (kc KJ) 34 _ (hB.get 0 (x := ⟨gk, kc KJ, 34⟩) rfl) Tryd.underlying34 rfl (by rw [Tryd.infoKey, kc_size, hkl])) ?_
    simp only [nrm]
    refine list_val (.slice a8 n8 c8) (by kernel_rfl) (by kernel_rfl) ?_
    simp only [nrm]
    refine list_call 17 #[.int .u64 r, .agg (kc KJ), .string tB, .slice a8 n8 c8] (by kernel_rfl) (by kernel_rfl) ((nopen_yes r hr KJ hkl (unhide hkb) tB (by decide) PP (unhide hPb) a8 n8 c8 (by omega) y2 ((unhide hF).gr ((unhide hG).trans hB.gr)) ((unhide l8).gr hB.gr)).mono ?_)
    rintro r_ y3 ⟨g3, rfl, hg3, hb3, hg⟩
    have hsz := ((unhide hG).trans hB.gr).size
    have hI2 : Hid (Ob w.heap.size y3 (.slice (some ⟨g3, 0, none⟩) PP.length PP.length) (wrL r P (ss.drop (j + 1))) ∧ Gr w y3) := ⟨by rw [← unhide hPP]; exact ob_of hb3 rfl (by omega) (by omega), (unhide hG).trans (hB.gr.trans hg)⟩
    clear hg hb3 hg3 hB hsz
    refine ⟨_, rfl, ?_⟩
    simp only [nrm]
    refine list_val (.tuple #[.slice (some ⟨g3, 0, none⟩) PP.length PP.length, .int .i64 0]) (by kernel_rfl) (by kernel_rfl) ?_
    simp only [nrm]
    refine list_val (.slice (some ⟨g3, 0, none⟩) PP.length PP.length) (by kernel_rfl) (by kernel_rfl) ?_
    simp only [nrm]
    refine list_val (.int .i64 0) (by kernel_rfl) (by kernel_rfl) ?_
    simp only [nrm]
    (refine wpList_step fun K hK => ?_; replace hK := hide hK; go_simp; refine unhide hK _ _ ?_; clear hK K)
    (refine wpList_step fun K hK => ?_; replace hK := hide hK; go_simp; refine unhide hK _ _ ?_; clear hK K)
    refine wpList_nil ?_
    have ej : IntKind.i64.wrap ((j : Int) + 1) = ((j + 1 : Nat) : Int) := by rw [IntKind.wrap_i64]; omega
    go_wp2_with fail
    go_roundw
    case rel => exact ⟨j + 1, _, by omega, rfl, rfl, by go_num, hI2⟩
    case measure => simp [intOf]; omega
  · skip
    obtain rfl : j = n := by omega
    have jI : ¬ (j : Int) < (j : Int) := by omega
    rw [List.drop_of_length_le (by rw [unhide hkn]; exact Nat.le_refl _)] at hO
    have hZ : Hid (Unw P w (.returned (.tuple #[v', .int .i64 0])) wr) := ⟨v', rfl, hO, hG⟩
    clear hO hG
    go_wp2_with fail
    rw [unhide hT]
    exact unhide hZ
end Go.Proofs.YtgabkfleidpipaaDoor
