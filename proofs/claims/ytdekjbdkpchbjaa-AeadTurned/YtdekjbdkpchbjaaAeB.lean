/-
  What once, the closure that fills, and Tag answer.
-/
import Derived.Test.YtdekjbdkpchbjaaAeA
namespace Go.Proofs.Ytdekjbdkpchbjaa
open Go.RowKit
set_option maxRecDepth 100000
set_option linter.unusedSimpArgs false
set_option linter.unusedVariables false
def ZK : List Int := List.replicate 32 0
def ZN : List Int := List.replicate 12 0
theorem lay_all (C S : List Int) (h : S.length = C.length) : lay C 0 S = S := by
  unfold lay
  rw [List.take_zero, List.nil_append, Nat.zero_add, List.drop_of_length_le (by omega), List.append_nil]
theorem exec_ptr {op : Oper} {a : Act} (w : World) (x : Operand) (ho : op.op = .load 49 x) (g i : Nat) (hx : a.eval x = .pointer (some ⟨g, i, none⟩)) (p : Option Addr) (hc : w.cell? ⟨g, i, none⟩ = some (.pointer p)) : (execOp a.eval op).run Try.prog w = .ok (.value (.pointer p)) w := by
  unfold execOp
  simp only [ho, hx, Instr.loadAt, Instr.sureAddr, Sem.run_bind, Sem.run_pure, Result.andThen_ok]
  go_simp
theorem Cd.keep {K : List Int} {g : Nat} {L : List Int} {w v : World} (h : Cd K g L w) (e : v.heap[g]? = w.heap[g]?) : Cd K g L v := by
  obtain ⟨l, S, M, A, hH, hr⟩ := h
  exact ⟨l, S, M, A, ⟨hH.1, e.trans hH.2⟩, hr⟩
/-- a Code is no block of another type -/
theorem Cd.ne {K : List Int} {g : Nat} {L : List Int} {w : World} (h : Cd K g L w) {b : Nat} {c : Array Value} {t : TypeId} (hb : w.heap[b]? = some (.cells c t (0, 0))) (ht : t ≠ 71) : b ≠ g := by
  obtain ⟨l, S, M, A, hH, _⟩ := h
  intro e
  have h2 := hH.2
  rw [← e, hb] at h2
  simp only [Option.some.injEq, Obj.cells.injEq] at h2
  exact ht h2.2.1
theorem Bl.beside {K : List Int} {w u v : World} {L : List Blk} {g : Nat} {M : List Int} (h : Bl w L u) (hC : Cd K g M u) (k : Bt g u v) (hg : w.heap.size ≤ g) (ht : ∀ x ∈ L, x.t ≠ 71) : Bl w L v :=
  ⟨k.gr h.gr hg, fun x hx => ⟨k.blk (h.at_ x hx).1 (hC.ne (h.at_ x hx).1 (ht x hx)), (h.at_ x hx).2⟩, h.ne⟩
set_option maxHeartbeats 4000000 in
theorem once_ok (K N : List Int) (hK : K.length = 32) (hN : N.length = 12) (hKb : IsB K) (hNb : IsB N) (w : World) : Calls Try.prog 26 #[.agg (kc K), .agg (kc N)] w (Tg (otk K N) w) := by
  obtain ⟨T, hT⟩ : ∃ T, T = Tg (otk K N) w := ⟨_, rfl⟩
  rw [← hT]
  replace hT := hide hT
  obtain ⟨SK, hSK⟩ : ∃ S, S = kc K := ⟨_, rfl⟩
  obtain ⟨SN, hSN⟩ : ∃ S, S = kc N := ⟨_, rfl⟩
  rw [← hSK, ← hSN]
  replace hSK := hide hSK
  replace hSN := hide hSN
  replace hKb := hide hKb
  replace hNb := hide hNb
  go_enter Try.func26, Try.ntmps26
  go_upto_region 2 with fail
  have hB := (((((Bl.nil w).new SK 23).new SN 25).new #[.int .u8 0, .int .u8 0, .int .u8 0, .int .u8 0, .int .u8 0, .int .u8 0, .int .u8 0, .int .u8 0, .int .u8 0, .int .u8 0, .int .u8 0, .int .u8 0, .int .u8 0, .int .u8 0, .int .u8 0, .int .u8 0, .int .u8 0, .int .u8 0, .int .u8 0, .int .u8 0, .int .u8 0, .int .u8 0, .int .u8 0, .int .u8 0, .int .u8 0, .int .u8 0, .int .u8 0, .int .u8 0, .int .u8 0, .int .u8 0, .int .u8 0, .int .u8 0] 23).new #[.int .u8 0, .int .u8 0, .int .u8 0, .int .u8 0, .int .u8 0, .int .u8 0, .int .u8 0, .int .u8 0, .int .u8 0, .int .u8 0, .int .u8 0, .int .u8 0, .int .u8 0, .int .u8 0, .int .u8 0, .int .u8 0, .int .u8 0, .int .u8 0, .int .u8 0, .int .u8 0, .int .u8 0, .int .u8 0, .int .u8 0, .int .u8 0, .int .u8 0, .int .u8 0, .int .u8 0, .int .u8 0, .int .u8 0, .int .u8 0, .int .u8 0, .int .u8 0] 23)
  simp only [size_alloc, List.nil_append, List.cons_append] at hB
  generalize World.alloc _ _ = u at *
  rw [unhide hSK, unhide hSN] at hB
  replace hB : Bl w [⟨w.heap.size, kc K, 23⟩, ⟨w.heap.size + 1, kc N, 25⟩, ⟨w.heap.size + 1 + 1, kc ZK, 23⟩, ⟨w.heap.size + 1 + 1 + 1, kc ZK, 23⟩] u := hB
  refine wp_region_lit ?_
  refine list_val (.agg (kc K)) (by kernel_rfl) (exec_arr _ 23 (.tmp 2) rfl (w.heap.size) (by kernel_rfl) (kc K) 23 _ (hB.get 0 (x := ⟨w.heap.size, kc K, 23⟩) rfl) Try.underlying23 rfl (by rw [Try.infoKey, kc_size, hK])) ?_
  simp only [Act.put, List.setIfInBounds_toArray, List.set_cons_zero, List.set_cons_succ, List.getElem_toArray, List.getElem_cons_zero, List.getElem_cons_succ]
  refine list_val (.agg (kc N)) (by kernel_rfl) (exec_arr _ 25 (.tmp 3) rfl (w.heap.size + 1) (by kernel_rfl) (kc N) 25 _ (hB.get 1 (x := ⟨w.heap.size + 1, kc N, 25⟩) rfl) Try.underlying25 rfl (by rw [Try.infoN, kc_size, hN])) ?_
  simp only [Act.put, List.setIfInBounds_toArray, List.set_cons_zero, List.set_cons_succ, List.getElem_toArray, List.getElem_cons_zero, List.getElem_cons_succ]
  refine list_call 39 #[.agg (kc K), .int .u32 0, .agg (kc N)] (by kernel_rfl) (by kernel_rfl) ((block_ok K N hK hN (unhide hKb) (unhide hNb) 0 _).mono ?_)
  rintro r u1 ⟨rfl, hg⟩
  refine ⟨_, rfl, ?_⟩
  replace hB := hB.more hg
  clear hg
  obtain ⟨D, hD⟩ : ∃ D, D = bk K N 0 := ⟨_, rfl⟩
  rw [← hD]
  have hDl : D.length = 64 := by rw [hD, bk_len]
  replace hD := hide hD
  simp only [Act.put, List.setIfInBounds_toArray, List.set_cons_zero, List.set_cons_succ, List.getElem_toArray, List.getElem_cons_zero, List.getElem_cons_succ]
  replace hB := hide hB
  (refine wpList_step fun K hK => ?_; replace hK := hide hK; go_simp; refine unhide hK _ _ ?_; clear hK K)
  replace hB := (unhide hB).new #[.int .u8 0, .int .u8 0, .int .u8 0, .int .u8 0, .int .u8 0, .int .u8 0, .int .u8 0, .int .u8 0, .int .u8 0, .int .u8 0, .int .u8 0, .int .u8 0, .int .u8 0, .int .u8 0, .int .u8 0, .int .u8 0, .int .u8 0, .int .u8 0, .int .u8 0, .int .u8 0, .int .u8 0, .int .u8 0, .int .u8 0, .int .u8 0, .int .u8 0, .int .u8 0, .int .u8 0, .int .u8 0, .int .u8 0, .int .u8 0, .int .u8 0, .int .u8 0, .int .u8 0, .int .u8 0, .int .u8 0, .int .u8 0, .int .u8 0, .int .u8 0, .int .u8 0, .int .u8 0, .int .u8 0, .int .u8 0, .int .u8 0, .int .u8 0, .int .u8 0, .int .u8 0, .int .u8 0, .int .u8 0, .int .u8 0, .int .u8 0, .int .u8 0, .int .u8 0, .int .u8 0, .int .u8 0, .int .u8 0, .int .u8 0, .int .u8 0, .int .u8 0, .int .u8 0, .int .u8 0, .int .u8 0, .int .u8 0, .int .u8 0, .int .u8 0] 56
  simp only [List.nil_append, List.cons_append] at hB
  generalize World.alloc _ _ = u2 at *
  generalize u1.heap.size = h6 at *
  replace hB : Bl w [⟨w.heap.size, kc K, 23⟩, ⟨w.heap.size + 1, kc N, 25⟩, ⟨w.heap.size + 1 + 1, kc ZK, 23⟩, ⟨w.heap.size + 1 + 1 + 1, kc ZK, 23⟩, ⟨h6, kc Z64, 56⟩] u2 := hB
  refine list_store 56 (.tmp 6) (.tmp 9) (h6) (kc D) 56 (kc Z64) (by kernel_rfl) rfl (by kernel_rfl) (by kernel_rfl) (hB.get 4 (x := ⟨h6, kc Z64, 56⟩) rfl) (by rw [Try.info64, kc_size, hDl]) ((show (kc Z64).size = 64 from rfl).trans ((kc_size _).trans hDl).symm) (kc_one _) ?_
  replace hB := hB.set 4 (x := ⟨h6, kc Z64, 56⟩) rfl (kc D)
  simp only [List.set_cons_zero, List.set_cons_succ] at hB
  generalize World.setRow _ _ _ = u3 at *
  simp only [Act.put, List.setIfInBounds_toArray, List.set_cons_zero, List.set_cons_succ, List.getElem_toArray, List.getElem_cons_zero, List.getElem_cons_succ]
  refine wpList_nil ?_
  replace hB := hide hB
  go_upto_region 3 with fail
  replace hB := unhide hB
  refine any_start (S := fun _ => True) (by kernel_rfl) ?_
  replace hB := hB.drew
  generalize World.drew _ = x0 at *
  simp only [List.size_toArray, List.length_cons, List.length_nil, Array.replicate, List.replicate]
  refine any_take (i := 0) (v := (.slice (some ⟨w.heap.size + 1 + 1 + 1, 0, none⟩) 32 32)) #[false, false, false] rfl (by kernel_rfl) (by kernel_rfl) (by kernel_rfl) (by kernel_rfl) (fun _ _ _ h => h) (.inl ⟨by kernel_rfl, fun x_ hu => by kernel_rfl⟩) trivial ?_
  simp only [Act.put, List.setIfInBounds_toArray, List.set_cons_zero, List.set_cons_succ, List.getElem_toArray, List.getElem_cons_zero, List.getElem_cons_succ]
  refine any_take (i := 1) (v := (.slice (some ⟨h6, 0, none⟩) 64 64)) #[true, false, false] rfl (by kernel_rfl) (by kernel_rfl) (by kernel_rfl) (by kernel_rfl) (fun _ _ _ h => h) (.inl ⟨by kernel_rfl, fun x_ hu => by kernel_rfl⟩) trivial ?_
  simp only [Act.put, List.setIfInBounds_toArray, List.set_cons_zero, List.set_cons_succ, List.getElem_toArray, List.getElem_cons_zero, List.getElem_cons_succ]
  refine any_one (i := 2) (by kernel_rfl) rfl (fun K_ hQ => ?_)
  rw [if_pos (by kernel_rfl)]
  obtain ⟨E, hE⟩ : ∃ E, E = D.take 32 := ⟨_, rfl⟩
  have hEl : E.length = 32 := by rw [hE, List.length_take, hDl]; rfl
  refine copy_wp (.tmp 10) (.tmp 11) rfl (w.heap.size + 1 + 1 + 1) 0 32 32 (some ⟨h6, 0, none⟩) 64 64 (by kernel_rfl) (by kernel_rfl) (ZK.map (Value.int .u8)) 23 (hB.get 3 (x := ⟨w.heap.size + 1 + 1 + 1, kc ZK, 23⟩) rfl) E (by rw [hEl]; rfl) (.inr ⟨h6, 0, rfl, by rw [hE]; exact (kc_at (hB.get 4 (x := ⟨h6, kc D, 56⟩) rfl)).take 32⟩) (by rw [hEl]; exact Nat.le_refl _) ?_
  have hcell := laid (S := E) (o := 0) (hB.get 3 (x := ⟨w.heap.size + 1 + 1 + 1, kc ZK, 23⟩) rfl) (by rw [hEl]; exact Nat.le_refl _)
  rw [lay_all ZK E hEl] at hcell
  have hB2 := hB.but (setCells_bt (E.map (Value.int .u8)) x0 (w.heap.size + 1 + 1 + 1) 0) 3 (x := ⟨w.heap.size + 1 + 1 + 1, kc ZK, 23⟩) rfl rfl hcell
  simp only [List.set_cons_zero, List.set_cons_succ] at hB2
  clear hcell hB
  generalize World.setCells _ _ _ _ = x1 at *
  refine hQ.out _ _ trivial (fun _ => ?_)
  clear hQ K_
  simp only [Act.put, List.setIfInBounds_toArray, List.set_cons_zero, List.set_cons_succ, List.getElem_toArray, List.getElem_cons_zero, List.getElem_cons_succ]
  refine any_done (by kernel_rfl) ?_
  rw [hEl]
  replace hB2 := hide hB2
  go_upto_region 4 with fail
  have hB := unhide hB2
  clear hB2
  refine wp_region_lit ?_
  refine list_val (.agg (kc E)) (by kernel_rfl) (exec_arr _ 23 (.tmp 5) rfl (w.heap.size + 1 + 1 + 1) (by kernel_rfl) (kc E) 23 _ (hB.get 3 (x := ⟨w.heap.size + 1 + 1 + 1, kc E, 23⟩) rfl) Try.underlying23 rfl (by rw [Try.infoKey, kc_size, hEl])) ?_
  simp only [Act.put, List.setIfInBounds_toArray, List.set_cons_zero, List.set_cons_succ, List.getElem_toArray, List.getElem_cons_zero, List.getElem_cons_succ]
  refine list_store 23 (.tmp 4) (.tmp 13) (w.heap.size + 1 + 1) (kc E) 23 (kc ZK) (by kernel_rfl) rfl (by kernel_rfl) (by kernel_rfl) (hB.get 2 (x := ⟨w.heap.size + 1 + 1, kc ZK, 23⟩) rfl) (by rw [Try.infoKey, kc_size, hEl]) ((show (kc ZK).size = 32 from rfl).trans ((kc_size _).trans hEl).symm) (kc_one _) ?_
  replace hB := hB.set 2 (x := ⟨w.heap.size + 1 + 1, kc ZK, 23⟩) rfl (kc E)
  simp only [List.set_cons_zero, List.set_cons_succ] at hB
  generalize World.setRow _ _ _ = x2 at *
  simp only [Act.put, List.setIfInBounds_toArray, List.set_cons_zero, List.set_cons_succ, List.getElem_toArray, List.getElem_cons_zero, List.getElem_cons_succ]
  refine wpList_nil ?_
  have hE2 : E = otk K N := by rw [hE, unhide hD]; rfl
  clear hE
  replace hB := hide hB
  go_wp2_with fail
  replace hB := unhide hB
  rw [unhide hT]
  exact bodyPost_ret (v := .agg (kc E)) (results_cell_row Try.results26 _ _ (w.heap.size + 1 + 1) 23 (kc E) (0, 0) _ rfl (hB.get 2 (x := ⟨w.heap.size + 1 + 1, kc E, 23⟩) rfl) Try.underlying23 rfl (by rw [Try.infoKey, kc_size, hEl])) rfl (⟨by rw [hE2], hB.gr⟩)
/-- what the closure answers and leaves -/
def Filled (K : List Int) (g : Nat) (L : List Int) (w : World) (r : Ending) (w' : World) : Prop := r = .returned (.tuple #[]) ∧ Cd K g L w' ∧ Bt g w w'
theorem zt_lb {v : World} {g : Nat} (h : v.heap[g]? = some (.cells (kc ZT) 40 (0, 0))) (n : Nat) (hn : n < 16) : Lb v (some ⟨g, 0, none⟩) n 16 (List.replicate n 0) := by
  refine ⟨by simp, rep_isB n, .inr ⟨g, 0, rfl, ?_⟩, by omega, by omega⟩
  have h1 := (kc_at h).take n
  have e : ZT.take n = List.replicate n 0 := by
    unfold ZT
    rw [List.take_replicate, Nat.min_eq_left (by omega)]
  rw [e] at h1
  exact h1
set_option maxHeartbeats 4000000 in
theorem fill_ok (K L P : List Int) (g gv : Nat) (s : Option Addr) (n cap : Nat) (w : World) (hC : Cd K g L w) (hv : w.heap[gv]? = some (.cells #[.pointer (some ⟨g, 0, none⟩)] 49 (0, 0))) (lb : ∀ v, Bt g w v → Lb v s n cap P) : Calls Try.prog 27 #[.slice s n cap, .pointer (some ⟨gv, 0, none⟩)] w (Filled K g (L ++ pd P) w) := by
  obtain ⟨T, hT⟩ : ∃ T, T = Filled K g (L ++ pd P) w := ⟨_, rfl⟩
  rw [← hT]
  replace hT := hide hT
  have hlb := lb w (Bt.refl g w)
  have hPl := hlb.len
  have hmx : (n : Int) < 9223372036854775808 := by have h1 := hlb.cap; have h2 := hlb.max; omega
  clear hlb
  obtain ⟨m, hm⟩ : ∃ m, m = padz n := ⟨_, rfl⟩
  have hm16 : m < 16 := by rw [hm]; exact padz_lt n
  obtain ⟨r1, hr1⟩ : ∃ r, r = n % 16 := ⟨_, rfl⟩
  have hr16 : r1 < 16 := by omega
  have e1 : Int.tmod (n : Int) 16 = (r1 : Int) := by rw [Int.tmod_eq_emod_of_nonneg (by omega)]; omega
  obtain ⟨r2, hr2⟩ : ∃ r, r = 16 - r1 := ⟨_, rfl⟩
  have e2 : (16 : Int) - (r1 : Int) = (r2 : Int) := by omega
  have e4 : IntKind.i64.wrap (r2 : Int) = (r2 : Int) := by rw [IntKind.wrap_i64]; omega
  have e3 : Int.tmod (r2 : Int) 16 = (m : Int) := by rw [Int.tmod_eq_emod_of_nonneg (by omega)]; rw [hm]; unfold padz; omega
  have m16 : (m : Int) ≤ 16 := by omega
  replace hm := hide hm
  replace hr1 := hide hr1
  replace hr2 := hide hr2
  replace hC := hide hC; replace lb := hide lb; replace hv := hide hv; replace hPl := hide hPl
  go_enter Try.func27, Try.ntmps27
  go_upto_region 1 with fail
  have hg := (Gr.refl w).alloc (.cells #[.int .u8 0, .int .u8 0, .int .u8 0, .int .u8 0, .int .u8 0, .int .u8 0, .int .u8 0, .int .u8 0, .int .u8 0, .int .u8 0, .int .u8 0, .int .u8 0, .int .u8 0, .int .u8 0, .int .u8 0, .int .u8 0] 40 (0, 0))
  have hz := blk_new w (.cells #[.int .u8 0, .int .u8 0, .int .u8 0, .int .u8 0, .int .u8 0, .int .u8 0, .int .u8 0, .int .u8 0, .int .u8 0, .int .u8 0, .int .u8 0, .int .u8 0, .int .u8 0, .int .u8 0, .int .u8 0, .int .u8 0] 40 (0, 0))
  generalize World.alloc _ _ = u at *
  replace hz : u.heap[w.heap.size]? = some (.cells (kc ZT) 40 (0, 0)) := hz
  have hC1 := (unhide hC).gr hg
  have hv1 := hg.blk (unhide hv)
  have hne := hC1.ne hv1 (by decide)
  have hnz := hC1.ne hz (by decide)
  have bt := hg.bt g
  clear hg hC hv
  refine wp_region_lit ?_
  refine list_val (.pointer (some ⟨g, 0, none⟩)) (by kernel_rfl) (exec_ptr _ (.tmp 1) rfl gv 0 (by kernel_rfl) (some ⟨g, 0, none⟩) (cell_of hv1 rfl)) ?_
  simp only [Act.put, List.setIfInBounds_toArray, List.set_cons_zero, List.set_cons_succ, List.getElem_toArray, List.getElem_cons_zero, List.getElem_cons_succ]
  refine list_val (.slice s n cap) (by kernel_rfl) (by kernel_rfl) ?_
  simp only [Act.put, List.setIfInBounds_toArray, List.set_cons_zero, List.set_cons_succ, List.getElem_toArray, List.getElem_cons_zero, List.getElem_cons_succ]
  refine list_call 28 #[.pointer (some ⟨g, 0, none⟩), .slice s n cap] (by kernel_rfl) (by kernel_rfl) ((write_ok K L P g s n cap _ hC1 (fun v h => (unhide lb) v (bt.trans h))).mono ?_)
  rintro r u2 ⟨rfl, hC2, hb⟩
  refine ⟨_, rfl, ?_⟩
  have hv2 := hb.blk hv1 hne
  have hz2 := hb.blk hz hnz
  replace bt := bt.trans hb
  clear hb hC1 hv1 hz
  simp only [Act.put, List.setIfInBounds_toArray, List.set_cons_zero, List.set_cons_succ, List.getElem_toArray, List.getElem_cons_zero, List.getElem_cons_succ]
  refine wpList_nil ?_
  replace bt := hide bt; replace hC2 := hide hC2; replace hv2 := hide hv2; replace hz2 := hide hz2
  go_upto_region 2 with fail
  replace bt := unhide bt; replace hC2 := unhide hC2; replace hv2 := unhide hv2; replace hz2 := unhide hz2
  refine any_start (S := fun v => v.heap[gv]? = some (.cells #[.pointer (some ⟨g, 0, none⟩)] 49 (0, 0))) (by kernel_rfl) ?_
  replace hC2 := hC2.gr (Gr.refl _).drew
  replace bt := bt.trans ((Gr.refl _).drew.bt g)
  replace hz2 : (World.drew _).heap[w.heap.size]? = some (.cells (kc ZT) 40 (0, 0)) := hz2
  replace hv2 : (World.drew _).heap[gv]? = some (.cells #[.pointer (some ⟨g, 0, none⟩)] 49 (0, 0)) := hv2
  generalize World.drew _ = x0 at *
  simp only [List.size_toArray, List.length_cons, List.length_nil, Array.replicate, List.replicate]
  refine any_take (i := 0) (v := (.pointer (some ⟨g, 0, none⟩))) #[false, false, false, false, false, false, false, false] rfl (by kernel_rfl) (by kernel_rfl) (by kernel_rfl) (by kernel_rfl) (fun _ _ _ h => h) (.inl ⟨by kernel_rfl, fun x_ hu => exec_ptr _ (.tmp 1) rfl gv 0 (by kernel_rfl) (some ⟨g, 0, none⟩) (cell_of hu rfl)⟩) hv2 ?_
  simp only [Act.put, List.setIfInBounds_toArray, List.set_cons_zero, List.set_cons_succ, List.getElem_toArray, List.getElem_cons_zero, List.getElem_cons_succ]
  refine any_take (i := 1) (v := (.slice s n cap)) #[true, false, false, false, false, false, false, false] rfl (by kernel_rfl) (by kernel_rfl) (by kernel_rfl) (by kernel_rfl) (fun _ _ _ h => h) (.inl ⟨by kernel_rfl, fun x_ hu => by kernel_rfl⟩) hv2 ?_
  simp only [Act.put, List.setIfInBounds_toArray, List.set_cons_zero, List.set_cons_succ, List.getElem_toArray, List.getElem_cons_zero, List.getElem_cons_succ]
  refine any_take (i := 2) (v := (.int .i64 n)) #[true, true, false, false, false, false, false, false] rfl (by kernel_rfl) (by kernel_rfl) (by kernel_rfl) (by kernel_rfl) (fun _ _ _ h => h) (.inl ⟨by kernel_rfl, fun x_ hu => by kernel_rfl⟩) hv2 ?_
  simp only [Act.put, List.setIfInBounds_toArray, List.set_cons_zero, List.set_cons_succ, List.getElem_toArray, List.getElem_cons_zero, List.getElem_cons_succ]
  refine any_take (i := 3) (v := (.int .i64 r1)) #[true, true, true, false, false, false, false, false] rfl (by kernel_rfl) (by kernel_rfl) (by kernel_rfl) (by kernel_rfl) (fun _ _ _ h => h) (.inl ⟨by kernel_rfl, fun x_ hu => by go_simp⟩) hv2 ?_
  simp only [Act.put, List.setIfInBounds_toArray, List.set_cons_zero, List.set_cons_succ, List.getElem_toArray, List.getElem_cons_zero, List.getElem_cons_succ]
  refine any_take (i := 4) (v := (.int .i64 r2)) #[true, true, true, true, false, false, false, false] rfl (by kernel_rfl) (by kernel_rfl) (by kernel_rfl) (by kernel_rfl) (fun _ _ _ h => h) (.inl ⟨by kernel_rfl, fun x_ hu => by go_simp⟩) hv2 ?_
  simp only [Act.put, List.setIfInBounds_toArray, List.set_cons_zero, List.set_cons_succ, List.getElem_toArray, List.getElem_cons_zero, List.getElem_cons_succ]
  refine any_take (i := 5) (v := (.int .i64 m)) #[true, true, true, true, true, false, false, false] rfl (by kernel_rfl) (by kernel_rfl) (by kernel_rfl) (by kernel_rfl) (fun _ _ _ h => h) (.inl ⟨by kernel_rfl, fun x_ hu => by go_simp⟩) hv2 ?_
  simp only [Act.put, List.setIfInBounds_toArray, List.set_cons_zero, List.set_cons_succ, List.getElem_toArray, List.getElem_cons_zero, List.getElem_cons_succ]
  refine any_take (i := 6) (v := (.slice (some ⟨w.heap.size, 0, none⟩) m 16)) #[true, true, true, true, true, true, false, false] rfl (by kernel_rfl) (by kernel_rfl) (by kernel_rfl) (by kernel_rfl) (fun _ _ _ h => h) (.inl ⟨by kernel_rfl, fun x_ hu => by go_simp⟩) hv2 ?_
  simp only [Act.put, List.setIfInBounds_toArray, List.set_cons_zero, List.set_cons_succ, List.getElem_toArray, List.getElem_cons_zero, List.getElem_cons_succ]
  refine any_one (i := 7) (by kernel_rfl) rfl (fun K_ hQ => ?_)
  refine step_callw (by kernel_rfl) 28 #[.pointer (some ⟨g, 0, none⟩), .slice (some ⟨w.heap.size, 0, none⟩) m 16] (by kernel_rfl) ((write_ok K (L ++ P) (List.replicate m 0) g _ m 16 _ hC2 (fun v h => zt_lb (h.blk hz2 hnz) m hm16)).mono ?_)
  rintro r u4 ⟨rfl, hC4, hb⟩
  refine ⟨_, rfl, ?_⟩
  have hv4 := hb.blk hv2 hne
  replace bt := bt.trans hb
  clear hb hC2 hz2 hv2
  have hv2 := hv4
  refine hQ.out _ _ hv2 (fun _ => ?_)
  clear hQ K_
  simp only [Act.put, List.setIfInBounds_toArray, List.set_cons_zero, List.set_cons_succ, List.getElem_toArray, List.getElem_cons_zero, List.getElem_cons_succ]
  refine any_done (by kernel_rfl) ?_
  have hC5 : Cd K g (L ++ pd P) u4 := by
    unfold pd
    rw [unhide hPl, ← unhide hm, ← List.append_assoc]
    exact hC4
  clear hC4 hv2 hv4 hm
  go_end0
  rw [unhide hT]
  exact ⟨rfl, hC5, bt⟩
end Go.Proofs.Ytdekjbdkpchbjaa
