/-
  Bytes xored with the stream, by the reference.
-/
import Derived.Test.YtdekjbdkpchbjaaChaRB
namespace Go.Proofs.Ytdekjbdkpchbjaa
open Go.RowKit
set_option maxRecDepth 100000
set_option linter.unusedSimpArgs false
set_option linter.unusedVariables false
/-- blocks of another kind stay as bytes are put behind others -/
theorem Bl.grown {w v v' : World} {L : List Blk} (h : Bl w L v) {b : Nat} {x : Value} {M : List Int} (ho : Ob b v x M) (hb : w.heap.size ≤ b) (k : v.grownBy v' x.ownBlock) (ht : ∀ y ∈ L, y.t ≠ 5) : Bl w L v' := by
  refine ⟨Ob.grown ho hb h.gr k, fun y hy => ?_, h.ne⟩
  obtain ⟨h1, h2⟩ := h.at_ y hy
  refine ⟨?_, h2⟩
  rw [k.block y.g (lt_of_block h1) ?_]
  · exact h1
  · intro e
    rcases ho.2 with ⟨rfl, _⟩ | ⟨g, cap, cur, rfl, _, h3, _⟩
    · cases e
    · have e2 : y.g = g := by simpa [Value.ownBlock] using e
      rw [e2] at h1
      rw [h3] at h1
      simp only [Blk.obj, Option.some.injEq, Obj.cells.injEq] at h1
      exact ht y hy h1.2.1.symm
/-- the first m bytes -/
def pre (K N : List Int) (c : Int) (B : List Int) (m : Nat) : List Int := (List.range m).map (xf K N c B)
theorem pre_len (K N : List Int) (c : Int) (B : List Int) (m : Nat) : (pre K N c B m).length = m := by simp [pre]
theorem pre_succ (K N : List Int) (c : Int) (B : List Int) (m : Nat) : pre K N c B m ++ [xf K N c B m] = pre K N c B (m + 1) := by
  unfold pre
  rw [List.range_succ, List.map_append]
  rfl
def Xr (K N : List Int) (c : Int) (B : List Int) (w : World) (r : Ending) (w' : World) : Prop := ∃ v, r = .returned v ∧ Ob w.heap.size w' v (xl K N c B) ∧ Gr w w'
theorem Ob.other {b : Nat} {w : World} {v : Value} {L : List Int} (h : Ob b w v L) {g : Nat} {c : Array Value} {t : TypeId} (hg : w.heap[g]? = some (.cells c t (0, 0))) (ht : t ≠ 5) (cs : Array Value) : Ob b (w.setRow g cs) v L := by
  rcases h with ⟨h0, h1 | ⟨g', cap, cur, h1, h2, h3, h4⟩⟩
  · exact ⟨h0, .inl h1⟩
  · refine ⟨h0, .inr ⟨g', cap, cur, h1, h2, ?_, h4⟩⟩
    have hne : g' ≠ g := by
      rintro rfl
      rw [hg] at h3
      simp only [Option.some.injEq, Obj.cells.injEq] at h3
      exact ht h3.2.1
    exact (setRow_other w g g' cs hne).trans h3
set_option maxHeartbeats 8000000 in
theorem rxor_ok (K N : List Int) (hK : K.length = 32) (hN : N.length = 12) (hKb : IsB K) (hNb : IsB N) (c : Int) (B : List Int) (a : Option Addr) (n cap : Nat) (hbig : n ≤ 100000) (w : World) (hA : Lb w a n cap B) :
    Calls Try.prog 22 #[.agg (kc K), .int .u32 c, .agg (kc N), .slice a n cap] w (Xr K N c B w) := by
  have hn := hA.len
  obtain ⟨T, hT⟩ : ∃ T, T = Xr K N c B w := ⟨_, rfl⟩
  rw [← hT]
  unfold Xr at hT
  replace hT := hide hT
  replace hA := hide hA
  obtain ⟨SK, hSK⟩ : ∃ S, S = kc K := ⟨_, rfl⟩
  obtain ⟨SN, hSN⟩ : ∃ S, S = kc N := ⟨_, rfl⟩
  rw [← hSK, ← hSN]
  replace hSK := hide hSK
  replace hSN := hide hSN
  replace hKb := hide hKb
  replace hNb := hide hNb
  replace hn := hide hn
  go_enter Try.func22, Try.ntmps22
  go_wp2_with fail
  have hB := ((Bl.nil w).new SK 23).new SN 25
  simp only [size_alloc, List.nil_append, List.cons_append] at hB
  generalize World.alloc _ _ = u at *
  rw [unhide hSK, unhide hSN] at hB
  replace hB : Hid (Bl w [⟨w.heap.size, kc K, 23⟩, ⟨w.heap.size + 1, kc N, 25⟩] u) := hB
  have ob : Hid (Ob w.heap.size u (.slice none 0 0) (pre K N c B 0)) := ⟨rfl, .inl ⟨rfl, rfl⟩⟩
  go_loopw [10, 9] (fun i o wr => ∃ k q : Nat, ∃ v : Value, Hid (q = 64 * k) ∧ q ≤ n + 63 ∧ i = .int .i64 q ∧ v = o ∧ Hid (Ob w.heap.size wr v (pre K N c B (min q n))) ∧ Hid (Bl w [⟨w.heap.size, kc K, 23⟩, ⟨w.heap.size + 1, kc N, 25⟩] wr)) (fun i _ _ => n + 64 - (intOf i).toNat)
  case atStart => exact ⟨0, 0, _, rfl, by omega, rfl, rfl, by rw [Nat.min_eq_left (Nat.zero_le _)]; exact ob, hB⟩
  case round =>
  clear hB ob
  obtain ⟨k, q, v, hq, hqn, rfl, rfl, ob, hB⟩ := hrel
  by_cases hl : q < n
  · have qI : (q : Int) < (n : Int) := by omega
    obtain ⟨bp, bo, rfl, hat⟩ : ∃ bp bo, a = some ⟨bp, bo, none⟩ ∧ Hid (At w bp bo B) := by
      rcases (unhide hA).sl with h | h
      · have := unhide hn
        rw [h] at this
        simp at this
        omega
      · exact h
    rw [Nat.min_eq_left (by omega)] at ob
    have e1 : (q : Int).tdiv 64 = (k : Int) := by have := unhide hq; rw [Int.tdiv_eq_ediv_of_nonneg (by omega)]; omega
    have e2 : IntKind.i64.wrap (k : Int) = (k : Int) := by have := unhide hq; rw [IntKind.wrap_i64]; omega
    have e3 : (k : Int) % 4294967296 = (k : Int) := by have := unhide hq; omega
    have e4 : IntKind.u32.wrap (k : Int) = (k : Int) := by rw [IntKind.wrap_u32]; exact e3
    go_upto_region 5 with fail
    replace hB := unhide hB
    refine wp_region_lit ?_
    refine list_val (.agg (kc K)) (by kernel_rfl) (exec_arr _ 23 (.tmp 4) rfl (w.heap.size) (by kernel_rfl) (kc K) 23 _ (hB.get 0 (x := ⟨w.heap.size, kc K, 23⟩) rfl) Try.underlying23 rfl (by rw [Try.infoKey, kc_size, hK])) ?_
    simp only [Act.put, List.setIfInBounds_toArray, List.set_cons_zero, List.set_cons_succ, List.getElem_toArray, List.getElem_cons_zero, List.getElem_cons_succ]
    refine list_val (.int .u32 c) (by kernel_rfl) (by kernel_rfl) ?_
    simp only [Act.put, List.setIfInBounds_toArray, List.set_cons_zero, List.set_cons_succ, List.getElem_toArray, List.getElem_cons_zero, List.getElem_cons_succ]
    refine list_val (.int .i64 q) (by kernel_rfl) (by kernel_rfl) ?_
    simp only [Act.put, List.setIfInBounds_toArray, List.set_cons_zero, List.set_cons_succ, List.getElem_toArray, List.getElem_cons_zero, List.getElem_cons_succ]
    refine list_val (.int .i64 k) (by kernel_rfl) (by go_simp) ?_
    simp only [Act.put, List.setIfInBounds_toArray, List.set_cons_zero, List.set_cons_succ, List.getElem_toArray, List.getElem_cons_zero, List.getElem_cons_succ]
    refine list_val (.int .u32 k) (by kernel_rfl) (by go_simp) ?_
    simp only [Act.put, List.setIfInBounds_toArray, List.set_cons_zero, List.set_cons_succ, List.getElem_toArray, List.getElem_cons_zero, List.getElem_cons_succ]
    refine list_val (.int .u32 (cn c k)) (by kernel_rfl) (by kernel_rfl) ?_
    simp only [Act.put, List.setIfInBounds_toArray, List.set_cons_zero, List.set_cons_succ, List.getElem_toArray, List.getElem_cons_zero, List.getElem_cons_succ]
    refine list_val (.agg (kc N)) (by kernel_rfl) (exec_arr _ 25 (.tmp 6) rfl (w.heap.size + 1) (by kernel_rfl) (kc N) 25 _ (hB.get 1 (x := ⟨w.heap.size + 1, kc N, 25⟩) rfl) Try.underlying25 rfl (by rw [Try.infoN, kc_size, hN])) ?_
    simp only [Act.put, List.setIfInBounds_toArray, List.set_cons_zero, List.set_cons_succ, List.getElem_toArray, List.getElem_cons_zero, List.getElem_cons_succ]
    refine list_call 31 #[.agg (kc K), .int .u32 (cn c k), .agg (kc N)] (by kernel_rfl) (by kernel_rfl) ((rblock_ok K N hK hN (unhide hKb) (unhide hNb) (cn c k) _).mono ?_)
    rintro r u2 ⟨rfl, hg⟩
    refine ⟨_, rfl, ?_⟩
    replace hB := hB.more hg
    replace ob := hide ((unhide ob).gr hg)
    clear hg
    have hDl := bk_len K N (cn c k)
    obtain ⟨D, hD⟩ : ∃ D, D = bk K N (cn c k) := ⟨_, rfl⟩
    rw [← hD] at hDl ⊢
    replace hD := hide hD
    simp only [Act.put, List.setIfInBounds_toArray, List.set_cons_zero, List.set_cons_succ, List.getElem_toArray, List.getElem_cons_zero, List.getElem_cons_succ]
    replace hB := hide hB
    (refine wpList_step fun K hK => ?_; replace hK := hide hK; go_simp; refine unhide hK _ _ ?_; clear hK K)
    replace ob := hide ((unhide ob).gr ((Gr.refl u2).alloc (.cells #[.int .u8 0, .int .u8 0, .int .u8 0, .int .u8 0, .int .u8 0, .int .u8 0, .int .u8 0, .int .u8 0, .int .u8 0, .int .u8 0, .int .u8 0, .int .u8 0, .int .u8 0, .int .u8 0, .int .u8 0, .int .u8 0, .int .u8 0, .int .u8 0, .int .u8 0, .int .u8 0, .int .u8 0, .int .u8 0, .int .u8 0, .int .u8 0, .int .u8 0, .int .u8 0, .int .u8 0, .int .u8 0, .int .u8 0, .int .u8 0, .int .u8 0, .int .u8 0, .int .u8 0, .int .u8 0, .int .u8 0, .int .u8 0, .int .u8 0, .int .u8 0, .int .u8 0, .int .u8 0, .int .u8 0, .int .u8 0, .int .u8 0, .int .u8 0, .int .u8 0, .int .u8 0, .int .u8 0, .int .u8 0, .int .u8 0, .int .u8 0, .int .u8 0, .int .u8 0, .int .u8 0, .int .u8 0, .int .u8 0, .int .u8 0, .int .u8 0, .int .u8 0, .int .u8 0, .int .u8 0, .int .u8 0, .int .u8 0, .int .u8 0, .int .u8 0] 56 (0, 0))))
    replace hB := (unhide hB).new #[.int .u8 0, .int .u8 0, .int .u8 0, .int .u8 0, .int .u8 0, .int .u8 0, .int .u8 0, .int .u8 0, .int .u8 0, .int .u8 0, .int .u8 0, .int .u8 0, .int .u8 0, .int .u8 0, .int .u8 0, .int .u8 0, .int .u8 0, .int .u8 0, .int .u8 0, .int .u8 0, .int .u8 0, .int .u8 0, .int .u8 0, .int .u8 0, .int .u8 0, .int .u8 0, .int .u8 0, .int .u8 0, .int .u8 0, .int .u8 0, .int .u8 0, .int .u8 0, .int .u8 0, .int .u8 0, .int .u8 0, .int .u8 0, .int .u8 0, .int .u8 0, .int .u8 0, .int .u8 0, .int .u8 0, .int .u8 0, .int .u8 0, .int .u8 0, .int .u8 0, .int .u8 0, .int .u8 0, .int .u8 0, .int .u8 0, .int .u8 0, .int .u8 0, .int .u8 0, .int .u8 0, .int .u8 0, .int .u8 0, .int .u8 0, .int .u8 0, .int .u8 0, .int .u8 0, .int .u8 0, .int .u8 0, .int .u8 0, .int .u8 0, .int .u8 0] 56
    simp only [List.nil_append, List.cons_append] at hB
    generalize World.alloc _ _ = u3 at *
    generalize u2.heap.size = h11 at *
    replace hB : Bl w [⟨w.heap.size, kc K, 23⟩, ⟨w.heap.size + 1, kc N, 25⟩, ⟨h11, kc Z64, 56⟩] u3 := hB
    have obx : Ob w.heap.size (u3.setRow h11 (kc D)) v (pre K N c B q) := (unhide ob).other (hB.get 2 (x := ⟨h11, kc Z64, 56⟩) rfl) (show (56 : TypeId) ≠ 5 by decide) (kc D)
    refine list_store 56 (.tmp 11) (.tmp 26) (h11) (kc D) 56 (kc Z64) (by kernel_rfl) rfl (by kernel_rfl) (by kernel_rfl) (hB.get 2 (x := ⟨h11, kc Z64, 56⟩) rfl) (by rw [Try.info64, kc_size, hDl]) ((show (kc Z64).size = 64 from rfl).trans ((kc_size _).trans hDl).symm) (kc_one _) ?_
    replace hB := hB.set 2 (x := ⟨h11, kc Z64, 56⟩) rfl (kc D)
    simp only [List.set_cons_zero, List.set_cons_succ] at hB
    generalize World.setRow _ _ _ = u4 at *
    replace ob := hide obx
    clear obx
    simp only [Act.put, List.setIfInBounds_toArray, List.set_cons_zero, List.set_cons_succ, List.getElem_toArray, List.getElem_cons_zero, List.getElem_cons_succ]
    refine wpList_nil ?_
    clear e1 e2 e3 e4
    replace hB := hide hB
    obtain ⟨q64, hq64⟩ : ∃ x, x = q + 64 := ⟨_, rfl⟩
    have i1 : (q : Int) + 64 = (q64 : Int) := by omega
    have i2 : IntKind.i64.wrap (q64 : Int) = (q64 : Int) := by rw [IntKind.wrap_i64]; omega
    replace hq64 := hide hq64
    go_wp2_with fail
    go_loopw [12, 9] (fun i o wr => ∃ t : Nat, ∃ v : Value, q ≤ t ∧ t ≤ n ∧ t ≤ q64 ∧ i = .int .i64 t ∧ v = o ∧ Hid (Ob w.heap.size wr v (pre K N c B t)) ∧ Hid (Bl w [⟨w.heap.size, kc K, 23⟩, ⟨w.heap.size + 1, kc N, 25⟩, ⟨h11, kc D, 56⟩] wr)) (fun i _ _ => n - (intOf i).toNat)
    case atStart => exact ⟨q, v, by omega, by omega, by omega, rfl, rfl, ob, hB⟩
    case round =>
    clear hB ob
    obtain ⟨t, v, t1, t2, t3, rfl, rfl, ob, hB⟩ := hrel
    by_cases ht : t < q64 ∧ t < n
    · obtain ⟨j, hj⟩ : ∃ x, x = t - q := ⟨_, rfl⟩
      obtain ⟨x, hx⟩ : ∃ x, x = B.getD t 0 := ⟨_, rfl⟩
      obtain ⟨y, hy⟩ : ∃ y, y = D.getD j 0 := ⟨_, rfl⟩
      have hxf : Hid (xf K N c B t = xb x y) := by
        have h64 := unhide hq64
        have hqk := unhide hq
        unfold xf sf
        rw [hx, hy, unhide hD, show t / 64 = k from by omega, show t % 64 = j from by omega]
        exact rfl
      have f1 : (t : Int) < (q64 : Int) := by omega
      have f2 : (t : Int) < (n : Int) := by omega
      have f3 : t < n := ht.2
      have f4 : (t : Int) - (q : Int) = (j : Int) := by omega
      have f5 : IntKind.i64.wrap (j : Int) = (j : Int) := by rw [IntKind.wrap_i64]; omega
      have f6 : (j : Int) < 64 := by have := unhide hq64; omega
      have f7 : j < 64 := by omega
      have f8 : 0 ≤ (j : Int) := by omega
      replace hj := hide hj
      replace hx := hide hx
      replace hy := hide hy
      go_upto_region 9 with fail
      replace hB := unhide hB
      refine any_start (S := fun v => Bl w [⟨w.heap.size, kc K, 23⟩, ⟨w.heap.size + 1, kc N, 25⟩, ⟨h11, kc D, 56⟩] v) (by kernel_rfl) ?_
      replace hB := hB.drew
      replace ob := hide ((unhide ob).gr (Gr.refl _).drew)
      generalize World.drew _ = v0 at *
      simp only [List.size_toArray, List.length_cons, List.length_nil, Array.replicate, List.replicate]
      refine any_take (i := 0) (v := v) #[false, false, false, false, false, false, false, false, false, false, false, false, false, false] rfl (by kernel_rfl) (by kernel_rfl) (by kernel_rfl) (by kernel_rfl) (fun _ _ _ h => h) (.inl ⟨by kernel_rfl, fun x_ hu => by kernel_rfl⟩) hB ?_
      simp only [Act.put, List.setIfInBounds_toArray, List.set_cons_zero, List.set_cons_succ, List.getElem_toArray, List.getElem_cons_zero, List.getElem_cons_succ]
      refine any_take (i := 1) (v := (.slice (some ⟨bp, bo, none⟩) n cap)) #[true, false, false, false, false, false, false, false, false, false, false, false, false, false] rfl (by kernel_rfl) (by kernel_rfl) (by kernel_rfl) (by kernel_rfl) (fun _ _ _ h => h) (.inl ⟨by kernel_rfl, fun x_ hu => by kernel_rfl⟩) hB ?_
      simp only [Act.put, List.setIfInBounds_toArray, List.set_cons_zero, List.set_cons_succ, List.getElem_toArray, List.getElem_cons_zero, List.getElem_cons_succ]
      refine any_take (i := 2) (v := (.int .i64 t)) #[true, true, false, false, false, false, false, false, false, false, false, false, false, false] rfl (by kernel_rfl) (by kernel_rfl) (by kernel_rfl) (by kernel_rfl) (fun _ _ _ h => h) (.inl ⟨by kernel_rfl, fun x_ hu => by kernel_rfl⟩) hB ?_
      simp only [Act.put, List.setIfInBounds_toArray, List.set_cons_zero, List.set_cons_succ, List.getElem_toArray, List.getElem_cons_zero, List.getElem_cons_succ]
      refine any_take (i := 3) (v := (.pointer (some ⟨bp, bo + t, none⟩))) #[true, true, true, false, false, false, false, false, false, false, false, false, false, false] rfl (by kernel_rfl) (by kernel_rfl) (by kernel_rfl) (by kernel_rfl) (fun _ _ _ h => h) (.inl ⟨by kernel_rfl, fun x_ hu => by go_simp⟩) hB ?_
      simp only [Act.put, List.setIfInBounds_toArray, List.set_cons_zero, List.set_cons_succ, List.getElem_toArray, List.getElem_cons_zero, List.getElem_cons_succ]
      refine any_take (i := 4) (v := (.int .u8 x)) #[true, true, true, true, false, false, false, false, false, false, false, false, false, false] rfl (by kernel_rfl) (by kernel_rfl) (by kernel_rfl) (by kernel_rfl) (fun _ _ _ h => h) (.inl ⟨by kernel_rfl, fun x_ hu => by have c0 := ((unhide hat).gr hu.gr) t (by rw [unhide hn]; omega); rw [← unhide hx] at c0; go_simp⟩) hB ?_
      simp only [Act.put, List.setIfInBounds_toArray, List.set_cons_zero, List.set_cons_succ, List.getElem_toArray, List.getElem_cons_zero, List.getElem_cons_succ]
      refine any_take (i := 5) (v := (.int .i64 t)) #[true, true, true, true, true, false, false, false, false, false, false, false, false, false] rfl (by kernel_rfl) (by kernel_rfl) (by kernel_rfl) (by kernel_rfl) (fun _ _ _ h => h) (.inl ⟨by kernel_rfl, fun x_ hu => by kernel_rfl⟩) hB ?_
      simp only [Act.put, List.setIfInBounds_toArray, List.set_cons_zero, List.set_cons_succ, List.getElem_toArray, List.getElem_cons_zero, List.getElem_cons_succ]
      refine any_take (i := 6) (v := (.int .i64 q)) #[true, true, true, true, true, true, false, false, false, false, false, false, false, false] rfl (by kernel_rfl) (by kernel_rfl) (by kernel_rfl) (by kernel_rfl) (fun _ _ _ h => h) (.inl ⟨by kernel_rfl, fun x_ hu => by kernel_rfl⟩) hB ?_
      simp only [Act.put, List.setIfInBounds_toArray, List.set_cons_zero, List.set_cons_succ, List.getElem_toArray, List.getElem_cons_zero, List.getElem_cons_succ]
      refine any_take (i := 7) (v := (.int .i64 j)) #[true, true, true, true, true, true, true, false, false, false, false, false, false, false] rfl (by kernel_rfl) (by kernel_rfl) (by kernel_rfl) (by kernel_rfl) (fun _ _ _ h => h) (.inl ⟨by kernel_rfl, fun x_ hu => by go_simp⟩) hB ?_
      simp only [Act.put, List.setIfInBounds_toArray, List.set_cons_zero, List.set_cons_succ, List.getElem_toArray, List.getElem_cons_zero, List.getElem_cons_succ]
      refine any_take (i := 8) (v := (.pointer (some ⟨h11, j, none⟩))) #[true, true, true, true, true, true, true, true, false, false, false, false, false, false] rfl (by kernel_rfl) (by kernel_rfl) (by kernel_rfl) (by kernel_rfl) (fun _ _ _ h => h) (.inl ⟨by kernel_rfl, fun x_ hu => by go_simp⟩) hB ?_
      simp only [Act.put, List.setIfInBounds_toArray, List.set_cons_zero, List.set_cons_succ, List.getElem_toArray, List.getElem_cons_zero, List.getElem_cons_succ]
      refine any_take (i := 9) (v := (.int .u8 y)) #[true, true, true, true, true, true, true, true, true, false, false, false, false, false] rfl (by kernel_rfl) (by kernel_rfl) (by kernel_rfl) (by kernel_rfl) (fun _ _ _ h => h) (.inl ⟨by kernel_rfl, fun x_ hu => by have c0 := kc_cell (hu.get 2 (x := ⟨h11, kc D, 56⟩) rfl) j (by omega); rw [← unhide hy] at c0; go_simp⟩) hB ?_
      simp only [Act.put, List.setIfInBounds_toArray, List.set_cons_zero, List.set_cons_succ, List.getElem_toArray, List.getElem_cons_zero, List.getElem_cons_succ]
      refine any_take (i := 10) (v := (.int .u8 (xb x y))) #[true, true, true, true, true, true, true, true, true, true, false, false, false, false] rfl (by kernel_rfl) (by kernel_rfl) (by kernel_rfl) (by kernel_rfl) (fun _ _ _ h => h) (.inl ⟨by kernel_rfl, fun x_ hu => by kernel_rfl⟩) hB ?_
      simp only [Act.put, List.setIfInBounds_toArray, List.set_cons_zero, List.set_cons_succ, List.getElem_toArray, List.getElem_cons_zero, List.getElem_cons_succ]
      refine any_one (i := 11) (by kernel_rfl) rfl (fun K_ hK => ?_)
      refine step_val (.slice (some ⟨v0.heap.size, 0, none⟩) 1 1) (v0.alloc (.cells (kc [xb x y]) 5 (0, 0))) (by kernel_rfl) (by kernel_rfl) ?_
      have hg := (Gr.refl v0).alloc (.cells (kc [xb x y]) 5 (0, 0))
      have hnew := blk_new v0 (.cells (kc [xb x y]) 5 (0, 0))
      replace hB := hB.more hg
      replace ob := hide ((unhide ob).gr hg)
      clear hg
      generalize World.alloc _ _ = v1 at *
      generalize v0.heap.size = h12 at *
      refine hK.out _ _ hB (fun _ => ?_)
      clear hK K_
      simp only [Act.put, List.setIfInBounds_toArray, List.set_cons_zero, List.set_cons_succ, List.getElem_toArray, List.getElem_cons_zero, List.getElem_cons_succ]
      refine any_one (i := 12) (by kernel_rfl) rfl (fun K_ hK => ?_)
      rw [if_pos (by kernel_rfl)]
      refine app_op (.tmp 40) (.tmp 51) rfl w.heap.size v (pre K N c B t) rfl (unhide ob) _ 1 1 [xb x y] rfl rfl (.inr ⟨h12, 0, rfl, kc_at hnew⟩) (by rw [pre_len]; omega) hB.gr.size ?_
      intro v' w' ob2 hgr
      have hB2 := hB.grown (unhide ob) (Nat.le_refl _) hgr (by intro z hz; simp only [List.mem_cons, List.not_mem_nil, or_false] at hz; rcases hz with rfl | rfl | rfl <;> (dsimp only; decide))
      clear hB hnew ob hgr
      replace hB := hB2
      clear hB2
      refine hK.out _ _ hB (fun _ => ?_)
      clear hK K_
      simp only [Act.put, List.setIfInBounds_toArray, List.set_cons_zero, List.set_cons_succ, List.getElem_toArray, List.getElem_cons_zero, List.getElem_cons_succ]
      refine any_one (i := 13) (by kernel_rfl) rfl (fun K_ hK => ?_)
      replace hK := hide hK
      go_simp
      refine (unhide hK).out _ _ hB (fun _ => ?_)
      clear hK K_
      refine any_done (by kernel_rfl) ?_
      rw [← unhide hxf, pre_succ] at ob2
      replace ob2 := hide ob2
      replace hB := hide hB
      clear hxf hx hy
      go_wp2_with fail
      go_roundw
      case rel => exact ⟨t + 1, v', by omega, by omega, by omega, by go_num, rfl, ob2, hB⟩
      case measure => simp [intOf]; omega
    have ht2 : t = min q64 n := by omega
    have hB2 : Hid (Bl w [⟨w.heap.size, kc K, 23⟩, ⟨w.heap.size + 1, kc N, 25⟩] wr) := Bl.left (L := [⟨w.heap.size, kc K, 23⟩, ⟨w.heap.size + 1, kc N, 25⟩]) (M := [⟨h11, kc D, 56⟩]) (unhide hB)
    have hq2 : Hid (q64 = 64 * (k + 1)) := by have h1 := unhide hq; have h2 := unhide hq64; exact (show q64 = 64 * (k + 1) by omega)
    have hq3 : q64 ≤ n + 63 := by have := unhide hq64; omega
    have hq5 : q < q64 := by have := unhide hq64; omega
    rw [ht2] at ob
    replace ht2 := hide ht2
    by_cases hc1 : t < q64
    · have f1 : (t : Int) < (q64 : Int) := by omega
      have f2 : ¬ (t : Int) < (n : Int) := by omega
      go_wp2_with fail
      go_roundw
      case rel => exact ⟨k + 1, q64, v, hq2, hq3, rfl, rfl, ob, hB2⟩
      case measure => simp [intOf]; omega
    · have f1 : ¬ (t : Int) < (q64 : Int) := by omega
      go_wp2_with fail
      go_roundw
      case rel => exact ⟨k + 1, q64, v, hq2, hq3, rfl, rfl, ob, hB2⟩
      case measure => simp [intOf]; omega
  · rw [Nat.min_eq_right (by omega)] at ob
    have hM : pre K N c B n = xl K N c B := by rw [← unhide hn]; rfl
    rw [hM] at ob
    have hP : Hid (∃ v', Ending.returned v = .returned v' ∧ Ob w.heap.size wr v' (xl K N c B) ∧ Gr w wr) := ⟨v, rfl, unhide ob, (unhide hB).gr⟩
    have qI : ¬ (q : Int) < (n : Int) := by omega
    clear hB ob
    go_wp2_with fail
    rw [unhide hT]
    exact unhide hP
end Go.Proofs.Ytdekjbdkpchbjaa
