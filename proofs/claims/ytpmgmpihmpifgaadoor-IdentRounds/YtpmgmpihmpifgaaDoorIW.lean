/-
  The reference: what is derived, a round's keys and hollow.
-/
import Derived.Test.YtpmgmpihmpifgaaDoorIU
import Derived.Great.BuildSlice
namespace Go.Proofs.YtpmgmpihmpifgaaDoor
open Go.RowKit
set_option maxRecDepth 100000
set_option linter.unusedSimpArgs false
set_option linter.unusedVariables false
/-- new bytes -/
def Obd (L : List Int) (w : World) (r : Ending) (w' : World) : Prop := ∃ v, r = .returned v ∧ Ob w.heap.size w' v L ∧ Gr w w'
theorem Ob.nil (b : Nat) (w : World) : Ob b w (.slice none 0 0) [] := ⟨rfl, .inl ⟨rfl, rfl⟩⟩
set_option maxHeartbeats 4000000 in
theorem eeight_ok (n : Int) (hn : 0 ≤ n) (hn2 : n < 18446744073709551616) (w : World) : Calls Tryd.prog 39 #[.int .u64 n] w (Obd (lowL n 8) w) := by
  obtain ⟨T, hT⟩ : ∃ T, T = Obd (lowL n 8) w := ⟨_, rfl⟩
  rw [← hT]
  replace hT := hide hT
  have hG : Hid (Gr w w) := Gr.refl w
  go_enter Tryd.func39, Tryd.ntmps39
  go_wp2_with fail
  go_loopw [4, 3] (fun i o wr => ∃ i' : Nat, ∃ v : Value, ∃ L : List Int, i' ≤ 8 ∧ i = .int .i64 i' ∧ v = o ∧ Hid (L = lowL n i') ∧ Hid (Ob w.heap.size wr v L) ∧ Hid (Gr w wr)) (fun i _ _ => 8 - (intOf i).toNat)
  case atStart => exact ⟨0, _, [], by omega, rfl, rfl, (show ([] : List Int) = lowL n 0 from rfl), Ob.nil _ _, hG⟩
  case round =>
  clear hG
  obtain ⟨i, v, L, hi, rfl, rfl, hL, ob, hG⟩ := hrel
  by_cases hl : i < 8
  · have iI : (i : Int) < 8 := by omega
    have hLl : L.length = i := by rw [unhide hL, lowL_len]
    obtain ⟨x, hx⟩ : ∃ x : Int, x = n / 256 ^ i % 256 := ⟨_, rfl⟩
    have hL2 : Hid (L ++ [x] = lowL n (i + 1)) := by
      show L ++ [x] = _
      rw [lowL_snoc, unhide hL, hx]
    obtain ⟨k, hk⟩ : ∃ k, k = 8 * i := ⟨_, rfl⟩
    have e1 : (8 : Int) * (i : Int) = (k : Int) := by omega
    have e2 : IntKind.i64.wrap (k : Int) = (k : Int) := by rw [IntKind.wrap_i64]; omega
    obtain ⟨q, hq⟩ : ∃ q, n / 2 ^ k = q := ⟨_, rfl⟩
    have hkk : min k 64 = k := by omega
    have e3 : n / 2 ^ min k 64 = q := by rw [hkk]; exact hq
    have e4 : IntKind.u8.wrap q = x := by
      rw [IntKind.wrap_u8', hx, ← hq, hk, Int.pow_mul]
      rfl
    have hx0 : 0 ≤ x ∧ x < 256 := by omega
    replace hx := hide hx
    replace hk := hide hk
    clear hkk
    go_upto_region 5 with fail
    replace hG := unhide hG
    replace ob := unhide ob
    refine wp_region_lit ?_
    refine list_val v (by kernel_rfl) (by kernel_rfl) ?_
    simp only [Act.put, List.setIfInBounds_toArray, List.set_cons_zero, List.set_cons_succ, List.getElem_toArray, List.getElem_cons_zero, List.getElem_cons_succ]
    refine list_val (.int .u64 n) (by kernel_rfl) (by kernel_rfl) ?_
    simp only [Act.put, List.setIfInBounds_toArray, List.set_cons_zero, List.set_cons_succ, List.getElem_toArray, List.getElem_cons_zero, List.getElem_cons_succ]
    refine list_val (.int .i64 i) (by kernel_rfl) (by kernel_rfl) ?_
    simp only [Act.put, List.setIfInBounds_toArray, List.set_cons_zero, List.set_cons_succ, List.getElem_toArray, List.getElem_cons_zero, List.getElem_cons_succ]
    refine list_val (.int .i64 k) (by kernel_rfl) (by go_simp) ?_
    simp only [Act.put, List.setIfInBounds_toArray, List.set_cons_zero, List.set_cons_succ, List.getElem_toArray, List.getElem_cons_zero, List.getElem_cons_succ]
    refine list_val (.int .u64 q) (by kernel_rfl) (by go_simp) ?_
    simp only [Act.put, List.setIfInBounds_toArray, List.set_cons_zero, List.set_cons_succ, List.getElem_toArray, List.getElem_cons_zero, List.getElem_cons_succ]
    refine list_val (.int .u8 x) (by kernel_rfl) (by go_simp) ?_
    simp only [Act.put, List.setIfInBounds_toArray, List.set_cons_zero, List.set_cons_succ, List.getElem_toArray, List.getElem_cons_zero, List.getElem_cons_succ]
    refine list_valw (.slice (some ⟨wr.heap.size, 0, none⟩) 1 1) (wr.alloc (.cells (kc [x]) 5 (0, 0))) (by kernel_rfl) (by kernel_rfl) ?_
    simp only [Act.put, List.setIfInBounds_toArray, List.set_cons_zero, List.set_cons_succ, List.getElem_toArray, List.getElem_cons_zero, List.getElem_cons_succ]
    have hnew := blk_new wr (.cells (kc [x]) 5 (0, 0))
    have hgx := (Gr.refl wr).alloc (.cells (kc [x]) 5 (0, 0))
    replace hG := hG.trans hgx
    replace ob := ob.gr hgx
    clear hgx
    generalize World.alloc _ _ = w1 at *
    generalize wr.heap.size = g1 at *
    refine app_bs (by kernel_rfl) (.tmp 9) (.tmp 15) rfl w.heap.size v L rfl ob (some ⟨g1, 0, none⟩) 1 1 [x] rfl rfl (.inr ⟨g1, 0, rfl, kc_at hnew⟩) (by omega) hG.size ?_
    intro v2 w2 ob2 hgr
    simp only [Act.put, List.setIfInBounds_toArray, List.set_cons_zero, List.set_cons_succ, List.getElem_toArray, List.getElem_cons_zero, List.getElem_cons_succ]
    replace hG := Ob.grown ob (Nat.le_refl _) hG hgr
    clear hgr hnew ob
    (refine wpList_step fun K hK => ?_; replace hK := hide hK; go_simp; refine unhide hK _ _ ?_; clear hK K)
    refine wpList_nil ?_
    replace hG := hide hG
    replace ob2 := hide ob2
    clear e1 e2 e3 e4 hq
    go_wp2_with fail
    go_roundw
    case rel => exact ⟨i + 1, v2, _, by omega, by go_num, rfl, hL2, ob2, hG⟩
    case measure => simp [intOf]; omega
  · have iI : ¬ (i : Int) < 8 := by omega
    have e : i = 8 := by omega
    have hP : Hid (Obd (lowL n 8) w (.returned v) wr) := ⟨v, rfl, by rw [← e, ← unhide hL]; exact unhide ob, unhide hG⟩
    clear ob hG hL e
    go_wp2_with fail
    rw [unhide hT]
    exact unhide hP
theorem Bl.add {w v : World} {L : List Blk} (h : Bl w L v) (x : Blk) (hx : v.heap[x.g]? = some x.obj) (hw : w.heap.size ≤ x.g) (hn : ∀ y ∈ L, y.g ≠ x.g) : Bl w (L ++ [x]) v := by
  refine ⟨h.gr, fun y hy => ?_, List.pairwise_append.2 ⟨h.ne, List.pairwise_singleton _ _, fun y hy z hz => ?_⟩⟩
  · rcases List.mem_append.1 hy with hy | hy
    · exact h.at_ y hy
    · rw [List.mem_singleton] at hy
      subst hy
      exact ⟨hx, hw⟩
  · rw [List.mem_singleton] at hz
    subst hz
    exact hn y hy
theorem blk_ne {w : World} {g g' : Nat} {c c' : Array Value} {t t' : TypeId} (h : w.heap[g]? = some (.cells c t (0, 0))) (h' : w.heap[g']? = some (.cells c' t' (0, 0))) (ht : t ≠ t') : g ≠ g' := by
  rintro rfl
  rw [h] at h'
  injection h' with h'
  injection h' with _ h'' _
  exact ht h''
def NKe (b : Nat) (u : World) (q : Value) : Prop := ∃ g, q = .pointer (some ⟨g, 0, none⟩) ∧ b ≤ g ∧ u.heap[g]? = some (.cells (kc Z32) 25 (0, 0))
theorem NKe.gr {b : Nat} {u v : World} {q : Value} (h : NKe b u q) (k : Gr u v) : NKe b v q := by
  obtain ⟨g, h1, h2, h3⟩ := h
  exact ⟨g, h1, h2, k.blk h3⟩
theorem Ob.lb' {b : Nat} {w : World} {v : Value} {L : List Int} (h : Ob b w v L) (hL : IsB L) (n : Nat) (hn : L.length = n) : ∃ a c, v = .slice a n c ∧ Lb w a n c L := by
  obtain ⟨a, c, h1, h2, h3, h4⟩ := h.slice
  subst hn
  exact ⟨a, c, h1, rfl, hL, h4, h2, by unfold maxLen at h3; omega⟩
set_option maxHeartbeats 4000000 in
theorem rderive_ok (Ky : List Int) (hKl : Ky.length = 32) (hKb : IsB Ky) (t : ByteArray) (ht : t.size ≤ 1000) (ps : List (List Int)) (ap : Option Addr) (m cp : Nat) (hm : ps.length = m) (hp : small4 ps) (w : World) (hF : Fst w) (hP : Pr w ap ps) : Calls Tryd.prog 37 #[.agg (kc Ky), .string t, .slice ap m cp] w (Derd (spL Ky (infoL (tb t) ps) 32) w) := by
  obtain ⟨T, hT⟩ : ∃ T, T = Derd (spL Ky (infoL (tb t) ps) 32) w := ⟨_, rfl⟩
  rw [← hT]
  replace hT := hide hT
  obtain ⟨SK, hSK⟩ : ∃ S, S = kc Ky := ⟨_, rfl⟩
  rw [← hSK]
  replace hSK := hide hSK
  replace hKb := hide hKb
  replace hF := hide hF
  replace hP := hide hP
  go_enter Tryd.func37, Tryd.ntmps37
  go_upto_region 1 with fail
  have hB := (((Bl.nil w).new SK 25).new #[.int .u8 0, .int .u8 0, .int .u8 0, .int .u8 0, .int .u8 0, .int .u8 0, .int .u8 0, .int .u8 0, .int .u8 0, .int .u8 0, .int .u8 0, .int .u8 0, .int .u8 0, .int .u8 0, .int .u8 0, .int .u8 0, .int .u8 0, .int .u8 0, .int .u8 0, .int .u8 0, .int .u8 0, .int .u8 0, .int .u8 0, .int .u8 0, .int .u8 0, .int .u8 0, .int .u8 0, .int .u8 0, .int .u8 0, .int .u8 0, .int .u8 0, .int .u8 0] 25)
  simp only [size_alloc, List.nil_append, List.cons_append] at hB
  generalize World.alloc _ _ = u at *
  rw [unhide hSK] at hB
  replace hB : Bl w [⟨w.heap.size, kc Ky, 25⟩, ⟨w.heap.size + 1, kc Z32, 25⟩] u := hB
  refine wp_region_lit ?_
  refine list_val (.agg (kc Ky)) (by kernel_rfl) (exec_arr _ 25 (.tmp 3) rfl (w.heap.size) (by kernel_rfl) (kc Ky) 25 _ (hB.get 0 (x := ⟨w.heap.size, kc Ky, 25⟩) rfl) Tryd.underlying25 rfl (by rw [Tryd.infoKey, kc_size, hKl])) ?_
  simp only [Act.put, List.setIfInBounds_toArray, List.set_cons_zero, List.set_cons_succ, List.getElem_toArray, List.getElem_cons_zero, List.getElem_cons_succ]
  refine list_val (.string t) (by kernel_rfl) (by kernel_rfl) ?_
  simp only [Act.put, List.setIfInBounds_toArray, List.set_cons_zero, List.set_cons_succ, List.getElem_toArray, List.getElem_cons_zero, List.getElem_cons_succ]
  refine list_val (.slice ap m cp) (by kernel_rfl) (by kernel_rfl) ?_
  simp only [Act.put, List.setIfInBounds_toArray, List.set_cons_zero, List.set_cons_succ, List.getElem_toArray, List.getElem_cons_zero, List.getElem_cons_succ]
  refine list_call 59 #[.agg (kc Ky), .string t, .slice ap m cp] (by kernel_rfl) (by kernel_rfl) ((rtwo_ok Ky hKl (unhide hKb) t ht ps ap m cp hm hp u ((unhide hF).gr hB.gr) ((unhide hP).gr hB.gr)).mono ?_)
  rintro r_ u1 ⟨rfl, hg⟩
  replace hB := hB.more hg
  clear hg
  have hfe := spL_fewer Ky (infoL (tb t) ps) 32 64 (by omega)
  obtain ⟨D, hD⟩ : ∃ D, D = (spL Ky (infoL (tb t) ps) 64).take 32 := ⟨_, rfl⟩
  obtain ⟨E, hE⟩ : ∃ D, D = (spL Ky (infoL (tb t) ps) 64).drop 32 := ⟨_, rfl⟩
  have hDl : D.length = 32 := by rw [hD, List.length_take, spL_len]; rfl
  have hEl : E.length = 32 := by rw [hE, List.length_drop, spL_len]
  rw [← hD] at hfe
  rw [← hD, ← hE]
  replace hfe := hide hfe
  clear hD hE
  refine ⟨_, rfl, ?_⟩
  simp only [Act.put, List.setIfInBounds_toArray, List.set_cons_zero, List.set_cons_succ, List.getElem_toArray, List.getElem_cons_zero, List.getElem_cons_succ]
  refine list_val (.tuple #[.agg (kc D), .agg (kc E)]) (by kernel_rfl) (by kernel_rfl) ?_
  simp only [Act.put, List.setIfInBounds_toArray, List.set_cons_zero, List.set_cons_succ, List.getElem_toArray, List.getElem_cons_zero, List.getElem_cons_succ]
  refine list_val (.agg (kc D)) (by kernel_rfl) (by kernel_rfl) ?_
  simp only [Act.put, List.setIfInBounds_toArray, List.set_cons_zero, List.set_cons_succ, List.getElem_toArray, List.getElem_cons_zero, List.getElem_cons_succ]
  refine list_val (.agg (kc E)) (by kernel_rfl) (by kernel_rfl) ?_
  simp only [Act.put, List.setIfInBounds_toArray, List.set_cons_zero, List.set_cons_succ, List.getElem_toArray, List.getElem_cons_zero, List.getElem_cons_succ]
  refine list_valw (.pointer (some ⟨u1.heap.size, 0, none⟩)) (u1.alloc (.cells (kc Z32) 25 (0, 0))) (by kernel_rfl) (by kernel_rfl) ?_
  replace hB := hB.new (kc Z32) 25
  simp only [List.nil_append, List.cons_append] at hB
  generalize World.alloc _ _ = u2 at *
  generalize u1.heap.size = gd at *
  replace hB : Bl w [⟨w.heap.size, kc Ky, 25⟩, ⟨w.heap.size + 1, kc Z32, 25⟩, ⟨gd, kc Z32, 25⟩] u2 := hB
  simp only [Act.put, List.setIfInBounds_toArray, List.set_cons_zero, List.set_cons_succ, List.getElem_toArray, List.getElem_cons_zero, List.getElem_cons_succ]
  refine list_valw (.pointer (some ⟨u2.heap.size, 0, none⟩)) (u2.alloc (.cells (kc Z32) 25 (0, 0))) (by kernel_rfl) (by kernel_rfl) ?_
  replace hB := hB.new (kc Z32) 25
  simp only [List.nil_append, List.cons_append] at hB
  generalize World.alloc _ _ = u3 at *
  generalize u2.heap.size = ge at *
  replace hB : Bl w [⟨w.heap.size, kc Ky, 25⟩, ⟨w.heap.size + 1, kc Z32, 25⟩, ⟨gd, kc Z32, 25⟩, ⟨ge, kc Z32, 25⟩] u3 := hB
  simp only [Act.put, List.setIfInBounds_toArray, List.set_cons_zero, List.set_cons_succ, List.getElem_toArray, List.getElem_cons_zero, List.getElem_cons_succ]
  refine list_store 25 (.tmp 7) (.tmp 14) (gd) (kc D) 25 (kc Z32) (by kernel_rfl) rfl (by kernel_rfl) (by kernel_rfl) (hB.get 2 (x := ⟨gd, kc Z32, 25⟩) rfl) (by rw [Tryd.infoKey, kc_size, hDl]) (by rw [kc_size, kc_size, hDl]; rfl) (kc_one _) ?_
  replace hB := hB.set 2 (x := ⟨gd, kc Z32, 25⟩) rfl (kc D)
  simp only [List.set_cons_zero, List.set_cons_succ] at hB
  generalize World.setRow _ _ _ = u4 at *
  simp only [Act.put, List.setIfInBounds_toArray, List.set_cons_zero, List.set_cons_succ, List.getElem_toArray, List.getElem_cons_zero, List.getElem_cons_succ]
  refine list_store 25 (.tmp 8) (.tmp 15) (ge) (kc E) 25 (kc Z32) (by kernel_rfl) rfl (by kernel_rfl) (by kernel_rfl) (hB.get 3 (x := ⟨ge, kc Z32, 25⟩) rfl) (by rw [Tryd.infoKey, kc_size, hEl]) (by rw [kc_size, kc_size, hEl]; rfl) (kc_one _) ?_
  replace hB := hB.set 3 (x := ⟨ge, kc Z32, 25⟩) rfl (kc E)
  simp only [List.set_cons_zero, List.set_cons_succ] at hB
  generalize World.setRow _ _ _ = u5 at *
  simp only [Act.put, List.setIfInBounds_toArray, List.set_cons_zero, List.set_cons_succ, List.getElem_toArray, List.getElem_cons_zero, List.getElem_cons_succ]
  refine wpList_nil ?_
  replace hB := hide hB
  go_upto_region 2 with fail
  replace hB := unhide hB
  refine wp_region_lit ?_
  refine list_val (.agg (kc D)) (by kernel_rfl) (exec_arr _ 25 (.tmp 7) rfl (gd) (by kernel_rfl) (kc D) 25 _ (hB.get 2 (x := ⟨gd, kc D, 25⟩) rfl) Tryd.underlying25 rfl (by rw [Tryd.infoKey, kc_size, hDl])) ?_
  simp only [Act.put, List.setIfInBounds_toArray, List.set_cons_zero, List.set_cons_succ, List.getElem_toArray, List.getElem_cons_zero, List.getElem_cons_succ]
  refine list_store 25 (.tmp 6) (.tmp 16) (w.heap.size + 1) (kc D) 25 (kc Z32) (by kernel_rfl) rfl (by kernel_rfl) (by kernel_rfl) (hB.get 1 (x := ⟨w.heap.size + 1, kc Z32, 25⟩) rfl) (by rw [Tryd.infoKey, kc_size, hDl]) (by rw [kc_size, kc_size, hDl]; rfl) (kc_one _) ?_
  replace hB := hB.set 1 (x := ⟨w.heap.size + 1, kc Z32, 25⟩) rfl (kc D)
  simp only [List.set_cons_zero, List.set_cons_succ] at hB
  generalize World.setRow _ _ _ = u6 at *
  simp only [Act.put, List.setIfInBounds_toArray, List.set_cons_zero, List.set_cons_succ, List.getElem_toArray, List.getElem_cons_zero, List.getElem_cons_succ]
  refine wpList_nil ?_
  replace hB := hide hB
  go_wp2_with fail
  replace hB := unhide hB
  rw [unhide hT]
  exact bodyPost_ret (v := .agg (kc D)) (results_cell_row Tryd.results37 _ _ (w.heap.size + 1) 25 (kc D) (0, 0) _ rfl (hB.get 1 (x := ⟨w.heap.size + 1, kc D, 25⟩) rfl) Tryd.underlying25 rfl (by rw [Tryd.infoKey, kc_size, hDl])) rfl (⟨by rw [unhide hfe], hB.gr⟩)
set_option maxHeartbeats 4000000 in
theorem eroundkey_ok (r : Int) (hr : 0 ≤ r ∧ r < 18446744073709551616) (K : List Int) (hK : K.length = 32) (hKb : IsB K) (f mine : Bool) (w : World) (hF : Fst w) : Calls Tryd.prog 25 #[.agg (pairv K f), .int .u64 r, .bool mine] w (Derd (rkL r K f mine) w) := by
  obtain ⟨T, hT⟩ : ∃ T, T = Derd (rkL r K f mine) w := ⟨_, rfl⟩
  rw [← hT]
  replace hT := hide hT
  obtain ⟨SK, hSK⟩ : ∃ S, S = pairv K f := ⟨_, rfl⟩
  rw [← hSK]
  replace hSK := hide hSK
  replace hKb := hide hKb
  replace hF := hide hF
  go_enter Tryd.func25, Tryd.ntmps25
  go_upto_region 2 with fail
  have hB := (((Bl.nil w).new SK 36).new #[.int .u8 0, .int .u8 0, .int .u8 0, .int .u8 0, .int .u8 0, .int .u8 0, .int .u8 0, .int .u8 0, .int .u8 0, .int .u8 0, .int .u8 0, .int .u8 0, .int .u8 0, .int .u8 0, .int .u8 0, .int .u8 0, .int .u8 0, .int .u8 0, .int .u8 0, .int .u8 0, .int .u8 0, .int .u8 0, .int .u8 0, .int .u8 0, .int .u8 0, .int .u8 0, .int .u8 0, .int .u8 0, .int .u8 0, .int .u8 0, .int .u8 0, .int .u8 0] 25)
  simp only [size_alloc, List.nil_append, List.cons_append] at hB
  generalize World.alloc _ _ = u at *
  rw [unhide hSK] at hB
  replace hB : Bl w [⟨w.heap.size, pairv K f, 36⟩, ⟨w.heap.size + 1, kc Z32, 25⟩] u := hB
  by_cases hmf : mine = f
  · have hmh := hide hmf
    clear hmf
    refine wp_region_lit ?_
    refine list_val (.pointer (some ⟨w.heap.size, 32, none⟩)) (by kernel_rfl) (by kernel_rfl) ?_
    simp only [Act.put, List.setIfInBounds_toArray, List.set_cons_zero, List.set_cons_succ, List.getElem_toArray, List.getElem_cons_zero, List.getElem_cons_succ]
    refine list_val (.bool f) (by kernel_rfl) (exec_pf _ (.tmp 8) rfl (w.heap.size) (by kernel_rfl) K hK f (hB.get 0 (x := ⟨w.heap.size, pairv K f, 36⟩) rfl)) ?_
    simp only [Act.put, List.setIfInBounds_toArray, List.set_cons_zero, List.set_cons_succ, List.getElem_toArray, List.getElem_cons_zero, List.getElem_cons_succ]
    refine list_val (.bool mine) (by kernel_rfl) (by kernel_rfl) ?_
    simp only [Act.put, List.setIfInBounds_toArray, List.set_cons_zero, List.set_cons_succ, List.getElem_toArray, List.getElem_cons_zero, List.getElem_cons_succ]
    refine list_val (.bool true) (by kernel_rfl) (by have h := unhide hmh; go_simp; try simpa [eq_comm] using h) ?_
    simp only [Act.put, List.setIfInBounds_toArray, List.set_cons_zero, List.set_cons_succ, List.getElem_toArray, List.getElem_cons_zero, List.getElem_cons_succ]
    refine wpList_nil ?_
    replace hB := hide hB
    go_upto_region 4 with fail
    replace hB := unhide hB
    refine any_start (S := fun v => v.heap[w.heap.size]? = some (.cells (pairv K f) 36 (0, 0))) (by kernel_rfl) ?_
    replace hB := hB.drew
    generalize World.drew _ = x0 at *
    simp only [List.size_toArray, List.length_cons, List.length_nil, Array.replicate, List.replicate]
    refine any_take (i := 0) (v := (.pointer (some ⟨w.heap.size, 0, none⟩))) #[false, false, false, false, false, false, false, false] rfl (by kernel_rfl) (by kernel_rfl) (by kernel_rfl) (by kernel_rfl) (fun _ _ _ h => h) (.inl ⟨by kernel_rfl, fun x_ hu => by kernel_rfl⟩) (hB.get 0 (x := ⟨w.heap.size, pairv K f, 36⟩) rfl) ?_
    simp only [Act.put, List.setIfInBounds_toArray, List.set_cons_zero, List.set_cons_succ, List.getElem_toArray, List.getElem_cons_zero, List.getElem_cons_succ]
    refine any_take (i := 1) (v := (.agg (kc K))) #[true, false, false, false, false, false, false, false] rfl (by kernel_rfl) (by kernel_rfl) (by kernel_rfl) (by kernel_rfl) (fun _ _ _ h => h) (.inl ⟨by kernel_rfl, fun x_ hu => exec_pk _ (.tmp 12) rfl (w.heap.size) (by kernel_rfl) K hK f hu⟩) (hB.get 0 (x := ⟨w.heap.size, pairv K f, 36⟩) rfl) ?_
    simp only [Act.put, List.setIfInBounds_toArray, List.set_cons_zero, List.set_cons_succ, List.getElem_toArray, List.getElem_cons_zero, List.getElem_cons_succ]
    refine any_take (i := 2) (v := (.string tFir)) #[true, true, false, false, false, false, false, false] rfl (by kernel_rfl) (by kernel_rfl) (by kernel_rfl) (by kernel_rfl) (fun _ _ _ h => h) (.inl ⟨by kernel_rfl, fun x_ hu => by kernel_rfl⟩) (hB.get 0 (x := ⟨w.heap.size, pairv K f, 36⟩) rfl) ?_
    simp only [Act.put, List.setIfInBounds_toArray, List.set_cons_zero, List.set_cons_succ, List.getElem_toArray, List.getElem_cons_zero, List.getElem_cons_succ]
    refine any_take (i := 3) (v := (.int .u64 r)) #[true, true, true, false, false, false, false, false] rfl (by kernel_rfl) (by kernel_rfl) (by kernel_rfl) (by kernel_rfl) (fun _ _ _ h => h) (.inl ⟨by kernel_rfl, fun x_ hu => by kernel_rfl⟩) (hB.get 0 (x := ⟨w.heap.size, pairv K f, 36⟩) rfl) ?_
    simp only [Act.put, List.setIfInBounds_toArray, List.set_cons_zero, List.set_cons_succ, List.getElem_toArray, List.getElem_cons_zero, List.getElem_cons_succ]
    refine any_one (i := 4) (by kernel_rfl) rfl (fun K_ hQ => ?_)
    refine step_callw (by kernel_rfl) 39 #[.int .u64 r] (by kernel_rfl) ((eeight_ok r hr.1 hr.2 x0).mono ?_)
    rintro r x1 ⟨v8, rfl, ho8, hg⟩
    refine ⟨_, rfl, ?_⟩
    obtain ⟨a8, c8, rfl, lp⟩ := ho8.lb' (lowL_isB r 8) 8 (lowL_len r 8)
    replace hB := hB.more hg
    replace lp := hide lp
    clear ho8
    clear hg
    refine hQ.out _ _ (hB.get 0 (x := ⟨w.heap.size, pairv K f, 36⟩) rfl) (fun _ => ?_)
    clear hQ K_
    simp only [Act.put, List.setIfInBounds_toArray, List.set_cons_zero, List.set_cons_succ, List.getElem_toArray, List.getElem_cons_zero, List.getElem_cons_succ]
    refine any_one (i := 5) (by kernel_rfl) rfl (fun K_ hQ => ?_)
    replace hB := hide hB
    replace hQ := hide hQ
    go_simp
    refine (unhide hQ).out _ _ ?_ (fun _ => ?_)
    · exact ((Gr.refl x1).alloc (.cells #[.slice a8 8 c8] 33)).blk ((unhide hB).get 0 (x := ⟨w.heap.size, pairv K f, 36⟩) rfl)
    clear hQ K_
    replace hB := unhide hB
    have hg := (Gr.refl x1).alloc (.cells #[.slice a8 8 c8] 33 (0, 0))
    have hnew := blk_new x1 (.cells #[.slice a8 8 c8] 33 (0, 0))
    replace hB := hB.more hg
    replace lp := hide ((unhide lp).gr hg)
    generalize World.alloc _ _ = x2 at *
    generalize x1.heap.size = gq at *
    clear hg
    simp only [Act.put, List.setIfInBounds_toArray, List.set_cons_zero, List.set_cons_succ, List.getElem_toArray, List.getElem_cons_zero, List.getElem_cons_succ]
    refine any_one (i := 6) (by kernel_rfl) rfl (fun K_ hQ => ?_)
    refine step_callw (by kernel_rfl) 37 #[.agg (kc K), .string tFir, .slice (some ⟨gq, 0, none⟩) 1 1] (by kernel_rfl) ((rderive_ok K hK (unhide hKb) tFir (by decide) [lowL r 8] (some ⟨gq, 0, none⟩) 1 1 rfl (small_low r) x2 ((unhide hF).gr hB.gr) (Pr.one hnew (unhide lp))).mono ?_)
    rintro r x3 ⟨rfl, hg⟩
    refine ⟨_, rfl, ?_⟩
    replace hB := hB.more hg
    clear lp hnew
    obtain ⟨D, hD⟩ : ∃ D, D = okL r K tFir := ⟨_, rfl⟩
    rw [show spL K (infoL (tb tFir) [lowL r 8]) 32 = D from hD.symm]
    have hDl : D.length = 32 := by rw [hD, okL_len]
    replace hD := hide hD
    clear hg
    refine hQ.out _ _ (hB.get 0 (x := ⟨w.heap.size, pairv K f, 36⟩) rfl) (fun _ => ?_)
    clear hQ K_
    simp only [Act.put, List.setIfInBounds_toArray, List.set_cons_zero, List.set_cons_succ, List.getElem_toArray, List.getElem_cons_zero, List.getElem_cons_succ]
    refine any_one (i := 7) (by kernel_rfl) rfl (fun K_ hQ => ?_)
    refine step_storew 25 (.tmp 6) (.tmp 18) (w.heap.size + 1) (kc D) 25 (kc Z32) (by kernel_rfl) rfl (by kernel_rfl) (by kernel_rfl) (hB.get 1 (x := ⟨w.heap.size + 1, kc Z32, 25⟩) rfl) (by rw [Tryd.infoKey, kc_size, hDl]) ((show (kc Z32).size = 32 from rfl).trans ((kc_size _).trans hDl).symm) (kc_one _) ?_
    replace hB := hB.set 1 (x := ⟨w.heap.size + 1, kc Z32, 25⟩) rfl (kc D)
    simp only [List.set_cons_zero, List.set_cons_succ] at hB
    generalize World.setRow _ _ _ = x4 at *
    refine hQ.out _ _ (hB.get 0 (x := ⟨w.heap.size, pairv K f, 36⟩) rfl) (fun _ => ?_)
    clear hQ K_
    simp only [Act.put, List.setIfInBounds_toArray, List.set_cons_zero, List.set_cons_succ, List.getElem_toArray, List.getElem_cons_zero, List.getElem_cons_succ]
    refine any_done (by kernel_rfl) ?_
    have hDr : D = rkL r K f mine := by
      rw [unhide hD]
      unfold rkL
      rw [if_pos (unhide hmh)]
    replace hDr := hide hDr
    replace hB := hide hB
    go_wp2_with fail
    replace hB := unhide hB
    rw [unhide hT]
    exact bodyPost_ret (v := .agg (kc D)) (results_cell_row Tryd.results25 _ _ (w.heap.size + 1) 25 (kc D) (0, 0) _ rfl (hB.get 1 (x := ⟨w.heap.size + 1, kc D, 25⟩) rfl) Tryd.underlying25 rfl (by rw [Tryd.infoKey, kc_size, hDl])) rfl (⟨by rw [unhide hDr], hB.gr⟩)
  · have hmh := hide hmf
    clear hmf
    refine wp_region_lit ?_
    refine list_val (.pointer (some ⟨w.heap.size, 32, none⟩)) (by kernel_rfl) (by kernel_rfl) ?_
    simp only [Act.put, List.setIfInBounds_toArray, List.set_cons_zero, List.set_cons_succ, List.getElem_toArray, List.getElem_cons_zero, List.getElem_cons_succ]
    refine list_val (.bool f) (by kernel_rfl) (exec_pf _ (.tmp 8) rfl (w.heap.size) (by kernel_rfl) K hK f (hB.get 0 (x := ⟨w.heap.size, pairv K f, 36⟩) rfl)) ?_
    simp only [Act.put, List.setIfInBounds_toArray, List.set_cons_zero, List.set_cons_succ, List.getElem_toArray, List.getElem_cons_zero, List.getElem_cons_succ]
    refine list_val (.bool mine) (by kernel_rfl) (by kernel_rfl) ?_
    simp only [Act.put, List.setIfInBounds_toArray, List.set_cons_zero, List.set_cons_succ, List.getElem_toArray, List.getElem_cons_zero, List.getElem_cons_succ]
    refine list_val (.bool false) (by kernel_rfl) (by have h := unhide hmh; go_simp; try simpa [eq_comm] using h) ?_
    simp only [Act.put, List.setIfInBounds_toArray, List.set_cons_zero, List.set_cons_succ, List.getElem_toArray, List.getElem_cons_zero, List.getElem_cons_succ]
    refine wpList_nil ?_
    replace hB := hide hB
    go_upto_region 4 with fail
    replace hB := unhide hB
    refine any_start (S := fun v => v.heap[w.heap.size]? = some (.cells (pairv K f) 36 (0, 0))) (by kernel_rfl) ?_
    replace hB := hB.drew
    generalize World.drew _ = x0 at *
    simp only [List.size_toArray, List.length_cons, List.length_nil, Array.replicate, List.replicate]
    refine any_take (i := 0) (v := (.pointer (some ⟨w.heap.size, 0, none⟩))) #[false, false, false, false, false, false, false, false] rfl (by kernel_rfl) (by kernel_rfl) (by kernel_rfl) (by kernel_rfl) (fun _ _ _ h => h) (.inl ⟨by kernel_rfl, fun x_ hu => by kernel_rfl⟩) (hB.get 0 (x := ⟨w.heap.size, pairv K f, 36⟩) rfl) ?_
    simp only [Act.put, List.setIfInBounds_toArray, List.set_cons_zero, List.set_cons_succ, List.getElem_toArray, List.getElem_cons_zero, List.getElem_cons_succ]
    refine any_take (i := 1) (v := (.agg (kc K))) #[true, false, false, false, false, false, false, false] rfl (by kernel_rfl) (by kernel_rfl) (by kernel_rfl) (by kernel_rfl) (fun _ _ _ h => h) (.inl ⟨by kernel_rfl, fun x_ hu => exec_pk _ (.tmp 12) rfl (w.heap.size) (by kernel_rfl) K hK f hu⟩) (hB.get 0 (x := ⟨w.heap.size, pairv K f, 36⟩) rfl) ?_
    simp only [Act.put, List.setIfInBounds_toArray, List.set_cons_zero, List.set_cons_succ, List.getElem_toArray, List.getElem_cons_zero, List.getElem_cons_succ]
    refine any_take (i := 2) (v := (.string tSec)) #[true, true, false, false, false, false, false, false] rfl (by kernel_rfl) (by kernel_rfl) (by kernel_rfl) (by kernel_rfl) (fun _ _ _ h => h) (.inl ⟨by kernel_rfl, fun x_ hu => by kernel_rfl⟩) (hB.get 0 (x := ⟨w.heap.size, pairv K f, 36⟩) rfl) ?_
    simp only [Act.put, List.setIfInBounds_toArray, List.set_cons_zero, List.set_cons_succ, List.getElem_toArray, List.getElem_cons_zero, List.getElem_cons_succ]
    refine any_take (i := 3) (v := (.int .u64 r)) #[true, true, true, false, false, false, false, false] rfl (by kernel_rfl) (by kernel_rfl) (by kernel_rfl) (by kernel_rfl) (fun _ _ _ h => h) (.inl ⟨by kernel_rfl, fun x_ hu => by kernel_rfl⟩) (hB.get 0 (x := ⟨w.heap.size, pairv K f, 36⟩) rfl) ?_
    simp only [Act.put, List.setIfInBounds_toArray, List.set_cons_zero, List.set_cons_succ, List.getElem_toArray, List.getElem_cons_zero, List.getElem_cons_succ]
    refine any_one (i := 4) (by kernel_rfl) rfl (fun K_ hQ => ?_)
    refine step_callw (by kernel_rfl) 39 #[.int .u64 r] (by kernel_rfl) ((eeight_ok r hr.1 hr.2 x0).mono ?_)
    rintro r x1 ⟨v8, rfl, ho8, hg⟩
    refine ⟨_, rfl, ?_⟩
    obtain ⟨a8, c8, rfl, lp⟩ := ho8.lb' (lowL_isB r 8) 8 (lowL_len r 8)
    replace hB := hB.more hg
    replace lp := hide lp
    clear ho8
    clear hg
    refine hQ.out _ _ (hB.get 0 (x := ⟨w.heap.size, pairv K f, 36⟩) rfl) (fun _ => ?_)
    clear hQ K_
    simp only [Act.put, List.setIfInBounds_toArray, List.set_cons_zero, List.set_cons_succ, List.getElem_toArray, List.getElem_cons_zero, List.getElem_cons_succ]
    refine any_one (i := 5) (by kernel_rfl) rfl (fun K_ hQ => ?_)
    replace hB := hide hB
    replace hQ := hide hQ
    go_simp
    refine (unhide hQ).out _ _ ?_ (fun _ => ?_)
    · exact ((Gr.refl x1).alloc (.cells #[.slice a8 8 c8] 33)).blk ((unhide hB).get 0 (x := ⟨w.heap.size, pairv K f, 36⟩) rfl)
    clear hQ K_
    replace hB := unhide hB
    have hg := (Gr.refl x1).alloc (.cells #[.slice a8 8 c8] 33 (0, 0))
    have hnew := blk_new x1 (.cells #[.slice a8 8 c8] 33 (0, 0))
    replace hB := hB.more hg
    replace lp := hide ((unhide lp).gr hg)
    generalize World.alloc _ _ = x2 at *
    generalize x1.heap.size = gq at *
    clear hg
    simp only [Act.put, List.setIfInBounds_toArray, List.set_cons_zero, List.set_cons_succ, List.getElem_toArray, List.getElem_cons_zero, List.getElem_cons_succ]
    refine any_one (i := 6) (by kernel_rfl) rfl (fun K_ hQ => ?_)
    refine step_callw (by kernel_rfl) 37 #[.agg (kc K), .string tSec, .slice (some ⟨gq, 0, none⟩) 1 1] (by kernel_rfl) ((rderive_ok K hK (unhide hKb) tSec (by decide) [lowL r 8] (some ⟨gq, 0, none⟩) 1 1 rfl (small_low r) x2 ((unhide hF).gr hB.gr) (Pr.one hnew (unhide lp))).mono ?_)
    rintro r x3 ⟨rfl, hg⟩
    refine ⟨_, rfl, ?_⟩
    replace hB := hB.more hg
    clear lp hnew
    obtain ⟨D, hD⟩ : ∃ D, D = okL r K tSec := ⟨_, rfl⟩
    rw [show spL K (infoL (tb tSec) [lowL r 8]) 32 = D from hD.symm]
    have hDl : D.length = 32 := by rw [hD, okL_len]
    replace hD := hide hD
    clear hg
    refine hQ.out _ _ (hB.get 0 (x := ⟨w.heap.size, pairv K f, 36⟩) rfl) (fun _ => ?_)
    clear hQ K_
    simp only [Act.put, List.setIfInBounds_toArray, List.set_cons_zero, List.set_cons_succ, List.getElem_toArray, List.getElem_cons_zero, List.getElem_cons_succ]
    refine any_one (i := 7) (by kernel_rfl) rfl (fun K_ hQ => ?_)
    refine step_storew 25 (.tmp 6) (.tmp 18) (w.heap.size + 1) (kc D) 25 (kc Z32) (by kernel_rfl) rfl (by kernel_rfl) (by kernel_rfl) (hB.get 1 (x := ⟨w.heap.size + 1, kc Z32, 25⟩) rfl) (by rw [Tryd.infoKey, kc_size, hDl]) ((show (kc Z32).size = 32 from rfl).trans ((kc_size _).trans hDl).symm) (kc_one _) ?_
    replace hB := hB.set 1 (x := ⟨w.heap.size + 1, kc Z32, 25⟩) rfl (kc D)
    simp only [List.set_cons_zero, List.set_cons_succ] at hB
    generalize World.setRow _ _ _ = x4 at *
    refine hQ.out _ _ (hB.get 0 (x := ⟨w.heap.size, pairv K f, 36⟩) rfl) (fun _ => ?_)
    clear hQ K_
    simp only [Act.put, List.setIfInBounds_toArray, List.set_cons_zero, List.set_cons_succ, List.getElem_toArray, List.getElem_cons_zero, List.getElem_cons_succ]
    refine any_done (by kernel_rfl) ?_
    have hDr : D = rkL r K f mine := by
      rw [unhide hD]
      unfold rkL
      rw [if_neg (unhide hmh)]
    replace hDr := hide hDr
    replace hB := hide hB
    go_wp2_with fail
    replace hB := unhide hB
    rw [unhide hT]
    exact bodyPost_ret (v := .agg (kc D)) (results_cell_row Tryd.results25 _ _ (w.heap.size + 1) 25 (kc D) (0, 0) _ rfl (hB.get 1 (x := ⟨w.heap.size + 1, kc D, 25⟩) rfl) Tryd.underlying25 rfl (by rw [Tryd.infoKey, kc_size, hDl])) rfl (⟨by rw [unhide hDr], hB.gr⟩)
set_option maxHeartbeats 4000000 in
theorem edrop_ok (r : Int) (hr : 0 ≤ r ∧ r < 18446744073709551616) (Ky : List Int) (hKl : Ky.length = 32) (hKb : IsB Ky) (f : Bool) (w : World) (hF : Fst w) : Calls Tryd.prog 23 #[.agg (pairv Ky f), .int .u64 r] w (Drd (drL r Ky) w) := by
  obtain ⟨T, hT⟩ : ∃ T, T = Drd (drL r Ky) w := ⟨_, rfl⟩
  rw [← hT]
  replace hT := hide hT
  obtain ⟨SK, hSK⟩ : ∃ S, S = pairv Ky f := ⟨_, rfl⟩
  rw [← hSK]
  replace hSK := hide hSK
  replace hKb := hide hKb
  replace hF := hide hF
  go_enter Tryd.func23, Tryd.ntmps23
  go_upto_region 1 with fail
  have hB := (((Bl.nil w).new SK 36).new #[.int .u8 0, .int .u8 0, .int .u8 0, .int .u8 0, .int .u8 0, .int .u8 0, .int .u8 0, .int .u8 0, .int .u8 0, .int .u8 0, .int .u8 0, .int .u8 0, .int .u8 0, .int .u8 0, .int .u8 0, .int .u8 0] 42)
  simp only [size_alloc, List.nil_append, List.cons_append] at hB
  generalize World.alloc _ _ = u at *
  rw [unhide hSK] at hB
  replace hB : Bl w [⟨w.heap.size, pairv Ky f, 36⟩, ⟨w.heap.size + 1, kc ZD16, 42⟩] u := hB
  refine any_start (S := fun v => v.heap[w.heap.size]? = some (.cells (pairv Ky f) 36 (0, 0))) (by kernel_rfl) ?_
  replace hB := hB.drew
  generalize World.drew _ = x0 at *
  simp only [List.size_toArray, List.length_cons, List.length_nil, Array.replicate, List.replicate]
  refine any_take (i := 0) (v := (.pointer (some ⟨w.heap.size, 0, none⟩))) #[false, false, false, false, false, false, false, false] rfl (by kernel_rfl) (by kernel_rfl) (by kernel_rfl) (by kernel_rfl) (fun _ _ _ h => h) (.inl ⟨by kernel_rfl, fun x_ hu => by kernel_rfl⟩) (hB.get 0 (x := ⟨w.heap.size, pairv Ky f, 36⟩) rfl) ?_
  simp only [Act.put, List.setIfInBounds_toArray, List.set_cons_zero, List.set_cons_succ, List.getElem_toArray, List.getElem_cons_zero, List.getElem_cons_succ]
  refine any_take (i := 1) (v := (.agg (kc Ky))) #[true, false, false, false, false, false, false, false] rfl (by kernel_rfl) (by kernel_rfl) (by kernel_rfl) (by kernel_rfl) (fun _ _ _ h => h) (.inl ⟨by kernel_rfl, fun x_ hu => exec_pk _ (.tmp 7) rfl (w.heap.size) (by kernel_rfl) Ky hKl f hu⟩) (hB.get 0 (x := ⟨w.heap.size, pairv Ky f, 36⟩) rfl) ?_
  simp only [Act.put, List.setIfInBounds_toArray, List.set_cons_zero, List.set_cons_succ, List.getElem_toArray, List.getElem_cons_zero, List.getElem_cons_succ]
  refine any_take (i := 2) (v := (.int .u64 r)) #[true, true, false, false, false, false, false, false] rfl (by kernel_rfl) (by kernel_rfl) (by kernel_rfl) (by kernel_rfl) (fun _ _ _ h => h) (.inl ⟨by kernel_rfl, fun x_ hu => by kernel_rfl⟩) (hB.get 0 (x := ⟨w.heap.size, pairv Ky f, 36⟩) rfl) ?_
  simp only [Act.put, List.setIfInBounds_toArray, List.set_cons_zero, List.set_cons_succ, List.getElem_toArray, List.getElem_cons_zero, List.getElem_cons_succ]
  refine float_first (fun q u => NKe w.heap.size u q) 5 (fun b_ => #[true, true, true, false, false, false, b_, false]) 6 3 false rfl rfl (fun v k => k.blk (hB.get 0 (x := ⟨w.heap.size, pairv Ky f, 36⟩) rfl)) (by kernel_rfl) (fun b_ => by cases b_ <;> rfl) ?_ ?_
  all_goals simp only [fw1, Act.put, List.setIfInBounds_toArray, List.set_cons_zero, List.set_cons_succ, List.getElem_toArray, List.getElem_cons_zero, List.getElem_cons_succ]
  · intro q_ x_ hgx K hK
    refine wpOp_step (o := _) rfl (fun K' hK' => ?_)
    replace hK' := hide hK'
    replace hK := hide hK
    refine step_val (.pointer (some ⟨x_.heap.size, 0, none⟩)) (x_.alloc (.cells (kc Z32) 25 (0, 0))) (by kernel_rfl) (by kernel_rfl) ?_
    exact unhide hK' _ _ (unhide hK _ _ ((Gr.refl _).alloc _) (⟨_, rfl, Nat.le_trans hB.gr.size hgx.size, blk_new _ _⟩))
  intro b1_3 q1_3 x1_3 hg hTq hall
  replace hB := hB.more hg
  have hgo := hg
  clear hg
  clear hall
  refine wpOp_step (o := _) rfl (fun K hK => ?_)
  replace hK := hide hK
  refine step_callw (by kernel_rfl) 39 #[.int .u64 r] (by kernel_rfl) ((eeight_ok r hr.1 hr.2 x1_3).mono ?_)
  rintro r y1 ⟨v8, rfl, ho8, hg⟩
  refine ⟨_, rfl, ?_⟩
  replace hTq := fun e => NKe.gr (hTq e) hg
  obtain ⟨a8, c8, rfl, lp⟩ := ho8.lb' (lowL_isB r 8) 8 (lowL_len r 8)
  replace hB := hB.more hg
  replace lp := hide lp
  clear ho8
  refine unhide hK _ _ ⟨(hB.get 0 (x := ⟨w.heap.size, pairv Ky f, 36⟩) rfl), ?_⟩
  clear hK K
  simp only [Act.put, List.setIfInBounds_toArray, List.set_cons_zero, List.set_cons_succ, List.getElem_toArray, List.getElem_cons_zero, List.getElem_cons_succ]
  refine float_again (fun q u => NKe w.heap.size u q) 5 (fun b_ => #[true, true, true, true, false, false, b_, false]) 6 4 false (b := b1_3) (q := q1_3) rfl rfl hTq (fun v k => k.blk (hB.get 0 (x := ⟨w.heap.size, pairv Ky f, 36⟩) rfl)) (by kernel_rfl) (fun b_ => by cases b_ <;> rfl) ?_ ?_
  all_goals simp only [fw1, Act.put, List.setIfInBounds_toArray, List.set_cons_zero, List.set_cons_succ, List.getElem_toArray, List.getElem_cons_zero, List.getElem_cons_succ]
  · intro q_ x_ hgx K hK
    refine wpOp_step (o := _) rfl (fun K' hK' => ?_)
    replace hK' := hide hK'
    replace hK := hide hK
    refine step_val (.pointer (some ⟨x_.heap.size, 0, none⟩)) (x_.alloc (.cells (kc Z32) 25 (0, 0))) (by kernel_rfl) (by kernel_rfl) ?_
    exact unhide hK' _ _ (unhide hK _ _ ((Gr.refl _).alloc _) (⟨_, rfl, Nat.le_trans hB.gr.size hgx.size, blk_new _ _⟩))
  clear hTq
  intro b1_4 q1_4 x1_4 hg hTq hall
  replace hB := hB.more hg
  have hgo := hg
  clear hg
  clear hall
  refine wpOp_step (o := _) rfl (fun K hK => ?_)
  replace hK := hide hK
  replace lp := hide ((unhide lp).gr hgo)
  replace hB := hide hB
  refine step_val (.slice (some ⟨x1_4.heap.size, 0, none⟩) 1 1) (x1_4.alloc (.cells #[.slice a8 8 c8] 33 (0, 0))) (by kernel_rfl) (by kernel_rfl) ?_
  replace hB := unhide hB
  have hg := (Gr.refl x1_4).alloc (.cells #[.slice a8 8 c8] 33 (0, 0))
  have hnew := blk_new x1_4 (.cells #[.slice a8 8 c8] 33 (0, 0))
  replace hB := hB.more hg
  replace lp := hide ((unhide lp).gr hg)
  replace hTq := fun e => NKe.gr (hTq e) hg
  refine unhide hK _ _ ⟨(hB.get 0 (x := ⟨w.heap.size, pairv Ky f, 36⟩) rfl), ?_⟩
  clear hK K
  generalize World.alloc _ _ = y2 at *
  generalize x1_4.heap.size = gq at *
  clear hg
  simp only [Act.put, List.setIfInBounds_toArray, List.set_cons_zero, List.set_cons_succ, List.getElem_toArray, List.getElem_cons_zero, List.getElem_cons_succ]
  refine float_again (fun q u => NKe w.heap.size u q) 5 (fun b_ => #[true, true, true, true, true, false, b_, false]) 6 5 false (b := b1_4) (q := q1_4) rfl rfl hTq (fun v k => k.blk (hB.get 0 (x := ⟨w.heap.size, pairv Ky f, 36⟩) rfl)) (by kernel_rfl) (fun b_ => by cases b_ <;> rfl) ?_ ?_
  all_goals simp only [fw1, Act.put, List.setIfInBounds_toArray, List.set_cons_zero, List.set_cons_succ, List.getElem_toArray, List.getElem_cons_zero, List.getElem_cons_succ]
  · intro q_ x_ hgx K hK
    refine wpOp_step (o := _) rfl (fun K' hK' => ?_)
    replace hK' := hide hK'
    replace hK := hide hK
    refine step_val (.pointer (some ⟨x_.heap.size, 0, none⟩)) (x_.alloc (.cells (kc Z32) 25 (0, 0))) (by kernel_rfl) (by kernel_rfl) ?_
    exact unhide hK' _ _ (unhide hK _ _ ((Gr.refl _).alloc _) (⟨_, rfl, Nat.le_trans hB.gr.size hgx.size, blk_new _ _⟩))
  clear hTq
  intro b1_5 q1_5 x1_5 hg hTq hall
  replace hB := hB.more hg
  have hgo := hg
  clear hg
  clear hall
  refine wpOp_step (o := _) rfl (fun K hK => ?_)
  replace hK := hide hK
  replace hnew := hgo.blk hnew
  replace lp := hide ((unhide lp).gr hgo)
  refine step_callw (by kernel_rfl) 37 #[.agg (kc Ky), .string tDro, .slice (some ⟨gq, 0, none⟩) 1 1] (by kernel_rfl) ((rderive_ok Ky hKl (unhide hKb) tDro (by decide) [lowL r 8] (some ⟨gq, 0, none⟩) 1 1 rfl (small_low r) x1_5 ((unhide hF).gr hB.gr) (Pr.one hnew (unhide lp))).mono ?_)
  rintro r y3 ⟨rfl, hg⟩
  refine ⟨_, rfl, ?_⟩
  replace hTq := fun e => NKe.gr (hTq e) hg
  replace hB := hB.more hg
  clear lp hnew
  obtain ⟨D, hD⟩ : ∃ D, D = okL r Ky tDro := ⟨_, rfl⟩
  rw [show spL Ky (infoL (tb tDro) [lowL r 8]) 32 = D from hD.symm]
  have hDl : D.length = 32 := by rw [hD, okL_len]
  replace hD := hide hD
  refine unhide hK _ _ ⟨(hB.get 0 (x := ⟨w.heap.size, pairv Ky f, 36⟩) rfl), ?_⟩
  clear hK K
  simp only [Act.put, List.setIfInBounds_toArray, List.set_cons_zero, List.set_cons_succ, List.getElem_toArray, List.getElem_cons_zero, List.getElem_cons_succ]
  refine float_again (fun q u => NKe w.heap.size u q) 5 (fun b_ => #[true, true, true, true, true, true, b_, false]) 6 7 true (b := b1_5) (q := q1_5) rfl rfl hTq (fun v k => k.blk (hB.get 0 (x := ⟨w.heap.size, pairv Ky f, 36⟩) rfl)) (by kernel_rfl) (fun b_ => by cases b_ <;> rfl) ?_ ?_
  all_goals simp only [fw1, Act.put, List.setIfInBounds_toArray, List.set_cons_zero, List.set_cons_succ, List.getElem_toArray, List.getElem_cons_zero, List.getElem_cons_succ]
  · intro q_ x_ hgx K hK
    refine wpOp_step (o := _) rfl (fun K' hK' => ?_)
    replace hK' := hide hK'
    replace hK := hide hK
    refine step_val (.pointer (some ⟨x_.heap.size, 0, none⟩)) (x_.alloc (.cells (kc Z32) 25 (0, 0))) (by kernel_rfl) (by kernel_rfl) ?_
    exact unhide hK' _ _ (unhide hK _ _ ((Gr.refl _).alloc _) (⟨_, rfl, Nat.le_trans hB.gr.size hgx.size, blk_new _ _⟩))
  clear hTq
  intro b1_7 q1_7 x1_7 hg hTq hall
  replace hB := hB.more hg
  have hgo := hg
  clear hg
  obtain rfl : b1_7 = true := hall (by trivial)
  replace hTq := hTq rfl
  clear hall
  obtain ⟨gx, rfl, hgx1, hgb⟩ := hTq
  refine wpOp_step (o := _) rfl (fun K hK => ?_)
  replace hK := hide hK
  refine step_storew 25 (.tmp 5) (.tmp 12) gx (kc D) 25 (kc Z32) (by kernel_rfl) rfl (by kernel_rfl) (by kernel_rfl) hgb (by rw [Tryd.infoKey, kc_size, hDl]) (by rw [kc_size, kc_size, hDl]; rfl) (kc_one _) ?_
  replace hB := hB.add ⟨gx, kc Z32, 25⟩ hgb hgx1 (fun y hy => by
    simp only [List.mem_cons, List.not_mem_nil, or_false] at hy
    rcases hy with rfl | rfl
    · exact blk_ne (hB.get 0 (x := ⟨w.heap.size, pairv Ky f, 36⟩) rfl) hgb (by dsimp only; decide)
    · exact blk_ne (hB.get 1 (x := ⟨w.heap.size + 1, kc ZD16, 42⟩) rfl) hgb (by dsimp only; decide))
  simp only [List.nil_append, List.cons_append] at hB
  replace hB := hB.set 2 (x := ⟨gx, kc Z32, 25⟩) rfl (kc D)
  simp only [List.set_cons_zero, List.set_cons_succ] at hB
  generalize World.setRow _ _ _ = y4 at *
  refine unhide hK _ _ ⟨hB.get 0 (x := ⟨w.heap.size, pairv Ky f, 36⟩) rfl, ?_⟩
  clear hK K
  simp only [Act.put, List.setIfInBounds_toArray, List.set_cons_zero, List.set_cons_succ, List.getElem_toArray, List.getElem_cons_zero, List.getElem_cons_succ]
  refine any_done (by kernel_rfl) ?_
  replace hB := hide hB
  go_upto_region 2 with fail
  replace hB := unhide hB
  refine wp_region_lit ?_
  refine list_valw (.pointer (some ⟨y4.heap.size, 0, none⟩)) (y4.alloc (.cells (kc ZD16) 42 (0, 0))) (by kernel_rfl) (by kernel_rfl) ?_
  replace hB := hB.new (kc ZD16) 42
  simp only [List.nil_append, List.cons_append] at hB
  generalize World.alloc _ _ = y5 at *
  generalize y4.heap.size = gd at *
  replace hB : Bl w [⟨w.heap.size, pairv Ky f, 36⟩, ⟨w.heap.size + 1, kc ZD16, 42⟩, ⟨gx, kc D, 25⟩, ⟨gd, kc ZD16, 42⟩] y5 := hB
  simp only [Act.put, List.setIfInBounds_toArray, List.set_cons_zero, List.set_cons_succ, List.getElem_toArray, List.getElem_cons_zero, List.getElem_cons_succ]
  refine wpList_nil ?_
  replace hB := hide hB
  go_upto_region 3 with fail
  replace hB := unhide hB
  refine any_start (S := fun (_ : World) => True) (by kernel_rfl) ?_
  replace hB := hB.drew
  generalize World.drew _ = z0 at *
  simp only [List.size_toArray, List.length_cons, List.length_nil, Array.replicate, List.replicate]
  refine any_take (i := 0) (v := (.slice (some ⟨gd, 0, none⟩) 16 16)) #[false, false, false] rfl (by kernel_rfl) (by kernel_rfl) (by kernel_rfl) (by kernel_rfl) (fun _ _ _ h => h) (.inl ⟨by kernel_rfl, fun x_ hu => by kernel_rfl⟩) trivial ?_
  simp only [Act.put, List.setIfInBounds_toArray, List.set_cons_zero, List.set_cons_succ, List.getElem_toArray, List.getElem_cons_zero, List.getElem_cons_succ]
  refine any_take (i := 1) (v := (.slice (some ⟨gx, 0, none⟩) 32 32)) #[true, false, false] rfl (by kernel_rfl) (by kernel_rfl) (by kernel_rfl) (by kernel_rfl) (fun _ _ _ h => h) (.inl ⟨by kernel_rfl, fun x_ hu => by kernel_rfl⟩) trivial ?_
  simp only [Act.put, List.setIfInBounds_toArray, List.set_cons_zero, List.set_cons_succ, List.getElem_toArray, List.getElem_cons_zero, List.getElem_cons_succ]
  refine any_one (i := 2) (by kernel_rfl) rfl (fun K hK => ?_)
  have hDD : drL r Ky = D.take 16 := by rw [unhide hD]; rfl
  obtain ⟨E, hE⟩ : ∃ E, E = D.take 16 := ⟨_, rfl⟩
  have hEl : E.length = 16 := by rw [hE, List.length_take, hDl]; rfl
  have hEa := (kc_at (hB.get 2 (x := ⟨gx, kc D, 25⟩) rfl)).take 16
  rw [← hE] at hEa
  rw [← hE] at hDD
  clear hE
  replace hDD := hide hDD
  rw [if_pos (by kernel_rfl)]
  refine copy_wp (.tmp 13) (.tmp 14) rfl gd 0 16 16 (some ⟨gx, 0, none⟩) 32 32 (by kernel_rfl) (by kernel_rfl) (ZD16.map (Value.int .u8)) 42 (hB.get 3 (x := ⟨gd, kc ZD16, 42⟩) rfl) E (by rw [hEl]; rfl) (.inr ⟨gx, 0, rfl, hEa⟩) (by rw [hEl]; decide) ?_
  replace hB := hB.copy16 3 (Z := ZD16) (D := E) rfl rfl hEl
  simp only [List.set_cons_zero, List.set_cons_succ] at hB
  refine hK.out _ _ trivial (fun _ => ?_)
  clear hK K
  generalize World.setCells _ _ _ _ = z3 at *
  try simp only [Act.put, List.setIfInBounds_toArray, List.set_cons_zero, List.set_cons_succ, List.getElem_toArray, List.getElem_cons_zero, List.getElem_cons_succ]
  refine any_done (by kernel_rfl) ?_
  replace hB := hide hB
  go_upto_region 4 with fail
  replace hB := unhide hB
  refine wp_region_lit ?_
  refine list_val (.agg (kc E)) (by kernel_rfl) (exec_arr _ 42 (.tmp 6) rfl (gd) (by kernel_rfl) (kc E) 42 _ (hB.get 3 (x := ⟨gd, kc E, 42⟩) rfl) Tryd.underlying42 rfl (by rw [Tryd.infoDrop, kc_size, hEl])) ?_
  simp only [Act.put, List.setIfInBounds_toArray, List.set_cons_zero, List.set_cons_succ, List.getElem_toArray, List.getElem_cons_zero, List.getElem_cons_succ]
  refine list_store 42 (.tmp 4) (.tmp 16) (w.heap.size + 1) (kc E) 42 (kc ZD16) (by kernel_rfl) rfl (by kernel_rfl) (by kernel_rfl) (hB.get 1 (x := ⟨w.heap.size + 1, kc ZD16, 42⟩) rfl) (by rw [Tryd.infoDrop, kc_size, hEl]) (by rw [kc_size, kc_size, hEl]; rfl) (kc_one _) ?_
  replace hB := hB.set 1 (x := ⟨w.heap.size + 1, kc ZD16, 42⟩) rfl (kc E)
  simp only [List.set_cons_zero, List.set_cons_succ] at hB
  generalize World.setRow _ _ _ = z4 at *
  simp only [Act.put, List.setIfInBounds_toArray, List.set_cons_zero, List.set_cons_succ, List.getElem_toArray, List.getElem_cons_zero, List.getElem_cons_succ]
  refine wpList_nil ?_
  replace hB := hide hB
  go_wp2_with fail
  replace hB := unhide hB
  rw [unhide hT]
  exact bodyPost_ret (v := .agg (kc E)) (results_cell_row Tryd.results23 _ _ (w.heap.size + 1) 42 (kc E) (0, 0) _ rfl (hB.get 1 (x := ⟨w.heap.size + 1, kc E, 42⟩) rfl) Tryd.underlying42 rfl (by rw [Tryd.infoDrop, kc_size, hEl])) rfl (⟨by rw [unhide hDD], hB.gr⟩)
end Go.Proofs.YtpmgmpihmpifgaaDoor
