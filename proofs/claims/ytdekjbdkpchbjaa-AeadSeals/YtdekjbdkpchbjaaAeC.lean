/-
  What Seal, Open and Count answer.
-/
import Derived.Test.YtdekjbdkpchbjaaAeT
namespace Go.Proofs.Ytdekjbdkpchbjaa
open Go.RowKit
set_option maxRecDepth 100000
set_option linter.unusedSimpArgs false
set_option linter.unusedVariables false
/-- new bytes -/
def Obd (L : List Int) (w : World) (r : Ending) (w' : World) : Prop := ∃ v, r = .returned v ∧ Ob w.heap.size w' v L ∧ Gr w w'
theorem Ob.up {b b' : Nat} {w : World} {v : Value} {L : List Int} (h : Ob b w v L) (k : b' ≤ b) : Ob b' w v L := by
  obtain ⟨h1, h2 | ⟨g, cap, cur, h2, h3, h4⟩⟩ := h
  · exact ⟨h1, .inl h2⟩
  · exact ⟨h1, .inr ⟨g, cap, cur, h2, Nat.le_trans k h3, h4⟩⟩
theorem lay_cnt (n : Int) : lay ZN 4 (lowL n 8) = cntL n := by
  unfold lay cntL ZN
  rw [lowL_len, List.drop_of_length_le (by simp), List.append_nil]
  rfl
set_option maxHeartbeats 4000000 in
theorem seal_ok (K N : List Int) (hK : K.length = 32) (hN : N.length = 12) (hKb : IsB K) (hNb : IsB N) (A P : List Int) (s s2 : Option Addr) (n n2 cap cap2 : Nat) (hbig : n2 ≤ 20000) (w : World) (la : Lb w s n cap A) (lp : Lb w s2 n2 cap2 P) : Calls Try.prog 14 #[.agg (kc K), .agg (kc N), .slice s n cap, .slice s2 n2 cap2] w (Obd (sealL K N A P) w) := by
  obtain ⟨T, hT⟩ : ∃ T, T = Obd (sealL K N A P) w := ⟨_, rfl⟩
  rw [← hT]
  replace hT := hide hT
  obtain ⟨SK, hSK⟩ : ∃ S, S = kc K := ⟨_, rfl⟩
  obtain ⟨SN, hSN⟩ : ∃ S, S = kc N := ⟨_, rfl⟩
  rw [← hSK, ← hSN]
  replace hSK := hide hSK
  replace hSN := hide hSN
  have hPl := hide lp.len
  replace hKb := hide hKb
  replace hNb := hide hNb
  replace la := hide la
  replace lp := hide lp
  go_enter Try.func14, Try.ntmps14
  go_upto_region 1 with fail
  have hB := (((Bl.nil w).new SK 23).new SN 25)
  simp only [size_alloc, List.nil_append, List.cons_append] at hB
  generalize World.alloc _ _ = u at *
  rw [unhide hSK, unhide hSN] at hB
  replace hB : Bl w [⟨w.heap.size, kc K, 23⟩, ⟨w.heap.size + 1, kc N, 25⟩] u := hB
  refine wp_region_lit ?_
  refine list_val (.agg (kc K)) (by kernel_rfl) (exec_arr _ 23 (.tmp 4) rfl (w.heap.size) (by kernel_rfl) (kc K) 23 _ (hB.get 0 (x := ⟨w.heap.size, kc K, 23⟩) rfl) Try.underlying23 rfl (by rw [Try.infoKey, kc_size, hK])) ?_
  simp only [Act.put, List.setIfInBounds_toArray, List.set_cons_zero, List.set_cons_succ, List.getElem_toArray, List.getElem_cons_zero, List.getElem_cons_succ]
  refine list_val (.agg (kc N)) (by kernel_rfl) (exec_arr _ 25 (.tmp 5) rfl (w.heap.size + 1) (by kernel_rfl) (kc N) 25 _ (hB.get 1 (x := ⟨w.heap.size + 1, kc N, 25⟩) rfl) Try.underlying25 rfl (by rw [Try.infoN, kc_size, hN])) ?_
  simp only [Act.put, List.setIfInBounds_toArray, List.set_cons_zero, List.set_cons_succ, List.getElem_toArray, List.getElem_cons_zero, List.getElem_cons_succ]
  refine list_val (.slice s2 n2 cap2) (by kernel_rfl) (by kernel_rfl) ?_
  simp only [Act.put, List.setIfInBounds_toArray, List.set_cons_zero, List.set_cons_succ, List.getElem_toArray, List.getElem_cons_zero, List.getElem_cons_succ]
  have hgw := hB.gr.size
  refine list_call 23 #[.agg (kc K), .int .u32 1, .agg (kc N), .slice s2 n2 cap2] (by kernel_rfl) (by kernel_rfl) ((xor_ok K N hK hN (unhide hKb) (unhide hNb) 1 ⟨by decide, by decide⟩ P _ n2 cap2 (by omega) _ ((unhide lp).gr hB.gr)).mono ?_)
  rintro r u1 ⟨gx, rfl, hgx, hx, hg⟩
  refine ⟨_, rfl, ?_⟩
  replace hB := hB.more hg
  have hXl : Hid ((xl K N 1 P).length = n2) := by rw [xl_len]; exact unhide hPl
  have hXb := hide (xl_isB K N 1 P)
  have hSe : Hid (sealL K N A P = xl K N 1 P ++ tagL K N A (xl K N 1 P)) := rfl
  generalize xl K N 1 P = X at *
  have ob : Ob w.heap.size u1 (.slice (some ⟨gx, 0, none⟩) n2 n2) X := ob_of hx (unhide hXl) (Nat.le_trans hgw hgx) (by omega)
  rw [unhide hPl]
  have lx : Lb u1 (some ⟨gx, 0, none⟩) n2 n2 X := kc_lb hx (unhide hXl) (unhide hXb) (by omega)
  clear hg hx hgx hgw
  simp only [Act.put, List.setIfInBounds_toArray, List.set_cons_zero, List.set_cons_succ, List.getElem_toArray, List.getElem_cons_zero, List.getElem_cons_succ]
  (refine wpList_step fun K hK => ?_; replace hK := hide hK; go_simp; refine unhide hK _ _ ?_; clear hK K)
  refine wpList_nil ?_
  replace hB := hide hB
  replace ob := hide ob
  replace lx := hide lx
  go_upto_region 2 with fail
  replace hB := unhide hB
  replace ob := unhide ob
  replace lx := unhide lx
  refine wp_region_lit ?_
  refine list_val (.agg (kc K)) (by kernel_rfl) (exec_arr _ 23 (.tmp 4) rfl (w.heap.size) (by kernel_rfl) (kc K) 23 _ (hB.get 0 (x := ⟨w.heap.size, kc K, 23⟩) rfl) Try.underlying23 rfl (by rw [Try.infoKey, kc_size, hK])) ?_
  simp only [Act.put, List.setIfInBounds_toArray, List.set_cons_zero, List.set_cons_succ, List.getElem_toArray, List.getElem_cons_zero, List.getElem_cons_succ]
  refine list_val (.agg (kc N)) (by kernel_rfl) (exec_arr _ 25 (.tmp 5) rfl (w.heap.size + 1) (by kernel_rfl) (kc N) 25 _ (hB.get 1 (x := ⟨w.heap.size + 1, kc N, 25⟩) rfl) Try.underlying25 rfl (by rw [Try.infoN, kc_size, hN])) ?_
  simp only [Act.put, List.setIfInBounds_toArray, List.set_cons_zero, List.set_cons_succ, List.getElem_toArray, List.getElem_cons_zero, List.getElem_cons_succ]
  refine list_val (.slice s n cap) (by kernel_rfl) (by kernel_rfl) ?_
  simp only [Act.put, List.setIfInBounds_toArray, List.set_cons_zero, List.set_cons_succ, List.getElem_toArray, List.getElem_cons_zero, List.getElem_cons_succ]
  refine list_val (.slice (some ⟨gx, 0, none⟩) n2 n2) (by kernel_rfl) (by kernel_rfl) ?_
  simp only [Act.put, List.setIfInBounds_toArray, List.set_cons_zero, List.set_cons_succ, List.getElem_toArray, List.getElem_cons_zero, List.getElem_cons_succ]
  refine list_call 18 #[.agg (kc K), .agg (kc N), .slice s n cap, .slice (some ⟨gx, 0, none⟩) n2 n2] (by kernel_rfl) (by kernel_rfl) ((atag_ok K N hK hN (unhide hKb) (unhide hNb) A X s (some ⟨gx, 0, none⟩) n n2 cap n2 _ ((unhide la).gr hB.gr) lx).mono ?_)
  rintro r u2 ⟨rfl, hg⟩
  refine ⟨_, rfl, ?_⟩
  replace hB := hB.more hg
  replace ob := ob.gr hg
  clear hg lx
  have hYl := tagL_len K N A X
  generalize tagL K N A X = Y at *
  simp only [Act.put, List.setIfInBounds_toArray, List.set_cons_zero, List.set_cons_succ, List.getElem_toArray, List.getElem_cons_zero, List.getElem_cons_succ]
  replace hB := hide hB
  (refine wpList_step fun K hK => ?_; replace hK := hide hK; go_simp; refine unhide hK _ _ ?_; clear hK K)
  replace ob := ob.gr ((Gr.refl u2).alloc (.cells #[.int .u8 0, .int .u8 0, .int .u8 0, .int .u8 0, .int .u8 0, .int .u8 0, .int .u8 0, .int .u8 0, .int .u8 0, .int .u8 0, .int .u8 0, .int .u8 0, .int .u8 0, .int .u8 0, .int .u8 0, .int .u8 0] 41 (0, 0)))
  replace hB := (unhide hB).new #[.int .u8 0, .int .u8 0, .int .u8 0, .int .u8 0, .int .u8 0, .int .u8 0, .int .u8 0, .int .u8 0, .int .u8 0, .int .u8 0, .int .u8 0, .int .u8 0, .int .u8 0, .int .u8 0, .int .u8 0, .int .u8 0] 41
  simp only [List.nil_append, List.cons_append] at hB
  generalize World.alloc _ _ = u3 at *
  generalize u2.heap.size = h10 at *
  replace hB : Bl w [⟨w.heap.size, kc K, 23⟩, ⟨w.heap.size + 1, kc N, 25⟩, ⟨h10, kc ZT, 41⟩] u3 := hB
  have ob2 := ob.other (hB.get 2 (x := ⟨h10, kc ZT, 41⟩) rfl) (show (41 : TypeId) ≠ 5 by decide) (kc Y)
  clear ob
  refine list_store 41 (.tmp 10) (.tmp 19) (h10) (kc Y) 41 (kc ZT) (by kernel_rfl) rfl (by kernel_rfl) (by kernel_rfl) (hB.get 2 (x := ⟨h10, kc ZT, 41⟩) rfl) (by rw [Try.infoT, kc_size, hYl]) ((show (kc ZT).size = 16 from rfl).trans ((kc_size _).trans hYl).symm) (kc_one _) ?_
  replace hB := hB.set 2 (x := ⟨h10, kc ZT, 41⟩) rfl (kc Y)
  simp only [List.set_cons_zero, List.set_cons_succ] at hB
  generalize World.setRow _ _ _ = u4 at *
  simp only [Act.put, List.setIfInBounds_toArray, List.set_cons_zero, List.set_cons_succ, List.getElem_toArray, List.getElem_cons_zero, List.getElem_cons_succ]
  refine wpList_nil ?_
  replace hB := hide hB
  replace ob2 := hide ob2
  go_upto_region 3 with fail
  replace hB := unhide hB
  replace ob2 := unhide ob2
  refine wp_region_lit ?_
  refine list_val (.slice (some ⟨gx, 0, none⟩) n2 n2) (by kernel_rfl) (by kernel_rfl) ?_
  simp only [Act.put, List.setIfInBounds_toArray, List.set_cons_zero, List.set_cons_succ, List.getElem_toArray, List.getElem_cons_zero, List.getElem_cons_succ]
  refine list_val (.slice (some ⟨h10, 0, none⟩) 16 16) (by kernel_rfl) (by kernel_rfl) ?_
  simp only [Act.put, List.setIfInBounds_toArray, List.set_cons_zero, List.set_cons_succ, List.getElem_toArray, List.getElem_cons_zero, List.getElem_cons_succ]
  refine app_bs (by kernel_rfl) (.tmp 20) (.tmp 21) rfl w.heap.size _ X rfl ob2 (some ⟨h10, 0, none⟩) 16 16 Y rfl hYl (.inr ⟨h10, 0, rfl, kc_at (hB.get 2 (x := ⟨h10, kc Y, 41⟩) rfl)⟩) (by rw [unhide hXl]; omega) hB.gr.size ?_
  intro v2 u5 ob5 hgr
  simp only [Act.put, List.setIfInBounds_toArray, List.set_cons_zero, List.set_cons_succ, List.getElem_toArray, List.getElem_cons_zero, List.getElem_cons_succ]
  have hG := Ob.grown ob2 (Nat.le_refl _) hB.gr hgr
  rw [← unhide hSe] at ob5
  clear hgr ob2 hB
  (refine wpList_step fun K hK => ?_; replace hK := hide hK; go_simp; refine unhide hK _ _ ?_; clear hK K)
  refine wpList_nil ?_
  have hP : Hid (Obd (sealL K N A P) w (.returned v2) u5) := ⟨v2, rfl, ob5, hG⟩
  clear ob5 hG
  go_wp2_with fail
  rw [unhide hT]
  exact unhide hP
set_option maxHeartbeats 4000000 in
theorem count_ok (n : Int) (hn : 0 ≤ n) (w : World) : Calls Try.prog 20 #[.int .u64 n] w (Tg (cntL n) w) := by
  obtain ⟨T, hT⟩ : ∃ T, T = Tg (cntL n) w := ⟨_, rfl⟩
  rw [← hT]
  replace hT := hide hT
  go_enter Try.func20, Try.ntmps20
  go_upto_region 2 with fail
  have hB := (((Bl.nil w).new #[.int .u8 0, .int .u8 0, .int .u8 0, .int .u8 0, .int .u8 0, .int .u8 0, .int .u8 0, .int .u8 0, .int .u8 0, .int .u8 0, .int .u8 0, .int .u8 0] 25).new #[.int .u8 0, .int .u8 0, .int .u8 0, .int .u8 0, .int .u8 0, .int .u8 0, .int .u8 0, .int .u8 0, .int .u8 0, .int .u8 0, .int .u8 0, .int .u8 0] 25)
  simp only [size_alloc, List.nil_append, List.cons_append] at hB
  generalize World.alloc _ _ = u at *
  replace hB : Bl w [⟨w.heap.size, kc ZN, 25⟩, ⟨w.heap.size + 1, kc ZN, 25⟩] u := hB
  refine any_start (S := fun _ => True) (by kernel_rfl) ?_
  replace hB := hB.drew
  generalize World.drew _ = x0 at *
  simp only [List.size_toArray, List.length_cons, List.length_nil, Array.replicate, List.replicate]
  refine any_take (i := 0) (v := (.slice (some ⟨w.heap.size + 1, 4, none⟩) 8 8)) #[false, false, false, false] rfl (by kernel_rfl) (by kernel_rfl) (by kernel_rfl) (by kernel_rfl) (fun _ _ _ h => h) (.inl ⟨by kernel_rfl, fun x_ hu => by kernel_rfl⟩) trivial ?_
  simp only [Act.put, List.setIfInBounds_toArray, List.set_cons_zero, List.set_cons_succ, List.getElem_toArray, List.getElem_cons_zero, List.getElem_cons_succ]
  refine any_take (i := 1) (v := (.int .u64 n)) #[true, false, false, false] rfl (by kernel_rfl) (by kernel_rfl) (by kernel_rfl) (by kernel_rfl) (fun _ _ _ h => h) (.inl ⟨by kernel_rfl, fun x_ hu => by kernel_rfl⟩) trivial ?_
  simp only [Act.put, List.setIfInBounds_toArray, List.set_cons_zero, List.set_cons_succ, List.getElem_toArray, List.getElem_cons_zero, List.getElem_cons_succ]
  refine any_one (i := 2) (by kernel_rfl) rfl (fun K hK => ?_)
  refine step_callw (by kernel_rfl) 29 #[.slice none 0 0, .int .u64 n] (by kernel_rfl) ((put64_ok [] none 0 0 n hn (by omega) _ (Lb.nil0 _)).mono ?_)
  rintro r x1 ⟨gp, rfl, hgp, hp, hg⟩
  refine ⟨_, rfl, ?_⟩
  replace hB := hB.more hg
  rw [List.nil_append] at hp
  rw [List.nil_append, lowL_len]
  clear hg hgp
  refine hK.out _ _ trivial (fun _ => ?_)
  clear hK K
  simp only [Act.put, List.setIfInBounds_toArray, List.set_cons_zero, List.set_cons_succ, List.getElem_toArray, List.getElem_cons_zero, List.getElem_cons_succ]
  refine any_one (i := 3) (by kernel_rfl) rfl (fun K hK => ?_)
  rw [if_pos (by kernel_rfl)]
  refine copy_wp (.tmp 4) (.tmp 6) rfl (w.heap.size + 1) 4 8 8 (some ⟨gp, 0, none⟩) 8 8 (by kernel_rfl) (by kernel_rfl) (ZN.map (Value.int .u8)) 25 (hB.get 1 (x := ⟨w.heap.size + 1, kc ZN, 25⟩) rfl) (lowL n 8) (by rw [lowL_len]; rfl) (.inr ⟨gp, 0, rfl, kc_at hp⟩) (by rw [lowL_len]; exact Nat.le_refl _) ?_
  have hcell := laid (S := lowL n 8) (o := 4) (hB.get 1 (x := ⟨w.heap.size + 1, kc ZN, 25⟩) rfl) (by rw [lowL_len]; exact Nat.le_refl _)
  rw [lay_cnt n] at hcell
  have hB2 := hB.but (setCells_bt ((lowL n 8).map (Value.int .u8)) x1 (w.heap.size + 1) 4) 1 (x := ⟨w.heap.size + 1, kc ZN, 25⟩) rfl rfl hcell
  simp only [List.set_cons_zero, List.set_cons_succ] at hB2
  clear hcell hB
  generalize World.setCells _ _ _ _ = x2 at *
  refine hK.out _ _ trivial (fun _ => ?_)
  clear hK K
  simp only [Act.put, List.setIfInBounds_toArray, List.set_cons_zero, List.set_cons_succ, List.getElem_toArray, List.getElem_cons_zero, List.getElem_cons_succ]
  refine any_done (by kernel_rfl) ?_
  rw [lowL_len]
  replace hB2 := hide hB2
  go_upto_region 3 with fail
  have hB := unhide hB2
  clear hB2
  have hXl := cntL_len n
  generalize cntL n = X at *
  refine wp_region_lit ?_
  refine list_val (.agg (kc X)) (by kernel_rfl) (exec_arr _ 25 (.tmp 3) rfl (w.heap.size + 1) (by kernel_rfl) (kc X) 25 _ (hB.get 1 (x := ⟨w.heap.size + 1, kc X, 25⟩) rfl) Try.underlying25 rfl (by rw [Try.infoN, kc_size, hXl])) ?_
  simp only [Act.put, List.setIfInBounds_toArray, List.set_cons_zero, List.set_cons_succ, List.getElem_toArray, List.getElem_cons_zero, List.getElem_cons_succ]
  refine list_store 25 (.tmp 2) (.tmp 8) (w.heap.size) (kc X) 25 (kc ZN) (by kernel_rfl) rfl (by kernel_rfl) (by kernel_rfl) (hB.get 0 (x := ⟨w.heap.size, kc ZN, 25⟩) rfl) (by rw [Try.infoN, kc_size, hXl]) ((show (kc ZN).size = 12 from rfl).trans ((kc_size _).trans hXl).symm) (kc_one _) ?_
  replace hB := hB.set 0 (x := ⟨w.heap.size, kc ZN, 25⟩) rfl (kc X)
  simp only [List.set_cons_zero, List.set_cons_succ] at hB
  generalize World.setRow _ _ _ = x3 at *
  simp only [Act.put, List.setIfInBounds_toArray, List.set_cons_zero, List.set_cons_succ, List.getElem_toArray, List.getElem_cons_zero, List.getElem_cons_succ]
  refine wpList_nil ?_
  replace hB := hide hB
  go_wp2_with fail
  replace hB := unhide hB
  rw [unhide hT]
  exact bodyPost_ret (v := .agg (kc X)) (results_cell_row Try.results20 _ _ (w.heap.size) 25 (kc X) (0, 0) _ rfl (hB.get 0 (x := ⟨w.heap.size, kc X, 25⟩) rfl) Try.underlying25 rfl (by rw [Try.infoN, kc_size, hXl])) rfl (⟨rfl, hB.gr⟩)
/-- what was opened -/
def Opd (P : List Int) (w : World) (r : Ending) (w' : World) : Prop := ∃ g, r = .returned (.tuple #[.slice (some ⟨g, 0, none⟩) P.length P.length, .int .i64 0]) ∧ w.heap.size ≤ g ∧ w'.heap[g]? = some (.cells (kc P) 5 (0, 0)) ∧ Gr w w'
/-- nothing was opened -/
def Shut8 (w : World) (r : Ending) (w' : World) : Prop := r = .returned (.tuple #[.slice none 0 0, .int .i64 180]) ∧ Gr w w'
theorem seal_take (K N A P : List Int) : (sealL K N A P).take P.length = xl K N 1 P := by
  unfold sealL
  rw [List.take_append_of_le_length (by rw [xl_len]; exact Nat.le_refl _), List.take_of_length_le (by rw [xl_len]; exact Nat.le_refl _)]
theorem seal_drop (K N A P : List Int) : (sealL K N A P).drop P.length = tagL K N A (xl K N 1 P) := by
  unfold sealL
  rw [List.drop_append_of_le_length (by rw [xl_len]; exact Nat.le_refl _), List.drop_of_length_le (by rw [xl_len]; exact Nat.le_refl _), List.nil_append]
/-- what was sealed nowhere: its tag is another one -/
theorem not_sealed (K N A S : List Int) (m : Nat) (hm : S.length = m + 16) (hb : IsB S) (h : ∀ P, IsB P → S ≠ sealL K N A P) : tagL K N A (S.take m) ≠ S.drop m := by
  intro e
  refine h (xl K N 1 (S.take m)) (xl_isB _ _ _ _) ?_
  unfold sealL
  rw [xl_twice K N 1 (S.take m) (hb.take m), e, List.take_append_drop]
set_option maxHeartbeats 4000000 in
theorem open_short (K N : List Int) (hK : K.length = 32) (hN : N.length = 12) (hKb : IsB K) (hNb : IsB N) (A S : List Int) (s s2 : Option Addr) (n n2 cap cap2 : Nat) (hsh : n2 < 16) (w : World) : Calls Try.prog 17 #[.agg (kc K), .agg (kc N), .slice s n cap, .slice s2 n2 cap2] w (Shut8 w) := by
  obtain ⟨T, hT⟩ : ∃ T, T = Shut8 w := ⟨_, rfl⟩
  rw [← hT]
  replace hT := hide hT
  obtain ⟨SK, hSK⟩ : ∃ S, S = kc K := ⟨_, rfl⟩
  obtain ⟨SN, hSN⟩ : ∃ S, S = kc N := ⟨_, rfl⟩
  rw [← hSK, ← hSN]
  replace hSK := hide hSK
  replace hSN := hide hSN
  have hI : (n2 : Int) < 16 := by omega
  have hB := (((Bl.nil w).new SK 23).new SN 25)
  replace hB := hide hB
  go_enter Try.func17, Try.ntmps17
  go_wp2_with fail
  rw [unhide hT]
  exact ⟨rfl, (unhide hB).gr⟩
set_option maxHeartbeats 4000000 in
theorem open_yes (K N : List Int) (hK : K.length = 32) (hN : N.length = 12) (hKb : IsB K) (hNb : IsB N) (A P : List Int) (hPb : IsB P) (s s2 : Option Addr) (n n2 cap cap2 : Nat) (hbig : n2 ≤ 20000) (w : World) (la : Lb w s n cap A) (ls : Lb w s2 n2 cap2 (sealL K N A P)) : Calls Try.prog 17 #[.agg (kc K), .agg (kc N), .slice s n cap, .slice s2 n2 cap2] w (Opd P w) := by
  obtain ⟨T, hT⟩ : ∃ T, T = Opd P w := ⟨_, rfl⟩
  rw [← hT]
  replace hT := hide hT
  have hl := ls.len
  rw [sealL_len] at hl
  obtain ⟨m, hm⟩ : ∃ m, m = P.length := ⟨_, rfl⟩
  have hm16 : n2 = m + 16 := by omega
  have hSt := seal_take K N A P
  have hSd := seal_drop K N A P
  have hxx := xl_twice K N 1 P hPb
  rw [← hm] at hSt hSd
  generalize sealL K N A P = S at *
  obtain ⟨C, hC⟩ : ∃ C, C = xl K N 1 P := ⟨_, rfl⟩
  rw [← hC] at hSt hSd hxx
  have hCl : C.length = m := by rw [hC, xl_len, hm]
  obtain ⟨Y, hY⟩ : ∃ Y, Y = tagL K N A C := ⟨_, rfl⟩
  have hYl : Y.length = 16 := by rw [hY, tagL_len]
  rw [← hY] at hSd
  clear hC
  replace hPb := hide hPb; replace hm := hide hm; replace hxx := hide hxx; replace hY := hide hY
  have hcap := ls.cap
  obtain ⟨c4, hc4⟩ : ∃ c, c = cap2 - m := ⟨_, rfl⟩
  obtain ⟨s3, hs3⟩ : ∃ x, x = if cap2 = 0 then s2 else s2.map (·.add 0) := ⟨_, rfl⟩
  obtain ⟨s4, hs4⟩ : ∃ x, x = if cap2 = m then s2 else s2.map (·.add m) := ⟨_, rfl⟩
  have e16 : n2 - m = 16 := by omega
  have l3 : Lb w s3 m cap2 C := by
    have h := ls.upto m (by omega)
    rw [hSt, ← hs3] at h
    exact h
  have l4 : Lb w s4 16 c4 Y := by
    have h := ls.rest m (by omega)
    rw [hSd, ← hs4, ← hc4, e16] at h
    exact h
  have hle : m ≤ n2 := by omega
  have i1 : ¬ (n2 : Int) < 16 := by omega
  have i2 : (n2 : Int) - 16 = (m : Int) := by omega
  have i3 : IntKind.i64.wrap (m : Int) = (m : Int) := by rw [IntKind.wrap_i64]; omega
  have i4 : ¬ n2 < 16 := by omega
  replace hc4 := hide hc4; replace hs3 := hide hs3; replace hs4 := hide hs4; replace e16 := hide e16; replace l3 := hide l3; replace l4 := hide l4; replace hm16 := hide hm16; replace hCl := hide hCl
  clear ls hSt hSd
  obtain ⟨SK, hSK⟩ : ∃ S, S = kc K := ⟨_, rfl⟩
  obtain ⟨SN, hSN⟩ : ∃ S, S = kc N := ⟨_, rfl⟩
  rw [← hSK, ← hSN]
  replace hSK := hide hSK
  replace hSN := hide hSN
  replace hKb := hide hKb
  replace hNb := hide hNb
  replace la := hide la
  go_enter Try.func17, Try.ntmps17
  go_upto_region 3 with fail
  have hB := (((Bl.nil w).new SK 23).new SN 25)
  simp only [size_alloc, List.nil_append, List.cons_append] at hB
  generalize World.alloc _ _ = u at *
  rw [unhide hSK, unhide hSN] at hB
  replace hB : Bl w [⟨w.heap.size, kc K, 23⟩, ⟨w.heap.size + 1, kc N, 25⟩] u := hB
  refine wp_region_lit ?_
  refine list_val (.slice s2 n2 cap2) (by kernel_rfl) (by kernel_rfl) ?_
  simp only [Act.put, List.setIfInBounds_toArray, List.set_cons_zero, List.set_cons_succ, List.getElem_toArray, List.getElem_cons_zero, List.getElem_cons_succ]
  refine list_val (.int .i64 n2) (by kernel_rfl) (by kernel_rfl) ?_
  simp only [Act.put, List.setIfInBounds_toArray, List.set_cons_zero, List.set_cons_succ, List.getElem_toArray, List.getElem_cons_zero, List.getElem_cons_succ]
  refine list_val (.int .i64 m) (by kernel_rfl) (by go_simp) ?_
  simp only [Act.put, List.setIfInBounds_toArray, List.set_cons_zero, List.set_cons_succ, List.getElem_toArray, List.getElem_cons_zero, List.getElem_cons_succ]
  (refine wpList_step fun K hK => ?_; replace hK := hide hK; go_simp; refine unhide hK _ _ ?_; clear hK K)
  refine wpList_nil ?_
  replace hB := hide hB
  go_upto_region 4 with fail
  replace hB := unhide hB
  refine any_start (S := fun _ => True) (by kernel_rfl) ?_
  replace hB := hB.drew
  generalize World.drew _ = x0 at *
  simp only [List.size_toArray, List.length_cons, List.length_nil, Array.replicate, List.replicate]
  refine any_take (i := 0) (v := (.slice s2 n2 cap2)) #[false, false, false, false, false, false, false, false] rfl (by kernel_rfl) (by kernel_rfl) (by kernel_rfl) (by kernel_rfl) (fun _ _ _ h => h) (.inl ⟨by kernel_rfl, fun x_ hu => by kernel_rfl⟩) trivial ?_
  simp only [Act.put, List.setIfInBounds_toArray, List.set_cons_zero, List.set_cons_succ, List.getElem_toArray, List.getElem_cons_zero, List.getElem_cons_succ]
  refine any_take (i := 1) (v := (.int .i64 m)) #[true, false, false, false, false, false, false, false] rfl (by kernel_rfl) (by kernel_rfl) (by kernel_rfl) (by kernel_rfl) (fun _ _ _ h => h) (.inl ⟨by kernel_rfl, fun x_ hu => by kernel_rfl⟩) trivial ?_
  simp only [Act.put, List.setIfInBounds_toArray, List.set_cons_zero, List.set_cons_succ, List.getElem_toArray, List.getElem_cons_zero, List.getElem_cons_succ]
  refine any_take (i := 2) (v := (.slice s3 m cap2)) #[true, true, false, false, false, false, false, false] rfl (by kernel_rfl) (by kernel_rfl) (by kernel_rfl) (by kernel_rfl) (fun _ _ _ h => h) (.inl ⟨by kernel_rfl, fun x_ hu => by rw [unhide hs3]; exact exec_upto _ (.tmp 20) (.tmp 21) rfl s2 n2 cap2 m rfl rfl hcap hle⟩) trivial ?_
  simp only [Act.put, List.setIfInBounds_toArray, List.set_cons_zero, List.set_cons_succ, List.getElem_toArray, List.getElem_cons_zero, List.getElem_cons_succ]
  refine any_take (i := 3) (v := (.slice s2 n2 cap2)) #[true, true, true, false, false, false, false, false] rfl (by kernel_rfl) (by kernel_rfl) (by kernel_rfl) (by kernel_rfl) (fun _ _ _ h => h) (.inl ⟨by kernel_rfl, fun x_ hu => by kernel_rfl⟩) trivial ?_
  simp only [Act.put, List.setIfInBounds_toArray, List.set_cons_zero, List.set_cons_succ, List.getElem_toArray, List.getElem_cons_zero, List.getElem_cons_succ]
  refine any_take (i := 4) (v := (.int .i64 m)) #[true, true, true, true, false, false, false, false] rfl (by kernel_rfl) (by kernel_rfl) (by kernel_rfl) (by kernel_rfl) (fun _ _ _ h => h) (.inl ⟨by kernel_rfl, fun x_ hu => by kernel_rfl⟩) trivial ?_
  simp only [Act.put, List.setIfInBounds_toArray, List.set_cons_zero, List.set_cons_succ, List.getElem_toArray, List.getElem_cons_zero, List.getElem_cons_succ]
  refine any_take (i := 5) (v := (.slice s4 16 c4)) #[true, true, true, true, true, false, false, false] rfl (by kernel_rfl) (by kernel_rfl) (by kernel_rfl) (by kernel_rfl) (fun _ _ _ h => h) (.inl ⟨by kernel_rfl, fun x_ hu => by rw [unhide hs4, unhide hc4, ← unhide e16]; exact exec_from _ (.tmp 23) (.tmp 24) rfl s2 n2 cap2 m rfl rfl hcap hle⟩) trivial ?_
  simp only [Act.put, List.setIfInBounds_toArray, List.set_cons_zero, List.set_cons_succ, List.getElem_toArray, List.getElem_cons_zero, List.getElem_cons_succ]
  refine any_one (i := 6) (by kernel_rfl) rfl (fun K_ hQ => ?_)
  replace hQ := hide hQ
  go_simp
  refine (unhide hQ).out _ _ trivial (fun _ => ?_)
  clear hQ K_
  refine any_one (i := 7) (by kernel_rfl) rfl (fun K_ hQ => ?_)
  replace hQ := hide hQ
  go_simp
  refine (unhide hQ).out _ _ trivial (fun _ => ?_)
  clear hQ K_
  refine any_done (by kernel_rfl) ?_
  replace hB := hide hB
  go_upto_region 5 with fail
  replace hB := unhide hB
  refine wp_region_lit ?_
  refine list_val (.agg (kc K)) (by kernel_rfl) (exec_arr _ 23 (.tmp 4) rfl (w.heap.size) (by kernel_rfl) (kc K) 23 _ (hB.get 0 (x := ⟨w.heap.size, kc K, 23⟩) rfl) Try.underlying23 rfl (by rw [Try.infoKey, kc_size, hK])) ?_
  simp only [Act.put, List.setIfInBounds_toArray, List.set_cons_zero, List.set_cons_succ, List.getElem_toArray, List.getElem_cons_zero, List.getElem_cons_succ]
  refine list_val (.agg (kc N)) (by kernel_rfl) (exec_arr _ 25 (.tmp 5) rfl (w.heap.size + 1) (by kernel_rfl) (kc N) 25 _ (hB.get 1 (x := ⟨w.heap.size + 1, kc N, 25⟩) rfl) Try.underlying25 rfl (by rw [Try.infoN, kc_size, hN])) ?_
  simp only [Act.put, List.setIfInBounds_toArray, List.set_cons_zero, List.set_cons_succ, List.getElem_toArray, List.getElem_cons_zero, List.getElem_cons_succ]
  refine list_val (.slice s n cap) (by kernel_rfl) (by kernel_rfl) ?_
  simp only [Act.put, List.setIfInBounds_toArray, List.set_cons_zero, List.set_cons_succ, List.getElem_toArray, List.getElem_cons_zero, List.getElem_cons_succ]
  refine list_val (.slice s3 m cap2) (by kernel_rfl) (by kernel_rfl) ?_
  simp only [Act.put, List.setIfInBounds_toArray, List.set_cons_zero, List.set_cons_succ, List.getElem_toArray, List.getElem_cons_zero, List.getElem_cons_succ]
  refine list_call 18 #[.agg (kc K), .agg (kc N), .slice s n cap, .slice s3 m cap2] (by kernel_rfl) (by kernel_rfl) ((atag_ok K N hK hN (unhide hKb) (unhide hNb) A C s s3 n m cap cap2 _ ((unhide la).gr hB.gr) ((unhide l3).gr hB.gr)).mono ?_)
  rintro r u2 ⟨rfl, hg⟩
  refine ⟨_, rfl, ?_⟩
  replace hB := hB.more hg
  rw [← unhide hY]
  clear hg
  simp only [Act.put, List.setIfInBounds_toArray, List.set_cons_zero, List.set_cons_succ, List.getElem_toArray, List.getElem_cons_zero, List.getElem_cons_succ]
  replace hB := hide hB
  (refine wpList_step fun K hK => ?_; replace hK := hide hK; go_simp; refine unhide hK _ _ ?_; clear hK K)
  replace hB := (unhide hB).new #[.int .u8 0, .int .u8 0, .int .u8 0, .int .u8 0, .int .u8 0, .int .u8 0, .int .u8 0, .int .u8 0, .int .u8 0, .int .u8 0, .int .u8 0, .int .u8 0, .int .u8 0, .int .u8 0, .int .u8 0, .int .u8 0] 41
  simp only [List.nil_append, List.cons_append] at hB
  generalize World.alloc _ _ = u3 at *
  generalize u2.heap.size = h10 at *
  replace hB : Bl w [⟨w.heap.size, kc K, 23⟩, ⟨w.heap.size + 1, kc N, 25⟩, ⟨h10, kc ZT, 41⟩] u3 := hB
  refine list_store 41 (.tmp 13) (.tmp 30) (h10) (kc Y) 41 (kc ZT) (by kernel_rfl) rfl (by kernel_rfl) (by kernel_rfl) (hB.get 2 (x := ⟨h10, kc ZT, 41⟩) rfl) (by rw [Try.infoT, kc_size, hYl]) ((show (kc ZT).size = 16 from rfl).trans ((kc_size _).trans hYl).symm) (kc_one _) ?_
  replace hB := hB.set 2 (x := ⟨h10, kc ZT, 41⟩) rfl (kc Y)
  simp only [List.set_cons_zero, List.set_cons_succ] at hB
  generalize World.setRow _ _ _ = u4 at *
  simp only [Act.put, List.setIfInBounds_toArray, List.set_cons_zero, List.set_cons_succ, List.getElem_toArray, List.getElem_cons_zero, List.getElem_cons_succ]
  refine wpList_nil ?_
  replace hB := hide hB
  go_upto_region 6 with fail
  replace hB := unhide hB
  refine wp_region_lit ?_
  refine list_val (.slice (some ⟨h10, 0, none⟩) 16 16) (by kernel_rfl) (by kernel_rfl) ?_
  simp only [Act.put, List.setIfInBounds_toArray, List.set_cons_zero, List.set_cons_succ, List.getElem_toArray, List.getElem_cons_zero, List.getElem_cons_succ]
  refine list_val (.slice s4 16 c4) (by kernel_rfl) (by kernel_rfl) ?_
  simp only [Act.put, List.setIfInBounds_toArray, List.set_cons_zero, List.set_cons_succ, List.getElem_toArray, List.getElem_cons_zero, List.getElem_cons_succ]
  refine list_call 24 #[.slice (some ⟨h10, 0, none⟩) 16 16, .slice s4 16 c4] (by kernel_rfl) (by kernel_rfl) ((oequal_ok Y Y _ s4 16 16 c4 (by omega) _ (kc_lb (hB.get 2 (x := ⟨h10, kc Y, 41⟩) rfl) hYl (by rw [unhide hY]; exact tagL_isB _ _ _ _) (by omega)) ((unhide l4).gr hB.gr)).mono ?_)
  rintro r u5 ⟨rfl, rfl⟩
  refine ⟨_, rfl, ?_⟩
  rw [decide_eq_true (rfl : Y = Y)]
  simp only [Act.put, List.setIfInBounds_toArray, List.set_cons_zero, List.set_cons_succ, List.getElem_toArray, List.getElem_cons_zero, List.getElem_cons_succ]
  refine list_val (.bool false) (by kernel_rfl) (by kernel_rfl) ?_
  simp only [Act.put, List.setIfInBounds_toArray, List.set_cons_zero, List.set_cons_succ, List.getElem_toArray, List.getElem_cons_zero, List.getElem_cons_succ]
  refine wpList_nil ?_
  replace hB := hide hB
  go_upto_region 8 with fail
  replace hB := unhide hB
  refine wp_region_lit ?_
  refine list_val (.agg (kc K)) (by kernel_rfl) (exec_arr _ 23 (.tmp 4) rfl (w.heap.size) (by kernel_rfl) (kc K) 23 _ (hB.get 0 (x := ⟨w.heap.size, kc K, 23⟩) rfl) Try.underlying23 rfl (by rw [Try.infoKey, kc_size, hK])) ?_
  simp only [Act.put, List.setIfInBounds_toArray, List.set_cons_zero, List.set_cons_succ, List.getElem_toArray, List.getElem_cons_zero, List.getElem_cons_succ]
  refine list_val (.agg (kc N)) (by kernel_rfl) (exec_arr _ 25 (.tmp 5) rfl (w.heap.size + 1) (by kernel_rfl) (kc N) 25 _ (hB.get 1 (x := ⟨w.heap.size + 1, kc N, 25⟩) rfl) Try.underlying25 rfl (by rw [Try.infoN, kc_size, hN])) ?_
  simp only [Act.put, List.setIfInBounds_toArray, List.set_cons_zero, List.set_cons_succ, List.getElem_toArray, List.getElem_cons_zero, List.getElem_cons_succ]
  refine list_val (.slice s3 m cap2) (by kernel_rfl) (by kernel_rfl) ?_
  simp only [Act.put, List.setIfInBounds_toArray, List.set_cons_zero, List.set_cons_succ, List.getElem_toArray, List.getElem_cons_zero, List.getElem_cons_succ]
  have hgw := hB.gr.size
  refine list_call 23 #[.agg (kc K), .int .u32 1, .agg (kc N), .slice s3 m cap2] (by kernel_rfl) (by kernel_rfl) ((xor_ok K N hK hN (unhide hKb) (unhide hNb) 1 ⟨by decide, by decide⟩ C _ m cap2 (by omega) _ ((unhide l3).gr hB.gr)).mono ?_)
  rintro r u6 ⟨gx, rfl, hgx, hx, hg⟩
  refine ⟨_, rfl, ?_⟩
  replace hB := hB.more hg
  rw [unhide hxx] at hx
  rw [unhide hCl]
  replace hgx := Nat.le_trans hgw hgx
  clear hg hgw
  simp only [Act.put, List.setIfInBounds_toArray, List.set_cons_zero, List.set_cons_succ, List.getElem_toArray, List.getElem_cons_zero, List.getElem_cons_succ]
  (refine wpList_step fun K hK => ?_; replace hK := hide hK; go_simp; refine unhide hK _ _ ?_; clear hK K)
  (refine wpList_step fun K hK => ?_; replace hK := hide hK; go_simp; refine unhide hK _ _ ?_; clear hK K)
  refine wpList_nil ?_
  have hP : Hid (Opd P w (.returned (.tuple #[.slice (some ⟨gx, 0, none⟩) m m, .int .i64 0])) u6) := ⟨gx, by rw [← unhide hm], hgx, hx, hB.gr⟩
  clear hB hx hgx
  go_wp2_with fail
  rw [unhide hT]
  exact unhide hP
set_option maxHeartbeats 4000000 in
theorem open_tag (K N : List Int) (hK : K.length = 32) (hN : N.length = 12) (hKb : IsB K) (hNb : IsB N) (A S : List Int) (s s2 : Option Addr) (n n2 cap cap2 : Nat) (hbig : n2 ≤ 20000) (w : World) (h16 : 16 ≤ n2) (la : Lb w s n cap A) (ls : Lb w s2 n2 cap2 S) (hno : ∀ P, IsB P → S ≠ sealL K N A P) : Calls Try.prog 17 #[.agg (kc K), .agg (kc N), .slice s n cap, .slice s2 n2 cap2] w (Shut8 w) := by
  obtain ⟨T, hT⟩ : ∃ T, T = Shut8 w := ⟨_, rfl⟩
  rw [← hT]
  replace hT := hide hT
  obtain ⟨m, hm16⟩ : ∃ m, n2 = m + 16 := ⟨n2 - 16, by omega⟩
  have hne := not_sealed K N A S m (by rw [ls.len, hm16]) ls.isB hno
  obtain ⟨C, hSt⟩ : ∃ C, S.take m = C := ⟨_, rfl⟩
  obtain ⟨Y0, hSd⟩ : ∃ C, S.drop m = C := ⟨_, rfl⟩
  rw [hSt, hSd] at hne
  have hCl : C.length = m := by rw [← hSt, List.length_take, ls.len]; omega
  obtain ⟨Y, hY⟩ : ∃ Y, Y = tagL K N A C := ⟨_, rfl⟩
  have hYl : Y.length = 16 := by rw [hY, tagL_len]
  rw [← hY] at hne
  clear hno
  replace hY := hide hY; replace hne := hide hne
  have hcap := ls.cap
  obtain ⟨c4, hc4⟩ : ∃ c, c = cap2 - m := ⟨_, rfl⟩
  obtain ⟨s3, hs3⟩ : ∃ x, x = if cap2 = 0 then s2 else s2.map (·.add 0) := ⟨_, rfl⟩
  obtain ⟨s4, hs4⟩ : ∃ x, x = if cap2 = m then s2 else s2.map (·.add m) := ⟨_, rfl⟩
  have e16 : n2 - m = 16 := by omega
  have l3 : Lb w s3 m cap2 C := by
    have h := ls.upto m (by omega)
    rw [hSt, ← hs3] at h
    exact h
  have l4 : Lb w s4 16 c4 Y0 := by
    have h := ls.rest m (by omega)
    rw [hSd, ← hs4, ← hc4, e16] at h
    exact h
  have hle : m ≤ n2 := by omega
  have i1 : ¬ (n2 : Int) < 16 := by omega
  have i2 : (n2 : Int) - 16 = (m : Int) := by omega
  have i3 : IntKind.i64.wrap (m : Int) = (m : Int) := by rw [IntKind.wrap_i64]; omega
  have i4 : ¬ n2 < 16 := by omega
  replace hc4 := hide hc4; replace hs3 := hide hs3; replace hs4 := hide hs4; replace e16 := hide e16; replace l3 := hide l3; replace l4 := hide l4; replace hm16 := hide hm16; replace hCl := hide hCl
  clear ls hSt hSd
  obtain ⟨SK, hSK⟩ : ∃ S, S = kc K := ⟨_, rfl⟩
  obtain ⟨SN, hSN⟩ : ∃ S, S = kc N := ⟨_, rfl⟩
  rw [← hSK, ← hSN]
  replace hSK := hide hSK
  replace hSN := hide hSN
  replace hKb := hide hKb
  replace hNb := hide hNb
  replace la := hide la
  go_enter Try.func17, Try.ntmps17
  go_upto_region 3 with fail
  have hB := (((Bl.nil w).new SK 23).new SN 25)
  simp only [size_alloc, List.nil_append, List.cons_append] at hB
  generalize World.alloc _ _ = u at *
  rw [unhide hSK, unhide hSN] at hB
  replace hB : Bl w [⟨w.heap.size, kc K, 23⟩, ⟨w.heap.size + 1, kc N, 25⟩] u := hB
  refine wp_region_lit ?_
  refine list_val (.slice s2 n2 cap2) (by kernel_rfl) (by kernel_rfl) ?_
  simp only [Act.put, List.setIfInBounds_toArray, List.set_cons_zero, List.set_cons_succ, List.getElem_toArray, List.getElem_cons_zero, List.getElem_cons_succ]
  refine list_val (.int .i64 n2) (by kernel_rfl) (by kernel_rfl) ?_
  simp only [Act.put, List.setIfInBounds_toArray, List.set_cons_zero, List.set_cons_succ, List.getElem_toArray, List.getElem_cons_zero, List.getElem_cons_succ]
  refine list_val (.int .i64 m) (by kernel_rfl) (by go_simp) ?_
  simp only [Act.put, List.setIfInBounds_toArray, List.set_cons_zero, List.set_cons_succ, List.getElem_toArray, List.getElem_cons_zero, List.getElem_cons_succ]
  (refine wpList_step fun K hK => ?_; replace hK := hide hK; go_simp; refine unhide hK _ _ ?_; clear hK K)
  refine wpList_nil ?_
  replace hB := hide hB
  go_upto_region 4 with fail
  replace hB := unhide hB
  refine any_start (S := fun _ => True) (by kernel_rfl) ?_
  replace hB := hB.drew
  generalize World.drew _ = x0 at *
  simp only [List.size_toArray, List.length_cons, List.length_nil, Array.replicate, List.replicate]
  refine any_take (i := 0) (v := (.slice s2 n2 cap2)) #[false, false, false, false, false, false, false, false] rfl (by kernel_rfl) (by kernel_rfl) (by kernel_rfl) (by kernel_rfl) (fun _ _ _ h => h) (.inl ⟨by kernel_rfl, fun x_ hu => by kernel_rfl⟩) trivial ?_
  simp only [Act.put, List.setIfInBounds_toArray, List.set_cons_zero, List.set_cons_succ, List.getElem_toArray, List.getElem_cons_zero, List.getElem_cons_succ]
  refine any_take (i := 1) (v := (.int .i64 m)) #[true, false, false, false, false, false, false, false] rfl (by kernel_rfl) (by kernel_rfl) (by kernel_rfl) (by kernel_rfl) (fun _ _ _ h => h) (.inl ⟨by kernel_rfl, fun x_ hu => by kernel_rfl⟩) trivial ?_
  simp only [Act.put, List.setIfInBounds_toArray, List.set_cons_zero, List.set_cons_succ, List.getElem_toArray, List.getElem_cons_zero, List.getElem_cons_succ]
  refine any_take (i := 2) (v := (.slice s3 m cap2)) #[true, true, false, false, false, false, false, false] rfl (by kernel_rfl) (by kernel_rfl) (by kernel_rfl) (by kernel_rfl) (fun _ _ _ h => h) (.inl ⟨by kernel_rfl, fun x_ hu => by rw [unhide hs3]; exact exec_upto _ (.tmp 20) (.tmp 21) rfl s2 n2 cap2 m rfl rfl hcap hle⟩) trivial ?_
  simp only [Act.put, List.setIfInBounds_toArray, List.set_cons_zero, List.set_cons_succ, List.getElem_toArray, List.getElem_cons_zero, List.getElem_cons_succ]
  refine any_take (i := 3) (v := (.slice s2 n2 cap2)) #[true, true, true, false, false, false, false, false] rfl (by kernel_rfl) (by kernel_rfl) (by kernel_rfl) (by kernel_rfl) (fun _ _ _ h => h) (.inl ⟨by kernel_rfl, fun x_ hu => by kernel_rfl⟩) trivial ?_
  simp only [Act.put, List.setIfInBounds_toArray, List.set_cons_zero, List.set_cons_succ, List.getElem_toArray, List.getElem_cons_zero, List.getElem_cons_succ]
  refine any_take (i := 4) (v := (.int .i64 m)) #[true, true, true, true, false, false, false, false] rfl (by kernel_rfl) (by kernel_rfl) (by kernel_rfl) (by kernel_rfl) (fun _ _ _ h => h) (.inl ⟨by kernel_rfl, fun x_ hu => by kernel_rfl⟩) trivial ?_
  simp only [Act.put, List.setIfInBounds_toArray, List.set_cons_zero, List.set_cons_succ, List.getElem_toArray, List.getElem_cons_zero, List.getElem_cons_succ]
  refine any_take (i := 5) (v := (.slice s4 16 c4)) #[true, true, true, true, true, false, false, false] rfl (by kernel_rfl) (by kernel_rfl) (by kernel_rfl) (by kernel_rfl) (fun _ _ _ h => h) (.inl ⟨by kernel_rfl, fun x_ hu => by rw [unhide hs4, unhide hc4, ← unhide e16]; exact exec_from _ (.tmp 23) (.tmp 24) rfl s2 n2 cap2 m rfl rfl hcap hle⟩) trivial ?_
  simp only [Act.put, List.setIfInBounds_toArray, List.set_cons_zero, List.set_cons_succ, List.getElem_toArray, List.getElem_cons_zero, List.getElem_cons_succ]
  refine any_one (i := 6) (by kernel_rfl) rfl (fun K_ hQ => ?_)
  replace hQ := hide hQ
  go_simp
  refine (unhide hQ).out _ _ trivial (fun _ => ?_)
  clear hQ K_
  refine any_one (i := 7) (by kernel_rfl) rfl (fun K_ hQ => ?_)
  replace hQ := hide hQ
  go_simp
  refine (unhide hQ).out _ _ trivial (fun _ => ?_)
  clear hQ K_
  refine any_done (by kernel_rfl) ?_
  replace hB := hide hB
  go_upto_region 5 with fail
  replace hB := unhide hB
  refine wp_region_lit ?_
  refine list_val (.agg (kc K)) (by kernel_rfl) (exec_arr _ 23 (.tmp 4) rfl (w.heap.size) (by kernel_rfl) (kc K) 23 _ (hB.get 0 (x := ⟨w.heap.size, kc K, 23⟩) rfl) Try.underlying23 rfl (by rw [Try.infoKey, kc_size, hK])) ?_
  simp only [Act.put, List.setIfInBounds_toArray, List.set_cons_zero, List.set_cons_succ, List.getElem_toArray, List.getElem_cons_zero, List.getElem_cons_succ]
  refine list_val (.agg (kc N)) (by kernel_rfl) (exec_arr _ 25 (.tmp 5) rfl (w.heap.size + 1) (by kernel_rfl) (kc N) 25 _ (hB.get 1 (x := ⟨w.heap.size + 1, kc N, 25⟩) rfl) Try.underlying25 rfl (by rw [Try.infoN, kc_size, hN])) ?_
  simp only [Act.put, List.setIfInBounds_toArray, List.set_cons_zero, List.set_cons_succ, List.getElem_toArray, List.getElem_cons_zero, List.getElem_cons_succ]
  refine list_val (.slice s n cap) (by kernel_rfl) (by kernel_rfl) ?_
  simp only [Act.put, List.setIfInBounds_toArray, List.set_cons_zero, List.set_cons_succ, List.getElem_toArray, List.getElem_cons_zero, List.getElem_cons_succ]
  refine list_val (.slice s3 m cap2) (by kernel_rfl) (by kernel_rfl) ?_
  simp only [Act.put, List.setIfInBounds_toArray, List.set_cons_zero, List.set_cons_succ, List.getElem_toArray, List.getElem_cons_zero, List.getElem_cons_succ]
  refine list_call 18 #[.agg (kc K), .agg (kc N), .slice s n cap, .slice s3 m cap2] (by kernel_rfl) (by kernel_rfl) ((atag_ok K N hK hN (unhide hKb) (unhide hNb) A C s s3 n m cap cap2 _ ((unhide la).gr hB.gr) ((unhide l3).gr hB.gr)).mono ?_)
  rintro r u2 ⟨rfl, hg⟩
  refine ⟨_, rfl, ?_⟩
  replace hB := hB.more hg
  rw [← unhide hY]
  clear hg
  simp only [Act.put, List.setIfInBounds_toArray, List.set_cons_zero, List.set_cons_succ, List.getElem_toArray, List.getElem_cons_zero, List.getElem_cons_succ]
  replace hB := hide hB
  (refine wpList_step fun K hK => ?_; replace hK := hide hK; go_simp; refine unhide hK _ _ ?_; clear hK K)
  replace hB := (unhide hB).new #[.int .u8 0, .int .u8 0, .int .u8 0, .int .u8 0, .int .u8 0, .int .u8 0, .int .u8 0, .int .u8 0, .int .u8 0, .int .u8 0, .int .u8 0, .int .u8 0, .int .u8 0, .int .u8 0, .int .u8 0, .int .u8 0] 41
  simp only [List.nil_append, List.cons_append] at hB
  generalize World.alloc _ _ = u3 at *
  generalize u2.heap.size = h10 at *
  replace hB : Bl w [⟨w.heap.size, kc K, 23⟩, ⟨w.heap.size + 1, kc N, 25⟩, ⟨h10, kc ZT, 41⟩] u3 := hB
  refine list_store 41 (.tmp 13) (.tmp 30) (h10) (kc Y) 41 (kc ZT) (by kernel_rfl) rfl (by kernel_rfl) (by kernel_rfl) (hB.get 2 (x := ⟨h10, kc ZT, 41⟩) rfl) (by rw [Try.infoT, kc_size, hYl]) ((show (kc ZT).size = 16 from rfl).trans ((kc_size _).trans hYl).symm) (kc_one _) ?_
  replace hB := hB.set 2 (x := ⟨h10, kc ZT, 41⟩) rfl (kc Y)
  simp only [List.set_cons_zero, List.set_cons_succ] at hB
  generalize World.setRow _ _ _ = u4 at *
  simp only [Act.put, List.setIfInBounds_toArray, List.set_cons_zero, List.set_cons_succ, List.getElem_toArray, List.getElem_cons_zero, List.getElem_cons_succ]
  refine wpList_nil ?_
  replace hB := hide hB
  go_upto_region 6 with fail
  replace hB := unhide hB
  refine wp_region_lit ?_
  refine list_val (.slice (some ⟨h10, 0, none⟩) 16 16) (by kernel_rfl) (by kernel_rfl) ?_
  simp only [Act.put, List.setIfInBounds_toArray, List.set_cons_zero, List.set_cons_succ, List.getElem_toArray, List.getElem_cons_zero, List.getElem_cons_succ]
  refine list_val (.slice s4 16 c4) (by kernel_rfl) (by kernel_rfl) ?_
  simp only [Act.put, List.setIfInBounds_toArray, List.set_cons_zero, List.set_cons_succ, List.getElem_toArray, List.getElem_cons_zero, List.getElem_cons_succ]
  refine list_call 24 #[.slice (some ⟨h10, 0, none⟩) 16 16, .slice s4 16 c4] (by kernel_rfl) (by kernel_rfl) ((oequal_ok Y Y0 _ s4 16 16 c4 (by omega) _ (kc_lb (hB.get 2 (x := ⟨h10, kc Y, 41⟩) rfl) hYl (by rw [unhide hY]; exact tagL_isB _ _ _ _) (by omega)) ((unhide l4).gr hB.gr)).mono ?_)
  rintro r u5 ⟨rfl, rfl⟩
  refine ⟨_, rfl, ?_⟩
  rw [decide_eq_false (unhide hne)]
  simp only [Act.put, List.setIfInBounds_toArray, List.set_cons_zero, List.set_cons_succ, List.getElem_toArray, List.getElem_cons_zero, List.getElem_cons_succ]
  refine list_val (.bool true) (by kernel_rfl) (by kernel_rfl) ?_
  simp only [Act.put, List.setIfInBounds_toArray, List.set_cons_zero, List.set_cons_succ, List.getElem_toArray, List.getElem_cons_zero, List.getElem_cons_succ]
  refine wpList_nil ?_
  replace hB := hide hB
  go_wp2_with fail
  rw [unhide hT]
  exact ⟨rfl, (unhide hB).gr⟩
theorem open_no (K N : List Int) (hK : K.length = 32) (hN : N.length = 12) (hKb : IsB K) (hNb : IsB N) (A S : List Int) (s s2 : Option Addr) (n n2 cap cap2 : Nat) (hbig : n2 ≤ 20000) (w : World) (la : Lb w s n cap A) (ls : Lb w s2 n2 cap2 S) (hno : ∀ P, IsB P → S ≠ sealL K N A P) : Calls Try.prog 17 #[.agg (kc K), .agg (kc N), .slice s n cap, .slice s2 n2 cap2] w (Shut8 w) := by
  rcases Nat.lt_or_ge n2 16 with h | h
  · exact open_short K N hK hN hKb hNb A S s s2 n n2 cap cap2 h w
  · exact open_tag K N hK hN hKb hNb A S s s2 n n2 cap cap2 hbig w h la ls hno
end Go.Proofs.Ytdekjbdkpchbjaa
