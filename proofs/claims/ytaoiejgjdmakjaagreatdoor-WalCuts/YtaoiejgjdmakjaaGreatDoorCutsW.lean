/-
  Of layer 12: what the proof leans on.
-/
import Derived.Test.YtaoiejgjdmakjaaGreatDoorCutsK14
namespace Go.Proofs.YtaoiejgjdmakjaaGreatDoor
open Go.RowKit
set_option maxRecDepth 100000
set_option linter.unusedSimpArgs false
set_option linter.unusedVariables false
theorem exec_iop {a : Act} {o : Oper} (w : World) (x y : Operand) (ho : o.op = .indexAddr 46 x y) (g q len cap i : Nat) (hx : a.eval x = .slice (some ⟨g, q, none⟩) len cap) (hy : a.eval y = .int .i64 i) (hi : i < len) :
    (execOp a.eval o).run Tryz.prog w = .ok (.value (.pointer (some ⟨g, q + 2 * i, none⟩))) w := by
  have h1 : (i : Int) < (len : Int) := by omega
  unfold execOp
  simp only [ho, hx, hy]
  go_simp
theorem range_two {w : World} {p o : Nat} {x y : Value} (h1 : w.cell? ⟨p, o, none⟩ = some x) (h2 : w.cell? ⟨p, o + 1, none⟩ = some y) : w.rangeAt p o [x, y] := by
  intro q v hq
  match q, hq with
  | 0, hq => simp at hq; subst hq; exact h1
  | 1, hq => simp at hq; subst hq; exact h2
theorem x_app_any {w : World} {F G H : List Nat} {l gs gd : Nat} {D : Dk} {m : Nat} {s : Sup} {L : List Int} {X : List (List Int)} {v : World} (k : Xl w F G H l gs gd D m s L X v) (hm : m ≤ 800000) (hf : Fst w) (M : List Int) (a : Option Addr) (n c : Nat) (hM : Lb w a n c M) (hn : n ≤ 2500) : Calls Tryz.prog 17 #[P0 l, .slice a n c] v (fun r u => ∃ e F' H' E m' X', r = .returned (.int .i64 e) ∧ Xl w F' G H' l gs gd E m' s L X' u ∧ E.safe.length = D.safe.length ∧ m' ≤ m + 60) := by
  have hl := hM.len
  by_cases hfit : usd X + ned M.length ≤ D.safe.length - lgo D.safe.length
  · refine (x_append k hm hf M a n c (hM.gr k.xs.gr) (k.far hM) hfit).mono ?_
    rintro r u ⟨F', H', E, rfl, h1, h2, -⟩
    exact ⟨0, F', H', E, _, _, rfl, h1, h2, by omega⟩
  · refine (x_full k a n c (by omega) (by rw [← hl]; exact hfit)).mono ?_
    rintro r u ⟨rfl, hg⟩
    exact ⟨6, F, H, D, m, X, rfl, k.more hg, rfl, by omega⟩
theorem x_chk_any {w : World} {F G H : List Nat} {l gs gd : Nat} {D : Dk} {m : Nat} {s : Sup} {L : List Int} {X : List (List Int)} {v : World} (k : Xl w F G H l gs gd D m s L X v) (hm : m ≤ 800000) (hf : Fst w) (ht : s.turn + 1 < 18446744073709551616) (M : List Int) (a : Option Addr) (n c : Nat) (hM : Lb w a n c M) (hn : n ≤ 2500) : Calls Tryz.prog 8 #[P0 l, .slice a n c] v (fun r u => ∃ e F' H' E m' s' L' X', r = .returned (.int .i64 e) ∧ Xl w F' G H' l gs gd E m' s' L' X' u ∧ E.safe.length = D.safe.length ∧ m' ≤ m + 60 ∧ s'.turn ≤ s.turn + 1) := by
  have hl := hM.len
  by_cases hfit : n ≤ 64 * ((D.safe.length - 2) / 4)
  · refine (x_check k hm hf ht M a n c (hM.gr k.xs.gr) (k.far hM) hfit).mono ?_
    rintro r u ⟨F', H', E, rfl, h1, h2, -⟩
    exact ⟨0, F', H', E, _, _, _, _, rfl, h1, h2, by omega, by rw [(s.next_is M).1]; omega⟩
  · refine (x_long k hm a n c (by omega) (by omega)).mono ?_
    rintro r u ⟨rfl, h1, -⟩
    exact ⟨3, F, H, D, m, s, L, X, rfl, h1, rfl, by omega, by omega⟩
set_option maxHeartbeats 4000000 in
theorem cuts_law (os : List (Int × List Int)) (a : Option Addr) (n c : Nat) (z1 : Int) (b1 : -9223372036854775808 ≤ z1 ∧ z1 < 9223372036854775808) (S1 : List Int) (a1 : Option Addr) (n1 c1 : Nat) (m0 : Int) (b0 : -9223372036854775808 ≤ m0 ∧ m0 < 9223372036854775808) (ka : Option Addr) (kn kp : Nat) (keep : List Bool) (hkn : kn ≤ 140737488351232) (w : World) (hf0 : Fst w) (hOs : Lo w a n c os) (hS : Lb w a1 n1 c1 S1) (hKp : Kp w ka kn kp keep) : Calls Tryz.prog 4 #[.slice a n c, .agg #[.int .i64 z1, .slice a1 n1 c1], .agg #[.int .i64 m0, .slice ka kn kp]] w (Vl (.bool true) w) := by
  obtain ⟨T, hT⟩ : ∃ T, T = Vl (.bool true) w := ⟨_, rfl⟩
  rw [← hT]
  replace hT := hide hT
  have hcn := hOs.cap
  have hcm := hOs.max
  obtain ⟨n3, hn3⟩ : ∃ k, k = min n 30 := ⟨_, rfl⟩
  have hn3n : n3 ≤ n ∧ n3 ≤ 30 := by omega
  replace hf0 := hide hf0; replace hOs := hide hOs; replace hS := hide hS; replace hKp := hide hKp; replace hn3 := hide hn3
  go_enter Tryz.func4, Tryz.ntmps4
  go_upto_region 1 with fail
  have hB := (((Bl.nil w).new #[.int .i64 z1, .slice a1 n1 c1] 48).new #[.int .i64 m0, .slice ka kn kp] 51)
  simp only [size_alloc, List.nil_append, List.cons_append] at hB
  generalize World.alloc _ _ = u at *
  replace hB : Bl w [⟨w.heap.size, #[.int .i64 z1, .slice a1 n1 c1], 48⟩, ⟨w.heap.size + 1, #[.int .i64 m0, .slice ka kn kp], 51⟩] u := hB
  refine wp_region_lit ?_
  refine list_call 5 #[] (by kernel_rfl) (by kernel_rfl) ((wakes12_ok u ((unhide hf0).gr hB.gr)).mono ?_)
  rintro r v0 ⟨rfl, hg⟩
  refine ⟨_, rfl, ?_⟩
  replace hB := hB.more hg
  clear hg
  simp only [nrm]
  refine list_val (.bool false) (by kernel_rfl) (by kernel_rfl) ?_
  simp only [nrm]
  refine wpList_nil ?_
  have hf := hide ((unhide hf0).gr hB.gr)
  replace hOs := hide ((unhide hOs).gr hB.gr); replace hS := hide ((unhide hS).gr hB.gr); replace hKp := hide ((unhide hKp).gr hB.gr)
  have hgc0 : Hid (v0.heap[w.heap.size + 1]? = some (.cells #[.int .i64 m0, .slice ka kn kp] 51 (0, 0))) := (hB.get 1 (x := ⟨w.heap.size + 1, #[.int .i64 m0, .slice ka kn kp], 51⟩) rfl)
  have hg00 : Hid (v0.heap[w.heap.size]? = some (.cells #[.int .i64 z1, .slice a1 n1 c1] 48 (0, 0))) := (hB.get 0 (x := ⟨w.heap.size, #[.int .i64 z1, .slice a1 n1 c1], 48⟩) rfl)
  replace hB := hide hB
  go_upto_region 3 with fail
  refine wp_region_lit ?_
  refine list_call 6 #[.int .i64 0] (by kernel_rfl) (by kernel_rfl) ((store_ok 0 v0 (unhide hf)).mono ?_)
  rintro r u1 ⟨F, G, gs, gd, D, rfl, hXs, hwd, hDz⟩
  obtain ⟨s1, s2, s3, s4⟩ := sup0_is
  have hz := stz_bd 0
  generalize stz 0 = zz at *
  generalize sup0 = S0 at *
  have hs0 : S0.turn = 0 := by omega
  clear s1 s2 s3 s4
  refine ⟨_, rfl, ?_⟩
  replace hXs := hide hXs; replace hwd := hide hwd; replace hDz := hide hDz
  simp only [nrm]
  refine list_val (.tuple #[.pointer (some ⟨gd, 0, none⟩), .pointer (some ⟨gs, 0, none⟩)]) (by kernel_rfl) (by kernel_rfl) ?_
  simp only [nrm]
  refine list_val (.pointer (some ⟨gd, 0, none⟩)) (by kernel_rfl) (by kernel_rfl) ?_
  simp only [nrm]
  refine list_val (.pointer (some ⟨gs, 0, none⟩)) (by kernel_rfl) (by kernel_rfl) ?_
  simp only [nrm]
  (refine wpList_step fun K hK => ?_; replace hK := hide hK; go_simp; refine unhide hK _ _ ?_; clear hK K)
  (refine wpList_step fun K hK => ?_; replace hK := hide hK; go_simp; refine unhide hK _ _ ?_; clear hK K)
  refine wpList_nil ?_
  go_upto_region 4 with fail
  refine wp_region_lit ?_
  refine list_val (.pointer (some ⟨gs, 0, none⟩)) (by kernel_rfl) (by kernel_rfl) ?_
  simp only [nrm]
  skip
  refine list_call 7 #[P0 gs] (by kernel_rfl) (by kernel_rfl) ((x_open (unhide hXs) (unhide hwd) (by omega) (unhide hf)).mono ?_)
  rintro r u2 ⟨l, H, rfl, hlx, hln, hg⟩
  refine ⟨_, rfl, ?_⟩
  have hX := hide hlx
  clear hlx hln
  clear hg
  simp only [nrm]
  refine list_val (.tuple #[.pointer (some ⟨l, 0, none⟩), .int .i64 0]) (by kernel_rfl) (by kernel_rfl) ?_
  simp only [nrm]
  refine list_val (.pointer (some ⟨l, 0, none⟩)) (by kernel_rfl) (by kernel_rfl) ?_
  simp only [nrm]
  refine list_val (.int .i64 0) (by kernel_rfl) (by kernel_rfl) ?_
  simp only [nrm]
  (refine wpList_step fun K hK => ?_; replace hK := hide hK; go_simp; refine unhide hK _ _ ?_; clear hK K)
  (refine wpList_step fun K hK => ?_; replace hK := hide hK; go_simp; refine unhide hK _ _ ?_; clear hK K)
  refine wpList_nil ?_
  go_upto_region 5 with fail
  refine wp_region_lit ?_
  refine list_val (.pointer (some ⟨gs, 0, none⟩)) (by kernel_rfl) (by kernel_rfl) ?_
  simp only [nrm]
  refine list_val (.bool false) (by kernel_rfl) (by kernel_rfl) ?_
  simp only [nrm]
  refine list_val (.bool false) (by kernel_rfl) (by kernel_rfl) ?_
  simp only [nrm]
  refine list_val (.int .i64 0) (by kernel_rfl) (by kernel_rfl) ?_
  simp only [nrm]
  refine list_val (.bool false) (by kernel_rfl) (by kernel_rfl) ?_
  simp only [nrm]
  refine list_val (.bool false) (by kernel_rfl) (by kernel_rfl) ?_
  simp only [nrm]
  refine wpList_nil ?_
  go_upto_region 7 with fail
  refine wp_region_lit ?_
  refine list_val (.slice a n c) (by kernel_rfl) (by kernel_rfl) ?_
  simp only [nrm]
  refine list_call 15 #[.slice a n c] (by kernel_rfl) (by kernel_rfl) ((few12_ok a n c hcn hcm u2).mono ?_)
  rintro r u3 ⟨rfl, hg⟩
  refine ⟨_, rfl, ?_⟩
  rw [← unhide hn3]
  replace hX := hide ((unhide hX).more hg)
  clear hg
  simp only [nrm]
  refine list_val (.int .i64 (n3 : Int)) (by kernel_rfl) (by kernel_rfl) ?_
  simp only [nrm]
  refine list_val (.int .i64 0) (by kernel_rfl) (by kernel_rfl) ?_
  simp only [nrm]
  refine wpList_nil ?_
  have hI0 : Hid (∃ F H D m s L X, Xl v0 F G H l gs gd D m s L X u3 ∧ D.safe.length = zz ∧ m ≤ 3 + 60 * 0 ∧ s.turn ≤ 0) := ⟨F, H, D, 3, S0, [], [], unhide hX, unhide hDz, by omega, by omega⟩
  clear hX hXs hwd hDz hs0
  go_wp2_with fail
  go_loopw [42] (fun i wr => ∃ j : Nat, j ≤ n3 ∧ i = .int .i64 (j : Int) ∧ Hid (∃ F H D m s L X, Xl v0 F G H l gs gd D m s L X wr ∧ D.safe.length = zz ∧ m ≤ 3 + 60 * j ∧ s.turn ≤ j)) (fun i _ => n3 - (intOf i).toNat)
  case atStart => exact ⟨0, by omega, rfl, hI0⟩
  case round =>
  clear hI0
  obtain ⟨j, hj, rfl, hA⟩ := hrel
  obtain ⟨F1, H1, D1, m1, s1, L1, X1, hX, hDz1, hm1, hst1⟩ := unhide hA
  clear hA
  replace hX := hide hX; replace hDz1 := hide hDz1
  by_cases hlt : j < n3
  · skip
    have jI : (j : Int) < (n3 : Int) := by omega
    obtain ⟨p, o, z, ai, ni, ci, S, rfl, -, hc0, hc1, hLb, hz1⟩ := (unhide hOs).at_ j (by omega)
    have hcap := hLb.cap
    have hcmx := hLb.max
    obtain ⟨nx, hnx⟩ : ∃ k, k = min ni 2500 := ⟨_, rfl⟩
    have hnx2 : nx ≤ ni ∧ nx ≤ 2500 := by omega
    have hLx := hLb.pre nx hnx2.1
    obtain ⟨x, hx⟩ : ∃ x, x = S.take nx := ⟨_, rfl⟩
    rw [← hx] at hLx
    obtain ⟨t, ht⟩ : ∃ t : Int, t = IntKind.u64.wrap z % 3 := ⟨_, rfl⟩
    have ht3 : 0 ≤ t ∧ t < 3 := by omega
    have hrg := hide (range_gr (range_two hc0 hc1) (unhide hX).xs.gr)
    replace hnx := hide hnx; replace hLx := hide hLx; replace ht := hide ht
    clear hLb hx hc0 hc1
    replace hB := hB
    have hQ := Bl.nil wr
    go_upto_region 9 with fail
    obtain ⟨hBw, hBe⟩ : ∃ b, b = hB := ⟨_, rfl⟩
    clear hBe hBw
    have hB0 := hB
    clear hB
    have hB := hQ
    clear hQ
    refine wp_region_lit ?_
    refine list_val (.pointer (some ⟨p, o + 2 * j, none⟩)) (by kernel_rfl) (exec_iop _ (.tmp 40) (.tmp 42) rfl p o n3 c j (by kernel_rfl) (by kernel_rfl) hlt) ?_
    simp only [nrm]
    refine list_val (.agg #[.int .i64 z, .slice ai ni ci]) (by kernel_rfl) (exec_row _ 48 (.tmp 44) rfl p (o + 2 * j) (by kernel_rfl) [.int .i64 z, .slice ai ni ci] _ (unhide hrg) Tryz.underlying48 rfl (by rw [Tryz.infoOp12]; rfl)) ?_
    simp only [nrm]
    refine list_valw (.pointer (some ⟨wr.heap.size, 0, none⟩)) (wr.alloc (.cells (#[.int .i64 0, .slice none 0 0]) 48 (0, 0))) (by kernel_rfl) (by kernel_rfl) ?_
    replace hB := hB.new (#[.int .i64 0, .slice none 0 0]) 48
    simp only [List.nil_append, List.cons_append] at hB
    generalize World.alloc _ _ = y1 at *
    generalize wr.heap.size = gx at *
    replace hB : Bl wr [⟨gx, #[.int .i64 0, .slice none 0 0], 48⟩] y1 := hB
    simp only [nrm]
    refine list_store 48 (.tmp 12) (.tmp 45) (gx) (#[.int .i64 z, .slice ai ni ci]) 48 (#[.int .i64 0, .slice none 0 0]) (by kernel_rfl) rfl (by kernel_rfl) (by kernel_rfl) (hB.get 0 (x := ⟨gx, #[.int .i64 0, .slice none 0 0], 48⟩) rfl) (by rw [Tryz.infoOp12]; rfl) rfl (by kernel_rfl) ?_
    replace hB := hB.set 0 (x := ⟨gx, #[.int .i64 0, .slice none 0 0], 48⟩) rfl (#[.int .i64 z, .slice ai ni ci])
    simp only [List.set_cons_zero, List.set_cons_succ] at hB
    generalize World.setRow _ _ _ = y2 at *
    replace hB : Bl wr [⟨gx, #[.int .i64 z, .slice ai ni ci], 48⟩] y2 := hB
    simp only [nrm]
    refine wpList_nil ?_
    replace hB := hide hB
    go_upto_region 10 with fail
    replace hB := unhide hB
    refine wp_region_lit ?_
    refine list_val (.agg #[.int .i64 z, .slice ai ni ci]) (by kernel_rfl) (exec_arr _ 48 (.tmp 12) rfl gx (by kernel_rfl) #[.int .i64 z, .slice ai ni ci] 48 _ (hB.get 0 (x := ⟨gx, #[.int .i64 z, .slice ai ni ci], 48⟩) rfl) Tryz.underlying48 rfl (by rw [Tryz.infoOp12]; rfl)) ?_
    simp only [nrm]
    refine list_call 16 #[.agg #[.int .i64 z, .slice ai ni ci]] (by kernel_rfl) (by kernel_rfl) ((kind12_ok z ai ni ci _).mono ?_)
    rintro r y3 ⟨rfl, hg⟩
    refine ⟨_, rfl, ?_⟩
    rw [← unhide ht]
    replace hB := hB.more hg
    clear hg
    simp only [nrm]
    refine wpList_nil ?_
    replace hX := hide ((unhide hX).more hB.gr)
    by_cases ht0 : t = 0
    · skip
      subst ht0
      replace hB := hide hB
      go_upto_region 11 with fail
      replace hB := unhide hB
      refine wp_region_lit ?_
      refine list_val (.bool true) (by kernel_rfl) (by kernel_rfl) ?_
      simp only [nrm]
      (refine wpList_step fun K hK => ?_; replace hK := hide hK; go_simp; refine unhide hK _ _ ?_; clear hK K)
      refine wpList_nil ?_
      replace hB := hide hB
      go_upto_region 12 with fail
      replace hB := unhide hB
      refine wp_region_lit ?_
      refine list_val (.pointer (some ⟨l, 0, none⟩)) (by kernel_rfl) (by kernel_rfl) ?_
      simp only [nrm]
      refine list_val (.agg #[.int .i64 z, .slice ai ni ci]) (by kernel_rfl) (exec_arr _ 48 (.tmp 12) rfl gx (by kernel_rfl) #[.int .i64 z, .slice ai ni ci] 48 _ (hB.get 0 (x := ⟨gx, #[.int .i64 z, .slice ai ni ci], 48⟩) rfl) Tryz.underlying48 rfl (by rw [Tryz.infoOp12]; rfl)) ?_
      simp only [nrm]
      refine list_call 18 #[.agg #[.int .i64 z, .slice ai ni ci]] (by kernel_rfl) (by kernel_rfl) ((bytes12_ok z ai ni ci hcap hcmx _).mono ?_)
      rintro r y4 ⟨rfl, hg⟩
      refine ⟨_, rfl, ?_⟩
      rw [← unhide hnx]
      replace hB := hB.more hg
      replace hX := hide ((unhide hX).more hg)
      clear hg
      simp only [nrm]
      refine list_call 17 #[P0 l, .slice ai nx ci] (by kernel_rfl) (by kernel_rfl) ((x_app_any (unhide hX) (by omega) (unhide hf) x ai nx ci (unhide hLx) hnx2.2).mono ?_)
      rintro r y5 ⟨e5, F5, H5, D5, m5, X5, rfl, hX5, hD5, hm5⟩
      have hI2 : Hid (∃ F H D m s L X, Xl v0 F G H l gs gd D m s L X y5 ∧ D.safe.length = zz ∧ m ≤ 3 + 60 * (j + 1) ∧ s.turn ≤ (j + 1)) := ⟨F5, H5, D5, m5, s1, L1, X5, hX5, hD5.trans (unhide hDz1), by omega, by omega⟩
      refine ⟨_, rfl, ?_⟩
      clear hX hX5 hD5 hm5 hB
      simp only [nrm]
      refine wpList_nil ?_
      go_wp2_with fail
      go_roundw
      case rel => exact ⟨j + 1, by omega, by go_num, hI2⟩
      case measure => simp [intOf]; omega
    by_cases ht1 : t = 1
    · skip
      subst ht1
      replace hB := hide hB
      go_upto_region 11 with fail
      replace hB := unhide hB
      refine wp_region_lit ?_
      refine list_val (.bool false) (by kernel_rfl) (by kernel_rfl) ?_
      simp only [nrm]
      (refine wpList_step fun K hK => ?_; replace hK := hide hK; go_simp; refine unhide hK _ _ ?_; clear hK K)
      refine wpList_nil ?_
      replace hB := hide hB
      go_upto_region 13 with fail
      replace hB := unhide hB
      refine wp_region_lit ?_
      refine list_val (.bool true) (by kernel_rfl) (by kernel_rfl) ?_
      simp only [nrm]
      (refine wpList_step fun K hK => ?_; replace hK := hide hK; go_simp; refine unhide hK _ _ ?_; clear hK K)
      refine wpList_nil ?_
      replace hB := hide hB
      go_upto_region 14 with fail
      replace hB := unhide hB
      refine wp_region_lit ?_
      refine list_val (.pointer (some ⟨l, 0, none⟩)) (by kernel_rfl) (by kernel_rfl) ?_
      simp only [nrm]
      refine list_val (.agg #[.int .i64 z, .slice ai ni ci]) (by kernel_rfl) (exec_arr _ 48 (.tmp 12) rfl gx (by kernel_rfl) #[.int .i64 z, .slice ai ni ci] 48 _ (hB.get 0 (x := ⟨gx, #[.int .i64 z, .slice ai ni ci], 48⟩) rfl) Tryz.underlying48 rfl (by rw [Tryz.infoOp12]; rfl)) ?_
      simp only [nrm]
      refine list_call 18 #[.agg #[.int .i64 z, .slice ai ni ci]] (by kernel_rfl) (by kernel_rfl) ((bytes12_ok z ai ni ci hcap hcmx _).mono ?_)
      rintro r y4 ⟨rfl, hg⟩
      refine ⟨_, rfl, ?_⟩
      rw [← unhide hnx]
      replace hB := hB.more hg
      replace hX := hide ((unhide hX).more hg)
      clear hg
      simp only [nrm]
      refine list_call 8 #[P0 l, .slice ai nx ci] (by kernel_rfl) (by kernel_rfl) ((x_chk_any (unhide hX) (by omega) (unhide hf) (by omega) x ai nx ci (unhide hLx) hnx2.2).mono ?_)
      rintro r y5 ⟨e5, F5, H5, D5, m5, s5, L5, X5, rfl, hX5, hD5, hm5, hs5⟩
      have hI2 : Hid (∃ F H D m s L X, Xl v0 F G H l gs gd D m s L X y5 ∧ D.safe.length = zz ∧ m ≤ 3 + 60 * (j + 1) ∧ s.turn ≤ (j + 1)) := ⟨F5, H5, D5, m5, s5, L5, X5, hX5, hD5.trans (unhide hDz1), by omega, by omega⟩
      refine ⟨_, rfl, ?_⟩
      clear hX hX5 hD5 hm5 hs5 hB
      simp only [nrm]
      refine wpList_nil ?_
      go_wp2_with fail
      go_roundw
      case rel => exact ⟨j + 1, by omega, by go_num, hI2⟩
      case measure => simp [intOf]; omega
    · skip
      replace hB := hide hB
      go_upto_region 11 with fail
      replace hB := unhide hB
      refine wp_region_lit ?_
      refine list_val (.bool false) (by kernel_rfl) (by go_simp) ?_
      simp only [nrm]
      (refine wpList_step fun K hK => ?_; replace hK := hide hK; go_simp; refine unhide hK _ _ ?_; clear hK K)
      refine wpList_nil ?_
      replace hB := hide hB
      go_upto_region 13 with fail
      replace hB := unhide hB
      refine wp_region_lit ?_
      refine list_val (.bool false) (by kernel_rfl) (by go_simp) ?_
      simp only [nrm]
      (refine wpList_step fun K hK => ?_; replace hK := hide hK; go_simp; refine unhide hK _ _ ?_; clear hK K)
      refine wpList_nil ?_
      have hI2 : Hid (∃ F H D m s L X, Xl v0 F G H l gs gd D m s L X y3 ∧ D.safe.length = zz ∧ m ≤ 3 + 60 * (j + 1) ∧ s.turn ≤ (j + 1)) := ⟨F1, H1, D1, m1, s1, L1, X1, unhide hX, unhide hDz1, by omega, by omega⟩
      clear hX hB
      go_wp2_with fail
      go_roundw
      case rel => exact ⟨j + 1, by omega, by go_num, hI2⟩
      case measure => simp [intOf]; omega
  have jI : ¬ (j : Int) < (n3 : Int) := by omega
  rename_i KK_ hKK_
  replace hKK_ := hide hKK_
  go_wp2_with fail
  refine unhide hKK_ _ _ ?_
  clear hKK_
  refine wp_code_eq (c := restC) (by kernel_rfl) ?_
  exact cuts_rest v0 (unhide hf) _ (fun t w' hg ht => bodyPost_ret (v := .bool true) (by rw [results_tmp Tryz.results4, ht]) rfl (by rw [unhide hT]; exact ⟨rfl, (unhide hB).gr.trans hg⟩)) (fun _ _ _ _ _ h => h) F1 G H1 l gs gd _ _ m1 D1 s1 L1 X1 wr (unhide hX) (by omega) (by omega) m0 b0 ka kn kp keep hkn (unhide hKp) (unhide hgc0) z1 a1 n1 c1 S1 (unhide hS) (unhide hg00) _ _ _ _ _ _ _ _ _ _ _ _ _ _ _ _ _ _ _ _ _ _ _ _ _ _ _ _ _ _ _ _ _ _ _ _ _ _ _ _ _ _ _ _ _ _ _ _ _ _ _ _ _ _ _ _ _ _ _ _ _ _ _ _ _ _ _ _ _ _ _ _ _ _ _ _ _ _ _ _ _ _ _ _ _ _ _ _ _ _ _ _ _ _ _ _ _ _ _ _ _ _ _ _ _ _ _ _ _ _ _ _ _ _ _ _ _ _ _ _ _ _ _ _ _ _ _ _ _ _ _ _ _ _ _ _ _ _ _ _ _ _ _ _ _ _ _ _ _ _ _ _ _ _ _ _ _ _ _ _ _ _ _ _ _ _ _ _ _ _ _ _ _ _ _ _ _ _ _ _ _ _ _ _ _ _ _ _ _ _ _ _ _ _ _ _ _ _ _ _ _ _ _ _ _ _ _
end Go.Proofs.YtaoiejgjdmakjaaGreatDoor
