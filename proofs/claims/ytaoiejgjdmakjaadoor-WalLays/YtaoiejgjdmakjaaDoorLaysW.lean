/-
  Of layer 12: what the proof leans on.
-/
import Derived.Test.YtaoiejgjdmakjaaDoorLaysK13
namespace Go.Proofs.YtaoiejgjdmakjaaDoor
open Go.RowKit
set_option maxRecDepth 100000
set_option linter.unusedSimpArgs false
set_option linter.unusedVariables false
theorem exec_upx {a : Act} {o : Oper} (w : World) (x y : Operand) (ho : o.op = .slice 33 x none (some y) none) (s : Option Addr) (len cap n : Nat) (hx : a.eval x = .slice s len cap) (hy : a.eval y = .int .i64 n) (hc : len ≤ cap) (hn : n ≤ len) :
    (execOp a.eval o).run Tryd.prog w = .ok (.value (.slice s n cap)) w := by
  have e1 : (0 : Int) ≤ n := by omega
  have e2 : (n : Int) ≤ cap := by omega
  have hu : Tryd.prog.underlying 33 = some (.slice (Tryd.prog.elem 33)) := by kernel_rfl
  have hs : (sizeOf (Tryd.prog.elem 33)).run Tryd.prog w = .ok 1 w := by kernel_rfl
  simp [execOp, ho, hx, hy, run_sliceAt_slice _ _ _ _ _ _ hu, run_slice_h _ _ _ _ _ hu _ _ e1 e2, hs, sliced]
  intro _
  cases s with
  | none => rfl
  | some q => cases q with | mk b_ o_ s_ => cases s_ <;> rfl
theorem wl_last {B : Nat → List Int} {N t : Nat} {X : List (List Int)} {x : List Int} (k : Wl B N t (X ++ [x])) (hN : N ≤ 100000) : ∀ i, i < ned x.length → B (usd X + i) = (secs t X.length x).getD i [] := by
  have h := ((Lay.app X [x]).1 k.lay).2
  rw [Nat.zero_add, Nat.zero_add] at h
  exact (istx_to hN h.1).2.2
set_option maxHeartbeats 4000000 in
theorem lays_law (n0 : Int) (b0 : -9223372036854775808 ≤ n0 ∧ n0 < 9223372036854775808) (P : List (List Int)) (sa : Option Addr) (sn sc : Nat) (w : World) (hf0 : Fst w) (hP0 : Lp w sa sn sc P) : Calls Tryd.prog 4 #[.int .i64 n0, .slice sa sn sc] w (Vl (.bool true) w) := by
  obtain ⟨T, hT⟩ : ∃ T, T = Vl (.bool true) w := ⟨_, rfl⟩
  rw [← hT]
  replace hT := hide hT
  have hP := hP0.lq
  have hsc := hP.cap
  have hsm := hP.max
  have hPl := hP.len
  obtain ⟨m0, hm0⟩ : ∃ k, k = min sn 20 := ⟨_, rfl⟩
  have hm0s : m0 ≤ sn := by omega
  have hm020 : m0 ≤ 20 := by omega
  replace hf0 := hide hf0; replace hP := hide hP; replace hPl := hide hPl; replace hm0 := hide hm0
  clear hP0
  go_enter Tryd.func4, Tryd.ntmps4
  go_upto_region 1 with fail
  refine wp_region_lit ?_
  refine list_call 7 #[] (by kernel_rfl) (by kernel_rfl) ((wakes12_ok w (unhide hf0)).mono ?_)
  rintro r v0 ⟨rfl, hg⟩
  refine ⟨_, rfl, ?_⟩
  have hf := hide ((unhide hf0).gr hg)
  have hgw := hide hg
  clear hg
  simp only [nrm]
  refine list_val (.bool false) (by kernel_rfl) (by kernel_rfl) ?_
  simp only [nrm]
  refine wpList_nil ?_
  go_upto_region 3 with fail
  refine wp_region_lit ?_
  refine list_val (.int .i64 n0) (by kernel_rfl) (by kernel_rfl) ?_
  simp only [nrm]
  refine list_call 8 #[.int .i64 n0] (by kernel_rfl) (by kernel_rfl) ((store_ok n0 v0 (unhide hf)).mono ?_)
  rintro r u1 ⟨F, G, gs, gd, D, rfl, hXs, hwd, hDz⟩
  obtain ⟨s1, s2, s3, s4⟩ := sup0_is
  have hz := stz_bd n0
  generalize stz n0 = zz at *
  generalize sup0 = S0 at *
  have hs0 : S0.turn = 0 := by omega
  clear s1 s2 s3 s4
  refine ⟨_, rfl, ?_⟩
  replace hXs := hide hXs; replace hwd := hide hwd; replace hDz := hide hDz
  simp only [nrm]
  refine list_val (.tuple #[.pointer (some ⟨gd, 0, none⟩), .pointer (some ⟨gs, 0, none⟩)]) (by kernel_rfl) (by kernel_rfl) ?_
  simp only [nrm]
  refine list_val (.pointer (some ⟨gd, 0, none⟩)) (by kernel_rfl) (by kernel_rfl) ?_
  simp only [nrm]
  refine list_val (.pointer (some ⟨gs, 0, none⟩)) (by kernel_rfl) (by kernel_rfl) ?_
  simp only [nrm]
  (refine wpList_step fun K hK => ?_; replace hK := hide hK; go_simp; refine unhide hK _ _ ?_; clear hK K)
  (refine wpList_step fun K hK => ?_; replace hK := hide hK; go_simp; refine unhide hK _ _ ?_; clear hK K)
  refine wpList_nil ?_
  go_upto_region 4 with fail
  refine wp_region_lit ?_
  refine list_val (.pointer (some ⟨gs, 0, none⟩)) (by kernel_rfl) (by kernel_rfl) ?_
  simp only [nrm]
  skip
  refine list_call 9 #[P0 gs] (by kernel_rfl) (by kernel_rfl) ((x_open (unhide hXs) (unhide hwd) (by omega) (unhide hf)).mono ?_)
  rintro r u2 ⟨l, H, rfl, hlx, hln, hg⟩
  refine ⟨_, rfl, ?_⟩
  have hX := hide hlx
  clear hlx hln
  clear hg
  simp only [nrm]
  refine list_val (.tuple #[.pointer (some ⟨l, 0, none⟩), .int .i64 0]) (by kernel_rfl) (by kernel_rfl) ?_
  simp only [nrm]
  refine list_val (.pointer (some ⟨l, 0, none⟩)) (by kernel_rfl) (by kernel_rfl) ?_
  simp only [nrm]
  refine list_val (.int .i64 0) (by kernel_rfl) (by kernel_rfl) ?_
  simp only [nrm]
  (refine wpList_step fun K hK => ?_; replace hK := hide hK; go_simp; refine unhide hK _ _ ?_; clear hK K)
  (refine wpList_step fun K hK => ?_; replace hK := hide hK; go_simp; refine unhide hK _ _ ?_; clear hK K)
  refine wpList_nil ?_
  go_upto_region 5 with fail
  refine wp_region_lit ?_
  refine list_val (.pointer (some ⟨gs, 0, none⟩)) (by kernel_rfl) (by kernel_rfl) ?_
  simp only [nrm]
  refine list_val (.bool false) (by kernel_rfl) (by kernel_rfl) ?_
  simp only [nrm]
  refine list_val (.bool false) (by kernel_rfl) (by kernel_rfl) ?_
  simp only [nrm]
  refine list_val (.int .i64 0) (by kernel_rfl) (by kernel_rfl) ?_
  simp only [nrm]
  refine list_val (.bool false) (by kernel_rfl) (by kernel_rfl) ?_
  simp only [nrm]
  refine list_val (.bool false) (by kernel_rfl) (by kernel_rfl) ?_
  simp only [nrm]
  refine wpList_nil ?_
  go_upto_region 7 with fail
  obtain ⟨rq, hrq⟩ : ∃ q : Int, q = (sn : Int) % 2 := ⟨_, rfl⟩
  have erq : (sn : Int).tmod 2 = rq := by rw [Int.tmod_eq_emod_of_nonneg (by omega), hrq]
  have wrq : IntKind.i64.wrap rq = rq := by rw [IntKind.wrap_i64]; omega
  replace hrq := hide hrq
  by_cases hodd : rq = 1
  · skip
    subst hodd
    refine wp_region_lit ?_
    refine list_val (.slice sa sn sc) (by kernel_rfl) (by kernel_rfl) ?_
    simp only [nrm]
    refine list_val (.int .i64 (sn : Int)) (by kernel_rfl) (by kernel_rfl) ?_
    simp only [nrm]
    refine list_val (.int .i64 1) (by kernel_rfl) (by go_simp) ?_
    simp only [nrm]
    refine list_val (.bool true) (by kernel_rfl) (by kernel_rfl) ?_
    simp only [nrm]
    refine list_val (.bool true) (by kernel_rfl) (by kernel_rfl) ?_
    simp only [nrm]
    refine list_val (.pointer (some ⟨l, 0, none⟩)) (by kernel_rfl) (by kernel_rfl) ?_
    simp only [nrm]
    refine list_valw (.slice (some ⟨u2.heap.size, 0, none⟩) 1 1) (u2.alloc (.cells (kc [115]) 5 (0, 0))) (by kernel_rfl) (by kernel_rfl) ?_
    simp only [nrm]
    refine list_valw (.slice (some ⟨u2.heap.size, 0, none⟩) 1 1) (u2.alloc (.cells (kc [115]) 5 ((kc [115]).size, (kc [115]).size + 1))) (by kernel_rfl) (exec_const u2 (.tmp 41) rfl (kc [115]) 1 1 (by kernel_rfl)) ?_
    simp only [nrm]
    have hg := (Gr.refl u2).alloc (.cells (kc [115]) 5 ((kc [115]).size, (kc [115]).size + 1))
    have hxb : IsB [115] := by intro x hx; simp at hx; omega
    have l1 : Lb (u2.alloc (.cells (kc [115]) 5 ((kc [115]).size, (kc [115]).size + 1))) (some ⟨u2.heap.size, 0, none⟩) 1 1 [115] := ⟨rfl, hxb, .inr ⟨_, 0, rfl, fun j hj => by rw [Nat.zero_add]; exact cell_of (blk_new _ _) (kc_get [115] j hj)⟩, by omega, by omega⟩
    have hfar : ([115] : List Int) = [] ∨ ∀ i, i ∈ F ∨ i ∈ G ∨ i ∈ H → blkOf (some ⟨u2.heap.size, 0, none⟩) ≠ some i := by
      right
      intro i hi e
      have e2 : u2.heap.size = i := Option.some.inj e
      rcases hi with hi | hi | hi
      · have := (unhide hX).xs.ls.lt i hi; omega
      · have := (unhide hX).xs.st.lt i hi; omega
      · have := (unhide hX).lg.lt i hi; omega
    replace hX := hide ((unhide hX).more hg)
    clear hg
    generalize World.alloc _ _ = u3 at *
    generalize u2.heap.size = h1 at *
    replace l1 := hide l1; replace hfar := hide hfar
    refine list_call 18 #[P0 l, .slice (some ⟨h1, 0, none⟩) 1 1] (by kernel_rfl) (by kernel_rfl) ((x_check (unhide hX) (by omega) (unhide hf) (by omega) [115] (some ⟨h1, 0, none⟩) 1 1 (unhide l1) (unhide hfar) (by rw [unhide hDz]; omega)).mono ?_)
    rintro r u4 ⟨F4, H4, E4, rfl, hX4, hE4, hC, -⟩
    have hDz4 : E4.safe.length = zz := hE4.trans (unhide hDz)
    have hn4 := (S0.next_is [115]).1
    have hm4 : 3 + (([115].length + 63) / 64 + 3) ≤ 40 := by decide
    clear hX hDz
    generalize S0.next [115] = SS at *
    generalize 3 + (([115].length + 63) / 64 + 3) = m4 at *
    obtain ⟨LL, hLL⟩ : ∃ L, L = ([115] : List Int) := ⟨_, rfl⟩
    rw [← hLL] at hX4
    have hX := hide hX4
    have hDz := hide hDz4
    clear hX4 hDz4 hLL hC hE4 l1 hfar
    refine ⟨_, rfl, ?_⟩
    simp only [nrm]
    refine list_val (.bool false) (by kernel_rfl) (by kernel_rfl) ?_
    simp only [nrm]
    refine list_val (.bool false) (by kernel_rfl) (by kernel_rfl) ?_
    simp only [nrm]
    refine wpList_nil ?_
    have hI0 : Hid (∃ F H D m X, Xl v0 F G H l gs gd D m SS LL X u4 ∧ D.safe.length = zz ∧ m ≤ 40 + 40 * 0 ∧ usd X = 0 ∧ X.length = 0 ∧ SS.turn ≤ 1) := ⟨_, _, _, _, [], unhide hX, unhide hDz, by omega, rfl, rfl, by omega⟩
    clear hX
    try clear hn4
    clear hs0
    go_upto_region 10 with fail
    refine wp_region_lit ?_
    refine list_val (.slice sa sn sc) (by kernel_rfl) (by kernel_rfl) ?_
    simp only [nrm]
    refine list_val (.slice sa sn sc) (by kernel_rfl) (by kernel_rfl) ?_
    simp only [nrm]
    refine list_val (.int .i64 (sn : Int)) (by kernel_rfl) (by kernel_rfl) ?_
    simp only [nrm]
    refine list_val (.int .i64 (m0 : Int)) (by kernel_rfl) (by have h9 := unhide hm0; go_simp; omega) ?_
    simp only [nrm]
    refine list_val (.slice sa m0 sc) (by kernel_rfl) (exec_upx _ (.tmp 46) (.tmp 49) rfl sa sn sc m0 (by kernel_rfl) (by kernel_rfl) hsc hm0s) ?_
    simp only [nrm]
    refine list_val (.int .i64 (m0 : Int)) (by kernel_rfl) (by kernel_rfl) ?_
    simp only [nrm]
    refine list_val (.int .i64 0) (by kernel_rfl) (by kernel_rfl) ?_
    simp only [nrm]
    refine wpList_nil ?_
    go_wp2_with fail
    go_loopw [52, 9, 10] (fun i a n wr => ∃ (j u k : Nat), j ≤ m0 ∧ i = .int .i64 (j : Int) ∧ a = .int .i64 (u : Int) ∧ n = .int .i64 (k : Int) ∧ u ≤ 100 ∧ k ≤ 100 ∧ Hid (∃ F H D m X, Xl v0 F G H l gs gd D m SS LL X wr ∧ D.safe.length = zz ∧ m ≤ 40 + 40 * j ∧ usd X = u ∧ X.length = k ∧ SS.turn ≤ 1)) (fun i _ _ _ => m0 - (intOf i).toNat)
    case atStart => exact ⟨0, 0, 0, by omega, rfl, rfl, rfl, by omega, by omega, hI0⟩
    case round =>
    clear hI0
    obtain ⟨j, u, k, hj, rfl, rfl, rfl, hu1, hk1, hA⟩ := hrel
    obtain ⟨F1, H1, D1, m1, X, hX, hDz1, hm1, hu, hk, hSt⟩ := unhide hA
    clear hA
    replace hX := hide hX; replace hDz1 := hide hDz1; replace hu := hide hu; replace hk := hide hk
    by_cases hlt : j < m0
    · skip
      have jI : (j : Int) < (m0 : Int) := by omega
      obtain ⟨p, o, ai, ni, ci, rfl, hc, hLb, hni⟩ := (unhide hP).at_ j (by omega)
      obtain ⟨nx, hnx⟩ : ∃ k, k = min ni 2000 := ⟨_, rfl⟩
      have hcap := hLb.cap
      have hnxn : nx ≤ ni := by omega
      have hnx2 : nx ≤ 2000 := by omega
      have hLx := hLb.pre nx hnxn
      obtain ⟨x, hx⟩ : ∃ x, x = (P.getD j []).take nx := ⟨_, rfl⟩
      rw [← hx] at hLx
      have hxl := hLx.len
      replace hnx := hide hnx; replace hx := hide hx; replace hLx := hide hLx; replace hc := hide hc; replace hxl := hide hxl
      clear hLb
      go_upto_region 12 with fail
      refine wp_region_lit ?_
      refine list_val (.pointer (some ⟨p, o + j, none⟩)) (by kernel_rfl) (exec_ils _ (.tmp 50) (.tmp 52) rfl p o m0 sc j (by kernel_rfl) (by kernel_rfl) hlt) ?_
      simp only [nrm]
      refine list_val (.slice ai ni ci) (by kernel_rfl) (exec_sby _ (.tmp 54) rfl p (o + j) (by kernel_rfl) ai ni ci (((unhide hgw).trans (unhide hX).xs.gr).cell (unhide hc))) ?_
      simp only [nrm]
      (refine wpList_step fun K hK => ?_; replace hK := hide hK; go_simp; refine unhide hK _ _ ?_; clear hK K)
      refine wpList_nil ?_
      go_upto_region 13 with fail
      refine wp_region_lit ?_
      refine list_val (.slice ai ni ci) (by kernel_rfl) (by kernel_rfl) ?_
      simp only [nrm]
      refine list_val (.slice ai ni ci) (by kernel_rfl) (by kernel_rfl) ?_
      simp only [nrm]
      refine list_val (.int .i64 (ni : Int)) (by kernel_rfl) (by kernel_rfl) ?_
      simp only [nrm]
      refine list_val (.int .i64 (nx : Int)) (by kernel_rfl) (by have h9 := unhide hnx; go_simp; omega) ?_
      simp only [nrm]
      refine list_val (.slice ai nx ci) (by kernel_rfl) (exec_upto2 _ (.tmp 56) (.tmp 59) rfl ai ni ci nx (by kernel_rfl) (by kernel_rfl) hcap hnxn) ?_
      simp only [nrm]
      (refine wpList_step fun K hK => ?_; replace hK := hide hK; go_simp; refine unhide hK _ _ ?_; clear hK K)
      refine wpList_nil ?_
      by_cases hfit : usd X + ned x.length ≤ D1.safe.length - lgo D1.safe.length
      · skip
        go_upto_region 14 with fail
        refine wp_region_lit ?_
        refine list_val (.pointer (some ⟨l, 0, none⟩)) (by kernel_rfl) (by kernel_rfl) ?_
        simp only [nrm]
        refine list_val (.slice ai nx ci) (by kernel_rfl) (by kernel_rfl) ?_
        simp only [nrm]
        refine list_call 17 #[P0 l, .slice ai nx ci] (by kernel_rfl) (by kernel_rfl) ((x_append (unhide hX) (by omega) (unhide hf) x ai nx ci ((unhide hLx).gr ((unhide hgw).trans (unhide hX).xs.gr)) ((unhide hX).far ((unhide hLx).gr (unhide hgw))) hfit).mono ?_)
        rintro r y1 ⟨F2, H2, D2, rfl, hX2, hE2, hC, -⟩
        refine ⟨_, rfl, ?_⟩
        have hDz2 : D2.safe.length = zz := hE2.trans (unhide hDz1)
        rw [unhide hDz1] at hfit
        obtain ⟨K, hK⟩ : ∃ K, K = (nx + 62) / 63 + 1 := ⟨_, rfl⟩
        have hK32 : K ≤ 33 := by omega
        have hned : ned x.length = K := by unfold ned; rw [unhide hxl]; omega
        have hm2 : m1 + ((x.length + 62) / 63 + 3) ≤ 40 + 40 * (j + 1) := by rw [unhide hxl]; omega
        rw [hned] at hfit
        have hlg9 : zz - lgo zz ≤ 46 := by unfold lgo; omega
        have huu := unhide hu
        have hwl := wl_last hX2.wd.wl (by rw [hDz2]; omega)
        rw [hDz2, huu, hned, unhide hk] at hwl
        have hust : usd (X ++ [x]) = u + K := by rw [usd_app, usd_one, huu, hned]
        have hukt : (X ++ [x]).length = k + 1 := by rw [List.length_append, unhide hk]; rfl
        rw [huu] at hfit
        generalize m1 + ((x.length + 62) / 63 + 3) = m2 at *
        generalize X ++ [x] = X2 at *
        have hX3 := hide hX2
        clear hX hX2 hC huu
        replace hDz2 := hide hDz2; replace hK := hide hK; replace hned := hide hned; replace hm2 := hide hm2; replace hwl := hide hwl; replace hust := hide hust; replace hukt := hide hukt
        simp only [nrm]
        refine list_val (.bool false) (by kernel_rfl) (by kernel_rfl) ?_
        simp only [nrm]
        refine wpList_nil ?_
        go_upto_region 15 with fail
        refine wp_region_lit ?_
        refine list_val (.pointer (some ⟨gs, 0, none⟩)) (by kernel_rfl) (by kernel_rfl) ?_
        simp only [nrm]
        refine list_call 22 #[.pointer (some ⟨gs, 0, none⟩)] (by kernel_rfl) (by kernel_rfl) ((turn_ok F2 G gs gd m2 D2 SS (unhide hX3).wd.fd.ok (by have := unhide hm2; omega) (unhide hX3).wd.fd.dead (by rw [unhide hDz2]; omega) _ (unhide hX3).xs.ls (unhide hX3).xs.st (unhide hX3).wd.os.cnt ((unhide hX3).fst (unhide hf))).mono ?_)
        rintro r y2 ⟨rfl, hg⟩
        refine ⟨_, rfl, ?_⟩
        replace hX3 := hide ((unhide hX3).more hg)
        clear hg
        simp only [nrm]
        refine list_val (.int .i64 (k : Int)) (by kernel_rfl) (by kernel_rfl) ?_
        simp only [nrm]
        refine list_val (.slice ai nx ci) (by kernel_rfl) (by kernel_rfl) ?_
        simp only [nrm]
        refine list_call 21 #[.int .u64 (SS.turn : Int), .int .i64 (k : Int), .slice ai nx ci] (by kernel_rfl) (by kernel_rfl) ((sectors12_ok SS.turn k (by omega) (by omega) x ai nx ci _ ((unhide hLx).gr ((unhide hgw).trans (unhide hX3).xs.gr)) (by omega)).mono ?_)
        rintro r y3 ⟨vv, rfl, hor, hg⟩
        obtain ⟨qa, qc, hv9, hls⟩ := hor.ls
        have hsl9 : ((secs SS.turn k x).map bv).length = K := by
          rw [List.length_map]
          unfold secs
          rw [secN_len, unhide hxl, ← unhide hK]
        rw [hsl9] at hv9 hls
        subst hv9
        have hsb : ∀ i, i < K → ((secs SS.turn k x).map bv).getD i [] = bv ((secs SS.turn k x).getD i []) ∧ ((secs SS.turn k x).getD i []).length = 64 := fun i hi => by
          have hi2 : i < (secs SS.turn k x).length := by rw [List.length_map] at hsl9; omega
          refine ⟨by simp [List.getD_eq_getElem?_getD, List.getElem?_eq_getElem hi2], ?_⟩
          have h9 := hls.row (bv ((secs SS.turn k x).getD i [])) (List.mem_map.2 ⟨_, mem_of_getD hi2, rfl⟩)
          rw [bv_len] at h9
          exact h9
        have hwl2 := unhide hwl
        generalize secs SS.turn k x = SQ at *
        replace hX3 := hide ((unhide hX3).more hg)
        clear hwl
        replace hls := hide hls; replace hsb := hide hsb; replace hwl2 := hide hwl2
        clear hor hg hsl9
        refine ⟨_, rfl, ?_⟩
        simp only [nrm]
        refine list_val (.int .i64 (K : Int)) (by kernel_rfl) (by kernel_rfl) ?_
        simp only [nrm]
        refine list_val (.int .i64 0) (by kernel_rfl) (by kernel_rfl) ?_
        simp only [nrm]
        refine wpList_nil ?_
        have hC0 : Hid (Xl v0 F2 G H2 l gs gd D2 m2 SS LL X2 y3 ∧ Gr y3 y3) := ⟨unhide hX3, Gr.refl y3⟩
        go_wp2_with fail
        go_loopw [71, 9] (fun i a wr => ∃ (q u2 : Nat), q ≤ K ∧ i = .int .i64 (q : Int) ∧ a = .int .i64 (u2 : Int) ∧ Hid (u2 = u + q) ∧ Hid (Xl v0 F2 G H2 l gs gd D2 m2 SS LL X2 wr ∧ Gr y3 wr)) (fun i _ _ => K - (intOf i).toNat)
        case atStart => exact ⟨0, u, by omega, rfl, rfl, rfl, hC0⟩
        case round =>
        clear hC0 hX3
        obtain ⟨q, u2, hq, rfl, rfl, hu2, hCC⟩ := hrel
        obtain ⟨hX3, hG3⟩ := unhide hCC
        clear hCC
        replace hX3 := hide hX3; replace hG3 := hide hG3
        by_cases hqK : q < K
        · skip
          have qI : (q : Int) < (K : Int) := by omega
          obtain ⟨sp, so, rfl, hrs⟩ := (unhide hls).at_ q hqK
          rw [((unhide hsb) q hqK).1] at hrs
          have hsj := ((unhide hsb) q hqK).2
          have hcq : D2.cur (lgo D2.safe.length + u2) = SQ.getD q [] := by rw [unhide hDz2, unhide hu2]; exact (unhide hwl2) q hqK
          obtain ⟨sj, hsj2⟩ : ∃ s, s = SQ.getD q [] := ⟨_, rfl⟩
          rw [← hsj2] at hrs hsj hcq
          have hu2b : u2 < zz - lgo zz := by have h1 := unhide hu2; omega
          obtain ⟨u3, hu3⟩ : ∃ k, k = u2 + 1 := ⟨_, rfl⟩
          have wu3 : IntKind.i64.wrap ((u2 : Int) + 1) = (u3 : Int) := by rw [IntKind.wrap_i64]; omega
          obtain ⟨q1, hq1⟩ : ∃ k, k = q + 1 := ⟨_, rfl⟩
          have wq1 : IntKind.i64.wrap ((q : Int) + 1) = (q1 : Int) := by rw [IntKind.wrap_i64]; omega
          replace hrs := hide hrs; replace hsj2 := hide hsj2; replace hcq := hide hcq; replace hu3 := hide hu3; replace hq1 := hide hq1
          have hB := Bl.nil wr
          go_upto_region 17 with fail
          refine wp_region_lit ?_
          refine list_val (.pointer (some ⟨sp, so + 64 * q, none⟩)) (by kernel_rfl) (exec_ib _ (.tmp 69) (.tmp 71) rfl sp so K qc q (by kernel_rfl) (by kernel_rfl) hqK) ?_
          simp only [nrm]
          refine list_val (.agg (kc sj)) (by kernel_rfl) (exec_row _ 50 (.tmp 73) rfl sp (so + 64 * q) (by kernel_rfl) (bv sj) _ (range_gr (unhide hrs) ((unhide hG3).trans hB.gr)) Tryd.underlying50 rfl (by rw [Tryd.infoB, bv_len, hsj])) ?_
          simp only [nrm]
          refine list_valw (.pointer (some ⟨wr.heap.size, 0, none⟩)) (wr.alloc (.cells (kc ZB) 50 (0, 0))) (by kernel_rfl) (by kernel_rfl) ?_
          replace hB := hB.new (kc ZB) 50
          simp only [List.nil_append, List.cons_append] at hB
          generalize World.alloc _ _ = z1 at *
          generalize wr.heap.size = gx at *
          replace hB : Bl wr [⟨gx, kc ZB, 50⟩] z1 := hB
          simp only [nrm]
          refine list_store 50 (.tmp 14) (.tmp 74) (gx) (kc sj) 50 (kc ZB) (by kernel_rfl) rfl (by kernel_rfl) (by kernel_rfl) (hB.get 0 (x := ⟨gx, kc ZB, 50⟩) rfl) (by rw [Tryd.infoB, kc_size, hsj]) ((show (kc ZB).size = 64 from rfl).trans ((kc_size _).trans hsj).symm) (kc_one _) ?_
          replace hB := hB.set 0 (x := ⟨gx, kc ZB, 50⟩) rfl (kc sj)
          simp only [List.set_cons_zero, List.set_cons_succ] at hB
          generalize World.setRow _ _ _ = z2 at *
          replace hB : Bl wr [⟨gx, kc sj, 50⟩] z2 := hB
          simp only [nrm]
          refine wpList_nil ?_
          replace hB := hide hB
          go_upto_region 18 with fail
          replace hB := unhide hB
          refine wp_region_lit ?_
          refine list_val (.pointer (some ⟨gs, 0, none⟩)) (by kernel_rfl) (by kernel_rfl) ?_
          simp only [nrm]
          refine list_val (.int .i64 (u2 : Int)) (by kernel_rfl) (by kernel_rfl) ?_
          simp only [nrm]
          have hsl := eslot_ok F2 G gs gd m2 D2 SS (unhide hX3).wd.fd.ok (by have := unhide hm2; omega) (u2 : Int) (by have h9 := lgo_slots zz; rw [unhide hDz2]; constructor <;> omega) z2 ((unhide hX3).xs.ls.gr hB.gr) ((unhide hX3).xs.st.gr hB.gr)
          rw [show ((((2 + 2 * ((D2.safe.length - 2) / 4) : Nat) : Int)) + (u2 : Int)) = ((lgo D2.safe.length + u2 : Nat) : Int) from by unfold lgo; omega] at hsl
          have hil : lgo D2.safe.length + u2 < D2.safe.length := by rw [unhide hDz2]; omega
          rw [read_cur (unhide hX3).wd.fd.dead _ hil, unhide hcq] at hsl
          rw [show D2.readE ((lgo D2.safe.length + u2 : Nat) : Int) = 0 from by unfold Dk.readE; rw [(unhide hX3).wd.fd.dead, if_neg (by decide), if_pos ⟨by omega, by omega⟩]] at hsl
          refine list_call 23 #[.pointer (some ⟨gs, 0, none⟩), .int .i64 (u2 : Int)] (by kernel_rfl) (by kernel_rfl) (hsl.mono ?_)
          rintro r z3 ⟨rfl, hg⟩
          replace hB := hB.more hg
          clear hg hsl hil
          refine ⟨_, rfl, ?_⟩
          simp only [nrm]
          refine list_val (.tuple #[.agg (kc sj), .int .i64 0]) (by kernel_rfl) (by kernel_rfl) ?_
          simp only [nrm]
          refine list_val (.agg (kc sj)) (by kernel_rfl) (by kernel_rfl) ?_
          simp only [nrm]
          refine list_val (.int .i64 0) (by kernel_rfl) (by kernel_rfl) ?_
          simp only [nrm]
          refine list_valw (.pointer (some ⟨z3.heap.size, 0, none⟩)) (z3.alloc (.cells (kc ZB) 50 (0, 0))) (by kernel_rfl) (by kernel_rfl) ?_
          replace hB := hB.new (kc ZB) 50
          simp only [List.nil_append, List.cons_append] at hB
          generalize World.alloc _ _ = z4 at *
          generalize z3.heap.size = gy at *
          replace hB : Bl wr [⟨gx, kc sj, 50⟩, ⟨gy, kc ZB, 50⟩] z4 := hB
          simp only [nrm]
          refine list_store 50 (.tmp 15) (.tmp 79) (gy) (kc sj) 50 (kc ZB) (by kernel_rfl) rfl (by kernel_rfl) (by kernel_rfl) (hB.get 1 (x := ⟨gy, kc ZB, 50⟩) rfl) (by rw [Tryd.infoB, kc_size, hsj]) ((show (kc ZB).size = 64 from rfl).trans ((kc_size _).trans hsj).symm) (kc_one _) ?_
          replace hB := hB.set 1 (x := ⟨gy, kc ZB, 50⟩) rfl (kc sj)
          simp only [List.set_cons_zero, List.set_cons_succ] at hB
          generalize World.setRow _ _ _ = z5 at *
          replace hB : Bl wr [⟨gx, kc sj, 50⟩, ⟨gy, kc sj, 50⟩] z5 := hB
          simp only [nrm]
          (refine wpList_step fun K hK => ?_; replace hK := hide hK; go_simp; refine unhide hK _ _ ?_; clear hK K)
          refine wpList_nil ?_
          replace hB := hide hB
          go_upto_region 19 with fail
          replace hB := unhide hB
          refine wp_region_lit ?_
          refine list_val (.int .i64 0) (by kernel_rfl) (by kernel_rfl) ?_
          simp only [nrm]
          refine list_val (.bool false) (by kernel_rfl) (by kernel_rfl) ?_
          simp only [nrm]
          refine list_val (.bool false) (by kernel_rfl) (by kernel_rfl) ?_
          simp only [nrm]
          refine list_val (.agg (kc sj)) (by kernel_rfl) (exec_arr _ 50 (.tmp 15) rfl (gy) (by kernel_rfl) (kc sj) 50 _ (hB.get 1 (x := ⟨gy, kc sj, 50⟩) rfl) Tryd.underlying50 rfl (by rw [Tryd.infoB, kc_size, hsj])) ?_
          simp only [nrm]
          refine list_val (.agg (kc sj)) (by kernel_rfl) (exec_arr _ 50 (.tmp 14) rfl (gx) (by kernel_rfl) (kc sj) 50 _ (hB.get 0 (x := ⟨gx, kc sj, 50⟩) rfl) Tryd.underlying50 rfl (by rw [Tryd.infoB, kc_size, hsj])) ?_
          simp only [nrm]
          refine list_val (.bool false) (by kernel_rfl) (exec_neB _ (.tmp 84) (.tmp 85) rfl sj hsj (by kernel_rfl) (by kernel_rfl)) ?_
          simp only [nrm]
          refine list_val (.bool false) (by kernel_rfl) (by kernel_rfl) ?_
          simp only [nrm]
          refine wpList_nil ?_
          have hC1 : Hid (Xl v0 F2 G H2 l gs gd D2 m2 SS LL X2 z5 ∧ Gr y3 z5) := ⟨(unhide hX3).more hB.gr, (unhide hG3).trans hB.gr⟩
          clear hB
          go_wp2_with fail
          go_roundw
          case rel => exact ⟨q1, u3, by have := unhide hq1; omega, rfl, rfl, by have h1 := unhide hu3; have h2 := unhide hu2; have h3 := unhide hq1; show u3 = u + q1; omega, hC1⟩
          case measure => have h3 := unhide hq1; simp [intOf]; omega
        have qI : ¬ (q : Int) < (K : Int) := by omega
        obtain rfl : q = K := by omega
        obtain ⟨k2, hk2⟩ : ∃ n, n = k + 1 := ⟨_, rfl⟩
        have wk2 : IntKind.i64.wrap ((k : Int) + 1) = (k2 : Int) := by rw [IntKind.wrap_i64]; omega
        have hC9 : Hid (∃ F H D m X, Xl v0 F G H l gs gd D m SS LL X wr ∧ D.safe.length = zz ∧ m ≤ 40 + 40 * (j + 1) ∧ usd X = u2 ∧ X.length = k2 ∧ SS.turn ≤ 1) := ⟨F2, H2, D2, m2, X2, unhide hX3, unhide hDz2, unhide hm2, by rw [unhide hust, unhide hu2], by rw [unhide hukt, hk2], hSt⟩
        have hu9 : u2 ≤ 100 := by have := unhide hu2; omega
        have hk9 : k2 ≤ 100 := by have h1 := usd_ge X2; rw [unhide hust, unhide hukt] at h1; omega
        replace hk2 := hide hk2
        go_wp2_with fail
        go_roundw
        case rel => exact ⟨j + 1, u2, k2, by omega, by go_num, rfl, rfl, hu9, hk9, hC9⟩
        case measure => simp [intOf]; omega
      · skip
        go_upto_region 14 with fail
        refine wp_region_lit ?_
        refine list_val (.pointer (some ⟨l, 0, none⟩)) (by kernel_rfl) (by kernel_rfl) ?_
        simp only [nrm]
        refine list_val (.slice ai nx ci) (by kernel_rfl) (by kernel_rfl) ?_
        simp only [nrm]
        refine list_call 17 #[.pointer (some ⟨l, 0, none⟩), .slice ai nx ci] (by kernel_rfl) (by kernel_rfl) ((x_full (unhide hX) ai nx ci (by omega) (by rw [← unhide hxl]; exact hfit)).mono ?_)
        rintro r y1 ⟨rfl, hg⟩
        refine ⟨_, rfl, ?_⟩
        replace hX := hide ((unhide hX).more hg)
        clear hg
        simp only [nrm]
        refine list_val (.bool true) (by kernel_rfl) (by kernel_rfl) ?_
        simp only [nrm]
        refine wpList_nil ?_
        have hC9 : Hid (∃ F H D m X, Xl v0 F G H l gs gd D m SS LL X y1 ∧ D.safe.length = zz ∧ m ≤ 40 + 40 * (j + 1) ∧ usd X = u ∧ X.length = k ∧ SS.turn ≤ 1) := ⟨F1, H1, D1, m1, X, unhide hX, unhide hDz1, by omega, unhide hu, unhide hk, hSt⟩
        go_wp2_with fail
        go_roundw
        case rel => exact ⟨j + 1, u, k, by omega, by go_num, rfl, rfl, hu1, hk1, hC9⟩
        case measure => simp [intOf]; omega
    have jI : ¬ (j : Int) < (m0 : Int) := by omega
    go_upto_region 25 with fail
    refine wp_region_lit ?_
    refine list_val (.pointer (some ⟨l, 0, none⟩)) (by kernel_rfl) (by kernel_rfl) ?_
    simp only [nrm]
    refine list_call 24 #[.pointer (some ⟨l, 0, none⟩)] (by kernel_rfl) (by kernel_rfl) ((x_used (unhide hX)).mono ?_)
    rintro r y9 ⟨rfl, hg⟩
    refine ⟨_, rfl, ?_⟩
    rw [unhide hu]
    replace hX := hide ((unhide hX).more hg)
    clear hg
    simp only [nrm]
    refine list_val (.int .i64 (u : Int)) (by kernel_rfl) (by kernel_rfl) ?_
    simp only [nrm]
    refine list_val (.bool true) (by kernel_rfl) (by go_simp) ?_
    simp only [nrm]
    (refine wpList_step fun K hK => ?_; replace hK := hide hK; go_simp; refine unhide hK _ _ ?_; clear hK K)
    refine wpList_nil ?_
    have hZ : Hid (Vl (.bool true) w (.returned (.bool true)) y9) := ⟨rfl, (unhide hgw).trans (unhide hX).xs.gr⟩
    clear hX
    go_wp2_with fail
    rw [unhide hT]
    exact unhide hZ
  · skip
    refine wp_region_lit ?_
    refine list_val (.slice sa sn sc) (by kernel_rfl) (by kernel_rfl) ?_
    simp only [nrm]
    refine list_val (.int .i64 (sn : Int)) (by kernel_rfl) (by kernel_rfl) ?_
    simp only [nrm]
    refine list_val (.int .i64 rq) (by kernel_rfl) (by go_simp) ?_
    simp only [nrm]
    refine list_val (.bool false) (by kernel_rfl) (by go_simp) ?_
    simp only [nrm]
    refine list_val (.bool false) (by kernel_rfl) (by kernel_rfl) ?_
    simp only [nrm]
    refine wpList_step fun K hK => ?_
    rw [if_neg (ne_true_of_eq_false (by kernel_rfl))]
    refine hK _ _ ?_
    clear hK K
    simp only [nrm]
    refine wpList_step fun K hK => ?_
    rw [if_neg (ne_true_of_eq_false (by kernel_rfl))]
    refine hK _ _ ?_
    clear hK K
    simp only [nrm]
    refine wpList_step fun K hK => ?_
    rw [if_neg (ne_true_of_eq_false (by kernel_rfl))]
    refine hK _ _ ?_
    clear hK K
    simp only [nrm]
    refine wpList_step fun K hK => ?_
    rw [if_neg (ne_true_of_eq_false (by kernel_rfl))]
    refine hK _ _ ?_
    clear hK K
    simp only [nrm]
    refine wpList_step fun K hK => ?_
    rw [if_neg (ne_true_of_eq_false (by kernel_rfl))]
    refine hK _ _ ?_
    clear hK K
    simp only [nrm]
    refine list_val (.bool false) (by kernel_rfl) (by kernel_rfl) ?_
    simp only [nrm]
    refine wpList_nil ?_
    obtain ⟨SS, hSS⟩ : ∃ s, s = S0 := ⟨_, rfl⟩
    obtain ⟨LL, hLL⟩ : ∃ L, L = ([] : List Int) := ⟨_, rfl⟩
    rw [← hSS, ← hLL] at hX
    rw [← hSS] at hs0
    clear hSS hLL
    have hI0 : Hid (∃ F H D m X, Xl v0 F G H l gs gd D m SS LL X u2 ∧ D.safe.length = zz ∧ m ≤ 40 + 40 * 0 ∧ usd X = 0 ∧ X.length = 0 ∧ SS.turn ≤ 1) := ⟨_, _, _, _, [], unhide hX, unhide hDz, by omega, rfl, rfl, by omega⟩
    clear hX
    try clear hn4
    clear hs0
    go_upto_region 10 with fail
    refine wp_region_lit ?_
    refine list_val (.slice sa sn sc) (by kernel_rfl) (by kernel_rfl) ?_
    simp only [nrm]
    refine list_val (.slice sa sn sc) (by kernel_rfl) (by kernel_rfl) ?_
    simp only [nrm]
    refine list_val (.int .i64 (sn : Int)) (by kernel_rfl) (by kernel_rfl) ?_
    simp only [nrm]
    refine list_val (.int .i64 (m0 : Int)) (by kernel_rfl) (by have h9 := unhide hm0; go_simp; omega) ?_
    simp only [nrm]
    refine list_val (.slice sa m0 sc) (by kernel_rfl) (exec_upx _ (.tmp 46) (.tmp 49) rfl sa sn sc m0 (by kernel_rfl) (by kernel_rfl) hsc hm0s) ?_
    simp only [nrm]
    refine list_val (.int .i64 (m0 : Int)) (by kernel_rfl) (by kernel_rfl) ?_
    simp only [nrm]
    refine list_val (.int .i64 0) (by kernel_rfl) (by kernel_rfl) ?_
    simp only [nrm]
    refine wpList_nil ?_
    go_wp2_with fail
    go_loopw [52, 9, 10] (fun i a n wr => ∃ (j u k : Nat), j ≤ m0 ∧ i = .int .i64 (j : Int) ∧ a = .int .i64 (u : Int) ∧ n = .int .i64 (k : Int) ∧ u ≤ 100 ∧ k ≤ 100 ∧ Hid (∃ F H D m X, Xl v0 F G H l gs gd D m SS LL X wr ∧ D.safe.length = zz ∧ m ≤ 40 + 40 * j ∧ usd X = u ∧ X.length = k ∧ SS.turn ≤ 1)) (fun i _ _ _ => m0 - (intOf i).toNat)
    case atStart => exact ⟨0, 0, 0, by omega, rfl, rfl, rfl, by omega, by omega, hI0⟩
    case round =>
    clear hI0
    obtain ⟨j, u, k, hj, rfl, rfl, rfl, hu1, hk1, hA⟩ := hrel
    obtain ⟨F1, H1, D1, m1, X, hX, hDz1, hm1, hu, hk, hSt⟩ := unhide hA
    clear hA
    replace hX := hide hX; replace hDz1 := hide hDz1; replace hu := hide hu; replace hk := hide hk
    by_cases hlt : j < m0
    · skip
      have jI : (j : Int) < (m0 : Int) := by omega
      obtain ⟨p, o, ai, ni, ci, rfl, hc, hLb, hni⟩ := (unhide hP).at_ j (by omega)
      obtain ⟨nx, hnx⟩ : ∃ k, k = min ni 2000 := ⟨_, rfl⟩
      have hcap := hLb.cap
      have hnxn : nx ≤ ni := by omega
      have hnx2 : nx ≤ 2000 := by omega
      have hLx := hLb.pre nx hnxn
      obtain ⟨x, hx⟩ : ∃ x, x = (P.getD j []).take nx := ⟨_, rfl⟩
      rw [← hx] at hLx
      have hxl := hLx.len
      replace hnx := hide hnx; replace hx := hide hx; replace hLx := hide hLx; replace hc := hide hc; replace hxl := hide hxl
      clear hLb
      go_upto_region 12 with fail
      refine wp_region_lit ?_
      refine list_val (.pointer (some ⟨p, o + j, none⟩)) (by kernel_rfl) (exec_ils _ (.tmp 50) (.tmp 52) rfl p o m0 sc j (by kernel_rfl) (by kernel_rfl) hlt) ?_
      simp only [nrm]
      refine list_val (.slice ai ni ci) (by kernel_rfl) (exec_sby _ (.tmp 54) rfl p (o + j) (by kernel_rfl) ai ni ci (((unhide hgw).trans (unhide hX).xs.gr).cell (unhide hc))) ?_
      simp only [nrm]
      (refine wpList_step fun K hK => ?_; replace hK := hide hK; go_simp; refine unhide hK _ _ ?_; clear hK K)
      refine wpList_nil ?_
      go_upto_region 13 with fail
      refine wp_region_lit ?_
      refine list_val (.slice ai ni ci) (by kernel_rfl) (by kernel_rfl) ?_
      simp only [nrm]
      refine list_val (.slice ai ni ci) (by kernel_rfl) (by kernel_rfl) ?_
      simp only [nrm]
      refine list_val (.int .i64 (ni : Int)) (by kernel_rfl) (by kernel_rfl) ?_
      simp only [nrm]
      refine list_val (.int .i64 (nx : Int)) (by kernel_rfl) (by have h9 := unhide hnx; go_simp; omega) ?_
      simp only [nrm]
      refine list_val (.slice ai nx ci) (by kernel_rfl) (exec_upto2 _ (.tmp 56) (.tmp 59) rfl ai ni ci nx (by kernel_rfl) (by kernel_rfl) hcap hnxn) ?_
      simp only [nrm]
      (refine wpList_step fun K hK => ?_; replace hK := hide hK; go_simp; refine unhide hK _ _ ?_; clear hK K)
      refine wpList_nil ?_
      by_cases hfit : usd X + ned x.length ≤ D1.safe.length - lgo D1.safe.length
      · skip
        go_upto_region 14 with fail
        refine wp_region_lit ?_
        refine list_val (.pointer (some ⟨l, 0, none⟩)) (by kernel_rfl) (by kernel_rfl) ?_
        simp only [nrm]
        refine list_val (.slice ai nx ci) (by kernel_rfl) (by kernel_rfl) ?_
        simp only [nrm]
        refine list_call 17 #[P0 l, .slice ai nx ci] (by kernel_rfl) (by kernel_rfl) ((x_append (unhide hX) (by omega) (unhide hf) x ai nx ci ((unhide hLx).gr ((unhide hgw).trans (unhide hX).xs.gr)) ((unhide hX).far ((unhide hLx).gr (unhide hgw))) hfit).mono ?_)
        rintro r y1 ⟨F2, H2, D2, rfl, hX2, hE2, hC, -⟩
        refine ⟨_, rfl, ?_⟩
        have hDz2 : D2.safe.length = zz := hE2.trans (unhide hDz1)
        rw [unhide hDz1] at hfit
        obtain ⟨K, hK⟩ : ∃ K, K = (nx + 62) / 63 + 1 := ⟨_, rfl⟩
        have hK32 : K ≤ 33 := by omega
        have hned : ned x.length = K := by unfold ned; rw [unhide hxl]; omega
        have hm2 : m1 + ((x.length + 62) / 63 + 3) ≤ 40 + 40 * (j + 1) := by rw [unhide hxl]; omega
        rw [hned] at hfit
        have hlg9 : zz - lgo zz ≤ 46 := by unfold lgo; omega
        have huu := unhide hu
        have hwl := wl_last hX2.wd.wl (by rw [hDz2]; omega)
        rw [hDz2, huu, hned, unhide hk] at hwl
        have hust : usd (X ++ [x]) = u + K := by rw [usd_app, usd_one, huu, hned]
        have hukt : (X ++ [x]).length = k + 1 := by rw [List.length_append, unhide hk]; rfl
        rw [huu] at hfit
        generalize m1 + ((x.length + 62) / 63 + 3) = m2 at *
        generalize X ++ [x] = X2 at *
        have hX3 := hide hX2
        clear hX hX2 hC huu
        replace hDz2 := hide hDz2; replace hK := hide hK; replace hned := hide hned; replace hm2 := hide hm2; replace hwl := hide hwl; replace hust := hide hust; replace hukt := hide hukt
        simp only [nrm]
        refine list_val (.bool false) (by kernel_rfl) (by kernel_rfl) ?_
        simp only [nrm]
        refine wpList_nil ?_
        go_upto_region 15 with fail
        refine wp_region_lit ?_
        refine list_val (.pointer (some ⟨gs, 0, none⟩)) (by kernel_rfl) (by kernel_rfl) ?_
        simp only [nrm]
        refine list_call 22 #[.pointer (some ⟨gs, 0, none⟩)] (by kernel_rfl) (by kernel_rfl) ((turn_ok F2 G gs gd m2 D2 SS (unhide hX3).wd.fd.ok (by have := unhide hm2; omega) (unhide hX3).wd.fd.dead (by rw [unhide hDz2]; omega) _ (unhide hX3).xs.ls (unhide hX3).xs.st (unhide hX3).wd.os.cnt ((unhide hX3).fst (unhide hf))).mono ?_)
        rintro r y2 ⟨rfl, hg⟩
        refine ⟨_, rfl, ?_⟩
        replace hX3 := hide ((unhide hX3).more hg)
        clear hg
        simp only [nrm]
        refine list_val (.int .i64 (k : Int)) (by kernel_rfl) (by kernel_rfl) ?_
        simp only [nrm]
        refine list_val (.slice ai nx ci) (by kernel_rfl) (by kernel_rfl) ?_
        simp only [nrm]
        refine list_call 21 #[.int .u64 (SS.turn : Int), .int .i64 (k : Int), .slice ai nx ci] (by kernel_rfl) (by kernel_rfl) ((sectors12_ok SS.turn k (by omega) (by omega) x ai nx ci _ ((unhide hLx).gr ((unhide hgw).trans (unhide hX3).xs.gr)) (by omega)).mono ?_)
        rintro r y3 ⟨vv, rfl, hor, hg⟩
        obtain ⟨qa, qc, hv9, hls⟩ := hor.ls
        have hsl9 : ((secs SS.turn k x).map bv).length = K := by
          rw [List.length_map]
          unfold secs
          rw [secN_len, unhide hxl, ← unhide hK]
        rw [hsl9] at hv9 hls
        subst hv9
        have hsb : ∀ i, i < K → ((secs SS.turn k x).map bv).getD i [] = bv ((secs SS.turn k x).getD i []) ∧ ((secs SS.turn k x).getD i []).length = 64 := fun i hi => by
          have hi2 : i < (secs SS.turn k x).length := by rw [List.length_map] at hsl9; omega
          refine ⟨by simp [List.getD_eq_getElem?_getD, List.getElem?_eq_getElem hi2], ?_⟩
          have h9 := hls.row (bv ((secs SS.turn k x).getD i [])) (List.mem_map.2 ⟨_, mem_of_getD hi2, rfl⟩)
          rw [bv_len] at h9
          exact h9
        have hwl2 := unhide hwl
        generalize secs SS.turn k x = SQ at *
        replace hX3 := hide ((unhide hX3).more hg)
        clear hwl
        replace hls := hide hls; replace hsb := hide hsb; replace hwl2 := hide hwl2
        clear hor hg hsl9
        refine ⟨_, rfl, ?_⟩
        simp only [nrm]
        refine list_val (.int .i64 (K : Int)) (by kernel_rfl) (by kernel_rfl) ?_
        simp only [nrm]
        refine list_val (.int .i64 0) (by kernel_rfl) (by kernel_rfl) ?_
        simp only [nrm]
        refine wpList_nil ?_
        have hC0 : Hid (Xl v0 F2 G H2 l gs gd D2 m2 SS LL X2 y3 ∧ Gr y3 y3) := ⟨unhide hX3, Gr.refl y3⟩
        go_wp2_with fail
        go_loopw [71, 9] (fun i a wr => ∃ (q u2 : Nat), q ≤ K ∧ i = .int .i64 (q : Int) ∧ a = .int .i64 (u2 : Int) ∧ Hid (u2 = u + q) ∧ Hid (Xl v0 F2 G H2 l gs gd D2 m2 SS LL X2 wr ∧ Gr y3 wr)) (fun i _ _ => K - (intOf i).toNat)
        case atStart => exact ⟨0, u, by omega, rfl, rfl, rfl, hC0⟩
        case round =>
        clear hC0 hX3
        obtain ⟨q, u2, hq, rfl, rfl, hu2, hCC⟩ := hrel
        obtain ⟨hX3, hG3⟩ := unhide hCC
        clear hCC
        replace hX3 := hide hX3; replace hG3 := hide hG3
        by_cases hqK : q < K
        · skip
          have qI : (q : Int) < (K : Int) := by omega
          obtain ⟨sp, so, rfl, hrs⟩ := (unhide hls).at_ q hqK
          rw [((unhide hsb) q hqK).1] at hrs
          have hsj := ((unhide hsb) q hqK).2
          have hcq : D2.cur (lgo D2.safe.length + u2) = SQ.getD q [] := by rw [unhide hDz2, unhide hu2]; exact (unhide hwl2) q hqK
          obtain ⟨sj, hsj2⟩ : ∃ s, s = SQ.getD q [] := ⟨_, rfl⟩
          rw [← hsj2] at hrs hsj hcq
          have hu2b : u2 < zz - lgo zz := by have h1 := unhide hu2; omega
          obtain ⟨u3, hu3⟩ : ∃ k, k = u2 + 1 := ⟨_, rfl⟩
          have wu3 : IntKind.i64.wrap ((u2 : Int) + 1) = (u3 : Int) := by rw [IntKind.wrap_i64]; omega
          obtain ⟨q1, hq1⟩ : ∃ k, k = q + 1 := ⟨_, rfl⟩
          have wq1 : IntKind.i64.wrap ((q : Int) + 1) = (q1 : Int) := by rw [IntKind.wrap_i64]; omega
          replace hrs := hide hrs; replace hsj2 := hide hsj2; replace hcq := hide hcq; replace hu3 := hide hu3; replace hq1 := hide hq1
          have hB := Bl.nil wr
          go_upto_region 17 with fail
          refine wp_region_lit ?_
          refine list_val (.pointer (some ⟨sp, so + 64 * q, none⟩)) (by kernel_rfl) (exec_ib _ (.tmp 69) (.tmp 71) rfl sp so K qc q (by kernel_rfl) (by kernel_rfl) hqK) ?_
          simp only [nrm]
          refine list_val (.agg (kc sj)) (by kernel_rfl) (exec_row _ 50 (.tmp 73) rfl sp (so + 64 * q) (by kernel_rfl) (bv sj) _ (range_gr (unhide hrs) ((unhide hG3).trans hB.gr)) Tryd.underlying50 rfl (by rw [Tryd.infoB, bv_len, hsj])) ?_
          simp only [nrm]
          refine list_valw (.pointer (some ⟨wr.heap.size, 0, none⟩)) (wr.alloc (.cells (kc ZB) 50 (0, 0))) (by kernel_rfl) (by kernel_rfl) ?_
          replace hB := hB.new (kc ZB) 50
          simp only [List.nil_append, List.cons_append] at hB
          generalize World.alloc _ _ = z1 at *
          generalize wr.heap.size = gx at *
          replace hB : Bl wr [⟨gx, kc ZB, 50⟩] z1 := hB
          simp only [nrm]
          refine list_store 50 (.tmp 14) (.tmp 74) (gx) (kc sj) 50 (kc ZB) (by kernel_rfl) rfl (by kernel_rfl) (by kernel_rfl) (hB.get 0 (x := ⟨gx, kc ZB, 50⟩) rfl) (by rw [Tryd.infoB, kc_size, hsj]) ((show (kc ZB).size = 64 from rfl).trans ((kc_size _).trans hsj).symm) (kc_one _) ?_
          replace hB := hB.set 0 (x := ⟨gx, kc ZB, 50⟩) rfl (kc sj)
          simp only [List.set_cons_zero, List.set_cons_succ] at hB
          generalize World.setRow _ _ _ = z2 at *
          replace hB : Bl wr [⟨gx, kc sj, 50⟩] z2 := hB
          simp only [nrm]
          refine wpList_nil ?_
          replace hB := hide hB
          go_upto_region 18 with fail
          replace hB := unhide hB
          refine wp_region_lit ?_
          refine list_val (.pointer (some ⟨gs, 0, none⟩)) (by kernel_rfl) (by kernel_rfl) ?_
          simp only [nrm]
          refine list_val (.int .i64 (u2 : Int)) (by kernel_rfl) (by kernel_rfl) ?_
          simp only [nrm]
          have hsl := eslot_ok F2 G gs gd m2 D2 SS (unhide hX3).wd.fd.ok (by have := unhide hm2; omega) (u2 : Int) (by have h9 := lgo_slots zz; rw [unhide hDz2]; constructor <;> omega) z2 ((unhide hX3).xs.ls.gr hB.gr) ((unhide hX3).xs.st.gr hB.gr)
          rw [show ((((2 + 2 * ((D2.safe.length - 2) / 4) : Nat) : Int)) + (u2 : Int)) = ((lgo D2.safe.length + u2 : Nat) : Int) from by unfold lgo; omega] at hsl
          have hil : lgo D2.safe.length + u2 < D2.safe.length := by rw [unhide hDz2]; omega
          rw [read_cur (unhide hX3).wd.fd.dead _ hil, unhide hcq] at hsl
          rw [show D2.readE ((lgo D2.safe.length + u2 : Nat) : Int) = 0 from by unfold Dk.readE; rw [(unhide hX3).wd.fd.dead, if_neg (by decide), if_pos ⟨by omega, by omega⟩]] at hsl
          refine list_call 23 #[.pointer (some ⟨gs, 0, none⟩), .int .i64 (u2 : Int)] (by kernel_rfl) (by kernel_rfl) (hsl.mono ?_)
          rintro r z3 ⟨rfl, hg⟩
          replace hB := hB.more hg
          clear hg hsl hil
          refine ⟨_, rfl, ?_⟩
          simp only [nrm]
          refine list_val (.tuple #[.agg (kc sj), .int .i64 0]) (by kernel_rfl) (by kernel_rfl) ?_
          simp only [nrm]
          refine list_val (.agg (kc sj)) (by kernel_rfl) (by kernel_rfl) ?_
          simp only [nrm]
          refine list_val (.int .i64 0) (by kernel_rfl) (by kernel_rfl) ?_
          simp only [nrm]
          refine list_valw (.pointer (some ⟨z3.heap.size, 0, none⟩)) (z3.alloc (.cells (kc ZB) 50 (0, 0))) (by kernel_rfl) (by kernel_rfl) ?_
          replace hB := hB.new (kc ZB) 50
          simp only [List.nil_append, List.cons_append] at hB
          generalize World.alloc _ _ = z4 at *
          generalize z3.heap.size = gy at *
          replace hB : Bl wr [⟨gx, kc sj, 50⟩, ⟨gy, kc ZB, 50⟩] z4 := hB
          simp only [nrm]
          refine list_store 50 (.tmp 15) (.tmp 79) (gy) (kc sj) 50 (kc ZB) (by kernel_rfl) rfl (by kernel_rfl) (by kernel_rfl) (hB.get 1 (x := ⟨gy, kc ZB, 50⟩) rfl) (by rw [Tryd.infoB, kc_size, hsj]) ((show (kc ZB).size = 64 from rfl).trans ((kc_size _).trans hsj).symm) (kc_one _) ?_
          replace hB := hB.set 1 (x := ⟨gy, kc ZB, 50⟩) rfl (kc sj)
          simp only [List.set_cons_zero, List.set_cons_succ] at hB
          generalize World.setRow _ _ _ = z5 at *
          replace hB : Bl wr [⟨gx, kc sj, 50⟩, ⟨gy, kc sj, 50⟩] z5 := hB
          simp only [nrm]
          (refine wpList_step fun K hK => ?_; replace hK := hide hK; go_simp; refine unhide hK _ _ ?_; clear hK K)
          refine wpList_nil ?_
          replace hB := hide hB
          go_upto_region 19 with fail
          replace hB := unhide hB
          refine wp_region_lit ?_
          refine list_val (.int .i64 0) (by kernel_rfl) (by kernel_rfl) ?_
          simp only [nrm]
          refine list_val (.bool false) (by kernel_rfl) (by kernel_rfl) ?_
          simp only [nrm]
          refine list_val (.bool false) (by kernel_rfl) (by kernel_rfl) ?_
          simp only [nrm]
          refine list_val (.agg (kc sj)) (by kernel_rfl) (exec_arr _ 50 (.tmp 15) rfl (gy) (by kernel_rfl) (kc sj) 50 _ (hB.get 1 (x := ⟨gy, kc sj, 50⟩) rfl) Tryd.underlying50 rfl (by rw [Tryd.infoB, kc_size, hsj])) ?_
          simp only [nrm]
          refine list_val (.agg (kc sj)) (by kernel_rfl) (exec_arr _ 50 (.tmp 14) rfl (gx) (by kernel_rfl) (kc sj) 50 _ (hB.get 0 (x := ⟨gx, kc sj, 50⟩) rfl) Tryd.underlying50 rfl (by rw [Tryd.infoB, kc_size, hsj])) ?_
          simp only [nrm]
          refine list_val (.bool false) (by kernel_rfl) (exec_neB _ (.tmp 84) (.tmp 85) rfl sj hsj (by kernel_rfl) (by kernel_rfl)) ?_
          simp only [nrm]
          refine list_val (.bool false) (by kernel_rfl) (by kernel_rfl) ?_
          simp only [nrm]
          refine wpList_nil ?_
          have hC1 : Hid (Xl v0 F2 G H2 l gs gd D2 m2 SS LL X2 z5 ∧ Gr y3 z5) := ⟨(unhide hX3).more hB.gr, (unhide hG3).trans hB.gr⟩
          clear hB
          go_wp2_with fail
          go_roundw
          case rel => exact ⟨q1, u3, by have := unhide hq1; omega, rfl, rfl, by have h1 := unhide hu3; have h2 := unhide hu2; have h3 := unhide hq1; show u3 = u + q1; omega, hC1⟩
          case measure => have h3 := unhide hq1; simp [intOf]; omega
        have qI : ¬ (q : Int) < (K : Int) := by omega
        obtain rfl : q = K := by omega
        obtain ⟨k2, hk2⟩ : ∃ n, n = k + 1 := ⟨_, rfl⟩
        have wk2 : IntKind.i64.wrap ((k : Int) + 1) = (k2 : Int) := by rw [IntKind.wrap_i64]; omega
        have hC9 : Hid (∃ F H D m X, Xl v0 F G H l gs gd D m SS LL X wr ∧ D.safe.length = zz ∧ m ≤ 40 + 40 * (j + 1) ∧ usd X = u2 ∧ X.length = k2 ∧ SS.turn ≤ 1) := ⟨F2, H2, D2, m2, X2, unhide hX3, unhide hDz2, unhide hm2, by rw [unhide hust, unhide hu2], by rw [unhide hukt, hk2], hSt⟩
        have hu9 : u2 ≤ 100 := by have := unhide hu2; omega
        have hk9 : k2 ≤ 100 := by have h1 := usd_ge X2; rw [unhide hust, unhide hukt] at h1; omega
        replace hk2 := hide hk2
        go_wp2_with fail
        go_roundw
        case rel => exact ⟨j + 1, u2, k2, by omega, by go_num, rfl, rfl, hu9, hk9, hC9⟩
        case measure => simp [intOf]; omega
      · skip
        go_upto_region 14 with fail
        refine wp_region_lit ?_
        refine list_val (.pointer (some ⟨l, 0, none⟩)) (by kernel_rfl) (by kernel_rfl) ?_
        simp only [nrm]
        refine list_val (.slice ai nx ci) (by kernel_rfl) (by kernel_rfl) ?_
        simp only [nrm]
        refine list_call 17 #[.pointer (some ⟨l, 0, none⟩), .slice ai nx ci] (by kernel_rfl) (by kernel_rfl) ((x_full (unhide hX) ai nx ci (by omega) (by rw [← unhide hxl]; exact hfit)).mono ?_)
        rintro r y1 ⟨rfl, hg⟩
        refine ⟨_, rfl, ?_⟩
        replace hX := hide ((unhide hX).more hg)
        clear hg
        simp only [nrm]
        refine list_val (.bool true) (by kernel_rfl) (by kernel_rfl) ?_
        simp only [nrm]
        refine wpList_nil ?_
        have hC9 : Hid (∃ F H D m X, Xl v0 F G H l gs gd D m SS LL X y1 ∧ D.safe.length = zz ∧ m ≤ 40 + 40 * (j + 1) ∧ usd X = u ∧ X.length = k ∧ SS.turn ≤ 1) := ⟨F1, H1, D1, m1, X, unhide hX, unhide hDz1, by omega, unhide hu, unhide hk, hSt⟩
        go_wp2_with fail
        go_roundw
        case rel => exact ⟨j + 1, u, k, by omega, by go_num, rfl, rfl, hu1, hk1, hC9⟩
        case measure => simp [intOf]; omega
    have jI : ¬ (j : Int) < (m0 : Int) := by omega
    go_upto_region 25 with fail
    refine wp_region_lit ?_
    refine list_val (.pointer (some ⟨l, 0, none⟩)) (by kernel_rfl) (by kernel_rfl) ?_
    simp only [nrm]
    refine list_call 24 #[.pointer (some ⟨l, 0, none⟩)] (by kernel_rfl) (by kernel_rfl) ((x_used (unhide hX)).mono ?_)
    rintro r y9 ⟨rfl, hg⟩
    refine ⟨_, rfl, ?_⟩
    rw [unhide hu]
    replace hX := hide ((unhide hX).more hg)
    clear hg
    simp only [nrm]
    refine list_val (.int .i64 (u : Int)) (by kernel_rfl) (by kernel_rfl) ?_
    simp only [nrm]
    refine list_val (.bool true) (by kernel_rfl) (by go_simp) ?_
    simp only [nrm]
    (refine wpList_step fun K hK => ?_; replace hK := hide hK; go_simp; refine unhide hK _ _ ?_; clear hK K)
    refine wpList_nil ?_
    have hZ : Hid (Vl (.bool true) w (.returned (.bool true)) y9) := ⟨rfl, (unhide hgw).trans (unhide hX).xs.gr⟩
    clear hX
    go_wp2_with fail
    rw [unhide hT]
    exact unhide hZ
end Go.Proofs.YtaoiejgjdmakjaaDoor
