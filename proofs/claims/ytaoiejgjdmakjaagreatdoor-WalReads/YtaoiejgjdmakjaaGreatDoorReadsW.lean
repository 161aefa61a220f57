/-
  Of layer 12: what the proof leans on.
-/
import Derived.Test.YtaoiejgjdmakjaaGreatDoorReadsK14
namespace Go.Proofs.YtaoiejgjdmakjaaGreatDoor
open Go.RowKit
set_option maxRecDepth 100000
set_option linter.unusedSimpArgs false
set_option linter.unusedVariables false
theorem fd_put {D : Dk} {m : Nat} {s : Sup} {L : List Int} (k : Fd D m s L) (i : Nat) (b : List Int) (hb : BB b) (h1 : 2 + 2 * ((D.safe.length - 2) / 4) ≤ i) (h2 : i < D.safe.length) : D.writeE (i : Int) = 0 ∧ Fd (D.writeD (i : Int) b) (m + 1) s L ∧ (D.writeD (i : Int) b).safe.length = D.safe.length ∧ ∀ j, (D.writeD (i : Int) b).cur j = if i = j then b else D.cur j := by
  obtain ⟨i1, i2, i3, i4, i5, i6⟩ := step_write k.dead (i, b) h2 (by rw [k.left]; decide)
  have hc := Dk.write_cur k.dead (by rw [k.left]; decide) (i : Int) ⟨by omega, by omega⟩ b
  have ok := k.ok.write (i : Int) b hb
  replace i1 : D.writeE (i : Int) = 0 := i1
  replace i2 : (D.writeD (i : Int) b).dead = false := i2
  replace i3 : (D.writeD (i : Int) b).safe = D.safe := i3
  replace i4 : (D.writeD (i : Int) b).pend = D.pend ++ [(i, b)] := i4
  replace i5 : (D.writeD (i : Int) b).left = (if 0 < D.left then D.left - 1 else D.left) := i5
  have hc2 : ∀ j, (D.writeD (i : Int) b).cur j = if i = j then b else D.cur j := fun j => by
    have h9 := hc j
    rw [Int.toNat_natCast] at h9
    exact h9
  generalize D.writeD (i : Int) b = E at *
  have hn := k.len
  have hp := k.hs.ok.p
  have hf := k.hs.fit
  refine ⟨i1, ⟨ok, i2, by rw [i5, k.left]; decide, by rw [i3]; exact hn, ?_, ?_⟩, by rw [i3], hc2⟩
  · intro x hx
    rw [i3]
    rw [i4] at hx
    rcases List.mem_append.1 hx with hx | hx
    · exact k.pend x hx
    · rw [List.mem_singleton] at hx
      rw [hx]
      exact ⟨h1, h2⟩
  · rw [i3]
    refine k.hs.keep ?_ ?_ (fun q hq => ?_)
    · rw [hc2, if_neg (by omega)]
    · rw [hc2, if_neg (by omega)]
    · rw [hc2, if_neg]
      have hpl : s.place = 0 ∨ s.place = 1 := by omega
      rcases hpl with e | e <;> rw [e] <;> simp only [Nat.zero_mul, Nat.one_mul, Nat.add_zero] <;> omega
theorem tl_from {B : Nat → List Int} {N t : Nat} : ∀ (n k a : Nat), N - a ≤ n → a ≤ N → ∃ X, Lay B N t k a X ∧ a + usd X ≤ N ∧ ∀ x, ¬ IsTx B N t (k + X.length) (a + usd X) x
  | 0, k, a, h, h2 => by
    refine ⟨[], trivial, by simp [usd]; omega, fun x hx => ?_⟩
    have h1 := hx.fit
    simp only [usd, List.length_nil, Nat.add_zero] at h1
    unfold ned at h1
    omega
  | n + 1, k, a, h, h2 => by
    by_cases hx : ∃ x, IsTx B N t k a x
    · obtain ⟨x, hx⟩ := hx
      have h1 := hx.fit
      have h3 : 1 ≤ ned x.length := by unfold ned; omega
      obtain ⟨X, k1, k2, k3⟩ := tl_from n (k + 1) (a + ned x.length) (by omega) h1
      refine ⟨x :: X, ⟨hx, k1⟩, ?_, ?_⟩
      · simp only [usd]; omega
      · intro y hy
        simp only [usd, List.length_cons] at hy
        exact k3 y (by rw [show k + 1 + X.length = k + (X.length + 1) from by omega, show a + ned x.length + usd X = a + (ned x.length + usd X) from by omega]; exact hy)
    · exact ⟨[], trivial, by simp [usd]; omega, fun x hx2 => hx ⟨x, by simpa [usd] using hx2⟩⟩
theorem tl_ex (B : Nat → List Int) (N t : Nat) : ∃ X, Tl B N t X ∧ usd X ≤ N := by
  obtain ⟨X, h1, h2, h3⟩ := tl_from (B := B) (N := N) (t := t) N 0 0 (by omega) (Nat.zero_le _)
  exact ⟨X, ⟨h1, by intro x; have := h3 x; rwa [Nat.zero_add, Nat.zero_add] at this⟩, by omega⟩
def Rput (v0 : World) (G : List Nat) (gs gd : Nat) (s : Sup) (L : List Int) (zz : Nat) (f : Nat → List Int) (j : Nat) (av : Value) (w : World) : Prop := ∃ F D m, Xs v0 F G gs gd D s w ∧ Fd D m s L ∧ D.safe.length = zz ∧ m ≤ 2000 + j ∧ (∀ i, i < j → D.cur (lgo zz + i) = f i) ∧ Or_ 64 36 0 w av ((List.range j).map fun i => bv (f i)) ∧ ∀ p, av.ownBlock = some p → p ∉ F ∧ p ∉ G ∧ v0.heap.size ≤ p
theorem own_up {b : Nat} {e : TypeId} {k n : Nat} {W : World} {v : Value} {xs : List Value} (h : W.ownsRow 0 e k v n xs) (hb : ∀ p, v.ownBlock = some p → b ≤ p) : W.ownsRow b e k v n xs := by
  refine ⟨h.1, ?_⟩
  rcases h.2 with h | ⟨p, cap, cur, h1, h2, h3⟩
  · exact .inl h
  · exact .inr ⟨p, cap, cur, h1, hb p (by rw [h1]; rfl), h3⟩
theorem xs_app9 {w v u : World} {F G : List Nat} {gs gd : Nat} {D : Dk} {s : Sup} {x : Value} {R : List (List Value)} (h : Xs w F G gs gd D s v) (ho : Or_ 64 36 0 v x R) (hn : ∀ p, x.ownBlock = some p → p ∉ F ∧ p ∉ G ∧ w.heap.size ≤ p) (k : v.grownBy u x.ownBlock) : Xs w F G gs gd D s u := by
  have hg := grown_owned (own_up ho.2 (fun p e => (hn p e).2.2)) (Nat.le_refl _) h.gr k
  exact ⟨hg, h.ls.keep k.size (fun i hi => k.block i (h.ls.lt i hi) (fun e => (hn i e.symm).1 hi)), h.st.keep k.size (fun i hi => k.block i (h.st.lt i hi) (fun e => (hn i e.symm).2.1 hi)), h.oF, h.oG, h.ap⟩
set_option maxHeartbeats 4000000 in
theorem reads_law (ls : List (List Int)) (hls : ∀ b ∈ ls, BB b) (a : Option Addr) (n c : Nat) (n0 : Int) (b0 : -9223372036854775808 ≤ n0 ∧ n0 < 9223372036854775808) (tb : Int) (htb : 0 ≤ tb ∧ tb < 256) (w : World) (hf0 : Fst w) (hLr : Lr 64 w a n c (ls.map bv)) : Calls Tryz.prog 3 #[.slice a n c, .int .i64 n0, .int .u8 tb] w (Vl (.bool true) w) := by
  obtain ⟨T, hT⟩ : ∃ T, T = Vl (.bool true) w := ⟨_, rfl⟩
  rw [← hT]
  replace hT := hide hT
  have hcn := hLr.cap
  have hcm := hLr.max
  have hln : ls.length = n := by have := hLr.len; rw [List.length_map] at this; exact this
  obtain ⟨f, hf9⟩ : ∃ f : Nat → List Int, f = fun i => if i < n then ls.getD i [] else ZB := ⟨_, rfl⟩
  have hfb : ∀ i, BB (f i) := by
    intro i
    rw [hf9]
    dsimp only
    split
    · rename_i h
      exact hls _ (mem_of_getD (by rw [hln]; exact h))
    · exact ZB_bb
  obtain ⟨tq, htq⟩ : ∃ q : Nat, (q : Int) = tb % 3 := ⟨(tb % 3).toNat, by omega⟩
  have htq3 : tq < 3 := by omega
  have etq : tb.tmod 3 = (tq : Int) := by rw [Int.tmod_eq_emod_of_nonneg htb.1, htq]
  replace hf0 := hide hf0; replace hLr := hide hLr; replace hln := hide hln; replace hf9 := hide hf9; replace hfb := hide hfb; replace htq := hide htq
  clear hls
  go_enter Tryz.func3, Tryz.ntmps3
  go_upto_region 1 with fail
  refine wp_region_lit ?_
  refine list_call 5 #[] (by kernel_rfl) (by kernel_rfl) ((wakes12_ok w (unhide hf0)).mono ?_)
  rintro r v0 ⟨rfl, hg⟩
  refine ⟨_, rfl, ?_⟩
  have hf := hide ((unhide hf0).gr hg)
  replace hLr := hide ((unhide hLr).gr hg)
  have hgw := hide hg
  clear hg
  simp only [nrm]
  refine list_val (.bool false) (by kernel_rfl) (by kernel_rfl) ?_
  simp only [nrm]
  refine wpList_nil ?_
  go_upto_region 3 with fail
  refine wp_region_lit ?_
  refine list_val (.int .i64 n0) (by kernel_rfl) (by kernel_rfl) ?_
  simp only [nrm]
  refine list_call 6 #[.int .i64 n0] (by kernel_rfl) (by kernel_rfl) ((store_ok n0 v0 (unhide hf)).mono ?_)
  rintro r u1 ⟨F, G, gs, gd, D, rfl, hXs, hwd, hDz⟩
  obtain ⟨s1, s2, s3, s4⟩ := sup0_is
  have hz := stz_bd n0
  generalize stz n0 = zz at *
  generalize sup0 = S0 at *
  have hs0 : S0.turn = 0 := by omega
  clear s1 s2 s3 s4
  refine ⟨_, rfl, ?_⟩
  replace hXs := hide hXs; replace hwd := hide hwd; replace hDz := hide hDz
  simp only [nrm]
  refine list_val (.tuple #[.pointer (some ⟨gd, 0, none⟩), .pointer (some ⟨gs, 0, none⟩)]) (by kernel_rfl) (by kernel_rfl) ?_
  simp only [nrm]
  refine list_val (.pointer (some ⟨gd, 0, none⟩)) (by kernel_rfl) (by kernel_rfl) ?_
  simp only [nrm]
  refine list_val (.pointer (some ⟨gs, 0, none⟩)) (by kernel_rfl) (by kernel_rfl) ?_
  simp only [nrm]
  (refine wpList_step fun K hK => ?_; replace hK := hide hK; go_simp; refine unhide hK _ _ ?_; clear hK K)
  (refine wpList_step fun K hK => ?_; replace hK := hide hK; go_simp; refine unhide hK _ _ ?_; clear hK K)
  refine wpList_nil ?_
  go_upto_region 4 with fail
  refine wp_region_lit ?_
  refine list_val (.pointer (some ⟨gs, 0, none⟩)) (by kernel_rfl) (by kernel_rfl) ?_
  simp only [nrm]
  skip
  refine list_call 7 #[P0 gs] (by kernel_rfl) (by kernel_rfl) ((x_open (unhide hXs) (unhide hwd) (by omega) (unhide hf)).mono ?_)
  rintro r u2 ⟨l, H, rfl, hlx, hln, hg⟩
  refine ⟨_, rfl, ?_⟩
  have hX := hide hlx
  clear hlx hln
  clear hg
  simp only [nrm]
  refine list_val (.tuple #[.pointer (some ⟨l, 0, none⟩), .int .i64 0]) (by kernel_rfl) (by kernel_rfl) ?_
  simp only [nrm]
  refine list_val (.pointer (some ⟨l, 0, none⟩)) (by kernel_rfl) (by kernel_rfl) ?_
  simp only [nrm]
  refine list_val (.int .i64 0) (by kernel_rfl) (by kernel_rfl) ?_
  simp only [nrm]
  (refine wpList_step fun K hK => ?_; replace hK := hide hK; go_simp; refine unhide hK _ _ ?_; clear hK K)
  (refine wpList_step fun K hK => ?_; replace hK := hide hK; go_simp; refine unhide hK _ _ ?_; clear hK K)
  refine wpList_nil ?_
  go_upto_region 5 with fail
  refine wp_region_lit ?_
  refine list_val (.pointer (some ⟨gs, 0, none⟩)) (by kernel_rfl) (by kernel_rfl) ?_
  simp only [nrm]
  refine list_val (.bool false) (by kernel_rfl) (by kernel_rfl) ?_
  simp only [nrm]
  refine list_val (.bool false) (by kernel_rfl) (by kernel_rfl) ?_
  simp only [nrm]
  refine list_val (.int .i64 0) (by kernel_rfl) (by kernel_rfl) ?_
  simp only [nrm]
  refine list_val (.bool false) (by kernel_rfl) (by kernel_rfl) ?_
  simp only [nrm]
  refine list_val (.bool false) (by kernel_rfl) (by kernel_rfl) ?_
  simp only [nrm]
  refine wpList_nil ?_
  go_upto_region 7 with fail
  refine wp_region_lit ?_
  refine list_val (.int .u8 tb) (by kernel_rfl) (by kernel_rfl) ?_
  simp only [nrm]
  refine list_val (.int .u8 (tq : Int)) (by kernel_rfl) (by go_simp) ?_
  simp only [nrm]
  refine list_val (.int .u8 0) (by kernel_rfl) (by kernel_rfl) ?_
  simp only [nrm]
  refine wpList_nil ?_
  have hI0 : Hid (∃ F H D m s L X, Xl v0 F G H l gs gd D m s L X u2 ∧ D.safe.length = zz ∧ m ≤ 3 + 60 * 0 ∧ s.turn ≤ 0) := ⟨F, H, D, 3, S0, [], [], unhide hX, unhide hDz, by omega, by omega⟩
  clear hX hXs hwd hDz hs0
  go_wp2_with fail
  go_loopw [36] (fun i wr => ∃ j : Nat, j ≤ tq ∧ i = .int .u8 (j : Int) ∧ Hid (∃ F H D m s L X, Xl v0 F G H l gs gd D m s L X wr ∧ D.safe.length = zz ∧ m ≤ 3 + 60 * j ∧ s.turn ≤ j)) (fun i _ => tq - (intOf i).toNat)
  case atStart => exact ⟨0, by omega, rfl, hI0⟩
  case round =>
  clear hI0
  obtain ⟨j, hj, rfl, hA⟩ := hrel
  obtain ⟨F1, H1, D1, m1, s1, L1, X1, hX, hDz1, hm1, hst1⟩ := unhide hA
  clear hA
  replace hX := hide hX; replace hDz1 := hide hDz1
  by_cases hlt : j < tq
  · skip
    have jI : (j : Int) < (tq : Int) := by omega
    have ej : IntKind.u8.wrap ((j : Int) + 1) = ((j + 1 : Nat) : Int) := by rw [IntKind.wrap_u8]; omega
    go_upto_region 9 with fail
    refine wp_region_lit ?_
    refine list_val (.pointer (some ⟨l, 0, none⟩)) (by kernel_rfl) (by kernel_rfl) ?_
    simp only [nrm]
    refine list_val (.int .u8 tb) (by kernel_rfl) (by kernel_rfl) ?_
    simp only [nrm]
    refine list_valw (.slice (some ⟨wr.heap.size, 0, none⟩) 1 1) (wr.alloc (.cells (kc [tb]) 5 (0, 0))) (by kernel_rfl) (by kernel_rfl) ?_
    simp only [nrm]
    have hg := (Gr.refl wr).alloc (.cells (kc [tb]) 5 (0, 0))
    have hxb : IsB [tb] := by intro x hx; simp at hx; omega
    have l1 : Lb (wr.alloc (.cells (kc [tb]) 5 (0, 0))) (some ⟨wr.heap.size, 0, none⟩) 1 1 [tb] := ⟨rfl, hxb, .inr ⟨_, 0, rfl, fun j hj => by rw [Nat.zero_add]; exact cell_of (blk_new _ _) (kc_get [tb] j hj)⟩, by omega, by omega⟩
    have hfar : ([tb] : List Int) = [] ∨ ∀ i, i ∈ F1 ∨ i ∈ G ∨ i ∈ H1 → blkOf (some ⟨wr.heap.size, 0, none⟩) ≠ some i := by
      right
      intro i hi e
      have e2 : wr.heap.size = i := Option.some.inj e
      rcases hi with hi | hi | hi
      · have := (unhide hX).xs.ls.lt i hi; omega
      · have := (unhide hX).xs.st.lt i hi; omega
      · have := (unhide hX).lg.lt i hi; omega
    replace hX := hide ((unhide hX).more hg)
    clear hg
    generalize World.alloc _ _ = u4 at *
    generalize wr.heap.size = h9 at *
    replace l1 := hide l1; replace hfar := hide hfar
    obtain ⟨MM, hMM⟩ : ∃ M : List Int, M = [tb] := ⟨_, rfl⟩
    have hMl : MM.length = 1 := by rw [hMM]; rfl
    rw [← hMM] at l1 hfar
    refine list_call 8 #[P0 l, .slice (some ⟨h9, 0, none⟩) 1 1] (by kernel_rfl) (by kernel_rfl) ((x_check (unhide hX) (by omega) (unhide hf) (by omega) MM (some ⟨h9, 0, none⟩) 1 1 (unhide l1) (unhide hfar) (by rw [unhide hDz1]; omega)).mono ?_)
    rintro r y5 ⟨F5, H5, D5, rfl, hX5, hD5, -⟩
    have hI2 : Hid (∃ F H D m s L X, Xl v0 F G H l gs gd D m s L X y5 ∧ D.safe.length = zz ∧ m ≤ 3 + 60 * (j + 1) ∧ s.turn ≤ (j + 1)) := ⟨F5, H5, D5, _, _, _, _, hX5, hD5.trans (unhide hDz1), by rw [hMl]; omega, by rw [(s1.next_is MM).1]; omega⟩
    refine ⟨_, rfl, ?_⟩
    clear hX hX5 hD5 l1 hfar
    simp only [nrm]
    refine list_val (.bool false) (by kernel_rfl) (by kernel_rfl) ?_
    simp only [nrm]
    refine wpList_nil ?_
    go_wp2_with fail
    go_roundw
    case rel => exact ⟨j + 1, by omega, by go_num, hI2⟩
    case measure => simp [intOf]; omega
  have jI : ¬ (j : Int) < (tq : Int) := by omega
  obtain ⟨sl, hsl⟩ : ∃ k, k = zz - 2 - 2 * ((zz - 2) / 4) := ⟨_, rfl⟩
  have hslb : sl ≤ 512 := by omega
  have hlg : lgo zz = 2 + 2 * ((zz - 2) / 4) := rfl
  have hsl9 : zz - lgo zz = sl := by rw [hlg, hsl]; omega
  have hfd0 := (unhide hX).wd.fd
  have hxs0 := (unhide hX).xs
  have hP0 : Hid (Rput v0 G gs gd s1 L1 zz f 0 (.slice none 0 0) wr) := ⟨F1, D1, m1, hxs0, hfd0, unhide hDz1, by omega, fun i hi => absurd hi (Nat.not_lt_zero _), ⟨(fun r hr => by cases hr), rfl, .inl ⟨rfl, rfl⟩⟩, (fun p e => by cases e)⟩
  have hLb1 := hide (unhide hX).wd.bytes
  have hst9 := hst1
  clear hfd0 hxs0 hX hDz1 hm1
  replace hsl := hide hsl; replace hlg := hide hlg; replace hsl9 := hide hsl9
  generalize wr = w3 at *
  go_upto_region 12 with fail
  refine wp_region_lit ?_
  (refine wpList_step fun K hK => ?_; replace hK := hide hK; go_simp; refine unhide hK _ _ ?_; clear hK K)
  refine wpList_nil ?_
  go_upto_region 13 with fail
  refine wp_region_lit ?_
  refine list_val (.pointer (some ⟨gs, 0, none⟩)) (by kernel_rfl) (by kernel_rfl) ?_
  simp only [nrm]
  obtain ⟨F2, D2, m2, hXs, hFd, hDz2, hm2, hcu, hor, hoN⟩ := unhide hP0
  refine list_call 9 #[P0 gs] (by kernel_rfl) (by kernel_rfl) ((slots_ok G gs gd D2.safe.length s1 (by have := hFd.ok.hi1; omega) _ hXs.st).mono ?_)
  rintro r w4 ⟨rfl, hg⟩
  rw [hDz2, ← unhide hsl]
  have hP1 : Hid (Rput v0 G gs gd s1 L1 zz f 0 (.slice none 0 0) w4) := ⟨F2, D2, m2, hXs.more hg, hFd, hDz2, hm2, hcu, hor.gr hg, hoN⟩
  refine ⟨_, rfl, ?_⟩
  clear hXs hFd hDz2 hm2 hcu hor hg hP0
  simp only [nrm]
  refine list_val (.int .i64 0) (by kernel_rfl) (by kernel_rfl) ?_
  simp only [nrm]
  refine wpList_nil ?_
  go_wp2_with fail
  go_loopw [46, 11] (fun i av wr => ∃ j : Nat, j ≤ sl ∧ i = .int .i64 (j : Int) ∧ Hid (Rput v0 G gs gd s1 L1 zz f j av wr)) (fun i _ _ => sl - (intOf i).toNat)
  case atStart => exact ⟨0, by omega, rfl, hP1⟩
  case round =>
  clear hP1
  rename_i av
  obtain ⟨j, hj, rfl, hP⟩ := hrel
  by_cases hlt2 : j < sl
  · skip
    have jI2 : (j : Int) < (sl : Int) := by omega
    have ej : IntKind.i64.wrap ((j : Int) + 1) = ((j + 1 : Nat) : Int) := by rw [IntKind.wrap_i64]; omega
    obtain ⟨F2, D2, m2, hXs, hFd, hDz2, hm2, hcu, hor, hoN⟩ := unhide hP
    clear hP
    obtain ⟨aa, ac, rfl, -⟩ := hor.ls
    obtain ⟨an, han⟩ : ∃ k, k = ((List.range j).map fun i => bv (f i)).length := ⟨_, rfl⟩
    rw [← han] at hor hoN ⊢
    replace hXs := hide hXs; replace hFd := hide hFd; replace hDz2 := hide hDz2; replace hcu := hide hcu; replace hor := hide hor; replace han := hide han
    have hgv : Hid (Gr v0 wr) := (unhide hXs).gr
    have hFl : Hid (∀ i ∈ F2, i < wr.heap.size) := fun i hi => (unhide hXs).ls.lt i hi
    replace hoN := hide hoN
    have hB := Bl.nil wr
    go_upto_region 15 with fail
    refine wp_region_lit ?_
    refine list_val (.int .i64 (j : Int)) (by kernel_rfl) (by kernel_rfl) ?_
    simp only [nrm]
    (refine wpList_step fun K hK => ?_; replace hK := hide hK; go_simp; refine unhide hK _ _ ?_; clear hK K)
    refine wpList_nil ?_
    replace hB := hide hB
    go_upto_region 16 with fail
    replace hB := unhide hB
    refine wp_region_lit ?_
    refine list_valw (.pointer (some ⟨wr.heap.size, 0, none⟩)) (wr.alloc (.cells (kc ZB) 36 (0, 0))) (by kernel_rfl) (by kernel_rfl) ?_
    replace hB := hB.new (kc ZB) 36
    simp only [List.nil_append, List.cons_append] at hB
    generalize World.alloc _ _ = z1 at *
    generalize wr.heap.size = gx at *
    replace hB : Bl wr [⟨gx, kc ZB, 36⟩] z1 := hB
    simp only [nrm]
    refine wpList_nil ?_
    by_cases hjn : j < n
    · skip
      have jN : (j : Int) < (n : Int) := by omega
      have efj : f j = ls.getD j [] := by rw [unhide hf9]; exact if_pos hjn
      obtain ⟨p, o, rfl, hrow⟩ : ∃ p o, a = some ⟨p, o, none⟩ ∧ v0.rangeAt p (o + 64 * j) (bv (f j)) := by
        rcases (unhide hLr).sl with e | ⟨p, o, e, h2⟩
        · omega
        · refine ⟨p, o, e, ?_⟩
          have h3 := h2 j hjn
          rw [efj]
          rw [List.getD_eq_getElem?_getD, List.getElem?_map, List.getElem?_eq_getElem (by rw [unhide hln]; exact hjn)] at h3
          rw [List.getD_eq_getElem?_getD, List.getElem?_eq_getElem (by rw [unhide hln]; exact hjn)]
          exact h3
      replace hrow := hide hrow
      clear efj
      replace hB := hide hB
      go_upto_region 17 with fail
      replace hB := unhide hB
      refine wp_region_lit ?_
      refine list_val (.int .i64 (j : Int)) (by kernel_rfl) (by kernel_rfl) ?_
      simp only [nrm]
      refine list_val (.slice (some ⟨p, o, none⟩) n c) (by kernel_rfl) (by kernel_rfl) ?_
      simp only [nrm]
      refine list_val (.int .i64 (n : Int)) (by kernel_rfl) (by kernel_rfl) ?_
      simp only [nrm]
      refine list_val (.bool true) (by kernel_rfl) (by go_simp) ?_
      simp only [nrm]
      refine wpList_nil ?_
      replace hB := hide hB
      go_upto_region 18 with fail
      replace hB := unhide hB
      refine wp_region_lit ?_
      refine list_val (.slice (some ⟨p, o, none⟩) n c) (by kernel_rfl) (by kernel_rfl) ?_
      simp only [nrm]
      refine list_val (.int .i64 (j : Int)) (by kernel_rfl) (by kernel_rfl) ?_
      simp only [nrm]
      refine list_val (.pointer (some ⟨p, o + 64 * j, none⟩)) (by kernel_rfl) (exec_ib _ (.tmp 53) (.tmp 54) rfl p o n c j (by kernel_rfl) (by kernel_rfl) hjn) ?_
      simp only [nrm]
      refine list_val (.agg (kc (f j))) (by kernel_rfl) (exec_row _ 36 (.tmp 55) rfl p (o + 64 * j) (by kernel_rfl) (bv (f j)) _ (range_gr (unhide hrow) ((unhide hgv).trans hB.gr)) Tryz.underlying36 rfl (by rw [Tryz.infoB, bv_len, ((unhide hfb) j).1])) ?_
      simp only [nrm]
      refine list_store 36 (.tmp 13) (.tmp 56) (gx) (kc (f j)) 36 (kc ZB) (by kernel_rfl) rfl (by kernel_rfl) (by kernel_rfl) (hB.get 0 (x := ⟨gx, kc ZB, 36⟩) rfl) (by rw [Tryz.infoB, kc_size, ((unhide hfb) j).1]) (by rw [kc_size, kc_size, ((unhide hfb) j).1]; rfl) (kc_one _) ?_
      replace hB := hB.set 0 (x := ⟨gx, kc ZB, 36⟩) rfl (kc (f j))
      simp only [List.set_cons_zero, List.set_cons_succ] at hB
      generalize World.setRow _ _ _ = z2 at *
      replace hB : Bl wr [⟨gx, kc (f j), 36⟩] z2 := hB
      simp only [nrm]
      refine wpList_nil ?_
      replace hB := hide hB
      go_upto_region 19 with fail
      replace hB := unhide hB
      refine wp_region_lit ?_
      refine list_val (.pointer (some ⟨gs, 0, none⟩)) (by kernel_rfl) (by kernel_rfl) ?_
      simp only [nrm]
      refine list_val (.int .i64 (j : Int)) (by kernel_rfl) (by kernel_rfl) ?_
      simp only [nrm]
      refine list_val (.agg (kc (f j))) (by kernel_rfl) (exec_arr _ 36 (.tmp 13) rfl gx (by kernel_rfl) (kc (f j)) 36 _ (hB.get 0 (x := ⟨gx, kc (f j), 36⟩) rfl) Tryz.underlying36 rfl (by rw [Tryz.infoB, kc_size, ((unhide hfb) j).1])) ?_
      simp only [nrm]
      have hgx := hide (hB.get 0 (x := ⟨gx, kc (f j), 36⟩) rfl)
      have hg9 := hB.gr
      replace hXs := hide ((unhide hXs).more hg9); replace hor := hide ((unhide hor).gr hg9)
      have hgxn : wr.heap.size ≤ gx := hB.own 0 (x := ⟨gx, kc (f j), 36⟩) rfl
      have hgv0 : v0.heap.size ≤ wr.heap.size := (unhide hgv).size
      obtain ⟨q1, q2, q3, q4⟩ := fd_put (unhide hFd) (2 + 2 * ((D2.safe.length - 2) / 4) + j) (f j) ((unhide hfb) j) (by omega) (by rw [unhide hDz2]; have := unhide hsl; omega)
      refine list_call 10 #[P0 gs, .int .i64 (j : Int), .agg (kc (f j))] (by kernel_rfl) (by kernel_rfl) ((eput_ok F2 G gs gd m2 D2 s1 (unhide hFd).ok (by omega) (j : Int) ⟨by omega, by rw [unhide hDz2, ← unhide hsl]; omega⟩ (f j) ((unhide hfb) j) (unhide hXs).ap _ (unhide hXs).ls (unhide hXs).st).mono ?_)
      rintro r z4 ⟨F3, rfl, hL3, hC3⟩
      rw [show ((2 + 2 * ((D2.safe.length - 2) / 4) : Nat) : Int) + (j : Int) = ((2 + 2 * ((D2.safe.length - 2) / 4) + j : Nat) : Int) from by omega] at hL3 ⊢
      rw [q1]
      have hXs3 := hide ((unhide hXs).dsk q3 hL3 hC3)
      have hnx : gx ∉ F2 := fun e => by have := unhide hFl gx e; omega
      replace hgx := hide (hC3.blk (unhide hgx) hnx)
      have hor3 : Hid (Or_ 64 36 0 z4 (.slice aa an ac) ((List.range j).map fun i => bv (f i))) := ⟨(unhide hor).1, owns_keep (unhide hor).2 (fun p e => hC3.block p (own_lt (unhide hor).2 e).2 (unhide hoN p e).1)⟩
      have hoN3 : Hid (∀ p, (Value.slice aa an ac).ownBlock = some p → p ∉ F3 ∧ p ∉ G ∧ v0.heap.size ≤ p) := fun p e => ⟨fun e2 => (hC3.new p e2).elim (unhide hoN p e).1 (fun h => by have := (own_lt (unhide hor).2 e).2; omega), (unhide hoN p e).2⟩
      have hFd3 := hide q2
      have hDz3 := hide (q3.trans (unhide hDz2))
      have hcu3 : Hid (∀ i, i < j + 1 → (D2.writeD ((2 + 2 * ((D2.safe.length - 2) / 4) + j : Nat) : Int) (f j)).cur (lgo zz + i) = f i) := by
        intro i hi
        rw [q4, unhide hlg, unhide hDz2]
        by_cases e : i = j
        · subst e; rw [if_pos rfl]
        · rw [if_neg (by omega), ← unhide hlg]; exact unhide hcu i (by omega)
      clear hB hg9 hXs hor hFd hDz2 hcu hL3 hC3 q1 q2 q3 q4 hnx hoN hFl
      generalize D2.writeD _ _ = D3 at *
      refine ⟨_, rfl, ?_⟩
      simp only [nrm]
      refine list_val (.bool false) (by kernel_rfl) (by kernel_rfl) ?_
      simp only [nrm]
      refine wpList_nil ?_
      go_upto_region 21 with fail
      refine wp_region_lit ?_
      refine list_val (.slice aa an ac) (by kernel_rfl) (by kernel_rfl) ?_
      simp only [nrm]
      refine list_val (.agg (kc (f j))) (by kernel_rfl) (exec_arr _ 36 (.tmp 13) rfl gx (by kernel_rfl) (kc (f j)) 36 _ (unhide hgx) Tryz.underlying36 rfl (by rw [Tryz.infoB, kc_size, ((unhide hfb) j).1])) ?_
      simp only [nrm]
      refine list_valw (.slice (some ⟨z4.heap.size, 0, none⟩) 1 1) (z4.alloc (.cells (kc (f j)) 36 (0, 0))) (by kernel_rfl) (exec_bb1 _ (.tmp 63) rfl (f j) ((unhide hfb) j).1 (by kernel_rfl)) ?_
      have hls : (z4.alloc (.cells (kc (f j)) 36 (0, 0))).rangeAt z4.heap.size 0 (bv (f j)) := range_row (t := 36) (blk_new _ _)
      have hGo := (Gr.refl z4).alloc (.cells (kc (f j)) 36 (0, 0))
      have hXs4 := hide ((unhide hXs3).more hGo)
      have hor4 := hide ((unhide hor3).gr hGo)
      clear hGo hXs3 hor3 hgx
      generalize World.alloc _ _ = z5 at *
      generalize z4.heap.size = g6 at *
      simp only [nrm]
      refine wpList_step fun K_ hQ => ?_
      rw [if_pos (by kernel_rfl)]
      refine app_row1 lt_b (.tmp 62) (.tmp 64) rfl _ ((List.range j).map fun i => bv (f i)) rfl (unhide hor4) g6 0 1 (bv (f j)) rfl (by rw [bv_len, ((unhide hfb) j).1]) hls (bv_one' _) (by rw [List.length_map, List.length_range]; omega) ?_
      intro v5_ z6 hor5 hgr hown5
      have hP2 : Hid (Rput v0 G gs gd s1 L1 zz f (j + 1) v5_ z6) := by
        refine ⟨F3, D3, m2 + 1, xs_app9 (unhide hXs4) (unhide hor4) (unhide hoN3) hgr, unhide hFd3, unhide hDz3, by omega, unhide hcu3, ?_, ?_⟩
        · rw [List.range_succ, List.map_append]
          exact hor5
        · intro p e
          rcases hown5 with h | h
          · rw [h] at e
            exact unhide hoN3 p e
          · rw [h] at e
            have e2 : z5.heap.size = p := Option.some.inj e
            subst e2
            exact ⟨fun e => by have := (unhide hXs4).ls.lt _ e; omega, fun e => by have := (unhide hXs4).st.lt _ e; omega, (unhide hXs4).gr.size⟩
      clear hgr hls hor4 hor5 hXs4 hFd3 hDz3 hcu3 hoN3 hown5
      refine hQ _ _ ?_
      clear hQ K_
      simp only [nrm]
      (refine wpList_step fun K hK => ?_; replace hK := hide hK; go_simp; refine unhide hK _ _ ?_; clear hK K)
      refine wpList_nil ?_
      go_wp2_with fail
      go_roundw
      case rel => exact ⟨j + 1, by omega, by go_num, hP2⟩
      case measure => simp [intOf]; omega
    have jN : ¬ (j : Int) < (n : Int) := by omega
    have efj : f j = ZB := by rw [unhide hf9]; exact if_neg hjn
    replace hB := hide hB
    go_upto_region 17 with fail
    replace hB := unhide hB
    refine wp_region_lit ?_
    refine list_val (.int .i64 (j : Int)) (by kernel_rfl) (by kernel_rfl) ?_
    simp only [nrm]
    refine list_val (.slice a n c) (by kernel_rfl) (by kernel_rfl) ?_
    simp only [nrm]
    refine list_val (.int .i64 (n : Int)) (by kernel_rfl) (by kernel_rfl) ?_
    simp only [nrm]
    refine list_val (.bool false) (by kernel_rfl) (by go_simp) ?_
    simp only [nrm]
    refine wpList_nil ?_
    rw [← efj] at hB
    clear efj
    replace hB := hide hB
    go_upto_region 19 with fail
    replace hB := unhide hB
    refine wp_region_lit ?_
    refine list_val (.pointer (some ⟨gs, 0, none⟩)) (by kernel_rfl) (by kernel_rfl) ?_
    simp only [nrm]
    refine list_val (.int .i64 (j : Int)) (by kernel_rfl) (by kernel_rfl) ?_
    simp only [nrm]
    refine list_val (.agg (kc (f j))) (by kernel_rfl) (exec_arr _ 36 (.tmp 13) rfl gx (by kernel_rfl) (kc (f j)) 36 _ (hB.get 0 (x := ⟨gx, kc (f j), 36⟩) rfl) Tryz.underlying36 rfl (by rw [Tryz.infoB, kc_size, ((unhide hfb) j).1])) ?_
    simp only [nrm]
    have hgx := hide (hB.get 0 (x := ⟨gx, kc (f j), 36⟩) rfl)
    have hg9 := hB.gr
    replace hXs := hide ((unhide hXs).more hg9); replace hor := hide ((unhide hor).gr hg9)
    have hgxn : wr.heap.size ≤ gx := hB.own 0 (x := ⟨gx, kc (f j), 36⟩) rfl
    have hgv0 : v0.heap.size ≤ wr.heap.size := (unhide hgv).size
    obtain ⟨q1, q2, q3, q4⟩ := fd_put (unhide hFd) (2 + 2 * ((D2.safe.length - 2) / 4) + j) (f j) ((unhide hfb) j) (by omega) (by rw [unhide hDz2]; have := unhide hsl; omega)
    refine list_call 10 #[P0 gs, .int .i64 (j : Int), .agg (kc (f j))] (by kernel_rfl) (by kernel_rfl) ((eput_ok F2 G gs gd m2 D2 s1 (unhide hFd).ok (by omega) (j : Int) ⟨by omega, by rw [unhide hDz2, ← unhide hsl]; omega⟩ (f j) ((unhide hfb) j) (unhide hXs).ap _ (unhide hXs).ls (unhide hXs).st).mono ?_)
    rintro r z4 ⟨F3, rfl, hL3, hC3⟩
    rw [show ((2 + 2 * ((D2.safe.length - 2) / 4) : Nat) : Int) + (j : Int) = ((2 + 2 * ((D2.safe.length - 2) / 4) + j : Nat) : Int) from by omega] at hL3 ⊢
    rw [q1]
    have hXs3 := hide ((unhide hXs).dsk q3 hL3 hC3)
    have hnx : gx ∉ F2 := fun e => by have := unhide hFl gx e; omega
    replace hgx := hide (hC3.blk (unhide hgx) hnx)
    have hor3 : Hid (Or_ 64 36 0 z4 (.slice aa an ac) ((List.range j).map fun i => bv (f i))) := ⟨(unhide hor).1, owns_keep (unhide hor).2 (fun p e => hC3.block p (own_lt (unhide hor).2 e).2 (unhide hoN p e).1)⟩
    have hoN3 : Hid (∀ p, (Value.slice aa an ac).ownBlock = some p → p ∉ F3 ∧ p ∉ G ∧ v0.heap.size ≤ p) := fun p e => ⟨fun e2 => (hC3.new p e2).elim (unhide hoN p e).1 (fun h => by have := (own_lt (unhide hor).2 e).2; omega), (unhide hoN p e).2⟩
    have hFd3 := hide q2
    have hDz3 := hide (q3.trans (unhide hDz2))
    have hcu3 : Hid (∀ i, i < j + 1 → (D2.writeD ((2 + 2 * ((D2.safe.length - 2) / 4) + j : Nat) : Int) (f j)).cur (lgo zz + i) = f i) := by
      intro i hi
      rw [q4, unhide hlg, unhide hDz2]
      by_cases e : i = j
      · subst e; rw [if_pos rfl]
      · rw [if_neg (by omega), ← unhide hlg]; exact unhide hcu i (by omega)
    clear hB hg9 hXs hor hFd hDz2 hcu hL3 hC3 q1 q2 q3 q4 hnx hoN hFl
    generalize D2.writeD _ _ = D3 at *
    refine ⟨_, rfl, ?_⟩
    simp only [nrm]
    refine list_val (.bool false) (by kernel_rfl) (by kernel_rfl) ?_
    simp only [nrm]
    refine wpList_nil ?_
    go_upto_region 21 with fail
    refine wp_region_lit ?_
    refine list_val (.slice aa an ac) (by kernel_rfl) (by kernel_rfl) ?_
    simp only [nrm]
    refine list_val (.agg (kc (f j))) (by kernel_rfl) (exec_arr _ 36 (.tmp 13) rfl gx (by kernel_rfl) (kc (f j)) 36 _ (unhide hgx) Tryz.underlying36 rfl (by rw [Tryz.infoB, kc_size, ((unhide hfb) j).1])) ?_
    simp only [nrm]
    refine list_valw (.slice (some ⟨z4.heap.size, 0, none⟩) 1 1) (z4.alloc (.cells (kc (f j)) 36 (0, 0))) (by kernel_rfl) (exec_bb1 _ (.tmp 63) rfl (f j) ((unhide hfb) j).1 (by kernel_rfl)) ?_
    have hls : (z4.alloc (.cells (kc (f j)) 36 (0, 0))).rangeAt z4.heap.size 0 (bv (f j)) := range_row (t := 36) (blk_new _ _)
    have hGo := (Gr.refl z4).alloc (.cells (kc (f j)) 36 (0, 0))
    have hXs4 := hide ((unhide hXs3).more hGo)
    have hor4 := hide ((unhide hor3).gr hGo)
    clear hGo hXs3 hor3 hgx
    generalize World.alloc _ _ = z5 at *
    generalize z4.heap.size = g6 at *
    simp only [nrm]
    refine wpList_step fun K_ hQ => ?_
    rw [if_pos (by kernel_rfl)]
    refine app_row1 lt_b (.tmp 62) (.tmp 64) rfl _ ((List.range j).map fun i => bv (f i)) rfl (unhide hor4) g6 0 1 (bv (f j)) rfl (by rw [bv_len, ((unhide hfb) j).1]) hls (bv_one' _) (by rw [List.length_map, List.length_range]; omega) ?_
    intro v5_ z6 hor5 hgr hown5
    have hP2 : Hid (Rput v0 G gs gd s1 L1 zz f (j + 1) v5_ z6) := by
      refine ⟨F3, D3, m2 + 1, xs_app9 (unhide hXs4) (unhide hor4) (unhide hoN3) hgr, unhide hFd3, unhide hDz3, by omega, unhide hcu3, ?_, ?_⟩
      · rw [List.range_succ, List.map_append]
        exact hor5
      · intro p e
        rcases hown5 with h | h
        · rw [h] at e
          exact unhide hoN3 p e
        · rw [h] at e
          have e2 : z5.heap.size = p := Option.some.inj e
          subst e2
          exact ⟨fun e => by have := (unhide hXs4).ls.lt _ e; omega, fun e => by have := (unhide hXs4).st.lt _ e; omega, (unhide hXs4).gr.size⟩
    clear hgr hls hor4 hor5 hXs4 hFd3 hDz3 hcu3 hoN3 hown5
    refine hQ _ _ ?_
    clear hQ K_
    simp only [nrm]
    (refine wpList_step fun K hK => ?_; replace hK := hide hK; go_simp; refine unhide hK _ _ ?_; clear hK K)
    refine wpList_nil ?_
    go_wp2_with fail
    go_roundw
    case rel => exact ⟨j + 1, by omega, by go_num, hP2⟩
    case measure => simp [intOf]; omega
  have jI2 : ¬ (j : Int) < (sl : Int) := by omega
  obtain rfl : j = sl := by omega
  obtain ⟨F2, D2, m2, hXs, hFd, hDz2, hm2, hcu, hor, hoN⟩ := unhide hP
  clear hP
  obtain ⟨aa, ac, rfl, hlsA⟩ := hor.ls
  obtain ⟨an, han⟩ : ∃ k, k = ((List.range j).map fun i => bv (f i)).length := ⟨_, rfl⟩
  have hanj : an = j := by rw [han, List.length_map, List.length_range]
  rw [← han] at hlsA ⊢
  clear hor han
  subst hanj
  obtain ⟨X, hTl, hXu⟩ := tl_ex (fun i => D2.cur (lgo zz + i)) an s1.turn
  have hx512 : X.length ≤ 512 := by have := usd_ge X; omega
  have hXs := hide hXs; have hFd := hide hFd; have hDz2 := hide hDz2; have hcu := hide hcu; have hlsA := hide hlsA; have hTl := hide hTl
  go_upto_region 23 with fail
  refine wp_region_lit ?_
  refine list_val (.pointer (some ⟨gs, 0, none⟩)) (by kernel_rfl) (by kernel_rfl) ?_
  simp only [nrm]
  refine list_call 7 #[P0 gs] (by kernel_rfl) (by kernel_rfl) ((wopen_ok F2 G gs gd m2 D2 s1 L1 X (unhide hFd).ok (by omega) (unhide hFd).dead (unhide hFd).len (unhide hFd).hs.os (unhide hLb1).1 (unhide hLb1).2 (by omega) (by rw [unhide hDz2, unhide hsl9]; exact unhide hTl) (by rw [unhide hDz2, unhide hsl9]; exact hXu) _ (unhide hXs).ls (unhide hXs).st ((unhide hf).gr (unhide hXs).gr)).mono ?_)
  rintro r w5 ⟨l5, H5, rfl, hlg5, -, hg⟩
  replace hXs := hide ((unhide hXs).more hg); replace hlsA := hide ((unhide hlsA).gr hg)
  have hlg5 := hide hlg5
  clear hg
  refine ⟨_, rfl, ?_⟩
  simp only [nrm]
  refine list_val (.tuple #[.pointer (some ⟨l5, 0, none⟩), .int .i64 0]) (by kernel_rfl) (by kernel_rfl) ?_
  simp only [nrm]
  refine list_val (.pointer (some ⟨l5, 0, none⟩)) (by kernel_rfl) (by kernel_rfl) ?_
  simp only [nrm]
  refine list_val (.int .i64 0) (by kernel_rfl) (by kernel_rfl) ?_
  simp only [nrm]
  (refine wpList_step fun K hK => ?_; replace hK := hide hK; go_simp; refine unhide hK _ _ ?_; clear hK K)
  (refine wpList_step fun K hK => ?_; replace hK := hide hK; go_simp; refine unhide hK _ _ ?_; clear hK K)
  refine wpList_nil ?_
  go_upto_region 24 with fail
  refine wp_region_lit ?_
  refine list_val (.pointer (some ⟨gs, 0, none⟩)) (by kernel_rfl) (by kernel_rfl) ?_
  simp only [nrm]
  refine list_call 11 #[P0 gs] (by kernel_rfl) (by kernel_rfl) ((esnap_ok F2 G gs gd m2 D2 s1 L1 (unhide hFd).ok (by omega) (unhide hFd).dead (unhide hFd).len _ (unhide hXs).ls (unhide hXs).st (unhide hFd).hs.os ((unhide hf).gr (unhide hXs).gr)).mono ?_)
  rintro r w6 ⟨vs, rfl, hob, hg⟩
  obtain ⟨sa, sc, rfl, hl6⟩ := hob.lb (unhide hLb1).1
  obtain ⟨sn, hsn⟩ : ∃ k, k = L1.length := ⟨_, rfl⟩
  rw [← hsn] at hl6 ⊢
  replace hXs := hide ((unhide hXs).more hg); replace hlsA := hide ((unhide hlsA).gr hg); replace hlg5 := hide ((unhide hlg5).gr hg)
  have hl6 := hide hl6
  clear hg hob hsn
  refine ⟨_, rfl, ?_⟩
  simp only [nrm]
  refine list_val (.tuple #[.slice sa sn sc, .int .i64 0]) (by kernel_rfl) (by kernel_rfl) ?_
  simp only [nrm]
  refine list_val (.slice sa sn sc) (by kernel_rfl) (by kernel_rfl) ?_
  simp only [nrm]
  refine list_val (.int .i64 0) (by kernel_rfl) (by kernel_rfl) ?_
  simp only [nrm]
  (refine wpList_step fun K hK => ?_; replace hK := hide hK; go_simp; refine unhide hK _ _ ?_; clear hK K)
  (refine wpList_step fun K hK => ?_; replace hK := hide hK; go_simp; refine unhide hK _ _ ?_; clear hK K)
  refine wpList_nil ?_
  go_upto_region 25 with fail
  refine wp_region_lit ?_
  refine list_val (.int .i64 0) (by kernel_rfl) (by kernel_rfl) ?_
  simp only [nrm]
  refine list_val (.bool true) (by kernel_rfl) (by kernel_rfl) ?_
  simp only [nrm]
  refine list_val (.bool true) (by kernel_rfl) (by kernel_rfl) ?_
  simp only [nrm]
  refine list_val (.int .i64 0) (by kernel_rfl) (by kernel_rfl) ?_
  simp only [nrm]
  refine list_val (.bool true) (by kernel_rfl) (by kernel_rfl) ?_
  simp only [nrm]
  refine list_val (.bool true) (by kernel_rfl) (by kernel_rfl) ?_
  simp only [nrm]
  refine list_val (.bool true) (by kernel_rfl) (by kernel_rfl) ?_
  simp only [nrm]
  refine list_val (.pointer (some ⟨l5, 0, none⟩)) (by kernel_rfl) (by kernel_rfl) ?_
  simp only [nrm]
  refine list_val (.slice sa sn sc) (by kernel_rfl) (by kernel_rfl) ?_
  simp only [nrm]
  refine list_val (.pointer (some ⟨gs, 0, none⟩)) (by kernel_rfl) (by kernel_rfl) ?_
  simp only [nrm]
  refine list_call 14 #[.pointer (some ⟨gs, 0, none⟩)] (by kernel_rfl) (by kernel_rfl) ((eturn_ok F2 G gs gd m2 D2 s1 L1 (unhide hFd).ok (by omega) (unhide hFd).dead (unhide hFd).len _ (unhide hXs).ls (unhide hXs).st (unhide hFd).hs.os ((unhide hf).gr (unhide hXs).gr)).mono ?_)
  rintro r w7 ⟨rfl, hg⟩
  refine ⟨_, rfl, ?_⟩
  replace hXs := hide ((unhide hXs).more hg); replace hlsA := hide ((unhide hlsA).gr hg); replace hlg5 := hide ((unhide hlg5).gr hg); replace hl6 := hide ((unhide hl6).gr hg)
  clear hg
  simp only [nrm]
  refine list_val (.slice aa an ac) (by kernel_rfl) (by kernel_rfl) ?_
  simp only [nrm]
  refine list_call 13 #[.int .u64 (s1.turn : Int), .slice aa an ac] (by kernel_rfl) (by kernel_rfl) ((txs12_ok s1.turn (by omega) ((List.range an).map f) (by intro b hb; obtain ⟨i, -, rfl⟩ := List.mem_map.1 hb; exact (unhide hfb) i) aa an ac _ (by rw [List.map_map]; exact unhide hlsA) (by omega)).mono ?_)
  rintro r w8 ⟨vx, X', rfl, hox, hTl2, hXu2, hg⟩
  have hXX : X = X' := (unhide hTl).uniq (by omega) (hTl2.congr hXu2 (fun i hi => by
    rw [unhide hcu i hi, List.getD_eq_getElem?_getD, List.getElem?_map, List.getElem?_range hi]
    rfl))
  subst hXX
  obtain ⟨xa, xc, rfl, hq8⟩ := hox.lq
  replace hXs := hide ((unhide hXs).more hg); replace hlsA := hide ((unhide hlsA).gr hg); replace hlg5 := hide ((unhide hlg5).gr hg); replace hl6 := hide ((unhide hl6).gr hg)
  have hq8 := hide hq8
  clear hg hox hTl2 hXu2
  obtain ⟨xn, hxn⟩ : ∃ k, k = X.length := ⟨_, rfl⟩
  rw [← hxn] at hq8 ⊢
  clear hxn
  refine ⟨_, rfl, ?_⟩
  simp only [nrm]
  refine list_call 12 #[.pointer (some ⟨l5, 0, none⟩), .slice sa sn sc, .slice xa xn xc] (by kernel_rfl) (by kernel_rfl) ((tells12_ok _ (unhide hlg5) hx512 (by omega) sa xa sn sc xn xc (unhide hl6) (unhide hq8)).mono ?_)
  rintro r w9 ⟨rfl, hg⟩
  refine ⟨_, rfl, ?_⟩
  have hZ : Hid (Gr w w9) := ((unhide hgw).trans (unhide hXs).gr).trans hg
  clear hg hXs hlsA hlg5 hl6 hq8
  simp only [nrm]
  refine list_val (.bool true) (by kernel_rfl) (by kernel_rfl) ?_
  simp only [nrm]
  (refine wpList_step fun K hK => ?_; replace hK := hide hK; go_simp; refine unhide hK _ _ ?_; clear hK K)
  refine wpList_nil ?_
  go_wp2_with fail
  rw [unhide hT]
  exact ⟨rfl, unhide hZ⟩
end Go.Proofs.YtaoiejgjdmakjaaGreatDoor
