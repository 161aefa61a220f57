/-
  The block by the reference.
-/
import Derived.Test.YtdekjbdkpchbjaaChaRW
namespace Go.Proofs.Ytdekjbdkpchbjaa
open Go.RowKit
set_option maxRecDepth 100000
set_option linter.unusedSimpArgs false
set_option linter.unusedVariables false
theorem Try.infoA : (Try.prog.info? 60).map (·.size) = some 16 := by kernel_rfl
/-- the words of the key, of the nonce, as far as n -/
def wk (K W : List Int) (p : Nat) : Nat → List Int
  | 0 => W
  | n + 1 => (wk K W p n).set (p + n) (wd K (4 * n))
theorem wk_len (K W : List Int) (p : Nat) : ∀ n, (wk K W p n).length = W.length
  | 0 => rfl
  | n + 1 => by rw [wk, List.length_set, wk_len K W p n]
/-- four words stored one by one -/
def qset (X : List Int) (p : List Nat) (q : List Int) : Nat → List Int
  | 0 => X
  | i + 1 => (qset X p q i).set (p.getD i 0) (q.getD i 0)
theorem qset_len (X : List Int) (p : List Nat) (q : List Int) : ∀ i, (qset X p q i).length = X.length
  | 0 => rfl
  | i + 1 => by rw [qset, List.length_set, qset_len X p q i]
theorem qset_all (X : List Int) (p : List Nat) : qset X p (ql (quar (X.getD (p.getD 0 0) 0) (X.getD (p.getD 1 0) 0) (X.getD (p.getD 2 0) 0) (X.getD (p.getD 3 0) 0))) 4 = qpl X p := rfl
/-- four words that are made while a chain goes on -/
def NQ (v0 : World) (q : Value) (u : World) : Prop := ∃ g, New v0 (uc [0, 0, 0, 0]) 79 u q g
theorem NQ.gr {v0 u v : World} {q : Value} (h : NQ v0 q u) (k : Gr u v) : NQ v0 q v := by
  obtain ⟨g, h⟩ := h
  exact ⟨g, h.more k⟩
/-- the words of key and nonce, by both -/
def ob (K : List Int) (o : Nat) : Int := bits .or .u32 (bits .or .u32 (bits .or .u32 (bits .or .u32 0 (K.getD o 0 * 2 ^ 0 % 4294967296)) (K.getD (o + 1) 0 * 2 ^ 8 % 4294967296)) (K.getD (o + 2) 0 * 2 ^ 16 % 4294967296)) (K.getD (o + 3) 0 * 2 ^ 24 % 4294967296)
theorem ob_wd (K : List Int) (h : IsB K) (o : Nat) : ob K o = wd K o := by
  have b0 := h.at_ o
  have b1 := h.at_ (o + 1)
  have b2 := h.at_ (o + 2)
  have b3 := h.at_ (o + 3)
  unfold ob wd
  rw [show K.getD o 0 * 2 ^ 0 % 4294967296 = K.getD o 0 from by omega, or_zero _ ⟨b0.1, by omega⟩, show K.getD (o + 1) 0 * 2 ^ 8 % 4294967296 = K.getD (o + 1) 0 * 256 from by omega, show K.getD (o + 2) 0 * 2 ^ 16 % 4294967296 = K.getD (o + 2) 0 * 65536 from by omega, show K.getD (o + 3) 0 * 2 ^ 24 % 4294967296 = K.getD (o + 3) 0 * 16777216 from by omega]
theorem kw_key (K : List Int) : kw 4 K W0 32 = [1634760805, 857760878, 2036477234, 1797285236, ob K 0, ob K 4, ob K 8, ob K 12, ob K 16, ob K 20, ob K 24, ob K 28, 0, 0, 0, 0] := by kernel_rfl
theorem kw_nonce (N : List Int) (a0 a1 a2 a3 a4 a5 a6 a7 a8 a9 a10 a11 a12 : Int) : kw 13 N [a0, a1, a2, a3, a4, a5, a6, a7, a8, a9, a10, a11, a12, 0, 0, 0] 12 = [a0, a1, a2, a3, a4, a5, a6, a7, a8, a9, a10, a11, a12, ob N 0, ob N 4, ob N 8] := by kernel_rfl
theorem wk_key (K : List Int) : wk K W0 4 8 = [1634760805, 857760878, 2036477234, 1797285236, wd K 0, wd K 4, wd K 8, wd K 12, wd K 16, wd K 20, wd K 24, wd K 28, 0, 0, 0, 0] := by kernel_rfl
theorem wk_nonce (N : List Int) (a0 a1 a2 a3 a4 a5 a6 a7 a8 a9 a10 a11 a12 : Int) : wk N [a0, a1, a2, a3, a4, a5, a6, a7, a8, a9, a10, a11, a12, 0, 0, 0] 13 3 = [a0, a1, a2, a3, a4, a5, a6, a7, a8, a9, a10, a11, a12, wd N 0, wd N 4, wd N 8] := by kernel_rfl
theorem words_eq (K N : List Int) (hK : IsB K) (hN : IsB N) (c : Int) : wk N ((wk K W0 4 8).set 12 c) 13 3 = (bg K N).set 12 c := by
  unfold bg
  rw [kw_key, kw_nonce, wk_key]
  simp only [List.set_cons_zero, List.set_cons_succ]
  rw [wk_nonce]
  simp only [ob_wd K hK, ob_wd N hN]
set_option maxHeartbeats 8000000 in
theorem rblock_ok (K N : List Int) (hK : K.length = 32) (hN : N.length = 12) (hKb : IsB K) (hNb : IsB N) (c : Int) (w : World) : Calls Try.prog 31 #[.agg (kc K), .int .u32 c, .agg (kc N)] w (Bts (bk K N c) w) := by
  obtain ⟨T, hT⟩ : ∃ T, T = Bts (bk K N c) w := ⟨_, rfl⟩
  rw [← hT]
  replace hT := hide hT
  obtain ⟨SK, hSK⟩ : ∃ S, S = kc K := ⟨_, rfl⟩
  obtain ⟨SN, hSN⟩ : ∃ S, S = kc N := ⟨_, rfl⟩
  rw [← hSK, ← hSN]
  replace hSK := hide hSK
  replace hSN := hide hSN
  replace hKb := hide hKb
  replace hNb := hide hNb
  go_enter Try.func31, Try.ntmps31
  go_upto_region 1 with fail
  have hB := (((Bl.nil w).new SK 23).new SN 25).new #[.int .u8 0, .int .u8 0, .int .u8 0, .int .u8 0, .int .u8 0, .int .u8 0, .int .u8 0, .int .u8 0, .int .u8 0, .int .u8 0, .int .u8 0, .int .u8 0, .int .u8 0, .int .u8 0, .int .u8 0, .int .u8 0, .int .u8 0, .int .u8 0, .int .u8 0, .int .u8 0, .int .u8 0, .int .u8 0, .int .u8 0, .int .u8 0, .int .u8 0, .int .u8 0, .int .u8 0, .int .u8 0, .int .u8 0, .int .u8 0, .int .u8 0, .int .u8 0, .int .u8 0, .int .u8 0, .int .u8 0, .int .u8 0, .int .u8 0, .int .u8 0, .int .u8 0, .int .u8 0, .int .u8 0, .int .u8 0, .int .u8 0, .int .u8 0, .int .u8 0, .int .u8 0, .int .u8 0, .int .u8 0, .int .u8 0, .int .u8 0, .int .u8 0, .int .u8 0, .int .u8 0, .int .u8 0, .int .u8 0, .int .u8 0, .int .u8 0, .int .u8 0, .int .u8 0, .int .u8 0, .int .u8 0, .int .u8 0, .int .u8 0, .int .u8 0] 56
  simp only [size_alloc, List.nil_append, List.cons_append] at hB
  generalize World.alloc _ _ = u at *
  rw [unhide hSK, unhide hSN] at hB
  refine wp_region_lit ?_
  refine list_val (.agg (uc W0)) (by kernel_rfl) (by kernel_rfl) ?_
  simp only [Act.put, List.setIfInBounds_toArray, List.set_cons_zero, List.set_cons_succ, List.getElem_toArray, List.getElem_cons_zero, List.getElem_cons_succ]
  replace hB := hide hB
  (refine wpList_step fun K hK => ?_; replace hK := hide hK; go_simp; refine unhide hK _ _ ?_; clear hK K)
  replace hB := (unhide hB).new #[.int .u32 0, .int .u32 0, .int .u32 0, .int .u32 0, .int .u32 0, .int .u32 0, .int .u32 0, .int .u32 0, .int .u32 0, .int .u32 0, .int .u32 0, .int .u32 0, .int .u32 0, .int .u32 0, .int .u32 0, .int .u32 0] 60
  simp only [List.nil_append, List.cons_append] at hB
  generalize World.alloc _ _ = u1 at *
  generalize u.heap.size = h7 at *
  replace hB : Bl w [⟨w.heap.size, kc K, 23⟩, ⟨w.heap.size + 1, kc N, 25⟩, ⟨w.heap.size + 1 + 1, kc Z64, 56⟩, ⟨h7, uc Z16, 60⟩] u1 := hB
  refine list_store 60 (.tmp 7) (.tmp 20) (h7) (uc W0) 60 (uc Z16) (by kernel_rfl) rfl (by kernel_rfl) (by kernel_rfl) (hB.get 3 (x := ⟨h7, uc Z16, 60⟩) rfl) (by rw [Try.infoA, uc_size, (show W0.length = 16 from rfl)]) ((show (uc Z16).size = 16 from rfl).trans ((uc_size _).trans (show W0.length = 16 from rfl)).symm) (uc_one _) ?_
  replace hB := hB.set 3 (x := ⟨h7, uc Z16, 60⟩) rfl (uc W0)
  simp only [List.set_cons_zero, List.set_cons_succ] at hB
  generalize World.setRow _ _ _ = u2 at *
  simp only [Act.put, List.setIfInBounds_toArray, List.set_cons_zero, List.set_cons_succ, List.getElem_toArray, List.getElem_cons_zero, List.getElem_cons_succ]
  refine wpList_nil ?_
  replace hB := hide hB
  have hpl : W0.length = 16 := rfl
  go_wp2_with fail
  go_loopw [8] (fun i wr => ∃ n : Nat, ∃ m : List Int, n ≤ 8 ∧ i = .int .i64 n ∧ Hid (m = wk K W0 4 n) ∧ Hid (Bl w [⟨w.heap.size, kc K, 23⟩, ⟨w.heap.size + 1, kc N, 25⟩, ⟨w.heap.size + 1 + 1, kc Z64, 56⟩, ⟨h7, uc m, 60⟩] wr)) (fun i _ => 8 - (intOf i).toNat)
  case atStart => exact ⟨0, W0, by omega, rfl, rfl, hB⟩
  case round =>
  clear hB
  obtain ⟨n, m, hn, rfl, hm, hB⟩ := hrel
  have hml : m.length = 16 := by rw [unhide hm, wk_len]; exact hpl
  by_cases hl : n < 8
  · obtain ⟨i4, hi4⟩ : ∃ x, x = 4 + n := ⟨_, rfl⟩
    obtain ⟨o, ho⟩ : ∃ x, x = 4 * n := ⟨_, rfl⟩
    obtain ⟨l1, hl1⟩ : ∃ x, x = 32 - o := ⟨_, rfl⟩
    have nI : (n : Int) < 8 := by omega
    have e1 : 4 + (n : Int) = (i4 : Int) := by omega
    have e2 : 4 * (n : Int) = (o : Int) := by omega
    have e3 : IntKind.i64.wrap (i4 : Int) = (i4 : Int) := by rw [IntKind.wrap_i64]; omega
    have e4 : IntKind.i64.wrap (o : Int) = (o : Int) := by rw [IntKind.wrap_i64]; omega
    have e5 : (o : Int) ≤ 32 := by omega
    have e6 : o ≤ 32 := by omega
    have e7 : ¬ 32 = o := by omega
    have e8 : 32 - o = l1 := hl1.symm
    have e9 : (i4 : Int) < 16 := by omega
    have e10 : i4 < 16 := by omega
    have c4 := uc_cell ((unhide hB).get 3 (x := ⟨h7, uc m, 60⟩) rfl) i4 (by omega)
    generalize m.getD i4 0 = z at c4
    replace hi4 := hide hi4
    replace ho := hide ho
    replace hl1 := hide hl1
    clear c4
    go_upto_region 5 with fail
    replace hB := unhide hB
    refine wp_region_lit ?_
    refine list_val (.int .i64 n) (by kernel_rfl) (by kernel_rfl) ?_
    simp only [Act.put, List.setIfInBounds_toArray, List.set_cons_zero, List.set_cons_succ, List.getElem_toArray, List.getElem_cons_zero, List.getElem_cons_succ]
    refine list_val (.int .i64 i4) (by kernel_rfl) (by go_simp) ?_
    simp only [Act.put, List.setIfInBounds_toArray, List.set_cons_zero, List.set_cons_succ, List.getElem_toArray, List.getElem_cons_zero, List.getElem_cons_succ]
    refine list_val (.int .i64 n) (by kernel_rfl) (by kernel_rfl) ?_
    simp only [Act.put, List.setIfInBounds_toArray, List.set_cons_zero, List.set_cons_succ, List.getElem_toArray, List.getElem_cons_zero, List.getElem_cons_succ]
    refine list_val (.int .i64 o) (by kernel_rfl) (by go_simp) ?_
    simp only [Act.put, List.setIfInBounds_toArray, List.set_cons_zero, List.set_cons_succ, List.getElem_toArray, List.getElem_cons_zero, List.getElem_cons_succ]
    refine list_val (.slice (some ⟨w.heap.size, o, none⟩) l1 l1) (by kernel_rfl) (by go_simp) ?_
    simp only [Act.put, List.setIfInBounds_toArray, List.set_cons_zero, List.set_cons_succ, List.getElem_toArray, List.getElem_cons_zero, List.getElem_cons_succ]
    refine list_call 46 #[.slice (some ⟨w.heap.size, o, none⟩) l1 l1] (by kernel_rfl) (by kernel_rfl) ((rword_ok K (unhide hKb) (w.heap.size) o l1 l1 (by have := unhide hl1; omega) (by have := unhide ho; omega) _ (.inl (hB.get 0 (x := ⟨w.heap.size, kc K, 23⟩) rfl)) (by have := unhide ho; omega)).mono ?_)
    rintro r u2 ⟨rfl, hg⟩
    refine ⟨_, rfl, ?_⟩
    replace hB := hB.more hg
    clear hg
    obtain ⟨x, hx⟩ : ∃ x, x = wd K o := ⟨_, rfl⟩
    rw [← hx]
    replace hx := hide hx
    simp only [Act.put, List.setIfInBounds_toArray, List.set_cons_zero, List.set_cons_succ, List.getElem_toArray, List.getElem_cons_zero, List.getElem_cons_succ]
    refine list_val (.pointer (some ⟨h7, i4, none⟩)) (by kernel_rfl) (by go_simp) ?_
    simp only [Act.put, List.setIfInBounds_toArray, List.set_cons_zero, List.set_cons_succ, List.getElem_toArray, List.getElem_cons_zero, List.getElem_cons_succ]
    have c4 := uc_cell (hB.get 3 (x := ⟨h7, uc m, 60⟩) rfl) i4 (by omega)
    generalize m.getD i4 0 = z at c4
    have fz := froz_of (i := i4) (hB.get 3 (x := ⟨h7, uc m, 60⟩) rfl)
    have hB2 := hB.cell 3 (x := ⟨h7, uc m, 60⟩) rfl i4 (.int .u32 x)
    simp only [List.set_cons_zero, List.set_cons_succ, uc_set] at hB2
    clear hB
    replace hB2 := hide hB2
    (refine wpList_step fun K hK => ?_; replace hK := hide hK; go_simp; refine unhide hK _ _ ?_; clear hK K)
    clear c4 fz
    refine wpList_nil ?_
    have hm2 : Hid (m.set i4 x = wk K W0 4 (n + 1)) := by
      rw [wk, ← unhide hm, unhide hx, unhide hi4, unhide ho]
      exact rfl
    clear hn hx
    go_wp2_with fail
    go_roundw
    case rel => exact ⟨n + 1, _, by omega, by go_num, hm2, hB2⟩
    case measure => simp [intOf]; omega
  have e : n = 8 := by omega
  subst e
  clear hl hn
  go_upto_region 6 with fail
  replace hB := unhide hB
  refine wp_region_lit ?_
  refine list_val (.int .u32 c) (by kernel_rfl) (by kernel_rfl) ?_
  simp only [Act.put, List.setIfInBounds_toArray, List.set_cons_zero, List.set_cons_succ, List.getElem_toArray, List.getElem_cons_zero, List.getElem_cons_succ]
  refine list_val (.pointer (some ⟨h7, 12, none⟩)) (by kernel_rfl) (by kernel_rfl) ?_
  simp only [Act.put, List.setIfInBounds_toArray, List.set_cons_zero, List.set_cons_succ, List.getElem_toArray, List.getElem_cons_zero, List.getElem_cons_succ]
  have c4 := uc_cell (hB.get 3 (x := ⟨h7, uc m, 60⟩) rfl) 12 (by omega)
  generalize m.getD 12 0 = z at c4
  have fz := froz_of (i := 12) (hB.get 3 (x := ⟨h7, uc m, 60⟩) rfl)
  replace hB := hB.cell 3 (x := ⟨h7, uc m, 60⟩) rfl 12 (.int .u32 c)
  simp only [List.set_cons_zero, List.set_cons_succ, uc_set] at hB
  replace hB := hide hB
  (refine wpList_step fun K hK => ?_; replace hK := hide hK; go_simp; refine unhide hK _ _ ?_; clear hK K)
  clear c4 fz
  refine wpList_nil ?_
  clear hpl
  have hpl : (m.set 12 c).length = 16 := by rw [List.length_set]; exact hml
  have hk1 : Hid (m.set 12 c = (wk K W0 4 8).set 12 c) := by rw [unhide hm]; exact rfl
  generalize m.set 12 c = V1 at *
  clear hm hml m
  go_wp2_with fail
  go_loopw [9] (fun i wr => ∃ n : Nat, ∃ m : List Int, n ≤ 3 ∧ i = .int .i64 n ∧ Hid (m = wk N V1 13 n) ∧ Hid (Bl w [⟨w.heap.size, kc K, 23⟩, ⟨w.heap.size + 1, kc N, 25⟩, ⟨w.heap.size + 1 + 1, kc Z64, 56⟩, ⟨h7, uc m, 60⟩] wr)) (fun i _ => 3 - (intOf i).toNat)
  case atStart => exact ⟨0, V1, by omega, rfl, rfl, hB⟩
  case round =>
  clear hB
  obtain ⟨n, m, hn, rfl, hm, hB⟩ := hrel
  have hml : m.length = 16 := by rw [unhide hm, wk_len]; exact hpl
  by_cases hl : n < 3
  · obtain ⟨i4, hi4⟩ : ∃ x, x = 13 + n := ⟨_, rfl⟩
    obtain ⟨o, ho⟩ : ∃ x, x = 4 * n := ⟨_, rfl⟩
    obtain ⟨l1, hl1⟩ : ∃ x, x = 12 - o := ⟨_, rfl⟩
    have nI : (n : Int) < 3 := by omega
    have e1 : 13 + (n : Int) = (i4 : Int) := by omega
    have e2 : 4 * (n : Int) = (o : Int) := by omega
    have e3 : IntKind.i64.wrap (i4 : Int) = (i4 : Int) := by rw [IntKind.wrap_i64]; omega
    have e4 : IntKind.i64.wrap (o : Int) = (o : Int) := by rw [IntKind.wrap_i64]; omega
    have e5 : (o : Int) ≤ 12 := by omega
    have e6 : o ≤ 12 := by omega
    have e7 : ¬ 12 = o := by omega
    have e8 : 12 - o = l1 := hl1.symm
    have e9 : (i4 : Int) < 16 := by omega
    have e10 : i4 < 16 := by omega
    have c4 := uc_cell ((unhide hB).get 3 (x := ⟨h7, uc m, 60⟩) rfl) i4 (by omega)
    generalize m.getD i4 0 = z at c4
    replace hi4 := hide hi4
    replace ho := hide ho
    replace hl1 := hide hl1
    clear c4
    go_upto_region 10 with fail
    replace hB := unhide hB
    refine wp_region_lit ?_
    refine list_val (.int .i64 n) (by kernel_rfl) (by kernel_rfl) ?_
    simp only [Act.put, List.setIfInBounds_toArray, List.set_cons_zero, List.set_cons_succ, List.getElem_toArray, List.getElem_cons_zero, List.getElem_cons_succ]
    refine list_val (.int .i64 i4) (by kernel_rfl) (by go_simp) ?_
    simp only [Act.put, List.setIfInBounds_toArray, List.set_cons_zero, List.set_cons_succ, List.getElem_toArray, List.getElem_cons_zero, List.getElem_cons_succ]
    refine list_val (.int .i64 n) (by kernel_rfl) (by kernel_rfl) ?_
    simp only [Act.put, List.setIfInBounds_toArray, List.set_cons_zero, List.set_cons_succ, List.getElem_toArray, List.getElem_cons_zero, List.getElem_cons_succ]
    refine list_val (.int .i64 o) (by kernel_rfl) (by go_simp) ?_
    simp only [Act.put, List.setIfInBounds_toArray, List.set_cons_zero, List.set_cons_succ, List.getElem_toArray, List.getElem_cons_zero, List.getElem_cons_succ]
    refine list_val (.slice (some ⟨w.heap.size + 1, o, none⟩) l1 l1) (by kernel_rfl) (by go_simp) ?_
    simp only [Act.put, List.setIfInBounds_toArray, List.set_cons_zero, List.set_cons_succ, List.getElem_toArray, List.getElem_cons_zero, List.getElem_cons_succ]
    refine list_call 46 #[.slice (some ⟨w.heap.size + 1, o, none⟩) l1 l1] (by kernel_rfl) (by kernel_rfl) ((rword_ok N (unhide hNb) (w.heap.size + 1) o l1 l1 (by have := unhide hl1; omega) (by have := unhide ho; omega) _ (.inr (hB.get 1 (x := ⟨w.heap.size + 1, kc N, 25⟩) rfl)) (by have := unhide ho; omega)).mono ?_)
    rintro r u2 ⟨rfl, hg⟩
    refine ⟨_, rfl, ?_⟩
    replace hB := hB.more hg
    clear hg
    obtain ⟨x, hx⟩ : ∃ x, x = wd N o := ⟨_, rfl⟩
    rw [← hx]
    replace hx := hide hx
    simp only [Act.put, List.setIfInBounds_toArray, List.set_cons_zero, List.set_cons_succ, List.getElem_toArray, List.getElem_cons_zero, List.getElem_cons_succ]
    refine list_val (.pointer (some ⟨h7, i4, none⟩)) (by kernel_rfl) (by go_simp) ?_
    simp only [Act.put, List.setIfInBounds_toArray, List.set_cons_zero, List.set_cons_succ, List.getElem_toArray, List.getElem_cons_zero, List.getElem_cons_succ]
    have c4 := uc_cell (hB.get 3 (x := ⟨h7, uc m, 60⟩) rfl) i4 (by omega)
    generalize m.getD i4 0 = z at c4
    have fz := froz_of (i := i4) (hB.get 3 (x := ⟨h7, uc m, 60⟩) rfl)
    have hB2 := hB.cell 3 (x := ⟨h7, uc m, 60⟩) rfl i4 (.int .u32 x)
    simp only [List.set_cons_zero, List.set_cons_succ, uc_set] at hB2
    clear hB
    replace hB2 := hide hB2
    (refine wpList_step fun K hK => ?_; replace hK := hide hK; go_simp; refine unhide hK _ _ ?_; clear hK K)
    clear c4 fz
    refine wpList_nil ?_
    have hm2 : Hid (m.set i4 x = wk N V1 13 (n + 1)) := by
      rw [wk, ← unhide hm, unhide hx, unhide hi4, unhide ho]
      exact rfl
    clear hn hx
    go_wp2_with fail
    go_roundw
    case rel => exact ⟨n + 1, _, by omega, by go_num, hm2, hB2⟩
    case measure => simp [intOf]; omega
  have e : n = 3 := by omega
  subst e
  clear hl hn
  have hVV : Hid (m = (bg K N).set 12 c) := by
    rw [unhide hm, unhide hk1]
    exact words_eq K N (unhide hKb) (unhide hNb) c
  clear hm hk1 hpl
  obtain ⟨V, hV⟩ : ∃ V, V = m := ⟨_, rfl⟩
  rw [← hV] at hVV hml hB
  clear hV m
  have hVl : V.length = 16 := hml
  clear hml
  go_upto_region 11 with fail
  replace hB := unhide hB
  refine wp_region_lit ?_
  refine list_val (.agg (uc V)) (by kernel_rfl) (exec_arr _ 60 (.tmp 7) rfl (h7) (by kernel_rfl) (uc V) 60 _ (hB.get 3 (x := ⟨h7, uc V, 60⟩) rfl) Try.underlying60 rfl (by rw [Try.infoA, uc_size, hVl])) ?_
  simp only [Act.put, List.setIfInBounds_toArray, List.set_cons_zero, List.set_cons_succ, List.getElem_toArray, List.getElem_cons_zero, List.getElem_cons_succ]
  replace hB := hide hB
  (refine wpList_step fun K hK => ?_; replace hK := hide hK; go_simp; refine unhide hK _ _ ?_; clear hK K)
  replace hB := (unhide hB).new #[.int .u32 0, .int .u32 0, .int .u32 0, .int .u32 0, .int .u32 0, .int .u32 0, .int .u32 0, .int .u32 0, .int .u32 0, .int .u32 0, .int .u32 0, .int .u32 0, .int .u32 0, .int .u32 0, .int .u32 0, .int .u32 0] 60
  simp only [List.nil_append, List.cons_append] at hB
  generalize World.alloc _ _ = u4 at *
  generalize wr.heap.size = h10 at *
  replace hB : Bl w [⟨w.heap.size, kc K, 23⟩, ⟨w.heap.size + 1, kc N, 25⟩, ⟨w.heap.size + 1 + 1, kc Z64, 56⟩, ⟨h7, uc V, 60⟩, ⟨h10, uc Z16, 60⟩] u4 := hB
  refine list_store 60 (.tmp 10) (.tmp 45) (h10) (uc V) 60 (uc Z16) (by kernel_rfl) rfl (by kernel_rfl) (by kernel_rfl) (hB.get 4 (x := ⟨h10, uc Z16, 60⟩) rfl) (by rw [Try.infoA, uc_size, hVl]) ((show (uc Z16).size = 16 from rfl).trans ((uc_size _).trans hVl).symm) (uc_one _) ?_
  replace hB := hB.set 4 (x := ⟨h10, uc Z16, 60⟩) rfl (uc V)
  simp only [List.set_cons_zero, List.set_cons_succ] at hB
  generalize World.setRow _ _ _ = u5 at *
  simp only [Act.put, List.setIfInBounds_toArray, List.set_cons_zero, List.set_cons_succ, List.getElem_toArray, List.getElem_cons_zero, List.getElem_cons_succ]
  refine wpList_nil ?_
  replace hB := hide hB
  go_wp2_with fail
  go_loopw [11] (fun i wr => ∃ r : Nat, ∃ X : List Int, r ≤ 10 ∧ i = .int .i64 r ∧ Hid (X = rn V r) ∧ Hid (Bl w [⟨w.heap.size, kc K, 23⟩, ⟨w.heap.size + 1, kc N, 25⟩, ⟨w.heap.size + 1 + 1, kc Z64, 56⟩, ⟨h7, uc V, 60⟩, ⟨h10, uc X, 60⟩] wr)) (fun i _ => 10 - (intOf i).toNat)
  case atStart => exact ⟨0, V, by omega, rfl, rfl, hB⟩
  case round =>
  clear hB
  obtain ⟨r, X, hr, rfl, hX, hB⟩ := hrel
  have hXl : X.length = 16 := by rw [unhide hX, rn_len]; exact hVl
  by_cases hrl : r < 10
  · have rI : (r : Int) < 10 := by omega
    go_upto_region 15 with fail
    replace hB := unhide hB
    refine wp_region_lit ?_
    refine list_call 47 #[] (by kernel_rfl) (by kernel_rfl) ((rplaces_ok _).mono ?_)
    rintro rr u2 ⟨rfl, hg⟩
    refine ⟨_, rfl, ?_⟩
    replace hB := hB.more hg
    clear hg
    simp only [Act.put, List.setIfInBounds_toArray, List.set_cons_zero, List.set_cons_succ, List.getElem_toArray, List.getElem_cons_zero, List.getElem_cons_succ]
    refine list_val (.int .i64 0) (by kernel_rfl) (by kernel_rfl) ?_
    simp only [Act.put, List.setIfInBounds_toArray, List.set_cons_zero, List.set_cons_succ, List.getElem_toArray, List.getElem_cons_zero, List.getElem_cons_succ]
    refine wpList_nil ?_
    replace hB := hide hB
    obtain ⟨PA, hPA⟩ : ∃ S, S = ic PL := ⟨_, rfl⟩
    rw [← hPA]
    replace hPA := hide hPA
    go_wp2_with fail
    go_loopw [51] (fun i wr => ∃ t : Nat, ∃ Y : List Int, t ≤ 8 ∧ i = .int .i64 t ∧ Hid (Y = dq X t) ∧ Hid (Bl w [⟨w.heap.size, kc K, 23⟩, ⟨w.heap.size + 1, kc N, 25⟩, ⟨w.heap.size + 1 + 1, kc Z64, 56⟩, ⟨h7, uc V, 60⟩, ⟨h10, uc Y, 60⟩] wr)) (fun i _ => 8 - (intOf i).toNat)
    case atStart => exact ⟨0, X, by omega, rfl, rfl, hB⟩
    case round =>
    clear hB
    obtain ⟨t, Y, ht, rfl, hY, hB⟩ := hrel
    have hYl : Y.length = 16 := by rw [unhide hY, dq_len]; exact hXl
    by_cases htl : t < 8
    · have tI : (t : Int) < 8 := by omega
      have hidx : ∀ w, (Instr.index 77 (.agg PA) (.int .i64 t)).run Try.prog w = .ok (.agg (ic (pl4 t))) w := fun w => by rw [unhide hPA]; exact index_P t htl w
      have hpl := pl4_len t htl
      have hplt := pl4_lt t htl
      have hY2 : Hid (qpl Y (pl4 t) = dq X (t + 1)) := by rw [unhide hY]; exact rfl
      generalize pl4 t = p at *
      replace hplt := hide hplt
      replace hidx := hide hidx
      go_upto_region 17 with fail
      replace hB := unhide hB
      refine wp_region_lit ?_
      refine list_val (.agg (ic p)) (by kernel_rfl) (by have e := unhide hidx; go_simp) ?_
      simp only [Act.put, List.setIfInBounds_toArray, List.set_cons_zero, List.set_cons_succ, List.getElem_toArray, List.getElem_cons_zero, List.getElem_cons_succ]
      clear hidx
      replace hB := hide hB
      (refine wpList_step fun K hK => ?_; replace hK := hide hK; go_simp; refine unhide hK _ _ ?_; clear hK K)
      replace hB := (unhide hB).new #[.int .i64 0, .int .i64 0, .int .i64 0, .int .i64 0] 76
      simp only [List.nil_append, List.cons_append] at hB
      generalize World.alloc _ _ = u7 at *
      generalize wr.heap.size = h13 at *
      replace hB : Bl w [⟨w.heap.size, kc K, 23⟩, ⟨w.heap.size + 1, kc N, 25⟩, ⟨w.heap.size + 1 + 1, kc Z64, 56⟩, ⟨h7, uc V, 60⟩, ⟨h10, uc Y, 60⟩, ⟨h13, ic [0, 0, 0, 0], 76⟩] u7 := hB
      refine list_store 76 (.tmp 13) (.tmp 53) h13 (ic p) 76 (ic [0, 0, 0, 0]) (by kernel_rfl) rfl (by kernel_rfl) (by kernel_rfl) (hB.get 5 (x := ⟨h13, ic [0, 0, 0, 0], 76⟩) rfl) (by rw [Try.infoP4, ic_size, hpl]) ((show (ic [0, 0, 0, 0]).size = 4 from rfl).trans ((ic_size _).trans hpl).symm) (ic_one _) ?_
      replace hB := hB.set 5 (x := ⟨h13, ic [0, 0, 0, 0], 76⟩) rfl (ic p)
      simp only [List.set_cons_zero, List.set_cons_succ] at hB
      generalize World.setRow _ _ _ = u8 at *
      simp only [Act.put, List.setIfInBounds_toArray, List.set_cons_zero, List.set_cons_succ, List.getElem_toArray, List.getElem_cons_zero, List.getElem_cons_succ]
      refine wpList_nil ?_
      replace hB := hide hB
      go_upto_region 18 with fail
      replace hB := unhide hB
      obtain ⟨p0, hp0⟩ : ∃ x, x = p.getD 0 0 := ⟨_, rfl⟩
      have pa0 : p0 < 16 := by rw [hp0]; exact (unhide hplt) 0
      have pb0 : (p0 : Int) < 16 := by omega
      replace hp0 := hide hp0
      obtain ⟨y0, hy0⟩ : ∃ x, x = Y.getD p0 0 := ⟨_, rfl⟩
      replace hy0 := hide hy0
      obtain ⟨p1, hp1⟩ : ∃ x, x = p.getD 1 0 := ⟨_, rfl⟩
      have pa1 : p1 < 16 := by rw [hp1]; exact (unhide hplt) 1
      have pb1 : (p1 : Int) < 16 := by omega
      replace hp1 := hide hp1
      obtain ⟨y1, hy1⟩ : ∃ x, x = Y.getD p1 0 := ⟨_, rfl⟩
      replace hy1 := hide hy1
      obtain ⟨p2, hp2⟩ : ∃ x, x = p.getD 2 0 := ⟨_, rfl⟩
      have pa2 : p2 < 16 := by rw [hp2]; exact (unhide hplt) 2
      have pb2 : (p2 : Int) < 16 := by omega
      replace hp2 := hide hp2
      obtain ⟨y2, hy2⟩ : ∃ x, x = Y.getD p2 0 := ⟨_, rfl⟩
      replace hy2 := hide hy2
      obtain ⟨p3, hp3⟩ : ∃ x, x = p.getD 3 0 := ⟨_, rfl⟩
      have pa3 : p3 < 16 := by rw [hp3]; exact (unhide hplt) 3
      have pb3 : (p3 : Int) < 16 := by omega
      replace hp3 := hide hp3
      obtain ⟨y3, hy3⟩ : ∃ x, x = Y.getD p3 0 := ⟨_, rfl⟩
      replace hy3 := hide hy3
      refine any_start (S := fun v => Gr (World.drew u8) v) (by kernel_rfl) ?_
      replace hB := hB.drew
      generalize World.drew u8 = v0 at *
      have hG := Gr.refl v0
      simp only [List.size_toArray, List.length_cons, List.length_nil, Array.replicate, List.replicate]
      refine any_take (i := 0) (v := (.pointer (some ⟨h13, 0, none⟩))) #[false, false, false, false, false, false, false, false, false, false, false, false, false, false, false, false, false, false, false, false] rfl (by kernel_rfl) (by kernel_rfl) (by kernel_rfl) (by kernel_rfl) (fun _ _ _ h => h) (.inl ⟨by kernel_rfl, fun x_ hu => by kernel_rfl⟩) hG ?_
      simp only [Act.put, List.setIfInBounds_toArray, List.set_cons_zero, List.set_cons_succ, List.getElem_toArray, List.getElem_cons_zero, List.getElem_cons_succ]
      refine any_take (i := 1) (v := (.int .i64 p0)) #[true, false, false, false, false, false, false, false, false, false, false, false, false, false, false, false, false, false, false, false] rfl (by kernel_rfl) (by kernel_rfl) (by kernel_rfl) (by kernel_rfl) (fun _ _ _ h => h) (.inl ⟨by kernel_rfl, fun x_ hu => by have c0 := ic_cell ((hB.more hu).get 5 (x := ⟨h13, ic p, 76⟩) rfl) 0 (by omega); rw [← unhide hp0] at c0; go_simp⟩) hG ?_
      simp only [Act.put, List.setIfInBounds_toArray, List.set_cons_zero, List.set_cons_succ, List.getElem_toArray, List.getElem_cons_zero, List.getElem_cons_succ]
      refine any_take (i := 2) (v := (.pointer (some ⟨h10, p0, none⟩))) #[true, true, false, false, false, false, false, false, false, false, false, false, false, false, false, false, false, false, false, false] rfl (by kernel_rfl) (by kernel_rfl) (by kernel_rfl) (by kernel_rfl) (fun _ _ _ h => h) (.inl ⟨by kernel_rfl, fun x_ hu => by go_simp⟩) hG ?_
      simp only [Act.put, List.setIfInBounds_toArray, List.set_cons_zero, List.set_cons_succ, List.getElem_toArray, List.getElem_cons_zero, List.getElem_cons_succ]
      refine any_take (i := 3) (v := (.int .u32 y0)) #[true, true, true, false, false, false, false, false, false, false, false, false, false, false, false, false, false, false, false, false] rfl (by kernel_rfl) (by kernel_rfl) (by kernel_rfl) (by kernel_rfl) (fun _ _ _ h => h) (.inl ⟨by kernel_rfl, fun x_ hu => by have c0 := uc_cell ((hB.more hu).get 4 (x := ⟨h10, uc Y, 60⟩) rfl) p0 (by omega); rw [← unhide hy0] at c0; go_simp⟩) hG ?_
      simp only [Act.put, List.setIfInBounds_toArray, List.set_cons_zero, List.set_cons_succ, List.getElem_toArray, List.getElem_cons_zero, List.getElem_cons_succ]
      refine any_take (i := 4) (v := (.pointer (some ⟨h13, 1, none⟩))) #[true, true, true, true, false, false, false, false, false, false, false, false, false, false, false, false, false, false, false, false] rfl (by kernel_rfl) (by kernel_rfl) (by kernel_rfl) (by kernel_rfl) (fun _ _ _ h => h) (.inl ⟨by kernel_rfl, fun x_ hu => by kernel_rfl⟩) hG ?_
      simp only [Act.put, List.setIfInBounds_toArray, List.set_cons_zero, List.set_cons_succ, List.getElem_toArray, List.getElem_cons_zero, List.getElem_cons_succ]
      refine any_take (i := 5) (v := (.int .i64 p1)) #[true, true, true, true, true, false, false, false, false, false, false, false, false, false, false, false, false, false, false, false] rfl (by kernel_rfl) (by kernel_rfl) (by kernel_rfl) (by kernel_rfl) (fun _ _ _ h => h) (.inl ⟨by kernel_rfl, fun x_ hu => by have c0 := ic_cell ((hB.more hu).get 5 (x := ⟨h13, ic p, 76⟩) rfl) 1 (by omega); rw [← unhide hp1] at c0; go_simp⟩) hG ?_
      simp only [Act.put, List.setIfInBounds_toArray, List.set_cons_zero, List.set_cons_succ, List.getElem_toArray, List.getElem_cons_zero, List.getElem_cons_succ]
      refine any_take (i := 6) (v := (.pointer (some ⟨h10, p1, none⟩))) #[true, true, true, true, true, true, false, false, false, false, false, false, false, false, false, false, false, false, false, false] rfl (by kernel_rfl) (by kernel_rfl) (by kernel_rfl) (by kernel_rfl) (fun _ _ _ h => h) (.inl ⟨by kernel_rfl, fun x_ hu => by go_simp⟩) hG ?_
      simp only [Act.put, List.setIfInBounds_toArray, List.set_cons_zero, List.set_cons_succ, List.getElem_toArray, List.getElem_cons_zero, List.getElem_cons_succ]
      refine any_take (i := 7) (v := (.int .u32 y1)) #[true, true, true, true, true, true, true, false, false, false, false, false, false, false, false, false, false, false, false, false] rfl (by kernel_rfl) (by kernel_rfl) (by kernel_rfl) (by kernel_rfl) (fun _ _ _ h => h) (.inl ⟨by kernel_rfl, fun x_ hu => by have c0 := uc_cell ((hB.more hu).get 4 (x := ⟨h10, uc Y, 60⟩) rfl) p1 (by omega); rw [← unhide hy1] at c0; go_simp⟩) hG ?_
      simp only [Act.put, List.setIfInBounds_toArray, List.set_cons_zero, List.set_cons_succ, List.getElem_toArray, List.getElem_cons_zero, List.getElem_cons_succ]
      refine any_take (i := 8) (v := (.pointer (some ⟨h13, 2, none⟩))) #[true, true, true, true, true, true, true, true, false, false, false, false, false, false, false, false, false, false, false, false] rfl (by kernel_rfl) (by kernel_rfl) (by kernel_rfl) (by kernel_rfl) (fun _ _ _ h => h) (.inl ⟨by kernel_rfl, fun x_ hu => by kernel_rfl⟩) hG ?_
      simp only [Act.put, List.setIfInBounds_toArray, List.set_cons_zero, List.set_cons_succ, List.getElem_toArray, List.getElem_cons_zero, List.getElem_cons_succ]
      refine any_take (i := 9) (v := (.int .i64 p2)) #[true, true, true, true, true, true, true, true, true, false, false, false, false, false, false, false, false, false, false, false] rfl (by kernel_rfl) (by kernel_rfl) (by kernel_rfl) (by kernel_rfl) (fun _ _ _ h => h) (.inl ⟨by kernel_rfl, fun x_ hu => by have c0 := ic_cell ((hB.more hu).get 5 (x := ⟨h13, ic p, 76⟩) rfl) 2 (by omega); rw [← unhide hp2] at c0; go_simp⟩) hG ?_
      simp only [Act.put, List.setIfInBounds_toArray, List.set_cons_zero, List.set_cons_succ, List.getElem_toArray, List.getElem_cons_zero, List.getElem_cons_succ]
      refine any_take (i := 10) (v := (.pointer (some ⟨h10, p2, none⟩))) #[true, true, true, true, true, true, true, true, true, true, false, false, false, false, false, false, false, false, false, false] rfl (by kernel_rfl) (by kernel_rfl) (by kernel_rfl) (by kernel_rfl) (fun _ _ _ h => h) (.inl ⟨by kernel_rfl, fun x_ hu => by go_simp⟩) hG ?_
      simp only [Act.put, List.setIfInBounds_toArray, List.set_cons_zero, List.set_cons_succ, List.getElem_toArray, List.getElem_cons_zero, List.getElem_cons_succ]
      refine any_take (i := 11) (v := (.int .u32 y2)) #[true, true, true, true, true, true, true, true, true, true, true, false, false, false, false, false, false, false, false, false] rfl (by kernel_rfl) (by kernel_rfl) (by kernel_rfl) (by kernel_rfl) (fun _ _ _ h => h) (.inl ⟨by kernel_rfl, fun x_ hu => by have c0 := uc_cell ((hB.more hu).get 4 (x := ⟨h10, uc Y, 60⟩) rfl) p2 (by omega); rw [← unhide hy2] at c0; go_simp⟩) hG ?_
      simp only [Act.put, List.setIfInBounds_toArray, List.set_cons_zero, List.set_cons_succ, List.getElem_toArray, List.getElem_cons_zero, List.getElem_cons_succ]
      refine any_take (i := 12) (v := (.pointer (some ⟨h13, 3, none⟩))) #[true, true, true, true, true, true, true, true, true, true, true, true, false, false, false, false, false, false, false, false] rfl (by kernel_rfl) (by kernel_rfl) (by kernel_rfl) (by kernel_rfl) (fun _ _ _ h => h) (.inl ⟨by kernel_rfl, fun x_ hu => by kernel_rfl⟩) hG ?_
      simp only [Act.put, List.setIfInBounds_toArray, List.set_cons_zero, List.set_cons_succ, List.getElem_toArray, List.getElem_cons_zero, List.getElem_cons_succ]
      refine any_take (i := 13) (v := (.int .i64 p3)) #[true, true, true, true, true, true, true, true, true, true, true, true, true, false, false, false, false, false, false, false] rfl (by kernel_rfl) (by kernel_rfl) (by kernel_rfl) (by kernel_rfl) (fun _ _ _ h => h) (.inl ⟨by kernel_rfl, fun x_ hu => by have c0 := ic_cell ((hB.more hu).get 5 (x := ⟨h13, ic p, 76⟩) rfl) 3 (by omega); rw [← unhide hp3] at c0; go_simp⟩) hG ?_
      simp only [Act.put, List.setIfInBounds_toArray, List.set_cons_zero, List.set_cons_succ, List.getElem_toArray, List.getElem_cons_zero, List.getElem_cons_succ]
      refine any_take (i := 14) (v := (.pointer (some ⟨h10, p3, none⟩))) #[true, true, true, true, true, true, true, true, true, true, true, true, true, true, false, false, false, false, false, false] rfl (by kernel_rfl) (by kernel_rfl) (by kernel_rfl) (by kernel_rfl) (fun _ _ _ h => h) (.inl ⟨by kernel_rfl, fun x_ hu => by go_simp⟩) hG ?_
      simp only [Act.put, List.setIfInBounds_toArray, List.set_cons_zero, List.set_cons_succ, List.getElem_toArray, List.getElem_cons_zero, List.getElem_cons_succ]
      refine any_take (i := 15) (v := (.int .u32 y3)) #[true, true, true, true, true, true, true, true, true, true, true, true, true, true, true, false, false, false, false, false] rfl (by kernel_rfl) (by kernel_rfl) (by kernel_rfl) (by kernel_rfl) (fun _ _ _ h => h) (.inl ⟨by kernel_rfl, fun x_ hu => by have c0 := uc_cell ((hB.more hu).get 4 (x := ⟨h10, uc Y, 60⟩) rfl) p3 (by omega); rw [← unhide hy3] at c0; go_simp⟩) hG ?_
      simp only [Act.put, List.setIfInBounds_toArray, List.set_cons_zero, List.set_cons_succ, List.getElem_toArray, List.getElem_cons_zero, List.getElem_cons_succ]
      refine any_take (i := 16) (v := (.agg (uc [y0, y1, y2, y3]))) #[true, true, true, true, true, true, true, true, true, true, true, true, true, true, true, true, false, false, false, false] rfl (by kernel_rfl) (by kernel_rfl) (by kernel_rfl) (by kernel_rfl) (fun _ _ _ h => h) (.inl ⟨by kernel_rfl, fun x_ hu => by kernel_rfl⟩) hG ?_
      simp only [Act.put, List.setIfInBounds_toArray, List.set_cons_zero, List.set_cons_succ, List.getElem_toArray, List.getElem_cons_zero, List.getElem_cons_succ]
      refine float_first (fun q u => NQ v0 q u) 14 (fun b_ => #[true, true, true, true, true, true, true, true, true, true, true, true, true, true, true, true, true, false, b_, false]) 18 17 false rfl rfl (fun _ g_ => hG.trans g_) (by kernel_rfl) (fun b_ => by cases b_ <;> rfl) ?_ ?_
      all_goals simp only [fw1, Act.put, List.setIfInBounds_toArray, List.set_cons_zero, List.set_cons_succ, List.getElem_toArray, List.getElem_cons_zero, List.getElem_cons_succ]
      · intro q_ x_ hgx K_ hK
        refine wpOp_step (o := _) rfl (fun K' hK' => ?_)
        replace hK' := hide hK'
        replace hK := hide hK
        refine step_val (.pointer (some ⟨x_.heap.size, 0, none⟩)) (x_.alloc (.cells #[.int .u32 0, .int .u32 0, .int .u32 0, .int .u32 0] 79 (0, 0))) (by kernel_rfl) (by kernel_rfl) ?_
        exact unhide hK' _ _ (unhide hK _ _ ((Gr.refl _).alloc _) (⟨_, rfl, Nat.le_trans hG.size hgx.size, blk_new _ _⟩))
      intro b1_17 q1_17 x1_17 hg hTq hall
      replace hG := hG.trans hg
      clear hall
      refine wpOp_step (o := _) rfl (fun K_ hK => ?_)
      replace hK := hide hK
      refine step_callw (by kernel_rfl) 48 #[.agg (uc [y0, y1, y2, y3])] (by kernel_rfl) ((rquarter_ok y0 y1 y2 y3 _).mono ?_)
      rintro r v17 ⟨rfl, hg⟩
      refine ⟨_, rfl, ?_⟩
      replace hTq := fun e => NQ.gr (hTq e) hg
      replace hG := hG.trans hg
      clear hg
      generalize hq : quar y0 y1 y2 y3 = q
      replace hq := hide hq
      refine unhide hK _ _ ⟨hG, ?_⟩
      clear hK K_
      simp only [Act.put, List.setIfInBounds_toArray, List.set_cons_zero, List.set_cons_succ, List.getElem_toArray, List.getElem_cons_zero, List.getElem_cons_succ]
      refine float_again (fun q u => NQ v0 q u) 14 (fun b_ => #[true, true, true, true, true, true, true, true, true, true, true, true, true, true, true, true, true, true, b_, false]) 18 19 true (b := b1_17) (q := q1_17) rfl rfl hTq (fun _ g_ => hG.trans g_) (by kernel_rfl) (fun b_ => by cases b_ <;> rfl) ?_ ?_
      all_goals simp only [fw1, Act.put, List.setIfInBounds_toArray, List.set_cons_zero, List.set_cons_succ, List.getElem_toArray, List.getElem_cons_zero, List.getElem_cons_succ]
      · intro q_ x_ hgx K_ hK
        refine wpOp_step (o := _) rfl (fun K' hK' => ?_)
        replace hK' := hide hK'
        replace hK := hide hK
        refine step_val (.pointer (some ⟨x_.heap.size, 0, none⟩)) (x_.alloc (.cells #[.int .u32 0, .int .u32 0, .int .u32 0, .int .u32 0] 79 (0, 0))) (by kernel_rfl) (by kernel_rfl) ?_
        exact unhide hK' _ _ (unhide hK _ _ ((Gr.refl _).alloc _) (⟨_, rfl, Nat.le_trans hG.size hgx.size, blk_new _ _⟩))
      clear hTq
      intro b1_19 q1_19 x1_19 hg hTq hall
      replace hG := hG.trans hg
      obtain rfl : b1_19 = true := hall (by trivial)
      replace hTq := hTq rfl
      clear hall
      obtain ⟨h14, rfl, hge14, hnew⟩ := hTq
      refine wpOp_step (o := _) rfl (fun K_ hK => ?_)
      replace hK := hide hK
      rw [if_pos (by kernel_rfl)]
      refine wp_store_row 79 (.tmp 14) (.tmp 71) rfl h14 (uc (ql q)) (by kernel_rfl) (by kernel_rfl) 79 (uc [0, 0, 0, 0]) hnew (by rw [Try.info4]; rfl) rfl (uc_one _) ?_
      have hB7 := (hB.join hG [⟨h14, uc [0, 0, 0, 0], 79⟩] (by intro x hx; rw [List.mem_singleton] at hx; subst hx; exact ⟨hnew, hge14⟩) (List.pairwise_singleton _ _)).set 6 (x := ⟨h14, uc [0, 0, 0, 0], 79⟩) rfl (uc (ql q))
      simp only [List.cons_append, List.nil_append, List.set_cons_zero, List.set_cons_succ] at hB7
      have hG2 := hG.row h14 hge14 (uc (ql q))
      generalize World.setRow _ _ _ = v9 at *
      refine unhide hK _ _ ⟨hG2, ?_⟩
      clear hK K_
      simp only [Act.put, List.setIfInBounds_toArray, List.set_cons_zero, List.set_cons_succ, List.getElem_toArray, List.getElem_cons_zero, List.getElem_cons_succ]
      clear hB hG hG2 hnew hge14
      replace hB := hB7
      clear hB7
      refine any_done (by kernel_rfl) ?_
      have hq2 : Hid (qset Y p (ql q) 4 = qpl Y p) := by
        rw [← unhide hq, unhide hy0, unhide hy1, unhide hy2, unhide hy3, unhide hp0, unhide hp1, unhide hp2, unhide hp3]
        exact qset_all Y p
      have hqn : Hid ((ql q).length = 4) := rfl
      clear hp0 hp1 hp2 hp3 hy0 hy1 hy2 hy3 pa0 pa1 pa2 pa3 pb0 pb1 pb2 pb3
      generalize ql q = qq at *
      clear hq
      replace hB := hide hB
      go_wp2_with fail
      go_loopw [72] (fun i wr => ∃ i' : Nat, ∃ Z : List Int, i' ≤ 4 ∧ i = .int .i64 i' ∧ Hid (Z = qset Y p qq i') ∧ Hid (Bl w [⟨w.heap.size, kc K, 23⟩, ⟨w.heap.size + 1, kc N, 25⟩, ⟨w.heap.size + 1 + 1, kc Z64, 56⟩, ⟨h7, uc V, 60⟩, ⟨h10, uc Z, 60⟩, ⟨h13, ic p, 76⟩, ⟨h14, uc qq, 79⟩] wr)) (fun i _ => 4 - (intOf i).toNat)
      case atStart => exact ⟨0, Y, by omega, rfl, rfl, hB⟩
      case round =>
      clear hB
      obtain ⟨i, Z, hi, rfl, hZ, hB⟩ := hrel
      have hZl : Z.length = 16 := by rw [unhide hZ, qset_len]; exact hYl
      by_cases hil : i < 4
      · obtain ⟨a, ha⟩ : ∃ x, x = p.getD i 0 := ⟨_, rfl⟩
        have a1 : a < 16 := by rw [ha]; exact (unhide hplt) i
        have a2 : (a : Int) < 16 := by omega
        have iI : (i : Int) < 4 := by omega
        have c0 := ic_cell ((unhide hB).get 5 (x := ⟨h13, ic p, 76⟩) rfl) i (by omega)
        have c1 := uc_cell ((unhide hB).get 6 (x := ⟨h14, uc qq, 79⟩) rfl) i (by rw [unhide hqn]; exact hil)
        have c2 := uc_cell ((unhide hB).get 4 (x := ⟨h10, uc Z, 60⟩) rfl) a (by omega)
        have fz := froz_of (i := a) ((unhide hB).get 4 (x := ⟨h10, uc Z, 60⟩) rfl)
        have hZ2 : Hid (Z.set a (qq.getD i 0) = qset Y p qq (i + 1)) := by
          rw [qset, ← unhide hZ, ← ha]
          exact rfl
        have hB2 := (unhide hB).drew.cell 4 (x := ⟨h10, uc Z, 60⟩) rfl a (.int .u32 (qq.getD i 0))
        simp only [List.set_cons_zero, List.set_cons_succ, uc_set] at hB2
        rw [← ha] at c0
        generalize qq.getD i 0 = b at *
        generalize Z.getD a 0 = z at *
        replace ha := hide ha
        replace hB2 := hide hB2
        go_wp2_with fail
        go_still_tail 7, (by kernel_rfl)
        go_wp2_with fail
        go_roundw
        case rel => exact ⟨i + 1, _, by omega, by go_num, hZ2, hB2⟩
        case measure => simp [intOf]; omega
      have ei : i = 4 := by omega
      subst ei
      have hZ3 : Hid (Z = dq X (t + 1)) := by rw [unhide hZ, unhide hq2]; exact unhide hY2
      have hB2 : Hid (Bl w [⟨w.heap.size, kc K, 23⟩, ⟨w.heap.size + 1, kc N, 25⟩, ⟨w.heap.size + 1 + 1, kc Z64, 56⟩, ⟨h7, uc V, 60⟩, ⟨h10, uc Z, 60⟩] wr) := Bl.left (L := [⟨w.heap.size, kc K, 23⟩, ⟨w.heap.size + 1, kc N, 25⟩, ⟨w.heap.size + 1 + 1, kc Z64, 56⟩, ⟨h7, uc V, 60⟩, ⟨h10, uc Z, 60⟩]) (M := [⟨h13, ic p, 76⟩, ⟨h14, uc qq, 79⟩]) (unhide hB)
      clear hB hZ hq2 hY2 hqn
      go_wp2_with fail
      go_roundw
      case rel => exact ⟨t + 1, Z, by omega, by go_num, hZ3, hB2⟩
      case measure => simp [intOf]; omega
    have et : t = 8 := by omega
    subst et
    have hX3 : Hid (Y = rn V (r + 1)) := by rw [unhide hY, dq_all, rn, ← unhide hX]; exact rfl
    clear hY
    go_wp2_with fail
    go_roundw
    case rel => exact ⟨r + 1, Y, by omega, by go_num, hX3, hB⟩
    case measure => simp [intOf]; omega
  have er : r = 10 := by omega
  subst er
  clear hr hrl
  obtain ⟨SM, hSM⟩ : ∃ S, S = sm X V := ⟨_, rfl⟩
  have hSg : Hid (∀ i, i < 16 → SM.getD i 0 = (X.getD i 0 + V.getD i 0) % 4294967296) := fun i hi => by
    rw [hSM]
    unfold sm
    rw [List.getD_eq_getElem?_getD, List.getElem?_map, List.getElem?_range hi]
    exact ad_eq _ _
  have hfin : Hid (bts SM = bk K N c) := by
    rw [hSM, unhide hX, unhide hVV]
    exact rfl
  replace hSM := hide hSM
  go_upto_region 25 with fail
  refine wp_region_lit ?_
  (refine wpList_step fun K hK => ?_; replace hK := hide hK; go_simp; refine unhide hK _ _ ?_; clear hK K)
  replace hB := (unhide hB).new #[.int .u8 0, .int .u8 0, .int .u8 0, .int .u8 0, .int .u8 0, .int .u8 0, .int .u8 0, .int .u8 0, .int .u8 0, .int .u8 0, .int .u8 0, .int .u8 0, .int .u8 0, .int .u8 0, .int .u8 0, .int .u8 0, .int .u8 0, .int .u8 0, .int .u8 0, .int .u8 0, .int .u8 0, .int .u8 0, .int .u8 0, .int .u8 0, .int .u8 0, .int .u8 0, .int .u8 0, .int .u8 0, .int .u8 0, .int .u8 0, .int .u8 0, .int .u8 0, .int .u8 0, .int .u8 0, .int .u8 0, .int .u8 0, .int .u8 0, .int .u8 0, .int .u8 0, .int .u8 0, .int .u8 0, .int .u8 0, .int .u8 0, .int .u8 0, .int .u8 0, .int .u8 0, .int .u8 0, .int .u8 0, .int .u8 0, .int .u8 0, .int .u8 0, .int .u8 0, .int .u8 0, .int .u8 0, .int .u8 0, .int .u8 0, .int .u8 0, .int .u8 0, .int .u8 0, .int .u8 0, .int .u8 0, .int .u8 0, .int .u8 0, .int .u8 0] 56
  simp only [List.nil_append, List.cons_append] at hB
  generalize World.alloc _ _ = u9 at *
  generalize wr.heap.size = h16 at *
  replace hB : Hid (Bl w [⟨w.heap.size, kc K, 23⟩, ⟨w.heap.size + 1, kc N, 25⟩, ⟨w.heap.size + 1 + 1, kc Z64, 56⟩, ⟨h7, uc V, 60⟩, ⟨h10, uc X, 60⟩, ⟨h16, kc Z64, 56⟩] u9) := hB
  refine wpList_nil ?_
  go_wp2_with fail
  go_loopw [84] (fun i wr => ∃ i' : Nat, ∃ m : List Int, i' ≤ 16 ∧ i = .int .i64 i' ∧ Hid (m = fil (btf SM) (4 * i') Z64) ∧ Hid (Bl w [⟨w.heap.size, kc K, 23⟩, ⟨w.heap.size + 1, kc N, 25⟩, ⟨w.heap.size + 1 + 1, kc Z64, 56⟩, ⟨h7, uc V, 60⟩, ⟨h10, uc X, 60⟩, ⟨h16, kc m, 56⟩] wr)) (fun i _ => 16 - (intOf i).toNat)
  case atStart => exact ⟨0, Z64, by omega, rfl, (fil_zero _ _).symm, hB⟩
  case round =>
  clear hB
  obtain ⟨i, m, hi, rfl, hm, hB⟩ := hrel
  have hzl : Z64.length = 64 := rfl
  have hml : m.length = 64 := by rw [unhide hm, fil_len _ _ _ (by omega)]; rfl
  by_cases hil : i < 16
  · have c0 := uc_cell ((unhide hB).get 4 (x := ⟨h10, uc X, 60⟩) rfl) i (by omega)
    have c1 := uc_cell ((unhide hB).get 3 (x := ⟨h7, uc V, 60⟩) rfl) i (by omega)
    have hs0 := (unhide hSg) i hil
    generalize X.getD i 0 = x at *
    generalize V.getD i 0 = y at *
    have iI : (i : Int) < 16 := by omega
    replace hs0 := hide hs0
    go_wp2_with fail
    go_quiet (fail)
    replace hB : Hid (Bl w [⟨w.heap.size, kc K, 23⟩, ⟨w.heap.size + 1, kc N, 25⟩, ⟨w.heap.size + 1 + 1, kc Z64, 56⟩, ⟨h7, uc V, 60⟩, ⟨h10, uc X, 60⟩, ⟨h16, kc m, 56⟩] (wr.drewN nq)) := (unhide hB).drewN nq
    clear c0 c1
    generalize World.drewN _ _ = u10 at *
    generalize hs : (x + y) % 4294967296 = s at *
    replace hs : Hid (SM.getD i 0 = s) := hs0
    clear hs0
    go_wp2_with fail
    go_loopw [19] (fun j wr => ∃ k : Nat, ∃ m : List Int, k ≤ 4 ∧ j = .int .i64 k ∧ Hid (m = fil (btf SM) (4 * i + k) Z64) ∧ Hid (Bl w [⟨w.heap.size, kc K, 23⟩, ⟨w.heap.size + 1, kc N, 25⟩, ⟨w.heap.size + 1 + 1, kc Z64, 56⟩, ⟨h7, uc V, 60⟩, ⟨h10, uc X, 60⟩, ⟨h16, kc m, 56⟩] wr)) (fun j _ => 4 - (intOf j).toNat)
    case atStart => exact ⟨0, m, by omega, rfl, hm, hB⟩
    case round =>
    clear hB hm hml m
    obtain ⟨k, m, hk, rfl, hm, hB⟩ := hrel
    have hml : m.length = 64 := by rw [unhide hm, fil_len _ _ _ (by omega)]; rfl
    by_cases hkl : k < 4
    · obtain ⟨o, ho⟩ : ∃ x, x = 4 * i := ⟨_, rfl⟩
      obtain ⟨t, ht⟩ : ∃ x, x = 4 * i + k := ⟨_, rfl⟩
      obtain ⟨k8, hk8⟩ : ∃ x, x = 8 * k := ⟨_, rfl⟩
      have hbt : btf SM t = s / 2 ^ k8 % 256 := by
        unfold btf
        rw [show t / 4 = i from by omega, show t % 4 * 8 = k8 from by omega, unhide hs]
      have c1 := kc_cell ((unhide hB).get 5 (x := ⟨h16, kc m, 56⟩) rfl) t (by omega)
      have fz := froz_of (i := t) ((unhide hB).get 5 (x := ⟨h16, kc m, 56⟩) rfl)
      generalize m.getD t 0 = z at c1
      have hm2 : Hid (m.set t (s / 2 ^ k8 % 256) = fil (btf SM) (4 * i + (k + 1)) Z64) := by
        rw [unhide hm, ← hbt, ht]
        exact fil_set _ _ _ (by omega)
      have hB2 := (unhide hB).cell 5 (x := ⟨h16, kc m, 56⟩) rfl t (.int .u8 (s / 2 ^ k8 % 256))
      simp only [List.set_cons_zero, List.set_cons_succ, kc_set] at hB2
      clear hbt
      replace hB2 := hide hB2
      have f1 : 4 * (i : Int) = (o : Int) := by omega
      have f2 : (o : Int) + (k : Int) = (t : Int) := by omega
      have f3 : 8 * (k : Int) = (k8 : Int) := by omega
      have f4 : IntKind.i64.wrap (o : Int) = (o : Int) := by rw [IntKind.wrap_i64]; omega
      have f5 : IntKind.i64.wrap (t : Int) = (t : Int) := by rw [IntKind.wrap_i64]; omega
      have f6 : IntKind.i64.wrap (k8 : Int) = (k8 : Int) := by rw [IntKind.wrap_i64]; omega
      have f7 : (t : Int) < 64 := by omega
      have f8 : t < 64 := by omega
      have f9 : 0 ≤ (k8 : Int) := by omega
      have f10 : min k8 32 = k8 := by omega
      have f11 : k8 ≤ 32 := by omega
      have kI : (k : Int) < 4 := by omega
      replace ho := hide ho
      replace ht := hide ht
      replace hk8 := hide hk8
      go_wp2_with fail
      go_roundw
      case rel => exact ⟨k + 1, _, by omega, by go_num, hm2, hB2⟩
      case measure => simp [intOf]; omega
    have ek : k = 4 := by omega
    subst ek
    have hm2 : Hid (m = fil (btf SM) (4 * (i + 1)) Z64) := by rw [unhide hm]; exact rfl
    clear hm
    go_wp2_with fail
    go_roundw
    case rel => exact ⟨i + 1, _, by omega, by go_num, hm2, hB⟩
    case measure => simp [intOf]; omega
  have ei : i = 16 := by omega
  subst ei
  have hM : m = bk K N c := by
    rw [← unhide hfin, unhide hm]
    have h := fil_all (btf SM) Z64
    rw [hzl] at h
    exact h
  clear hm
  go_upto_region 35 with fail
  replace hB := unhide hB
  refine wp_region_lit ?_
  refine list_val (.agg (kc m)) (by kernel_rfl) (exec_arr _ 56 (.tmp 16) rfl (h16) (by kernel_rfl) (kc m) 56 _ (hB.get 5 (x := ⟨h16, kc m, 56⟩) rfl) Try.underlying56 rfl (by rw [Try.info64, kc_size, hml])) ?_
  simp only [Act.put, List.setIfInBounds_toArray, List.set_cons_zero, List.set_cons_succ, List.getElem_toArray, List.getElem_cons_zero, List.getElem_cons_succ]
  refine list_store 56 (.tmp 6) (.tmp 109) (w.heap.size + 1 + 1) (kc m) 56 (kc Z64) (by kernel_rfl) rfl (by kernel_rfl) (by kernel_rfl) (hB.get 2 (x := ⟨w.heap.size + 1 + 1, kc Z64, 56⟩) rfl) (by rw [Try.info64, kc_size, hml]) ((show (kc Z64).size = 64 from rfl).trans ((kc_size _).trans hml).symm) (kc_one _) ?_
  replace hB := hB.set 2 (x := ⟨w.heap.size + 1 + 1, kc Z64, 56⟩) rfl (kc m)
  simp only [List.set_cons_zero, List.set_cons_succ] at hB
  generalize World.setRow _ _ _ = u12 at *
  simp only [Act.put, List.setIfInBounds_toArray, List.set_cons_zero, List.set_cons_succ, List.getElem_toArray, List.getElem_cons_zero, List.getElem_cons_succ]
  refine wpList_nil ?_
  go_wp2_with fail
  rw [unhide hT, ← hM]
  exact bodyPost_ret (v := .agg (kc m)) (results_cell_row Try.results31 _ _ (w.heap.size + 1 + 1) 56 (kc m) (0, 0) _ rfl (hB.get 2 (x := ⟨w.heap.size + 1 + 1, kc m, 56⟩) rfl) Try.underlying56 rfl (by rw [Try.info64, kc_size, hml])) rfl (⟨rfl, hB.gr⟩)
end Go.Proofs.Ytdekjbdkpchbjaa
