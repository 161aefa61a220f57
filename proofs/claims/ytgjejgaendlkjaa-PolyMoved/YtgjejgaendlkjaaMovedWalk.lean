/-
  The code of a block with the multiplier 1, by hand: the walk.
-/
import Derived.Test.YtgjejgaendlkjaaPolyCp
import Derived.Test.YtgjejgaendlkjaaAddendWalk
import Derived.Deep.QuietTactic
import Derived.BigQuiet
namespace Go.Proofs.Ytgjejgaendlkjaa
open Go.RowKit
set_option maxRecDepth 100000
set_option linter.unusedSimpArgs false
set_option linter.unusedVariables false
/-- the key of the multiplier 1 -/
def k1 (S : List Int) : List Int := 1 :: (List.replicate 15 0 ++ S)
theorem k1_cl (S : List Int) : clL (k1 S) = 1 :: List.replicate 15 0 := by kernel_rfl
theorem k1_isB (S : List Int) (h : IsB S) : IsB (k1 S) := fun x hx => by
  unfold k1 at hx
  rcases List.mem_cons.1 hx with h1 | h1
  · omega
  · rcases List.mem_append.1 h1 with h2 | h2
    · have := List.eq_of_mem_replicate h2
      omega
    · exact h x h2
theorem k1_tail (S : List Int) : (k1 S).drop 16 = S := rfl
/-- the sum of two rows, as far as i places; what is carried -/
def sN (B S : List Int) (i : Nat) : Nat := V ((nb B).take i) + V ((nb S).take i)
def cy (B S : List Int) (i : Nat) : Nat := sN B S i / 256 ^ i
theorem sN_succ (B S : List Int) (i : Nat) : sN B S (i + 1) = sN B S i + 256 ^ i * ((nb B).getD i 0 + (nb S).getD i 0) := by
  unfold sN
  rw [V_take_succ, V_take_succ, Nat.mul_add]
  omega
theorem cy_succ (B S : List Int) (i : Nat) : cy B S (i + 1) = (cy B S i + ((nb B).getD i 0 + (nb S).getD i 0)) / 256 := by
  unfold cy
  rw [sN_succ, Nat.pow_succ, ← Nat.div_div_eq_div_mul, Nat.add_mul_div_left _ _ (Nat.pow_pos (by omega))]
theorem cy_digit (B S : List Int) (i : Nat) : (V (nb B) + V (nb S)) / 256 ^ i % 256 = (cy B S i + ((nb B).getD i 0 + (nb S).getD i 0)) % 256 := by
  have h1 := V_split (nb B) i
  have h2 := V_split (nb S) i
  have h3 : ∀ l : List Nat, V (l.drop i) % 256 = l.getD i 0 % 256 := fun l => by
    rcases Nat.lt_or_ge i l.length with h | h
    · rw [List.drop_eq_getElem_cons h, V]
      simp [h]
    · rw [List.drop_of_length_le h, List.getD_eq_getElem?_getD, List.getElem?_eq_none h]
      rfl
  have h4 := h3 (nb B)
  have h5 := h3 (nb S)
  have e : (V (nb B) + V (nb S)) / 256 ^ i = cy B S i + (V ((nb B).drop i) + V ((nb S).drop i)) := by
    unfold cy sN
    rw [← Nat.add_mul_div_left _ _ (Nat.pow_pos (by omega)), Nat.mul_add]
    congr 1
    omega
  rw [e]
  omega
theorem cy_le (B S : List Int) (hB : IsB B) (hS : IsB S) : ∀ i, cy B S i ≤ 1
  | 0 => by unfold cy sN; simp [V]
  | i + 1 => by
    rw [cy_succ]
    have := cy_le B S hB hS i
    have := (nb_allB B hB).at_ i
    have := (nb_allB S hS).at_ i
    omega
/-- the code, by hand -/
def wt (B S : List Int) : List Int := tgL (V (nb B) + V (nb S))
theorem acN_succ (r : Nat) (B : List Int) (k : Nat) : acN r B (k + 1) = (acN r B k + bN B k) * r % P5 := by rw [acN]
theorem blk_lt (x : Nat) (h : x < 256 ^ 16) : x + 256 ^ 16 < P5 := by
  have e : (256 : Nat) ^ 16 = 340282366920938463463374607431768211456 := by decide
  rw [e] at h ⊢
  rw [P5_eq]
  omega
theorem tgf_top (X i : Nat) (hi : i < 16) : (X + 256 ^ 16) / 256 ^ i % 256 = X / 256 ^ i % 256 := by
  have e : 256 ^ 16 = 256 ^ i * (256 * 256 ^ (15 - i)) := by
    rw [← Nat.mul_assoc, Nat.mul_comm (256 ^ i) 256, Nat.mul_assoc, ← Nat.pow_add, show i + (15 - i) = 15 from by omega]
  rw [e, Nat.add_mul_div_left _ _ (Nat.pow_pos (by omega)), Nat.add_mul_mod_self_left]
theorem mv_mc (B S : List Int) (hl : B.length = 16) (hB : IsB B) (hS : IsB S) : mcL (k1 S) B = wt B S := by
  have h1 : V (nb (clL (k1 S))) = 1 := by rw [k1_cl]; rfl
  have h2 : bN B 0 = V (nb B) + 256 ^ 16 := by
    unfold bN
    rw [Nat.mul_zero, List.drop_zero, List.take_of_length_le (by omega), V_snoc, nb_len, hl, Nat.mul_one]
  have h3 : V (nb B) < 256 ^ 16 := by
    have := V_lt (nb B) (nb_allB B hB)
    rw [nb_len, hl] at this
    exact this
  have h4 : acN 1 B 1 = V (nb B) + 256 ^ 16 := by
    have h5 := acN_succ 1 B 0
    rw [h2, Nat.mul_one, show acN 1 B 0 = 0 from rfl, Nat.zero_add, Nat.zero_add] at h5
    rw [Nat.mod_eq_of_lt (blk_lt _ h3)] at h5
    exact h5
  unfold mcL mcN wt
  rw [hl, show nk 16 = 1 from rfl, h1, h4, k1_tail]
  refine list_ext (by rw [tgL_len, tgL_len]) fun i hi => ?_
  rw [tgL_len] at hi
  unfold tgL
  rw [List.getD_eq_getElem?_getD, List.getD_eq_getElem?_getD, List.getElem?_map, List.getElem?_map, List.getElem?_range hi]
  show tgf _ i = tgf _ i
  unfold tgf
  rw [Nat.add_right_comm, tgf_top _ i hi]
set_option maxHeartbeats 4000000 in
theorem moved_ok (B S : List Int) (hBl : B.length = 16) (hSl : S.length = 16) (hBb : IsB B) (hSb : IsB S) (w : World) : Calls Try.prog 8 #[.agg (kc B), .agg (kc S)] w (Woke w) := by
  obtain ⟨T, hT⟩ : ∃ T, T = Woke w := ⟨_, rfl⟩
  rw [← hT]
  replace hT := hide hT
  replace hBb := hide hBb
  replace hSb := hide hSb
  obtain ⟨SB, hSB⟩ : ∃ x, x = kc B := ⟨_, rfl⟩
  obtain ⟨SS, hSS⟩ : ∃ x, x = kc S := ⟨_, rfl⟩
  rw [← hSB, ← hSS]
  replace hSB := hide hSB
  replace hSS := hide hSS
  go_enter Try.func8, Try.ntmps8
  go_upto_region 1 with fail
  have hB := ((Bl.nil w).new SB 27).new SS 27
  simp only [size_alloc, List.nil_append, List.cons_append] at hB
  generalize World.alloc _ _ = u at *
  rw [unhide hSB, unhide hSS] at hB
  replace hB : Bl w [⟨w.heap.size, kc B, 27⟩, ⟨w.heap.size + 1, kc S, 27⟩] u := hB
  refine wp_region_lit ?_
  refine list_call 9 #[] (by kernel_rfl) (by kernel_rfl) ((wakes_ok _).mono ?_)
  rintro r v ⟨rfl, hg⟩
  refine ⟨_, rfl, ?_⟩
  replace hB := hB.more hg
  clear hg
  simp only [Act.put, List.setIfInBounds_toArray, List.set_cons_zero, List.set_cons_succ, List.getElem_toArray, List.getElem_cons_zero, List.getElem_cons_succ]
  refine list_val (.bool false) (by kernel_rfl) (by kernel_rfl) ?_
  simp only [Act.put, List.setIfInBounds_toArray, List.set_cons_zero, List.set_cons_succ, List.getElem_toArray, List.getElem_cons_zero, List.getElem_cons_succ]
  refine wpList_nil ?_
  replace hB := hide hB
  go_upto_region 3 with fail
  refine wp_region_lit ?_
  (refine wpList_step fun K hK => ?_; replace hK := hide hK; go_simp; refine unhide hK _ _ ?_; clear hK K)
  replace hB := (unhide hB).new #[.int .u8 0, .int .u8 0, .int .u8 0, .int .u8 0, .int .u8 0, .int .u8 0, .int .u8 0, .int .u8 0, .int .u8 0, .int .u8 0, .int .u8 0, .int .u8 0, .int .u8 0, .int .u8 0, .int .u8 0, .int .u8 0, .int .u8 0, .int .u8 0, .int .u8 0, .int .u8 0, .int .u8 0, .int .u8 0, .int .u8 0, .int .u8 0, .int .u8 0, .int .u8 0, .int .u8 0, .int .u8 0, .int .u8 0, .int .u8 0, .int .u8 0, .int .u8 0] 23
  simp only [List.nil_append, List.cons_append] at hB
  generalize World.alloc _ _ = v2 at *
  generalize v.heap.size = h5 at *
  replace hB : Bl w [⟨w.heap.size, kc B, 27⟩, ⟨w.heap.size + 1, kc S, 27⟩, ⟨h5, kc (List.replicate 32 0), 23⟩] v2 := hB
  refine wpList_nil ?_
  have c0 := kc_cell (hB.get 2 (x := ⟨h5, kc (List.replicate 32 0), 23⟩) rfl) 0 (by decide)
  have f0 := froz_of (i := 0) (hB.get 2 (x := ⟨h5, kc (List.replicate 32 0), 23⟩) rfl)
  generalize List.getD _ _ _ = z0 at c0
  replace hB := hB.cell 2 (x := ⟨h5, kc (List.replicate 32 0), 23⟩) rfl 0 (.int .u8 1)
  simp only [List.set_cons_zero, List.set_cons_succ, kc_set] at hB
  replace hB : Hid (Bl w [⟨w.heap.size, kc B, 27⟩, ⟨w.heap.size + 1, kc S, 27⟩, ⟨h5, kc (1 :: List.replicate 31 0), 23⟩] _) := hB
  go_upto_region 5 with fail
  replace hB := unhide hB
  generalize World.setCell _ _ _ = v3 at *
  clear c0 f0
  refine any_start (S := fun _ => True) (by kernel_rfl) ?_
  replace hB := hB.drew
  generalize World.drew _ = v0 at *
  simp only [List.size_toArray, List.length_cons, List.length_nil, Array.replicate, List.replicate]
  refine any_take (i := 0) (v := (.slice (some ⟨h5, 16, none⟩) 16 16)) #[false, false, false] rfl (by kernel_rfl) (by kernel_rfl) (by kernel_rfl) (by kernel_rfl) (fun _ _ _ h => h) (.inl ⟨by kernel_rfl, fun x_ hu => by kernel_rfl⟩) trivial ?_
  simp only [Act.put, List.setIfInBounds_toArray, List.set_cons_zero, List.set_cons_succ, List.getElem_toArray, List.getElem_cons_zero, List.getElem_cons_succ]
  refine any_take (i := 1) (v := (.slice (some ⟨w.heap.size + 1, 0, none⟩) 16 16)) #[true, false, false] rfl (by kernel_rfl) (by kernel_rfl) (by kernel_rfl) (by kernel_rfl) (fun _ _ _ h => h) (.inl ⟨by kernel_rfl, fun x_ hu => by kernel_rfl⟩) trivial ?_
  simp only [Act.put, List.setIfInBounds_toArray, List.set_cons_zero, List.set_cons_succ, List.getElem_toArray, List.getElem_cons_zero, List.getElem_cons_succ]
  refine any_one (i := 2) (by kernel_rfl) rfl (fun K_ hQ => ?_)
  rw [if_pos (by kernel_rfl)]
  refine copy_wp (.tmp 13) (.tmp 14) rfl h5 16 16 16 (some ⟨w.heap.size + 1, 0, none⟩) 16 16 (by kernel_rfl) (by kernel_rfl) ((1 :: List.replicate 31 0).map (Value.int .u8)) 23 (hB.get 2 (x := ⟨h5, kc (1 :: List.replicate 31 0), 23⟩) rfl) S (by rw [hSl]; rfl) (.inr ⟨w.heap.size + 1, 0, rfl, kc_at (hB.get 1 (x := ⟨w.heap.size + 1, kc S, 27⟩) rfl)⟩) (by rw [hSl]; decide) ?_
  have hcell : (v0.setCells h5 16 (S.map (Value.int .u8))).heap[h5]? = some (.cells (kc (k1 S)) 23 (0, 0)) := by
    rw [setCells_heap _ v0 h5 16 ((1 :: List.replicate 31 0).map (Value.int .u8)) 23 (hB.get 2 (x := ⟨h5, kc (1 :: List.replicate 31 0), 23⟩) rfl)]
    have e := sp_tail S (1 :: List.replicate 15 0) (List.replicate 16 0) (by rw [hSl]; rfl)
    have e2 : ((1 : Int) :: List.replicate 15 0) ++ List.replicate 16 0 = (1 :: List.replicate 31 0) := rfl
    rw [e2] at e
    rw [show ((1 : Int) :: List.replicate 15 0).length = 16 from rfl] at e
    rw [e]
    rfl
  have hB2 := hB.but (setCells_bt (S.map (Value.int .u8)) v0 h5 16) 2 (x := ⟨h5, kc (1 :: List.replicate 31 0), 23⟩) rfl rfl hcell
  simp only [List.set_cons_zero, List.set_cons_succ] at hB2
  generalize World.setCells _ _ _ _ = v1 at *
  clear hcell hB
  refine hQ.out _ _ trivial (fun _ => ?_)
  clear hQ K_
  simp only [Act.put, List.setIfInBounds_toArray, List.set_cons_zero, List.set_cons_succ, List.getElem_toArray, List.getElem_cons_zero, List.getElem_cons_succ]
  refine any_done (by kernel_rfl) ?_
  replace hB := hide hB2
  clear hB2
  go_upto_region 6 with fail
  refine wp_region_lit ?_
  (refine wpList_step fun K hK => ?_; replace hK := hide hK; go_simp; refine unhide hK _ _ ?_; clear hK K)
  replace hB := (unhide hB).new #[.int .u8 0, .int .u8 0, .int .u8 0, .int .u8 0, .int .u8 0, .int .u8 0, .int .u8 0, .int .u8 0, .int .u8 0, .int .u8 0, .int .u8 0, .int .u8 0, .int .u8 0, .int .u8 0, .int .u8 0, .int .u8 0] 27
  simp only [List.nil_append, List.cons_append] at hB
  generalize World.alloc _ _ = v4 at *
  generalize v1.heap.size = h6 at *
  replace hB : Hid (Bl w [⟨w.heap.size, kc B, 27⟩, ⟨w.heap.size + 1, kc S, 27⟩, ⟨h5, kc (k1 S), 23⟩, ⟨h6, kc ZT, 27⟩] v4) := hB
  refine wpList_nil ?_
  have hkl : (k1 S).length = 32 := by unfold k1; simp [hSl]
  have hwl : (wt B S).length = 16 := tgL_len _
  go_wp2_with fail
  go_loopw [16, 7] (fun i e wr => ∃ i' c : Nat, ∃ m : List Int, i' ≤ 16 ∧ i = .int .i64 i' ∧ e = .int .i64 c ∧ Hid (c = cy B S i') ∧ Hid (m = fil (tgf (V (nb B) + V (nb S))) i' ZT) ∧ Hid (Bl w [⟨w.heap.size, kc B, 27⟩, ⟨w.heap.size + 1, kc S, 27⟩, ⟨h5, kc (k1 S), 23⟩, ⟨h6, kc m, 27⟩] wr)) (fun i _ _ => 16 - (intOf i).toNat)
  case atStart => exact ⟨0, 0, ZT, by omega, rfl, rfl, (show 0 = cy B S 0 by unfold cy sN; simp [V]), (fil_zero _ _).symm, hB⟩
  case round =>
  clear hB
  obtain ⟨i, c, m, hi, rfl, rfl, hc, hm, hB⟩ := hrel
  have hzl : ZT.length = 16 := rfl
  have hml : m.length = 16 := by rw [unhide hm, fil_len _ _ _ (by omega)]; rfl
  by_cases hil : i < 16
  · obtain ⟨x, hx⟩ : ∃ x, x = (nb B).getD i 0 := ⟨_, rfl⟩
    obtain ⟨y, hy⟩ : ∃ y, y = (nb S).getD i 0 := ⟨_, rfl⟩
    have hx2 : x < 256 := by rw [hx]; exact (nb_allB B (unhide hBb)).at_ i
    have hy2 : y < 256 := by rw [hy]; exact (nb_allB S (unhide hSb)).at_ i
    have hc1 : c ≤ 1 := by rw [unhide hc]; exact cy_le B S (unhide hBb) (unhide hSb) i
    obtain ⟨xy, hxy⟩ : ∃ z, z = x + y := ⟨_, rfl⟩
    obtain ⟨s, hs⟩ : ∃ s, s = x + y + c := ⟨_, rfl⟩
    obtain ⟨d, hd⟩ : ∃ d, d = s % 256 := ⟨_, rfl⟩
    obtain ⟨c2, hc2⟩ : ∃ c2, c2 = s / 256 := ⟨_, rfl⟩
    have hdt : tgf (V (nb B) + V (nb S)) i = (d : Int) := by
      unfold tgf
      rw [cy_digit, ← unhide hc, ← hx, ← hy, hd, hs, Nat.add_comm c]
    have hcy : Hid (c2 = cy B S (i + 1)) := by
      rw [cy_succ, ← unhide hc, ← hx, ← hy, hc2, hs, Nat.add_comm c]
      exact rfl
    have c0 := kc_cell ((unhide hB).get 0 (x := ⟨w.heap.size, kc B, 27⟩) rfl) i (by omega)
    have c1 := kc_cell ((unhide hB).get 1 (x := ⟨w.heap.size + 1, kc S, 27⟩) rfl) i (by omega)
    rw [← nb_get B (unhide hBb) i, ← hx] at c0
    rw [← nb_get S (unhide hSb) i, ← hy] at c1
    have hm2 : Hid (m.set i (d : Int) = fil (tgf (V (nb B) + V (nb S))) (i + 1) ZT) := by
      rw [← hdt, unhide hm]
      exact fil_set (tgf (V (nb B) + V (nb S))) _ _ (by omega)
    have e1 : (x : Int) + (y : Int) = (xy : Int) := by omega
    have e2 : (xy : Int) + (c : Int) = (s : Int) := by omega
    have e3 : (s : Int) % 256 = (d : Int) := by omega
    have e4 : (s : Int).tdiv 256 = (c2 : Int) := by rw [Int.tdiv_eq_ediv_of_nonneg (by omega)]; omega
    have e5 : IntKind.u8.wrap (s : Int) = (d : Int) := by rw [IntKind.wrap_u8]; exact e3
    have g1' : IntKind.i64.wrap (xy : Int) = (xy : Int) := by rw [IntKind.wrap_i64]; omega
    have g2' : IntKind.i64.wrap (s : Int) = (s : Int) := by rw [IntKind.wrap_i64]; omega
    have g3' : IntKind.i64.wrap (c2 : Int) = (c2 : Int) := by rw [IntKind.wrap_i64]; omega
    have g4' : IntKind.i64.wrap (x : Int) = (x : Int) := by rw [IntKind.wrap_i64]; omega
    have g5' : IntKind.i64.wrap (y : Int) = (y : Int) := by rw [IntKind.wrap_i64]; omega
    have iI : (i : Int) < 16 := by omega
    clear hdt
    replace hx := hide hx
    replace hy := hide hy
    replace hxy := hide hxy
    replace hs := hide hs
    replace hd := hide hd
    replace hc2 := hide hc2
    go_wp2_with fail
    go_quiet (fail)
    replace hB := (unhide hB).drewN nq
    clear c0 c1
    generalize World.drewN _ _ = v5 at *
    have c3 := kc_cell (hB.get 3 (x := ⟨h6, kc m, 27⟩) rfl) i (by omega)
    have f3 := froz_of (i := i) (hB.get 3 (x := ⟨h6, kc m, 27⟩) rfl)
    generalize m.getD i 0 = z at c3
    replace hB := hB.cell 3 (x := ⟨h6, kc m, 27⟩) rfl i (.int .u8 (d : Int))
    simp only [List.set_cons_zero, List.set_cons_succ, kc_set] at hB
    replace hB := hide hB
    go_wp2_with fail
    go_roundw
    case rel => exact ⟨i + 1, c2, _, by omega, by go_num, rfl, hcy, hm2, hB⟩
    case measure => simp [intOf]; omega
  have e : i = 16 := by omega
  subst e
  have hM : m = wt B S := by
    rw [unhide hm]
    have h := fil_all (tgf (V (nb B) + V (nb S))) ZT
    rw [hzl] at h
    exact h
  rw [hM] at hB
  clear hM hm hml hi hil
  go_upto_region 15 with fail
  replace hB := unhide hB
  refine any_start (S := fun v => Bl w [⟨w.heap.size, kc B, 27⟩, ⟨w.heap.size + 1, kc S, 27⟩, ⟨h5, kc (k1 S), 23⟩, ⟨h6, kc (wt B S), 27⟩] v) (by kernel_rfl) ?_
  replace hB := hB.drew
  generalize World.drew _ = v0 at *
  simp only [List.size_toArray, List.length_cons, List.length_nil, Array.replicate, List.replicate]
  refine any_take (i := 0) (v := (.agg (kc (k1 S)))) #[false, false, false, false, false, false] rfl (by kernel_rfl) (by kernel_rfl) (by kernel_rfl) (by kernel_rfl) (fun _ _ _ h => h) (.inl ⟨by kernel_rfl, fun x_ hu => exec_arr _ 23 (.tmp 5) rfl (h5) (by kernel_rfl) (kc (k1 S)) 23 _ (hu.get 2 (x := ⟨h5, kc (k1 S), 23⟩) rfl) Try.underlying23 rfl (by rw [Try.infoKey, kc_size, hkl])⟩) hB ?_
  simp only [Act.put, List.setIfInBounds_toArray, List.set_cons_zero, List.set_cons_succ, List.getElem_toArray, List.getElem_cons_zero, List.getElem_cons_succ]
  refine any_take (i := 1) (v := (.slice (some ⟨w.heap.size, 0, none⟩) 16 16)) #[true, false, false, false, false, false] rfl (by kernel_rfl) (by kernel_rfl) (by kernel_rfl) (by kernel_rfl) (fun _ _ _ h => h) (.inl ⟨by kernel_rfl, fun x_ hu => by kernel_rfl⟩) hB ?_
  simp only [Act.put, List.setIfInBounds_toArray, List.set_cons_zero, List.set_cons_succ, List.getElem_toArray, List.getElem_cons_zero, List.getElem_cons_succ]
  refine any_take (i := 3) (v := (.agg (kc (wt B S)))) #[true, true, false, false, false, false] rfl (by kernel_rfl) (by kernel_rfl) (by kernel_rfl) (by kernel_rfl) (fun _ _ _ h => h) (.inl ⟨by kernel_rfl, fun x_ hu => exec_arr _ 27 (.tmp 6) rfl (h6) (by kernel_rfl) (kc (wt B S)) 27 _ (hu.get 3 (x := ⟨h6, kc (wt B S), 27⟩) rfl) Try.underlying27 rfl (by rw [Try.infoT, kc_size, hwl])⟩) hB ?_
  simp only [Act.put, List.setIfInBounds_toArray, List.set_cons_zero, List.set_cons_succ, List.getElem_toArray, List.getElem_cons_zero, List.getElem_cons_succ]
  refine any_one (i := 2) (by kernel_rfl) rfl (fun K_ hQ => ?_)
  refine step_callw (by kernel_rfl) 10 #[.agg (kc (k1 S)), .slice (some ⟨w.heap.size, 0, none⟩) 16 16] (by kernel_rfl) ((mac_ok (k1 S) hkl (k1_isB S (unhide hSb)) B _ 16 16 (by omega) _ (kc_lb (hB.get 0 (x := ⟨w.heap.size, kc B, 27⟩) rfl) hBl (unhide hBb) (by omega))).mono ?_)
  rintro r u1 ⟨rfl, hg⟩
  refine ⟨_, rfl, ?_⟩
  replace hB := hB.more hg
  clear hg
  rw [mv_mc B S hBl (unhide hBb) (unhide hSb)]
  refine hQ.out _ _ hB (fun _ => ?_)
  clear hQ K_
  simp only [Act.put, List.setIfInBounds_toArray, List.set_cons_zero, List.set_cons_succ, List.getElem_toArray, List.getElem_cons_zero, List.getElem_cons_succ]
  refine any_take (i := 4) (v := (.bool true)) #[true, true, true, true, false, false] rfl (by kernel_rfl) (by kernel_rfl) (by kernel_rfl) (by kernel_rfl) (fun _ _ _ h => h) (.inl ⟨by kernel_rfl, fun x_ hu => by have e := refl_T (wt B S) (tgL_len _); go_simp⟩) hB ?_
  simp only [Act.put, List.setIfInBounds_toArray, List.set_cons_zero, List.set_cons_succ, List.getElem_toArray, List.getElem_cons_zero, List.getElem_cons_succ]
  refine any_one (i := 5) (by kernel_rfl) rfl (fun K_ hQ => ?_)
  replace hQ := hide hQ
  go_simp
  refine (unhide hQ).out _ _ hB (fun _ => ?_)
  clear hQ K_
  refine any_done (by kernel_rfl) ?_
  replace hB := hide hB
  go_wp2_with fail
  replace hB := unhide hB
  rw [unhide hT]
  exact ⟨rfl, hB.gr⟩
end Go.Proofs.Ytgjejgaendlkjaa
