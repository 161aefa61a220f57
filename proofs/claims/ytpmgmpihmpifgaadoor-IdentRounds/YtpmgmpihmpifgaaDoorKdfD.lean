/-
  A key, spread.
-/
import Derived.Test.YtpmgmpihmpifgaaDoorKdfPartsWalk
namespace Go.Proofs.YtpmgmpihmpifgaaDoor
open Go.RowKit
set_option maxRecDepth 100000
set_option linter.unusedSimpArgs false
set_option linter.unusedVariables false

/-- the code number i -/
def lastT (K I : List Int) : Nat → List Int
  | 0 => []
  | i + 1 => hmacL K (lastT K I i ++ (I ++ [(((i + 1) % 256 : Nat) : Int)]))
/-- i codes, one behind the other -/
def outT (K I : List Int) : Nat → List Int
  | 0 => []
  | i + 1 => outT K I i ++ lastT K I (i + 1)
theorem outT_len (K I : List Int) : ∀ i, (outT K I i).length = 32 * i
  | 0 => rfl
  | i + 1 => by
    rw [outT, List.length_append, outT_len K I i, lastT, hmacL_len]
    omega
theorem outT_add (K I : List Int) (m : Nat) : ∀ d, ∃ r, outT K I (m + d) = outT K I m ++ r
  | 0 => ⟨[], by simp⟩
  | d + 1 => by
    obtain ⟨r, hr⟩ := outT_add K I m d
    refine ⟨r ++ lastT K I (m + d + 1), ?_⟩
    rw [← Nat.add_assoc, outT, hr, List.append_assoc]
/-- a key, spread to n bytes -/
def spL (K I : List Int) (n : Nat) : List Int := (outT K I ((n + 31) / 32)).take n
theorem spL_len (K I : List Int) (n : Nat) : (spL K I n).length = n := by
  unfold spL
  rw [List.length_take, outT_len]
  omega
theorem spL_of (K I : List Int) (n m : Nat) (h : n ≤ 32 * m) : (outT K I m).take n = spL K I n := by
  obtain ⟨d, hd⟩ : ∃ d, m = (n + 31) / 32 + d := ⟨m - (n + 31) / 32, by omega⟩
  obtain ⟨r, hr⟩ := outT_add K I ((n + 31) / 32) d
  unfold spL
  rw [hd, hr, List.take_append_of_le_length (by rw [outT_len]; omega)]
theorem spL_fewer (K I : List Int) (n m : Nat) (h : n ≤ m) : (spL K I m).take n = spL K I n := by
  unfold spL
  rw [List.take_take, Nat.min_eq_left h]
  exact spL_of K I n _ (by omega)
theorem lastT_isB (K I : List Int) : ∀ i, IsB (lastT K I i)
  | 0 => by intro x hx; cases hx
  | i + 1 => by rw [lastT]; exact sumL_isB _
theorem outT_isB (K I : List Int) : ∀ i, IsB (outT K I i)
  | 0 => by intro x hx; cases hx
  | i + 1 => by rw [outT]; exact isB_append (outT_isB K I i) (lastT_isB K I (i + 1))
theorem spL_isB (K I : List Int) (n : Nat) : IsB (spL K I n) := isB_take (outT_isB _ _ _) n
theorem lastT_len (K I : List Int) (i : Nat) : (lastT K I (i + 1)).length = 32 := by rw [lastT]; exact hmacL_len _ _
/-- what spread answers -/
def Spr (K I : List Int) (n : Nat) (w : World) (r : Ending) (w' : World) : Prop := ∃ a, r = .returned (.slice a n n) ∧ Lb w' a n n (spL K I n) ∧ (∀ x, a = some x → w.heap.size ≤ x.block) ∧ Gr w w'
structure SI (w : World) (b gk : Nat) (K I : List Int) (i : Nat) (v7 : Value) (a8 : Option Addr) (n8 c8 : Nat) (v : World) : Prop where
  ob : Ob b v v7 (outT K I i)
  la : Lb v a8 n8 c8 (lastT K I i)
  bk : v.heap[gk]? = some (.cells (kc K) 25 (0, 0))
  gr : Gr w v
  sz : b ≤ v.heap.size
theorem SI.more {w : World} {b gk : Nat} {K I : List Int} {i : Nat} {v7 : Value} {a8 : Option Addr} {n8 c8 : Nat} {u v : World} (h : SI w b gk K I i v7 a8 n8 c8 u) (k : Gr u v) : SI w b gk K I i v7 a8 n8 c8 v :=
  ⟨h.ob.gr k, h.la.gr k, k.blk h.bk, h.gr.trans k, Nat.le_trans h.sz k.size⟩
set_option maxHeartbeats 2000000 in
theorem spread_ok (K : List Int) (hKl : K.length = 32) (hKb : IsB K) (I : List Int) (a : Option Addr) (ni ci : Nat) (n : Nat) (hn : n ≤ 8160) (hni : ni ≤ 1152921504606830000) (w : World) (hF : Fst w) (hI : Lb w a ni ci I) :
    Calls Tryd.prog 49 #[.agg (kc K), .slice a ni ci, .int .i64 n] w (Spr K I n w) := by
  obtain ⟨T, hT⟩ : ∃ T, T = Spr K I n w := ⟨_, rfl⟩
  rw [← hT]
  obtain ⟨KK, hKK⟩ : ∃ KK, KK = kc K := ⟨_, rfl⟩
  rw [← hKK]
  have hKs : KK.size = 32 := by rw [hKK, kc_size, hKl]
  replace hT := hide hT
  replace hF := hide hF
  replace hI := hide hI
  replace hKK := hide hKK
  replace hKb := hide hKb
  have w1 : IntKind.i64.wrap ((n : Int) + 32) = (n : Int) + 32 := by rw [IntKind.wrap_i64]; omega
  have w2 : (0 : Int) ≤ (n : Int) + 32 := by omega
  go_enter Tryd.func49, Tryd.ntmps49
  go_upto_region 1 with fail
  have hB := (Bl.nil w).new KK 25
  simp only [List.nil_append] at hB
  generalize World.alloc _ _ = u1 at *
  refine wp_region_lit ?_
  iterate 2 (refine wpList_step fun K hK => ?_; replace hK := hide hK; go_simp; refine unhide hK _ _ ?_; clear hK K)
  refine wpList_make_room u1 rfl (.const (.int .i64 0)) (.tmp 12) rfl 0 ((n : Int) + 32) 0 (n + 32) (by kernel_rfl) (by kernel_rfl) (by omega) (by omega) (by omega) (by omega) ?_
  have hO : Ob u1.heap.size (u1.alloc (.cells (kc (List.replicate (n + 32) 0)) 5 (0, 0))) (.slice (some ⟨u1.heap.size, 0, none⟩) 0 (n + 32)) [] :=
    ⟨rfl, .inr ⟨u1.heap.size, n + 32, _, rfl, Nat.le_refl _, blk_new _ _, by simp, by unfold maxLen; omega, by rw [kc_size]; simp, by simp⟩⟩
  have hg := (Gr.refl u1).alloc (.cells (kc (List.replicate (n + 32) 0)) 5 (0, 0))
  have hgk : w.heap.size < u1.heap.size := by have := lt_of_block (hB.get 0 (x := ⟨w.heap.size, KK, 25⟩) rfl); exact this
  replace hB := hB.more hg
  have hbs := hg.size
  generalize World.alloc _ _ = u2 at *
  generalize u1.heap.size = b at *
  clear hg
  simp only [Act.put, List.setIfInBounds_toArray, List.set_cons_zero, List.set_cons_succ, List.getElem_toArray, List.getElem_cons_zero, List.getElem_cons_succ]
  have hS : SI w b w.heap.size K I 0 (.slice (some ⟨b, 0, none⟩) 0 (n + 32)) none 0 0 u2 := ⟨hO, Lb.nil _, (by rw [← unhide hKK]; exact hB.get 0 (x := ⟨w.heap.size, KK, 25⟩) rfl), hB.gr, hbs⟩
  clear hO hB hbs
  replace hS := hide hS
  iterate 1 (refine wpList_step fun K hK => ?_; replace hK := hide hK; go_simp; refine unhide hK _ _ ?_; clear hK K)
  refine wpList_nil ?_
  go_wp2_with fail
  go_loopw [7, 8, 9] (fun x y z wr => ∃ (i : Nat) (a7 : Option Addr) (c7 : Nat) (a8 : Option Addr) (n8 c8 : Nat), i ≤ (n + 31) / 32 ∧ x = .slice a7 (32 * i) c7 ∧ y = .slice a8 n8 c8 ∧ z = .int .i64 ((i + 1 : Nat) : Int) ∧ Hid (SI w b w.heap.size K I i (.slice a7 (32 * i) c7) a8 n8 c8 wr)) (fun x _ _ _ => n + 32 - slenV x)
  case atStart => exact ⟨0, _, n + 32, none, 0, 0, by omega, rfl, rfl, rfl, hS⟩
  case round =>
  clear hS
  obtain ⟨i, a7, c7, a8, n8, c8, hi, rfl, rfl, rfl, hS⟩ := hrel
  by_cases hl : 32 * i < n
  · have lI : 32 * (i : Int) < (n : Int) := by omega
    have e1 : IntKind.i64.wrap ((i : Int) + 1 + 1) = (i : Int) + 1 + 1 := by rw [IntKind.wrap_i64]; omega
    obtain ⟨y, hy⟩ : ∃ y : Int, y = (((i + 1) % 256 : Nat) : Int) := ⟨_, rfl⟩
    have e2 : IntKind.u8.wrap ((i : Int) + 1) = y := by rw [IntKind.wrap_u8', hy]; omega
    have hyb : 0 ≤ y ∧ y < 256 := by omega
    have hnx : Hid (hmacL K ([lastT K I i, I, [y]] : List (List Int)).flatten = lastT K I (i + 1)) := by
      have e : ([lastT K I i, I, [y]] : List (List Int)).flatten = lastT K I i ++ (I ++ [y]) := by simp
      rw [e, hy]
      exact rfl
    replace hy := hide hy
    go_upto_region 6 with fail
    refine wp_region_lit ?_
    iterate 5 (refine wpList_step fun K hK => ?_; replace hK := hide hK; go_simp; refine unhide hK _ _ ?_; clear hK K)
    refine list_valw (.slice (some ⟨wr.heap.size, 0, none⟩) 1 1) (wr.alloc (.cells (kc [y]) 5 (0, 0))) (by kernel_rfl) (by kernel_rfl) ?_
    simp only [Act.put, List.setIfInBounds_toArray, List.set_cons_zero, List.set_cons_succ, List.getElem_toArray, List.getElem_cons_zero, List.getElem_cons_succ]
    have hg := (Gr.refl wr).alloc (.cells (kc [y]) 5 (0, 0))
    have l3 : Lb (wr.alloc (.cells (kc [y]) 5 (0, 0))) (some ⟨wr.heap.size, 0, none⟩) 1 1 [y] := ⟨rfl, (by intro x hx; simp at hx; subst hx; exact hyb), .inr ⟨_, 0, rfl, kc_at (blk_new _ _)⟩, by omega, by omega⟩
    replace hS := (unhide hS).more hg
    generalize World.alloc _ _ = v1 at *
    generalize wr.heap.size = g1 at *
    clear hg
    refine list_valw (.slice (some ⟨v1.heap.size, 0, none⟩) 3 3) (v1.alloc (.cells #[.slice a8 n8 c8, .slice a ni ci, .slice (some ⟨g1, 0, none⟩) 1 1] 33 (0, 0))) (by kernel_rfl) (by kernel_rfl) ?_
    simp only [Act.put, List.setIfInBounds_toArray, List.set_cons_zero, List.set_cons_succ, List.getElem_toArray, List.getElem_cons_zero, List.getElem_cons_succ]
    have hg := (Gr.refl v1).alloc (.cells #[.slice a8 n8 c8, .slice a ni ci, .slice (some ⟨g1, 0, none⟩) 1 1] 33 (0, 0))
    have hnew := blk_new v1 (.cells #[.slice a8 n8 c8, .slice a ni ci, .slice (some ⟨g1, 0, none⟩) 1 1] 33 (0, 0))
    replace hS := hS.more hg
    replace l3 := l3.gr hg
    generalize World.alloc _ _ = v2 at *
    generalize v1.heap.size = g2 at *
    clear hg
    have hP := Pr.three hnew hS.la ((unhide hI).gr hS.gr) l3
    refine list_call 70 #[.slice (some ⟨w.heap.size, 0, none⟩) 32 32, .slice (some ⟨g2, 0, none⟩) 3 3] (by kernel_rfl) (by kernel_rfl) ((hmac_ok K (unhide hKb) 32 hKl (by omega) _ 32 (by omega) (by omega) [lastT K I i, I, [y]] _ 3 3 rfl (by omega) (by have h1 : (lastT K I i).length ≤ 32 := (by cases i with | zero => simp [lastT] | succ j => rw [lastT_len]; omega); have h2 := (unhide hI).len; simp only [List.flatten_cons, List.flatten_nil, List.length_append, List.length_nil, List.length_cons]; omega) _ ((unhide hF).gr hS.gr) (.inr ⟨_, 0, rfl, kc_at hS.bk⟩) hP).mono ?_)
    rintro r v3 ⟨rfl, hg⟩
    refine ⟨_, rfl, ?_⟩
    replace hS := hS.more hg
    clear hg hP hnew l3
    rw [unhide hnx]
    simp only [Act.put, List.setIfInBounds_toArray, List.set_cons_zero, List.set_cons_succ, List.getElem_toArray, List.getElem_cons_zero, List.getElem_cons_succ]
    obtain ⟨M, hM⟩ : ∃ M, M = lastT K I (i + 1) := ⟨_, rfl⟩
    have hMl : M.length = 32 := by rw [hM]; exact lastT_len _ _ _
    have hMb : IsB M := by rw [hM]; exact lastT_isB _ _ _
    rw [← hM]
    replace hM := hide hM
    replace hS := hide hS
    replace hMb := hide hMb
    iterate 1 (refine wpList_step fun K hK => ?_; replace hK := hide hK; go_simp; refine unhide hK _ _ ?_; clear hK K)
    have hL := (Bl.nil v3).new #[.int .u8 0, .int .u8 0, .int .u8 0, .int .u8 0, .int .u8 0, .int .u8 0, .int .u8 0, .int .u8 0, .int .u8 0, .int .u8 0, .int .u8 0, .int .u8 0, .int .u8 0, .int .u8 0, .int .u8 0, .int .u8 0, .int .u8 0, .int .u8 0, .int .u8 0, .int .u8 0, .int .u8 0, .int .u8 0, .int .u8 0, .int .u8 0, .int .u8 0, .int .u8 0, .int .u8 0, .int .u8 0, .int .u8 0, .int .u8 0, .int .u8 0, .int .u8 0] 25
    simp only [List.nil_append] at hL
    generalize World.alloc _ _ = v4 at *
    replace hL : Bl v3 [⟨v3.heap.size, kc Z32, 25⟩] v4 := hL
    refine list_store 25 (.tmp 10) (.tmp 27) v3.heap.size (kc M) 25 (kc Z32) (by kernel_rfl) rfl (by kernel_rfl) (by kernel_rfl) (hL.get 0 (x := ⟨v3.heap.size, kc Z32, 25⟩) rfl) (by rw [Tryd.infoKey, kc_size, hMl]) ((show (kc Z32).size = 32 from rfl).trans ((kc_size _).trans hMl).symm) (kc_one _) ?_
    replace hL := hL.set 0 (x := ⟨v3.heap.size, kc Z32, 25⟩) rfl (kc M)
    simp only [List.set_cons_zero, List.set_cons_succ] at hL
    generalize World.setRow _ _ _ = v5 at *
    simp only [Act.put, List.setIfInBounds_toArray, List.set_cons_zero, List.set_cons_succ, List.getElem_toArray, List.getElem_cons_zero, List.getElem_cons_succ]
    refine wpList_nil ?_
    have hks := hL.get 0 (x := ⟨v3.heap.size, kc M, 25⟩) rfl
    dsimp only at hks
    have hobl : ∀ q, (Value.slice a7 (32 * i) c7).ownBlock = some q → q ≠ v3.heap.size := fun q hq => by have := (World.ownsRow.lt (unhide hS).ob q hq).2; omega
    replace hS := hide ((unhide hS).more hL.gr)
    generalize v3.heap.size = gc at *
    clear hL
    replace hobl := hide hobl
    replace hks := hide hks
    go_upto_region 8 with fail
    replace hS := unhide hS
    replace hks := unhide hks
    replace hobl := unhide hobl
    refine wp_region_lit ?_
    iterate 2 (refine wpList_step fun K hK => ?_; replace hK := hide hK; go_simp; refine unhide hK _ _ ?_; clear hK K)
    refine app_bs (by kernel_rfl) (.tmp 29) (.tmp 30) rfl b (.slice a7 (32 * i) c7) (outT K I i) (by kernel_rfl) hS.ob (some ⟨gc, 0, none⟩) 32 32 M (by kernel_rfl) hMl (.inr ⟨gc, 0, rfl, kc_at hks⟩) (by rw [outT_len]; omega) hS.sz ?_
    intro x5 v6 hO2 hgb
    have hks2 : v6.heap[gc]? = some (.cells (kc M) 25 (0, 0)) := by rw [hgb.block gc (lt_of_block hks) (fun e => hobl gc e.symm rfl)]; exact hks
    have hbk2 : v6.heap[w.heap.size]? = some (.cells (kc K) 25 (0, 0)) := by
      rw [hgb.block w.heap.size (lt_of_block hS.bk) (fun e => by have := (World.ownsRow.lt hS.ob _ e.symm).1; omega)]; exact hS.bk
    have hG2 := hS.ob.grown (by omega) hS.gr hgb
    have hsz2 := Nat.le_trans hS.sz hgb.size
    obtain ⟨a5, c5, rfl, _, _, _⟩ := hO2.slice
    have hO3 : Ob b v6 (.slice a5 (32 * (i + 1)) c5) (outT K I (i + 1)) := by
      have e : outT K I (i + 1) = outT K I i ++ M := by rw [outT, unhide hM]
      rw [← e] at hO2
      rw [outT_len] at hO2
      exact hO2
    have hlen : (outT K I i ++ M).length = 32 * (i + 1) := by rw [List.length_append, outT_len, hMl]; omega
    rw [hlen]
    have hS2 : SI w b w.heap.size K I (i + 1) (.slice a5 (32 * (i + 1)) c5) (some ⟨gc, 0, none⟩) 32 32 v6 := ⟨hO3, ⟨lastT_len _ _ _, lastT_isB _ _ _, .inr ⟨gc, 0, rfl, by rw [← unhide hM]; exact kc_at hks2⟩, by omega, by omega⟩, hbk2, hG2, hsz2⟩
    clear hS hO2 hO3 hgb hks hks2 hbk2 hG2 hsz2 hobl hlen
    simp only [Act.put, List.setIfInBounds_toArray, List.set_cons_zero, List.set_cons_succ, List.getElem_toArray, List.getElem_cons_zero, List.getElem_cons_succ]
    replace hS2 := hide hS2
    iterate 1 (refine wpList_step fun K hK => ?_; replace hK := hide hK; go_simp; refine unhide hK _ _ ?_; clear hK K)
    refine wpList_nil ?_
    go_wp2_with fail
    refine ⟨⟨i + 1, a5, c5, some ⟨gc, 0, none⟩, 32, 32, by omega, rfl, rfl, by congr 1, hS2⟩, ?_⟩
    show n + 32 - 32 * (i + 1) < n + 32 - 32 * i
    omega
  · have lI : ¬ 32 * (i : Int) < (n : Int) := by omega
    obtain ⟨a6, c6, e6, hc6, hm6, hs6⟩ := (unhide hS).ob.slice
    rw [outT_len] at e6 hc6
    obtain ⟨rfl, _, rfl⟩ := (Value.slice.injEq _ _ _ _ _ _).mp e6
    have n1 : (n : Int) ≤ (c7 : Int) := by omega
    have n2 : n ≤ c7 := by omega
    have hP : Hid (Spr K I n w (.returned (.slice a7 n n)) wr) := by
      refine ⟨a7, rfl, ⟨spL_len _ _ _, spL_isB _ _ _, ?_, Nat.le_refl _, by omega⟩, (fun x hx => by have := (World.ownsRow.lt (unhide hS).ob x.block (by rw [hx]; rfl)).1; omega), (unhide hS).gr⟩
      rw [← spL_of K I n i (by omega)]
      rcases hs6 with h | ⟨p, o, h1, h2⟩
      · left; rw [h]; simp
      · exact .inr ⟨p, o, h1, h2.take n⟩
    clear hs6 hm6 hc6 e6 hS
    go_wp2_with fail
    rw [unhide hT]
    exact unhide hP
end Go.Proofs.YtpmgmpihmpifgaaDoor
