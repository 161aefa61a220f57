/-
  FieldExponents: the walk, for whatever key and numbers.
-/
import Derived.Test.YtjncnmhigikdoabExp1
namespace Go.Proofs.Ytjncnmhigikdoab
open Go.RowKit
set_option maxRecDepth 100000
set_option linter.unusedSimpArgs false
attribute [local go_sem ↓] Go.wp_at_zero Go.wp_at_succ

/-- the prime less one -/
def p1 : Nat := 57896044618658097711785492504343953926634992332820282019728792003956564819948
theorem p1_eq : p1 = p2 + 1 := by decide +kernel
theorem p1_PP : p1 = Pr.PP - 1 := by decide +kernel
/-- a number that is an exponent -/
def IsE (x : Int) (e : Nat) : Prop := x = (e : Int) ∧ e < 18446744073709551616
theorem exp1_at (x n a0 a1 a2 a3 a4 : Int) (e : Nat) (hx : Hid (IsE x e)) (g : Nat) (w : World) (hb : Hid (w.heap[g]? = some (.cells #[.int .u64 a0, .int .u64 a1, .int .u64 a2, .int .u64 a3, .int .u64 a4] 29 (0, 0)))) (hA : Hid (Rep n a0 a1 a2 a3 a4)) :
    Calls Try.prog 18 #[.int .u64 x, .pointer (some ⟨g, 0, none⟩)] w (fun r w' => ∃ a b c d e', r = .returned (.agg #[.int .u64 a, .int .u64 b, .int .u64 c, .int .u64 d, .int .u64 e']) ∧ Hid (Rep (n ^ e) a b c d e') ∧ Gr w w') := by
  obtain ⟨rfl, h⟩ := unhide hx
  exact exp1_ok n a0 a1 a2 a3 a4 e h g w (unhide hb) hA

def Lt256 (M : Nat) : Prop := M < 2 ^ 256
theorem power_sm (n a0 a1 a2 a3 a4 : Int) (M : Nat) (hM : Hid (Lt256 M)) (h : Hid (Rep n a0 a1 a2 a3 a4)) (w : World) :
    Calls Try.prog 19 #[.agg #[.int .u64 a0, .int .u64 a1, .int .u64 a2, .int .u64 a3, .int .u64 a4], .agg (kc (digs (M : Int) 32))] w (fun r w' => ∃ a b c d e, r = .returned (.agg #[.int .u64 a, .int .u64 b, .int .u64 c, .int .u64 d, .int .u64 e]) ∧ Hid (Rep (n ^ M) a b c d e) ∧ Gr w w') := power_at n a0 a1 a2 a3 a4 M hM h w

theorem power_L (n a0 a1 a2 a3 a4 : Int) (M : Nat) (LL : List Value) (hM : Hid (Lt256 M)) (hL : Hid (LL.toArray = kc (digs (M : Int) 32))) (h : Hid (Rep n a0 a1 a2 a3 a4)) (w : World) :
    Calls Try.prog 19 #[.agg #[.int .u64 a0, .int .u64 a1, .int .u64 a2, .int .u64 a3, .int .u64 a4], .agg LL.toArray] w (fun r w' => ∃ a b c d e, r = .returned (.agg #[.int .u64 a, .int .u64 b, .int .u64 c, .int .u64 d, .int .u64 e]) ∧ Hid (Rep (n ^ M) a b c d e) ∧ Gr w w') := by
  rw [unhide hL]
  exact power_at n a0 a1 a2 a3 a4 M hM h w

set_option maxHeartbeats 4000000 in
theorem exponents_any (n : Int) (hn : 0 ≤ n ∧ n < 115792089237316195423570985008687907853269984665640564039457584007913129639936) (x y : Int) (hx : 0 ≤ x ∧ x < 18446744073709551616) (hy : 0 ≤ y ∧ y < 18446744073709551616) (w : World) :
    Calls Try.prog 5 #[.agg (kc (digs n 32)), .int .u64 x, .int .u64 y] w (fun r w' => r = .returned (.bool true) ∧ Gr w w') := by
  obtain ⟨LX, hLX⟩ : ∃ L, L = (digs n 32).map (Value.int .u8) := ⟨_, rfl⟩
  have eX : kc (digs n 32) = LX.toArray := by rw [hLX]; rfl
  have kX : Hid (KeyIs LX n) := hide ⟨hn.1, hLX⟩
  have HiX : Hid ((Try.prog.info? 23).map (·.size) = some LX.length) := hide (by rw [Try.infoKey, hLX, List.length_map, digs_len])
  rw [eX]
  have hN0 : Hid (0 ≤ n % 57896044618658097711785492504343953926634992332820282019728792003956564819968) := hide (by omega)
  clear hLX eX hn
  generalize hNe : n % 57896044618658097711785492504343953926634992332820282019728792003956564819968 = N at hN0
  replace hNe := hide hNe
  obtain ⟨p, hp⟩ : ∃ p : Nat, x / 2 = (p : Int) := ⟨(x / 2).toNat, by omega⟩
  obtain ⟨q, hq⟩ : ∃ q : Nat, y / 2 = (q : Int) := ⟨(y / 2).toNat, by omega⟩
  obtain ⟨s, hs⟩ : ∃ s : Nat, (p : Int) + (q : Int) = (s : Int) := ⟨p + q, by omega⟩
  have bp : Hid (IsE (p : Int) p) := hide ⟨rfl, by omega⟩
  have bq : Hid (IsE (q : Int) q) := hide ⟨rfl, by omega⟩
  have bs : Hid (IsE (s : Int) s) := hide ⟨rfl, by omega⟩
  have hp3 : (p : Int) < 9223372036854775808 := by omega
  have hq3 : (q : Int) < 9223372036854775808 := by omega
  go_enter Try.func5, Try.ntmps5
  go_upto_region 6 with (first
    | (go_at_call 7; refine (wakes_at' _).mono ?_; rintro r w1 ⟨rfl, hg⟩; have hG := hide (Gr.trans ((Gr.refl w).alloc _) hg); have hX := hide (hg.blk (blk_new w _)); clear hg)
    | (refine wpList_load_row rfl 23 (.tmp 3) rfl w.heap.size rfl 23 LX.toArray (0, 0) _ (by exact unhide hX) Try.underlying23 rfl (by exact unhide HiX) ?_)
    | (go_at_call 8; refine (from_L _ _ (by assumption) _).mono ?_; rintro r w2 ⟨a0, a1, a2, a3, a4, rfl, hA, hg⟩; rw [unhide hNe] at hA; replace hG := hide ((unhide hG).trans hg); clear hg hX))
  have gA := (Gr.refl w2).alloc (.cells #[.int .u64 a0, .int .u64 a1, .int .u64 a2, .int .u64 a3, .int .u64 a4] 29 (0, 0))
  have hB := hide (blk_new w2 (.cells #[.int .u64 a0, .int .u64 a1, .int .u64 a2, .int .u64 a3, .int .u64 a4] 29 (0, 0)))
  replace hG := hide ((unhide hG).trans gA)
  clear gA
  generalize w2.heap.size = g at *
  generalize w2.alloc _ = v at *
  have ha1 : Hid (decide (N ^ p * N ^ q % pp = N ^ s % pp) = true) := hide (decide_eq_true (by rw [show s = p + q from by omega, Int.pow_add]))
  have ha2 : Hid (decide ((N ^ p) ^ q % pp = (N ^ q) ^ p % pp) = true) := hide (decide_eq_true (by rw [← Int.pow_mul, ← Int.pow_mul, Nat.mul_comm]))
  have ep : Hid ((p : Int) % pp = (p : Int)) := hide (u64_lt _ (by have := (unhide bp).2; omega))
  have eq : Hid ((q : Int) % pp = (q : Int)) := hide (u64_lt _ (by have := (unhide bq).2; omega))
  have mp : Hid (Lt256 p) := hide (Nat.lt_trans (unhide bp).2 (by decide))
  have mq : Hid (Lt256 q) := hide (Nat.lt_trans (unhide bq).2 (by decide))
  have np : Hid (0 ≤ (p : Int) ∧ (p : Int) < 18446744073709551616) := hide (by have := (unhide bp).2; omega)
  have nq : Hid (0 ≤ (q : Int) ∧ (q : Int) < 18446744073709551616) := hide (by have := (unhide bq).2; omega)
  have el : Hid ((0 - 1 : Int) % pp = (p1 : Int)) := hide (by decide +kernel)
  clear hp hq hx hy
  go_upto_region 9 with (first
    | (go_at_call 18; go_must (refine (exp1_at _ _ _ _ _ _ _ _ (by assumption) _ _ (by assumption) (by assumption)).mono ?_); rintro r w3 ⟨y0, y1, y2, y3, y4, rfl, hP, hg⟩; replace hB := hide (hg.blk (unhide hB)); replace hG := hide ((unhide hG).trans hg); clear hg)
    | (go_at_call 11; refine (mul_at _ _ _ _ _ _ _ _ _ _ _ _ (by assumption) (by assumption) _).mono ?_; rintro r w3 ⟨y0, y1, y2, y3, y4, rfl, hP, hg⟩; replace hB := hide (hg.blk (unhide hB)); replace hG := hide ((unhide hG).trans hg); clear hg)
    | (go_at_call 10; refine (same_at _ _ _ _ _ _ _ _ _ _ _ _ true (by assumption) (by assumption) (by assumption) _).mono ?_; rintro r w3 ⟨rfl, hg⟩; replace hB := hide (hg.blk (unhide hB)); replace hG := hide ((unhide hG).trans hg); clear hg)
    | (go_at_call 12; refine (of_at _ (by first | omega | exact unhide np | exact unhide nq) _).mono ?_; rintro r w3 ⟨y0, y1, y2, y3, y4, rfl, hO, hg⟩; replace hB := hide (hg.blk (unhide hB)); replace hG := hide ((unhide hG).trans hg); clear hg)
    | (go_at_call 14; refine (neg_at _ _ _ _ _ _ (by assumption) _).mono ?_; rintro r w3 ⟨y0, y1, y2, y3, y4, rfl, hO, hg⟩; replace hB := hide (hg.blk (unhide hB)); replace hG := hide ((unhide hG).trans hg); clear hg)
    | (go_at_call 20; refine (bytes_at _ _ _ _ _ _ (by assumption) _).mono ?_; rintro r w3 ⟨rfl, hg⟩; (first | rw [unhide ep] | rw [unhide eq] | rw [unhide el]); replace hB := hide (hg.blk (unhide hB)); replace hG := hide ((unhide hG).trans hg); clear hg)
    | (go_at_call 19; refine (power_sm _ _ _ _ _ _ _ (by assumption) (by assumption) _).mono ?_; rintro r w3 ⟨y0, y1, y2, y3, y4, rfl, hP, hg⟩; replace hB := hide (hg.blk (unhide hB)); replace hG := hide ((unhide hG).trans hg); clear hg)
    | (refine wpList_store_row rfl 23 (.tmp 9) (.tmp 53) rfl w3.heap.size (kc (digs (p1 : Int) 32)) rfl rfl 23 _ (by exact blk_new _ _) (by rw [Try.infoKey, kc_size, digs_len]) (by rw [kc_size, digs_len]; rfl) (kc_one _) ?_; obtain ⟨hgR, hbR⟩ := alloc_row w3 _ (kc (digs (p1 : Int) 32)) 23; generalize World.setRow _ _ _ = u3 at *; have hL := hide hbR; clear hbR; replace hB := hide (hgR.blk (unhide hB)); replace hG := hide ((unhide hG).trans hgR); clear hgR))
  simp only [Act.put, List.setIfInBounds_toArray, List.set_cons_zero, List.set_cons_succ, List.getElem_toArray, List.getElem_cons_zero, List.getElem_cons_succ]
  clear ha1 ha2 ep eq mp mq np nq bp bq bs hs hp3 hq3 el
  generalize w3.heap.size = gl at *
  have b0 : Hid (IsE 0 0) := hide ⟨rfl, by decide⟩
  have b1 : Hid (IsE 1 1) := hide ⟨rfl, by decide⟩
  have b2 : Hid (IsE 2 2) := hide ⟨rfl, by decide⟩
  have ml : Hid (Lt256 p1) := hide (by show p1 < 2 ^ 256; decide +kernel)
  have ha0 : Hid (decide (N ^ 0 % pp = 1 % pp) = true) := hide (decide_eq_true (by rw [Int.pow_zero]))
  have ha1 : Hid (decide (N ^ 1 % pp = N % pp) = true) := hide (decide_eq_true (by rw [Int.pow_succ, Int.pow_zero, Int.one_mul]))
  have ha2 : Hid (decide (N ^ 2 % pp = N * N % pp) = true) := hide (decide_eq_true (by rw [Int.pow_succ, Int.pow_succ, Int.pow_zero, Int.one_mul]))
  have hi9 : (Try.prog.info? 23).map (·.size) = some ((digs (p1 : Int) 32).map (Value.int .u8)).length := by rw [Try.infoKey, List.length_map, digs_len]
  replace hi9 := hide hi9
  have eL : (kc (digs (p1 : Int) 32)) = ((digs (p1 : Int) 32).map (Value.int .u8)).toArray := rfl
  rw [eL] at hL ⊢
  obtain ⟨LL, hLL⟩ : ∃ L, L = (digs (p1 : Int) 32).map (Value.int .u8) := ⟨_, rfl⟩
  rw [← hLL] at hL hi9 ⊢
  have eL2 : Hid (LL.toArray = kc (digs (p1 : Int) 32)) := hide (by rw [hLL]; rfl)
  clear eL hLL
  by_cases hz : N % pp = 0
  · have hq1 : Hid (decide (N % pp = 0) = true) := hide (decide_eq_true hz)
    have hq2 : Hid (decide (N ^ p1 % pp = 0) = true) := hide (decide_eq_true (by rw [p1_eq, Int.pow_succ, Int.mul_emod, hz, Int.mul_zero]; rfl))
    clear hz
    refine wp_region_held_drew (S := fun x => Gr u3.drew x) (by kernel_rfl) (Gr.refl _) (fun hS0 => ?_)
    refine wpAnyH_take (i := 0) (v := (.func (.func 18) #[] #[.pointer (some ⟨g, 0, none⟩)])) rfl (by kernel_rfl) (by kernel_rfl) (by kernel_rfl) (fun _ _ _ h => h) (.inl ⟨by kernel_rfl, fun u hu => by kernel_rfl⟩) hS0 ?_
    simp only [Act.put, List.setIfInBounds_toArray, List.set_cons_zero, List.set_cons_succ, List.getElem_toArray, List.getElem_cons_zero, List.getElem_cons_succ]
    refine wpAnyH_ready (rs := [1]) (by kernel_rfl) (by simp) (AllReadyH.cons (o := _) rfl (fun K hK => ?_) AllReadyH.nil)
    refine step_callw (by kernel_rfl) 18 #[(.int .u64 0), .pointer (some ⟨g, 0, none⟩)] (by kernel_rfl) ((exp1_at _ _ _ _ _ _ _ _ (by assumption) _ _ (hide ((Gr.trans ((Gr.refl _).drew) hS0).blk (unhide hB))) (by assumption)).mono ?_)
    rintro r w1_ ⟨e1_0, e1_1, e1_2, e1_3, e1_4, rfl, h1_, hg⟩
    refine ⟨_, rfl, ?_⟩
    have hS1_ : Gr u3.drew w1_ := Gr.trans hS0 hg
    clear hg
    refine hK.out _ _ hS1_ (fun _ => ?_)
    clear hK K
    simp only [Act.put, List.setIfInBounds_toArray, List.set_cons_zero, List.set_cons_succ, List.getElem_toArray, List.getElem_cons_zero, List.getElem_cons_succ]
    refine wpAnyH_ready (rs := [2]) (by kernel_rfl) (by simp) (AllReadyH.cons (o := _) rfl (fun K hK => ?_) AllReadyH.nil)
    refine step_callw (by kernel_rfl) 12 #[(.int .u64 1)] (by kernel_rfl) ((of_at _ (by omega) _).mono ?_)
    rintro r w2_ ⟨e2_0, e2_1, e2_2, e2_3, e2_4, rfl, h2_, hg⟩
    refine ⟨_, rfl, ?_⟩
    have hS2_ : Gr u3.drew w2_ := Gr.trans hS1_ hg
    clear hg
    refine hK.out _ _ hS2_ (fun _ => ?_)
    clear hK K
    simp only [Act.put, List.setIfInBounds_toArray, List.set_cons_zero, List.set_cons_succ, List.getElem_toArray, List.getElem_cons_zero, List.getElem_cons_succ]
    refine wpAnyH_ready (rs := [3]) (by kernel_rfl) (by simp) (AllReadyH.cons (o := _) rfl (fun K hK => ?_) AllReadyH.nil)
    refine step_callw (by kernel_rfl) 10 #[(.agg #[.int .u64 e1_0, .int .u64 e1_1, .int .u64 e1_2, .int .u64 e1_3, .int .u64 e1_4]), (.agg #[.int .u64 e2_0, .int .u64 e2_1, .int .u64 e2_2, .int .u64 e2_3, .int .u64 e2_4])] (by kernel_rfl) ((same_at _ _ _ _ _ _ _ _ _ _ _ _ true (by assumption) (by assumption) (by assumption) _).mono ?_)
    rintro r w3_ ⟨rfl, hg⟩
    refine ⟨_, rfl, ?_⟩
    have hS3_ : Gr u3.drew w3_ := Gr.trans hS2_ hg
    clear hg
    refine hK.out _ _ hS3_ (fun _ => ?_)
    clear hK K
    simp only [Act.put, List.setIfInBounds_toArray, List.set_cons_zero, List.set_cons_succ, List.getElem_toArray, List.getElem_cons_zero, List.getElem_cons_succ]
    refine wpAnyH_take (i := 4) (v := (.bool true)) rfl (by kernel_rfl) (by kernel_rfl) (by kernel_rfl) (fun _ _ _ h => h) (.inl ⟨by kernel_rfl, fun u hu => by kernel_rfl⟩) hS3_ ?_
    simp only [Act.put, List.setIfInBounds_toArray, List.set_cons_zero, List.set_cons_succ, List.getElem_toArray, List.getElem_cons_zero, List.getElem_cons_succ]
    refine wpAnyH_take (i := 5) (v := (.func (.func 18) #[] #[.pointer (some ⟨g, 0, none⟩)])) rfl (by kernel_rfl) (by kernel_rfl) (by kernel_rfl) (fun _ _ _ h => h) (.inl ⟨by kernel_rfl, fun u hu => by kernel_rfl⟩) hS3_ ?_
    simp only [Act.put, List.setIfInBounds_toArray, List.set_cons_zero, List.set_cons_succ, List.getElem_toArray, List.getElem_cons_zero, List.getElem_cons_succ]
    refine wpAnyH_take (i := 7) (v := (.agg #[.int .u64 a0, .int .u64 a1, .int .u64 a2, .int .u64 a3, .int .u64 a4])) rfl (by kernel_rfl) (by kernel_rfl) (by kernel_rfl) (fun _ _ _ h => h) (.inl ⟨by kernel_rfl, fun u hu => exec_row u 29 (.tmp 7) rfl g 0 (by kernel_rfl) [.int .u64 a0, .int .u64 a1, .int .u64 a2, .int .u64 a3, .int .u64 a4] _ (range_row (hu.blk (unhide hB))) Try.underlying29 rfl Try.infoElem⟩) hS3_ ?_
    simp only [Act.put, List.setIfInBounds_toArray, List.set_cons_zero, List.set_cons_succ, List.getElem_toArray, List.getElem_cons_zero, List.getElem_cons_succ]
    refine wpAnyH_ready (rs := [6]) (by kernel_rfl) (by simp) (AllReadyH.cons (o := _) rfl (fun K hK => ?_) AllReadyH.nil)
    refine step_callw (by kernel_rfl) 18 #[(.int .u64 1), .pointer (some ⟨g, 0, none⟩)] (by kernel_rfl) ((exp1_at _ _ _ _ _ _ _ _ (by assumption) _ _ (hide ((Gr.trans ((Gr.refl _).drew) hS3_).blk (unhide hB))) (by assumption)).mono ?_)
    rintro r w4_ ⟨e6_0, e6_1, e6_2, e6_3, e6_4, rfl, h6_, hg⟩
    refine ⟨_, rfl, ?_⟩
    have hS4_ : Gr u3.drew w4_ := Gr.trans hS3_ hg
    clear hg
    refine hK.out _ _ hS4_ (fun _ => ?_)
    clear hK K
    simp only [Act.put, List.setIfInBounds_toArray, List.set_cons_zero, List.set_cons_succ, List.getElem_toArray, List.getElem_cons_zero, List.getElem_cons_succ]
    refine wpAnyH_ready (rs := [8]) (by kernel_rfl) (by simp) (AllReadyH.cons (o := _) rfl (fun K hK => ?_) AllReadyH.nil)
    refine step_callw (by kernel_rfl) 10 #[(.agg #[.int .u64 e6_0, .int .u64 e6_1, .int .u64 e6_2, .int .u64 e6_3, .int .u64 e6_4]), (.agg #[.int .u64 a0, .int .u64 a1, .int .u64 a2, .int .u64 a3, .int .u64 a4])] (by kernel_rfl) ((same_at _ _ _ _ _ _ _ _ _ _ _ _ true (by assumption) (by assumption) (by assumption) _).mono ?_)
    rintro r w5_ ⟨rfl, hg⟩
    refine ⟨_, rfl, ?_⟩
    have hS5_ : Gr u3.drew w5_ := Gr.trans hS4_ hg
    clear hg
    refine hK.out _ _ hS5_ (fun _ => ?_)
    clear hK K
    simp only [Act.put, List.setIfInBounds_toArray, List.set_cons_zero, List.set_cons_succ, List.getElem_toArray, List.getElem_cons_zero, List.getElem_cons_succ]
    refine wpAnyH_take (i := 9) (v := (.bool true)) rfl (by kernel_rfl) (by kernel_rfl) (by kernel_rfl) (fun _ _ _ h => h) (.inl ⟨by kernel_rfl, fun u hu => by kernel_rfl⟩) hS5_ ?_
    simp only [Act.put, List.setIfInBounds_toArray, List.set_cons_zero, List.set_cons_succ, List.getElem_toArray, List.getElem_cons_zero, List.getElem_cons_succ]
    refine wpAnyH_take (i := 10) (v := (.bool true)) rfl (by kernel_rfl) (by kernel_rfl) (by kernel_rfl) (fun _ _ _ h => h) (.inl ⟨by kernel_rfl, fun u hu => by kernel_rfl⟩) hS5_ ?_
    simp only [Act.put, List.setIfInBounds_toArray, List.set_cons_zero, List.set_cons_succ, List.getElem_toArray, List.getElem_cons_zero, List.getElem_cons_succ]
    refine wpAnyH_take (i := 11) (v := (.func (.func 18) #[] #[.pointer (some ⟨g, 0, none⟩)])) rfl (by kernel_rfl) (by kernel_rfl) (by kernel_rfl) (fun _ _ _ h => h) (.inl ⟨by kernel_rfl, fun u hu => by kernel_rfl⟩) hS5_ ?_
    simp only [Act.put, List.setIfInBounds_toArray, List.set_cons_zero, List.set_cons_succ, List.getElem_toArray, List.getElem_cons_zero, List.getElem_cons_succ]
    refine wpAnyH_take (i := 13) (v := (.agg #[.int .u64 a0, .int .u64 a1, .int .u64 a2, .int .u64 a3, .int .u64 a4])) rfl (by kernel_rfl) (by kernel_rfl) (by kernel_rfl) (fun _ _ _ h => h) (.inl ⟨by kernel_rfl, fun u hu => exec_row u 29 (.tmp 7) rfl g 0 (by kernel_rfl) [.int .u64 a0, .int .u64 a1, .int .u64 a2, .int .u64 a3, .int .u64 a4] _ (range_row (hu.blk (unhide hB))) Try.underlying29 rfl Try.infoElem⟩) hS5_ ?_
    simp only [Act.put, List.setIfInBounds_toArray, List.set_cons_zero, List.set_cons_succ, List.getElem_toArray, List.getElem_cons_zero, List.getElem_cons_succ]
    refine wpAnyH_ready (rs := [12]) (by kernel_rfl) (by simp) (AllReadyH.cons (o := _) rfl (fun K hK => ?_) AllReadyH.nil)
    refine step_callw (by kernel_rfl) 18 #[(.int .u64 2), .pointer (some ⟨g, 0, none⟩)] (by kernel_rfl) ((exp1_at _ _ _ _ _ _ _ _ (by assumption) _ _ (hide ((Gr.trans ((Gr.refl _).drew) hS5_).blk (unhide hB))) (by assumption)).mono ?_)
    rintro r w6_ ⟨e12_0, e12_1, e12_2, e12_3, e12_4, rfl, h12_, hg⟩
    refine ⟨_, rfl, ?_⟩
    have hS6_ : Gr u3.drew w6_ := Gr.trans hS5_ hg
    clear hg
    refine hK.out _ _ hS6_ (fun _ => ?_)
    clear hK K
    simp only [Act.put, List.setIfInBounds_toArray, List.set_cons_zero, List.set_cons_succ, List.getElem_toArray, List.getElem_cons_zero, List.getElem_cons_succ]
    refine wpAnyH_ready (rs := [14]) (by kernel_rfl) (by simp) (AllReadyH.cons (o := _) rfl (fun K hK => ?_) AllReadyH.nil)
    refine step_callw (by kernel_rfl) 16 #[(.agg #[.int .u64 a0, .int .u64 a1, .int .u64 a2, .int .u64 a3, .int .u64 a4])] (by kernel_rfl) ((square_at _ _ _ _ _ _ (by assumption) _).mono ?_)
    rintro r w7_ ⟨e14_0, e14_1, e14_2, e14_3, e14_4, rfl, h14_, hg⟩
    refine ⟨_, rfl, ?_⟩
    have hS7_ : Gr u3.drew w7_ := Gr.trans hS6_ hg
    clear hg
    refine hK.out _ _ hS7_ (fun _ => ?_)
    clear hK K
    simp only [Act.put, List.setIfInBounds_toArray, List.set_cons_zero, List.set_cons_succ, List.getElem_toArray, List.getElem_cons_zero, List.getElem_cons_succ]
    refine wpAnyH_ready (rs := [15]) (by kernel_rfl) (by simp) (AllReadyH.cons (o := _) rfl (fun K hK => ?_) AllReadyH.nil)
    refine step_callw (by kernel_rfl) 10 #[(.agg #[.int .u64 e12_0, .int .u64 e12_1, .int .u64 e12_2, .int .u64 e12_3, .int .u64 e12_4]), (.agg #[.int .u64 e14_0, .int .u64 e14_1, .int .u64 e14_2, .int .u64 e14_3, .int .u64 e14_4])] (by kernel_rfl) ((same_at _ _ _ _ _ _ _ _ _ _ _ _ true (by assumption) (by assumption) (by assumption) _).mono ?_)
    rintro r w8_ ⟨rfl, hg⟩
    refine ⟨_, rfl, ?_⟩
    have hS8_ : Gr u3.drew w8_ := Gr.trans hS7_ hg
    clear hg
    refine hK.out _ _ hS8_ (fun _ => ?_)
    clear hK K
    simp only [Act.put, List.setIfInBounds_toArray, List.set_cons_zero, List.set_cons_succ, List.getElem_toArray, List.getElem_cons_zero, List.getElem_cons_succ]
    refine wpAnyH_take (i := 16) (v := (.bool true)) rfl (by kernel_rfl) (by kernel_rfl) (by kernel_rfl) (fun _ _ _ h => h) (.inl ⟨by kernel_rfl, fun u hu => by kernel_rfl⟩) hS8_ ?_
    simp only [Act.put, List.setIfInBounds_toArray, List.set_cons_zero, List.set_cons_succ, List.getElem_toArray, List.getElem_cons_zero, List.getElem_cons_succ]
    refine wpAnyH_take (i := 17) (v := (.bool true)) rfl (by kernel_rfl) (by kernel_rfl) (by kernel_rfl) (fun _ _ _ h => h) (.inl ⟨by kernel_rfl, fun u hu => by kernel_rfl⟩) hS8_ ?_
    simp only [Act.put, List.setIfInBounds_toArray, List.set_cons_zero, List.set_cons_succ, List.getElem_toArray, List.getElem_cons_zero, List.getElem_cons_succ]
    refine wpAnyH_take (i := 18) (v := (.agg #[.int .u64 a0, .int .u64 a1, .int .u64 a2, .int .u64 a3, .int .u64 a4])) rfl (by kernel_rfl) (by kernel_rfl) (by kernel_rfl) (fun _ _ _ h => h) (.inl ⟨by kernel_rfl, fun u hu => exec_row u 29 (.tmp 7) rfl g 0 (by kernel_rfl) [.int .u64 a0, .int .u64 a1, .int .u64 a2, .int .u64 a3, .int .u64 a4] _ (range_row (hu.blk (unhide hB))) Try.underlying29 rfl Try.infoElem⟩) hS8_ ?_
    simp only [Act.put, List.setIfInBounds_toArray, List.set_cons_zero, List.set_cons_succ, List.getElem_toArray, List.getElem_cons_zero, List.getElem_cons_succ]
    refine wpAnyH_take (i := 19) (v := (.agg LL.toArray)) rfl (by kernel_rfl) (by kernel_rfl) (by kernel_rfl) (fun _ _ _ h => h) (.inl ⟨by kernel_rfl, fun u hu => exec_row u 23 (.tmp 9) rfl gl 0 (by kernel_rfl) LL _ (range_row (hu.blk (unhide hL))) Try.underlying23 rfl (unhide hi9)⟩) hS8_ ?_
    simp only [Act.put, List.setIfInBounds_toArray, List.set_cons_zero, List.set_cons_succ, List.getElem_toArray, List.getElem_cons_zero, List.getElem_cons_succ]
    refine wpAnyH_take (i := 22) (v := (.agg #[.int .u64 a0, .int .u64 a1, .int .u64 a2, .int .u64 a3, .int .u64 a4])) rfl (by kernel_rfl) (by kernel_rfl) (by kernel_rfl) (fun _ _ _ h => h) (.inl ⟨by kernel_rfl, fun u hu => exec_row u 29 (.tmp 7) rfl g 0 (by kernel_rfl) [.int .u64 a0, .int .u64 a1, .int .u64 a2, .int .u64 a3, .int .u64 a4] _ (range_row (hu.blk (unhide hB))) Try.underlying29 rfl Try.infoElem⟩) hS8_ ?_
    simp only [Act.put, List.setIfInBounds_toArray, List.set_cons_zero, List.set_cons_succ, List.getElem_toArray, List.getElem_cons_zero, List.getElem_cons_succ]
    refine wpAnyH_ready (rs := [20]) (by kernel_rfl) (by simp) (AllReadyH.cons (o := _) rfl (fun K hK => ?_) AllReadyH.nil)
    refine step_callw (by kernel_rfl) 19 #[(.agg #[.int .u64 a0, .int .u64 a1, .int .u64 a2, .int .u64 a3, .int .u64 a4]), (.agg LL.toArray)] (by kernel_rfl) ((power_L _ _ _ _ _ _ _ _ (by assumption) (by assumption) (by assumption) _).mono ?_)
    rintro r w9_ ⟨e20_0, e20_1, e20_2, e20_3, e20_4, rfl, h20_, hg⟩
    refine ⟨_, rfl, ?_⟩
    have hS9_ : Gr u3.drew w9_ := Gr.trans hS8_ hg
    clear hg
    refine hK.out _ _ hS9_ (fun _ => ?_)
    clear hK K
    simp only [Act.put, List.setIfInBounds_toArray, List.set_cons_zero, List.set_cons_succ, List.getElem_toArray, List.getElem_cons_zero, List.getElem_cons_succ]
    refine wpAnyH_ready (rs := [21]) (by kernel_rfl) (by simp) (AllReadyH.cons (o := _) rfl (fun K hK => ?_) AllReadyH.nil)
    refine step_callw (by kernel_rfl) 15 #[(.agg #[.int .u64 e20_0, .int .u64 e20_1, .int .u64 e20_2, .int .u64 e20_3, .int .u64 e20_4])] (by kernel_rfl) ((zero_at _ _ _ _ _ _ true (by assumption) (by assumption) _).mono ?_)
    rintro r w10_ ⟨rfl, hg⟩
    refine ⟨_, rfl, ?_⟩
    have hS10_ : Gr u3.drew w10_ := Gr.trans hS9_ hg
    clear hg
    refine hK.out _ _ hS10_ (fun _ => ?_)
    clear hK K
    simp only [Act.put, List.setIfInBounds_toArray, List.set_cons_zero, List.set_cons_succ, List.getElem_toArray, List.getElem_cons_zero, List.getElem_cons_succ]
    refine wpAnyH_ready (rs := [23]) (by kernel_rfl) (by simp) (AllReadyH.cons (o := _) rfl (fun K hK => ?_) AllReadyH.nil)
    refine step_callw (by kernel_rfl) 15 #[(.agg #[.int .u64 a0, .int .u64 a1, .int .u64 a2, .int .u64 a3, .int .u64 a4])] (by kernel_rfl) ((zero_at _ _ _ _ _ _ true (by assumption) (by assumption) _).mono ?_)
    rintro r w11_ ⟨rfl, hg⟩
    refine ⟨_, rfl, ?_⟩
    have hS11_ : Gr u3.drew w11_ := Gr.trans hS10_ hg
    clear hg
    refine hK.out _ _ hS11_ (fun _ => ?_)
    clear hK K
    simp only [Act.put, List.setIfInBounds_toArray, List.set_cons_zero, List.set_cons_succ, List.getElem_toArray, List.getElem_cons_zero, List.getElem_cons_succ]
    refine wpAnyH_take (i := 24) (v := (.bool true)) rfl (by kernel_rfl) (by kernel_rfl) (by kernel_rfl) (fun _ _ _ h => h) (.inl ⟨by kernel_rfl, fun u hu => by kernel_rfl⟩) hS11_ ?_
    simp only [Act.put, List.setIfInBounds_toArray, List.set_cons_zero, List.set_cons_succ, List.getElem_toArray, List.getElem_cons_zero, List.getElem_cons_succ]
    refine wpAnyH_take (i := 25) (v := (.bool true)) rfl (by kernel_rfl) (by kernel_rfl) (by kernel_rfl) (fun _ _ _ h => h) (.inl ⟨by kernel_rfl, fun u hu => by kernel_rfl⟩) hS11_ ?_
    simp only [Act.put, List.setIfInBounds_toArray, List.set_cons_zero, List.set_cons_succ, List.getElem_toArray, List.getElem_cons_zero, List.getElem_cons_succ]
    refine wpAnyH_take (i := 26) (v := (.bool true)) rfl (by kernel_rfl) (by kernel_rfl) (by kernel_rfl) (fun _ _ _ h => h) (.inl ⟨by kernel_rfl, fun u hu => by kernel_rfl⟩) hS11_ ?_
    simp only [Act.put, List.setIfInBounds_toArray, List.set_cons_zero, List.set_cons_succ, List.getElem_toArray, List.getElem_cons_zero, List.getElem_cons_succ]
    refine wpAnyH_take (i := 27) (v := (.agg #[.int .u64 a0, .int .u64 a1, .int .u64 a2, .int .u64 a3, .int .u64 a4])) rfl (by kernel_rfl) (by kernel_rfl) (by kernel_rfl) (fun _ _ _ h => h) (.inl ⟨by kernel_rfl, fun u hu => exec_row u 29 (.tmp 7) rfl g 0 (by kernel_rfl) [.int .u64 a0, .int .u64 a1, .int .u64 a2, .int .u64 a3, .int .u64 a4] _ (range_row (hu.blk (unhide hB))) Try.underlying29 rfl Try.infoElem⟩) hS11_ ?_
    simp only [Act.put, List.setIfInBounds_toArray, List.set_cons_zero, List.set_cons_succ, List.getElem_toArray, List.getElem_cons_zero, List.getElem_cons_succ]
    refine wpAnyH_ready (rs := [28]) (by kernel_rfl) (by simp) (AllReadyH.cons (o := _) rfl (fun K hK => ?_) AllReadyH.nil)
    refine step_callw (by kernel_rfl) 15 #[(.agg #[.int .u64 a0, .int .u64 a1, .int .u64 a2, .int .u64 a3, .int .u64 a4])] (by kernel_rfl) ((zero_at _ _ _ _ _ _ true (by assumption) (by assumption) _).mono ?_)
    rintro r w12_ ⟨rfl, hg⟩
    refine ⟨_, rfl, ?_⟩
    have hS12_ : Gr u3.drew w12_ := Gr.trans hS11_ hg
    clear hg
    refine hK.out _ _ hS12_ (fun _ => ?_)
    clear hK K
    simp only [Act.put, List.setIfInBounds_toArray, List.set_cons_zero, List.set_cons_succ, List.getElem_toArray, List.getElem_cons_zero, List.getElem_cons_succ]
    refine wpAnyH_take (i := 29) (v := (.bool true)) rfl (by kernel_rfl) (by kernel_rfl) (by kernel_rfl) (fun _ _ _ h => h) (.inl ⟨by kernel_rfl, fun u hu => by kernel_rfl⟩) hS12_ ?_
    simp only [Act.put, List.setIfInBounds_toArray, List.set_cons_zero, List.set_cons_succ, List.getElem_toArray, List.getElem_cons_zero, List.getElem_cons_succ]
    refine wpAnyH_take (i := 30) (v := undef) rfl (by kernel_rfl) (by kernel_rfl) (by kernel_rfl) (fun _ _ _ h => h) (.inr ⟨by kernel_rfl, rfl⟩) hS12_ ?_
    simp only [Act.put, List.setIfInBounds_toArray, List.set_cons_zero, List.set_cons_succ, List.getElem_toArray, List.getElem_cons_zero, List.getElem_cons_succ]
    refine wpAnyH_take (i := 31) (v := undef) rfl (by kernel_rfl) (by kernel_rfl) (by kernel_rfl) (fun _ _ _ h => h) (.inr ⟨by kernel_rfl, rfl⟩) hS12_ ?_
    simp only [Act.put, List.setIfInBounds_toArray, List.set_cons_zero, List.set_cons_succ, List.getElem_toArray, List.getElem_cons_zero, List.getElem_cons_succ]
    refine wpAnyH_take (i := 32) (v := undef) rfl (by kernel_rfl) (by kernel_rfl) (by kernel_rfl) (fun _ _ _ h => h) (.inr ⟨by kernel_rfl, rfl⟩) hS12_ ?_
    simp only [Act.put, List.setIfInBounds_toArray, List.set_cons_zero, List.set_cons_succ, List.getElem_toArray, List.getElem_cons_zero, List.getElem_cons_succ]
    refine wpAnyH_take (i := 33) (v := undef) rfl (by kernel_rfl) (by kernel_rfl) (by kernel_rfl) (fun _ _ _ h => h) (.inr ⟨by kernel_rfl, rfl⟩) hS12_ ?_
    simp only [Act.put, List.setIfInBounds_toArray, List.set_cons_zero, List.set_cons_succ, List.getElem_toArray, List.getElem_cons_zero, List.getElem_cons_succ]
    refine wpAnyH_take (i := 34) (v := undef) rfl (by kernel_rfl) (by kernel_rfl) (by kernel_rfl) (fun _ _ _ h => h) (.inr ⟨by kernel_rfl, rfl⟩) hS12_ ?_
    simp only [Act.put, List.setIfInBounds_toArray, List.set_cons_zero, List.set_cons_succ, List.getElem_toArray, List.getElem_cons_zero, List.getElem_cons_succ]
    refine wpAnyH_take (i := 35) (v := (.bool true)) rfl (by kernel_rfl) (by kernel_rfl) (by kernel_rfl) (fun _ _ _ h => h) (.inl ⟨by kernel_rfl, fun u hu => by kernel_rfl⟩) hS12_ ?_
    simp only [Act.put, List.setIfInBounds_toArray, List.set_cons_zero, List.set_cons_succ, List.getElem_toArray, List.getElem_cons_zero, List.getElem_cons_succ]
    refine wpAnyH_take (i := 36) (v := (.bool true)) rfl (by kernel_rfl) (by kernel_rfl) (by kernel_rfl) (fun _ _ _ h => h) (.inl ⟨by kernel_rfl, fun u hu => by kernel_rfl⟩) hS12_ ?_
    simp only [Act.put, List.setIfInBounds_toArray, List.set_cons_zero, List.set_cons_succ, List.getElem_toArray, List.getElem_cons_zero, List.getElem_cons_succ]
    refine wpAnyH_ready (rs := [37]) (by kernel_rfl) (by simp) (AllReadyH.cons (o := _) rfl (fun K hK => ?_) AllReadyH.nil)
    go_simp
    refine hK.out _ _ hS12_ (fun _ => ?_)
    clear hK K
    refine wpAnyH_done (by kernel_rfl) ?_ _
    go_wp2_with fail
    refine bodyPost_ret (v := .bool true) ?_ rfl ?_
    · simp [results, Try.results5, go_sem]
    · exact ⟨rfl, (unhide hG).trans (((Gr.refl _).drew).trans hS12_)⟩
  · have hq0 := ferm N (unhide hN0) hz
    rw [← p1_PP] at hq0
    have hq1 : Hid (decide (N % pp = 0) = false) := hide (decide_eq_false hz)
    have hq2 : Hid (decide (N ^ p1 % pp = 0) = false) := hide (decide_eq_false (by rw [hq0]; decide +kernel))
    have hq3 : Hid (decide (N ^ p1 % pp = 1 % pp) = true) := hide (decide_eq_true hq0)
    clear hz hq0
    refine wp_region_held_drew (S := fun x => Gr u3.drew x) (by kernel_rfl) (Gr.refl _) (fun hS0 => ?_)
    refine wpAnyH_take (i := 0) (v := (.func (.func 18) #[] #[.pointer (some ⟨g, 0, none⟩)])) rfl (by kernel_rfl) (by kernel_rfl) (by kernel_rfl) (fun _ _ _ h => h) (.inl ⟨by kernel_rfl, fun u hu => by kernel_rfl⟩) hS0 ?_
    simp only [Act.put, List.setIfInBounds_toArray, List.set_cons_zero, List.set_cons_succ, List.getElem_toArray, List.getElem_cons_zero, List.getElem_cons_succ]
    refine wpAnyH_ready (rs := [1]) (by kernel_rfl) (by simp) (AllReadyH.cons (o := _) rfl (fun K hK => ?_) AllReadyH.nil)
    refine step_callw (by kernel_rfl) 18 #[(.int .u64 0), .pointer (some ⟨g, 0, none⟩)] (by kernel_rfl) ((exp1_at _ _ _ _ _ _ _ _ (by assumption) _ _ (hide ((Gr.trans ((Gr.refl _).drew) hS0).blk (unhide hB))) (by assumption)).mono ?_)
    rintro r w1_ ⟨e1_0, e1_1, e1_2, e1_3, e1_4, rfl, h1_, hg⟩
    refine ⟨_, rfl, ?_⟩
    have hS1_ : Gr u3.drew w1_ := Gr.trans hS0 hg
    clear hg
    refine hK.out _ _ hS1_ (fun _ => ?_)
    clear hK K
    simp only [Act.put, List.setIfInBounds_toArray, List.set_cons_zero, List.set_cons_succ, List.getElem_toArray, List.getElem_cons_zero, List.getElem_cons_succ]
    refine wpAnyH_ready (rs := [2]) (by kernel_rfl) (by simp) (AllReadyH.cons (o := _) rfl (fun K hK => ?_) AllReadyH.nil)
    refine step_callw (by kernel_rfl) 12 #[(.int .u64 1)] (by kernel_rfl) ((of_at _ (by omega) _).mono ?_)
    rintro r w2_ ⟨e2_0, e2_1, e2_2, e2_3, e2_4, rfl, h2_, hg⟩
    refine ⟨_, rfl, ?_⟩
    have hS2_ : Gr u3.drew w2_ := Gr.trans hS1_ hg
    clear hg
    refine hK.out _ _ hS2_ (fun _ => ?_)
    clear hK K
    simp only [Act.put, List.setIfInBounds_toArray, List.set_cons_zero, List.set_cons_succ, List.getElem_toArray, List.getElem_cons_zero, List.getElem_cons_succ]
    refine wpAnyH_ready (rs := [3]) (by kernel_rfl) (by simp) (AllReadyH.cons (o := _) rfl (fun K hK => ?_) AllReadyH.nil)
    refine step_callw (by kernel_rfl) 10 #[(.agg #[.int .u64 e1_0, .int .u64 e1_1, .int .u64 e1_2, .int .u64 e1_3, .int .u64 e1_4]), (.agg #[.int .u64 e2_0, .int .u64 e2_1, .int .u64 e2_2, .int .u64 e2_3, .int .u64 e2_4])] (by kernel_rfl) ((same_at _ _ _ _ _ _ _ _ _ _ _ _ true (by assumption) (by assumption) (by assumption) _).mono ?_)
    rintro r w3_ ⟨rfl, hg⟩
    refine ⟨_, rfl, ?_⟩
    have hS3_ : Gr u3.drew w3_ := Gr.trans hS2_ hg
    clear hg
    refine hK.out _ _ hS3_ (fun _ => ?_)
    clear hK K
    simp only [Act.put, List.setIfInBounds_toArray, List.set_cons_zero, List.set_cons_succ, List.getElem_toArray, List.getElem_cons_zero, List.getElem_cons_succ]
    refine wpAnyH_take (i := 4) (v := (.bool true)) rfl (by kernel_rfl) (by kernel_rfl) (by kernel_rfl) (fun _ _ _ h => h) (.inl ⟨by kernel_rfl, fun u hu => by kernel_rfl⟩) hS3_ ?_
    simp only [Act.put, List.setIfInBounds_toArray, List.set_cons_zero, List.set_cons_succ, List.getElem_toArray, List.getElem_cons_zero, List.getElem_cons_succ]
    refine wpAnyH_take (i := 5) (v := (.func (.func 18) #[] #[.pointer (some ⟨g, 0, none⟩)])) rfl (by kernel_rfl) (by kernel_rfl) (by kernel_rfl) (fun _ _ _ h => h) (.inl ⟨by kernel_rfl, fun u hu => by kernel_rfl⟩) hS3_ ?_
    simp only [Act.put, List.setIfInBounds_toArray, List.set_cons_zero, List.set_cons_succ, List.getElem_toArray, List.getElem_cons_zero, List.getElem_cons_succ]
    refine wpAnyH_take (i := 7) (v := (.agg #[.int .u64 a0, .int .u64 a1, .int .u64 a2, .int .u64 a3, .int .u64 a4])) rfl (by kernel_rfl) (by kernel_rfl) (by kernel_rfl) (fun _ _ _ h => h) (.inl ⟨by kernel_rfl, fun u hu => exec_row u 29 (.tmp 7) rfl g 0 (by kernel_rfl) [.int .u64 a0, .int .u64 a1, .int .u64 a2, .int .u64 a3, .int .u64 a4] _ (range_row (hu.blk (unhide hB))) Try.underlying29 rfl Try.infoElem⟩) hS3_ ?_
    simp only [Act.put, List.setIfInBounds_toArray, List.set_cons_zero, List.set_cons_succ, List.getElem_toArray, List.getElem_cons_zero, List.getElem_cons_succ]
    refine wpAnyH_ready (rs := [6]) (by kernel_rfl) (by simp) (AllReadyH.cons (o := _) rfl (fun K hK => ?_) AllReadyH.nil)
    refine step_callw (by kernel_rfl) 18 #[(.int .u64 1), .pointer (some ⟨g, 0, none⟩)] (by kernel_rfl) ((exp1_at _ _ _ _ _ _ _ _ (by assumption) _ _ (hide ((Gr.trans ((Gr.refl _).drew) hS3_).blk (unhide hB))) (by assumption)).mono ?_)
    rintro r w4_ ⟨e6_0, e6_1, e6_2, e6_3, e6_4, rfl, h6_, hg⟩
    refine ⟨_, rfl, ?_⟩
    have hS4_ : Gr u3.drew w4_ := Gr.trans hS3_ hg
    clear hg
    refine hK.out _ _ hS4_ (fun _ => ?_)
    clear hK K
    simp only [Act.put, List.setIfInBounds_toArray, List.set_cons_zero, List.set_cons_succ, List.getElem_toArray, List.getElem_cons_zero, List.getElem_cons_succ]
    refine wpAnyH_ready (rs := [8]) (by kernel_rfl) (by simp) (AllReadyH.cons (o := _) rfl (fun K hK => ?_) AllReadyH.nil)
    refine step_callw (by kernel_rfl) 10 #[(.agg #[.int .u64 e6_0, .int .u64 e6_1, .int .u64 e6_2, .int .u64 e6_3, .int .u64 e6_4]), (.agg #[.int .u64 a0, .int .u64 a1, .int .u64 a2, .int .u64 a3, .int .u64 a4])] (by kernel_rfl) ((same_at _ _ _ _ _ _ _ _ _ _ _ _ true (by assumption) (by assumption) (by assumption) _).mono ?_)
    rintro r w5_ ⟨rfl, hg⟩
    refine ⟨_, rfl, ?_⟩
    have hS5_ : Gr u3.drew w5_ := Gr.trans hS4_ hg
    clear hg
    refine hK.out _ _ hS5_ (fun _ => ?_)
    clear hK K
    simp only [Act.put, List.setIfInBounds_toArray, List.set_cons_zero, List.set_cons_succ, List.getElem_toArray, List.getElem_cons_zero, List.getElem_cons_succ]
    refine wpAnyH_take (i := 9) (v := (.bool true)) rfl (by kernel_rfl) (by kernel_rfl) (by kernel_rfl) (fun _ _ _ h => h) (.inl ⟨by kernel_rfl, fun u hu => by kernel_rfl⟩) hS5_ ?_
    simp only [Act.put, List.setIfInBounds_toArray, List.set_cons_zero, List.set_cons_succ, List.getElem_toArray, List.getElem_cons_zero, List.getElem_cons_succ]
    refine wpAnyH_take (i := 10) (v := (.bool true)) rfl (by kernel_rfl) (by kernel_rfl) (by kernel_rfl) (fun _ _ _ h => h) (.inl ⟨by kernel_rfl, fun u hu => by kernel_rfl⟩) hS5_ ?_
    simp only [Act.put, List.setIfInBounds_toArray, List.set_cons_zero, List.set_cons_succ, List.getElem_toArray, List.getElem_cons_zero, List.getElem_cons_succ]
    refine wpAnyH_take (i := 11) (v := (.func (.func 18) #[] #[.pointer (some ⟨g, 0, none⟩)])) rfl (by kernel_rfl) (by kernel_rfl) (by kernel_rfl) (fun _ _ _ h => h) (.inl ⟨by kernel_rfl, fun u hu => by kernel_rfl⟩) hS5_ ?_
    simp only [Act.put, List.setIfInBounds_toArray, List.set_cons_zero, List.set_cons_succ, List.getElem_toArray, List.getElem_cons_zero, List.getElem_cons_succ]
    refine wpAnyH_take (i := 13) (v := (.agg #[.int .u64 a0, .int .u64 a1, .int .u64 a2, .int .u64 a3, .int .u64 a4])) rfl (by kernel_rfl) (by kernel_rfl) (by kernel_rfl) (fun _ _ _ h => h) (.inl ⟨by kernel_rfl, fun u hu => exec_row u 29 (.tmp 7) rfl g 0 (by kernel_rfl) [.int .u64 a0, .int .u64 a1, .int .u64 a2, .int .u64 a3, .int .u64 a4] _ (range_row (hu.blk (unhide hB))) Try.underlying29 rfl Try.infoElem⟩) hS5_ ?_
    simp only [Act.put, List.setIfInBounds_toArray, List.set_cons_zero, List.set_cons_succ, List.getElem_toArray, List.getElem_cons_zero, List.getElem_cons_succ]
    refine wpAnyH_ready (rs := [12]) (by kernel_rfl) (by simp) (AllReadyH.cons (o := _) rfl (fun K hK => ?_) AllReadyH.nil)
    refine step_callw (by kernel_rfl) 18 #[(.int .u64 2), .pointer (some ⟨g, 0, none⟩)] (by kernel_rfl) ((exp1_at _ _ _ _ _ _ _ _ (by assumption) _ _ (hide ((Gr.trans ((Gr.refl _).drew) hS5_).blk (unhide hB))) (by assumption)).mono ?_)
    rintro r w6_ ⟨e12_0, e12_1, e12_2, e12_3, e12_4, rfl, h12_, hg⟩
    refine ⟨_, rfl, ?_⟩
    have hS6_ : Gr u3.drew w6_ := Gr.trans hS5_ hg
    clear hg
    refine hK.out _ _ hS6_ (fun _ => ?_)
    clear hK K
    simp only [Act.put, List.setIfInBounds_toArray, List.set_cons_zero, List.set_cons_succ, List.getElem_toArray, List.getElem_cons_zero, List.getElem_cons_succ]
    refine wpAnyH_ready (rs := [14]) (by kernel_rfl) (by simp) (AllReadyH.cons (o := _) rfl (fun K hK => ?_) AllReadyH.nil)
    refine step_callw (by kernel_rfl) 16 #[(.agg #[.int .u64 a0, .int .u64 a1, .int .u64 a2, .int .u64 a3, .int .u64 a4])] (by kernel_rfl) ((square_at _ _ _ _ _ _ (by assumption) _).mono ?_)
    rintro r w7_ ⟨e14_0, e14_1, e14_2, e14_3, e14_4, rfl, h14_, hg⟩
    refine ⟨_, rfl, ?_⟩
    have hS7_ : Gr u3.drew w7_ := Gr.trans hS6_ hg
    clear hg
    refine hK.out _ _ hS7_ (fun _ => ?_)
    clear hK K
    simp only [Act.put, List.setIfInBounds_toArray, List.set_cons_zero, List.set_cons_succ, List.getElem_toArray, List.getElem_cons_zero, List.getElem_cons_succ]
    refine wpAnyH_ready (rs := [15]) (by kernel_rfl) (by simp) (AllReadyH.cons (o := _) rfl (fun K hK => ?_) AllReadyH.nil)
    refine step_callw (by kernel_rfl) 10 #[(.agg #[.int .u64 e12_0, .int .u64 e12_1, .int .u64 e12_2, .int .u64 e12_3, .int .u64 e12_4]), (.agg #[.int .u64 e14_0, .int .u64 e14_1, .int .u64 e14_2, .int .u64 e14_3, .int .u64 e14_4])] (by kernel_rfl) ((same_at _ _ _ _ _ _ _ _ _ _ _ _ true (by assumption) (by assumption) (by assumption) _).mono ?_)
    rintro r w8_ ⟨rfl, hg⟩
    refine ⟨_, rfl, ?_⟩
    have hS8_ : Gr u3.drew w8_ := Gr.trans hS7_ hg
    clear hg
    refine hK.out _ _ hS8_ (fun _ => ?_)
    clear hK K
    simp only [Act.put, List.setIfInBounds_toArray, List.set_cons_zero, List.set_cons_succ, List.getElem_toArray, List.getElem_cons_zero, List.getElem_cons_succ]
    refine wpAnyH_take (i := 16) (v := (.bool true)) rfl (by kernel_rfl) (by kernel_rfl) (by kernel_rfl) (fun _ _ _ h => h) (.inl ⟨by kernel_rfl, fun u hu => by kernel_rfl⟩) hS8_ ?_
    simp only [Act.put, List.setIfInBounds_toArray, List.set_cons_zero, List.set_cons_succ, List.getElem_toArray, List.getElem_cons_zero, List.getElem_cons_succ]
    refine wpAnyH_take (i := 17) (v := (.bool true)) rfl (by kernel_rfl) (by kernel_rfl) (by kernel_rfl) (fun _ _ _ h => h) (.inl ⟨by kernel_rfl, fun u hu => by kernel_rfl⟩) hS8_ ?_
    simp only [Act.put, List.setIfInBounds_toArray, List.set_cons_zero, List.set_cons_succ, List.getElem_toArray, List.getElem_cons_zero, List.getElem_cons_succ]
    refine wpAnyH_take (i := 18) (v := (.agg #[.int .u64 a0, .int .u64 a1, .int .u64 a2, .int .u64 a3, .int .u64 a4])) rfl (by kernel_rfl) (by kernel_rfl) (by kernel_rfl) (fun _ _ _ h => h) (.inl ⟨by kernel_rfl, fun u hu => exec_row u 29 (.tmp 7) rfl g 0 (by kernel_rfl) [.int .u64 a0, .int .u64 a1, .int .u64 a2, .int .u64 a3, .int .u64 a4] _ (range_row (hu.blk (unhide hB))) Try.underlying29 rfl Try.infoElem⟩) hS8_ ?_
    simp only [Act.put, List.setIfInBounds_toArray, List.set_cons_zero, List.set_cons_succ, List.getElem_toArray, List.getElem_cons_zero, List.getElem_cons_succ]
    refine wpAnyH_take (i := 19) (v := (.agg LL.toArray)) rfl (by kernel_rfl) (by kernel_rfl) (by kernel_rfl) (fun _ _ _ h => h) (.inl ⟨by kernel_rfl, fun u hu => exec_row u 23 (.tmp 9) rfl gl 0 (by kernel_rfl) LL _ (range_row (hu.blk (unhide hL))) Try.underlying23 rfl (unhide hi9)⟩) hS8_ ?_
    simp only [Act.put, List.setIfInBounds_toArray, List.set_cons_zero, List.set_cons_succ, List.getElem_toArray, List.getElem_cons_zero, List.getElem_cons_succ]
    refine wpAnyH_take (i := 22) (v := (.agg #[.int .u64 a0, .int .u64 a1, .int .u64 a2, .int .u64 a3, .int .u64 a4])) rfl (by kernel_rfl) (by kernel_rfl) (by kernel_rfl) (fun _ _ _ h => h) (.inl ⟨by kernel_rfl, fun u hu => exec_row u 29 (.tmp 7) rfl g 0 (by kernel_rfl) [.int .u64 a0, .int .u64 a1, .int .u64 a2, .int .u64 a3, .int .u64 a4] _ (range_row (hu.blk (unhide hB))) Try.underlying29 rfl Try.infoElem⟩) hS8_ ?_
    simp only [Act.put, List.setIfInBounds_toArray, List.set_cons_zero, List.set_cons_succ, List.getElem_toArray, List.getElem_cons_zero, List.getElem_cons_succ]
    refine wpAnyH_ready (rs := [20]) (by kernel_rfl) (by simp) (AllReadyH.cons (o := _) rfl (fun K hK => ?_) AllReadyH.nil)
    refine step_callw (by kernel_rfl) 19 #[(.agg #[.int .u64 a0, .int .u64 a1, .int .u64 a2, .int .u64 a3, .int .u64 a4]), (.agg LL.toArray)] (by kernel_rfl) ((power_L _ _ _ _ _ _ _ _ (by assumption) (by assumption) (by assumption) _).mono ?_)
    rintro r w9_ ⟨e20_0, e20_1, e20_2, e20_3, e20_4, rfl, h20_, hg⟩
    refine ⟨_, rfl, ?_⟩
    have hS9_ : Gr u3.drew w9_ := Gr.trans hS8_ hg
    clear hg
    refine hK.out _ _ hS9_ (fun _ => ?_)
    clear hK K
    simp only [Act.put, List.setIfInBounds_toArray, List.set_cons_zero, List.set_cons_succ, List.getElem_toArray, List.getElem_cons_zero, List.getElem_cons_succ]
    refine wpAnyH_ready (rs := [21]) (by kernel_rfl) (by simp) (AllReadyH.cons (o := _) rfl (fun K hK => ?_) AllReadyH.nil)
    refine step_callw (by kernel_rfl) 15 #[(.agg #[.int .u64 e20_0, .int .u64 e20_1, .int .u64 e20_2, .int .u64 e20_3, .int .u64 e20_4])] (by kernel_rfl) ((zero_at _ _ _ _ _ _ false (by assumption) (by assumption) _).mono ?_)
    rintro r w10_ ⟨rfl, hg⟩
    refine ⟨_, rfl, ?_⟩
    have hS10_ : Gr u3.drew w10_ := Gr.trans hS9_ hg
    clear hg
    refine hK.out _ _ hS10_ (fun _ => ?_)
    clear hK K
    simp only [Act.put, List.setIfInBounds_toArray, List.set_cons_zero, List.set_cons_succ, List.getElem_toArray, List.getElem_cons_zero, List.getElem_cons_succ]
    refine wpAnyH_ready (rs := [23]) (by kernel_rfl) (by simp) (AllReadyH.cons (o := _) rfl (fun K hK => ?_) AllReadyH.nil)
    refine step_callw (by kernel_rfl) 15 #[(.agg #[.int .u64 a0, .int .u64 a1, .int .u64 a2, .int .u64 a3, .int .u64 a4])] (by kernel_rfl) ((zero_at _ _ _ _ _ _ false (by assumption) (by assumption) _).mono ?_)
    rintro r w11_ ⟨rfl, hg⟩
    refine ⟨_, rfl, ?_⟩
    have hS11_ : Gr u3.drew w11_ := Gr.trans hS10_ hg
    clear hg
    refine hK.out _ _ hS11_ (fun _ => ?_)
    clear hK K
    simp only [Act.put, List.setIfInBounds_toArray, List.set_cons_zero, List.set_cons_succ, List.getElem_toArray, List.getElem_cons_zero, List.getElem_cons_succ]
    refine wpAnyH_take (i := 24) (v := (.bool true)) rfl (by kernel_rfl) (by kernel_rfl) (by kernel_rfl) (fun _ _ _ h => h) (.inl ⟨by kernel_rfl, fun u hu => by kernel_rfl⟩) hS11_ ?_
    simp only [Act.put, List.setIfInBounds_toArray, List.set_cons_zero, List.set_cons_succ, List.getElem_toArray, List.getElem_cons_zero, List.getElem_cons_succ]
    refine wpAnyH_take (i := 25) (v := (.bool true)) rfl (by kernel_rfl) (by kernel_rfl) (by kernel_rfl) (fun _ _ _ h => h) (.inl ⟨by kernel_rfl, fun u hu => by kernel_rfl⟩) hS11_ ?_
    simp only [Act.put, List.setIfInBounds_toArray, List.set_cons_zero, List.set_cons_succ, List.getElem_toArray, List.getElem_cons_zero, List.getElem_cons_succ]
    refine wpAnyH_take (i := 26) (v := (.bool true)) rfl (by kernel_rfl) (by kernel_rfl) (by kernel_rfl) (fun _ _ _ h => h) (.inl ⟨by kernel_rfl, fun u hu => by kernel_rfl⟩) hS11_ ?_
    simp only [Act.put, List.setIfInBounds_toArray, List.set_cons_zero, List.set_cons_succ, List.getElem_toArray, List.getElem_cons_zero, List.getElem_cons_succ]
    refine wpAnyH_take (i := 27) (v := (.agg #[.int .u64 a0, .int .u64 a1, .int .u64 a2, .int .u64 a3, .int .u64 a4])) rfl (by kernel_rfl) (by kernel_rfl) (by kernel_rfl) (fun _ _ _ h => h) (.inl ⟨by kernel_rfl, fun u hu => exec_row u 29 (.tmp 7) rfl g 0 (by kernel_rfl) [.int .u64 a0, .int .u64 a1, .int .u64 a2, .int .u64 a3, .int .u64 a4] _ (range_row (hu.blk (unhide hB))) Try.underlying29 rfl Try.infoElem⟩) hS11_ ?_
    simp only [Act.put, List.setIfInBounds_toArray, List.set_cons_zero, List.set_cons_succ, List.getElem_toArray, List.getElem_cons_zero, List.getElem_cons_succ]
    refine wpAnyH_ready (rs := [28]) (by kernel_rfl) (by simp) (AllReadyH.cons (o := _) rfl (fun K hK => ?_) AllReadyH.nil)
    refine step_callw (by kernel_rfl) 15 #[(.agg #[.int .u64 a0, .int .u64 a1, .int .u64 a2, .int .u64 a3, .int .u64 a4])] (by kernel_rfl) ((zero_at _ _ _ _ _ _ false (by assumption) (by assumption) _).mono ?_)
    rintro r w12_ ⟨rfl, hg⟩
    refine ⟨_, rfl, ?_⟩
    have hS12_ : Gr u3.drew w12_ := Gr.trans hS11_ hg
    clear hg
    refine hK.out _ _ hS12_ (fun _ => ?_)
    clear hK K
    simp only [Act.put, List.setIfInBounds_toArray, List.set_cons_zero, List.set_cons_succ, List.getElem_toArray, List.getElem_cons_zero, List.getElem_cons_succ]
    refine wpAnyH_take (i := 29) (v := (.bool false)) rfl (by kernel_rfl) (by kernel_rfl) (by kernel_rfl) (fun _ _ _ h => h) (.inl ⟨by kernel_rfl, fun u hu => by kernel_rfl⟩) hS12_ ?_
    simp only [Act.put, List.setIfInBounds_toArray, List.set_cons_zero, List.set_cons_succ, List.getElem_toArray, List.getElem_cons_zero, List.getElem_cons_succ]
    refine wpAnyH_take (i := 30) (v := (.agg #[.int .u64 a0, .int .u64 a1, .int .u64 a2, .int .u64 a3, .int .u64 a4])) rfl (by kernel_rfl) (by kernel_rfl) (by kernel_rfl) (fun _ _ _ h => h) (.inl ⟨by kernel_rfl, fun u hu => exec_row u 29 (.tmp 7) rfl g 0 (by kernel_rfl) [.int .u64 a0, .int .u64 a1, .int .u64 a2, .int .u64 a3, .int .u64 a4] _ (range_row (hu.blk (unhide hB))) Try.underlying29 rfl Try.infoElem⟩) hS12_ ?_
    simp only [Act.put, List.setIfInBounds_toArray, List.set_cons_zero, List.set_cons_succ, List.getElem_toArray, List.getElem_cons_zero, List.getElem_cons_succ]
    refine wpAnyH_take (i := 31) (v := (.agg LL.toArray)) rfl (by kernel_rfl) (by kernel_rfl) (by kernel_rfl) (fun _ _ _ h => h) (.inl ⟨by kernel_rfl, fun u hu => exec_row u 23 (.tmp 9) rfl gl 0 (by kernel_rfl) LL _ (range_row (hu.blk (unhide hL))) Try.underlying23 rfl (unhide hi9)⟩) hS12_ ?_
    simp only [Act.put, List.setIfInBounds_toArray, List.set_cons_zero, List.set_cons_succ, List.getElem_toArray, List.getElem_cons_zero, List.getElem_cons_succ]
    refine wpAnyH_ready (rs := [32]) (by kernel_rfl) (by simp) (AllReadyH.cons (o := _) rfl (fun K hK => ?_) AllReadyH.nil)
    refine step_callw (by kernel_rfl) 19 #[(.agg #[.int .u64 a0, .int .u64 a1, .int .u64 a2, .int .u64 a3, .int .u64 a4]), (.agg LL.toArray)] (by kernel_rfl) ((power_L _ _ _ _ _ _ _ _ (by assumption) (by assumption) (by assumption) _).mono ?_)
    rintro r w13_ ⟨e32_0, e32_1, e32_2, e32_3, e32_4, rfl, h32_, hg⟩
    refine ⟨_, rfl, ?_⟩
    have hS13_ : Gr u3.drew w13_ := Gr.trans hS12_ hg
    clear hg
    refine hK.out _ _ hS13_ (fun _ => ?_)
    clear hK K
    simp only [Act.put, List.setIfInBounds_toArray, List.set_cons_zero, List.set_cons_succ, List.getElem_toArray, List.getElem_cons_zero, List.getElem_cons_succ]
    refine wpAnyH_ready (rs := [33]) (by kernel_rfl) (by simp) (AllReadyH.cons (o := _) rfl (fun K hK => ?_) AllReadyH.nil)
    refine step_callw (by kernel_rfl) 12 #[(.int .u64 1)] (by kernel_rfl) ((of_at _ (by omega) _).mono ?_)
    rintro r w14_ ⟨e33_0, e33_1, e33_2, e33_3, e33_4, rfl, h33_, hg⟩
    refine ⟨_, rfl, ?_⟩
    have hS14_ : Gr u3.drew w14_ := Gr.trans hS13_ hg
    clear hg
    refine hK.out _ _ hS14_ (fun _ => ?_)
    clear hK K
    simp only [Act.put, List.setIfInBounds_toArray, List.set_cons_zero, List.set_cons_succ, List.getElem_toArray, List.getElem_cons_zero, List.getElem_cons_succ]
    refine wpAnyH_ready (rs := [34]) (by kernel_rfl) (by simp) (AllReadyH.cons (o := _) rfl (fun K hK => ?_) AllReadyH.nil)
    refine step_callw (by kernel_rfl) 10 #[(.agg #[.int .u64 e32_0, .int .u64 e32_1, .int .u64 e32_2, .int .u64 e32_3, .int .u64 e32_4]), (.agg #[.int .u64 e33_0, .int .u64 e33_1, .int .u64 e33_2, .int .u64 e33_3, .int .u64 e33_4])] (by kernel_rfl) ((same_at _ _ _ _ _ _ _ _ _ _ _ _ true (by assumption) (by assumption) (by assumption) _).mono ?_)
    rintro r w15_ ⟨rfl, hg⟩
    refine ⟨_, rfl, ?_⟩
    have hS15_ : Gr u3.drew w15_ := Gr.trans hS14_ hg
    clear hg
    refine hK.out _ _ hS15_ (fun _ => ?_)
    clear hK K
    simp only [Act.put, List.setIfInBounds_toArray, List.set_cons_zero, List.set_cons_succ, List.getElem_toArray, List.getElem_cons_zero, List.getElem_cons_succ]
    refine wpAnyH_take (i := 35) (v := (.bool true)) rfl (by kernel_rfl) (by kernel_rfl) (by kernel_rfl) (fun _ _ _ h => h) (.inl ⟨by kernel_rfl, fun u hu => by kernel_rfl⟩) hS15_ ?_
    simp only [Act.put, List.setIfInBounds_toArray, List.set_cons_zero, List.set_cons_succ, List.getElem_toArray, List.getElem_cons_zero, List.getElem_cons_succ]
    refine wpAnyH_take (i := 36) (v := (.bool true)) rfl (by kernel_rfl) (by kernel_rfl) (by kernel_rfl) (fun _ _ _ h => h) (.inl ⟨by kernel_rfl, fun u hu => by kernel_rfl⟩) hS15_ ?_
    simp only [Act.put, List.setIfInBounds_toArray, List.set_cons_zero, List.set_cons_succ, List.getElem_toArray, List.getElem_cons_zero, List.getElem_cons_succ]
    refine wpAnyH_ready (rs := [37]) (by kernel_rfl) (by simp) (AllReadyH.cons (o := _) rfl (fun K hK => ?_) AllReadyH.nil)
    go_simp
    refine hK.out _ _ hS15_ (fun _ => ?_)
    clear hK K
    refine wpAnyH_done (by kernel_rfl) ?_ _
    go_wp2_with fail
    refine bodyPost_ret (v := .bool true) ?_ rfl ?_
    · simp [results, Try.results5, go_sem]
    · exact ⟨rfl, (unhide hG).trans (((Gr.refl _).drew).trans hS15_)⟩
end Go.Proofs.Ytjncnmhigikdoab
