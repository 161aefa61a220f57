/-
  The reference: the code.
-/
import Derived.Test.YtdekjbdkpchbjaaPolyH
namespace Go.Proofs.Ytdekjbdkpchbjaa
open Go.RowKit
set_option maxRecDepth 100000
set_option linter.unusedSimpArgs false
set_option linter.unusedVariables false
theorem Lb.short {v : World} {s : Option Addr} {len cap : Nat} {B : List Int} (h : Lb v s len cap B) (n : Nat) (hn : n ≤ len) : Lb v s n cap (B.take n) := by
  refine ⟨by rw [List.length_take, h.len]; omega, h.isB.take n, ?_, Nat.le_trans hn h.cap, h.max⟩
  rcases h.sl with rfl | ⟨p, o, rfl, hat⟩
  · exact .inl (by simp)
  · refine .inr ⟨p, o, rfl, fun j hj => ?_⟩
    rw [List.length_take] at hj
    rw [hat j (by omega)]
    congr 2
    rw [List.getD_eq_getElem?_getD, List.getD_eq_getElem?_getD, List.getElem?_take, if_pos (by omega)]
theorem list_mid {ops : Array Oper} {Q : Exit → Act → World → Prop} {a : Act} {w : World} {o : Oper} {rest : List Oper} (x y z : Operand) (hw : Region.wanted o (yielded ops a.tmps) = true) (ho : o.op = .slice 26 x (some y) (some z) none)
    (s : Option Addr) (len cap q e : Nat) (hx : a.eval x = .slice s len cap) (hy : a.eval y = .int .i64 q) (hz0 : a.eval z = .int .i64 e) (B : List Int) (hb : Lb w s len cap B) (hqe : q ≤ e) (he : e ≤ len)
    (h : ∀ s', (∀ v, Lb v s len cap B → Lb v s' (e - q) (cap - q) ((B.drop q).take (e - q))) → wpList Try.prog ops Q rest (a.put o.dst (.slice s' (e - q) (cap - q))) w) : wpList Try.prog ops Q (o :: rest) a w := by
  refine list_val (.slice (if cap = q then s else s.map (·.add q)) (e - q) (cap - q)) hw ?_ (h _ fun v hv => (hv.rest q (by omega)).short (e - q) (by omega))
  have hc := hb.cap
  have h1 : (0 : Int) ≤ q := by omega
  have h2 : (q : Int) ≤ e := by omega
  have h3 : (e : Int) ≤ cap := by omega
  have hu : Try.prog.underlying 26 = some (.slice (Try.prog.elem 26)) := by kernel_rfl
  have hz : (sizeOf (Try.prog.elem 26)).run Try.prog w = .ok 1 w := by kernel_rfl
  simp [execOp, ho, hx, hy, hz0, run_sliceAt_slice _ _ _ _ _ _ hu, run_slice_lh _ _ _ _ _ hu _ _ _ _ h1 h2 h3, hz, sliced]
theorem key_tail {w : World} {g : Nat} {K : List Int} {t : TypeId} (h : w.heap[g]? = some (.cells (kc K) t (0, 0))) (hK : K.length = 32) (hb : IsB K) : Lb w (some ⟨g, 16, none⟩) 16 16 (K.drop 16) := by
  refine ⟨by rw [List.length_drop, hK], hb.drop 16, .inr ⟨g, 16, rfl, ?_⟩, Nat.le_refl _, by omega⟩
  intro j hj
  rw [List.length_drop, hK] at hj
  have h1 := kc_cell h (16 + j) (by omega)
  have e : (K.drop 16).getD j 0 = K.getD (16 + j) 0 := by rw [List.getD_eq_getElem?_getD, List.getElem?_drop, ← List.getD_eq_getElem?_getD]
  rw [e]
  exact h1
/-- the number of a block of bytes, one more bit above it; the sum so far -/
def bN (B : List Int) (k : Nat) : Nat := V (nb ((B.drop (16 * k)).take 16) ++ [1])
def acN (r : Nat) (B : List Int) : Nat → Nat
  | 0 => 0
  | k + 1 => (acN r B k + bN B k) * r % P5
/-- how many blocks -/
def nk (n : Nat) : Nat := (n + 15) / 16
/-- the code as a number, as bytes -/
def mcN (K B : List Int) : Nat := acN (V (nb (clL K))) B (nk B.length) + V (nb (K.drop 16))
def tgf (n i : Nat) : Int := ((n / 256 ^ i % 256 : Nat) : Int)
def tgL (n : Nat) : List Int := (List.range 16).map (tgf n)
theorem tgL_len (n : Nat) : (tgL n).length = 16 := by simp [tgL]
def mcL (K B : List Int) : List Int := tgL (mcN K B)
theorem V_digit : ∀ (l : List Nat), AllB l → ∀ i, l.getD i 0 = V l / 256 ^ i % 256
  | [], _, i => by simp [V]
  | x :: l, h, 0 => by
    have := h x List.mem_cons_self
    rw [V]
    simp
    omega
  | x :: l, h, i + 1 => by
    have h1 := V_digit l (fun y hy => h y (List.mem_cons_of_mem _ hy)) i
    have hx := h x List.mem_cons_self
    rw [List.getD_cons_succ, h1, V, Nat.pow_succ, Nat.mul_comm (256 ^ i) 256, ← Nat.div_div_eq_div_mul, show (x + 256 * V l) / 256 = V l from by omega]
theorem rest_lt (x : Nat) : x % P5 < 256 ^ 17 := by
  have h1 := Nat.mod_lt x (show 0 < P5 by rw [P5_eq]; omega)
  have h2 : (256 : Nat) ^ 17 = 87112285931760246646623899502532662132736 := by decide
  rw [P5_eq] at h1
  rw [P5_eq, h2]
  omega
set_option maxHeartbeats 8000000 in
theorem rmac_ok (K B : List Int) (hK : K.length = 32) (hKb : IsB K) (s : Option Addr) (n cap : Nat) (hbig : n ≤ 100000) (w : World) (lb : Lb w s n cap B) : Calls Try.prog 34 #[.agg (kc K), .slice s n cap] w (Tg (mcL K B) w) := by
  obtain ⟨T, hT⟩ : ∃ T, T = Tg (mcL K B) w := ⟨_, rfl⟩
  rw [← hT]
  replace hT := hide hT
  obtain ⟨SK, hSK⟩ : ∃ S, S = kc K := ⟨_, rfl⟩
  rw [← hSK]
  replace hSK := hide hSK
  replace hKb := hide hKb
  have hn := hide lb.len
  replace lb := hide lb
  go_enter Try.func34, Try.ntmps34
  go_upto_region 1 with fail
  have hB := ((Bl.nil w).new SK 23).new #[.int .u8 0, .int .u8 0, .int .u8 0, .int .u8 0, .int .u8 0, .int .u8 0, .int .u8 0, .int .u8 0, .int .u8 0, .int .u8 0, .int .u8 0, .int .u8 0, .int .u8 0, .int .u8 0, .int .u8 0, .int .u8 0] 41
  simp only [size_alloc, List.nil_append, List.cons_append] at hB
  generalize World.alloc _ _ = u at *
  rw [unhide hSK] at hB
  replace hB : Bl w [⟨w.heap.size, kc K, 23⟩, ⟨w.heap.size + 1, kc ZT, 41⟩] u := hB
  refine wp_region_lit ?_
  refine list_val (.agg (kc K)) (by kernel_rfl) (exec_arr _ 23 (.tmp 2) rfl (w.heap.size) (by kernel_rfl) (kc K) 23 _ (hB.get 0 (x := ⟨w.heap.size, kc K, 23⟩) rfl) Try.underlying23 rfl (by rw [Try.infoKey, kc_size, hK])) ?_
  simp only [Act.put, List.setIfInBounds_toArray, List.set_cons_zero, List.set_cons_succ, List.getElem_toArray, List.getElem_cons_zero, List.getElem_cons_succ]
  refine list_call 49 #[.agg (kc K)] (by kernel_rfl) (by kernel_rfl) ((rclamp_ok K hK (unhide hKb) _).mono ?_)
  rintro r w1 ⟨rfl, hg⟩
  refine ⟨_, rfl, ?_⟩
  replace hB := hB.more hg
  clear hg
  obtain ⟨R, hR⟩ : ∃ R, R = clL K := ⟨_, rfl⟩
  have hRl : R.length = 16 := by rw [hR]; exact clL_len K
  have hRb : Hid (IsB R) := by rw [hR]; exact clL_isB K (unhide hKb)
  rw [← hR]
  replace hR := hide hR
  simp only [Act.put, List.setIfInBounds_toArray, List.set_cons_zero, List.set_cons_succ, List.getElem_toArray, List.getElem_cons_zero, List.getElem_cons_succ]
  replace hB := hide hB
  (refine wpList_step fun K hK => ?_; replace hK := hide hK; go_simp; refine unhide hK _ _ ?_; clear hK K)
  replace hB := (unhide hB).new #[.int .u8 0, .int .u8 0, .int .u8 0, .int .u8 0, .int .u8 0, .int .u8 0, .int .u8 0, .int .u8 0, .int .u8 0, .int .u8 0, .int .u8 0, .int .u8 0, .int .u8 0, .int .u8 0, .int .u8 0, .int .u8 0] 41
  simp only [List.nil_append, List.cons_append] at hB
  generalize World.alloc _ _ = w2 at *
  generalize w1.heap.size = h5 at *
  replace hB : Bl w [⟨w.heap.size, kc K, 23⟩, ⟨w.heap.size + 1, kc ZT, 41⟩, ⟨h5, kc ZT, 41⟩] w2 := hB
  refine list_store 41 (.tmp 5) (.tmp 12) (h5) (kc R) 41 (kc ZT) (by kernel_rfl) rfl (by kernel_rfl) (by kernel_rfl) (hB.get 2 (x := ⟨h5, kc ZT, 41⟩) rfl) (by rw [Try.infoT, kc_size, hRl]) ((show (kc ZT).size = 16 from rfl).trans ((kc_size _).trans hRl).symm) (kc_one _) ?_
  replace hB := hB.set 2 (x := ⟨h5, kc ZT, 41⟩) rfl (kc R)
  simp only [List.set_cons_zero, List.set_cons_succ] at hB
  generalize World.setRow _ _ _ = w3 at *
  simp only [Act.put, List.setIfInBounds_toArray, List.set_cons_zero, List.set_cons_succ, List.getElem_toArray, List.getElem_cons_zero, List.getElem_cons_succ]
  refine wpList_nil ?_
  replace hB := hide hB
  have rN : Hid (V (nb R) = V (nb (clL K))) := by rw [unhide hR]; exact rfl
  generalize hrn : V (nb (clL K)) = r at *
  replace hrn := hide hrn
  go_wp2_with fail
  go_loopw [7, 6] (fun i o wr => ∃ kk q : Nat, ∃ v : Value, ∃ Acc : List Nat, Hid (q = 16 * kk) ∧ q ≤ n + 15 ∧ i = .int .i64 q ∧ v = o ∧ Hid (V Acc = acN r B kk) ∧ Hid (AllB Acc) ∧ Hid (Acc.length ≤ 17) ∧ Hid (Oi w.heap.size wr v Acc) ∧ Hid (Bl w [⟨w.heap.size, kc K, 23⟩, ⟨w.heap.size + 1, kc ZT, 41⟩, ⟨h5, kc R, 41⟩] wr)) (fun i _ _ => n + 16 - (intOf i).toNat)
  case atStart => exact ⟨0, 0, _, [], rfl, by omega, rfl, rfl, rfl, (fun x hx => by cases hx), (show ([] : List Nat).length ≤ 17 by simp), Oi.nil _ _, hB⟩
  case round =>
  clear hB
  obtain ⟨kk, q, v, Acc, hq, hqn, rfl, rfl, hV, bA, lA, ob, hB⟩ := hrel
  obtain ⟨a6, c6, rfl, li6h⟩ := (unhide ob).li
  obtain ⟨n6, hn6e⟩ : ∃ x, x = Acc.length := ⟨_, rfl⟩
  rw [← hn6e] at li6h ⊢
  have hn6 : Hid (n6 ≤ 17) := by rw [hn6e]; exact unhide lA
  replace hn6e := hide hn6e
  replace li6h := hide li6h
  by_cases hl : q < n
  · have qI : (q : Int) < (n : Int) := by omega
    obtain ⟨q16, hq16⟩ : ∃ x, x = q + 16 := ⟨_, rfl⟩
    obtain ⟨e, he⟩ : ∃ x, x = min q16 n := ⟨_, rfl⟩
    obtain ⟨p, hp⟩ : ∃ x, x = e - q := ⟨_, rfl⟩
    have i1 : (q : Int) + 16 = (q16 : Int) := by omega
    have i2 : IntKind.i64.wrap (q16 : Int) = (q16 : Int) := by rw [IntKind.wrap_i64]; omega
    have i3 : (if (n : Int) < (q16 : Int) then (n : Int) else (q16 : Int)) = (e : Int) := by split <;> omega
    have i4 : (if n < q16 then (n : Int) else (q16 : Int)) = (e : Int) := by split <;> omega
    have i5 : q ≤ e := by omega
    have i6 : e ≤ n := by omega
    have i9 : e - q = p := hp.symm
    have hp16 : p ≤ 16 := by omega
    have hpt : List.take 16 (List.drop q B) = List.take p (List.drop q B) := by
      rcases Nat.lt_or_ge p 16 with h | h
      · have hlen : (List.drop q B).length = p := by rw [List.length_drop, unhide hn]; omega
        rw [List.take_of_length_le (by omega), List.take_of_length_le (by omega)]
      · rw [show p = 16 from by omega]
    replace hp := hide hp
    replace he := hide he
    replace hq16 := hide hq16
    go_upto_region 6 with fail
    replace hB := unhide hB
    refine wp_region_lit ?_
    refine list_val (.slice s n cap) (by kernel_rfl) (by kernel_rfl) ?_
    simp only [Act.put, List.setIfInBounds_toArray, List.set_cons_zero, List.set_cons_succ, List.getElem_toArray, List.getElem_cons_zero, List.getElem_cons_succ]
    refine list_val (.int .i64 q) (by kernel_rfl) (by kernel_rfl) ?_
    simp only [Act.put, List.setIfInBounds_toArray, List.set_cons_zero, List.set_cons_succ, List.getElem_toArray, List.getElem_cons_zero, List.getElem_cons_succ]
    refine list_val (.int .i64 q) (by kernel_rfl) (by kernel_rfl) ?_
    simp only [Act.put, List.setIfInBounds_toArray, List.set_cons_zero, List.set_cons_succ, List.getElem_toArray, List.getElem_cons_zero, List.getElem_cons_succ]
    refine list_val (.int .i64 q16) (by kernel_rfl) (by go_simp) ?_
    simp only [Act.put, List.setIfInBounds_toArray, List.set_cons_zero, List.set_cons_succ, List.getElem_toArray, List.getElem_cons_zero, List.getElem_cons_succ]
    refine list_val (.slice s n cap) (by kernel_rfl) (by kernel_rfl) ?_
    simp only [Act.put, List.setIfInBounds_toArray, List.set_cons_zero, List.set_cons_succ, List.getElem_toArray, List.getElem_cons_zero, List.getElem_cons_succ]
    refine list_val (.int .i64 n) (by kernel_rfl) (by kernel_rfl) ?_
    simp only [Act.put, List.setIfInBounds_toArray, List.set_cons_zero, List.set_cons_succ, List.getElem_toArray, List.getElem_cons_zero, List.getElem_cons_succ]
    refine list_val (.int .i64 e) (by kernel_rfl) (by go_simp) ?_
    simp only [Act.put, List.setIfInBounds_toArray, List.set_cons_zero, List.set_cons_succ, List.getElem_toArray, List.getElem_cons_zero, List.getElem_cons_succ]
    refine list_mid (.tmp 19) (.tmp 20) (.tmp 25) (by kernel_rfl) rfl s n cap q e rfl rfl rfl B ((unhide lb).gr hB.gr) i5 i6 ?_
    intro s1 hs1
    simp only [Act.put, List.setIfInBounds_toArray, List.set_cons_zero, List.set_cons_succ, List.getElem_toArray, List.getElem_cons_zero, List.getElem_cons_succ]
    have lp := hs1 _ ((unhide lb).gr hB.gr)
    clear hs1
    rw [i9] at lp ⊢
    have hG := Gr.refl wr
    refine list_call 50 #[.slice s1 p (cap - q)] (by kernel_rfl) (by kernel_rfl) ((rrow_ok _ s1 p (cap - q) (by omega) _ lp).mono ?_)
    rintro r u1 ⟨vn, Ln, rfl, obn, pn, hg⟩
    refine ⟨_, rfl, ?_⟩
    replace hG := hG.trans hg
    clear hg
    subst pn
    simp only [Act.put, List.setIfInBounds_toArray, List.set_cons_zero, List.set_cons_succ, List.getElem_toArray, List.getElem_cons_zero, List.getElem_cons_succ]
    (refine wpList_step fun K hK => ?_; replace hK := hide hK; go_simp; refine unhide hK _ _ ?_; clear hK K)
    refine wpList_nil ?_
    replace hG := hide hG
    replace obn := hide obn
    replace hB := hide hB
    go_upto_region 7 with fail
    replace hG := unhide hG
    replace obn := unhide obn
    replace hB := unhide hB
    refine wp_region_lit ?_
    refine list_val vn (by kernel_rfl) (by kernel_rfl) ?_
    simp only [Act.put, List.setIfInBounds_toArray, List.set_cons_zero, List.set_cons_succ, List.getElem_toArray, List.getElem_cons_zero, List.getElem_cons_succ]
    refine list_valw (.slice (some ⟨u1.heap.size, 0, none⟩) 1 1) (u1.alloc (.cells #[.int .i64 ((1 : Nat) : Int)] 3 (0, 0))) (by kernel_rfl) (by kernel_rfl) ?_
    simp only [Act.put, List.setIfInBounds_toArray, List.set_cons_zero, List.set_cons_succ, List.getElem_toArray, List.getElem_cons_zero, List.getElem_cons_succ]
    have hnew := blk_new u1 (.cells #[.int .i64 ((1 : Nat) : Int)] 3 (0, 0))
    have hgx := (Gr.refl u1).alloc (.cells #[.int .i64 ((1 : Nat) : Int)] 3 (0, 0))
    replace hG := hG.trans hgx
    replace obn := obn.gr hgx
    clear hgx
    generalize World.alloc _ _ = u2 at *
    generalize u1.heap.size = g1 at *
    refine app_int rfl (.tmp 28) (.tmp 29) rfl wr.heap.size vn _ rfl obn g1 1 _ rfl hnew (by rw [nb_len, lp.len]; omega) hG.size ?_
    intro vn2 u3 obN hgr
    simp only [Act.put, List.setIfInBounds_toArray, List.set_cons_zero, List.set_cons_succ, List.getElem_toArray, List.getElem_cons_zero, List.getElem_cons_succ]
    replace hG := Oi.grown obn (Nat.le_refl _) hG hgr
    clear hgr hnew obn
    have hNb : AllB (nb (List.take p (List.drop q B)) ++ [1]) := (nb_allB _ lp.isB).snoc (by omega)
    have hNl : (nb (List.take p (List.drop q B)) ++ [1]).length = p + 1 := by rw [List.length_append, nb_len, lp.len]; rfl
    obtain ⟨a8, c8, rfl, liN⟩ := obN.li
    rw [hNl] at liN ⊢
    have hBN : V (nb (List.take p (List.drop q B)) ++ [1]) = bN B kk := by
      unfold bN
      rw [← unhide hq, show List.take 16 (List.drop q B) = List.take p (List.drop q B) from ?_]
      exact hpt
    generalize nb (List.take p (List.drop q B)) ++ [1] = NN at *
    replace hB := hB.more hG
    have li6 := (unhide li6h).gr hG
    clear hG obN lp hNl
    (refine wpList_step fun K hK => ?_; replace hK := hide hK; go_simp; refine unhide hK _ _ ?_; clear hK K)
    refine wpList_nil ?_
    replace hB := hide hB
    replace li6 := hide li6
    replace liN := hide liN
    go_upto_region 8 with fail
    replace hB := unhide hB
    replace li6 := unhide li6
    replace liN := unhide liN
    refine any_start (S := fun _ => True) (by kernel_rfl) ?_
    replace hB := hB.drew
    replace li6 := li6.gr (Gr.refl _).drew
    replace liN := liN.gr (Gr.refl _).drew
    generalize World.drew _ = u4 at *
    simp only [List.size_toArray, List.length_cons, List.length_nil, Array.replicate, List.replicate]
    refine any_take (i := 0) (v := (.slice a6 n6 c6)) #[false, false, false, false, false, false, false, false] rfl (by kernel_rfl) (by kernel_rfl) (by kernel_rfl) (by kernel_rfl) (fun _ _ _ h => h) (.inl ⟨by kernel_rfl, fun x_ hu => by kernel_rfl⟩) trivial ?_
    simp only [Act.put, List.setIfInBounds_toArray, List.set_cons_zero, List.set_cons_succ, List.getElem_toArray, List.getElem_cons_zero, List.getElem_cons_succ]
    refine any_take (i := 1) (v := (.slice a8 (p + 1) c8)) #[true, false, false, false, false, false, false, false] rfl (by kernel_rfl) (by kernel_rfl) (by kernel_rfl) (by kernel_rfl) (fun _ _ _ h => h) (.inl ⟨by kernel_rfl, fun x_ hu => by kernel_rfl⟩) trivial ?_
    simp only [Act.put, List.setIfInBounds_toArray, List.set_cons_zero, List.set_cons_succ, List.getElem_toArray, List.getElem_cons_zero, List.getElem_cons_succ]
    refine any_take (i := 3) (v := (.slice (some ⟨h5, 0, none⟩) 16 16)) #[true, true, false, false, false, false, false, false] rfl (by kernel_rfl) (by kernel_rfl) (by kernel_rfl) (by kernel_rfl) (fun _ _ _ h => h) (.inl ⟨by kernel_rfl, fun x_ hu => by kernel_rfl⟩) trivial ?_
    simp only [Act.put, List.setIfInBounds_toArray, List.set_cons_zero, List.set_cons_succ, List.getElem_toArray, List.getElem_cons_zero, List.getElem_cons_succ]
    refine any_one (i := 2) (by kernel_rfl) rfl (fun K_ hK => ?_)
    refine step_callw (by kernel_rfl) 53 #[.slice a6 n6 c6, .slice a8 (p + 1) c8] (by kernel_rfl) ((rplus_ok Acc NN (unhide bA) hNb a6 a8 n6 (p + 1) c6 c8 (by have := unhide hn6; omega) (by omega) _ li6 liN).mono ?_)
    rintro r u5 ⟨vp, P, rfl, obP, pP, hg⟩
    refine ⟨_, rfl, ?_⟩
    obtain ⟨ap, cp, rfl, liP⟩ := obP.li
    obtain ⟨np, hnp⟩ : ∃ x, x = P.length := ⟨_, rfl⟩
    rw [← hnp] at liP ⊢
    replace hnp := hide hnp
    have hnp2 : np ≤ 100 := by have h := pP.2.2; rw [← unhide hnp, liN.len, li6.len] at h; have := unhide hn6; omega
    clear li6 liN obP
    replace hB := hB.more hg
    clear hg
    refine hK.out _ _ trivial (fun _ => ?_)
    clear hK K_
    simp only [Act.put, List.setIfInBounds_toArray, List.set_cons_zero, List.set_cons_succ, List.getElem_toArray, List.getElem_cons_zero, List.getElem_cons_succ]
    refine any_one (i := 4) (by kernel_rfl) rfl (fun K_ hK => ?_)
    refine step_callw (by kernel_rfl) 50 #[.slice (some ⟨h5, 0, none⟩) 16 16] (by kernel_rfl) ((rrow_ok R _ 16 16 (by omega) _ (kc_lb (hB.get 2 (x := ⟨h5, kc R, 41⟩) rfl) hRl (unhide hRb) (by omega))).mono ?_)
    rintro r u6 ⟨vr, RR, rfl, obRR, pRR, hg⟩
    refine ⟨_, rfl, ?_⟩
    subst pRR
    obtain ⟨ar, cr, rfl, liR⟩ := obRR.li
    rw [nb_len, hRl] at liR ⊢
    replace liP := liP.gr hg
    clear obRR
    replace hB := hB.more hg
    clear hg
    refine hK.out _ _ trivial (fun _ => ?_)
    clear hK K_
    simp only [Act.put, List.setIfInBounds_toArray, List.set_cons_zero, List.set_cons_succ, List.getElem_toArray, List.getElem_cons_zero, List.getElem_cons_succ]
    refine any_one (i := 5) (by kernel_rfl) rfl (fun K_ hK => ?_)
    refine step_callw (by kernel_rfl) 52 #[.slice ap np cp, .slice ar 16 cr] (by kernel_rfl) ((rtimes_ok P (nb R) pP.1 (nb_allB R (unhide hRb)) ap ar np 16 cp cr (by omega) (by omega) _ liP liR).mono ?_)
    rintro r u7 ⟨vt, Tt, rfl, obTt, pTt, hg⟩
    refine ⟨_, rfl, ?_⟩
    obtain ⟨at_, ct, rfl, liTt⟩ := obTt.li
    obtain ⟨nt, hnt⟩ : ∃ x, x = Tt.length := ⟨_, rfl⟩
    rw [← hnt] at liTt ⊢
    replace hnt := hide hnt
    have hnt2 : nt ≤ 1000 := by rw [unhide hnt, pTt.2.2, ← unhide hnp, nb_len, hRl]; omega
    clear liP liR obTt
    replace hB := hB.more hg
    clear hg
    refine hK.out _ _ trivial (fun _ => ?_)
    clear hK K_
    simp only [Act.put, List.setIfInBounds_toArray, List.set_cons_zero, List.set_cons_succ, List.getElem_toArray, List.getElem_cons_zero, List.getElem_cons_succ]
    refine any_one (i := 6) (by kernel_rfl) rfl (fun K_ hK => ?_)
    refine step_callw (by kernel_rfl) 51 #[.slice at_ nt ct] (by kernel_rfl) ((rrest_ok Tt pTt.1 at_ nt ct hnt2 _ liTt).mono ?_)
    rintro r u8 ⟨vw, W, rfl, obW, pW, hg⟩
    refine ⟨_, rfl, ?_⟩
    replace obW := obW.up hB.gr.size
    clear liTt
    replace hB := hB.more hg
    clear hg
    refine hK.out _ _ trivial (fun _ => ?_)
    clear hK K_
    simp only [Act.put, List.setIfInBounds_toArray, List.set_cons_zero, List.set_cons_succ, List.getElem_toArray, List.getElem_cons_zero, List.getElem_cons_succ]
    refine any_one (i := 7) (by kernel_rfl) rfl (fun K_ hK => ?_)
    replace hK := hide hK
    go_simp
    refine (unhide hK).out _ _ trivial (fun _ => ?_)
    clear hK K_
    refine any_done (by kernel_rfl) ?_
    have hV2 : Hid (V W = acN r B (kk + 1)) := by
      rw [pW.2.1, pTt.2.1, pP.2.1, hBN, acN, unhide hV, unhide rN]
      exact rfl
    have hq2 : Hid (q16 = 16 * (kk + 1)) := by have h1 := unhide hq; have h2 := unhide hq16; exact (show q16 = 16 * (kk + 1) by omega)
    have hq3 : q16 ≤ n + 15 := by have := unhide hq16; omega
    have hq4 : q < q16 := by have := unhide hq16; omega
    have bW : Hid (AllB W) := pW.1
    have lW : Hid (W.length ≤ 17) := by rw [pW.2.2]; exact Nat.le_refl _
    replace obW := hide obW
    replace hB := hide hB
    clear pW pTt pP hBN
    go_wp2_with fail
    go_roundw
    case rel => exact ⟨kk + 1, q16, vw, W, hq2, hq3, rfl, rfl, hV2, bW, lW, obW, hB⟩
    case measure => simp [intOf]; omega
  have qI : ¬ (q : Int) < (n : Int) := by omega
  have hkn : kk = nk n := by have := unhide hq; unfold nk; omega
  go_upto_region 9 with fail
  replace hB := unhide hB
  have li6 := unhide li6h
  have lk := key_tail (hB.get 0 (x := ⟨w.heap.size, kc K, 23⟩) rfl) hK (unhide hKb)
  refine wp_region_lit ?_
  refine list_val (.slice a6 n6 c6) (by kernel_rfl) (by kernel_rfl) ?_
  simp only [Act.put, List.setIfInBounds_toArray, List.set_cons_zero, List.set_cons_succ, List.getElem_toArray, List.getElem_cons_zero, List.getElem_cons_succ]
  refine list_val (.slice (some ⟨w.heap.size, 16, none⟩) 16 16) (by kernel_rfl) (by kernel_rfl) ?_
  simp only [Act.put, List.setIfInBounds_toArray, List.set_cons_zero, List.set_cons_succ, List.getElem_toArray, List.getElem_cons_zero, List.getElem_cons_succ]
  refine list_call 50 #[.slice (some ⟨w.heap.size, 16, none⟩) 16 16] (by kernel_rfl) (by kernel_rfl) ((rrow_ok (K.drop 16) _ 16 16 (by omega) _ lk).mono ?_)
  rintro r u1 ⟨vn, Ln, rfl, obn, pn, hg⟩
  refine ⟨_, rfl, ?_⟩
  subst pn
  obtain ⟨a9, c9, rfl, li9⟩ := obn.li
  rw [nb_len, lk.len] at li9 ⊢
  replace hB := hB.more hg
  replace li6 := li6.gr hg
  clear hg obn
  simp only [Act.put, List.setIfInBounds_toArray, List.set_cons_zero, List.set_cons_succ, List.getElem_toArray, List.getElem_cons_zero, List.getElem_cons_succ]
  refine list_call 53 #[.slice a6 n6 c6, .slice a9 16 c9] (by kernel_rfl) (by kernel_rfl) ((rplus_ok Acc (nb (K.drop 16)) (unhide bA) (nb_allB _ lk.isB) a6 a9 n6 16 c6 c9 (by have := unhide hn6; omega) (by omega) _ li6 li9).mono ?_)
  rintro r u2 ⟨vp, P, rfl, obP, pP, hg⟩
  refine ⟨_, rfl, ?_⟩
  obtain ⟨ap, cp, rfl, liP⟩ := obP.li
  obtain ⟨np, hnp⟩ : ∃ x, x = P.length := ⟨_, rfl⟩
  rw [← hnp] at liP ⊢
  replace hnp := hide hnp
  replace hB := hB.more hg
  clear hg obP li6 li9
  simp only [Act.put, List.setIfInBounds_toArray, List.set_cons_zero, List.set_cons_succ, List.getElem_toArray, List.getElem_cons_zero, List.getElem_cons_succ]
  (refine wpList_step fun K hK => ?_; replace hK := hide hK; go_simp; refine unhide hK _ _ ?_; clear hK K)
  refine wpList_nil ?_
  have hPv : Hid (V P = mcN K B) := by
    rw [pP.2.1, unhide hV, hkn]
    unfold mcN
    rw [unhide hrn, unhide hn]
    exact rfl
  have bP : Hid (AllB P) := pP.1
  clear pP lk
  replace liP := hide liP
  replace hB := hide hB
  go_upto_region 10 with fail
  refine wp_region_lit ?_
  (refine wpList_step fun K hK => ?_; replace hK := hide hK; go_simp; refine unhide hK _ _ ?_; clear hK K)
  have h99 := (Bl.nil u2).new #[.int .u8 0, .int .u8 0, .int .u8 0, .int .u8 0, .int .u8 0, .int .u8 0, .int .u8 0, .int .u8 0, .int .u8 0, .int .u8 0, .int .u8 0, .int .u8 0, .int .u8 0, .int .u8 0, .int .u8 0, .int .u8 0] 41
  simp only [List.nil_append] at h99
  replace hB := (unhide hB).new #[.int .u8 0, .int .u8 0, .int .u8 0, .int .u8 0, .int .u8 0, .int .u8 0, .int .u8 0, .int .u8 0, .int .u8 0, .int .u8 0, .int .u8 0, .int .u8 0, .int .u8 0, .int .u8 0, .int .u8 0, .int .u8 0] 41
  simp only [List.nil_append, List.cons_append] at hB
  generalize World.alloc _ _ = u3 at *
  generalize u2.heap.size = h9 at *
  replace hB : Hid (Bl w [⟨w.heap.size, kc K, 23⟩, ⟨w.heap.size + 1, kc ZT, 41⟩, ⟨h5, kc R, 41⟩, ⟨h9, kc ZT, 41⟩] u3) := hB
  replace h99 : Hid (Bl u2 [⟨h9, kc ZT, 41⟩] u3) := h99
  refine wpList_nil ?_
  go_wp2_with fail
  go_loopw [10] (fun i wr => ∃ i' : Nat, ∃ m : List Int, i' ≤ 16 ∧ i = .int .i64 i' ∧ Hid (m = fil (tgf (mcN K B)) i' ZT) ∧ Hid (Bl w [⟨w.heap.size, kc K, 23⟩, ⟨w.heap.size + 1, kc ZT, 41⟩, ⟨h5, kc R, 41⟩, ⟨h9, kc m, 41⟩] wr) ∧ Hid (Bl u2 [⟨h9, kc m, 41⟩] wr)) (fun i _ => 16 - (intOf i).toNat)
  case atStart => exact ⟨0, ZT, by omega, rfl, (fil_zero _ _).symm, hB, h99⟩
  case round =>
  clear hB h99
  obtain ⟨i, m, hi, rfl, hm, hB, h99⟩ := hrel
  have hzl : ZT.length = 16 := rfl
  have hml : m.length = 16 := by rw [unhide hm, fil_len _ _ _ (by omega)]; rfl
  by_cases hil : i < 16
  · obtain ⟨x, hx⟩ : ∃ x, x = P.getD i 0 := ⟨_, rfl⟩
    have hx2 : x < 256 := by rw [hx]; exact (unhide bP).at_ i
    have hxt : tgf (mcN K B) i = (x : Int) := by
      unfold tgf
      rw [hx, V_digit P (unhide bP) i, unhide hPv]
    have c1 := kc_cell ((unhide hB).get 3 (x := ⟨h9, kc m, 41⟩) rfl) i (by omega)
    have f1 := froz_of (i := i) ((unhide hB).get 3 (x := ⟨h9, kc m, 41⟩) rfl)
    generalize m.getD i 0 = z at c1
    have hB2 := (unhide hB).cell 3 (x := ⟨h9, kc m, 41⟩) rfl i (.int .u8 (x : Int))
    have h992 := (unhide h99).cell 0 (x := ⟨h9, kc m, 41⟩) rfl i (.int .u8 (x : Int))
    simp only [List.set_cons_zero, List.set_cons_succ, kc_set] at hB2 h992
    have hm2 : Hid (m.set i (x : Int) = fil (tgf (mcN K B)) (i + 1) ZT) := by
      rw [← hxt, unhide hm]
      exact fil_set (tgf (mcN K B)) _ _ (by omega)
    have lx := (unhide liP).gr (unhide h99).gr
    have iI : (i : Int) < 16 := by omega
    have e1 : (x : Int) % 256 = (x : Int) := by omega
    have e2 : IntKind.u8.wrap (x : Int) = (x : Int) := by rw [IntKind.wrap_u8]; exact e1
    clear hxt hB h99
    replace hx := hide hx
    replace lx := hide lx
    replace hB2 := hide hB2
    replace h992 := hide h992
    go_upto_region 14 with fail
    refine wp_region_lit ?_
    refine list_val (.int .i64 i) (by kernel_rfl) (by kernel_rfl) ?_
    simp only [Act.put, List.setIfInBounds_toArray, List.set_cons_zero, List.set_cons_succ, List.getElem_toArray, List.getElem_cons_zero, List.getElem_cons_succ]
    refine list_val (.slice ap np cp) (by kernel_rfl) (by kernel_rfl) ?_
    simp only [Act.put, List.setIfInBounds_toArray, List.set_cons_zero, List.set_cons_succ, List.getElem_toArray, List.getElem_cons_zero, List.getElem_cons_succ]
    refine list_val (.int .i64 i) (by kernel_rfl) (by kernel_rfl) ?_
    simp only [Act.put, List.setIfInBounds_toArray, List.set_cons_zero, List.set_cons_succ, List.getElem_toArray, List.getElem_cons_zero, List.getElem_cons_succ]
    refine list_call 54 #[.slice ap np cp, .int .i64 i] (by kernel_rfl) (by kernel_rfl) ((rat_ok P ap np cp i _ (unhide lx)).mono ?_)
    rintro r wq ⟨rfl, rfl⟩
    refine ⟨_, rfl, ?_⟩
    rw [← unhide hx]
    simp only [Act.put, List.setIfInBounds_toArray, List.set_cons_zero, List.set_cons_succ, List.getElem_toArray, List.getElem_cons_zero, List.getElem_cons_succ]
    refine list_val (.int .u8 (x : Int)) (by kernel_rfl) (by go_simp) ?_
    simp only [Act.put, List.setIfInBounds_toArray, List.set_cons_zero, List.set_cons_succ, List.getElem_toArray, List.getElem_cons_zero, List.getElem_cons_succ]
    refine list_val (.pointer (some ⟨h9, i, none⟩)) (by kernel_rfl) (by go_simp) ?_
    simp only [Act.put, List.setIfInBounds_toArray, List.set_cons_zero, List.set_cons_succ, List.getElem_toArray, List.getElem_cons_zero, List.getElem_cons_succ]
    (refine wpList_step fun K hK => ?_; replace hK := hide hK; go_simp; refine unhide hK _ _ ?_; clear hK K)
    refine wpList_nil ?_
    go_wp2_with fail
    go_roundw
    case rel => exact ⟨i + 1, _, by omega, by go_num, hm2, hB2, h992⟩
    case measure => simp [intOf]; omega
  · have e : i = 16 := by omega
    subst e
    have hM : m = mcL K B := by
      rw [unhide hm]
      have h := fil_all (tgf (mcN K B)) ZT
      rw [hzl] at h
      exact h
    clear hm
    go_upto_region 15 with fail
    replace hB := unhide hB
    refine wp_region_lit ?_
    refine list_val (.agg (kc m)) (by kernel_rfl) (exec_arr _ 41 (.tmp 9) rfl (h9) (by kernel_rfl) (kc m) 41 _ (hB.get 3 (x := ⟨h9, kc m, 41⟩) rfl) Try.underlying41 rfl (by rw [Try.infoT, kc_size, hml])) ?_
    simp only [Act.put, List.setIfInBounds_toArray, List.set_cons_zero, List.set_cons_succ, List.getElem_toArray, List.getElem_cons_zero, List.getElem_cons_succ]
    refine list_store 41 (.tmp 4) (.tmp 52) (w.heap.size + 1) (kc m) 41 (kc ZT) (by kernel_rfl) rfl (by kernel_rfl) (by kernel_rfl) (hB.get 1 (x := ⟨w.heap.size + 1, kc ZT, 41⟩) rfl) (by rw [Try.infoT, kc_size, hml]) ((show (kc ZT).size = 16 from rfl).trans ((kc_size _).trans hml).symm) (kc_one _) ?_
    replace hB := hB.set 1 (x := ⟨w.heap.size + 1, kc ZT, 41⟩) rfl (kc m)
    simp only [List.set_cons_zero, List.set_cons_succ] at hB
    generalize World.setRow _ _ _ = u5 at *
    simp only [Act.put, List.setIfInBounds_toArray, List.set_cons_zero, List.set_cons_succ, List.getElem_toArray, List.getElem_cons_zero, List.getElem_cons_succ]
    refine wpList_nil ?_
    go_wp2_with fail
    rw [unhide hT, ← hM]
    exact bodyPost_ret (v := .agg (kc m)) (results_cell_row Try.results34 _ _ (w.heap.size + 1) 41 (kc m) (0, 0) _ rfl (hB.get 1 (x := ⟨w.heap.size + 1, kc m, 41⟩) rfl) Try.underlying41 rfl (by rw [Try.infoT, kc_size, hml])) rfl (⟨rfl, hB.gr⟩)

end Go.Proofs.Ytdekjbdkpchbjaa
