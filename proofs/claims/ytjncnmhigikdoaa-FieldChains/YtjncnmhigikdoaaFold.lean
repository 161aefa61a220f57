/-
  The reference's fold.
-/
import Derived.Test.YtjncnmhigikdoaaFoldMath
import Derived.Test.YtjncnmhigikdoaaRefB
import Derived.OwnWalk
namespace Go.Proofs.Ytjncnmhigikdoaa
open Go.RowKit
set_option maxRecDepth 100000
set_option linter.unusedSimpArgs false

/-- below what the number is, so many rounds being left -/
def bd : Nat → Int
  | 1 => 115792089237316195423570985008687907853269984665640564039457584007913129639936
  | 2 => 115792089237316195423570985008687907853269984665640564039457584007913129641380
  | 3 => 4515891480255331621519268415338828406277529401959981997538845776308612055957504
  | 4 => 13407807929942597099574024998205846127479365820592393377723561443721764030073546976801874298166903427690031858186486050853753882811946569946433649006084096
  | _ => 0
theorem bd_top (k : Nat) (h : k ≤ 4) : bd k ≤ 256 ^ 64 := by
  have : ∀ k : Fin 5, bd k.val ≤ 256 ^ 64 := by decide +kernel
  exact this ⟨k, by omega⟩
theorem bd_next (k : Nat) (v a h : Int) (hk4 : k ≤ 4) (e : v = a + 115792089237316195423570985008687907853269984665640564039457584007913129639936 * h) (ha : 0 ≤ a ∧ a < 115792089237316195423570985008687907853269984665640564039457584007913129639936) (hh : 0 ≤ h) (hv : v < bd k) (hk : k = 4 ∨ 1 ≤ h) :
    0 < k ∧ a + 38 * h < bd (k - 1) := by
  match k, hk4 with
  | 0, _ => simp only [bd] at hv; omega
  | 1, _ => simp only [bd] at hv ⊢; omega
  | 2, _ => simp only [bd] at hv ⊢; omega
  | 3, _ => simp only [bd] at hv ⊢; omega
  | 4, _ => simp only [bd] at hv ⊢; omega
theorem fold_mod (a h : Int) : (a + 38 * h) % pp = (a + 115792089237316195423570985008687907853269984665640564039457584007913129639936 * h) % pp := by
  have : a + 115792089237316195423570985008687907853269984665640564039457584007913129639936 * h = (a + 38 * h) + (2 * h) * pp := by unfold pp; omega
  rw [this, Int.add_mul_emod_self_right]

/-- the result's block, and the row -/
def FS (w0 wr : World) (r g m cap : Nat) (ys : List Int) : Prop := Gr w0 wr ∧ w0.heap.size ≤ r ∧ KB wr r (digs 0 0) ∧ w0.heap.size ≤ g ∧ OR wr g m cap ys
theorem FS.ne {w0 wr : World} {r g m cap : Nat} {ys : List Int} (h : FS w0 wr r g m cap ys) : r ≠ g := by
  obtain ⟨_, _, h1, _, _, _, _, cur, _, h2, _⟩ := h
  intro e
  subst e
  unfold KB at h1
  rw [h1] at h2
  simp at h2
theorem FS.set {w0 wr : World} {r g m cap : Nat} {ys : List Int} (h : FS w0 wr r g m cap ys) (i : Nat) (x : Int) : FS w0 (wr.setCell ⟨g, i, none⟩ (.int .i64 x)) r g m cap (ys.set i x) :=
  ⟨h.1.setCell h.2.2.2.1 _, h.2.1, h.2.2.1.other h.ne, h.2.2.2.1, h.2.2.2.2.set i x⟩
theorem FS.gr {w0 wr v : World} {r g m cap : Nat} {ys : List Int} (h : FS w0 wr r g m cap ys) (k : Gr wr v) : FS w0 v r g m cap ys :=
  ⟨h.1.trans k, h.2.1, h.2.2.1.gr k, h.2.2.2.1, h.2.2.2.2.gr k⟩
theorem FS.app {w0 wr v : World} {r g m cap g' cap' : Nat} {ys zs : List Int} (h : FS w0 wr r g m cap ys) (k : wr.grownBy v (some g)) (hg : w0.heap.size ≤ g') {m' : Nat} (ho : OR v g' m' cap' zs) : FS w0 v r g' m' cap' zs := by
  have hne := h.ne
  refine ⟨?_, h.2.1, ?_, hg, ho⟩
  · refine ⟨k.os.trans h.1.os, k.tape.trans h.1.tape, k.output.trans h.1.output, Nat.le_trans h.1.size k.size, fun i hi => ?_⟩
    rw [k.block i (Nat.lt_of_lt_of_le hi h.1.size) (by intro e; have := h.2.2.2.1; cases e; omega)]
    exact h.1.block i hi
  · unfold KB
    rw [k.block r (lt_of_block h.2.2.1) (by intro e; cases e; exact hne rfl)]
    exact h.2.2.1

/-- the first i digits are in order -/
def CI (ys : List Int) (m i : Nat) (c V : Int) : Prop := ys.length = m ∧ vl ys + c * 256 ^ i = V ∧ (0 ≤ c ∧ c < 1125899906842624) ∧ (∀ j, j < i → 0 ≤ ys.getD j 0 ∧ ys.getD j 0 < 256) ∧ (∀ j, j < m → 0 ≤ ys.getD j 0 ∧ ys.getD j 0 < 1099511627776)
theorem CI.step {ys : List Int} {m i : Nat} {c V : Int} (h : CI ys m i c V) (hi : i < m) : CI (ys.set i ((ys.getD i 0 + c) % 256)) m (i + 1) ((ys.getD i 0 + c) / 256) V := by
  obtain ⟨h1, h2, h3, h4, h5⟩ := h
  have hy := h5 i hi
  refine ⟨by simpa using h1, ?_, by omega, ?_, ?_⟩
  · rw [vl_set ys i _ (by omega), ← h2, Int.pow_succ]
    have e : (ys.getD i 0 + c) % 256 = ys.getD i 0 + c - 256 * ((ys.getD i 0 + c) / 256) := by omega
    rw [e]
    grind
  · intro j hj
    by_cases e : j = i
    · subst e
      rw [List.getD_eq_getElem?_getD, List.getElem?_set_self (by omega)]
      simp; omega
    · have := h4 j (by omega)
      rw [List.getD_eq_getElem?_getD, List.getElem?_set_ne (by omega), ← List.getD_eq_getElem?_getD]
      exact this
  · intro j hj
    by_cases e : j = i
    · subst e
      rw [List.getD_eq_getElem?_getD, List.getElem?_set_self (by omega)]
      simp; omega
    · have := h5 j hj
      rw [List.getD_eq_getElem?_getD, List.getElem?_set_ne (by omega), ← List.getD_eq_getElem?_getD]
      exact this
theorem dig_of {ys : List Int} {m : Nat} (h1 : ys.length = m) (h4 : ∀ j, j < m → 0 ≤ ys.getD j 0 ∧ ys.getD j 0 < 256) : Dig ys := by
  intro x hx
  obtain ⟨i, hi, rfl⟩ := List.getElem_of_mem hx
  have := h4 i (by omega)
  simpa [List.getD, List.getElem?_eq_getElem hi] using this

/-- digits, and what is to be carried behind them -/
def AI (ys : List Int) (m L : Nat) (c V : Int) : Prop := ys.length = m ∧ Dig ys ∧ vl ys + c * 256 ^ m = V ∧ (0 ≤ c ∧ c < 1125899906842624) ∧ L ≤ m ∧ m ≤ 64 ∧ (m = L ∨ 115792089237316195423570985008687907853269984665640564039457584007913129639936 ≤ V)
theorem pow_le256 {a b : Nat} (h : a ≤ b) : (256 : Int) ^ a ≤ 256 ^ b := by
  obtain ⟨k, rfl⟩ : ∃ k, b = a + k := ⟨b - a, by omega⟩
  rw [Int.pow_add]
  have h1 : (0 : Int) < 256 ^ a := Int.pow_pos (by decide)
  have h2 : (0 : Int) < 256 ^ k := Int.pow_pos (by decide)
  have := Int.mul_le_mul_of_nonneg_left (show (1 : Int) ≤ 256 ^ k by omega) (Int.le_of_lt h1)
  omega
theorem AI.room {ys : List Int} {m L : Nat} {c V : Int} (h : AI ys m L c V) (hc : 0 < c) (hV : V < 256 ^ 64) : m < 64 ∧ 256 ^ m ≤ V := by
  obtain ⟨h1, h2, h3, h4, h5, h6, h7⟩ := h
  have hb := vl_bd ys h2
  have hp : (0 : Int) < 256 ^ m := Int.pow_pos (by decide)
  have hle : (256 : Int) ^ m ≤ c * 256 ^ m := by
    have := Int.mul_le_mul_of_nonneg_right (show (1 : Int) ≤ c by omega) (Int.le_of_lt hp)
    omega
  refine ⟨?_, by omega⟩
  rcases Nat.lt_or_ge m 64 with h | h
  · exact h
  · have := pow_le256 h
    omega
theorem AI.step {ys : List Int} {m L : Nat} {c V : Int} (h : AI ys m L c V) (hc : 0 < c) (hL : 32 ≤ L) (hV : V < 256 ^ 64) : AI (ys ++ [c % 256]) (m + 1) L (c / 256) V := by
  obtain ⟨hm, hq⟩ := h.room hc hV
  obtain ⟨h1, h2, h3, h4, h5, h6, h7⟩ := h
  refine ⟨by simp [h1], ?_, ?_, by omega, by omega, by omega, .inr ?_⟩
  · intro x hx
    rcases List.mem_append.1 hx with hx | hx
    · exact h2 x hx
    · simp at hx; omega
  · rw [vl_append, h1, Int.pow_succ, ← h3]
    simp only [vl]
    have e : c % 256 = c - 256 * (c / 256) := by omega
    rw [e]
    grind
  · have := pow_le256 (show 32 ≤ m by omega)
    have e : (256 : Int) ^ 32 = 115792089237316195423570985008687907853269984665640564039457584007913129639936 := by decide
    omega

/-- what is folded: i digits of the high part are in -/
def HI (ys zs : List Int) (m i : Nat) (V : Int) : Prop := zs.length = 32 ∧ (∀ j, j < 32 → 0 ≤ zs.getD j 0 ∧ zs.getD j 0 < 1099511627776) ∧ (∀ j, j < 32 → i ≤ j → zs.getD j 0 = ys.getD j 0) ∧ vl zs = vl (ys.take 32) + 38 * vl ((ys.drop 32).take i) ∧ ys.length = m ∧ Dig ys ∧ vl ys = V
theorem HI.step {ys zs : List Int} {m i : Nat} {V : Int} (h : HI ys zs m i V) (hi : i < m - 32) (hm : m ≤ 64) : HI ys (zs.set i (zs.getD i 0 + ys.getD (32 + i) 0 * 38)) m (i + 1) V ∧ (0 ≤ zs.getD i 0 ∧ zs.getD i 0 < 256) ∧ (0 ≤ ys.getD (32 + i) 0 ∧ ys.getD (32 + i) 0 < 256) := by
  obtain ⟨h1, h2, h3, h4, h5, h6, h7⟩ := h
  have i32 : i < 32 := by omega
  have e1 : zs.getD i 0 = ys.getD i 0 := h3 i i32 (Nat.le_refl _)
  have d1 : 0 ≤ ys.getD i 0 ∧ ys.getD i 0 < 256 := by
    have := h6 (ys[i]'(by omega)) (List.getElem_mem _)
    simpa [List.getD, List.getElem?_eq_getElem (show i < ys.length by omega)] using this
  have d2 : 0 ≤ ys.getD (32 + i) 0 ∧ ys.getD (32 + i) 0 < 256 := by
    have := h6 (ys[32 + i]'(by omega)) (List.getElem_mem _)
    simpa [List.getD, List.getElem?_eq_getElem (show 32 + i < ys.length by omega)] using this
  refine ⟨⟨by simpa using h1, ?_, ?_, ?_, h5, h6, h7⟩, by omega, d2⟩
  · intro j hj
    by_cases e : j = i
    · subst e
      rw [List.getD_eq_getElem?_getD, List.getElem?_set_self (by omega), Option.getD_some]
      omega
    · rw [List.getD_eq_getElem?_getD, List.getElem?_set_ne (by omega), ← List.getD_eq_getElem?_getD]
      exact h2 j hj
  · intro j hj hij
    rw [List.getD_eq_getElem?_getD, List.getElem?_set_ne (by omega), ← List.getD_eq_getElem?_getD]
    exact h3 j hj (by omega)
  · rw [vl_set zs i _ (by omega), h4]
    have e2 : (ys.drop 32).take (i + 1) = (ys.drop 32).take i ++ [ys.getD (32 + i) 0] := by
      rw [List.take_add_one]
      congr 1
      rw [List.getElem?_drop, List.getD_eq_getElem?_getD, List.getElem?_eq_getElem (show 32 + i < ys.length by omega)]
      rfl
    have e3 : ((ys.drop 32).take i).length = i := by rw [List.length_take, List.length_drop]; omega
    rw [e2, vl_append, e3]
    simp only [vl]
    grind

theorem CI.start (ys : List Int) (m : Nat) (h : ys.length = m) (hx : ∀ j, j < m → 0 ≤ ys.getD j 0 ∧ ys.getD j 0 < 1099511627776) : CI ys m 0 0 (vl ys) := by
  refine ⟨h, by simp, by omega, ?_, hx⟩
  intro j hj
  omega
theorem CI.done {ys : List Int} {m : Nat} {c V : Int} (h : CI ys m m c V) (hm : m ≤ 64) : AI ys m m c V := by
  obtain ⟨h1, h2, h3, h4, h5⟩ := h
  exact ⟨h1, dig_of h1 h4, h2, h3, Nat.le_refl _, hm, .inl rfl⟩

theorem FS.keep {w0 wr v : World} {r g m cap q : Nat} {ys : List Int} (h : FS w0 wr r g m cap ys) (k : wr.grownBy v (some q)) (h1 : r ≠ q) (h2 : g ≠ q) (h3 : w0.heap.size ≤ q) : FS w0 v r g m cap ys := by
  refine ⟨?_, h.2.1, ?_, h.2.2.2.1, h.2.2.2.2.blk ?_⟩
  · refine ⟨k.os.trans h.1.os, k.tape.trans h.1.tape, k.output.trans h.1.output, Nat.le_trans h.1.size k.size, fun i hi => ?_⟩
    rw [k.block i (Nat.lt_of_lt_of_le hi h.1.size) (by intro e; cases e; omega)]
    exact h.1.block i hi
  · unfold KB
    rw [k.block r (lt_of_block h.2.2.1) (by intro e; cases e; exact h1 rfl)]
    exact h.2.2.1
  · exact k.block g h.2.2.2.2.lt (by intro e; cases e; exact h2 rfl)
theorem FS.far {w0 wr : World} {r g m cap g' i : Nat} {ys : List Int} {x : Value} (h : FS w0 wr r g m cap ys) (h1 : r ≠ g') (h2 : g ≠ g') (h3 : w0.heap.size ≤ g') : FS w0 (wr.setCell ⟨g', i, none⟩ x) r g m cap ys :=
  ⟨h.1.setCell h3 _, h.2.1, h.2.2.1.other h1, h.2.2.2.1, h.2.2.2.2.blk (Below.heap_setCell wr ⟨g', i, none⟩ x g h2)⟩
theorem HI.start (zs : List Int) (m : Nat) (V : Int) (h1 : zs.length = m) (hm : 32 < m) (h2 : Dig zs) (h3 : vl zs = V) : HI zs (zs.take 32) m 0 V := by
  have hd : ∀ j, j < 32 → (zs.take 32).getD j 0 = zs.getD j 0 := by
    intro j hj
    rw [List.getD_eq_getElem?_getD, List.getD_eq_getElem?_getD, List.getElem?_take, if_pos hj]
  refine ⟨by rw [List.length_take]; omega, ?_, fun j hj _ => hd j hj, by simp [vl], h1, h2, h3⟩
  intro j hj
  rw [hd j hj]
  have := h2 (zs[j]'(by omega)) (List.getElem_mem _)
  have e : zs.getD j 0 = zs[j]'(by omega) := by simp [List.getD, List.getElem?_eq_getElem (show j < zs.length by omega)]
  rw [e]
  omega
theorem HI.fin {ys zs : List Int} {m : Nat} {V : Int} (h : HI ys zs m (m - 32) V) (hm : 32 < m) :
    V = vl (ys.take 32) + 115792089237316195423570985008687907853269984665640564039457584007913129639936 * vl (ys.drop 32) ∧ (0 ≤ vl (ys.take 32) ∧ vl (ys.take 32) < 115792089237316195423570985008687907853269984665640564039457584007913129639936) ∧ 0 ≤ vl (ys.drop 32) ∧ vl zs = vl (ys.take 32) + 38 * vl (ys.drop 32) := by
  obtain ⟨h1, h2, h3, h4, h5, h6, h7⟩ := h
  have e256 : (256 : Int) ^ 32 = 115792089237316195423570985008687907853269984665640564039457584007913129639936 := by decide
  have hl : (ys.take 32).length = 32 := by rw [List.length_take]; omega
  have hb := vl_bd (ys.take 32) (fun x hx => h6 x (List.mem_of_mem_take hx))
  have hb2 := vl_bd (ys.drop 32) (fun x hx => h6 x (List.mem_of_mem_drop hx))
  rw [hl, e256] at hb
  refine ⟨?_, hb, hb2.1, ?_⟩
  · have := vl_append (ys.take 32) (ys.drop 32)
    rw [List.take_append_drop, hl, e256, h7] at this
    exact this
  · have e := List.take_of_length_le (l := ys.drop 32) (i := m - 32) (by rw [List.length_drop]; omega)
    rw [h4, e]
theorem or_news {w : World} {g m cap : Nat} {xs : List Int} (h : OR w g m cap xs) (n : Nat) (hn : n ≤ m) : ∀ j u, ((xs.take n).map (Value.int .i64))[j]? = some u → w.cell? ((⟨g, 0, none⟩ : Addr).add j) = some u := by
  intro j u hj
  have hl := (List.getElem?_eq_some_iff.1 hj).1
  rw [List.length_map, List.length_take] at hl
  have hjm : j < m := by omega
  have e1 : (⟨g, 0, none⟩ : Addr).add j = ⟨g, j, none⟩ := by
    rw [Addr.add_mid]; simp
  rw [e1, h.cell j hjm]
  rw [List.getElem?_map, List.getElem?_take, if_pos (by omega)] at hj
  rw [List.getD_eq_getElem?_getD]
  cases hq : xs[j]? with
  | none => rw [hq] at hj; simp at hj
  | some x => rw [hq] at hj; simpa using hj
theorem ints_one (xs : List Int) : ∀ u ∈ xs.map (Value.int .i64), u.oneCell' = true := by
  intro u hu
  obtain ⟨y, _, rfl⟩ := List.mem_map.1 hu
  rfl
theorem one_new (w : World) (x : Value) : ∀ j u, [x][j]? = some u → (w.alloc (.cells #[x] 3 (0, 0))).cell? ((⟨w.heap.size, 0, none⟩ : Addr).add j) = some u := by
  intro j u hj
  match j, hj with
  | 0, hj =>
    simp at hj
    subst hj
    exact cell_of (i := 0) (blk_new w _) rfl
theorem one_one (x : Int) : ∀ u ∈ [Value.int .i64 x], u.oneCell' = true := by
  intro u hu
  simp at hu
  subst hu
  rfl
theorem Try.info3' : (Try.prog.info? 3).map (fun i => (i.zero, i.size, i.bytes)) = some (some (.int .i64 0), 1, 8) := by kernel_rfl

set_option maxHeartbeats 4000000 in
theorem fold_ok (w0 w : World) (g0 L0 cap0 : Nat) (xs : List Int) (V0 : Int) (k0 : Nat) (hw : Gr w0 w) (hg : w0.heap.size ≤ g0) (hO : OR w g0 L0 cap0 xs) (hL : L0 = 32 ∨ (L0 = 64 ∧ k0 = 4)) (hx : ∀ j, j < L0 → 0 ≤ xs.getD j 0 ∧ xs.getD j 0 < 1099511627776) (hV : vl xs % pp = V0) (hk : k0 ≤ 4) (hb : vl xs < bd k0) :
    Calls Try.prog 34 #[.slice (some ⟨g0, 0, none⟩) L0 cap0] w (fun r w' => r = .returned (.agg (kc (digs V0 32))) ∧ Gr w0 w') := by
  go_enter Try.func34, Try.ntmps34
  go_wp2_with fail
  generalize hW : World.alloc _ _ = u
  have hS : Hid (FS w0 u w.heap.size g0 L0 cap0 xs) := by
    rw [← hW]
    refine hide ⟨hw.alloc _, hw.size, ?_, hg, hO.gr ((Gr.refl w).alloc _)⟩
    unfold KB; rw [kc_zero]; exact blk_new w _
  clear hW hO hg hw
  generalize w.heap.size = r at *
  go_loopg [0] k0 (fun k s wr => ∃ g L cap : Nat, ∃ ys : List Int, s = .slice (some ⟨g, 0, none⟩) L cap ∧ Hid (FS w0 wr r g L cap ys) ∧ Hid (L = 32 ∨ (L = 64 ∧ k = 4)) ∧ Hid (∀ j, j < L → 0 ≤ ys.getD j 0 ∧ ys.getD j 0 < 1099511627776) ∧ Hid (vl ys % pp = V0) ∧ Hid (k ≤ 4 ∧ vl ys < bd k))
  case atStart => exact ⟨g0, L0, cap0, xs, rfl, hS, hide hL, hide hx, hide hV, hide ⟨hk, hb⟩⟩
  case round =>
  clear hS hL hx hV hk hb
  obtain ⟨g, L, cap, ys, rfl, hS, hL, hx, hV, hk⟩ := hrel
  have hLL : 32 ≤ L ∧ L ≤ 64 := by have := unhide hL; omega
  have hC : Hid (CI ys L 0 0 (vl ys)) := hide (CI.start ys L (unhide hS).2.2.2.2.1 (unhide hx))
  obtain ⟨V, hVe⟩ : ∃ V, V = vl ys := ⟨_, rfl⟩
  rw [← hVe] at hC hV hk
  clear hx hVe
  have hV64 : Hid (V < 256 ^ 64) := hide (Int.lt_of_lt_of_le (unhide hk).2 (bd_top _ (unhide hk).1))
  go_wp2_with fail
  go_loopw [3, 15] (fun c i wr => ∃ k : Nat, ∃ cv : Int, ∃ ys : List Int, k ≤ L ∧ i = .int .i64 k ∧ c = .int .i64 cv ∧ Hid (CI ys L k cv V) ∧ Hid (FS w0 wr r g L cap ys)) (fun _ i _ => L - (intOf i).toNat)
  case atStart => exact ⟨0, 0, ys, by omega, rfl, rfl, hC, hS⟩
  case round =>
  clear hS hC ys
  obtain ⟨i, cv, ys, hi, rfl, rfl, hC, hS⟩ := hrel
  by_cases hil : i < L
  · have c1 := (unhide hS).2.2.2.2.cell i hil
    have f1 := (unhide hS).2.2.2.2.froz i
    have b1 := (unhide hC).2.2.2.2 i hil
    have b2 := (unhide hC).2.2.1
    have hC2 := hide ((unhide hC).step hil)
    generalize hy : ys.getD i 0 = y at *
    replace hy := hide hy
    have hn : 0 ≤ y + cv := by omega
    have hS2 := hide ((unhide hS).set i ((y + cv) % 256))
    go_wp2_with fail
    go_roundw
    case rel => exact ⟨i + 1, _, _, by omega, by go_num, rfl, hC2, hS2⟩
    case measure => simp [intOf]; omega
  · have e : i = L := by omega
    subst e
    have hA : Hid (AI ys i i cv V) := hide ((unhide hC).done hLL.2)
    clear hC hil hi
    go_wp2_with fail
    go_loopw [0, 3] (fun s c wr => ∃ g m cap : Nat, ∃ ys : List Int, ∃ cv : Int, s = .slice (some ⟨g, 0, none⟩) m cap ∧ c = .int .i64 cv ∧ Hid (AI ys m i cv V) ∧ Hid (FS w0 wr r g m cap ys)) (fun _ c _ => (intOf c).toNat)
    case atStart => exact ⟨g, i, cap, ys, cv, rfl, rfl, hA, hS⟩
    case round =>
    clear hS hA
    obtain ⟨g2, m, cap2, zs, c2, rfl, rfl, hA, hS⟩ := hrel
    have b2 := (unhide hA).2.2.2.1
    by_cases hc : 0 < c2
    · obtain ⟨hm64, _⟩ := (unhide hA).room hc (unhide hV64)
      have hA2 := hide ((unhide hA).step hc hLL.1 (unhide hV64))
      have g1 := (Gr.refl wr).alloc (.cells #[.int .i64 (c2 % 256)] 3 (0, 0))
      have hS1 := hide ((unhide hS).gr g1)
      obtain ⟨i0, hi0, hz0, hz1, hz2⟩ := info_parts Try.info3'
      have hbk := hide (blk_new wr (.cells #[.int .i64 (c2 % 256)] 3 (0, 0)))
      go_wp2_with (at_builtin; refine wpList_append_own _ rfl (.tmp 34) (.tmp 37) 52 rfl w0.heap.size 3 i0 (.int .i64 0) 1 8 Try.underlying52 hi0 hz0 hz1 hz2 rfl (by decide) _ m (zs.map (Value.int .i64)) rfl ((unhide hS1).2.2.2.2.owns (unhide hS1).2.2.2.1) ⟨wr.heap.size, 0, none⟩ 1 1 [.int .i64 (c2 % 256)] rfl rfl (one_new wr _) (one_one _) (by unfold maxLen; omega) (by omega) (unhide hS1).1.size ?_; intro v' w' ho hgb _; obtain ⟨g3, cap3, rfl, hg3, hO3⟩ := or_of_owns (xs := zs ++ [c2 % 256]) (by simpa using ho) (by omega); have hS3 := hide ((unhide hS1).app hgb hg3 hO3); clear ho hgb hO3)
      go_roundw
      case rel => exact ⟨g3, m + 1, cap3, _, _, rfl, rfl, hA2, hS3⟩
      case measure => simp [intOf]; omega
    · have e0 : c2 = 0 := by omega
      subst e0
      obtain ⟨a1, a2, a3, _, a5, a6, a7⟩ := unhide hA
      have hVv : vl zs = V := by rw [← a3]; simp
      have Hs := hide a2
      have HVv := hide hVv
      have Ha1 := hide a1
      have Ha7 := hide a7
      clear a1 a2 a3 a7 hA hVv b2 hc
      by_cases h32 : m ≤ 32
      · have em : m = 32 := by omega
        subst em
        have hVb := vl_bd zs (unhide Hs)
        rw [unhide HVv, unhide Ha1] at hVb
        have e256 : (256 : Int) ^ 32 = 115792089237316195423570985008687907853269984665640564039457584007913129639936 := by decide
        rw [e256] at hVb
        have hM := hide (mod_ok V hVb)
        rw [unhide hV] at hM
        clear hVb e256
        go_wp2_with fail
        have hk1 : Hid (KB (wr.alloc (.cells (List.replicate 32 (Value.int .u8 0)).toArray 23 (0, 0))) wr.heap.size (digs V 0)) := by
          show KB _ _ _
          unfold KB; rw [kc_zero]; exact blk_new wr _
        have hS2 := hide ((unhide hS).gr ((Gr.refl wr).alloc (.cells (List.replicate 32 (Value.int .u8 0)).toArray 23 (0, 0))))
        have hle := (unhide hS).1.size
        have hrl : r < wr.heap.size := lt_of_block (unhide hS).2.2.1
        have hgl : g2 < wr.heap.size := (unhide hS).2.2.2.2.lt
        generalize hq : wr.heap.size = q at *
        have hzz : World.alloc wr (.cells (List.replicate 32 (Value.int .u8 0)).toArray 23 (0, 0)) = World.alloc wr (.cells (List.replicate 32 (Value.int .u8 0)).toArray 23 (0, 0)) := rfl
        go_loopw [70] (fun i wr => ∃ k : Nat, k ≤ 32 ∧ i = .int .i64 k ∧ Hid (KB wr q (digs V k)) ∧ Hid (FS w0 wr r g2 32 cap2 zs)) (fun i _ => 32 - (intOf i).toNat)
        case atStart => exact ⟨0, by omega, rfl, hk1, hS2⟩
        case round =>
        clear hk1 hS2 hS hzz hq
        obtain ⟨k, hk2, rfl, hK, hS⟩ := hrel
        by_cases hkl : k < 32
        · have c1 := (unhide hS).2.2.2.2.cell k hkl
          have hd := vl_digit zs k (unhide Hs)
          rw [unhide HVv] at hd
          have ck := (unhide hK).cell k (by rw [digs_len]; exact hkl)
          have fk := (unhide hK).froz k
          generalize (digs V k).getD k 0 = old at ck
          have hst := hide (digs_set V (V / 256 ^ k % 256) k rfl)
          rw [hd] at c1
          clear hd
          have bb : 0 ≤ V / 256 ^ k % 256 ∧ V / 256 ^ k % 256 < 256 := by omega
          generalize V / 256 ^ k % 256 = d at *
          have hwr : d % 256 = d := by omega
          have hne : q ≠ g2 := by omega
          have hrq : r ≠ q := by omega
          replace hne := hide hne
          replace hrq := hide hrq
          go_wp2_with fail
          go_roundw
          case rel =>
            refine ⟨k + 1, by omega, by go_num, hide ?_, hide ⟨(unhide hS).1.setCell (p := ⟨q, k, none⟩) hle _, (unhide hS).2.1, (unhide hS).2.2.1.other (unhide hrq), (unhide hS).2.2.2.1, (unhide hS).2.2.2.2.blk (Below.heap_setCell wr ⟨q, k, none⟩ _ g2 (Ne.symm (unhide hne)))⟩⟩
            rw [← unhide hst]
            exact (unhide hK).set k d
          case measure => simp [intOf]; omega
        · have ek : k = 32 := by omega
          subst ek
          have hR := hide (unhide hS).2.2.1
          have hG := hide (unhide hS).1
          have hr0 := (unhide hS).2.1
          clear hS
          go_wp2_with (first | (refine wpList_load_row rfl 23 (.tmp 10) rfl q rfl 23 (kc (digs V 32)) (0, 0) _ (by exact unhide hK) Try.underlying23 rfl (by rw [Try.infoKey, kc_size, digs_len]) ?_) | (go_at_call 32; refine (unhide hM _).mono ?_; rintro rr w5 ⟨rfl, hg5⟩; replace hR := hide (hg5.blk (unhide hR)); replace hG := hide ((unhide hG).trans hg5); clear hg5) | (refine wpList_store_row rfl 23 (.tmp 2) (.tmp 81) rfl r (kc (digs V0 32)) rfl rfl 23 (kc (digs 0 0)) (by exact unhide hR) (by rw [Try.infoKey, kc_size, digs_len]) (by rw [kc_size, kc_size, digs_len, digs_len]) (kc_one _) ?_))
          refine bodyPost_ret (v := .agg (kc (digs V0 32))) (results_cell_row Try.results34 _ _ r 23 (kc (digs V0 32)) (0, 0) _ rfl (setRow_heap w5 r _ _ 23 _ (unhide hR)) Try.underlying23 rfl (by rw [Try.infoKey, kc_size, digs_len])) rfl ⟨rfl, ?_⟩
          exact below_setRow (unhide hG) hr0 _
      · have hm32 : 32 < m := by omega
        have hcap : m ≤ cap2 := (unhide hS).2.2.2.2.2.1
        obtain ⟨i0, hi0, hz0, hz1, hz2⟩ := info_parts Try.info3'
        have g1 := (Gr.refl wr).alloc (.cells #[] 3 (0, 0))
        have hS1 := hide ((unhide hS).gr g1)
        have hE : Hid (OR (wr.alloc (.cells #[] 3 (0, 0))) wr.heap.size 0 0 []) := hide ⟨rfl, Nat.le_refl _, by unfold maxLen; omega, #[], rfl, blk_new wr _, rfl⟩
        have hlz : (zs.take 32).length = 32 := by rw [List.length_take, unhide Ha1]; omega
        have hnews := hide (or_news (unhide hS1).2.2.2.2 32 (by omega))
        have hone := hide (ints_one (zs.take 32))
        have hsz1 : wr.heap.size ≤ (wr.alloc (.cells #[] 3 (0, 0))).heap.size := g1.size
        have hlen2 : ((zs.take 32).map (Value.int .i64)).length = 32 * 1 := by rw [List.length_map, hlz]
        replace hlen2 := hide hlen2
        replace hlz := hide hlz
        replace hsz1 := hide hsz1
        go_upto_region 14 with (at_builtin; go_must (refine wpList_append_own _ rfl (.tmp 46) (.tmp 48) 52 rfl wr.heap.size 3 i0 (.int .i64 0) 1 8 Try.underlying52 hi0 hz0 hz1 hz2 rfl (by decide) _ 0 [] rfl ((unhide hE).owns (Nat.le_refl _)) ⟨g2, 0, none⟩ 32 cap2 ((zs.take 32).map (Value.int .i64)) rfl (unhide hlen2) (unhide hnews) (unhide hone) (by unfold maxLen; omega) (by omega) (unhide hsz1) ?_; intro v' w' ho hgb _; obtain ⟨g3, cap3, rfl, hg3, hO3⟩ := or_of_owns (xs := zs.take 32) (by simpa using ho) (by omega); clear ho))
        have hrl : r < wr.heap.size := lt_of_block (unhide hS).2.2.1
        have hgl : g2 < wr.heap.size := (unhide hS).2.2.2.2.lt
        have hle := (unhide hS).1.size
        have hgb2 : (wr.alloc (.cells #[] 3 (0, 0))).grownBy w' (some wr.heap.size) := hgb
        have hS2 := hide ((unhide hS1).keep hgb2 (by omega) (by omega) hle)
        clear hgb2
        have hH : Hid (HI zs (zs.take 32) m 0 V) := hide (HI.start zs m V (unhide Ha1) hm32 (unhide Hs) (unhide HVv))
        replace hO3 := hide hO3
        clear hS hS1 hgb hE hnews hone hlen2 hlz hsz1 g1 hi0 hz0 hz1 hz2
        generalize wr.heap.size = q at *
        clear wr
        go_wp2_with fail
        go_loopw [52] (fun ix wx => ∃ k : Nat, ∃ ls : List Int, k ≤ m - 32 ∧ ix = .int .i64 k ∧ Hid (HI zs ls m k V) ∧ Hid (OR wx g3 32 cap3 ls) ∧ Hid (FS w0 wx r g2 m cap2 zs)) (fun ix _ => m - 32 - (intOf ix).toNat)
        case atStart => exact ⟨0, zs.take 32, by omega, rfl, hH, hO3, hS2⟩
        case round =>
        clear hH hO3 hS2
        obtain ⟨k, ls, hkm, rfl, hH, hO, hS⟩ := hrel
        by_cases hkl : k < m - 32
        · have hk32 : k < 32 := by omega
          obtain ⟨hH2, d1, d2⟩ := (unhide hH).step hkl a6
          replace hH2 := hide hH2
          have c1 := (unhide hS).2.2.2.2.cell (32 + k) (by omega)
          have c2 := (unhide hO).cell k hk32
          have f2 := (unhide hO).froz k
          have hO2 := hide ((unhide hO).set k (ls.getD k 0 + zs.getD (32 + k) 0 * 38))
          have hS3 := hide ((unhide hS).far (g' := g3) (i := k) (x := .int .i64 (ls.getD k 0 + zs.getD (32 + k) 0 * 38)) (by omega) (by omega) (by omega))
          generalize hx1 : ls.getD k 0 = x1 at *
          generalize hx2 : zs.getD (32 + k) 0 = x2 at *
          replace hx1 := hide hx1; replace hx2 := hide hx2
          have e1 : (k : Int) % 32 = (k : Int) := by omega
          have e2 : (k : Int).tmod 32 = (k : Int) := by rw [Int.tmod_eq_emod_of_nonneg (by omega)]; exact e1
          go_wp2_with fail
          go_roundw
          case rel => exact ⟨k + 1, _, by omega, by go_num, hH2, hO2, hS3⟩
          case measure => simp [intOf]; omega
        · have ek : k = m - 32 := by omega
          subst ek
          have hfin := (unhide hH).fin hm32
          obtain ⟨v1, v2, v3, v4⟩ := hfin
          have hh4 : gk = 4 ∨ 1 ≤ vl (zs.drop 32) := by
            rcases unhide hL with h1 | h1
            · rcases unhide Ha7 with h2 | h2
              · omega
              · right; omega
            · exact .inl h1.2
          have hbn := bd_next gk V _ _ (unhide hk).1 v1 v2 v3 (unhide hk).2 hh4
          have hmm := fold_mod (vl (zs.take 32)) (vl (zs.drop 32))
          rw [← v1, unhide hV, ← v4] at hmm
          rw [← v4] at hbn
          have hx4 := hide (unhide hH).2.1
          have hl4 := (unhide hO).1
          have hfs : Hid (FS w0 wr r g3 32 cap3 ls) := hide ⟨(unhide hS).1, (unhide hS).2.1, (unhide hS).2.2.1, by omega, unhide hO⟩
          replace hbn := hide hbn
          replace hmm := hide hmm
          clear v1 v2 v3 v4 hh4 hH hO hS
          go_wp2_with fail
          go_roundg (gk - 1)
          case measure => have := (unhide hbn).1; omega
          case rel => exact ⟨g3, 32, cap3, ls, rfl, hfs, hide (.inl rfl), hx4, hmm, hide ⟨by have := (unhide hk).1; omega, (unhide hbn).2⟩⟩
end Go.Proofs.Ytjncnmhigikdoaa
