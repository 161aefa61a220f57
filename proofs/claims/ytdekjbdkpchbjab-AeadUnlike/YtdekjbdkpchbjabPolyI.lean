/-
  The reference: the code.
-/
import Derived.Test.YtdekjbdkpchbjabPolyH
namespace Go.Proofs.Ytdekjbdkpchbjab
open Go.RowKit
set_option maxRecDepth 100000
set_option linter.unusedSimpArgs false
set_option linter.unusedVariables false
theorem Lb.short {v : World} {s : Option Addr} {len cap : Nat} {B : List Int} (h : Lb v s len cap B) (n : Nat) (hn : n ≤ len) : Lb v s n cap (B.take n) := by
  refine ⟨by rw [List.length_take, h.len]; omega, h.isB.take n, ?_, Nat.le_trans hn h.cap, h.max⟩
  rcases h.sl with rfl | ⟨p, o, rfl, hat⟩
  · exact .inl (by simp)
  · refine .inr ⟨p, o, rfl, fun j hj => ?_⟩
    rw [List.length_take] at hj
    rw [hat j (by omega)]
    congr 2
    rw [List.getD_eq_getElem?_getD, List.getD_eq_getElem?_getD, List.getElem?_take, if_pos (by omega)]
theorem list_mid {ops : Array Oper} {Q : Exit → Act → World → Prop} {a : Act} {w : World} {o : Oper} {rest : List Oper} (x y z : Operand) (hw : Region.wanted o (yielded ops a.tmps) = true) (ho : o.op = .slice 26 x (some y) (some z) none)
    (s : Option Addr) (len cap q e : Nat) (hx : a.eval x = .slice s len cap) (hy : a.eval y = .int .i64 q) (hz0 : a.eval z = .int .i64 e) (B : List Int) (hb : Lb w s len cap B) (hqe : q ≤ e) (he : e ≤ len)
    (h : ∀ s', (∀ v, Lb v s len cap B → Lb v s' (e - q) (cap - q) ((B.drop q).take (e - q))) → wpList Try.prog ops Q rest (a.put o.dst (.slice s' (e - q) (cap - q))) w) : wpList Try.prog ops Q (o :: rest) a w := by
  refine list_val (.slice (if cap = q then s else s.map (·.add q)) (e - q) (cap - q)) hw ?_ (h _ fun v hv => (hv.rest q (by omega)).short (e - q) (by omega))
  have hc := hb.cap
  have h1 : (0 : Int) ≤ q := by omega
  have h2 : (q : Int) ≤ e := by omega
  have h3 : (e : Int) ≤ cap := by omega
  have hu : Try.prog.underlying 26 = some (.slice (Try.prog.elem 26)) := by kernel_rfl
  have hz : (sizeOf (Try.prog.elem 26)).run Try.prog w = .ok 1 w := by kernel_rfl
  simp [execOp, ho, hx, hy, hz0, run_sliceAt_slice _ _ _ _ _ _ hu, run_slice_lh _ _ _ _ _ hu _ _ _ _ h1 h2 h3, hz, sliced]
theorem key_tail {w : World} {g : Nat} {K : List Int} {t : TypeId} (h : w.heap[g]? = some (.cells (kc K) t (0, 0))) (hK : K.length = 32) (hb : IsB K) : Lb w (some ⟨g, 16, none⟩) 16 16 (K.drop 16) := by
  refine ⟨by rw [List.length_drop, hK], hb.drop 16, .inr ⟨g, 16, rfl, ?_⟩, Nat.le_refl _, by omega⟩
  intro j hj
  rw [List.length_drop, hK] at hj
  have h1 := kc_cell h (16 + j) (by omega)
  have e : (K.drop 16).getD j 0 = K.getD (16 + j) 0 := by rw [List.getD_eq_getElem?_getD, List.getElem?_drop, ← List.getD_eq_getElem?_getD]
  rw [e]
  exact h1
/-- the number of a block of bytes, one more bit above it; the sum so far -/
def bN (B : List Int) (k : Nat) : Nat := V (nb ((B.drop (16 * k)).take 16) ++ [1])
def acN (r : Nat) (B : List Int) : Nat → Nat
  | 0 => 0
  | k + 1 => (acN r B k + bN B k) * r % P5
/-- how many blocks -/
def nk (n : Nat) : Nat := (n + 15) / 16
/-- the code as a number, as bytes -/
def mcN (K B : List Int) : Nat := acN (V (nb (clL K))) B (nk B.length) + V (nb (K.drop 16))
def tgf (n i : Nat) : Int := ((n / 256 ^ i % 256 : Nat) : Int)
def tgL (n : Nat) : List Int := (List.range 16).map (tgf n)
theorem tgL_len (n : Nat) : (tgL n).length = 16 := by simp [tgL]
def mcL (K B : List Int) : List Int := tgL (mcN K B)
theorem V_digit : ∀ (l : List Nat), AllB l → ∀ i, l.getD i 0 = V l / 256 ^ i % 256
  | [], _, i => by simp [V]
  | x :: l, h, 0 => by
    have := h x List.mem_cons_self
    rw [V]
    simp
    omega
  | x :: l, h, i + 1 => by
    have h1 := V_digit l (fun y hy => h y (List.mem_cons_of_mem _ hy)) i
    have hx := h x List.mem_cons_self
    rw [List.getD_cons_succ, h1, V, Nat.pow_succ, Nat.mul_comm (256 ^ i) 256, ← Nat.div_div_eq_div_mul, show (x + 256 * V l) / 256 = V l from by omega]
theorem rest_lt (x : Nat) : x % P5 < 256 ^ 17 := by
  have h1 := Nat.mod_lt x (show 0 < P5 by rw [P5_eq]; omega)
  have h2 : (256 : Nat) ^ 17 = 87112285931760246646623899502532662132736 := by decide
  rw [P5_eq] at h1
  rw [P5_eq, h2]
  omega
end Go.Proofs.Ytdekjbdkpchbjab
