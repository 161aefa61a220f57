/-
  The block by the reference.
-/
import Derived.Test.YtdekjbdkpchbjabChaRW
namespace Go.Proofs.Ytdekjbdkpchbjab
open Go.RowKit
set_option maxRecDepth 100000
set_option linter.unusedSimpArgs false
set_option linter.unusedVariables false
theorem Try.infoA : (Try.prog.info? 52).map (·.size) = some 16 := by kernel_rfl
/-- the words of the key, of the nonce, as far as n -/
def wk (K W : List Int) (p : Nat) : Nat → List Int
  | 0 => W
  | n + 1 => (wk K W p n).set (p + n) (wd K (4 * n))
theorem wk_len (K W : List Int) (p : Nat) : ∀ n, (wk K W p n).length = W.length
  | 0 => rfl
  | n + 1 => by rw [wk, List.length_set, wk_len K W p n]
/-- four words stored one by one -/
def qset (X : List Int) (p : List Nat) (q : List Int) : Nat → List Int
  | 0 => X
  | i + 1 => (qset X p q i).set (p.getD i 0) (q.getD i 0)
theorem qset_len (X : List Int) (p : List Nat) (q : List Int) : ∀ i, (qset X p q i).length = X.length
  | 0 => rfl
  | i + 1 => by rw [qset, List.length_set, qset_len X p q i]
theorem qset_all (X : List Int) (p : List Nat) : qset X p (ql (quar (X.getD (p.getD 0 0) 0) (X.getD (p.getD 1 0) 0) (X.getD (p.getD 2 0) 0) (X.getD (p.getD 3 0) 0))) 4 = qpl X p := rfl
/-- the words of key and nonce, by both -/
def ob (K : List Int) (o : Nat) : Int := bits .or .u32 (bits .or .u32 (bits .or .u32 (bits .or .u32 0 (K.getD o 0 * 2 ^ 0 % 4294967296)) (K.getD (o + 1) 0 * 2 ^ 8 % 4294967296)) (K.getD (o + 2) 0 * 2 ^ 16 % 4294967296)) (K.getD (o + 3) 0 * 2 ^ 24 % 4294967296)
theorem ob_wd (K : List Int) (h : IsB K) (o : Nat) : ob K o = wd K o := by
  have b0 := h.at_ o
  have b1 := h.at_ (o + 1)
  have b2 := h.at_ (o + 2)
  have b3 := h.at_ (o + 3)
  unfold ob wd
  rw [show K.getD o 0 * 2 ^ 0 % 4294967296 = K.getD o 0 from by omega, or_zero _ ⟨b0.1, by omega⟩, show K.getD (o + 1) 0 * 2 ^ 8 % 4294967296 = K.getD (o + 1) 0 * 256 from by omega, show K.getD (o + 2) 0 * 2 ^ 16 % 4294967296 = K.getD (o + 2) 0 * 65536 from by omega, show K.getD (o + 3) 0 * 2 ^ 24 % 4294967296 = K.getD (o + 3) 0 * 16777216 from by omega]
theorem kw_key (K : List Int) : kw 4 K W0 32 = [1634760805, 857760878, 2036477234, 1797285236, ob K 0, ob K 4, ob K 8, ob K 12, ob K 16, ob K 20, ob K 24, ob K 28, 0, 0, 0, 0] := by kernel_rfl
theorem kw_nonce (N : List Int) (a0 a1 a2 a3 a4 a5 a6 a7 a8 a9 a10 a11 a12 : Int) : kw 13 N [a0, a1, a2, a3, a4, a5, a6, a7, a8, a9, a10, a11, a12, 0, 0, 0] 12 = [a0, a1, a2, a3, a4, a5, a6, a7, a8, a9, a10, a11, a12, ob N 0, ob N 4, ob N 8] := by kernel_rfl
theorem wk_key (K : List Int) : wk K W0 4 8 = [1634760805, 857760878, 2036477234, 1797285236, wd K 0, wd K 4, wd K 8, wd K 12, wd K 16, wd K 20, wd K 24, wd K 28, 0, 0, 0, 0] := by kernel_rfl
theorem wk_nonce (N : List Int) (a0 a1 a2 a3 a4 a5 a6 a7 a8 a9 a10 a11 a12 : Int) : wk N [a0, a1, a2, a3, a4, a5, a6, a7, a8, a9, a10, a11, a12, 0, 0, 0] 13 3 = [a0, a1, a2, a3, a4, a5, a6, a7, a8, a9, a10, a11, a12, wd N 0, wd N 4, wd N 8] := by kernel_rfl
theorem words_eq (K N : List Int) (hK : IsB K) (hN : IsB N) (c : Int) : wk N ((wk K W0 4 8).set 12 c) 13 3 = (bg K N).set 12 c := by
  unfold bg
  rw [kw_key, kw_nonce, wk_key]
  simp only [List.set_cons_zero, List.set_cons_succ]
  rw [wk_nonce]
  simp only [ob_wd K hK, ob_wd N hN]
end Go.Proofs.Ytdekjbdkpchbjab
