/-
  The code of a key and parts.
-/
import Derived.Test.YtpmgmpihmpifgabDoorKdfA
namespace Go.Proofs.YtpmgmpihmpifgabDoor
open Go.RowKit
set_option maxRecDepth 100000
set_option linter.unusedSimpArgs false
set_option linter.unusedVariables false

/-- the code of a key and a text -/
def hmacL (key text : List Int) : List Int := sumL (padK key 92 ++ sumL (padK key 54 ++ text))
theorem hmacL_len (key text : List Int) : (hmacL key text).length = 32 := sumL_len _
theorem sumL_isB (B : List Int) : IsB (sumL B) := keyL_isB _
/-- the worlds within Hmac -/
structure HI (w : World) (g4 gk g1 g2 : Nat) (K L1 L2 : List Int) (v : World) : Prop where
  b4 : v.heap[g4]? = some (.cells (kc Z32) 23 (0, 0))
  bk : v.heap[gk]? = some (.cells (kc K) 48 (0, 0))
  h1 : H g1 L1 v
  h2 : H g2 L2 v
  gr : Gr w v
  n4 : w.heap.size ≤ g4
  nk : g4 < gk
  n1 : gk < g1
  n2 : g1 < g2
  n9 : g2 < v.heap.size
theorem HI.more {w : World} {g4 gk g1 g2 : Nat} {K L1 L2 : List Int} {u v : World} (h : HI w g4 gk g1 g2 K L1 L2 u) (k : Gr u v) : HI w g4 gk g1 g2 K L1 L2 v :=
  ⟨k.blk h.b4, k.blk h.bk, h.h1.gr k, h.h2.gr k, h.gr.trans k, h.n4, h.nk, h.n1, h.n2, Nat.lt_of_lt_of_le h.n9 k.size⟩
theorem HI.one {w : World} {g4 gk g1 g2 : Nat} {K L1 L2 M : List Int} {u v : World} (h : HI w g4 gk g1 g2 K L1 L2 u) (k : Bt g1 u v) (hm : H g1 M v) : HI w g4 gk g1 g2 K M L2 v := by
  have a1 := h.n4; have a2 := h.nk; have a3 := h.n1; have a4 := h.n2
  exact ⟨k.blk h.b4 (by omega), k.blk h.bk (by omega), hm, h.h2.bt k (by omega), k.gr h.gr (by omega), h.n4, h.nk, h.n1, h.n2, Nat.lt_of_lt_of_le h.n9 k.size⟩
theorem HI.two {w : World} {g4 gk g1 g2 : Nat} {K L1 L2 M : List Int} {u v : World} (h : HI w g4 gk g1 g2 K L1 L2 u) (k : Bt g2 u v) (hm : H g2 M v) : HI w g4 gk g1 g2 K L1 M v := by
  have a1 := h.n4; have a2 := h.nk; have a3 := h.n1; have a4 := h.n2
  exact ⟨k.blk h.b4 (by omega), k.blk h.bk (by omega), h.h1.bt k (by omega), hm, k.gr h.gr (by omega), h.n4, h.nk, h.n1, h.n2, Nat.lt_of_lt_of_le h.n9 k.size⟩
/-- one list in a row of one -/
theorem PrX.one {g : Nat} {w : World} {p : Nat} {a : Option Addr} {n c : Nat} {t : TypeId} {P : List Int} (h : w.heap[p]? = some (.cells #[.slice a n c] t (0, 0))) (hp : p ≠ g) (hn : P.length = n) (hb : IsB P) (hs : SlX g w a P) (hc : n ≤ c) (hm : c < 9223372036854775808) : PrX g w (some ⟨p, 0, none⟩) [P] := by
  refine .inr ⟨p, 0, rfl, fun j hj => ?_⟩
  have hj0 : j = 0 := by simp at hj; exact hj
  subst hj0
  exact ⟨a, n, c, cell_of h rfl, hp, hn, hb, hs, hc, hm⟩
theorem PrX.pair {g : Nat} {w : World} {p : Nat} {a b : Option Addr} {n c m d : Nat} {t : TypeId} {P Q : List Int} (h : w.heap[p]? = some (.cells #[.slice a n c, .slice b m d] t (0, 0))) (hp : p ≠ g) (hn : P.length = n) (hb : IsB P) (hs : SlX g w a P) (hc : n ≤ c) (hm : c < 9223372036854775808)
    (hn2 : Q.length = m) (hb2 : IsB Q) (hs2 : SlX g w b Q) (hc2 : m ≤ d) (hm2 : d < 9223372036854775808) : PrX g w (some ⟨p, 0, none⟩) [P, Q] := by
  refine .inr ⟨p, 0, rfl, fun j hj => ?_⟩
  have hj0 : j = 0 ∨ j = 1 := by simp at hj; omega
  rcases hj0 with rfl | rfl
  · exact ⟨a, n, c, cell_of h rfl, hp, hn, hb, hs, hc, hm⟩
  · exact ⟨b, m, d, cell_of h rfl, hp, hn2, hb2, hs2, hc2, hm2⟩
def Coded (key text : List Int) (w : World) (r : Ending) (w' : World) : Prop := r = .returned (.agg (kc (hmacL key text))) ∧ Gr w w'
end Go.Proofs.YtpmgmpihmpifgabDoor
