/-
  Variables that are made while a region's calls go on: the frame told by the variables' places.
-/
import Derived.Test.YtdekjbdkpchbjabMake1
import Derived.Test.YtdekjbdkpchbjabMake2
import Derived.Test.YtdekjbdkpchbjabMake4
namespace Go.Proofs.Ytdekjbdkpchbjab
open Go.RowKit
set_option maxRecDepth 100000

def fw1 (a : Act) (p1 : Nat) (q1 : Value) : Act := ⟨(a.tmps.setIfInBounds p1 q1), a.defers⟩
theorem M1.re {W : World} {z : Array Value} {t : TypeId} {A A' : Value → Act} {F F' : Bool → Array Bool} {b1 : Bool} {q1 : Value} {g1 : Nat} {l l' : Array Bool} {a a' : Act} {w w' : World} (h : M1 W z t A F b1 q1 g1 l a w) (k : Gr w w') (hl : l' = F' b1) (ha : a' = A' q1) :
    M1 W z t A' F' b1 q1 g1 l' a' w' := ⟨hl, ha, h.gr.trans k, fun e => (h.x1 e).more k⟩
theorem M1.again {W : World} {z : Array Value} {t : TypeId} {A : Value → Act} {F F' : Bool → Array Bool} {b1 : Bool} {q1 : Value} {g1 : Nat} {p1 : Nat} {l l' : Array Bool} {a a' : Act} {w w' : World} (h : M1 W z t A F b1 q1 g1 l a w) (k : Gr w w') (hl : l' = F' b1) (ha : fw1 a' p1 q1 = a') :
    M1 W z t (fw1 a' p1) F' b1 q1 g1 l' a' w' := h.re k hl ha.symm
theorem M1.first {W : World} {z : Array Value} {t : TypeId} (F : Bool → Array Bool) {p1 : Nat} {l : Array Bool} (a : Act) (hl : l = F false) (ha : fw1 a p1 (a.tmps.getD p1 undef) = a) :
    ∃ b1 q1 g1, M1 W z t (fw1 a p1) F b1 q1 g1 l a W :=
  ⟨false, a.tmps.getD p1 undef, 0, ⟨hl, ha.symm, Gr.refl W, (fun e => by cases e)⟩⟩

def fw2 (a : Act) (p1 p2 : Nat) (q1 q2 : Value) : Act := ⟨((a.tmps.setIfInBounds p1 q1).setIfInBounds p2 q2), a.defers⟩
theorem M2.re {W : World} {z : Array Value} {t : TypeId} {A A' : Value → Value → Act} {F F' : Bool → Bool → Array Bool} {b1 b2 : Bool} {q1 q2 : Value} {g1 g2 : Nat} {l l' : Array Bool} {a a' : Act} {w w' : World} (h : M2 W z t A F b1 b2 q1 q2 g1 g2 l a w) (k : Gr w w') (hl : l' = F' b1 b2) (ha : a' = A' q1 q2) :
    M2 W z t A' F' b1 b2 q1 q2 g1 g2 l' a' w' := ⟨hl, ha, h.gr.trans k, fun e => (h.x1 e).more k, fun e => (h.x2 e).more k, h.ne12⟩
theorem M2.again {W : World} {z : Array Value} {t : TypeId} {A : Value → Value → Act} {F F' : Bool → Bool → Array Bool} {b1 b2 : Bool} {q1 q2 : Value} {g1 g2 : Nat} {p1 p2 : Nat} {l l' : Array Bool} {a a' : Act} {w w' : World} (h : M2 W z t A F b1 b2 q1 q2 g1 g2 l a w) (k : Gr w w') (hl : l' = F' b1 b2) (ha : fw2 a' p1 p2 q1 q2 = a') :
    M2 W z t (fw2 a' p1 p2) F' b1 b2 q1 q2 g1 g2 l' a' w' := h.re k hl ha.symm
theorem M2.first {W : World} {z : Array Value} {t : TypeId} (F : Bool → Bool → Array Bool) {p1 p2 : Nat} {l : Array Bool} (a : Act) (hl : l = F false false) (ha : fw2 a p1 p2 (a.tmps.getD p1 undef) (a.tmps.getD p2 undef) = a) :
    ∃ b1 b2 q1 q2 g1 g2, M2 W z t (fw2 a p1 p2) F b1 b2 q1 q2 g1 g2 l a W :=
  ⟨false, false, a.tmps.getD p1 undef, a.tmps.getD p2 undef, 0, 0, ⟨hl, ha.symm, Gr.refl W, (fun e => by cases e), (fun e => by cases e), (fun e => by cases e)⟩⟩

def fw4 (a : Act) (p1 p2 p3 p4 : Nat) (q1 q2 q3 q4 : Value) : Act := ⟨((((a.tmps.setIfInBounds p1 q1).setIfInBounds p2 q2).setIfInBounds p3 q3).setIfInBounds p4 q4), a.defers⟩
theorem M4.re {W : World} {z : Array Value} {t : TypeId} {A A' : Value → Value → Value → Value → Act} {F F' : Bool → Bool → Bool → Bool → Array Bool} {b1 b2 b3 b4 : Bool} {q1 q2 q3 q4 : Value} {g1 g2 g3 g4 : Nat} {l l' : Array Bool} {a a' : Act} {w w' : World} (h : M4 W z t A F b1 b2 b3 b4 q1 q2 q3 q4 g1 g2 g3 g4 l a w) (k : Gr w w') (hl : l' = F' b1 b2 b3 b4) (ha : a' = A' q1 q2 q3 q4) :
    M4 W z t A' F' b1 b2 b3 b4 q1 q2 q3 q4 g1 g2 g3 g4 l' a' w' := ⟨hl, ha, h.gr.trans k, fun e => (h.x1 e).more k, fun e => (h.x2 e).more k, fun e => (h.x3 e).more k, fun e => (h.x4 e).more k, h.ne12, h.ne13, h.ne14, h.ne23, h.ne24, h.ne34⟩
theorem M4.again {W : World} {z : Array Value} {t : TypeId} {A : Value → Value → Value → Value → Act} {F F' : Bool → Bool → Bool → Bool → Array Bool} {b1 b2 b3 b4 : Bool} {q1 q2 q3 q4 : Value} {g1 g2 g3 g4 : Nat} {p1 p2 p3 p4 : Nat} {l l' : Array Bool} {a a' : Act} {w w' : World} (h : M4 W z t A F b1 b2 b3 b4 q1 q2 q3 q4 g1 g2 g3 g4 l a w) (k : Gr w w') (hl : l' = F' b1 b2 b3 b4) (ha : fw4 a' p1 p2 p3 p4 q1 q2 q3 q4 = a') :
    M4 W z t (fw4 a' p1 p2 p3 p4) F' b1 b2 b3 b4 q1 q2 q3 q4 g1 g2 g3 g4 l' a' w' := h.re k hl ha.symm
theorem M4.first {W : World} {z : Array Value} {t : TypeId} (F : Bool → Bool → Bool → Bool → Array Bool) {p1 p2 p3 p4 : Nat} {l : Array Bool} (a : Act) (hl : l = F false false false false) (ha : fw4 a p1 p2 p3 p4 (a.tmps.getD p1 undef) (a.tmps.getD p2 undef) (a.tmps.getD p3 undef) (a.tmps.getD p4 undef) = a) :
    ∃ b1 b2 b3 b4 q1 q2 q3 q4 g1 g2 g3 g4, M4 W z t (fw4 a p1 p2 p3 p4) F b1 b2 b3 b4 q1 q2 q3 q4 g1 g2 g3 g4 l a W :=
  ⟨false, false, false, false, a.tmps.getD p1 undef, a.tmps.getD p2 undef, a.tmps.getD p3 undef, a.tmps.getD p4 undef, 0, 0, 0, 0, ⟨hl, ha.symm, Gr.refl W, (fun e => by cases e), (fun e => by cases e), (fun e => by cases e), (fun e => by cases e), (fun e => by cases e), (fun e => by cases e), (fun e => by cases e), (fun e => by cases e), (fun e => by cases e), (fun e => by cases e)⟩⟩

end Go.Proofs.Ytdekjbdkpchbjab
