/-
  The reference: the words of a block. The reference: the steps of a block. The reference: what the steps made is added; the state as bytes. The reference: block by block. The reference: the hash of bytes.
-/
import Derived.Test.YtpmgmpihmpifgabDoorSaE
namespace Go.Proofs.YtpmgmpihmpifgabDoor
open Go.RowKit
set_option maxRecDepth 1000000
set_option linter.unusedSimpArgs false
set_option linter.unusedVariables false

/-- the bodies of all loops of a code, the outer ones first -/
def loopsOf : Code → List Code
  | .loop c => c :: loopsOf c
  | .seq a b => loopsOf a ++ loopsOf b
  | .block _ c => loopsOf c
  | .scope c => loopsOf c
  | .cond _ a b => loopsOf a ++ loopsOf b
  | _ => []
theorem Bl.left {w v : World} {L M : List Blk} (h : Bl w (L ++ M) v) : Bl w L v := ⟨h.gr, fun x hx => h.at_ x (List.mem_append_left _ hx), (List.pairwise_append.1 h.ne).1⟩
theorem cur_at {w : World} {gd : Nat} {cur : Array Value} {D : List Int} (h : w.heap[gd]? = some (.cells cur 5 (0, 0))) (hc : cur.toList.take D.length = D.map (Value.int .u8)) : At w gd 0 D := by
  intro j hj
  rw [Nat.zero_add]
  refine cell_of h ?_
  rw [← Array.getElem?_toList]
  have e : (D.map (Value.int .u8))[j]? = some (.int .u8 (D.getD j 0)) := by simp [hj]
  rw [← hc, List.getElem?_take, if_pos hj] at e
  exact e
theorem padL_tot (B : List Int) (n : Nat) (hn : B.length = n) : (B ++ padL n).length = 64 * ((B ++ padL n).length / 64) := by
  have h := padL_whole n
  rw [List.length_append, hn]
  omega
end Go.Proofs.YtpmgmpihmpifgabDoor
