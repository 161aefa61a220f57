/-
  The contracts of field, over cells of numbers.
-/
import Derived.Test.YtpmgmpihmpifgaaDoorVElems
import Derived.Test.YtpmgmpihmpifgaaDoorVInv
import Derived.Test.YtpmgmpihmpifgaaDoorVSwapAt
import Derived.Test.YtpmgmpihmpifgaaDoorVTimes
import Derived.Test.YtpmgmpihmpifgaaDoorXK1
namespace Go.Proofs.YtpmgmpihmpifgaaDoor.Cv
open Go.RowKit
set_option maxRecDepth 100000

/-- answers cells of n -/
def Ret (n : Int) (w : World) (r : Ending) (w' : World) : Prop := ∃ c, r = .returned (.agg c) ∧ EC n c ∧ Gr w w'
theorem _root_.Go.Proofs.YtpmgmpihmpifgaaDoor.Reck.ret {n : Int} {w w' : World} {r : Ending} (h : Reck n w r w') : Ret n w r w' := by
  obtain ⟨a, b, c, d, e, rfl, h1, h2⟩ := h
  exact ⟨_, rfl, ⟨a, b, c, d, e, rfl, h1⟩, h2⟩
theorem EC.same {n m : Int} {c : Array Value} (h : EC n c) (e : n % pp = m % pp) : EC m c := by
  obtain ⟨a0, a1, a2, a3, a4, h1, h2⟩ := h
  exact ⟨a0, a1, a2, a3, a4, h1, ⟨(unhide h2).1, (unhide h2).2.trans e⟩⟩
theorem of_ec (n : Int) (h : 0 ≤ n ∧ n < 18446744073709551616) (w : World) : Calls Tryd.prog 77 #[.int .u64 n] w (Ret n w) :=
  (of_ok n h w).mono fun _ _ k => k.ret
theorem add_ec {m n : Int} {a b : Array Value} (ha : EC m a) (hb : EC n b) (w : World) : Calls Tryd.prog 96 #[.agg a, .agg b] w (Ret (m + n) w) := by
  obtain ⟨_, _, _, _, _, rfl, h1⟩ := ha
  obtain ⟨_, _, _, _, _, rfl, h2⟩ := hb
  exact (add_ok m n _ _ _ _ _ _ _ _ _ _ (unhide h1) (unhide h2) w).mono fun _ _ k => k.ret
theorem sub_ec {m n : Int} {a b : Array Value} (ha : EC m a) (hb : EC n b) (w : World) : Calls Tryd.prog 99 #[.agg a, .agg b] w (Ret (m - n) w) := by
  obtain ⟨_, _, _, _, _, rfl, h1⟩ := ha
  obtain ⟨_, _, _, _, _, rfl, h2⟩ := hb
  exact (sub_ok m n _ _ _ _ _ _ _ _ _ _ (unhide h1) (unhide h2) w).mono fun _ _ k => k.ret
theorem mul_ec {m n : Int} {a b : Array Value} (ha : EC m a) (hb : EC n b) (w : World) : Calls Tryd.prog 64 #[.agg a, .agg b] w (Ret (m * n) w) := by
  obtain ⟨_, _, _, _, _, rfl, h1⟩ := ha
  obtain ⟨_, _, _, _, _, rfl, h2⟩ := hb
  exact (mul_ok m n _ _ _ _ _ _ _ _ _ _ (unhide h1) (unhide h2) w).mono fun _ _ k => k.ret
theorem square_ec {m : Int} {a : Array Value} (ha : EC m a) (w : World) : Calls Tryd.prog 98 #[.agg a] w (Ret (m * m) w) := by
  obtain ⟨_, _, _, _, _, rfl, h1⟩ := ha
  exact (square_ok m _ _ _ _ _ (unhide h1) w).mono fun _ _ k => k.ret
theorem inv_ec {m : Int} {a : Array Value} (ha : EC m a) (w : World) : Calls Tryd.prog 65 #[.agg a] w (Ret (m ^ p2) w) := by
  obtain ⟨_, _, _, _, _, rfl, h1⟩ := ha
  exact (inv_ok m _ _ _ _ _ (unhide h1) w).mono fun _ _ k => k.ret
theorem times_ec {m : Int} {a : Array Value} (n : Int) (hn : 0 ≤ n ∧ n < 4294967296) (ha : EC m a) (w : World) : Calls Tryd.prog 97 #[.agg a, .int .u32 n] w (Ret (m * n) w) := by
  obtain ⟨_, _, _, _, _, rfl, h1⟩ := ha
  exact (times_ok m n _ _ _ _ _ (unhide h1) hn w).mono fun _ _ k => k.ret
theorem bytes_ec {m : Int} {a : Array Value} (ha : EC m a) (w : World) : Calls Tryd.prog 66 #[.agg a] w (fun r w' => r = .returned (.agg (kc (digs (m % pp) 32))) ∧ Gr w w') := by
  obtain ⟨_, _, _, _, _, rfl, h1⟩ := ha
  exact bytes_ok m _ _ _ _ _ (unhide h1) w
theorem from_ec (n : Int) (hn : 0 ≤ n) (w : World) : Calls Tryd.prog 63 #[.agg (kc (digs n 32))] w (Ret (n % 57896044618658097711785492504343953926634992332820282019728792003956564819968) w) := by
  refine (from_at n (hide hn) w).mono ?_
  rintro r w' ⟨a, b, c, d, e, rfl, h1, h2⟩
  exact ⟨_, rfl, ⟨a, b, c, d, e, rfl, h1⟩, h2⟩
theorem swap_ec {m n : Int} {a b : Array Value} (bit : Int) (ha : EC m a) (hb : EC n b) (w : World) : Calls Tryd.prog 78 #[.int .i64 bit, .agg a, .agg b] w (fun r w' => r = .returned (.tuple #[.agg (if bit % 2 = 1 then b else a), .agg (if bit % 2 = 1 then a else b)]) ∧ Gr w w') := by
  obtain ⟨_, _, _, _, _, rfl, h1⟩ := ha
  obtain ⟨_, _, _, _, _, rfl, h2⟩ := hb
  refine (swap_ok bit _ _ _ _ _ _ _ _ _ _ (unhide h1).1 (unhide h2).1 w).mono ?_
  rintro r w' ⟨rfl, h⟩
  refine ⟨?_, h⟩
  split <;> rfl
end Go.Proofs.YtpmgmpihmpifgaaDoor.Cv
