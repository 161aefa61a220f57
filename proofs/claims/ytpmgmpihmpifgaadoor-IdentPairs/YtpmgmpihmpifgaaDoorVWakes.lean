/-
  The layer does something.
-/
import Derived.Test.YtpmgmpihmpifgaaDoorVMul
import Derived.Test.YtpmgmpihmpifgaaDoorVBytes
import Derived.Test.YtpmgmpihmpifgaaDoorVKeyMath
namespace Go.Proofs.YtpmgmpihmpifgaaDoor.Cv
open Go.RowKit
set_option maxRecDepth 100000

/-- two numbers that lie in two blocks -/
def Two (u : World) (p q : Nat) (a0 a1 a2 a3 a4 b0 b1 b2 b3 b4 : Int) : Prop := u.heap[p]? = some (.cells #[.int .u64 a0, .int .u64 a1, .int .u64 a2, .int .u64 a3, .int .u64 a4] 91 (0, 0)) ∧ u.heap[q]? = some (.cells #[.int .u64 b0, .int .u64 b1, .int .u64 b2, .int .u64 b3, .int .u64 b4] 91 (0, 0))
theorem Two.gr {u v : World} {p q : Nat} {a0 a1 a2 a3 a4 b0 b1 b2 b3 b4 : Int} (h : Two u p q a0 a1 a2 a3 a4 b0 b1 b2 b3 b4) (g : Gr u v) : Two v p q a0 a1 a2 a3 a4 b0 b1 b2 b3 b4 := ⟨g.blk h.1, g.blk h.2⟩
theorem Two.cells {u : World} {p q : Nat} {a0 a1 a2 a3 a4 b0 b1 b2 b3 b4 : Int} (h : Two u p q a0 a1 a2 a3 a4 b0 b1 b2 b3 b4) : u.cell? ⟨p, 0, none⟩ = some (.int .u64 a0) ∧ u.cell? ⟨p, 1, none⟩ = some (.int .u64 a1) ∧ u.cell? ⟨p, 2, none⟩ = some (.int .u64 a2) ∧ u.cell? ⟨p, 3, none⟩ = some (.int .u64 a3) ∧ u.cell? ⟨p, 4, none⟩ = some (.int .u64 a4) ∧ u.cell? ⟨q, 0, none⟩ = some (.int .u64 b0) ∧ u.cell? ⟨q, 1, none⟩ = some (.int .u64 b1) ∧ u.cell? ⟨q, 2, none⟩ = some (.int .u64 b2) ∧ u.cell? ⟨q, 3, none⟩ = some (.int .u64 b3) ∧ u.cell? ⟨q, 4, none⟩ = some (.int .u64 b4) :=
  ⟨cell_of h.1 rfl, cell_of h.1 rfl, cell_of h.1 rfl, cell_of h.1 rfl, cell_of h.1 rfl, cell_of h.2 rfl, cell_of h.2 rfl, cell_of h.2 rfl, cell_of h.2 rfl, cell_of h.2 rfl⟩
theorem two_new (w : World) (a0 a1 a2 a3 a4 b0 b1 b2 b3 b4 : Int) : Two ((w.alloc (.cells #[.int .u64 a0, .int .u64 a1, .int .u64 a2, .int .u64 a3, .int .u64 a4] 91 (0, 0))).alloc (.cells #[.int .u64 b0, .int .u64 b1, .int .u64 b2, .int .u64 b3, .int .u64 b4] 91 (0, 0))) w.heap.size (w.heap.size + 1) a0 a1 a2 a3 a4 b0 b1 b2 b3 b4 := by
  refine ⟨?_, ?_⟩ <;> (simp only [blk_alloc, size_alloc]; repeat (first | rw [if_pos trivial] | rw [if_pos (by omega)] | rw [if_neg (by omega)]))

theorem d42 : decide ((7 * 6 : Int) % pp = 42 % pp) = true := by decide +kernel
theorem d76 : decide ((7 : Int) % pp = 6 % pp) = false := by decide +kernel
theorem d00 : decide ((0 : Int) % pp = 0) = true := by decide +kernel
theorem eq13 (w : World) : Sem.run Tryd.prog (Op.equalIn 10000 25 (.agg (kc (digs (13 % pp) 32))) (.agg #[.int .u8 13, .int .u8 0, .int .u8 0, .int .u8 0, .int .u8 0, .int .u8 0, .int .u8 0, .int .u8 0, .int .u8 0, .int .u8 0, .int .u8 0, .int .u8 0, .int .u8 0, .int .u8 0, .int .u8 0, .int .u8 0, .int .u8 0, .int .u8 0, .int .u8 0, .int .u8 0, .int .u8 0, .int .u8 0, .int .u8 0, .int .u8 0, .int .u8 0, .int .u8 0, .int .u8 0, .int .u8 0, .int .u8 0, .int .u8 0, .int .u8 0, .int .u8 0])) w = .ok true w := by kernel_rfl

/-- the contracts, over whatever limbs -/
theorem of_at (n : Int) (h : 0 ≤ n ∧ n < 18446744073709551616) (w : World) : Calls Tryd.prog 77 #[.int .u64 n] w (fun r w' => ∃ a b c d e, r = .returned (.agg #[.int .u64 a, .int .u64 b, .int .u64 c, .int .u64 d, .int .u64 e]) ∧ Hid (Rep n a b c d e) ∧ Gr w w') := of_ok n h w
theorem two_at {F : FuncId} {m n k a0 a1 a2 a3 a4 b0 b1 b2 b3 b4 : Int} (f : Rep m a0 a1 a2 a3 a4 → Rep n b0 b1 b2 b3 b4 → ∀ w, Calls Tryd.prog F #[five a0 a1 a2 a3 a4, five b0 b1 b2 b3 b4] w (Reck k w)) (h : Hid (Rep m a0 a1 a2 a3 a4)) (h' : Hid (Rep n b0 b1 b2 b3 b4)) (w : World) :
    Calls Tryd.prog F #[.agg #[.int .u64 a0, .int .u64 a1, .int .u64 a2, .int .u64 a3, .int .u64 a4], .agg #[.int .u64 b0, .int .u64 b1, .int .u64 b2, .int .u64 b3, .int .u64 b4]] w (fun r w' => ∃ a b c d e, r = .returned (.agg #[.int .u64 a, .int .u64 b, .int .u64 c, .int .u64 d, .int .u64 e]) ∧ Hid (Rep k a b c d e) ∧ Gr w w') := f h h' w
theorem mul_at (m n a0 a1 a2 a3 a4 b0 b1 b2 b3 b4 : Int) (h : Hid (Rep m a0 a1 a2 a3 a4)) (h' : Hid (Rep n b0 b1 b2 b3 b4)) (w : World) :
    Calls Tryd.prog 64 #[.agg #[.int .u64 a0, .int .u64 a1, .int .u64 a2, .int .u64 a3, .int .u64 a4], .agg #[.int .u64 b0, .int .u64 b1, .int .u64 b2, .int .u64 b3, .int .u64 b4]] w (fun r w' => ∃ a b c d e, r = .returned (.agg #[.int .u64 a, .int .u64 b, .int .u64 c, .int .u64 d, .int .u64 e]) ∧ Hid (Rep (m * n) a b c d e) ∧ Gr w w') := two_at (mul_ok m n a0 a1 a2 a3 a4 b0 b1 b2 b3 b4) h h' w
theorem add_at (m n a0 a1 a2 a3 a4 b0 b1 b2 b3 b4 : Int) (h : Hid (Rep m a0 a1 a2 a3 a4)) (h' : Hid (Rep n b0 b1 b2 b3 b4)) (w : World) :
    Calls Tryd.prog 96 #[.agg #[.int .u64 a0, .int .u64 a1, .int .u64 a2, .int .u64 a3, .int .u64 a4], .agg #[.int .u64 b0, .int .u64 b1, .int .u64 b2, .int .u64 b3, .int .u64 b4]] w (fun r w' => ∃ a b c d e, r = .returned (.agg #[.int .u64 a, .int .u64 b, .int .u64 c, .int .u64 d, .int .u64 e]) ∧ Hid (Rep (m + n) a b c d e) ∧ Gr w w') := two_at (add_ok m n a0 a1 a2 a3 a4 b0 b1 b2 b3 b4) h h' w
theorem sub_at (m n a0 a1 a2 a3 a4 b0 b1 b2 b3 b4 : Int) (h : Hid (Rep m a0 a1 a2 a3 a4)) (h' : Hid (Rep n b0 b1 b2 b3 b4)) (w : World) :
    Calls Tryd.prog 99 #[.agg #[.int .u64 a0, .int .u64 a1, .int .u64 a2, .int .u64 a3, .int .u64 a4], .agg #[.int .u64 b0, .int .u64 b1, .int .u64 b2, .int .u64 b3, .int .u64 b4]] w (fun r w' => ∃ a b c d e, r = .returned (.agg #[.int .u64 a, .int .u64 b, .int .u64 c, .int .u64 d, .int .u64 e]) ∧ Hid (Rep (m - n) a b c d e) ∧ Gr w w') := two_at (sub_ok m n a0 a1 a2 a3 a4 b0 b1 b2 b3 b4) h h' w
theorem bytes_at (n a0 a1 a2 a3 a4 : Int) (h : Hid (Rep n a0 a1 a2 a3 a4)) (w : World) :
    Calls Tryd.prog 66 #[.agg #[.int .u64 a0, .int .u64 a1, .int .u64 a2, .int .u64 a3, .int .u64 a4]] w (fun r w' => r = .returned (.agg (kc (digs (n % pp) 32))) ∧ Gr w w') := bytes_ok n a0 a1 a2 a3 a4 h w
theorem from_at (n : Int) (hn : Hid (0 ≤ n)) (w : World) : Calls Tryd.prog 63 #[.agg (kc (digs n 32))] w (fun r w' => ∃ a b c d e, r = .returned (.agg #[.int .u64 a, .int .u64 b, .int .u64 c, .int .u64 d, .int .u64 e]) ∧ Hid (Rep (n % 57896044618658097711785492504343953926634992332820282019728792003956564819968) a b c d e) ∧ Gr w w') := from_key n (unhide hn) w
theorem neg_at (n a0 a1 a2 a3 a4 : Int) (h : Hid (Rep n a0 a1 a2 a3 a4)) (w : World) :
    Calls Tryd.prog 84 #[.agg #[.int .u64 a0, .int .u64 a1, .int .u64 a2, .int .u64 a3, .int .u64 a4]] w (fun r w' => ∃ a b c d e, r = .returned (.agg #[.int .u64 a, .int .u64 b, .int .u64 c, .int .u64 d, .int .u64 e]) ∧ Hid (Rep (0 - n) a b c d e) ∧ Gr w w') := neg_ok n a0 a1 a2 a3 a4 h w

end Go.Proofs.YtpmgmpihmpifgaaDoor.Cv
