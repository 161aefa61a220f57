/-
  The constants. What constants answers. The state as bytes. A world in which but one block has turned; cells that are set one by one, as lists.
-/
import Derived.Test.YtpmgmpihmpifgaaDoorSaA
import Derived.Deep.MidRow
namespace Go.Proofs.YtpmgmpihmpifgaaDoor
open Go.RowKit
set_option maxRecDepth 100000
set_option linter.unusedSimpArgs false
set_option linter.unusedVariables false

def KL : List Int := [1116352408, 1899447441, 3049323471, 3921009573, 961987163, 1508970993, 2453635748, 2870763221, 3624381080, 310598401, 607225278, 1426881987, 1925078388, 2162078206, 2614888103, 3248222580, 3835390401, 4022224774, 264347078, 604807628, 770255983, 1249150122, 1555081692, 1996064986, 2554220882, 2821834349, 2952996808, 3210313671, 3336571891, 3584528711, 113926993, 338241895, 666307205, 773529912, 1294757372, 1396182291, 1695183700, 1986661051, 2177026350, 2456956037, 2730485921, 2820302411, 3259730800, 3345764771, 3516065817, 3600352804, 4094571909, 275423344, 430227734, 506948616, 659060556, 883997877, 958139571, 1322822218, 1537002063, 1747873779, 1955562222, 2024104815, 2227730452, 2361852424, 2428436474, 2756734187, 3204031479, 3329325298]
def rl : List UInt8 := [52, 50, 56, 97, 50, 102, 57, 56, 55, 49, 51, 55, 52, 52, 57, 49, 98, 53, 99, 48, 102, 98, 99, 102, 101, 57, 98, 53, 100, 98, 97, 53, 51, 57, 53, 54, 99, 50, 53, 98, 53, 57, 102, 49, 49, 49, 102, 49, 57, 50, 51, 102, 56, 50, 97, 52, 97, 98, 49, 99, 53, 101, 100, 53, 100, 56, 48, 55, 97, 97, 57, 56, 49, 50, 56, 51, 53, 98, 48, 49, 50, 52, 51, 49, 56, 53, 98, 101, 53, 53, 48, 99, 55, 100, 99, 51, 55, 50, 98, 101, 53, 100, 55, 52, 56, 48, 100, 101, 98, 49, 102, 101, 57, 98, 100, 99, 48, 54, 97, 55, 99, 49, 57, 98, 102, 49, 55, 52, 101, 52, 57, 98, 54, 57, 99, 49, 101, 102, 98, 101, 52, 55, 56, 54, 48, 102, 99, 49, 57, 100, 99, 54, 50, 52, 48, 99, 97, 49, 99, 99, 50, 100, 101, 57, 50, 99, 54, 102, 52, 97, 55, 52, 56, 52, 97, 97, 53, 99, 98, 48, 97, 57, 100, 99, 55, 54, 102, 57, 56, 56, 100, 97, 57, 56, 51, 101, 53, 49, 53, 50, 97, 56, 51, 49, 99, 54, 54, 100, 98, 48, 48, 51, 50, 55, 99, 56, 98, 102, 53, 57, 55, 102, 99, 55, 99, 54, 101, 48, 48, 98, 102, 51, 100, 53, 97, 55, 57, 49, 52, 55, 48, 54, 99, 97, 54, 51, 53, 49, 49, 52, 50, 57, 50, 57, 54, 55, 50, 55, 98, 55, 48, 97, 56, 53, 50, 101, 49, 98, 50, 49, 51, 56, 52, 100, 50, 99, 54, 100, 102, 99, 53, 51, 51, 56, 48, 100, 49, 51, 54, 53, 48, 97, 55, 51, 53, 52, 55, 54, 54, 97, 48, 97, 98, 98, 56, 49, 99, 50, 99, 57, 50, 101, 57, 50, 55, 50, 50, 99, 56, 53, 97, 50, 98, 102, 101, 56, 97, 49, 97, 56, 49, 97, 54, 54, 52, 98, 99, 50, 52, 98, 56, 98, 55, 48, 99, 55, 54, 99, 53, 49, 97, 51, 100, 49, 57, 50, 101, 56, 49, 57, 100, 54, 57, 57, 48, 54, 50, 52, 102, 52, 48, 101, 51, 53, 56, 53, 49, 48, 54, 97, 97, 48, 55, 48, 49, 57, 97, 52, 99, 49, 49, 54, 49, 101, 51, 55, 54, 99, 48, 56, 50, 55, 52, 56, 55, 55, 52, 99, 51, 52, 98, 48, 98, 99, 98, 53, 51, 57, 49, 99, 48, 99, 98, 51, 52, 101, 100, 56, 97, 97, 52, 97, 53, 98, 57, 99, 99, 97, 52, 102, 54, 56, 50, 101, 54, 102, 102, 51, 55, 52, 56, 102, 56, 50, 101, 101, 55, 56, 97, 53, 54, 51, 54, 102, 56, 52, 99, 56, 55, 56, 49, 52, 56, 99, 99, 55, 48, 50, 48, 56, 57, 48, 98, 101, 102, 102, 102, 97, 97, 52, 53, 48, 54, 99, 101, 98, 98, 101, 102, 57, 97, 51, 102, 55, 99, 54, 55, 49, 55, 56, 102, 50]
/-- the constants as far as n digits are read -/
def KP : Nat → List Int
  | 0 => Z64
  | n + 1 => (KP n).set (n / 8) (bits .or .u32 (IntKind.u32.wrap ((KP n).getD (n / 8) 0 * 16)) (dg ((rl.getD n 0).toNat : Int)))
theorem KP_len : ∀ n, (KP n).length = 64
  | 0 => rfl
  | n + 1 => by rw [KP, List.length_set, KP_len n]
theorem KP_all : KP 512 = KL := by decide +kernel
theorem KL_len : KL.length = 64 := by decide
theorem rl_len : rl.length = 512 := by decide +kernel
theorem rl_all : (rl.all fun c => (48 ≤ c.toNat && c.toNat ≤ 57) || (97 ≤ c.toNat && c.toNat ≤ 102)) = true := by decide +kernel

/-- the iterator at k, moved -/
def itr (w : World) (k : Nat) (s : ByteArray) (pos : Nat) : World := { w with heap := w.heap.setIfInBounds k (.stringIter s pos) }
theorem itr_self {w : World} {k : Nat} (s : ByteArray) (pos : Nat) (h : k < w.heap.size) : (itr w k s pos).heap[k]? = some (.stringIter s pos) := by
  unfold itr
  simp [h]
theorem itr_other {w : World} {k j : Nat} (s : ByteArray) (pos : Nat) (h : k ≠ j) : (itr w k s pos).heap[j]? = w.heap[j]? := by
  unfold itr
  simp [Array.getElem?_setIfInBounds, h]
theorem Bl.itr {w v : World} {L : List Blk} (h : Bl w L v) (k : Nat) (hk : w.heap.size ≤ k) (hn : ∀ x ∈ L, k ≠ x.g) (s : ByteArray) (pos : Nat) : Bl w L (itr v k s pos) := by
  refine ⟨⟨h.gr.os, h.gr.tape, h.gr.output, ?_, fun i hi => ?_⟩, fun x hx => ⟨?_, (h.at_ x hx).2⟩, h.ne⟩
  · have := h.gr.size
    unfold Proofs.YtpmgmpihmpifgaaDoor.itr
    simpa using this
  · rw [itr_other s pos (by omega)]
    exact h.gr.block i hi
  · rw [itr_other s pos (hn x hx)]
    exact (h.at_ x hx).1
theorem run_next_at {P : Program} (w : World) (k : Nat) (s : ByteArray) (pos : Nat) (ty : TypeId) (hk : w.heap[k]? = some (.stringIter s pos)) (h : pos < s.size) (ha : (s[pos]'h).toNat < 128) :
    (Instr.next (.pointer (some ⟨k, 0, none⟩)) true ty).run P w = .ok (.tuple #[.bool true, .int .i64 pos, .int .i32 (s[pos]'h).toNat]) (itr w k s (pos + 1)) := by
  simp only [Instr.next, getObj, setObj, Sem.run_bind, Sem.run, hk, Result.andThen, h, if_true, decode_ascii s pos h ha]
  simp [goInt, Sem.run, itr]
theorem run_next_stop {P : Program} (w : World) (k : Nat) (s : ByteArray) (pos : Nat) (ty : TypeId) (hk : w.heap[k]? = some (.stringIter s pos)) (h : ¬ pos < s.size) :
    (Instr.next (.pointer (some ⟨k, 0, none⟩)) true ty).run P w = .ok (.tuple #[.bool false]) w := by
  simp [Instr.next, getObj, Sem.run, hk, h]



theorem rl_at (S : ByteArray) (hS : S.data.toList = rl) (n : Nat) (h : n < S.size) : (S[n]'h).toNat = (rl.getD n 0).toNat := by
  have h1 : S[n]'h = S.data[n]'h := rfl
  have h2 : S.data[n]'h = S.data.toList[n]'(by simpa using h) := by simp
  rw [h1, h2, List.getElem_of_eq hS]
  have h3 : n < rl.length := by rw [← hS]; simpa using h
  simp [h3]
theorem rl_rng (n : Nat) (h : n < 512) : (48 ≤ ((rl.getD n 0).toNat : Int) ∧ ((rl.getD n 0).toNat : Int) ≤ 57) ∨ (97 ≤ ((rl.getD n 0).toNat : Int) ∧ ((rl.getD n 0).toNat : Int) ≤ 102) := by
  have h3 : n < rl.length := by rw [rl_len]; exact h
  have h1 := List.all_eq_true.1 rl_all (rl.getD n 0) (by simp [h3])
  simp at h1
  simp only [List.getD_eq_getElem?_getD]
  omega

set_option maxHeartbeats 2000000 in
theorem constants_ok (w : World) : Calls Tryd.prog 86 #[] w (fun r w' => r = .returned (.agg (uc KL)) ∧ Gr w w') := by
  go_enter Tryd.func86, Tryd.ntmps86
  go_wp2_with fail
  have hB := ((Bl.nil w).new #[.int .u32 0, .int .u32 0, .int .u32 0, .int .u32 0, .int .u32 0, .int .u32 0, .int .u32 0, .int .u32 0, .int .u32 0, .int .u32 0, .int .u32 0, .int .u32 0, .int .u32 0, .int .u32 0, .int .u32 0, .int .u32 0, .int .u32 0, .int .u32 0, .int .u32 0, .int .u32 0, .int .u32 0, .int .u32 0, .int .u32 0, .int .u32 0, .int .u32 0, .int .u32 0, .int .u32 0, .int .u32 0, .int .u32 0, .int .u32 0, .int .u32 0, .int .u32 0, .int .u32 0, .int .u32 0, .int .u32 0, .int .u32 0, .int .u32 0, .int .u32 0, .int .u32 0, .int .u32 0, .int .u32 0, .int .u32 0, .int .u32 0, .int .u32 0, .int .u32 0, .int .u32 0, .int .u32 0, .int .u32 0, .int .u32 0, .int .u32 0, .int .u32 0, .int .u32 0, .int .u32 0, .int .u32 0, .int .u32 0, .int .u32 0, .int .u32 0, .int .u32 0, .int .u32 0, .int .u32 0, .int .u32 0, .int .u32 0, .int .u32 0, .int .u32 0] 70).new #[.int .u32 0, .int .u32 0, .int .u32 0, .int .u32 0, .int .u32 0, .int .u32 0, .int .u32 0, .int .u32 0, .int .u32 0, .int .u32 0, .int .u32 0, .int .u32 0, .int .u32 0, .int .u32 0, .int .u32 0, .int .u32 0, .int .u32 0, .int .u32 0, .int .u32 0, .int .u32 0, .int .u32 0, .int .u32 0, .int .u32 0, .int .u32 0, .int .u32 0, .int .u32 0, .int .u32 0, .int .u32 0, .int .u32 0, .int .u32 0, .int .u32 0, .int .u32 0, .int .u32 0, .int .u32 0, .int .u32 0, .int .u32 0, .int .u32 0, .int .u32 0, .int .u32 0, .int .u32 0, .int .u32 0, .int .u32 0, .int .u32 0, .int .u32 0, .int .u32 0, .int .u32 0, .int .u32 0, .int .u32 0, .int .u32 0, .int .u32 0, .int .u32 0, .int .u32 0, .int .u32 0, .int .u32 0, .int .u32 0, .int .u32 0, .int .u32 0, .int .u32 0, .int .u32 0, .int .u32 0, .int .u32 0, .int .u32 0, .int .u32 0, .int .u32 0] 70
  simp only [size_alloc, List.nil_append, List.cons_append] at hB
  have hgs : ((w.alloc (.cells #[.int .u32 0, .int .u32 0, .int .u32 0, .int .u32 0, .int .u32 0, .int .u32 0, .int .u32 0, .int .u32 0, .int .u32 0, .int .u32 0, .int .u32 0, .int .u32 0, .int .u32 0, .int .u32 0, .int .u32 0, .int .u32 0, .int .u32 0, .int .u32 0, .int .u32 0, .int .u32 0, .int .u32 0, .int .u32 0, .int .u32 0, .int .u32 0, .int .u32 0, .int .u32 0, .int .u32 0, .int .u32 0, .int .u32 0, .int .u32 0, .int .u32 0, .int .u32 0, .int .u32 0, .int .u32 0, .int .u32 0, .int .u32 0, .int .u32 0, .int .u32 0, .int .u32 0, .int .u32 0, .int .u32 0, .int .u32 0, .int .u32 0, .int .u32 0, .int .u32 0, .int .u32 0, .int .u32 0, .int .u32 0, .int .u32 0, .int .u32 0, .int .u32 0, .int .u32 0, .int .u32 0, .int .u32 0, .int .u32 0, .int .u32 0, .int .u32 0, .int .u32 0, .int .u32 0, .int .u32 0, .int .u32 0, .int .u32 0, .int .u32 0, .int .u32 0] 70)).alloc (.cells #[.int .u32 0, .int .u32 0, .int .u32 0, .int .u32 0, .int .u32 0, .int .u32 0, .int .u32 0, .int .u32 0, .int .u32 0, .int .u32 0, .int .u32 0, .int .u32 0, .int .u32 0, .int .u32 0, .int .u32 0, .int .u32 0, .int .u32 0, .int .u32 0, .int .u32 0, .int .u32 0, .int .u32 0, .int .u32 0, .int .u32 0, .int .u32 0, .int .u32 0, .int .u32 0, .int .u32 0, .int .u32 0, .int .u32 0, .int .u32 0, .int .u32 0, .int .u32 0, .int .u32 0, .int .u32 0, .int .u32 0, .int .u32 0, .int .u32 0, .int .u32 0, .int .u32 0, .int .u32 0, .int .u32 0, .int .u32 0, .int .u32 0, .int .u32 0, .int .u32 0, .int .u32 0, .int .u32 0, .int .u32 0, .int .u32 0, .int .u32 0, .int .u32 0, .int .u32 0, .int .u32 0, .int .u32 0, .int .u32 0, .int .u32 0, .int .u32 0, .int .u32 0, .int .u32 0, .int .u32 0, .int .u32 0, .int .u32 0, .int .u32 0, .int .u32 0] 70)).heap.size = w.heap.size + 1 + 1 := by simp only [size_alloc]
  generalize World.alloc _ _ = u at *
  generalize hS : ByteArray.mk _ = S at *
  have hS1 : S.data.toList = rl := by rw [← hS]; decide +kernel
  have hS2 : S.size = 512 := by
    have : S.data.toList.length = 512 := by rw [hS1]; exact rl_len
    simpa using this
  clear hS
  have hI : Hid ((u.iter S 0).heap[w.heap.size + 1 + 1]? = some (.stringIter S 0)) := by
    rw [← hgs]
    exact World.iter_heap u S 0
  replace hB : Hid (Bl w [⟨w.heap.size, uc Z64, 70⟩, ⟨w.heap.size + 1, uc (KP 0), 70⟩] (u.iter S 0)) := hide (Bl.more hB ((Gr.refl u).alloc _))
  clear hgs
  generalize World.iter _ _ _ = u1 at *
  replace hS1 := hide hS1
  go_loopw [] (fun wr => ∃ n : Nat, ∃ m : List Int, n ≤ 512 ∧ Hid (m = KP n) ∧ Hid (wr.heap[w.heap.size + 1 + 1]? = some (.stringIter S n)) ∧ Hid (Bl w [⟨w.heap.size, uc Z64, 70⟩, ⟨w.heap.size + 1, uc m, 70⟩] wr)) (fun wr => 512 - wr.iterPos (w.heap.size + 1 + 1))
  case atStart => exact ⟨0, KP 0, by omega, rfl, hI, hB⟩
  case round =>
  clear hB hI
  obtain ⟨n, m, hn, hm, hI, hB⟩ := hrel
  have hml : m.length = 64 := by rw [unhide hm]; exact KP_len n
  by_cases hil : n < 512
  · have hp : n < S.size := by omega
    have hd := rl_rng n hil
    have hd0 := rl_at S (unhide hS1) n hp
    have hnx : ∀ ty, (Instr.next (.pointer (some ⟨w.heap.size + 1 + 1, 0, none⟩)) true ty).run Tryd.prog wr = .ok (.tuple #[.bool true, .int .i64 n, .int .i32 (S[n]'hp).toNat]) (itr wr (w.heap.size + 1 + 1) S (n + 1)) := fun ty => run_next_at wr _ S n ty (unhide hI) hp (by omega)
    rw [hd0] at hnx
    have hI0 := hide (iterPos_of (unhide hI))
    replace hI : Hid ((itr wr (w.heap.size + 1 + 1) S (n + 1)).heap[w.heap.size + 1 + 1]? = some (.stringIter S (n + 1))) := itr_self S (n + 1) (lt_of_block (unhide hI))
    replace hB : Hid (Bl w [⟨w.heap.size, uc Z64, 70⟩, ⟨w.heap.size + 1, uc m, 70⟩] (itr wr (w.heap.size + 1 + 1) S (n + 1))) := (unhide hB).itr _ (by omega) (by intro x hx; simp only [List.mem_cons, List.not_mem_nil, or_false] at hx; rcases hx with rfl | rfl <;> dsimp only <;> omega) S (n + 1)
    obtain ⟨q, hq⟩ : ∃ q, q = n / 8 := ⟨_, rfl⟩
    have hm2 : Hid (m.set q (bits .or .u32 (IntKind.u32.wrap (m.getD q 0 * 16)) (dg ((rl.getD n 0).toNat : Int))) = KP (n + 1)) := by
      rw [hq, unhide hm]
      rfl
    have hg := (unhide hB).get 1 (x := ⟨w.heap.size + 1, uc m, 70⟩) rfl
    have c4 := uc_cell hg q (by omega)
    have f4 := froz_of (i := q) hg
    clear hg
    generalize itr wr (w.heap.size + 1 + 1) S (n + 1) = v at *
    have hB2 := Bl.drew ((unhide hB).cell 1 (x := ⟨w.heap.size + 1, uc m, 70⟩) rfl q (.int .u32 (bits .or .u32 (IntKind.u32.wrap (m.getD q 0 * 16)) (dg ((rl.getD n 0).toNat : Int)))))
    simp only [List.set_cons_zero, List.set_cons_succ, uc_set] at hB2
    replace hB2 := hide hB2
    have hI2 : Hid ((v.setCell ⟨w.heap.size + 1, q, none⟩ (.int .u32 (bits .or .u32 (IntKind.u32.wrap (m.getD q 0 * 16)) (dg ((rl.getD n 0).toNat : Int))))).drew.heap[w.heap.size + 1 + 1]? = some (.stringIter S (n + 1))) := (Below.heap_setCell v ⟨w.heap.size + 1, q, none⟩ _ (w.heap.size + 1 + 1) (by dsimp only; omega)).trans (unhide hI)
    generalize ((rl.getD n 0).toNat : Int) = d at *
    generalize m.getD q 0 = x at *
    have e0 : (n : Int) / 8 = (q : Int) := by omega
    have e1 : Int.tdiv (n : Int) 8 = (q : Int) := by rw [Int.tdiv_eq_ediv_of_nonneg (by omega)]; exact e0
    have g0 : IntKind.i64.wrap (q : Int) = (q : Int) := by rw [IntKind.wrap_i64]; omega
    have l0 : 0 ≤ (q : Int) ∧ (q : Int) < 64 := by omega
    have m0 : q < 64 := by omega
    replace hq := hide hq
    replace hd0 := hide hd0
    go_upto_region 5 with fail
    go_region_with (go_at_call 103; refine (value_ok _ (by assumption) _).mono ?_; rintro e w1 ⟨rfl, rfl⟩)
    all_goals
      go_wp2_with fail
      go_roundw
      case rel => exact ⟨n + 1, _, by omega, hm2, hI2, hB2⟩
      case measure =>
        have e2 := iterPos_of (unhide hI2)
        have e3 := unhide hI0
        rw [e2, e3]
        omega
  · have e : n = 512 := by omega
    subst e
    have hnx : ∀ ty, (Instr.next (.pointer (some ⟨w.heap.size + 1 + 1, 0, none⟩)) true ty).run Tryd.prog wr = .ok (.tuple #[.bool false]) wr := fun ty => run_next_stop wr _ S 512 ty (unhide hI) (by omega)
    clear hil
    have hr0 : m = KL := (unhide hm).trans KP_all
    clear hm
    go_upto_region 6 with fail
    replace hB := unhide hB
    refine wp_region_lit ?_
    refine list_val (.agg (uc m)) (by kernel_rfl) (exec_arr _ 70 (.tmp 1) rfl (w.heap.size + 1) (by kernel_rfl) (uc m) 70 _ (hB.get 1 (x := ⟨w.heap.size + 1, uc m, 70⟩) rfl) Tryd.underlying70 rfl (by rw [Tryd.infoW, uc_size, hml])) ?_
    simp only [Act.put, List.setIfInBounds_toArray, List.set_cons_zero, List.set_cons_succ, List.getElem_toArray, List.getElem_cons_zero, List.getElem_cons_succ]
    refine list_store 70 (.tmp 0) (.tmp 20) w.heap.size (uc m) 70 (uc Z64) (by kernel_rfl) rfl (by kernel_rfl) (by kernel_rfl) (hB.get 0 (x := ⟨w.heap.size, uc Z64, 70⟩) rfl) (by rw [Tryd.infoW, uc_size, hml]) ((show (uc Z64).size = 64 from rfl).trans ((uc_size _).trans hml).symm) (uc_one _) ?_
    replace hB := hB.set 0 (x := ⟨w.heap.size, uc Z64, 70⟩) rfl (uc m)
    simp only [List.set_cons_zero, List.set_cons_succ] at hB
    generalize World.setRow _ _ _ = v1_ at *
    simp only [Act.put, List.setIfInBounds_toArray, List.set_cons_zero, List.set_cons_succ, List.getElem_toArray, List.getElem_cons_zero, List.getElem_cons_succ]
    refine wpList_nil ?_
    go_wp2_with fail
    exact bodyPost_ret (v := .agg (uc m)) (results_cell_row Tryd.results86 _ _ w.heap.size 70 (uc m) (0, 0) _ rfl (hB.get 0 (x := ⟨w.heap.size, uc m, 70⟩) rfl) Tryd.underlying70 rfl (by rw [Tryd.infoW, uc_size, hml])) rfl ⟨by rw [hr0], hB.gr⟩


def Z32 : List Int := List.replicate 32 0
def y0 (x : Int) : Int := x / 16777216 % 256
def y1 (x : Int) : Int := x / 65536 % 256
def y2 (x : Int) : Int := x / 256 % 256
def y3 (x : Int) : Int := x % 256
/-- the bytes of the first n words -/
def KY (s : List Int) : Nat → List Int
  | 0 => Z32
  | n + 1 => ((((KY s n).set (4 * n) (y0 (s.getD n 0))).set (4 * n + 1) (y1 (s.getD n 0))).set (4 * n + 2) (y2 (s.getD n 0))).set (4 * n + 3) (y3 (s.getD n 0))
theorem KY_len (s : List Int) : ∀ n, (KY s n).length = 32
  | 0 => rfl
  | n + 1 => by rw [KY, List.length_set, List.length_set, List.length_set, List.length_set, KY_len s n]
def keyL (s : List Int) : List Int := KY s 8
theorem keyL_len (s : List Int) : (keyL s).length = 32 := KY_len s 8
theorem set_isB {l : List Int} (h : IsB l) (i : Nat) (x : Int) (hx : 0 ≤ x ∧ x < 256) : IsB (l.set i x) := by
  intro y hy
  rcases List.mem_or_eq_of_mem_set hy with h1 | h1
  · exact h y h1
  · subst h1; exact hx
theorem KY_isB (s : List Int) : ∀ n, IsB (KY s n)
  | 0 => by intro x hx; have := List.eq_of_mem_replicate hx; omega
  | n + 1 => by
    rw [KY]
    exact set_isB (set_isB (set_isB (set_isB (KY_isB s n) _ _ (by unfold y0; omega)) _ _ (by unfold y1; omega)) _ _ (by unfold y2; omega)) _ _ (by unfold y3; omega)
theorem keyL_isB (s : List Int) : IsB (keyL s) := KY_isB s 8
theorem Tryd.infoKey : (Tryd.prog.info? 25).map (·.size) = some 32 := by kernel_rfl

theorem index_u32 (cs : Array Value) (n : Nat) (x : Int) (hn : n < 8) (hx : cs[n]? = some (.int .u32 x)) (w : World) : (Instr.index 73 (.agg cs) (.int .i64 n)).run Tryd.prog w = .ok (.int .u32 x) w := by
  have h1 : (0 : Int) ≤ n ∧ (n : Int) < 8 := by omega
  have h2 : (n : Int) < 8 := by omega
  simp [Instr.index, run_underlying Tryd.underlying73, asIntOf, go_sem, h2, hx]
  omega
set_option maxHeartbeats 2000000 in
theorem key_ok (s : List Int) (hs : s.length = 8) (w : World) : Calls Tryd.prog 69 #[.agg (uc s)] w (fun r w' => r = .returned (.agg (kc (keyL s))) ∧ Gr w w') := by
  obtain ⟨S, hS⟩ : ∃ S, S = uc s := ⟨_, rfl⟩
  rw [← hS]
  have hSs : S.size = 8 := by rw [hS, uc_size, hs]
  replace hS := hide hS
  go_enter Tryd.func69, Tryd.ntmps69
  go_upto_region 2 with fail
  have hB := (((Bl.nil w).new S 73).new #[.int .u8 0, .int .u8 0, .int .u8 0, .int .u8 0, .int .u8 0, .int .u8 0, .int .u8 0, .int .u8 0, .int .u8 0, .int .u8 0, .int .u8 0, .int .u8 0, .int .u8 0, .int .u8 0, .int .u8 0, .int .u8 0, .int .u8 0, .int .u8 0, .int .u8 0, .int .u8 0, .int .u8 0, .int .u8 0, .int .u8 0, .int .u8 0, .int .u8 0, .int .u8 0, .int .u8 0, .int .u8 0, .int .u8 0, .int .u8 0, .int .u8 0, .int .u8 0] 25).new #[.int .u8 0, .int .u8 0, .int .u8 0, .int .u8 0, .int .u8 0, .int .u8 0, .int .u8 0, .int .u8 0, .int .u8 0, .int .u8 0, .int .u8 0, .int .u8 0, .int .u8 0, .int .u8 0, .int .u8 0, .int .u8 0, .int .u8 0, .int .u8 0, .int .u8 0, .int .u8 0, .int .u8 0, .int .u8 0, .int .u8 0, .int .u8 0, .int .u8 0, .int .u8 0, .int .u8 0, .int .u8 0, .int .u8 0, .int .u8 0, .int .u8 0, .int .u8 0] 25
  simp only [size_alloc, List.nil_append, List.cons_append] at hB
  generalize World.alloc _ _ = u at *
  replace hB : Bl w [⟨w.heap.size, S, 73⟩, ⟨w.heap.size + 1, kc Z32, 25⟩, ⟨w.heap.size + 1 + 1, kc (KY s 0), 25⟩] u := hB
  refine wp_region_lit ?_
  refine list_val (.agg S) (by kernel_rfl) (exec_arr _ 73 (.tmp 1) rfl w.heap.size (by kernel_rfl) S 73 _ (hB.get 0 (x := ⟨w.heap.size, S, 73⟩) rfl) Tryd.underlying73 rfl (by rw [Tryd.infoS, hSs])) ?_
  simp only [Act.put, List.setIfInBounds_toArray, List.set_cons_zero, List.set_cons_succ, List.getElem_toArray, List.getElem_cons_zero, List.getElem_cons_succ]
  refine list_val (.int .i64 0) (by kernel_rfl) (by kernel_rfl) ?_
  simp only [Act.put, List.setIfInBounds_toArray, List.set_cons_zero, List.set_cons_succ, List.getElem_toArray, List.getElem_cons_zero, List.getElem_cons_succ]
  refine wpList_nil ?_
  replace hB := hide hB
  go_wp2_with fail
  go_loopw [7] (fun i wr => ∃ n : Nat, ∃ m : List Int, n ≤ 8 ∧ i = .int .i64 n ∧ Hid (m = KY s n) ∧ Hid (Bl w [⟨w.heap.size, S, 73⟩, ⟨w.heap.size + 1, kc Z32, 25⟩, ⟨w.heap.size + 1 + 1, kc m, 25⟩] wr)) (fun i _ => 8 - (intOf i).toNat)
  case atStart => exact ⟨0, KY s 0, by omega, rfl, rfl, hB⟩
  case round =>
  clear hB
  obtain ⟨n, m, hn, rfl, hm, hB⟩ := hrel
  have hml : m.length = 32 := by rw [unhide hm]; exact KY_len s n
  by_cases hil : n < 8
  · have hx : (Instr.index 73 (.agg S) (.int .i64 n)).run Tryd.prog wr = .ok (.int .u32 (s.getD n 0)) wr := index_u32 S n _ hil (by rw [unhide hS]; exact uc_get s n (by omega)) wr
    obtain ⟨q0, hq0⟩ : ∃ q, q = 4 * n := ⟨_, rfl⟩
    obtain ⟨q1, hq1⟩ : ∃ q, q = 4 * n + 1 := ⟨_, rfl⟩
    obtain ⟨q2, hq2⟩ : ∃ q, q = 4 * n + 2 := ⟨_, rfl⟩
    obtain ⟨q3, hq3⟩ : ∃ q, q = 4 * n + 3 := ⟨_, rfl⟩
    have hm2 : Hid ((((m.set q0 (y0 (s.getD n 0))).set q1 (y1 (s.getD n 0))).set q2 (y2 (s.getD n 0))).set q3 (y3 (s.getD n 0)) = KY s (n + 1)) := by
      rw [hq0, hq1, hq2, hq3, unhide hm]
      rfl
    generalize s.getD n 0 = x at *
    have hB0 := unhide hB
    have c0 := kc_cell (hB0.get 2 (x := ⟨w.heap.size + 1 + 1, kc m, 25⟩) rfl) q0 (by omega)
    have f0 := froz_of (i := q0) (hB0.get 2 (x := ⟨w.heap.size + 1 + 1, kc m, 25⟩) rfl)
    have hB1 := hB0.cell 2 (x := ⟨w.heap.size + 1 + 1, kc m, 25⟩) rfl q0 (.int .u8 (x / 16777216 % 256))
    simp only [List.set_cons_zero, List.set_cons_succ, kc_set] at hB1
    have c1 := kc_cell (hB1.get 2 (x := ⟨w.heap.size + 1 + 1, kc (m.set q0 (x / 16777216 % 256)), 25⟩) rfl) q1 (by simp; omega)
    have f1 := froz_of (i := q1) (hB1.get 2 (x := ⟨w.heap.size + 1 + 1, kc (m.set q0 (x / 16777216 % 256)), 25⟩) rfl)
    have hB2 := hB1.cell 2 (x := ⟨w.heap.size + 1 + 1, kc (m.set q0 (x / 16777216 % 256)), 25⟩) rfl q1 (.int .u8 (x / 65536 % 256))
    simp only [List.set_cons_zero, List.set_cons_succ, kc_set] at hB2
    have c2 := kc_cell (hB2.get 2 (x := ⟨w.heap.size + 1 + 1, kc ((m.set q0 (x / 16777216 % 256)).set q1 (x / 65536 % 256)), 25⟩) rfl) q2 (by simp; omega)
    have f2 := froz_of (i := q2) (hB2.get 2 (x := ⟨w.heap.size + 1 + 1, kc ((m.set q0 (x / 16777216 % 256)).set q1 (x / 65536 % 256)), 25⟩) rfl)
    have hB3 := hB2.cell 2 (x := ⟨w.heap.size + 1 + 1, kc ((m.set q0 (x / 16777216 % 256)).set q1 (x / 65536 % 256)), 25⟩) rfl q2 (.int .u8 (x / 256 % 256))
    simp only [List.set_cons_zero, List.set_cons_succ, kc_set] at hB3
    have c3 := kc_cell (hB3.get 2 (x := ⟨w.heap.size + 1 + 1, kc (((m.set q0 (x / 16777216 % 256)).set q1 (x / 65536 % 256)).set q2 (x / 256 % 256)), 25⟩) rfl) q3 (by simp; omega)
    have f3 := froz_of (i := q3) (hB3.get 2 (x := ⟨w.heap.size + 1 + 1, kc (((m.set q0 (x / 16777216 % 256)).set q1 (x / 65536 % 256)).set q2 (x / 256 % 256)), 25⟩) rfl)
    have hB4 := hB3.cell 2 (x := ⟨w.heap.size + 1 + 1, kc (((m.set q0 (x / 16777216 % 256)).set q1 (x / 65536 % 256)).set q2 (x / 256 % 256)), 25⟩) rfl q3 (.int .u8 (x % 256))
    simp only [List.set_cons_zero, List.set_cons_succ, kc_set] at hB4
    generalize m.getD q0 0 = z0 at c0
    generalize List.getD _ _ _ = z1 at c1
    generalize List.getD _ _ _ = z2 at c2
    generalize List.getD _ _ _ = z3 at c3
    clear hB0 hB1 hB2 hB3 hB
    replace hB4 := hide hB4
    have e0 : 4 * (n : Int) = (q0 : Int) := by omega
    have e1 : (q0 : Int) + 1 = (q1 : Int) := by omega
    have e2 : (q0 : Int) + 2 = (q2 : Int) := by omega
    have e3 : (q0 : Int) + 3 = (q3 : Int) := by omega
    have g0 : IntKind.i64.wrap (q0 : Int) = (q0 : Int) := by rw [IntKind.wrap_i64]; omega
    have g1 : IntKind.i64.wrap (q1 : Int) = (q1 : Int) := by rw [IntKind.wrap_i64]; omega
    have g2 : IntKind.i64.wrap (q2 : Int) = (q2 : Int) := by rw [IntKind.wrap_i64]; omega
    have g3 : IntKind.i64.wrap (q3 : Int) = (q3 : Int) := by rw [IntKind.wrap_i64]; omega
    have l0 : 0 ≤ (q0 : Int) ∧ (q0 : Int) < 32 := by omega
    have l1 : 0 ≤ (q1 : Int) ∧ (q1 : Int) < 32 := by omega
    have l2 : 0 ≤ (q2 : Int) ∧ (q2 : Int) < 32 := by omega
    have l3 : 0 ≤ (q3 : Int) ∧ (q3 : Int) < 32 := by omega
    have m0 : q0 < 32 := by omega
    have m1 : q1 < 32 := by omega
    have m2 : q2 < 32 := by omega
    have m3 : q3 < 32 := by omega
    have nI : (n : Int) < 8 := by omega
    have w0 : IntKind.u8.wrap (x / 16777216) = x / 16777216 % 256 := by rw [IntKind.wrap_u8']
    have w1 : IntKind.u8.wrap (x / 65536) = x / 65536 % 256 := by rw [IntKind.wrap_u8']
    have w2 : IntKind.u8.wrap (x / 256) = x / 256 % 256 := by rw [IntKind.wrap_u8']
    have w3 : IntKind.u8.wrap x = x % 256 := by rw [IntKind.wrap_u8']
    replace hq0 := hide hq0
    replace hq1 := hide hq1
    replace hq2 := hide hq2
    replace hq3 := hide hq3
    go_wp2_with fail
    go_roundw
    case rel => exact ⟨n + 1, _, by omega, by go_num, hm2, hB4⟩
    case measure => simp [intOf]; omega
  · have e : n = 8 := by omega
    subst e
    clear hil
    have hr0 : m = keyL s := unhide hm
    clear hm
    go_upto_region 7 with fail
    replace hB := unhide hB
    refine wp_region_lit ?_
    refine list_val (.agg (kc m)) (by kernel_rfl) (exec_arr _ 25 (.tmp 3) rfl (w.heap.size + 1 + 1) (by kernel_rfl) (kc m) 25 _ (hB.get 2 (x := ⟨w.heap.size + 1 + 1, kc m, 25⟩) rfl) Tryd.underlying25 rfl (by rw [Tryd.infoKey, kc_size, hml])) ?_
    simp only [Act.put, List.setIfInBounds_toArray, List.set_cons_zero, List.set_cons_succ, List.getElem_toArray, List.getElem_cons_zero, List.getElem_cons_succ]
    refine list_store 25 (.tmp 2) (.tmp 38) (w.heap.size + 1) (kc m) 25 (kc Z32) (by kernel_rfl) rfl (by kernel_rfl) (by kernel_rfl) (hB.get 1 (x := ⟨w.heap.size + 1, kc Z32, 25⟩) rfl) (by rw [Tryd.infoKey, kc_size, hml]) ((show (kc Z32).size = 32 from rfl).trans ((kc_size _).trans hml).symm) (kc_one _) ?_
    replace hB := hB.set 1 (x := ⟨w.heap.size + 1, kc Z32, 25⟩) rfl (kc m)
    simp only [List.set_cons_zero, List.set_cons_succ] at hB
    generalize World.setRow _ _ _ = v1_ at *
    simp only [Act.put, List.setIfInBounds_toArray, List.set_cons_zero, List.set_cons_succ, List.getElem_toArray, List.getElem_cons_zero, List.getElem_cons_succ]
    refine wpList_nil ?_
    go_wp2_with fail
    exact bodyPost_ret (v := .agg (kc m)) (results_cell_row Tryd.results69 _ _ (w.heap.size + 1) 25 (kc m) (0, 0) _ rfl (hB.get 1 (x := ⟨w.heap.size + 1, kc m, 25⟩) rfl) Tryd.underlying25 rfl (by rw [Tryd.infoKey, kc_size, hml])) rfl ⟨by rw [hr0], hB.gr⟩


/-- Nothing that was there has turned but for block g. -/
structure Bt (g : Nat) (w v : World) : Prop where
  os : v.os = w.os
  tape : v.tape = w.tape
  output : v.output = w.output
  size : w.heap.size ≤ v.heap.size
  block : ∀ i, i < w.heap.size → i ≠ g → v.heap[i]? = w.heap[i]?
theorem Bt.refl (g : Nat) (w : World) : Bt g w w := ⟨rfl, rfl, rfl, Nat.le_refl _, fun _ _ _ => rfl⟩
theorem Bt.trans {g : Nat} {a b c : World} (h : Bt g a b) (k : Bt g b c) : Bt g a c :=
  ⟨k.os.trans h.os, k.tape.trans h.tape, k.output.trans h.output, Nat.le_trans h.size k.size, fun i hi hn => (k.block i (Nat.lt_of_lt_of_le hi h.size) hn).trans (h.block i hi hn)⟩
theorem Gr.bt {w v : World} (h : Gr w v) (g : Nat) : Bt g w v := ⟨h.os, h.tape, h.output, h.size, fun i hi _ => h.block i hi⟩
theorem Bt.gr {g : Nat} {w u v : World} (h : Gr w u) (k : Bt g u v) (hg : w.heap.size ≤ g) : Gr w v :=
  ⟨k.os.trans h.os, k.tape.trans h.tape, k.output.trans h.output, Nat.le_trans h.size k.size, fun i hi => (k.block i (Nat.lt_of_lt_of_le hi h.size) (by omega)).trans (h.block i hi)⟩
theorem Bt.blk {g : Nat} {w v : World} (h : Bt g w v) {b : Nat} {o : Obj} (hp : w.heap[b]? = some o) (hb : b ≠ g) : v.heap[b]? = some o := by rw [h.block b (lt_of_block hp) hb]; exact hp
theorem cell_heap {w v : World} {p o : Nat} (h : v.heap[p]? = w.heap[p]?) : v.cell? ⟨p, o, none⟩ = w.cell? ⟨p, o, none⟩ := by simp [World.cell?, h]
theorem lt_of_cell {w : World} {p o : Nat} {x : Value} (h : w.cell? ⟨p, o, none⟩ = some x) : p < w.heap.size := by
  rcases Nat.lt_or_ge p w.heap.size with h' | h'
  · exact h'
  · simp [World.cell?, Array.getElem?_eq_none h'] at h
theorem Bt.cell {g : Nat} {w v : World} (h : Bt g w v) {p o : Nat} {x : Value} (hp : w.cell? ⟨p, o, none⟩ = some x) (hb : p ≠ g) : v.cell? ⟨p, o, none⟩ = some x := by
  rw [cell_heap (h.block p (lt_of_cell hp) hb)]; exact hp
theorem Bl.but {w u v : World} {L : List Blk} (h : Bl w L u) {g : Nat} (k : Bt g u v) (i : Nat) {x : Blk} (hi : L[i]? = some x) (hx : x.g = g) {c : Array Value} (hc : v.heap[g]? = some (.cells c x.t (0, 0))) : Bl w (L.set i ⟨g, c, x.t⟩) v := by
  have hn : ∀ j y, L[j]? = some y → j ≠ i → y.g ≠ g := by
    intro j y hj hji
    obtain ⟨hjl, rfl⟩ := List.getElem?_eq_some_iff.1 hj
    obtain ⟨hil, rfl⟩ := List.getElem?_eq_some_iff.1 hi
    rw [← hx]
    rcases Nat.lt_or_gt_of_ne hji with hlt | hlt
    · exact List.pairwise_iff_getElem.1 h.ne j i hjl hil hlt
    · exact (List.pairwise_iff_getElem.1 h.ne i j hil hjl hlt).symm
  have hog := h.own i hi
  rw [hx] at hog
  refine ⟨k.gr h.gr hog, ?_, ?_⟩
  · intro y hy
    obtain ⟨j, hj⟩ := List.mem_iff_getElem?.1 hy
    by_cases hji : j = i
    · subst hji
      rw [List.getElem?_set_self', hi] at hj
      simp at hj
      subst hj
      exact ⟨hc, hog⟩
    · rw [List.getElem?_set_ne (fun e => hji e.symm)] at hj
      exact ⟨k.blk (h.get j hj) (hn j y hj hji), h.own j hj⟩
  · refine List.pairwise_iff_getElem.2 fun a b ha hb hab => ?_
    rw [List.length_set] at ha hb
    have h0 := List.pairwise_iff_getElem.1 h.ne a b ha hb hab
    obtain ⟨hil, rfl⟩ := List.getElem?_eq_some_iff.1 hi
    rw [List.getElem_set, List.getElem_set]
    split
    · rename_i e
      subst e
      split
      · omega
      · exact fun e => h0 (hx.trans e)
    · split
      · rename_i e
        subst e
        exact fun e => h0 (e.trans hx.symm)
      · exact h0

/-- cells set one by one -/
def sp (C : List Value) : Nat → List Value → List Value
  | _, [] => C
  | o, v :: r => sp (C.set o v) (o + 1) r
theorem sp_mid : ∀ (vs A M D : List Value), vs.length = M.length → sp (A ++ (M ++ D)) A.length vs = A ++ (vs ++ D)
  | [], A, M, D, h => by
    have : M = [] := List.eq_nil_of_length_eq_zero h.symm
    subst this
    rfl
  | v :: r, A, [], D, h => by simp at h
  | v :: r, A, m :: M, D, h => by
    have h1 : (A ++ (m :: M ++ D)).set A.length v = (A ++ [v]) ++ (M ++ D) := by simp
    have h2 := sp_mid r (A ++ [v]) M D (by simpa using h)
    rw [sp, h1]
    simp only [List.length_append, List.length_cons, List.length_nil, Nat.zero_add] at h2
    rw [h2]
    simp
theorem setCells_heap : ∀ (vs : List Value) (w : World) (g o : Nat) (C : List Value) (t : TypeId), w.heap[g]? = some (.cells C.toArray t (0, 0)) → (w.setCells g o vs).heap[g]? = some (.cells (sp C o vs).toArray t (0, 0))
  | [], w, g, o, C, t, h => h
  | v :: r, w, g, o, C, t, h => by
    have h1 := heap_setCell_same w g o C.toArray t v h
    rw [List.setIfInBounds_toArray] at h1
    rw [World.setCells, sp]
    exact setCells_heap r _ g (o + 1) _ t h1
theorem setCells_other : ∀ (vs : List Value) (w : World) (g o j : Nat), j ≠ g → (w.setCells g o vs).heap[j]? = w.heap[j]?
  | [], w, g, o, j, h => rfl
  | v :: r, w, g, o, j, h => by
    rw [World.setCells, setCells_other r _ g (o + 1) j h]
    exact Below.heap_setCell w ⟨g, o, none⟩ v j h
theorem setCells_bt : ∀ (vs : List Value) (w : World) (g o : Nat), Bt g w (w.setCells g o vs)
  | [], w, g, o => Bt.refl g w
  | v :: r, w, g, o => by
    rw [World.setCells]
    refine Bt.trans ?_ (setCells_bt r _ g (o + 1))
    refine ⟨rfl, rfl, rfl, ?_, fun i _ hn => Below.heap_setCell w ⟨g, o, none⟩ v i hn⟩
    exact Nat.le_of_eq (by simp [World.setCell])
theorem there_of {w : World} {g o n : Nat} {C : List Value} {t : TypeId} (h : w.heap[g]? = some (.cells C.toArray t (0, 0))) (hn : o + n ≤ C.length) : w.there g o n := by
  intro j hj
  refine ⟨?_, froz_of h⟩
  have : C.toArray[o + j]? = some (C[o + j]'(by omega)) := by simp
  rw [cell_of h this]
  rfl
end Go.Proofs.YtpmgmpihmpifgaaDoor
