/-
  Of layer 16: what the proof leans on.
-/
import Derived.Deep.MidRow
import Derived.OwnWalk
import Derived.Laws.IdiomCopy
import Derived.Deep.DeepAppendWide
import Derived.Laws.BytesArg
import Derived.Test.YtpmgmpihmpifgaaDoorXK1
namespace Go.Proofs.YtpmgmpihmpifgaaDoor
open Go.RowKit
set_option maxRecDepth 100000
set_option linter.unusedSimpArgs false
set_option linter.unusedVariables false
def KL : List Int := [1116352408, 1899447441, 3049323471, 3921009573, 961987163, 1508970993, 2453635748, 2870763221, 3624381080, 310598401, 607225278, 1426881987, 1925078388, 2162078206, 2614888103, 3248222580, 3835390401, 4022224774, 264347078, 604807628, 770255983, 1249150122, 1555081692, 1996064986, 2554220882, 2821834349, 2952996808, 3210313671, 3336571891, 3584528711, 113926993, 338241895, 666307205, 773529912, 1294757372, 1396182291, 1695183700, 1986661051, 2177026350, 2456956037, 2730485921, 2820302411, 3259730800, 3345764771, 3516065817, 3600352804, 4094571909, 275423344, 430227734, 506948616, 659060556, 883997877, 958139571, 1322822218, 1537002063, 1747873779, 1955562222, 2024104815, 2227730452, 2361852424, 2428436474, 2756734187, 3204031479, 3329325298]
def rl : List UInt8 := [52, 50, 56, 97, 50, 102, 57, 56, 55, 49, 51, 55, 52, 52, 57, 49, 98, 53, 99, 48, 102, 98, 99, 102, 101, 57, 98, 53, 100, 98, 97, 53, 51, 57, 53, 54, 99, 50, 53, 98, 53, 57, 102, 49, 49, 49, 102, 49, 57, 50, 51, 102, 56, 50, 97, 52, 97, 98, 49, 99, 53, 101, 100, 53, 100, 56, 48, 55, 97, 97, 57, 56, 49, 50, 56, 51, 53, 98, 48, 49, 50, 52, 51, 49, 56, 53, 98, 101, 53, 53, 48, 99, 55, 100, 99, 51, 55, 50, 98, 101, 53, 100, 55, 52, 56, 48, 100, 101, 98, 49, 102, 101, 57, 98, 100, 99, 48, 54, 97, 55, 99, 49, 57, 98, 102, 49, 55, 52, 101, 52, 57, 98, 54, 57, 99, 49, 101, 102, 98, 101, 52, 55, 56, 54, 48, 102, 99, 49, 57, 100, 99, 54, 50, 52, 48, 99, 97, 49, 99, 99, 50, 100, 101, 57, 50, 99, 54, 102, 52, 97, 55, 52, 56, 52, 97, 97, 53, 99, 98, 48, 97, 57, 100, 99, 55, 54, 102, 57, 56, 56, 100, 97, 57, 56, 51, 101, 53, 49, 53, 50, 97, 56, 51, 49, 99, 54, 54, 100, 98, 48, 48, 51, 50, 55, 99, 56, 98, 102, 53, 57, 55, 102, 99, 55, 99, 54, 101, 48, 48, 98, 102, 51, 100, 53, 97, 55, 57, 49, 52, 55, 48, 54, 99, 97, 54, 51, 53, 49, 49, 52, 50, 57, 50, 57, 54, 55, 50, 55, 98, 55, 48, 97, 56, 53, 50, 101, 49, 98, 50, 49, 51, 56, 52, 100, 50, 99, 54, 100, 102, 99, 53, 51, 51, 56, 48, 100, 49, 51, 54, 53, 48, 97, 55, 51, 53, 52, 55, 54, 54, 97, 48, 97, 98, 98, 56, 49, 99, 50, 99, 57, 50, 101, 57, 50, 55, 50, 50, 99, 56, 53, 97, 50, 98, 102, 101, 56, 97, 49, 97, 56, 49, 97, 54, 54, 52, 98, 99, 50, 52, 98, 56, 98, 55, 48, 99, 55, 54, 99, 53, 49, 97, 51, 100, 49, 57, 50, 101, 56, 49, 57, 100, 54, 57, 57, 48, 54, 50, 52, 102, 52, 48, 101, 51, 53, 56, 53, 49, 48, 54, 97, 97, 48, 55, 48, 49, 57, 97, 52, 99, 49, 49, 54, 49, 101, 51, 55, 54, 99, 48, 56, 50, 55, 52, 56, 55, 55, 52, 99, 51, 52, 98, 48, 98, 99, 98, 53, 51, 57, 49, 99, 48, 99, 98, 51, 52, 101, 100, 56, 97, 97, 52, 97, 53, 98, 57, 99, 99, 97, 52, 102, 54, 56, 50, 101, 54, 102, 102, 51, 55, 52, 56, 102, 56, 50, 101, 101, 55, 56, 97, 53, 54, 51, 54, 102, 56, 52, 99, 56, 55, 56, 49, 52, 56, 99, 99, 55, 48, 50, 48, 56, 57, 48, 98, 101, 102, 102, 102, 97, 97, 52, 53, 48, 54, 99, 101, 98, 98, 101, 102, 57, 97, 51, 102, 55, 99, 54, 55, 49, 55, 56, 102, 50]
def KP : Nat → List Int
  | 0 => Z64
  | n + 1 => (KP n).set (n / 8) (bits .or .u32 (IntKind.u32.wrap ((KP n).getD (n / 8) 0 * 16)) (dg ((rl.getD n 0).toNat : Int)))
theorem KP_len : ∀ n, (KP n).length = 64
  | 0 => rfl
  | n + 1 => by rw [KP, List.length_set, KP_len n]
theorem KP_all : KP 512 = KL := by decide +kernel
theorem KL_len : KL.length = 64 := by decide
theorem rl_len : rl.length = 512 := by decide +kernel
theorem rl_all : (rl.all fun c => (48 ≤ c.toNat && c.toNat ≤ 57) || (97 ≤ c.toNat && c.toNat ≤ 102)) = true := by decide +kernel
def itr (w : World) (k : Nat) (s : ByteArray) (pos : Nat) : World := { w with heap := w.heap.setIfInBounds k (.stringIter s pos) }
theorem itr_self {w : World} {k : Nat} (s : ByteArray) (pos : Nat) (h : k < w.heap.size) : (itr w k s pos).heap[k]? = some (.stringIter s pos) := by
  unfold itr
  simp [h]
theorem itr_other {w : World} {k j : Nat} (s : ByteArray) (pos : Nat) (h : k ≠ j) : (itr w k s pos).heap[j]? = w.heap[j]? := by
  unfold itr
  simp [Array.getElem?_setIfInBounds, h]
theorem Bl.itr {w v : World} {L : List Blk} (h : Bl w L v) (k : Nat) (hk : w.heap.size ≤ k) (hn : ∀ x ∈ L, k ≠ x.g) (s : ByteArray) (pos : Nat) : Bl w L (itr v k s pos) := by
  refine ⟨⟨h.gr.os, h.gr.tape, h.gr.output, ?_, fun i hi => ?_⟩, fun x hx => ⟨?_, (h.at_ x hx).2⟩, h.ne⟩
  · have := h.gr.size
    unfold Proofs.YtpmgmpihmpifgaaDoor.itr
    simpa using this
  · rw [itr_other s pos (by omega)]
    exact h.gr.block i hi
  · rw [itr_other s pos (hn x hx)]
    exact (h.at_ x hx).1
theorem run_next_at {P : Program} (w : World) (k : Nat) (s : ByteArray) (pos : Nat) (ty : TypeId) (hk : w.heap[k]? = some (.stringIter s pos)) (h : pos < s.size) (ha : (s[pos]'h).toNat < 128) :
    (Instr.next (.pointer (some ⟨k, 0, none⟩)) true ty).run P w = .ok (.tuple #[.bool true, .int .i64 pos, .int .i32 (s[pos]'h).toNat]) (itr w k s (pos + 1)) := by
  simp only [Instr.next, getObj, setObj, Sem.run_bind, Sem.run, hk, Result.andThen, h, if_true, decode_ascii s pos h ha]
  simp [goInt, Sem.run, itr]
theorem run_next_stop {P : Program} (w : World) (k : Nat) (s : ByteArray) (pos : Nat) (ty : TypeId) (hk : w.heap[k]? = some (.stringIter s pos)) (h : ¬ pos < s.size) :
    (Instr.next (.pointer (some ⟨k, 0, none⟩)) true ty).run P w = .ok (.tuple #[.bool false]) w := by
  simp [Instr.next, getObj, Sem.run, hk, h]
theorem rl_at (S : ByteArray) (hS : S.data.toList = rl) (n : Nat) (h : n < S.size) : (S[n]'h).toNat = (rl.getD n 0).toNat := by
  have h1 : S[n]'h = S.data[n]'h := rfl
  have h2 : S.data[n]'h = S.data.toList[n]'(by simpa using h) := by simp
  rw [h1, h2, List.getElem_of_eq hS]
  have h3 : n < rl.length := by rw [← hS]; simpa using h
  simp [h3]
theorem rl_rng (n : Nat) (h : n < 512) : (48 ≤ ((rl.getD n 0).toNat : Int) ∧ ((rl.getD n 0).toNat : Int) ≤ 57) ∨ (97 ≤ ((rl.getD n 0).toNat : Int) ∧ ((rl.getD n 0).toNat : Int) ≤ 102) := by
  have h3 : n < rl.length := by rw [rl_len]; exact h
  have h1 := List.all_eq_true.1 rl_all (rl.getD n 0) (by simp [h3])
  simp at h1
  simp only [List.getD_eq_getElem?_getD]
  omega
set_option maxHeartbeats 2000000 in
theorem constants_ok (w : World) : Calls Tryd.prog 86 #[] w (fun r w' => r = .returned (.agg (uc KL)) ∧ Gr w w') := by
  go_enter Tryd.func86, Tryd.ntmps86
  go_wp2_with fail
  have hB := ((Bl.nil w).new #[.int .u32 0, .int .u32 0, .int .u32 0, .int .u32 0, .int .u32 0, .int .u32 0, .int .u32 0, .int .u32 0, .int .u32 0, .int .u32 0, .int .u32 0, .int .u32 0, .int .u32 0, .int .u32 0, .int .u32 0, .int .u32 0, .int .u32 0, .int .u32 0, .int .u32 0, .int .u32 0, .int .u32 0, .int .u32 0, .int .u32 0, .int .u32 0, .int .u32 0, .int .u32 0, .int .u32 0, .int .u32 0, .int .u32 0, .int .u32 0, .int .u32 0, .int .u32 0, .int .u32 0, .int .u32 0, .int .u32 0, .int .u32 0, .int .u32 0, .int .u32 0, .int .u32 0, .int .u32 0, .int .u32 0, .int .u32 0, .int .u32 0, .int .u32 0, .int .u32 0, .int .u32 0, .int .u32 0, .int .u32 0, .int .u32 0, .int .u32 0, .int .u32 0, .int .u32 0, .int .u32 0, .int .u32 0, .int .u32 0, .int .u32 0, .int .u32 0, .int .u32 0, .int .u32 0, .int .u32 0, .int .u32 0, .int .u32 0, .int .u32 0, .int .u32 0] 70).new #[.int .u32 0, .int .u32 0, .int .u32 0, .int .u32 0, .int .u32 0, .int .u32 0, .int .u32 0, .int .u32 0, .int .u32 0, .int .u32 0, .int .u32 0, .int .u32 0, .int .u32 0, .int .u32 0, .int .u32 0, .int .u32 0, .int .u32 0, .int .u32 0, .int .u32 0, .int .u32 0, .int .u32 0, .int .u32 0, .int .u32 0, .int .u32 0, .int .u32 0, .int .u32 0, .int .u32 0, .int .u32 0, .int .u32 0, .int .u32 0, .int .u32 0, .int .u32 0, .int .u32 0, .int .u32 0, .int .u32 0, .int .u32 0, .int .u32 0, .int .u32 0, .int .u32 0, .int .u32 0, .int .u32 0, .int .u32 0, .int .u32 0, .int .u32 0, .int .u32 0, .int .u32 0, .int .u32 0, .int .u32 0, .int .u32 0, .int .u32 0, .int .u32 0, .int .u32 0, .int .u32 0, .int .u32 0, .int .u32 0, .int .u32 0, .int .u32 0, .int .u32 0, .int .u32 0, .int .u32 0, .int .u32 0, .int .u32 0, .int .u32 0, .int .u32 0] 70
  simp only [size_alloc, List.nil_append, List.cons_append] at hB
  have hgs : ((w.alloc (.cells #[.int .u32 0, .int .u32 0, .int .u32 0, .int .u32 0, .int .u32 0, .int .u32 0, .int .u32 0, .int .u32 0, .int .u32 0, .int .u32 0, .int .u32 0, .int .u32 0, .int .u32 0, .int .u32 0, .int .u32 0, .int .u32 0, .int .u32 0, .int .u32 0, .int .u32 0, .int .u32 0, .int .u32 0, .int .u32 0, .int .u32 0, .int .u32 0, .int .u32 0, .int .u32 0, .int .u32 0, .int .u32 0, .int .u32 0, .int .u32 0, .int .u32 0, .int .u32 0, .int .u32 0, .int .u32 0, .int .u32 0, .int .u32 0, .int .u32 0, .int .u32 0, .int .u32 0, .int .u32 0, .int .u32 0, .int .u32 0, .int .u32 0, .int .u32 0, .int .u32 0, .int .u32 0, .int .u32 0, .int .u32 0, .int .u32 0, .int .u32 0, .int .u32 0, .int .u32 0, .int .u32 0, .int .u32 0, .int .u32 0, .int .u32 0, .int .u32 0, .int .u32 0, .int .u32 0, .int .u32 0, .int .u32 0, .int .u32 0, .int .u32 0, .int .u32 0] 70)).alloc (.cells #[.int .u32 0, .int .u32 0, .int .u32 0, .int .u32 0, .int .u32 0, .int .u32 0, .int .u32 0, .int .u32 0, .int .u32 0, .int .u32 0, .int .u32 0, .int .u32 0, .int .u32 0, .int .u32 0, .int .u32 0, .int .u32 0, .int .u32 0, .int .u32 0, .int .u32 0, .int .u32 0, .int .u32 0, .int .u32 0, .int .u32 0, .int .u32 0, .int .u32 0, .int .u32 0, .int .u32 0, .int .u32 0, .int .u32 0, .int .u32 0, .int .u32 0, .int .u32 0, .int .u32 0, .int .u32 0, .int .u32 0, .int .u32 0, .int .u32 0, .int .u32 0, .int .u32 0, .int .u32 0, .int .u32 0, .int .u32 0, .int .u32 0, .int .u32 0, .int .u32 0, .int .u32 0, .int .u32 0, .int .u32 0, .int .u32 0, .int .u32 0, .int .u32 0, .int .u32 0, .int .u32 0, .int .u32 0, .int .u32 0, .int .u32 0, .int .u32 0, .int .u32 0, .int .u32 0, .int .u32 0, .int .u32 0, .int .u32 0, .int .u32 0, .int .u32 0] 70)).heap.size = w.heap.size + 1 + 1 := by simp only [size_alloc]
  generalize World.alloc _ _ = u at *
  generalize hS : ByteArray.mk _ = S at *
  have hS1 : S.data.toList = rl := by rw [← hS]; decide +kernel
  have hS2 : S.size = 512 := by
    have : S.data.toList.length = 512 := by rw [hS1]; exact rl_len
    simpa using this
  clear hS
  have hI : Hid ((u.iter S 0).heap[w.heap.size + 1 + 1]? = some (.stringIter S 0)) := by
    rw [← hgs]
    exact World.iter_heap u S 0
  replace hB : Hid (Bl w [⟨w.heap.size, uc Z64, 70⟩, ⟨w.heap.size + 1, uc (KP 0), 70⟩] (u.iter S 0)) := hide (Bl.more hB ((Gr.refl u).alloc _))
  clear hgs
  generalize World.iter _ _ _ = u1 at *
  replace hS1 := hide hS1
  go_loopw [] (fun wr => ∃ n : Nat, ∃ m : List Int, n ≤ 512 ∧ Hid (m = KP n) ∧ Hid (wr.heap[w.heap.size + 1 + 1]? = some (.stringIter S n)) ∧ Hid (Bl w [⟨w.heap.size, uc Z64, 70⟩, ⟨w.heap.size + 1, uc m, 70⟩] wr)) (fun wr => 512 - wr.iterPos (w.heap.size + 1 + 1))
  case atStart => exact ⟨0, KP 0, by omega, rfl, hI, hB⟩
  case round =>
  clear hB hI
  obtain ⟨n, m, hn, hm, hI, hB⟩ := hrel
  have hml : m.length = 64 := by rw [unhide hm]; exact KP_len n
  by_cases hil : n < 512
  · have hp : n < S.size := by omega
    have hd := rl_rng n hil
    have hd0 := rl_at S (unhide hS1) n hp
    have hnx : ∀ ty, (Instr.next (.pointer (some ⟨w.heap.size + 1 + 1, 0, none⟩)) true ty).run Tryd.prog wr = .ok (.tuple #[.bool true, .int .i64 n, .int .i32 (S[n]'hp).toNat]) (itr wr (w.heap.size + 1 + 1) S (n + 1)) := fun ty => run_next_at wr _ S n ty (unhide hI) hp (by omega)
    rw [hd0] at hnx
    have hI0 := hide (iterPos_of (unhide hI))
    replace hI : Hid ((itr wr (w.heap.size + 1 + 1) S (n + 1)).heap[w.heap.size + 1 + 1]? = some (.stringIter S (n + 1))) := itr_self S (n + 1) (lt_of_block (unhide hI))
    replace hB : Hid (Bl w [⟨w.heap.size, uc Z64, 70⟩, ⟨w.heap.size + 1, uc m, 70⟩] (itr wr (w.heap.size + 1 + 1) S (n + 1))) := (unhide hB).itr _ (by omega) (by intro x hx; simp only [List.mem_cons, List.not_mem_nil, or_false] at hx; rcases hx with rfl | rfl <;> dsimp only <;> omega) S (n + 1)
    obtain ⟨q, hq⟩ : ∃ q, q = n / 8 := ⟨_, rfl⟩
    have hm2 : Hid (m.set q (bits .or .u32 (IntKind.u32.wrap (m.getD q 0 * 16)) (dg ((rl.getD n 0).toNat : Int))) = KP (n + 1)) := by
      rw [hq, unhide hm]
      rfl
    have hg := (unhide hB).get 1 (x := ⟨w.heap.size + 1, uc m, 70⟩) rfl
    have c4 := uc_cell hg q (by omega)
    have f4 := froz_of (i := q) hg
    clear hg
    generalize itr wr (w.heap.size + 1 + 1) S (n + 1) = v at *
    have hB2 := Bl.drew ((unhide hB).cell 1 (x := ⟨w.heap.size + 1, uc m, 70⟩) rfl q (.int .u32 (bits .or .u32 (IntKind.u32.wrap (m.getD q 0 * 16)) (dg ((rl.getD n 0).toNat : Int)))))
    simp only [List.set_cons_zero, List.set_cons_succ, uc_set] at hB2
    replace hB2 := hide hB2
    have hI2 : Hid ((v.setCell ⟨w.heap.size + 1, q, none⟩ (.int .u32 (bits .or .u32 (IntKind.u32.wrap (m.getD q 0 * 16)) (dg ((rl.getD n 0).toNat : Int))))).drew.heap[w.heap.size + 1 + 1]? = some (.stringIter S (n + 1))) := (Below.heap_setCell v ⟨w.heap.size + 1, q, none⟩ _ (w.heap.size + 1 + 1) (by dsimp only; omega)).trans (unhide hI)
    generalize ((rl.getD n 0).toNat : Int) = d at *
    generalize m.getD q 0 = x at *
    have e0 : (n : Int) / 8 = (q : Int) := by omega
    have e1 : Int.tdiv (n : Int) 8 = (q : Int) := by rw [Int.tdiv_eq_ediv_of_nonneg (by omega)]; exact e0
    have g0 : IntKind.i64.wrap (q : Int) = (q : Int) := by rw [IntKind.wrap_i64]; omega
    have l0 : 0 ≤ (q : Int) ∧ (q : Int) < 64 := by omega
    have m0 : q < 64 := by omega
    replace hq := hide hq
    replace hd0 := hide hd0
    go_upto_region 5 with fail
    go_region_with (go_at_call 103; refine (value_ok _ (by assumption) _).mono ?_; rintro e w1 ⟨rfl, rfl⟩)
    all_goals
      go_wp2_with fail
      go_roundw
      case rel => exact ⟨n + 1, _, by omega, hm2, hI2, hB2⟩
      case measure =>
        have e2 := iterPos_of (unhide hI2)
        have e3 := unhide hI0
        rw [e2, e3]
        omega
  · have e : n = 512 := by omega
    subst e
    have hnx : ∀ ty, (Instr.next (.pointer (some ⟨w.heap.size + 1 + 1, 0, none⟩)) true ty).run Tryd.prog wr = .ok (.tuple #[.bool false]) wr := fun ty => run_next_stop wr _ S 512 ty (unhide hI) (by omega)
    clear hil
    have hr0 : m = KL := (unhide hm).trans KP_all
    clear hm
    go_upto_region 6 with fail
    replace hB := unhide hB
    refine wp_region_lit ?_
    refine list_val (.agg (uc m)) (by kernel_rfl) (exec_arr _ 70 (.tmp 1) rfl (w.heap.size + 1) (by kernel_rfl) (uc m) 70 _ (hB.get 1 (x := ⟨w.heap.size + 1, uc m, 70⟩) rfl) Tryd.underlying70 rfl (by rw [Tryd.infoW, uc_size, hml])) ?_
    simp only [nrm]
    refine list_store 70 (.tmp 0) (.tmp 20) w.heap.size (uc m) 70 (uc Z64) (by kernel_rfl) rfl (by kernel_rfl) (by kernel_rfl) (hB.get 0 (x := ⟨w.heap.size, uc Z64, 70⟩) rfl) (by rw [Tryd.infoW, uc_size, hml]) ((show (uc Z64).size = 64 from rfl).trans ((uc_size _).trans hml).symm) (uc_one _) ?_
    replace hB := hB.set 0 (x := ⟨w.heap.size, uc Z64, 70⟩) rfl (uc m)
    simp only [List.set_cons_zero, List.set_cons_succ] at hB
    generalize World.setRow _ _ _ = v1_ at *
    simp only [nrm]
    refine wpList_nil ?_
    go_wp2_with fail
    exact bodyPost_ret (v := .agg (uc m)) (results_cell_row Tryd.results86 _ _ w.heap.size 70 (uc m) (0, 0) _ rfl (hB.get 0 (x := ⟨w.heap.size, uc m, 70⟩) rfl) Tryd.underlying70 rfl (by rw [Tryd.infoW, uc_size, hml])) rfl ⟨by rw [hr0], hB.gr⟩
def Z32 : List Int := List.replicate 32 0
def y0 (x : Int) : Int := x / 16777216 % 256
def y1 (x : Int) : Int := x / 65536 % 256
def y2 (x : Int) : Int := x / 256 % 256
def y3 (x : Int) : Int := x % 256
def KY (s : List Int) : Nat → List Int
  | 0 => Z32
  | n + 1 => ((((KY s n).set (4 * n) (y0 (s.getD n 0))).set (4 * n + 1) (y1 (s.getD n 0))).set (4 * n + 2) (y2 (s.getD n 0))).set (4 * n + 3) (y3 (s.getD n 0))
theorem KY_len (s : List Int) : ∀ n, (KY s n).length = 32
  | 0 => rfl
  | n + 1 => by rw [KY, List.length_set, List.length_set, List.length_set, List.length_set, KY_len s n]
def keyL (s : List Int) : List Int := KY s 8
theorem keyL_len (s : List Int) : (keyL s).length = 32 := KY_len s 8
theorem set_isB {l : List Int} (h : IsB l) (i : Nat) (x : Int) (hx : 0 ≤ x ∧ x < 256) : IsB (l.set i x) := by
  intro y hy
  rcases List.mem_or_eq_of_mem_set hy with h1 | h1
  · exact h y h1
  · subst h1; exact hx
theorem KY_isB (s : List Int) : ∀ n, IsB (KY s n)
  | 0 => by intro x hx; have := List.eq_of_mem_replicate hx; omega
  | n + 1 => by
    rw [KY]
    exact set_isB (set_isB (set_isB (set_isB (KY_isB s n) _ _ (by unfold y0; omega)) _ _ (by unfold y1; omega)) _ _ (by unfold y2; omega)) _ _ (by unfold y3; omega)
theorem keyL_isB (s : List Int) : IsB (keyL s) := KY_isB s 8
theorem Tryd.infoKey : (Tryd.prog.info? 25).map (·.size) = some 32 := by kernel_rfl
theorem index_u32 (cs : Array Value) (n : Nat) (x : Int) (hn : n < 8) (hx : cs[n]? = some (.int .u32 x)) (w : World) : (Instr.index 73 (.agg cs) (.int .i64 n)).run Tryd.prog w = .ok (.int .u32 x) w := by
  have h1 : (0 : Int) ≤ n ∧ (n : Int) < 8 := by omega
  have h2 : (n : Int) < 8 := by omega
  simp [Instr.index, run_underlying Tryd.underlying73, asIntOf, go_sem, h2, hx]
  omega
set_option maxHeartbeats 2000000 in
theorem key_ok (s : List Int) (hs : s.length = 8) (w : World) : Calls Tryd.prog 69 #[.agg (uc s)] w (fun r w' => r = .returned (.agg (kc (keyL s))) ∧ Gr w w') := by
  obtain ⟨S, hS⟩ : ∃ S, S = uc s := ⟨_, rfl⟩
  rw [← hS]
  have hSs : S.size = 8 := by rw [hS, uc_size, hs]
  replace hS := hide hS
  go_enter Tryd.func69, Tryd.ntmps69
  go_upto_region 2 with fail
  have hB := (((Bl.nil w).new S 73).new #[.int .u8 0, .int .u8 0, .int .u8 0, .int .u8 0, .int .u8 0, .int .u8 0, .int .u8 0, .int .u8 0, .int .u8 0, .int .u8 0, .int .u8 0, .int .u8 0, .int .u8 0, .int .u8 0, .int .u8 0, .int .u8 0, .int .u8 0, .int .u8 0, .int .u8 0, .int .u8 0, .int .u8 0, .int .u8 0, .int .u8 0, .int .u8 0, .int .u8 0, .int .u8 0, .int .u8 0, .int .u8 0, .int .u8 0, .int .u8 0, .int .u8 0, .int .u8 0] 25).new #[.int .u8 0, .int .u8 0, .int .u8 0, .int .u8 0, .int .u8 0, .int .u8 0, .int .u8 0, .int .u8 0, .int .u8 0, .int .u8 0, .int .u8 0, .int .u8 0, .int .u8 0, .int .u8 0, .int .u8 0, .int .u8 0, .int .u8 0, .int .u8 0, .int .u8 0, .int .u8 0, .int .u8 0, .int .u8 0, .int .u8 0, .int .u8 0, .int .u8 0, .int .u8 0, .int .u8 0, .int .u8 0, .int .u8 0, .int .u8 0, .int .u8 0, .int .u8 0] 25
  simp only [size_alloc, List.nil_append, List.cons_append] at hB
  generalize World.alloc _ _ = u at *
  replace hB : Bl w [⟨w.heap.size, S, 73⟩, ⟨w.heap.size + 1, kc Z32, 25⟩, ⟨w.heap.size + 1 + 1, kc (KY s 0), 25⟩] u := hB
  refine wp_region_lit ?_
  refine list_val (.agg S) (by kernel_rfl) (exec_arr _ 73 (.tmp 1) rfl w.heap.size (by kernel_rfl) S 73 _ (hB.get 0 (x := ⟨w.heap.size, S, 73⟩) rfl) Tryd.underlying73 rfl (by rw [Tryd.infoS, hSs])) ?_
  simp only [nrm]
  refine list_val (.int .i64 0) (by kernel_rfl) (by kernel_rfl) ?_
  simp only [nrm]
  refine wpList_nil ?_
  replace hB := hide hB
  go_wp2_with fail
  go_loopw [7] (fun i wr => ∃ n : Nat, ∃ m : List Int, n ≤ 8 ∧ i = .int .i64 n ∧ Hid (m = KY s n) ∧ Hid (Bl w [⟨w.heap.size, S, 73⟩, ⟨w.heap.size + 1, kc Z32, 25⟩, ⟨w.heap.size + 1 + 1, kc m, 25⟩] wr)) (fun i _ => 8 - (intOf i).toNat)
  case atStart => exact ⟨0, KY s 0, by omega, rfl, rfl, hB⟩
  case round =>
  clear hB
  obtain ⟨n, m, hn, rfl, hm, hB⟩ := hrel
  have hml : m.length = 32 := by rw [unhide hm]; exact KY_len s n
  by_cases hil : n < 8
  · have hx : (Instr.index 73 (.agg S) (.int .i64 n)).run Tryd.prog wr = .ok (.int .u32 (s.getD n 0)) wr := index_u32 S n _ hil (by rw [unhide hS]; exact uc_get s n (by omega)) wr
    obtain ⟨q0, hq0⟩ : ∃ q, q = 4 * n := ⟨_, rfl⟩
    obtain ⟨q1, hq1⟩ : ∃ q, q = 4 * n + 1 := ⟨_, rfl⟩
    obtain ⟨q2, hq2⟩ : ∃ q, q = 4 * n + 2 := ⟨_, rfl⟩
    obtain ⟨q3, hq3⟩ : ∃ q, q = 4 * n + 3 := ⟨_, rfl⟩
    have hm2 : Hid ((((m.set q0 (y0 (s.getD n 0))).set q1 (y1 (s.getD n 0))).set q2 (y2 (s.getD n 0))).set q3 (y3 (s.getD n 0)) = KY s (n + 1)) := by
      rw [hq0, hq1, hq2, hq3, unhide hm]
      rfl
    generalize s.getD n 0 = x at *
    have hB0 := unhide hB
    have c0 := kc_cell (hB0.get 2 (x := ⟨w.heap.size + 1 + 1, kc m, 25⟩) rfl) q0 (by omega)
    have f0 := froz_of (i := q0) (hB0.get 2 (x := ⟨w.heap.size + 1 + 1, kc m, 25⟩) rfl)
    have hB1 := hB0.cell 2 (x := ⟨w.heap.size + 1 + 1, kc m, 25⟩) rfl q0 (.int .u8 (x / 16777216 % 256))
    simp only [List.set_cons_zero, List.set_cons_succ, kc_set] at hB1
    have c1 := kc_cell (hB1.get 2 (x := ⟨w.heap.size + 1 + 1, kc (m.set q0 (x / 16777216 % 256)), 25⟩) rfl) q1 (by simp; omega)
    have f1 := froz_of (i := q1) (hB1.get 2 (x := ⟨w.heap.size + 1 + 1, kc (m.set q0 (x / 16777216 % 256)), 25⟩) rfl)
    have hB2 := hB1.cell 2 (x := ⟨w.heap.size + 1 + 1, kc (m.set q0 (x / 16777216 % 256)), 25⟩) rfl q1 (.int .u8 (x / 65536 % 256))
    simp only [List.set_cons_zero, List.set_cons_succ, kc_set] at hB2
    have c2 := kc_cell (hB2.get 2 (x := ⟨w.heap.size + 1 + 1, kc ((m.set q0 (x / 16777216 % 256)).set q1 (x / 65536 % 256)), 25⟩) rfl) q2 (by simp; omega)
    have f2 := froz_of (i := q2) (hB2.get 2 (x := ⟨w.heap.size + 1 + 1, kc ((m.set q0 (x / 16777216 % 256)).set q1 (x / 65536 % 256)), 25⟩) rfl)
    have hB3 := hB2.cell 2 (x := ⟨w.heap.size + 1 + 1, kc ((m.set q0 (x / 16777216 % 256)).set q1 (x / 65536 % 256)), 25⟩) rfl q2 (.int .u8 (x / 256 % 256))
    simp only [List.set_cons_zero, List.set_cons_succ, kc_set] at hB3
    have c3 := kc_cell (hB3.get 2 (x := ⟨w.heap.size + 1 + 1, kc (((m.set q0 (x / 16777216 % 256)).set q1 (x / 65536 % 256)).set q2 (x / 256 % 256)), 25⟩) rfl) q3 (by simp; omega)
    have f3 := froz_of (i := q3) (hB3.get 2 (x := ⟨w.heap.size + 1 + 1, kc (((m.set q0 (x / 16777216 % 256)).set q1 (x / 65536 % 256)).set q2 (x / 256 % 256)), 25⟩) rfl)
    have hB4 := hB3.cell 2 (x := ⟨w.heap.size + 1 + 1, kc (((m.set q0 (x / 16777216 % 256)).set q1 (x / 65536 % 256)).set q2 (x / 256 % 256)), 25⟩) rfl q3 (.int .u8 (x % 256))
    simp only [List.set_cons_zero, List.set_cons_succ, kc_set] at hB4
    generalize m.getD q0 0 = z0 at c0
    generalize List.getD _ _ _ = z1 at c1
    generalize List.getD _ _ _ = z2 at c2
    generalize List.getD _ _ _ = z3 at c3
    clear hB0 hB1 hB2 hB3 hB
    replace hB4 := hide hB4
    have e0 : 4 * (n : Int) = (q0 : Int) := by omega
    have e1 : (q0 : Int) + 1 = (q1 : Int) := by omega
    have e2 : (q0 : Int) + 2 = (q2 : Int) := by omega
    have e3 : (q0 : Int) + 3 = (q3 : Int) := by omega
    have g0 : IntKind.i64.wrap (q0 : Int) = (q0 : Int) := by rw [IntKind.wrap_i64]; omega
    have g1 : IntKind.i64.wrap (q1 : Int) = (q1 : Int) := by rw [IntKind.wrap_i64]; omega
    have g2 : IntKind.i64.wrap (q2 : Int) = (q2 : Int) := by rw [IntKind.wrap_i64]; omega
    have g3 : IntKind.i64.wrap (q3 : Int) = (q3 : Int) := by rw [IntKind.wrap_i64]; omega
    have l0 : 0 ≤ (q0 : Int) ∧ (q0 : Int) < 32 := by omega
    have l1 : 0 ≤ (q1 : Int) ∧ (q1 : Int) < 32 := by omega
    have l2 : 0 ≤ (q2 : Int) ∧ (q2 : Int) < 32 := by omega
    have l3 : 0 ≤ (q3 : Int) ∧ (q3 : Int) < 32 := by omega
    have m0 : q0 < 32 := by omega
    have m1 : q1 < 32 := by omega
    have m2 : q2 < 32 := by omega
    have m3 : q3 < 32 := by omega
    have nI : (n : Int) < 8 := by omega
    have w0 : IntKind.u8.wrap (x / 16777216) = x / 16777216 % 256 := by rw [IntKind.wrap_u8']
    have w1 : IntKind.u8.wrap (x / 65536) = x / 65536 % 256 := by rw [IntKind.wrap_u8']
    have w2 : IntKind.u8.wrap (x / 256) = x / 256 % 256 := by rw [IntKind.wrap_u8']
    have w3 : IntKind.u8.wrap x = x % 256 := by rw [IntKind.wrap_u8']
    replace hq0 := hide hq0
    replace hq1 := hide hq1
    replace hq2 := hide hq2
    replace hq3 := hide hq3
    go_wp2_with fail
    go_roundw
    case rel => exact ⟨n + 1, _, by omega, by go_num, hm2, hB4⟩
    case measure => simp [intOf]; omega
  · have e : n = 8 := by omega
    subst e
    clear hil
    have hr0 : m = keyL s := unhide hm
    clear hm
    go_upto_region 7 with fail
    replace hB := unhide hB
    refine wp_region_lit ?_
    refine list_val (.agg (kc m)) (by kernel_rfl) (exec_arr _ 25 (.tmp 3) rfl (w.heap.size + 1 + 1) (by kernel_rfl) (kc m) 25 _ (hB.get 2 (x := ⟨w.heap.size + 1 + 1, kc m, 25⟩) rfl) Tryd.underlying25 rfl (by rw [Tryd.infoKey, kc_size, hml])) ?_
    simp only [nrm]
    refine list_store 25 (.tmp 2) (.tmp 38) (w.heap.size + 1) (kc m) 25 (kc Z32) (by kernel_rfl) rfl (by kernel_rfl) (by kernel_rfl) (hB.get 1 (x := ⟨w.heap.size + 1, kc Z32, 25⟩) rfl) (by rw [Tryd.infoKey, kc_size, hml]) ((show (kc Z32).size = 32 from rfl).trans ((kc_size _).trans hml).symm) (kc_one _) ?_
    replace hB := hB.set 1 (x := ⟨w.heap.size + 1, kc Z32, 25⟩) rfl (kc m)
    simp only [List.set_cons_zero, List.set_cons_succ] at hB
    generalize World.setRow _ _ _ = v1_ at *
    simp only [nrm]
    refine wpList_nil ?_
    go_wp2_with fail
    exact bodyPost_ret (v := .agg (kc m)) (results_cell_row Tryd.results69 _ _ (w.heap.size + 1) 25 (kc m) (0, 0) _ rfl (hB.get 1 (x := ⟨w.heap.size + 1, kc m, 25⟩) rfl) Tryd.underlying25 rfl (by rw [Tryd.infoKey, kc_size, hml])) rfl ⟨by rw [hr0], hB.gr⟩
structure Bt (g : Nat) (w v : World) : Prop where
  os : v.os = w.os
  tape : v.tape = w.tape
  output : v.output = w.output
  size : w.heap.size ≤ v.heap.size
  block : ∀ i, i < w.heap.size → i ≠ g → v.heap[i]? = w.heap[i]?
theorem Bt.refl (g : Nat) (w : World) : Bt g w w := ⟨rfl, rfl, rfl, Nat.le_refl _, fun _ _ _ => rfl⟩
theorem Bt.trans {g : Nat} {a b c : World} (h : Bt g a b) (k : Bt g b c) : Bt g a c :=
  ⟨k.os.trans h.os, k.tape.trans h.tape, k.output.trans h.output, Nat.le_trans h.size k.size, fun i hi hn => (k.block i (Nat.lt_of_lt_of_le hi h.size) hn).trans (h.block i hi hn)⟩
theorem Gr.bt {w v : World} (h : Gr w v) (g : Nat) : Bt g w v := ⟨h.os, h.tape, h.output, h.size, fun i hi _ => h.block i hi⟩
theorem Bt.gr {g : Nat} {w u v : World} (h : Gr w u) (k : Bt g u v) (hg : w.heap.size ≤ g) : Gr w v :=
  ⟨k.os.trans h.os, k.tape.trans h.tape, k.output.trans h.output, Nat.le_trans h.size k.size, fun i hi => (k.block i (Nat.lt_of_lt_of_le hi h.size) (by omega)).trans (h.block i hi)⟩
theorem Bt.blk {g : Nat} {w v : World} (h : Bt g w v) {b : Nat} {o : Obj} (hp : w.heap[b]? = some o) (hb : b ≠ g) : v.heap[b]? = some o := by rw [h.block b (lt_of_block hp) hb]; exact hp
theorem cell_heap {w v : World} {p o : Nat} (h : v.heap[p]? = w.heap[p]?) : v.cell? ⟨p, o, none⟩ = w.cell? ⟨p, o, none⟩ := by simp [World.cell?, h]
theorem lt_of_cell {w : World} {p o : Nat} {x : Value} (h : w.cell? ⟨p, o, none⟩ = some x) : p < w.heap.size := by
  rcases Nat.lt_or_ge p w.heap.size with h' | h'
  · exact h'
  · simp [World.cell?, Array.getElem?_eq_none h'] at h
theorem Bt.cell {g : Nat} {w v : World} (h : Bt g w v) {p o : Nat} {x : Value} (hp : w.cell? ⟨p, o, none⟩ = some x) (hb : p ≠ g) : v.cell? ⟨p, o, none⟩ = some x := by
  rw [cell_heap (h.block p (lt_of_cell hp) hb)]; exact hp
theorem Bl.but {w u v : World} {L : List Blk} (h : Bl w L u) {g : Nat} (k : Bt g u v) (i : Nat) {x : Blk} (hi : L[i]? = some x) (hx : x.g = g) {c : Array Value} (hc : v.heap[g]? = some (.cells c x.t (0, 0))) : Bl w (L.set i ⟨g, c, x.t⟩) v := by
  have hn : ∀ j y, L[j]? = some y → j ≠ i → y.g ≠ g := by
    intro j y hj hji
    obtain ⟨hjl, rfl⟩ := List.getElem?_eq_some_iff.1 hj
    obtain ⟨hil, rfl⟩ := List.getElem?_eq_some_iff.1 hi
    rw [← hx]
    rcases Nat.lt_or_gt_of_ne hji with hlt | hlt
    · exact List.pairwise_iff_getElem.1 h.ne j i hjl hil hlt
    · exact (List.pairwise_iff_getElem.1 h.ne i j hil hjl hlt).symm
  have hog := h.own i hi
  rw [hx] at hog
  refine ⟨k.gr h.gr hog, ?_, ?_⟩
  · intro y hy
    obtain ⟨j, hj⟩ := List.mem_iff_getElem?.1 hy
    by_cases hji : j = i
    · subst hji
      rw [List.getElem?_set_self', hi] at hj
      simp at hj
      subst hj
      exact ⟨hc, hog⟩
    · rw [List.getElem?_set_ne (fun e => hji e.symm)] at hj
      exact ⟨k.blk (h.get j hj) (hn j y hj hji), h.own j hj⟩
  · refine List.pairwise_iff_getElem.2 fun a b ha hb hab => ?_
    rw [List.length_set] at ha hb
    have h0 := List.pairwise_iff_getElem.1 h.ne a b ha hb hab
    obtain ⟨hil, rfl⟩ := List.getElem?_eq_some_iff.1 hi
    rw [List.getElem_set, List.getElem_set]
    split
    · rename_i e
      subst e
      split
      · omega
      · exact fun e => h0 (hx.trans e)
    · split
      · rename_i e
        subst e
        exact fun e => h0 (e.trans hx.symm)
      · exact h0
def sp (C : List Value) : Nat → List Value → List Value
  | _, [] => C
  | o, v :: r => sp (C.set o v) (o + 1) r
theorem sp_mid : ∀ (vs A M D : List Value), vs.length = M.length → sp (A ++ (M ++ D)) A.length vs = A ++ (vs ++ D)
  | [], A, M, D, h => by
    have : M = [] := List.eq_nil_of_length_eq_zero h.symm
    subst this
    rfl
  | v :: r, A, [], D, h => by simp at h
  | v :: r, A, m :: M, D, h => by
    have h1 : (A ++ (m :: M ++ D)).set A.length v = (A ++ [v]) ++ (M ++ D) := by simp
    have h2 := sp_mid r (A ++ [v]) M D (by simpa using h)
    rw [sp, h1]
    simp only [List.length_append, List.length_cons, List.length_nil, Nat.zero_add] at h2
    rw [h2]
    simp
theorem setCells_heap : ∀ (vs : List Value) (w : World) (g o : Nat) (C : List Value) (t : TypeId), w.heap[g]? = some (.cells C.toArray t (0, 0)) → (w.setCells g o vs).heap[g]? = some (.cells (sp C o vs).toArray t (0, 0))
  | [], w, g, o, C, t, h => h
  | v :: r, w, g, o, C, t, h => by
    have h1 := heap_setCell_same w g o C.toArray t v h
    rw [List.setIfInBounds_toArray] at h1
    rw [World.setCells, sp]
    exact setCells_heap r _ g (o + 1) _ t h1
theorem setCells_other : ∀ (vs : List Value) (w : World) (g o j : Nat), j ≠ g → (w.setCells g o vs).heap[j]? = w.heap[j]?
  | [], w, g, o, j, h => rfl
  | v :: r, w, g, o, j, h => by
    rw [World.setCells, setCells_other r _ g (o + 1) j h]
    exact Below.heap_setCell w ⟨g, o, none⟩ v j h
theorem setCells_bt : ∀ (vs : List Value) (w : World) (g o : Nat), Bt g w (w.setCells g o vs)
  | [], w, g, o => Bt.refl g w
  | v :: r, w, g, o => by
    rw [World.setCells]
    refine Bt.trans ?_ (setCells_bt r _ g (o + 1))
    refine ⟨rfl, rfl, rfl, ?_, fun i _ hn => Below.heap_setCell w ⟨g, o, none⟩ v i hn⟩
    exact Nat.le_of_eq (by simp [World.setCell])
theorem there_of {w : World} {g o n : Nat} {C : List Value} {t : TypeId} (h : w.heap[g]? = some (.cells C.toArray t (0, 0))) (hn : o + n ≤ C.length) : w.there g o n := by
  intro j hj
  refine ⟨?_, froz_of h⟩
  have : C.toArray[o + j]? = some (C[o + j]'(by omega)) := by simp
  rw [cell_of h this]
  rfl
def hbk : Nat → List Int → List Int → List Int
  | 0, s, _ => s
  | n + 1, s, B => stp (hbk n s B) (wds ((B.drop (64 * n)).take 64)) KL
theorem hbk_len (s B : List Int) (hs : s.length = 8) : ∀ n, (hbk n s B).length = 8
  | 0 => hs
  | _ + 1 => stp_len _ _ _
def hcl (s l : List Int) (n : Int) : List Value := s.map (Value.int .u32) ++ (l.map (Value.int .u8) ++ [.int .i64 n])
def hc (s l : List Int) (n : Int) : Array Value := (hcl s l n).toArray
def SlO (g : Nat) (w : World) (a : Option Addr) (B : List Int) : Prop := B = [] ∨ ∃ p o, a = some ⟨p, o, none⟩ ∧ At w p o B ∧ (p ≠ g ∨ 8 ≤ o)
theorem range_st {w : World} {g : Nat} {s l : List Int} {n : Int} {t : TypeId} (h : w.heap[g]? = some (.cells (hc s l n) t (0, 0))) : w.rangeAt g 0 (s.map (Value.int .u32)) := by
  intro j v hj
  refine cell_of h ?_
  unfold hc hcl
  have hlt := (List.getElem?_eq_some_iff.1 hj).1
  rw [List.getElem?_toArray, Nat.zero_add, List.getElem?_append_left hlt]
  exact hj
theorem list_store_mid {P : Program} {ops : Array Oper} {Q : Exit → Act → World → Prop} {a : Act} {w : World} {o : Oper} {K : Act → World → Prop} (ty : TypeId) (x y : Operand) (g off : Nat) (c : Array Value) (hw : Region.wanted o (yielded ops a.tmps) = true) (ho : o.op = .store ty x y)
    (hx : a.eval x = .pointer (some ⟨g, off, none⟩)) (hy : a.eval y = .agg c) (ht : w.there g off c.size) (hi : (P.info? ty).map (·.size) = some c.size) (h1 : c.all (·.oneCell') = true)
    (h : K (a.put o.dst undef) (w.setCells g off c.toList)) : if Region.wanted o (yielded ops a.tmps) = true then Oper.wp P o a w K Q else K (a.put o.dst undef) w := by
  rw [if_pos hw]
  exact wp_store_mid ty x y ho g off c hx hy ht hi h1 h
theorem At.bt {g : Nat} {w v : World} {p o : Nat} {B : List Int} (h : At w p o B) (k : Bt g w v) (hp : p ≠ g) : At v p o B := fun j hj => k.cell (h j hj) hp
theorem SlO.gr {g : Nat} {w v : World} {a : Option Addr} {B : List Int} (h : SlO g w a B) (k : Gr w v) : SlO g v a B := by
  rcases h with h | ⟨p, o, h1, h2, h3⟩
  · exact .inl h
  · exact .inr ⟨p, o, h1, h2.gr k, h3⟩
structure TI (g gk : Nat) (s l : List Int) (n : Int) (B : List Int) (w : World) (j : Nat) (a : Option Addr) (v : World) : Prop where
  hash : v.heap[g]? = some (.cells (hc (hbk j s B) l n) 99 (0, 0))
  ks : v.heap[gk]? = some (.cells (uc KL) 70 (0, 0))
  bt : Bt g w v
  sl : SlO g v a (B.drop (64 * j))
  ne : gk ≠ g
theorem TI.gr {g gk : Nat} {s l : List Int} {n : Int} {B : List Int} {w : World} {j : Nat} {a : Option Addr} {u v : World} (h : TI g gk s l n B w j a u) (k : Gr u v) : TI g gk s l n B w j a v :=
  ⟨k.blk h.hash, k.blk h.ks, h.bt.trans (k.bt g), h.sl.gr k, h.ne⟩
def Took (g : Nat) (s l : List Int) (n : Int) (B : List Int) (w : World) (r : Ending) (w' : World) : Prop := ∃ a' c', r = .returned (.slice a' (B.length % 64) c') ∧ B.length % 64 ≤ c' ∧ c' < 9223372036854775808 ∧ SlO g w' a' (B.drop (64 * (B.length / 64))) ∧
  w'.heap[g]? = some (.cells (hc (hbk (B.length / 64) s B) l n) 99 (0, 0)) ∧ Bt g w w'
def slen : Value → Nat
  | .slice _ n _ => n
  | _ => 0
theorem TI.at_ {g gk : Nat} {s l : List Int} {n : Int} {B : List Int} {w : World} {j p o : Nat} {v : World} (h : TI g gk s l n B w j (some ⟨p, o, none⟩) v) : At v p o ((B.drop (64 * j)).take 64) := by
  intro k hk
  rw [List.length_take] at hk
  rcases h.sl with h0 | ⟨p', o', h1, h2, h3⟩
  · rw [h0] at hk; simp at hk
  · have e1 : p' = p ∧ o' = o := by simpa using h1.symm
    obtain ⟨rfl, rfl⟩ := e1
    have h4 := h2 k (by omega)
    rw [h4]
    have : ((B.drop (64 * j)).take 64).getD k 0 = (B.drop (64 * j)).getD k 0 := by
      have hk2 : k < 64 := by omega
      simp [List.getElem?_take, hk2]
    rw [this]
theorem TI.rng {g gk : Nat} {s l : List Int} {n : Int} {B : List Int} {w : World} {j : Nat} {a : Option Addr} {v : World} {S : List Int} (h : TI g gk s l n B w j a v) (e : Hid (S = hbk j s B)) : v.rangeAt g 0 (S.map (Value.int .u32)) := by
  rw [unhide e]
  exact range_st h.hash
theorem TI.step {g gk : Nat} {s l : List Int} {n : Int} {B : List Int} {w : World} {j p o : Nat} {v : World} {S : List Int} (h : TI g gk s l n B w j (some ⟨p, o, none⟩) v) (hs : s.length = 8) (e : S = hbk j s B) :
    (v.setCells g 0 (uc (stp S (wds ((B.drop (64 * j)).take 64)) KL)).toList).heap[gk]? = some (.cells (uc KL) 70 (0, 0)) ∧ TI g gk s l n B w (j + 1) (some ⟨p, o + 64, none⟩) (v.setCells g 0 (uc (stp S (wds ((B.drop (64 * j)).take 64)) KL)).toList) := by
  have h1 : (v.setCells g 0 (uc (stp S (wds ((B.drop (64 * j)).take 64)) KL)).toList).heap[gk]? = some (.cells (uc KL) 70 (0, 0)) := (setCells_other _ v g 0 gk h.ne).trans h.ks
  refine ⟨h1, ⟨?_, h1, h.bt.trans (setCells_bt _ v g 0), ?_, h.ne⟩⟩
  · rw [setCells_heap _ v g 0 _ _ h.hash, e]
    have := sp_mid ((stp (hbk j s B) (wds ((B.drop (64 * j)).take 64)) KL).map (Value.int .u32)) [] ((hbk j s B).map (Value.int .u32)) (l.map (Value.int .u8) ++ [.int .i64 n]) (by rw [List.length_map, List.length_map, hbk_len s B hs j]; rfl)
    simp only [List.nil_append, List.length_nil] at this
    unfold hcl uc
    simp only []
    rw [this]
    rfl
  · rcases h.sl with h0 | ⟨p', o', e1, h2, h3⟩
    · refine .inl ?_
      rw [Nat.mul_add, ← List.drop_drop, h0]
      rfl
    · have e2 : p' = p ∧ o' = o := by simpa using e1.symm
      obtain ⟨rfl, rfl⟩ := e2
      refine .inr ⟨p', o' + 64, rfl, ?_, by omega⟩
      intro k hk
      rw [List.length_drop] at hk
      have h4 := h2 (64 + k) (by rw [List.length_drop]; omega)
      have h5 : (B.drop (64 * (j + 1))).getD k 0 = (B.drop (64 * j)).getD (64 + k) 0 := by
        rw [Nat.mul_add, ← List.drop_drop]
        simp [Nat.add_assoc]
      rw [h5, ← h4]
      have h6 : o' + 64 + k = o' + (64 + k) := by omega
      rw [h6]
      refine World.cell?_setCells_out g _ 0 v _ (fun e3 _ => ?_)
      right
      show 0 + (uc _).toList.length ≤ o' + (64 + k)
      rw [Array.length_toList, uc_size, stp_len]
      omega
section
variable {P : Program} {md : Region.Mode} {ops : Array Oper} {Q : Exit → Act → World → Prop} {S : World → Prop}
theorem any_pair {i j : Nat} {oi oj : Oper} {v : Value} {f : FuncId} {args : Array Value} {l : Array Bool} {a : Act} {w : World} (R : World → Prop) (T : Value → World → Prop)
    (hr1 : Region.ready md ops l = [i, j]) (hr2 : Region.ready md ops (l.setIfInBounds i true) = [j]) (hr3 : Region.ready md ops (l.setIfInBounds j true) = [i])
    (hoi : ops[i]? = some oi) (hoj : ops[j]? = some oj)
    (hw1 : Region.wanted oi (yielded ops a.tmps) = true) (hw2 : Region.wanted oj (yielded ops a.tmps) = true)
    (hw3 : Region.wanted oj (yielded ops (a.put oi.dst v).tmps) = true) (hw4 : ∀ r, Region.wanted oi (yielded ops (a.put oj.dst r).tmps) = true)
    (hl1 : ∀ w, R w → (execOp a.eval oi).run P w = .ok (.value v) w) (hl2 : ∀ r w, R w → (execOp (a.put oj.dst r).eval oi).run P w = .ok (.value v) w)
    (hc1 : ∀ w, (execOp a.eval oj).run P w = .ok (.enter f args) w) (hc2 : ∀ w, (execOp (a.put oi.dst v).eval oj).run P w = .ok (.enter f args) w)
    (hc : ∀ w, R w → Calls P f args w (fun e w' => ∃ r, e = .returned r ∧ R w' ∧ T r w')) (hRS : ∀ w, R w → S w) (hR : R w)
    (hcomm : ∀ r, (a.put oj.dst r).put oi.dst v = (a.put oi.dst v).put oj.dst r) (hlcomm : (l.setIfInBounds j true).setIfInBounds i true = (l.setIfInBounds i true).setIfInBounds j true)
    (hfin : ∀ r w', R w' → T r w' → Any P md ops Q S ((l.setIfInBounds i true).setIfInBounds j true) ((a.put oi.dst v).put oj.dst r) w') : Any P md ops Q S l a w := by
  intro fuel hfu
  have hm : i ∈ Region.ready md ops l := by rw [hr1]; exact List.mem_cons_self
  have hmj : j ∈ Region.ready md ops l := by rw [hr1]; exact List.mem_cons_of_mem _ List.mem_cons_self
  have h1 := left_of (mem_ready.1 hm).1
  have h2 := left_of (mem_ready.1 hmj).1
  obtain ⟨n, rfl⟩ : ∃ n, fuel = n + 1 := ⟨fuel - 1, by omega⟩
  refine wpAnyH_ready hr1 (by simp) (AllReadyH.cons hoi (fun K hK => ?_) (AllReadyH.cons hoj (fun K hK => ?_) AllReadyH.nil))
  · rw [if_pos hw1]
    unfold Oper.wp
    rw [hl1 w hR]
    refine hK.out _ _ (hRS w hR) (fun _ => ?_)
    refine any_one (S := S) hr2 hoj (fun K2 hK2 => ?_) n (by omega)
    refine step_callw hw3 f args (hc2 w) ((hc w hR).mono ?_)
    rintro e w' ⟨r, rfl, hR', hT⟩
    exact ⟨r, rfl, hK2.out _ _ (hRS w' hR') (fun _ => hfin r w' hR' hT)⟩
  · refine step_callw hw2 f args (hc1 w) ((hc w hR).mono ?_)
    rintro e w' ⟨r, rfl, hR', hT⟩
    refine ⟨r, rfl, hK.out _ _ (hRS w' hR') (fun _ => ?_)⟩
    refine any_one (S := S) hr3 hoi (fun K2 hK2 => ?_) n (by omega)
    rw [if_pos (hw4 r)]
    unfold Oper.wp
    rw [hl2 r w' hR']
    refine hK2.out _ _ (hRS w' hR') (fun _ => ?_)
    rw [hcomm r, hlcomm]
    exact hfin r w' hR' hT
end
set_option maxHeartbeats 2000000 in
theorem take_ok (s l : List Int) (n : Int) (hs : s.length = 8) (g : Nat) (B : List Int) (hb : IsB B) (a : Option Addr) (cap : Nat) (hcap : B.length ≤ cap) (hbig : cap < 9223372036854775808) (w : World)
    (hg : w.heap[g]? = some (.cells (hc s l n) 99 (0, 0))) (hA : SlO g w a B) :
    Calls Tryd.prog 67 #[.pointer (some ⟨g, 0, none⟩), .slice a B.length cap] w (Took g s l n B w) := by
  obtain ⟨N, hN⟩ : ∃ N, N = B.length := ⟨_, rfl⟩
  rw [← hN] at hcap
  obtain ⟨T, hT0⟩ : ∃ T, T = Took g s l n B w := ⟨_, rfl⟩
  rw [← hT0, ← hN]
  replace hT0 := hide hT0
  replace hb := hide hb
  replace hg := hide hg
  replace hA := hide hA
  replace hN := hide hN
  by_cases hl : N < 64
  · have e0 : N / 64 = 0 := by omega
    have e1 : N % 64 = N := by omega
    have hI : (N : Int) < 64 := by omega
    go_enter Tryd.func67, Tryd.ntmps67
    go_wp2_with fail
    show T (.returned (.slice a N cap)) w
    rw [unhide hT0]
    unfold Took
    rw [← unhide hN, e0, e1]
    exact ⟨a, cap, rfl, by omega, hbig, by simpa using unhide hA, unhide hg, Bt.refl g w⟩
  · have hI : ¬ (N : Int) < 64 := by omega
    go_enter Tryd.func67, Tryd.ntmps67
    go_upto_region 3 with fail
    have hB := Bl.nil w
    refine wp_region_lit ?_
    refine list_call 86 #[] (by kernel_rfl) (by kernel_rfl) ((constants_ok _).mono ?_)
    rintro r v1 ⟨rfl, hgr⟩
    refine ⟨_, rfl, ?_⟩
    replace hB := hB.more hgr
    replace hg := hide (hgr.blk (unhide hg))
    clear hgr
    simp only [nrm]
    refine wpList_step fun K hK => ?_
    replace hK := hide hK
    go_simp
    refine unhide hK _ _ ?_
    clear hK K
    have hgk : v1.heap.size ≠ g := by have := lt_of_block (unhide hg); omega
    replace hB := hB.new #[.int .u32 0, .int .u32 0, .int .u32 0, .int .u32 0, .int .u32 0, .int .u32 0, .int .u32 0, .int .u32 0, .int .u32 0, .int .u32 0, .int .u32 0, .int .u32 0, .int .u32 0, .int .u32 0, .int .u32 0, .int .u32 0, .int .u32 0, .int .u32 0, .int .u32 0, .int .u32 0, .int .u32 0, .int .u32 0, .int .u32 0, .int .u32 0, .int .u32 0, .int .u32 0, .int .u32 0, .int .u32 0, .int .u32 0, .int .u32 0, .int .u32 0, .int .u32 0, .int .u32 0, .int .u32 0, .int .u32 0, .int .u32 0, .int .u32 0, .int .u32 0, .int .u32 0, .int .u32 0, .int .u32 0, .int .u32 0, .int .u32 0, .int .u32 0, .int .u32 0, .int .u32 0, .int .u32 0, .int .u32 0, .int .u32 0, .int .u32 0, .int .u32 0, .int .u32 0, .int .u32 0, .int .u32 0, .int .u32 0, .int .u32 0, .int .u32 0, .int .u32 0, .int .u32 0, .int .u32 0, .int .u32 0, .int .u32 0, .int .u32 0, .int .u32 0] 70
    replace hg := hide (((Gr.refl v1).alloc (.cells #[.int .u32 0, .int .u32 0, .int .u32 0, .int .u32 0, .int .u32 0, .int .u32 0, .int .u32 0, .int .u32 0, .int .u32 0, .int .u32 0, .int .u32 0, .int .u32 0, .int .u32 0, .int .u32 0, .int .u32 0, .int .u32 0, .int .u32 0, .int .u32 0, .int .u32 0, .int .u32 0, .int .u32 0, .int .u32 0, .int .u32 0, .int .u32 0, .int .u32 0, .int .u32 0, .int .u32 0, .int .u32 0, .int .u32 0, .int .u32 0, .int .u32 0, .int .u32 0, .int .u32 0, .int .u32 0, .int .u32 0, .int .u32 0, .int .u32 0, .int .u32 0, .int .u32 0, .int .u32 0, .int .u32 0, .int .u32 0, .int .u32 0, .int .u32 0, .int .u32 0, .int .u32 0, .int .u32 0, .int .u32 0, .int .u32 0, .int .u32 0, .int .u32 0, .int .u32 0, .int .u32 0, .int .u32 0, .int .u32 0, .int .u32 0, .int .u32 0, .int .u32 0, .int .u32 0, .int .u32 0, .int .u32 0, .int .u32 0, .int .u32 0, .int .u32 0] 70)).blk (unhide hg))
    simp only [List.nil_append] at hB
    have hgo : w.heap.size ≤ v1.heap.size := hB.own 0 (x := ⟨v1.heap.size, #[.int .u32 0, .int .u32 0, .int .u32 0, .int .u32 0, .int .u32 0, .int .u32 0, .int .u32 0, .int .u32 0, .int .u32 0, .int .u32 0, .int .u32 0, .int .u32 0, .int .u32 0, .int .u32 0, .int .u32 0, .int .u32 0, .int .u32 0, .int .u32 0, .int .u32 0, .int .u32 0, .int .u32 0, .int .u32 0, .int .u32 0, .int .u32 0, .int .u32 0, .int .u32 0, .int .u32 0, .int .u32 0, .int .u32 0, .int .u32 0, .int .u32 0, .int .u32 0, .int .u32 0, .int .u32 0, .int .u32 0, .int .u32 0, .int .u32 0, .int .u32 0, .int .u32 0, .int .u32 0, .int .u32 0, .int .u32 0, .int .u32 0, .int .u32 0, .int .u32 0, .int .u32 0, .int .u32 0, .int .u32 0, .int .u32 0, .int .u32 0, .int .u32 0, .int .u32 0, .int .u32 0, .int .u32 0, .int .u32 0, .int .u32 0, .int .u32 0, .int .u32 0, .int .u32 0, .int .u32 0, .int .u32 0, .int .u32 0, .int .u32 0, .int .u32 0], 70⟩) rfl
    generalize v1.heap.size = gk at *
    generalize World.alloc _ _ = v2 at *
    replace hB : Bl w [⟨gk, uc Z64, 70⟩] v2 := hB
    refine list_store 70 (.tmp 5) (.tmp 10) gk (uc KL) 70 (uc Z64) (by kernel_rfl) rfl (by kernel_rfl) (by kernel_rfl) (hB.get 0 (x := ⟨gk, uc Z64, 70⟩) rfl) (by rw [Tryd.infoW, uc_size, KL_len]) ((show (uc Z64).size = 64 from rfl).trans ((uc_size _).trans KL_len).symm) (uc_one _) ?_
    replace hB := hB.set 0 (x := ⟨gk, uc Z64, 70⟩) rfl (uc KL)
    simp only [List.set_cons_zero, List.set_cons_succ] at hB
    replace hg : Hid ((v2.setRow gk (uc KL)).heap[g]? = some (.cells (hc s l n) 99 (0, 0))) := hide ((setRow_other v2 gk g (uc KL) (fun e => hgk e.symm)).trans (unhide hg))
    generalize World.setRow _ _ _ = v3 at *
    simp only [nrm]
    refine wpList_nil ?_
    have hT : TI g gk s l n B w 0 a v3 := ⟨unhide hg, hB.get 0 (x := ⟨gk, uc KL, 70⟩) rfl, hB.gr.bt g, by simpa using (unhide hA).gr hB.gr, hgk⟩
    replace hT := hide hT
    clear hB hg
    go_wp2_with fail
    go_loopw [1] (fun b wr => ∃ (j : Nat) (a : Option Addr) (c : Nat), b = .slice a (N - 64 * j) c ∧ 64 * j ≤ N ∧ N - 64 * j ≤ c ∧ c < 9223372036854775808 ∧ Hid (TI g gk s l n B w j a wr)) (fun b _ => slen b)
    case atStart => exact ⟨0, a, cap, rfl, by omega, by omega, hbig, hT⟩
    case round =>
    clear hT
    obtain ⟨j, a', c, rfl, hj, hc1, hc2, hT⟩ := hrel
    obtain ⟨m, hm⟩ : ∃ m, m = N - 64 * j := ⟨_, rfl⟩
    rw [← hm] at hc1
    rw [← hm]
    replace hT := unhide hT
    have hNl : (B.drop (64 * j)).length = m := by rw [List.length_drop, ← unhide hN, hm]
    by_cases hml : 64 ≤ m
    · obtain ⟨p, o, ha, hat, hpo⟩ := (show ∃ p o, a' = some ⟨p, o, none⟩ ∧ At wr p o (B.drop (64 * j)) ∧ (p ≠ g ∨ 8 ≤ o) by
        rcases hT.sl with h0 | h0
        · rw [h0] at hNl; simp at hNl; omega
        · exact h0)
      subst ha
      have mI : 64 ≤ (m : Int) := by omega
      have cI : 64 ≤ (c : Int) := by omega
      have cI2 : ¬ (c : Int) < 64 := by omega
      have mI2 : ¬ (m : Int) < 64 := by omega
      have hsl5 := hide hat
      have hb5 : Hid (IsB ((B.drop (64 * j)).take 64)) := fun x hx => unhide hb x (List.mem_of_mem_drop (List.mem_of_mem_take hx))
      have hl5 : Hid (((B.drop (64 * j)).take 64).length = 64) := by show List.length _ = 64; rw [List.length_take, hNl]; omega
      have hSl : (hbk j s B).length = 8 := hbk_len s B hs j
      obtain ⟨S, hSe⟩ : ∃ S, S = hbk j s B := ⟨_, rfl⟩
      rw [← hSe] at hSl
      replace hT := hide hT
      replace hSe := hide hSe
      replace hNl := hide hNl
      replace hpo := hide hpo
      go_upto_region 5 with fail
      replace hT := unhide hT
      refine any_start (S := fun v => v.heap[gk]? = some (.cells (uc KL) 70 (0, 0))) (by kernel_rfl) ?_
      replace hT := hT.gr (Gr.refl wr).drew
      have hS := hT.ks
      generalize World.drew _ = x0 at *
      simp only [List.size_toArray, List.length_cons, List.length_nil, Array.replicate, List.replicate]
      refine any_take (i := 0) (v := (.pointer (some ⟨g, 0, none⟩))) #[false, false, false, false, false, false, false, false, false, false, false, false, false] rfl (by kernel_rfl) (by kernel_rfl) (by kernel_rfl) (by kernel_rfl) (fun _ _ _ h => h) (.inl ⟨by kernel_rfl, fun x_ hu => by kernel_rfl⟩) hS ?_
      simp only [nrm]
      refine any_take (i := 1) (v := (.pointer (some ⟨g, 0, none⟩))) #[true, false, false, false, false, false, false, false, false, false, false, false, false] rfl (by kernel_rfl) (by kernel_rfl) (by kernel_rfl) (by kernel_rfl) (fun _ _ _ h => h) (.inl ⟨by kernel_rfl, fun x_ hu => by kernel_rfl⟩) hS ?_
      simp only [nrm]
      refine any_take (i := 2) (v := (.pointer (some ⟨g, 0, none⟩))) #[true, true, false, false, false, false, false, false, false, false, false, false, false] rfl (by kernel_rfl) (by kernel_rfl) (by kernel_rfl) (by kernel_rfl) (fun _ _ _ h => h) (.inl ⟨by kernel_rfl, fun x_ hu => by kernel_rfl⟩) hS ?_
      simp only [nrm]
      refine any_take (i := 3) (v := (.pointer (some ⟨g, 0, none⟩))) #[true, true, true, false, false, false, false, false, false, false, false, false, false] rfl (by kernel_rfl) (by kernel_rfl) (by kernel_rfl) (by kernel_rfl) (fun _ _ _ h => h) (.inl ⟨by kernel_rfl, fun x_ hu => by kernel_rfl⟩) hS ?_
      simp only [nrm]
      refine any_take (i := 5) (v := (.slice (some ⟨p, o, none⟩) m c)) #[true, true, true, true, false, false, false, false, false, false, false, false, false] rfl (by kernel_rfl) (by kernel_rfl) (by kernel_rfl) (by kernel_rfl) (fun _ _ _ h => h) (.inl ⟨by kernel_rfl, fun x_ hu => by kernel_rfl⟩) hS ?_
      simp only [nrm]
      refine any_take (i := 6) (v := (.slice (some ⟨p, o, none⟩) 64 c)) #[true, true, true, true, false, true, false, false, false, false, false, false, false] rfl (by kernel_rfl) (by kernel_rfl) (by kernel_rfl) (by kernel_rfl) (fun _ _ _ h => h) (.inl ⟨by kernel_rfl, fun x_ hu => by go_simp⟩) hS ?_
      simp only [nrm]
      refine any_take (i := 8) (v := (.agg (uc KL))) #[true, true, true, true, false, true, true, false, false, false, false, false, false] rfl (by kernel_rfl) (by kernel_rfl) (by kernel_rfl) (by kernel_rfl) (fun _ _ _ h => h) (.inl ⟨by kernel_rfl, fun x_ hu => exec_arr x_ 70 (.tmp 5) rfl gk (by kernel_rfl) (uc KL) 70 _ hu Tryd.underlying70 rfl (by rw [Tryd.infoW, uc_size, KL_len])⟩) hS ?_
      simp only [nrm]
      refine any_pair (i := 4) (j := 7) (v := .agg (uc S)) (f := 88) (args := #[.slice (some ⟨p, o, none⟩) 64 c]) (fun v => TI g gk s l n B w j (some ⟨p, o, none⟩) v) (fun r _ => r = .agg (uc (wds ((B.drop (64 * j)).take 64)))) (by kernel_rfl) (by kernel_rfl) (by kernel_rfl) rfl rfl (by kernel_rfl) (by kernel_rfl) (by kernel_rfl) (fun r => by kernel_rfl) (fun x hx => exec_row x 73 (.tmp 17) rfl g 0 (by kernel_rfl) (S.map (Value.int .u32)) _ (hx.rng hSe) Tryd.underlying73 rfl (by rw [Tryd.infoS, List.length_map, hSl])) (fun r x hx => exec_row x 73 (.tmp 17) rfl g 0 (by kernel_rfl) (S.map (Value.int .u32)) _ (hx.rng hSe) Tryd.underlying73 rfl (by rw [Tryd.infoS, List.length_map, hSl])) (fun x => by kernel_rfl) (fun x => by kernel_rfl) (fun x hx => (words_ok ((B.drop (64 * j)).take 64) (unhide hb5) (unhide hl5) p o c x hx.at_).mono (fun e x2 h => ⟨_, h.1, hx.gr h.2, rfl⟩)) (fun x hx => hx.ks) hT (fun r => by kernel_rfl) (by kernel_rfl) ?_
      rintro r x2 hT2 rfl
      clear hT
      have hT := hT2
      clear hT2
      have hS := hT.ks
      simp only [nrm]
      refine any_one (i := 9) (by kernel_rfl) rfl (fun K hK => ?_)
      refine step_callw (by kernel_rfl) 87 #[.agg (uc S), .agg (uc (wds ((B.drop (64 * j)).take 64))), .agg (uc KL)] (by kernel_rfl) ((steps_ok S (wds ((B.drop (64 * j)).take 64)) KL hSl (wds_len _) KL_len _).mono ?_)
      rintro r x9 ⟨rfl, hgr⟩
      refine ⟨_, rfl, ?_⟩
      replace hT := hT.gr hgr
      clear hgr hS
      have hS := hT.ks
      refine hK.out _ _ hS (fun _ => ?_)
      clear hK K
      simp only [nrm]
      refine any_take (i := 10) (v := (.pointer (some ⟨g, 0, none⟩))) #[true, true, true, true, true, true, true, true, true, true, false, false, false] rfl (by kernel_rfl) (by kernel_rfl) (by kernel_rfl) (by kernel_rfl) (fun _ _ _ h => h) (.inl ⟨by kernel_rfl, fun x_ hu => by kernel_rfl⟩) hS ?_
      simp only [nrm]
      refine any_take (i := 11) (v := (.pointer (some ⟨g, 0, none⟩))) #[true, true, true, true, true, true, true, true, true, true, true, false, false] rfl (by kernel_rfl) (by kernel_rfl) (by kernel_rfl) (by kernel_rfl) (fun _ _ _ h => h) (.inl ⟨by kernel_rfl, fun x_ hu => by kernel_rfl⟩) hS ?_
      simp only [nrm]
      refine any_one (i := 12) (by kernel_rfl) rfl (fun K hK => ?_)
      have hre := unhide hSe
      refine list_store_mid 73 (.tmp 25) (.tmp 23) g 0 (uc (stp S (wds ((B.drop (64 * j)).take 64)) KL)) (by kernel_rfl) rfl (by kernel_rfl) (by kernel_rfl) (by rw [uc_size, stp_len]; exact there_of hT.hash (by unfold hcl; simp only [List.length_append, List.length_map]; rw [← hre, hSl]; omega)) (by rw [Tryd.infoS, uc_size, stp_len]) (uc_one _) ?_
      have hT3 := hT.step hs hre
      clear hT
      refine hK.out _ _ hT3.1 (fun _ => ?_)
      refine any_done (by kernel_rfl) ?_
      clear hK K hS
      simp only [nrm]
      generalize World.setCells _ _ _ _ = x4 at *
      go_wp2_with fail
      have hT4 : TI g gk s l n B w (j + 1) (if c = 64 then some ⟨p, o, none⟩ else some ⟨p, o + 64, none⟩) x4 := by
        split
        · refine ⟨hT3.2.hash, hT3.2.ks, hT3.2.bt, .inl ?_, hT3.2.ne⟩
          refine List.eq_nil_of_length_eq_zero ?_
          rw [List.length_drop, ← unhide hN]
          omega
        · exact hT3.2
      refine ⟨⟨j + 1, _, c - 64, by congr 1, by omega, by omega, by omega, hide hT4⟩, ?_⟩
      show N - 64 * j - 64 < m
      omega
    · have mI : ¬ 64 ≤ (m : Int) := by omega
      have e0 : j = N / 64 := by omega
      have e1 : m = N % 64 := by omega
      have hT5 : Hid (SlO g wr a' (B.drop (64 * (N / 64))) ∧ wr.heap[g]? = some (.cells (hc (hbk (N / 64) s B) l n) 99 (0, 0)) ∧ Bt g w wr) := by
        rw [← e0]
        exact ⟨hT.sl, hT.hash, hT.bt⟩
      clear hT
      replace hNl := hide hNl
      go_wp2_with fail
      show T (.returned (.slice a' (N - 64 * (N / 64)) c)) wr
      rw [unhide hT0]
      unfold Took
      rw [← unhide hN]
      exact ⟨a', c, by rw [show N - 64 * (N / 64) = N % 64 by omega], by omega, hc2, (unhide hT5).1, (unhide hT5).2.1, (unhide hT5).2.2⟩
def be8 (X : Nat) : Nat → List Int
  | 0 => []
  | r + 1 => be8 X r ++ [((X / 2 ^ (56 - 8 * r) % 256 : Nat) : Int)]
theorem be8_len (X : Nat) : ∀ r, (be8 X r).length = r
  | 0 => rfl
  | r + 1 => by rw [be8, List.length_append, be8_len X r]; rfl
def nz (n : Nat) : Nat := (119 - n % 64) % 64
def padH (n : Nat) : List Int := 128 :: List.replicate (nz n) 0
def padL (n : Nat) : List Int := padH n ++ be8 (n * 8) 8
theorem padH_len (n : Nat) : (padH n).length = nz n + 1 := by unfold padH; simp
theorem padL_len (n : Nat) : (padL n).length = nz n + 9 := by unfold padL; rw [List.length_append, padH_len, be8_len]
theorem padL_whole (n : Nat) : (n + (padL n).length) % 64 = 0 := by rw [padL_len]; unfold nz; omega
theorem be8_isB (X : Nat) : ∀ r, IsB (be8 X r)
  | 0 => by intro x hx; cases hx
  | r + 1 => by
    intro x hx
    rw [be8] at hx
    rcases List.mem_append.1 hx with h | h
    · exact be8_isB X r x h
    · have : x = ((X / 2 ^ (56 - 8 * r) % 256 : Nat) : Int) := by simpa using h
      omega
theorem padL_isB (n : Nat) : IsB (padL n) := by
  intro x hx
  rcases List.mem_append.1 hx with h | h
  · rcases List.mem_cons.1 h with h | h
    · omega
    · have := List.eq_of_mem_replicate h
      omega
  · exact be8_isB _ _ x h
theorem Tryd.info5 : (Tryd.prog.info? 5).map (fun i => (i.zero, i.size, i.bytes)) = some (some (.int .u8 0), 1, 1) := by kernel_rfl
theorem wpList_make_room (w : World) {ops : Array Oper} {rest : List Oper} {o : Oper} {a : Act} {Q : Exit → Act → World → Prop}
    (hg : o.guard = none) (l c : Operand) (hop : o.op = Op.makeSlice 33 l c) (L C : Int) (n m : Nat) (hl : a.eval l = .int .i64 L) (hc : a.eval c = .int .i64 C) (hL : L = (n : Int)) (hC : C = (m : Int)) (hnm : n ≤ m) (hn : m ≤ 281474976710656)
    (hK : wpList Tryd.prog ops Q rest (a.put o.dst (.slice (some ⟨w.heap.size, 0, none⟩) n m)) (w.alloc (.cells (kc (List.replicate m 0)) 5 (0, 0)))) :
    wpList Tryd.prog ops Q (o :: rest) a w := by
  obtain ⟨i, h2, h3, h4, h5⟩ := info_parts Tryd.info5
  subst hL hC
  refine wpList_plain hg fun K hK' => ?_
  have hrun := run_make (P := Tryd.prog) w 33 5 i (.int .u8 0) Tryd.underlying33 h2 h3 .i64 .i64 (n : Int) (m : Int) (by omega) (by omega) (by rw [h5]; omega) (by omega)
  rw [h4] at hrun
  have e : madeCells (Value.int .u8 0).cells m = kc (List.replicate m 0) := by
    apply Array.ext
    · simp [size_madeCells, kc]
    · intro i h1 h2
      have : i % 1 = 0 := Nat.mod_one i
      simp [madeCells, Value.cells, this, kc]
  simp only [Int.toNat_natCast, Nat.mul_one, e] at hrun
  unfold Oper.wp
  simp [execOp, hop, hl, hc, hrun, Result.andThen]
  exact hK' _ _ hK
theorem own_gr {B m : Nat} {v : Value} {xs : List Value} {w u : World} (h : w.ownsRow B 5 1 v m xs) (k : Gr w u) : u.ownsRow B 5 1 v m xs := by
  obtain ⟨h1, h2 | ⟨g, cap, cur, h2, h3, h4, h5⟩⟩ := h
  · exact ⟨h1, .inl h2⟩
  · exact ⟨h1, .inr ⟨g, cap, cur, h2, h3, k.blk h4, h5⟩⟩
theorem grown_gr {w u v : World} {g : Nat} (h : Gr w u) (k : u.grownBy v (some g)) (hg : w.heap.size ≤ g) : Gr w v :=
  ⟨k.os.trans h.os, k.tape.trans h.tape, k.output.trans h.output, Nat.le_trans h.size k.size, fun i hi => (k.block i (Nat.lt_of_lt_of_le hi h.size) (by simp; omega)).trans (h.block i hi)⟩
def Padded (n : Nat) (w : World) (r : Ending) (w' : World) : Prop := ∃ g, r = .returned (.slice (some ⟨g, 0, none⟩) (nz n + 9) (nz n + 9)) ∧ w.heap.size ≤ g ∧ w'.heap[g]? = some (.cells (kc (padL n)) 5 (0, 0)) ∧ Gr w w'
set_option maxHeartbeats 2000000 in
theorem pad_ok (n : Nat) (hn : n < 1152921504606846976) (w : World) : Calls Tryd.prog 68 #[.int .i64 n] w (Padded n w) := by
  obtain ⟨T, hT⟩ : ∃ T, T = Padded n w := ⟨_, rfl⟩
  rw [← hT]
  replace hT := hide hT
  obtain ⟨z, hz⟩ : ∃ z, z = nz n := ⟨_, rfl⟩
  obtain ⟨q, hq⟩ : ∃ q, q = n % 64 := ⟨_, rfl⟩
  have hz2 : z = (119 - q) % 64 := by rw [hz, hq]; rfl
  have e0 : ¬ (n : Int) < 0 := by omega
  have e1 : Int.tmod (n : Int) 64 = (q : Int) := by rw [Int.tmod_eq_emod_of_nonneg (by omega)]; omega
  have e2 : IntKind.i64.wrap (119 - (q : Int)) = 119 - (q : Int) := by rw [IntKind.wrap_i64]; omega
  have e3 : Int.tmod (119 - (q : Int)) 64 = (z : Int) := by rw [Int.tmod_eq_emod_of_nonneg (by omega)]; omega
  have e4 : IntKind.i64.wrap (q : Int) = (q : Int) := by rw [IntKind.wrap_i64]; omega
  have e5 : IntKind.i64.wrap (z : Int) = (z : Int) := by rw [IntKind.wrap_i64]; omega
  have hz3 : z < 64 := by omega
  have e6 : IntKind.i64.wrap (1 + (z : Int)) = 1 + (z : Int) := by rw [IntKind.wrap_i64]; omega
  have e7 : IntKind.i64.wrap (1 + (z : Int) + 8) = 1 + (z : Int) + 8 := by rw [IntKind.wrap_i64]; omega
  replace hz := hide hz
  replace hq := hide hq
  replace hz2 := hide hz2
  go_enter Tryd.func68, Tryd.ntmps68
  go_wp2_with (at_make; refine wpList_make_room _ rfl (.tmp 14) (.tmp 17) rfl _ _ (z + 1) (z + 9) rfl rfl (by omega) (by omega) (by omega) (by omega) ?_)
  obtain ⟨i, h2, h3, h4, h5⟩ := info_parts Tryd.info5
  have hR : Hid ((w.alloc (.cells ((kc (List.replicate (z + 9) 0)).setIfInBounds 0 (.int .u8 128)) 5)).ownsRow w.heap.size 5 1 (.slice (some ⟨w.heap.size, 0, none⟩) (z + 1) (z + 9)) (z + 1) ((padH n ++ be8 (n * 8) 0).map (Value.int .u8))) := by
    rw [kc_set]
    refine ⟨?_, .inr ⟨w.heap.size, z + 9, _, rfl, Nat.le_refl _, blk_new _ _, by omega, by unfold maxLen; omega, ?_, ?_⟩⟩
    · rw [List.length_map, List.length_append, padH_len, be8_len, ← unhide hz]
      omega
    · rw [kc_size, List.length_set, List.length_replicate, Nat.mul_one]
    · unfold kc padH be8
      rw [← unhide hz, List.append_nil]
      show (List.map _ _).take _ = _
      rw [← List.map_take, show z + 9 = (z + 8) + 1 by omega, List.replicate_succ, List.set_cons_zero, Nat.mul_one, List.take_succ_cons, List.take_replicate, Nat.min_eq_left (by omega)]
  have hG : Hid (Gr w (w.alloc (.cells ((kc (List.replicate (z + 9) 0)).setIfInBounds 0 (.int .u8 128)) 5))) := (Gr.refl w).alloc _
  generalize World.alloc _ _ = u at *
  go_loopw [6, 4] (fun s p wr => ∃ r : Nat, r ≤ 8 ∧ s = .int .i64 (56 - 8 * (r : Int)) ∧ p = .slice (some ⟨w.heap.size, 0, none⟩) (z + 1 + r) (z + 9) ∧ Hid (wr.ownsRow w.heap.size 5 1 (.slice (some ⟨w.heap.size, 0, none⟩) (z + 1 + r) (z + 9)) (z + 1 + r) ((padH n ++ be8 (n * 8) r).map (Value.int .u8))) ∧ Hid (Gr w wr)) (fun s _ _ => (intOf s + 8).toNat)
  case atStart => exact ⟨0, by omega, rfl, rfl, hR, hG⟩
  case round =>
  clear hR hG
  obtain ⟨r, hr, rfl, rfl, hR, hG⟩ := hrel
  by_cases hil : r < 8
  · obtain ⟨sh, hsh⟩ : ∃ sh, sh = 56 - 8 * r := ⟨_, rfl⟩
    have g0 : 56 - 8 * (r : Int) = (sh : Int) := by omega
    rw [g0]
    have g1 : 0 ≤ (sh : Int) := by omega
    have g2 : (sh : Int) ≤ 64 := by omega
    have g3 : (sh : Int) < 64 := by omega
    obtain ⟨y, hy⟩ : ∃ y : Int, y = ((n * 8 / 2 ^ (56 - 8 * r) % 256 : Nat) : Int) := ⟨_, rfl⟩
    have g4 : IntKind.u8.wrap ((n : Int) * 8 / 2 ^ sh) = y := by
      rw [IntKind.wrap_u8', hy, hsh]
      have : (2 : Int) ^ (56 - 8 * r) = ((2 ^ (56 - 8 * r) : Nat) : Int) := by simp
      rw [this, show (n : Int) * 8 = ((n * 8 : Nat) : Int) by omega]
      rfl
    have g5 : IntKind.i64.wrap ((sh : Int) - 8) = (sh : Int) - 8 := by rw [IntKind.wrap_i64]; omega
    have hnx : Hid ((padH n ++ be8 (n * 8) r).map (Value.int .u8) ++ [.int .u8 y] = (padH n ++ be8 (n * 8) (r + 1)).map (Value.int .u8)) := by
      rw [be8, ← List.append_assoc, List.map_append (l₁ := padH n ++ be8 (n * 8) r), hy]
      rfl
    have hsz : Hid (w.heap.size ≤ wr.heap.size) := (unhide hG).size
    replace hsh := hide hsh
    replace hy := hide hy
    go_wp2_with (at_builtin; refine wpList_append_fits _ rfl (.tmp 28) (.tmp 33) 33 rfl w.heap.size 5 i 1 Tryd.underlying33 h2 h4 w.heap.size (z + 1 + r) (z + 9) _ rfl (own_gr (unhide hR) ((Gr.refl wr).alloc _)) ⟨wr.heap.size, 0, none⟩ 1 1 [.int .u8 y] rfl rfl (by intro j u hj; have hj0 : j = 0 := (by have := (List.getElem?_eq_some_iff.1 hj).1; simp at this; exact this); subst hj0; simp only [List.getElem?_cons_zero, Option.some.injEq] at hj; subst hj; exact cell_of (blk_new _ _) rfl) (by intro u hu; simp at hu; subst hu; rfl) (by omega) ?_; intro w2 hR2 hG2)
    have hs1 := unhide hsh
    refine ⟨⟨r + 1, by omega, by congr 1; omega, rfl, ?_, ?_⟩, ?_⟩
    · rw [unhide hnx] at hR2
      exact hR2
    · exact grown_gr ((unhide hG).alloc _) hG2 (Nat.le_refl _)
    · show ((sh : Int) - 8 + 8).toNat < ((sh : Int) + 8).toNat
      omega
  · have e : r = 8 := by omega
    subst e
    have hP : Hid (Padded n w (.returned (.slice (some ⟨w.heap.size, 0, none⟩) (z + 1 + 8) (z + 9))) wr) := by
      obtain ⟨h6, ⟨h7, h8⟩ | ⟨g, cap, cur, h7, h8, h9, h10, h11, h12, h13⟩⟩ := unhide hR
      · cases h7
      · simp only [Value.slice.injEq, Option.some.injEq, Addr.mk.injEq] at h7
        obtain ⟨⟨hg0, _⟩, _, hcap⟩ := h7
        refine ⟨w.heap.size, by rw [← unhide hz], Nat.le_refl _, ?_, unhide hG⟩
        rw [hg0, h9]
        have hcur : cur = kc (padL n) := by
          have h14 : cur.toList.take ((z + 1 + 8) * 1) = cur.toList := List.take_of_length_le (by rw [Array.length_toList, h12]; omega)
          rw [h14] at h13
          unfold kc padL
          rw [← h13]
        rw [hcur]
    clear hil hR hG
    go_wp2_with fail
    rw [unhide hT]
    exact unhide hP
theorem blk_left {B : List Int} (C : List Int) (k : Nat) (h : 64 * (k + 1) ≤ B.length) : ((B ++ C).drop (64 * k)).take 64 = (B.drop (64 * k)).take 64 := by
  rw [List.drop_append_of_le_length (by omega), List.take_append_of_le_length (by rw [List.length_drop]; omega)]
theorem bk_left {B : List Int} (s C : List Int) : ∀ n, 64 * n ≤ B.length → hbk n s (B ++ C) = hbk n s B
  | 0, _ => rfl
  | n + 1, h => by rw [hbk, hbk, bk_left s C n (by omega), blk_left C n h]
theorem bk_append {B : List Int} (s C : List Int) (n : Nat) (hB : B.length = 64 * n) : ∀ m, hbk (n + m) s (B ++ C) = hbk m (hbk n s B) C
  | 0 => bk_left s C n (by omega)
  | m + 1 => by
    have e : n + (m + 1) = (n + m) + 1 := by omega
    rw [e, hbk, hbk, bk_append s C n hB m, Nat.mul_add, ← List.drop_drop, ← hB, List.drop_left]
def F0 : List Int := [1779033703, 3144134277, 1013904242, 2773480762, 1359893119, 2600822924, 528734635, 1541459225]
def H (g : Nat) (B : List Int) (v : World) : Prop := ∃ l, l.length = 64 ∧ IsB l ∧ v.heap[g]? = some (.cells (hc (hbk (B.length / 64) F0 B) l B.length) 99 (0, 0)) ∧ l.take (B.length % 64) = B.drop (64 * (B.length / 64))
theorem H.gr {g : Nat} {B : List Int} {w v : World} (h : H g B w) (k : Gr w v) : H g B v := by
  obtain ⟨l, h1, h2, h3, h4⟩ := h
  exact ⟨l, h1, h2, k.blk h3, h4⟩
theorem H.bt {g p : Nat} {B : List Int} {w v : World} (h : H g B w) (k : Bt p w v) (hn : g ≠ p) : H g B v := by
  obtain ⟨l, h1, h2, h3, h4⟩ := h
  exact ⟨l, h1, h2, k.blk h3 hn, h4⟩
theorem H.whole {g : Nat} {B C : List Int} {v : World} {l : List Int} (hB : B.length % 64 = 0) (h1 : l.length = 64) (h2 : IsB l)
    (h3 : v.heap[g]? = some (.cells (hc (hbk (C.length / 64) (hbk (B.length / 64) F0 B) C) l ((B.length : Int) + C.length)) 99 (0, 0))) (h4 : l.take (C.length % 64) = C.drop (64 * (C.length / 64))) : H g (B ++ C) v := by
  have e1 : (B ++ C).length / 64 = B.length / 64 + C.length / 64 := by rw [List.length_append]; omega
  have e2 : (B ++ C).length % 64 = C.length % 64 := by rw [List.length_append]; omega
  have e3 : ((B ++ C).length : Int) = (B.length : Int) + C.length := by rw [List.length_append]; omega
  refine ⟨l, h1, h2, ?_, ?_⟩
  · rw [e1, bk_append F0 C (B.length / 64) (by omega), e3]
    exact h3
  · rw [e2, h4, e1, Nat.mul_add, ← List.drop_drop, show 64 * (B.length / 64) = B.length by omega, List.drop_left]
theorem hcl_len (s l : List Int) (n : Int) (hs : s.length = 8) (hl : l.length = 64) : (hcl s l n).length = 73 := by unfold hcl; simp [hs, hl]
theorem hcl_count (s l : List Int) (n m : Int) (hs : s.length = 8) (hl : l.length = 64) : (hcl s l n).set 72 (.int .i64 m) = hcl s l m := by
  unfold hcl
  rw [List.set_append_right _ _ (by simp [hs]), List.set_append_right _ _ (by simp [hs, hl])]
  simp [hs, hl]
theorem hcl_copy (s l B : List Int) (n : Int) (k : Nat) (hs : s.length = 8) (hk : k + B.length ≤ l.length) : sp (hcl s l n) (8 + k) (B.map (Value.int .u8)) = hcl s (l.take k ++ (B ++ l.drop (k + B.length))) n := by
  have e : hcl s l n = (s.map (Value.int .u32) ++ (l.take k).map (Value.int .u8)) ++ (((l.drop k).take B.length).map (Value.int .u8) ++ ((l.drop (k + B.length)).map (Value.int .u8) ++ [.int .i64 n])) := by
    unfold hcl
    rw [List.append_assoc]
    congr 1
    rw [← List.append_assoc, ← List.append_assoc, ← List.map_append, ← List.map_append]
    congr 2
    rw [List.append_assoc]
    have : (l.drop k).take B.length ++ l.drop (k + B.length) = l.drop k := by rw [← List.drop_drop, List.take_append_drop]
    rw [this, List.take_append_drop]
  have hlen : (s.map (Value.int .u32) ++ (l.take k).map (Value.int .u8)).length = 8 + k := by simp [hs]; omega
  have h := sp_mid (B.map (Value.int .u8)) (s.map (Value.int .u32) ++ (l.take k).map (Value.int .u8)) (((l.drop k).take B.length).map (Value.int .u8)) ((l.drop (k + B.length)).map (Value.int .u8) ++ [.int .i64 n]) (by simp; omega)
  rw [hlen, ← e] at h
  rw [h]
  unfold hcl
  simp [List.append_assoc]
def SlX (g : Nat) (w : World) (a : Option Addr) (B : List Int) : Prop := B = [] ∨ ∃ p o, a = some ⟨p, o, none⟩ ∧ At w p o B ∧ p ≠ g
theorem SlX.gr {g : Nat} {w v : World} {a : Option Addr} {B : List Int} (h : SlX g w a B) (k : Gr w v) : SlX g v a B := by
  rcases h with h | ⟨p, o, h1, h2, h3⟩
  · exact .inl h
  · exact .inr ⟨p, o, h1, h2.gr k, h3⟩
theorem SlX.bt {g : Nat} {w v : World} {a : Option Addr} {B : List Int} (h : SlX g w a B) (k : Bt g w v) : SlX g v a B := by
  rcases h with h | ⟨p, o, h1, h2, h3⟩
  · exact .inl h
  · exact .inr ⟨p, o, h1, h2.bt k h3, h3⟩
theorem SlX.out {g : Nat} {w : World} {a : Option Addr} {B : List Int} (h : SlX g w a B) : SlO g w a B := by
  rcases h with h | ⟨p, o, h1, h2, h3⟩
  · exact .inl h
  · exact .inr ⟨p, o, h1, h2, .inl h3⟩
theorem At.take {w : World} {p o : Nat} {B : List Int} (h : At w p o B) (k : Nat) : At w p o (B.take k) := by
  intro j hj
  rw [List.length_take] at hj
  rw [h j (by omega)]
  have hk2 : j < k := by omega
  simp [List.getElem?_take, hk2]
theorem At.drop {w : World} {p o : Nat} {B : List Int} (h : At w p o B) (k : Nat) : At w p (o + k) (B.drop k) := by
  intro j hj
  rw [List.length_drop] at hj
  rw [Nat.add_assoc, h (k + j) (by omega)]
  simp
theorem isB_take {B : List Int} (h : IsB B) (k : Nat) : IsB (B.take k) := fun x hx => h x (List.mem_of_mem_take hx)
theorem isB_drop {B : List Int} (h : IsB B) (k : Nat) : IsB (B.drop k) := fun x hx => h x (List.mem_of_mem_drop hx)
theorem isB_append {B C : List Int} (h : IsB B) (k : IsB C) : IsB (B ++ C) := fun x hx => (List.mem_append.1 hx).elim (h x) (k x)
theorem Tryd.size5 : (Tryd.prog.info? 5).map (·.size) = some 1 := by kernel_rfl
theorem copy_wp {o : Oper} {a : Act} {w : World} {K : Act → World → Prop} {Q : Exit → Act → World → Prop} (d s : Operand) (ho : o.op = .call { callee := .builtin .copy, args := #[d, s], argTypes := #[33, 33] })
    (g off dLen dCap : Nat) (sp : Option Addr) (sLen sCap : Nat) (hd : a.eval d = .slice (some ⟨g, off, none⟩) dLen dCap) (hs : a.eval s = .slice sp sLen sCap)
    (C : List Value) (t : TypeId) (hg : w.heap[g]? = some (.cells C.toArray t (0, 0))) (B : List Int) (hn : B.length = Nat.min sLen dLen) (hsrc : B = [] ∨ ∃ p q, sp = some ⟨p, q, none⟩ ∧ At w p q B) (hfit : off + B.length ≤ C.length)
    (h : K (a.put o.dst (.int .i64 B.length)) (w.setCells g off (B.map (Value.int .u8)))) : o.wp Tryd.prog a w K Q := by
  rcases hsrc with rfl | ⟨p, q, rfl, hat⟩
  · have hrun := run_copy_none (P := Tryd.prog) w 33 33 o.type 5 (some ⟨g, off, none⟩) sp dLen dCap sLen sCap Tryd.underlying33 Tryd.size5 hn.symm
    unfold Oper.wp
    simp [execOp, ho, resolve, invoke, builtin, hd, hs, hrun, Result.andThen]
    exact h
  · have hth := there_of (n := B.length) hg hfit
    have hrun := run_copy_cells (P := Tryd.prog) w 33 33 o.type 5 g off dLen dCap ⟨p, q, none⟩ sLen sCap (B.map (Value.int .u8)) Tryd.underlying33 Tryd.size5 (by simpa using hn) (by
      intro j v hj
      have hj2 : j < B.length := by have := (List.getElem?_eq_some_iff.1 hj).1; simpa using this
      rw [Addr.add_mid, hat j hj2]
      simp [hj2] at hj ⊢
      exact hj) (fun j hj => (hth j (by simpa using hj)).1) (fun j hj => (hth j (by simpa using hj)).2) (by intro v hv; obtain ⟨x, _, rfl⟩ := List.mem_map.1 hv; rfl)
    unfold Oper.wp
    simp [execOp, ho, resolve, invoke, builtin, hd, hs, hrun, Result.andThen]
    exact h
def Wrote (g : Nat) (B : List Int) (w : World) (r : Ending) (w' : World) : Prop := r = .returned (.int .i64 0) ∧ H g B w' ∧ Bt g w w'
theorem cnt_cell {w : World} {g : Nat} {s l : List Int} {n : Int} {t : TypeId} (h : w.heap[g]? = some (.cells (hc s l n) t (0, 0))) (hs : s.length = 8) (hl : l.length = 64) : w.cell? ⟨g, 72, none⟩ = some (.int .i64 n) := by
  refine cell_of h ?_
  unfold hc hcl
  simp [List.getElem?_append, hs, hl]
theorem cnt_set {w : World} {g : Nat} {s l : List Int} {n m : Int} {t : TypeId} (h : w.heap[g]? = some (.cells (hc s l n) t (0, 0))) (hs : s.length = 8) (hl : l.length = 64) : (w.setCell ⟨g, 72, none⟩ (.int .i64 m)).heap[g]? = some (.cells (hc s l m) t (0, 0)) := by
  rw [heap_setCell_same w g 72 _ t _ h]
  unfold hc
  rw [List.setIfInBounds_toArray, hcl_count s l n m hs hl]
theorem isB_left {l B : List Int} (hl : IsB l) (hB : IsB B) (k : Nat) : IsB (l.take k ++ (B ++ l.drop (k + B.length))) := isB_append (isB_take hl _) (isB_append hB (isB_drop hl _))
theorem take_len_append (B l : List Int) : (B ++ l).take B.length = B := by simp
set_option maxHeartbeats 2000000 in
theorem write_whole (g : Nat) (B C : List Int) (hC : IsB C) (h64 : B.length % 64 = 0) (hbig : B.length + C.length < 1152921504606846976) (a : Option Addr) (cap : Nat) (hcap : C.length ≤ cap) (hcb : cap < 9223372036854775808) (w : World)
    (hB : H g B w) (hX : SlX g w a C) : Calls Tryd.prog 42 #[.pointer (some ⟨g, 0, none⟩), .slice a C.length cap] w (Wrote g (B ++ C) w) := by
  obtain ⟨T, hT⟩ : ∃ T, T = Wrote g (B ++ C) w := ⟨_, rfl⟩
  rw [← hT]
  obtain ⟨l, hl, hlB, hH, hlt⟩ := hB
  obtain ⟨S, hS⟩ : ∃ S, S = hbk (B.length / 64) F0 B := ⟨_, rfl⟩
  have hSl : S.length = 8 := by rw [hS]; exact hbk_len _ _ rfl _
  rw [← hS] at hH
  have cc := cnt_cell hH hSl hl
  have cf := froz_of (i := 72) hH
  have hH2 := cnt_set (m := (B.length : Int) + C.length) hH hSl hl
  have hBt := (Bt.trans (Bt.refl g w) (setCells_bt [.int .i64 ((B.length : Int) + C.length)] w g 72))
  replace hX := hX.bt hBt
  replace hBt : Hid (Bt g w (w.setCell ⟨g, 72, none⟩ (.int .i64 ((B.length : Int) + C.length)))) := hBt
  replace hX : Hid (SlX g (w.setCell ⟨g, 72, none⟩ (.int .i64 ((B.length : Int) + C.length))) a C) := hX
  have e1 : Int.tmod (B.length : Int) 64 = 0 := by rw [Int.tmod_eq_emod_of_nonneg (by omega)]; omega
  have e2 : IntKind.i64.wrap ((B.length : Int) + C.length) = (B.length : Int) + C.length := by rw [IntKind.wrap_i64]; omega
  have hbD := hC
  have hcD1 := hcap
  have hcD2 := hcb
  replace hH2 := hide hH2
  replace hT := hide hT
  replace hS := hide hS
  replace hlt := hide hlt
  clear hH
  generalize hm : C.length = m at *
  generalize hn : B.length = n at *
  go_enter Tryd.func42, Tryd.ntmps42
  go_upto_region 11 with fail
  replace hBt := unhide hBt
  replace hX := unhide hX
  have hH := unhide hH2
  clear hH2
  generalize World.setCell _ _ _ = x3 at *
  subst hm hn
  refine any_start (S := fun _ => True) (by kernel_rfl) ?_
  replace hBt := hBt.trans ((Gr.refl _).drew.bt g)
  replace hH := (Gr.refl _).drew.blk hH
  replace hX := hX.gr (Gr.refl _).drew
  generalize World.drew _ = x0 at *
  simp only [List.size_toArray, List.length_cons, List.length_nil, Array.replicate, List.replicate]
  refine any_take (i := 0) (v := (.pointer (some ⟨g, 0, none⟩))) #[false, false, false, false, false, false, false, false] rfl (by kernel_rfl) (by kernel_rfl) (by kernel_rfl) (by kernel_rfl) (fun _ _ _ h => h) (.inl ⟨by kernel_rfl, fun x_ hu => by kernel_rfl⟩) trivial ?_
  simp only [nrm]
  refine any_take (i := 1) (v := (.pointer (some ⟨g, 0, none⟩))) #[true, false, false, false, false, false, false, false] rfl (by kernel_rfl) (by kernel_rfl) (by kernel_rfl) (by kernel_rfl) (fun _ _ _ h => h) (.inl ⟨by kernel_rfl, fun x_ hu => by kernel_rfl⟩) trivial ?_
  simp only [nrm]
  refine any_take (i := 2) (v := (.pointer (some ⟨g, 8, none⟩))) #[true, true, false, false, false, false, false, false] rfl (by kernel_rfl) (by kernel_rfl) (by kernel_rfl) (by kernel_rfl) (fun _ _ _ h => h) (.inl ⟨by kernel_rfl, fun x_ hu => by kernel_rfl⟩) trivial ?_
  simp only [nrm]
  refine any_take (i := 3) (v := (.slice (some ⟨g, 8, none⟩) 64 64)) #[true, true, true, false, false, false, false, false] rfl (by kernel_rfl) (by kernel_rfl) (by kernel_rfl) (by kernel_rfl) (fun _ _ _ h => h) (.inl ⟨by kernel_rfl, fun x_ hu => by go_simp⟩) trivial ?_
  simp only [nrm]
  refine any_take (i := 4) (v := (.pointer (some ⟨g, 0, none⟩))) #[true, true, true, true, false, false, false, false] rfl (by kernel_rfl) (by kernel_rfl) (by kernel_rfl) (by kernel_rfl) (fun _ _ _ h => h) (.inl ⟨by kernel_rfl, fun x_ hu => by kernel_rfl⟩) trivial ?_
  simp only [nrm]
  refine any_take (i := 5) (v := (.slice a C.length cap)) #[true, true, true, true, true, false, false, false] rfl (by kernel_rfl) (by kernel_rfl) (by kernel_rfl) (by kernel_rfl) (fun _ _ _ h => h) (.inl ⟨by kernel_rfl, fun x_ hu => by kernel_rfl⟩) trivial ?_
  simp only [nrm]
  refine any_one (i := 6) (by kernel_rfl) rfl (fun K hK => ?_)
  refine step_callw (by kernel_rfl) 67 #[.pointer (some ⟨g, 0, none⟩), .slice a C.length cap] (by kernel_rfl) ((take_ok S l ((B.length : Int) + C.length) hSl g C hbD a cap hcD1 hcD2 _ hH hX.out).mono ?_)
  rintro r x1 ⟨a2, c2, rfl, hc3, hc4, hsl, hH2, hBt2⟩
  refine ⟨_, rfl, ?_⟩
  replace hBt := hBt.trans hBt2
  refine hK.out _ _ trivial (fun _ => ?_)
  clear hK K hBt2 hH hX
  simp only [nrm]
  refine any_one (i := 7) (by kernel_rfl) rfl (fun K hK => ?_)
  rw [if_pos (by kernel_rfl)]
  have hdl : (C.drop (64 * (C.length / 64))).length = C.length % 64 := by rw [List.length_drop]; omega
  refine copy_wp (.tmp 48) (.tmp 51) rfl g 8 64 64 a2 (C.length % 64) c2 (by kernel_rfl) (by kernel_rfl) (hcl (hbk (C.length / 64) S C) l ((B.length : Int) + C.length)) 99 hH2 (C.drop (64 * (C.length / 64))) (by rw [hdl]; exact (Nat.min_eq_left (by omega)).symm) (by rcases hsl with h | ⟨p, o, h1, h2, _⟩; exact .inl h; exact .inr ⟨p, o, h1, h2⟩) (by rw [hcl_len _ _ _ (hbk_len _ _ hSl _) hl, hdl]; omega) ?_
  have hH3 := setCells_heap ((C.drop (64 * (C.length / 64))).map (Value.int .u8)) x1 g 8 _ _ hH2
  have hcp := hcl_copy (hbk (C.length / 64) S C) l (C.drop (64 * (C.length / 64))) ((B.length : Int) + C.length) 0 (hbk_len _ _ hSl _) (by rw [hdl, hl]; omega)
  rw [Nat.add_zero] at hcp
  rw [hcp] at hH3
  simp only [List.take_zero, List.nil_append, Nat.zero_add] at hH3
  replace hBt := hBt.trans (setCells_bt ((C.drop (64 * (C.length / 64))).map (Value.int .u8)) x1 g 8)
  refine hK.out _ _ trivial (fun _ => ?_)
  refine any_done (by kernel_rfl) ?_
  clear hK K hH2 hsl hcp
  simp only [nrm]
  generalize World.setCells _ _ _ _ = x2 at *
  have hW : Hid (Wrote g (B ++ C) w (.returned (.int .i64 0)) x2) := by
    refine ⟨rfl, H.whole h64 ?_ ?_ (l := C.drop (64 * (C.length / 64)) ++ l.drop (C.drop (64 * (C.length / 64))).length) (by rw [← unhide hS]; exact hH3) (by rw [← hdl]; exact take_len_append _ _), hBt⟩
    · rw [List.length_append, List.length_drop (l := l), hdl, hl]
      omega
    · have := isB_left hlB (isB_drop hC (64 * (C.length / 64))) 0
      simpa using this
  clear hH3 hBt
  go_wp2_with fail
  rw [unhide hT]
  exact unhide hW
theorem left_at {w : World} {g : Nat} {s l : List Int} {n : Int} {t : TypeId} (h : w.heap[g]? = some (.cells (hc s l n) t (0, 0))) (hs : s.length = 8) : At w g 8 l := by
  intro j hj
  refine cell_of h ?_
  unfold hc hcl
  simp [List.getElem?_append, hs, hj]
theorem H.part {g : Nat} {B C l : List Int} {v : World} (hk : B.length % 64 + C.length < 64) (hl : l.length = 64) (hlB : IsB l) (hC : IsB C) (hlt : l.take (B.length % 64) = B.drop (64 * (B.length / 64)))
    (h : v.heap[g]? = some (.cells (hc (hbk (B.length / 64) F0 B) (l.take (B.length % 64) ++ (C ++ l.drop (B.length % 64 + C.length))) ((B.length : Int) + C.length)) 99 (0, 0))) : H g (B ++ C) v := by
  have e1 : (B ++ C).length / 64 = B.length / 64 := by rw [List.length_append]; omega
  have e2 : (B ++ C).length % 64 = B.length % 64 + C.length := by rw [List.length_append]; omega
  have e3 : ((B ++ C).length : Int) = (B.length : Int) + C.length := by rw [List.length_append]; omega
  refine ⟨_, ?_, isB_left hlB hC (B.length % 64), ?_, ?_⟩
  · simp only [List.length_append, List.length_take, List.length_drop, hl]
    omega
  · rw [e1, e3, bk_left F0 C (B.length / 64) (by omega)]
    exact h
  · have e4 : (l.take (B.length % 64) ++ C).length = B.length % 64 + C.length := by simp only [List.length_append, List.length_take, hl]; omega
    rw [e2, e1, ← e4, ← List.append_assoc, take_len_append, hlt, List.drop_append_of_le_length (by omega)]
theorem bk_fill {B C l : List Int} (hk : 0 < B.length % 64) (hC : C.length = 64 - B.length % 64) (hlt : l.take (B.length % 64) = B.drop (64 * (B.length / 64))) : hbk 1 (hbk (B.length / 64) F0 B) (l.take (B.length % 64) ++ C) = hbk ((B ++ C).length / 64) F0 (B ++ C) := by
  have e1 : (B ++ C).length / 64 = B.length / 64 + 1 := by rw [List.length_append]; omega
  rw [e1, hbk, hbk, hbk, bk_left F0 C (B.length / 64) (by omega), hlt, Nat.mul_zero, List.drop_zero, List.drop_append_of_le_length (by omega)]
theorem take_n (s l : List Int) (n : Int) (hs : s.length = 8) (g : Nat) (B : List Int) (hb : IsB B) (N : Nat) (hN : B.length = N) (a : Option Addr) (cap : Nat) (hcap : N ≤ cap) (hbig : cap < 9223372036854775808) (w : World)
    (hg : w.heap[g]? = some (.cells (hc s l n) 99 (0, 0))) (hA : SlO g w a B) : Calls Tryd.prog 67 #[.pointer (some ⟨g, 0, none⟩), .slice a N cap] w (Took g s l n B w) := by
  subst hN
  exact take_ok s l n hs g B hb a cap hcap hbig w hg hA
set_option maxHeartbeats 2000000 in
theorem write_some (g : Nat) (B C : List Int) (hC : IsB C) (h64 : 0 < B.length % 64) (hbig : B.length + C.length < 1152921504606846976) (a : Option Addr) (cap : Nat) (hcap : C.length ≤ cap) (hcb : cap < 9223372036854775808) (w : World)
    (hB : H g B w) (hX : SlX g w a C) : Calls Tryd.prog 42 #[.pointer (some ⟨g, 0, none⟩), .slice a C.length cap] w (Wrote g (B ++ C) w) := by
  obtain ⟨T, hT⟩ : ∃ T, T = Wrote g (B ++ C) w := ⟨_, rfl⟩
  rw [← hT]
  obtain ⟨l, hl, hlB, hH, hlt⟩ := hB
  obtain ⟨S, hS⟩ : ∃ S, S = hbk (B.length / 64) F0 B := ⟨_, rfl⟩
  have hSl : S.length = 8 := by rw [hS]; exact hbk_len _ _ rfl _
  rw [← hS] at hH
  have cc := cnt_cell hH hSl hl
  have cf := froz_of (i := 72) hH
  have hH2 := cnt_set (m := (B.length : Int) + C.length) hH hSl hl
  have hBt := (Bt.trans (Bt.refl g w) (setCells_bt [.int .i64 ((B.length : Int) + C.length)] w g 72))
  replace hX := hX.bt hBt
  replace hBt : Hid (Bt g w (w.setCell ⟨g, 72, none⟩ (.int .i64 ((B.length : Int) + C.length)))) := hBt
  replace hX : Hid (SlX g (w.setCell ⟨g, 72, none⟩ (.int .i64 ((B.length : Int) + C.length))) a C) := hX
  obtain ⟨k, hk⟩ : ∃ k, k = B.length % 64 := ⟨_, rfl⟩
  rw [← hk] at h64 hlt
  have e1 : Int.tmod (B.length : Int) 64 = (k : Int) := by rw [Int.tmod_eq_emod_of_nonneg (by omega)]; omega
  have e2 : IntKind.i64.wrap ((B.length : Int) + C.length) = (B.length : Int) + C.length := by rw [IntKind.wrap_i64]; omega
  have e3 : IntKind.i64.wrap (k : Int) = (k : Int) := by rw [IntKind.wrap_i64]; omega
  have k0 : 0 < (k : Int) := by omega
  have k1 : (k : Int) ≤ 64 := by omega
  have k2 : (k : Int) < 64 := by omega
  have k3 : ¬ 64 = k := by omega
  have k4 : k < 64 := by omega
  replace hH2 := hide hH2
  replace hT := hide hT
  replace hS := hide hS
  replace hlt := hide hlt
  replace hk := hide hk
  clear hH
  generalize hm : C.length = m at *
  generalize hn : B.length = n at *
  go_enter Tryd.func42, Tryd.ntmps42
  go_upto_region 6 with fail
  replace hBt := unhide hBt
  replace hX := unhide hX
  have hH := unhide hH2
  clear hH2
  generalize World.setCell _ _ _ = x3 at *
  refine wp_region_lit ?_
  iterate 6 (refine wpList_step fun K hK => ?_; replace hK := hide hK; go_simp; refine unhide hK _ _ ?_; clear hK K)
  obtain ⟨m2, hm2⟩ : ∃ m2, m2 = min m (64 - k) := ⟨_, rfl⟩
  obtain ⟨E, hE⟩ : ∃ E, E = C.take m2 := ⟨_, rfl⟩
  have hEl : E.length = m2 := by rw [hE, List.length_take]; omega
  have hEB : IsB E := by rw [hE]; exact isB_take hC _
  have hsrc : E = [] ∨ ∃ p q, a = some ⟨p, q, none⟩ ∧ At x3 p q E := by
    rcases hX with h | ⟨p, q, h1, h2, _⟩
    · left; rw [hE, h]; simp
    · right; exact ⟨p, q, h1, by rw [hE]; exact h2.take m2⟩
  refine wpList_plain rfl fun K hK => ?_
  refine copy_wp (.tmp 29) (.tmp 30) rfl g (8 + k) (64 - k) (64 - k) a m cap (by kernel_rfl) (by kernel_rfl) (hcl S l ((n : Int) + m)) 99 hH E (by rw [hEl]; exact hm2) hsrc (by rw [hcl_len _ _ _ hSl hl, hEl]; omega) ?_
  have hH3 := setCells_heap (E.map (Value.int .u8)) x3 g (8 + k) _ _ hH
  rw [hcl_copy S l E _ k hSl (by rw [hEl, hl]; omega)] at hH3
  have hbt2 := setCells_bt (E.map (Value.int .u8)) x3 g (8 + k)
  replace hBt := hBt.trans hbt2
  replace hX := hX.bt hbt2
  refine hK _ _ ?_
  clear hK K hH hsrc hbt2
  simp only [nrm]
  generalize World.setCells _ _ _ _ = x4 at *
  rw [hEl]
  replace hm2 := hide hm2
  iterate 1 (refine wpList_step fun K hK => ?_; replace hK := hide hK; go_simp; refine unhide hK _ _ ?_; clear hK K)
  refine wpList_nil ?_
  obtain ⟨l2, hl2⟩ : ∃ l2, l2 = l.take k ++ (E ++ l.drop (k + E.length)) := ⟨_, rfl⟩
  have hH : x4.heap[g]? = some (.cells (hc S l2 ((n : Int) + m)) 99 (0, 0)) := by rw [hl2]; exact hH3
  clear hH3
  by_cases hpart : k + m < 64
  · have hmm : m2 = m := by have := unhide hm2; omega
    have hEC : E = C := by rw [hE, hmm, ← hm, List.take_length]
    have q1 : (k : Int) + (m2 : Int) < 64 := by omega
    have q2 : IntKind.i64.wrap ((k : Int) + (m2 : Int)) = (k : Int) + (m2 : Int) := by rw [IntKind.wrap_i64]; omega
    replace hmm := hide hmm
    have hW : Hid (Wrote g (B ++ C) w (.returned (.int .i64 0)) x4) := by
      refine ⟨rfl, H.part (l := l) ?_ hl hlB hC ?_ ?_, hBt⟩
      · rw [hn, hm]; have := unhide hk; omega
      · rw [hn, ← unhide hk]; exact unhide hlt
      · rw [hn, hm, ← unhide hk, ← unhide hS]
        rw [hl2, hEC, hm] at hH
        exact hH
    clear hH hBt hX
    replace hl2 := hide hl2
    go_wp2_with fail
    rw [unhide hT]
    exact unhide hW
  · have hmm : m2 = 64 - k := by have := unhide hm2; omega
    have hl2a : l2 = l.take k ++ E := by
      rw [hl2, hEl, List.drop_eq_nil_of_le (by omega), List.append_nil]
    have hl2l : l2.length = 64 := by rw [hl2a, List.length_append, List.length_take, hEl]; omega
    have hl2B : IsB l2 := by rw [hl2a]; exact isB_append (isB_take hlB _) hEB
    obtain ⟨D, hD⟩ : ∃ D, D = C.drop m2 := ⟨_, rfl⟩
    have hDl : D.length = m - m2 := by rw [hD, List.length_drop, hm]
    have hbD : IsB D := by rw [hD]; exact isB_drop hC _
    have q1 : ¬ (k : Int) + (m2 : Int) < 64 := by omega
    have q2 : IntKind.i64.wrap ((k : Int) + (m2 : Int)) = (k : Int) + (m2 : Int) := by rw [IntKind.wrap_i64]; omega
    have q4 : 0 ≤ (m2 : Int) := by omega
    have q5 : (m2 : Int) ≤ (m : Int) := by omega
    obtain ⟨S2, hS2⟩ : ∃ S2, S2 = hbk 1 S l2 := ⟨_, rfl⟩
    have hS2l : S2.length = 8 := by rw [hS2]; exact hbk_len _ _ hSl _
    replace hS2 := hide hS2
    replace hmm := hide hmm
    replace hDl := hide hDl
    replace hEl := hide hEl
    replace hl2 := hide hl2
    replace hl2a := hide hl2a
    replace hBt := hide hBt
    replace hX := hide hX
    replace hH := hide hH
    replace hE := hide hE
    replace hD := hide hD
    go_upto_region 9 with fail
    refine wp_region_lit ?_
    iterate 5 (refine wpList_step fun K hK => ?_; replace hK := hide hK; go_simp; refine unhide hK _ _ ?_; clear hK K)
    refine list_call 67 #[.pointer (some ⟨g, 0, none⟩), .slice (some ⟨g, 8, none⟩) 64 64] (by kernel_rfl) (by kernel_rfl) ((take_n S l2 ((n : Int) + m) hSl g l2 hl2B 64 hl2l (some ⟨g, 8, none⟩) 64 (by omega) (by omega) _ (unhide hH) (.inr ⟨g, 8, rfl, left_at (unhide hH) hSl, .inr (Nat.le_refl _)⟩)).mono ?_)
    rintro r x5 ⟨a5, c5, rfl, _, _, _, hH5, hBt5⟩
    refine ⟨_, rfl, ?_⟩
    simp only [nrm]
    refine wpList_nil ?_
    replace hBt := (unhide hBt).trans hBt5
    replace hX := (unhide hX).bt hBt5
    have hH6 : x5.heap[g]? = some (.cells (hc S2 l2 ((n : Int) + m)) 99 (0, 0)) := by
      rw [unhide hS2]
      have e : l2.length / 64 = 1 := by rw [hl2l]
      rw [e] at hH5
      exact hH5
    clear hBt5 hH5 hH
    have hXD : SlX g x5 (if cap = m2 then a else Option.map (fun x => x.add m2) a) D := by
      rw [unhide hD]
      rcases hX with h | ⟨p, q, h1, h2, h3⟩
      · left
        rw [h]
        simp
      · split
        · left
          exact List.drop_eq_nil_of_le (by omega)
        · right
          exact ⟨p, q + m2, by rw [h1]; simp [Addr.add_mid], h2.drop m2, h3⟩
    replace hBt := hide hBt
    clear hX
    replace hXD := hide hXD
    replace hH6 := hide hH6
    go_upto_region 11 with fail
    replace hBt := unhide hBt
    have hX := unhide hXD
    have hH := unhide hH6
    clear hXD hH6
    have hcD1 : m - m2 ≤ cap - m2 := by omega
    have hcD2 : cap - m2 < 9223372036854775808 := by omega
    generalize cap - m2 = c2 at *
    generalize (if cap = m2 then a else Option.map (fun x => x.add m2) a) = a2 at *
    replace hDl := unhide hDl
    replace hl0 := hl
    clear hl
    have hl := hl2l
    refine any_start (S := fun _ => True) (by kernel_rfl) ?_
    replace hBt := hBt.trans ((Gr.refl _).drew.bt g)
    replace hH := (Gr.refl _).drew.blk hH
    replace hX := hX.gr (Gr.refl _).drew
    generalize World.drew _ = x0 at *
    simp only [List.size_toArray, List.length_cons, List.length_nil, Array.replicate, List.replicate]
    refine any_take (i := 0) (v := (.pointer (some ⟨g, 0, none⟩))) #[false, false, false, false, false, false, false, false] rfl (by kernel_rfl) (by kernel_rfl) (by kernel_rfl) (by kernel_rfl) (fun _ _ _ h => h) (.inl ⟨by kernel_rfl, fun x_ hu => by kernel_rfl⟩) trivial ?_
    simp only [nrm]
    refine any_take (i := 1) (v := (.pointer (some ⟨g, 0, none⟩))) #[true, false, false, false, false, false, false, false] rfl (by kernel_rfl) (by kernel_rfl) (by kernel_rfl) (by kernel_rfl) (fun _ _ _ h => h) (.inl ⟨by kernel_rfl, fun x_ hu => by kernel_rfl⟩) trivial ?_
    simp only [nrm]
    refine any_take (i := 2) (v := (.pointer (some ⟨g, 8, none⟩))) #[true, true, false, false, false, false, false, false] rfl (by kernel_rfl) (by kernel_rfl) (by kernel_rfl) (by kernel_rfl) (fun _ _ _ h => h) (.inl ⟨by kernel_rfl, fun x_ hu => by kernel_rfl⟩) trivial ?_
    simp only [nrm]
    refine any_take (i := 3) (v := (.slice (some ⟨g, 8, none⟩) 64 64)) #[true, true, true, false, false, false, false, false] rfl (by kernel_rfl) (by kernel_rfl) (by kernel_rfl) (by kernel_rfl) (fun _ _ _ h => h) (.inl ⟨by kernel_rfl, fun x_ hu => by go_simp⟩) trivial ?_
    simp only [nrm]
    refine any_take (i := 4) (v := (.pointer (some ⟨g, 0, none⟩))) #[true, true, true, true, false, false, false, false] rfl (by kernel_rfl) (by kernel_rfl) (by kernel_rfl) (by kernel_rfl) (fun _ _ _ h => h) (.inl ⟨by kernel_rfl, fun x_ hu => by kernel_rfl⟩) trivial ?_
    simp only [nrm]
    refine any_take (i := 5) (v := (.slice a2 (m - m2) c2)) #[true, true, true, true, true, false, false, false] rfl (by kernel_rfl) (by kernel_rfl) (by kernel_rfl) (by kernel_rfl) (fun _ _ _ h => h) (.inl ⟨by kernel_rfl, fun x_ hu => by kernel_rfl⟩) trivial ?_
    simp only [nrm]
    refine any_one (i := 6) (by kernel_rfl) rfl (fun K hK => ?_)
    refine step_callw (by kernel_rfl) 67 #[.pointer (some ⟨g, 0, none⟩), .slice a2 (m - m2) c2] (by kernel_rfl) ((take_n S2 l2 ((n : Int) + m) hS2l g D hbD (m - m2) hDl a2 c2 hcD1 hcD2 _ hH hX.out).mono ?_)
    rintro r x1 ⟨a9, c9, rfl, hc3, hc4, hsl, hH2, hBt2⟩
    refine ⟨_, rfl, ?_⟩
    replace hBt := hBt.trans hBt2
    refine hK.out _ _ trivial (fun _ => ?_)
    clear hK K hBt2 hH hX
    simp only [nrm]
    refine any_one (i := 7) (by kernel_rfl) rfl (fun K hK => ?_)
    rw [if_pos (by kernel_rfl)]
    have hdl : (D.drop (64 * (D.length / 64))).length = D.length % 64 := by rw [List.length_drop]; omega
    refine copy_wp (.tmp 48) (.tmp 51) rfl g 8 64 64 a9 (D.length % 64) c9 (by kernel_rfl) (by kernel_rfl) (hcl (hbk (D.length / 64) S2 D) l2 ((n : Int) + m)) 99 hH2 (D.drop (64 * (D.length / 64))) (by rw [hdl]; exact (Nat.min_eq_left (by omega)).symm) (by rcases hsl with h | ⟨p, o, h1, h2, _⟩; exact .inl h; exact .inr ⟨p, o, h1, h2⟩) (by rw [hcl_len _ _ _ (hbk_len _ _ hS2l _) hl, hdl]; omega) ?_
    have hH3 := setCells_heap ((D.drop (64 * (D.length / 64))).map (Value.int .u8)) x1 g 8 _ _ hH2
    have hcp := hcl_copy (hbk (D.length / 64) S2 D) l2 (D.drop (64 * (D.length / 64))) ((n : Int) + m) 0 (hbk_len _ _ hS2l _) (by rw [hdl, hl]; omega)
    rw [Nat.add_zero] at hcp
    rw [hcp] at hH3
    simp only [List.take_zero, List.nil_append, Nat.zero_add] at hH3
    replace hBt := hBt.trans (setCells_bt ((D.drop (64 * (D.length / 64))).map (Value.int .u8)) x1 g 8)
    refine hK.out _ _ trivial (fun _ => ?_)
    refine any_done (by kernel_rfl) ?_
    clear hK K hH2 hsl hcp
    simp only [nrm]
    generalize World.setCells _ _ _ _ = x2 at *
    have hB1 : (B ++ E).length % 64 = 0 := by
      rw [List.length_append, unhide hEl, hn]
      have h1 := unhide hk
      have h2 := unhide hmm
      omega
    have hBE : B ++ C = (B ++ E) ++ D := by rw [unhide hE, unhide hD, List.append_assoc, List.take_append_drop]
    have hW : Hid (Wrote g (B ++ C) w (.returned (.int .i64 0)) x2) := by
      rw [hBE]
      refine ⟨rfl, H.whole hB1 ?_ ?_ (l := D.drop (64 * (D.length / 64)) ++ l2.drop (D.drop (64 * (D.length / 64))).length) ?_ (by rw [← hdl]; exact take_len_append _ _), hBt⟩
      · rw [List.length_append, List.length_drop (l := l2), hdl, hl]
        omega
      · have := isB_left hl2B (isB_drop hbD (64 * (D.length / 64))) 0
        simpa using this
      · have e4 : hbk 1 (hbk (B.length / 64) F0 B) (l.take (B.length % 64) ++ E) = hbk ((B ++ E).length / 64) F0 (B ++ E) := by
          refine bk_fill ?_ ?_ ?_
          · rw [hn, ← unhide hk]; exact h64
          · rw [unhide hEl, hn, ← unhide hk]; exact unhide hmm
          · rw [hn, ← unhide hk]; exact unhide hlt
        rw [← e4, hn, ← unhide hk, ← unhide hS, ← unhide hl2a, ← unhide hS2, List.length_append, unhide hEl, hDl, hn]
        have e5 : (((n + m2 : Nat) : Int) + ((m - m2 : Nat) : Int)) = (n : Int) + m := by omega
        rw [e5]
        rw [hDl] at hH3
        exact hH3
    clear hH3 hBt
    go_wp2_with fail
    rw [unhide hT]
    exact unhide hW
theorem write_ok (g : Nat) (B C : List Int) (hC : IsB C) (hbig : B.length + C.length < 1152921504606846976) (a : Option Addr) (n cap : Nat) (hn : C.length = n) (hcap : n ≤ cap) (hcb : cap < 9223372036854775808) (w : World)
    (hB : H g B w) (hX : SlX g w a C) : Calls Tryd.prog 42 #[.pointer (some ⟨g, 0, none⟩), .slice a n cap] w (Wrote g (B ++ C) w) := by
  subst hn
  rcases Nat.eq_zero_or_pos (B.length % 64) with h | h
  · exact write_whole g B C hC h hbig a cap hcap hcb w hB hX
  · exact write_some g B C hC h hbig a cap hcap hcb w hB hX
def Zl64 : List Int := List.replicate 64 0
theorem list_valw {P : Program} {ops : Array Oper} {Q : Exit → Act → World → Prop} {a : Act} {w : World} {o : Oper} {rest : List Oper} (v : Value) (w' : World) (hw : Region.wanted o (yielded ops a.tmps) = true) (hx : (execOp a.eval o).run P w = .ok (.value v) w') (h : wpList P ops Q rest (a.put o.dst v) w') : wpList P ops Q (o :: rest) a w := by
  refine wpList_step fun K hK => ?_
  rw [if_pos hw]
  unfold Oper.wp
  rw [hx]
  exact hK _ _ h
def ZH : Array Value := hc Z8 Zl64 0
def sumL (B : List Int) : List Int := keyL (hbk ((B ++ padL B.length).length / 64) F0 (B ++ padL B.length))
theorem sumL_len (B : List Int) : (sumL B).length = 32 := keyL_len _
def Fst (w : World) : Prop := w.rangeAt 0 0 (F0.map (Value.int .u32))
theorem Fst.gr {w v : World} (h : Fst w) (k : Gr w v) : Fst v := fun j x hj => k.cell (h j x hj)
def News (w : World) (r : Ending) (w' : World) : Prop := ∃ g, r = .returned (.pointer (some ⟨g, 0, none⟩)) ∧ w.heap.size ≤ g ∧ H g [] w' ∧ Gr w w'
theorem Tryd.infoH : (Tryd.prog.info? 99).map (·.size) = some 73 := by kernel_rfl
theorem new_ok (w : World) (hF : Fst w) : Calls Tryd.prog 41 #[] w (News w) := by
  obtain ⟨T, hT⟩ : ∃ T, T = News w := ⟨_, rfl⟩
  rw [← hT]
  replace hT := hide hT
  go_enter Tryd.func41, Tryd.ntmps41
  go_upto_region 1 with fail
  refine wp_region_lit ?_
  refine list_val (.agg (uc F0)) (by kernel_rfl) (exec_row _ 73 (.global 0) rfl 0 0 (by kernel_rfl) (F0.map (Value.int .u32)) _ hF Tryd.underlying73 rfl (by rw [Tryd.infoS]; rfl)) ?_
  simp only [nrm]
  refine list_val (.agg (hc F0 Zl64 0)) (by kernel_rfl) (by kernel_rfl) ?_
  simp only [nrm]
  iterate 2 (refine wpList_step fun K hK => ?_; replace hK := hide hK; go_simp; refine unhide hK _ _ ?_; clear hK K)
  refine wpList_nil ?_
  have hP : Hid (News w (.returned (.pointer (some ⟨w.heap.size, 0, none⟩))) (w.alloc (.cells (hc F0 Zl64 0) 99 (0, 0)))) :=
    ⟨w.heap.size, rfl, Nat.le_refl _, ⟨Zl64, rfl, (by intro x hx; have := List.eq_of_mem_replicate hx; omega), blk_new _ _, rfl⟩, (Gr.refl w).alloc _⟩
  go_wp2_with fail
  rw [unhide hT]
  exact unhide hP
def Summed (B : List Int) (w : World) (r : Ending) (w' : World) : Prop := r = .returned (.agg (kc (sumL B))) ∧ Gr w w'
set_option maxHeartbeats 2000000 in
theorem hsum_ok (g : Nat) (B : List Int) (hbig : B.length < 1152921504606846000) (w : World) (hB : H g B w) : Calls Tryd.prog 43 #[.pointer (some ⟨g, 0, none⟩)] w (Summed B w) := by
  obtain ⟨T, hT⟩ : ∃ T, T = Summed B w := ⟨_, rfl⟩
  rw [← hT]
  replace hT := hide hT
  replace hB := hide hB
  go_enter Tryd.func43, Tryd.ntmps43
  go_upto_region 3 with fail
  have hL := (Bl.nil w).new #[.int .u8 0, .int .u8 0, .int .u8 0, .int .u8 0, .int .u8 0, .int .u8 0, .int .u8 0, .int .u8 0, .int .u8 0, .int .u8 0, .int .u8 0, .int .u8 0, .int .u8 0, .int .u8 0, .int .u8 0, .int .u8 0, .int .u8 0, .int .u8 0, .int .u8 0, .int .u8 0, .int .u8 0, .int .u8 0, .int .u8 0, .int .u8 0, .int .u8 0, .int .u8 0, .int .u8 0, .int .u8 0, .int .u8 0, .int .u8 0, .int .u8 0, .int .u8 0] 25
  replace hB := (unhide hB).gr ((Gr.refl w).alloc (.cells #[.int .u8 0, .int .u8 0, .int .u8 0, .int .u8 0, .int .u8 0, .int .u8 0, .int .u8 0, .int .u8 0, .int .u8 0, .int .u8 0, .int .u8 0, .int .u8 0, .int .u8 0, .int .u8 0, .int .u8 0, .int .u8 0, .int .u8 0, .int .u8 0, .int .u8 0, .int .u8 0, .int .u8 0, .int .u8 0, .int .u8 0, .int .u8 0, .int .u8 0, .int .u8 0, .int .u8 0, .int .u8 0, .int .u8 0, .int .u8 0, .int .u8 0, .int .u8 0] 25))
  simp only [List.nil_append] at hL
  generalize World.alloc _ _ = u1 at *
  replace hL : Bl w [⟨w.heap.size, kc Z32, 25⟩] u1 := hL
  obtain ⟨l, hl, hlB, hH, hlt⟩ := hB
  have hSl : (hbk (B.length / 64) F0 B).length = 8 := hbk_len _ _ rfl _
  obtain ⟨c, hc0⟩ : ∃ c, c = hc (hbk (B.length / 64) F0 B) l B.length := ⟨_, rfl⟩
  have hcs : c.size = 73 := by rw [hc0]; unfold hc; rw [List.size_toArray, hcl_len _ _ _ hSl hl]
  have hc1 : c.all (·.oneCell') = true := by rw [hc0]; unfold hc hcl; simp [Value.oneCell']
  have hB : Hid (∀ v, v.heap[u1.heap.size]? = some (.cells c 99 (0, 0)) → H u1.heap.size B v) := fun v hv => ⟨l, hl, hlB, by rw [← hc0]; exact hv, hlt⟩
  rw [← hc0] at hH
  clear hlt
  refine wp_region_lit ?_
  iterate 2 (refine wpList_step fun K hK => ?_; replace hK := hide hK; go_simp; refine unhide hK _ _ ?_; clear hK K)
  refine list_val (.agg c) (by kernel_rfl) (exec_arr _ 99 (.tmp 8) rfl g (by kernel_rfl) c 99 _ hH Tryd.underlying99 rfl (by rw [Tryd.infoH, hcs])) ?_
  simp only [nrm]
  refine list_valw (.pointer (some ⟨u1.heap.size, 0, none⟩)) (u1.alloc (.cells ZH 99 (0, 0))) (by kernel_rfl) (by kernel_rfl) ?_
  simp only [nrm]
  replace hL := hL.new ZH 99
  have hne : u1.heap.size ≠ g := by have := lt_of_block hH; omega
  replace hH := ((Gr.refl u1).alloc (.cells ZH 99)).blk hH
  simp only [List.cons_append, List.nil_append] at hL
  generalize u1.heap.size = ge at *
  generalize World.alloc _ _ = u2 at *
  refine list_store 99 (.tmp 3) (.tmp 9) ge c 99 ZH (by kernel_rfl) rfl (by kernel_rfl) (by kernel_rfl) (hL.get 1 (x := ⟨ge, ZH, 99⟩) rfl) (by rw [Tryd.infoH, hcs]) (by rw [hcs]; rfl) hc1 ?_
  replace hL := hL.set 1 (x := ⟨ge, ZH, 99⟩) rfl c
  simp only [List.set_cons_zero, List.set_cons_succ] at hL
  replace hH := (setRow_other u2 ge g c (fun e => hne e.symm)).trans hH
  generalize World.setRow _ _ _ = u3 at *
  simp only [nrm]
  refine wpList_nil ?_
  have hE := (unhide hB) u3 (hL.get 1 (x := ⟨ge, c, 99⟩) rfl)
  clear hB
  have hcc : u3.cell? ⟨g, 72, none⟩ = some (.int .i64 B.length) := cnt_cell (by rw [← hc0]; exact hH) hSl hl
  clear hH hc0
  replace hL := hide hL
  replace hE := hide hE
  go_upto_region 4 with fail
  refine wp_region_lit ?_
  iterate 4 (refine wpList_step fun K hK => ?_; replace hK := hide hK; go_simp; refine unhide hK _ _ ?_; clear hK K)
  refine list_call 68 #[.int .i64 B.length] (by kernel_rfl) (by kernel_rfl) ((pad_ok B.length (by omega) _).mono ?_)
  rintro r u4 ⟨gp, rfl, hgp, hP, hg⟩
  refine ⟨_, rfl, ?_⟩
  simp only [nrm]
  have hgp2 : gp ≠ ge := by have := lt_of_block ((unhide hL).get 1 (x := ⟨ge, c, 99⟩) rfl); have h2 : u3.heap.size ≤ gp := hgp; dsimp only at this; omega
  replace hL := (unhide hL).more hg
  replace hE := (unhide hE).gr hg
  clear hg hcc
  refine list_call 42 #[.pointer (some ⟨ge, 0, none⟩), .slice (some ⟨gp, 0, none⟩) (nz B.length + 9) (nz B.length + 9)] (by kernel_rfl) (by kernel_rfl) ((write_ok ge B (padL B.length) (padL_isB _) (by rw [padL_len]; unfold nz; omega) (some ⟨gp, 0, none⟩) (nz B.length + 9) (nz B.length + 9) (padL_len _) (Nat.le_refl _) (by unfold nz; omega) _ hE (.inr ⟨gp, 0, rfl, fun j hj => by rw [Nat.zero_add]; exact kc_cell hP j hj, hgp2⟩)).mono ?_)
  rintro r u5 ⟨rfl, hE2, hbt⟩
  refine ⟨_, rfl, ?_⟩
  simp only [nrm]
  refine wpList_nil ?_
  obtain ⟨l2, hl2, _, hH2, _⟩ := hE2
  replace hL := hL.but hbt 1 (x := ⟨ge, c, 99⟩) rfl rfl hH2
  simp only [List.set_cons_zero, List.set_cons_succ] at hL
  clear hbt hE
  replace hL := hide hL
  go_upto_region 5 with fail
  refine wp_region_lit ?_
  iterate 1 (refine wpList_step fun K hK => ?_; replace hK := hide hK; go_simp; refine unhide hK _ _ ?_; clear hK K)
  obtain ⟨s, hs⟩ : ∃ s, s = hbk ((B ++ padL B.length).length / 64) F0 (B ++ padL B.length) := ⟨_, rfl⟩
  have hsl : s.length = 8 := by rw [hs]; exact hbk_len _ _ rfl _
  rw [← hs] at hH2
  refine list_val (.agg (uc s)) (by kernel_rfl) (exec_row _ 73 (.tmp 16) rfl ge 0 (by kernel_rfl) (s.map (Value.int .u32)) _ (range_st hH2) Tryd.underlying73 rfl (by rw [Tryd.infoS, List.length_map, hsl])) ?_
  simp only [nrm]
  refine list_call 69 #[.agg (uc s)] (by kernel_rfl) (by kernel_rfl) ((key_ok s hsl _).mono ?_)
  rintro r u6 ⟨rfl, hg⟩
  refine ⟨_, rfl, ?_⟩
  simp only [nrm]
  replace hL := (unhide hL).more hg
  have hkl : (keyL s).length = 32 := keyL_len s
  have hks : keyL s = sumL B := by rw [hs]; rfl
  clear hH2 hg hs
  generalize keyL s = m at *
  generalize hc _ _ _ = ce at *
  refine list_store 25 (.tmp 2) (.tmp 18) w.heap.size (kc m) 25 (kc Z32) (by kernel_rfl) rfl (by kernel_rfl) (by kernel_rfl) (hL.get 0 (x := ⟨w.heap.size, kc Z32, 25⟩) rfl) (by rw [Tryd.infoKey, kc_size, hkl]) ((show (kc Z32).size = 32 from rfl).trans ((kc_size _).trans hkl).symm) (kc_one _) ?_
  replace hL := hL.set 0 (x := ⟨w.heap.size, kc Z32, 25⟩) rfl (kc m)
  simp only [List.set_cons_zero, List.set_cons_succ] at hL
  generalize World.setRow _ _ _ = u7 at *
  simp only [nrm]
  refine wpList_nil ?_
  go_wp2_with fail
  rw [unhide hT]
  exact bodyPost_ret (v := .agg (kc m)) (results_cell_row Tryd.results43 _ _ w.heap.size 25 (kc m) (0, 0) _ rfl (hL.get 0 (x := ⟨w.heap.size, kc m, 25⟩) rfl) Tryd.underlying25 rfl (by rw [Tryd.infoKey, kc_size, hkl])) rfl ⟨by rw [hks], hL.gr⟩
def Sl (w : World) (a : Option Addr) (B : List Int) : Prop := B = [] ∨ ∃ p o, a = some ⟨p, o, none⟩ ∧ At w p o B
theorem Sl.gr {w v : World} {a : Option Addr} {B : List Int} (h : Sl w a B) (k : Gr w v) : Sl v a B := by
  rcases h with h | ⟨p, o, h1, h2⟩
  · exact .inl h
  · exact .inr ⟨p, o, h1, h2.gr k⟩
theorem Sl.far {w v : World} {a : Option Addr} {B : List Int} (h : Sl w a B) (k : Gr w v) {g : Nat} (hg : w.heap.size ≤ g) : SlX g v a B := by
  rcases h with h | ⟨p, o, h1, h2⟩
  · exact .inl h
  · rcases Nat.eq_zero_or_pos B.length with h0 | h0
    · exact .inl (List.eq_nil_of_length_eq_zero h0)
    · exact .inr ⟨p, o, h1, h2.gr k, by have := lt_of_cell (h2 0 h0); omega⟩
set_option maxHeartbeats 2000000 in
theorem sum_ok (B : List Int) (hb : IsB B) (n : Nat) (hn : B.length = n) (hbig : n < 1152921504606846000) (a : Option Addr) (cap : Nat) (hcap : n ≤ cap) (hcb : cap < 9223372036854775808) (w : World) (hF : Fst w) (hA : Sl w a B) :
    Calls Tryd.prog 32 #[.slice a n cap] w (Summed B w) := by
  obtain ⟨T, hT⟩ : ∃ T, T = Summed B w := ⟨_, rfl⟩
  rw [← hT]
  replace hT := hide hT
  replace hF := hide hF
  replace hA := hide hA
  replace hb := hide hb
  go_enter Tryd.func32, Tryd.ntmps32
  go_upto_region 1 with fail
  have hL := (Bl.nil w).new #[.int .u8 0, .int .u8 0, .int .u8 0, .int .u8 0, .int .u8 0, .int .u8 0, .int .u8 0, .int .u8 0, .int .u8 0, .int .u8 0, .int .u8 0, .int .u8 0, .int .u8 0, .int .u8 0, .int .u8 0, .int .u8 0, .int .u8 0, .int .u8 0, .int .u8 0, .int .u8 0, .int .u8 0, .int .u8 0, .int .u8 0, .int .u8 0, .int .u8 0, .int .u8 0, .int .u8 0, .int .u8 0, .int .u8 0, .int .u8 0, .int .u8 0, .int .u8 0] 25
  simp only [List.nil_append] at hL
  generalize World.alloc _ _ = u1 at *
  replace hL : Bl w [⟨w.heap.size, kc Z32, 25⟩] u1 := hL
  replace hF := (unhide hF).gr hL.gr
  refine wp_region_lit ?_
  refine list_call 41 #[] (by kernel_rfl) (by kernel_rfl) ((new_ok _ hF).mono ?_)
  rintro r u2 ⟨g, rfl, hg0, hH, hg⟩
  refine ⟨_, rfl, ?_⟩
  simp only [nrm]
  have hne : w.heap.size ≠ g := by have := lt_of_block (hL.get 0 (x := ⟨w.heap.size, kc Z32, 25⟩) rfl); dsimp only at this; omega
  have hgw : w.heap.size ≤ g := Nat.le_trans hL.gr.size hg0
  replace hL := hL.more hg
  clear hg hF
  iterate 1 (refine wpList_step fun K hK => ?_; replace hK := hide hK; go_simp; refine unhide hK _ _ ?_; clear hK K)
  refine wpList_nil ?_
  have hX := (unhide hA).far hL.gr hgw
  replace hL := hide hL
  replace hX := hide hX
  replace hH := hide hH
  go_upto_region 2 with fail
  refine wp_region_lit ?_
  iterate 2 (refine wpList_step fun K hK => ?_; replace hK := hide hK; go_simp; refine unhide hK _ _ ?_; clear hK K)
  refine list_call 42 #[.pointer (some ⟨g, 0, none⟩), .slice a n cap] (by kernel_rfl) (by kernel_rfl) ((write_ok g [] B (unhide hb) (by rw [hn]; simp; omega) a n cap hn hcap hcb _ (unhide hH) (unhide hX)).mono ?_)
  rintro r u3 ⟨rfl, hE2, hbt⟩
  refine ⟨_, rfl, ?_⟩
  simp only [nrm]
  refine wpList_nil ?_
  rw [List.nil_append] at hE2
  have hL3 : Bl w [⟨w.heap.size, kc Z32, 25⟩] u3 := ⟨hbt.gr (unhide hL).gr hgw, (fun x hx => by
    have hx2 : x = ⟨w.heap.size, kc Z32, 25⟩ := by simpa using hx
    subst hx2
    exact ⟨hbt.blk ((unhide hL).get 0 (x := ⟨w.heap.size, kc Z32, 25⟩) rfl) hne, Nat.le_refl _⟩), List.pairwise_singleton _ _⟩
  clear hL hX hH hbt
  have hL := hide hL3
  clear hL3
  replace hE2 := hide hE2
  go_upto_region 3 with fail
  refine wp_region_lit ?_
  iterate 1 (refine wpList_step fun K hK => ?_; replace hK := hide hK; go_simp; refine unhide hK _ _ ?_; clear hK K)
  refine list_call 43 #[.pointer (some ⟨g, 0, none⟩)] (by kernel_rfl) (by kernel_rfl) ((hsum_ok g B (by omega) _ (unhide hE2)).mono ?_)
  rintro r u6 ⟨rfl, hg⟩
  refine ⟨_, rfl, ?_⟩
  simp only [nrm]
  replace hL := (unhide hL).more hg
  have hkl : (sumL B).length = 32 := sumL_len B
  clear hg hE2
  obtain ⟨m, hm⟩ : ∃ m, m = sumL B := ⟨_, rfl⟩
  rw [← hm] at hkl
  rw [← hm]
  refine list_store 25 (.tmp 2) (.tmp 9) w.heap.size (kc m) 25 (kc Z32) (by kernel_rfl) rfl (by kernel_rfl) (by kernel_rfl) (hL.get 0 (x := ⟨w.heap.size, kc Z32, 25⟩) rfl) (by rw [Tryd.infoKey, kc_size, hkl]) ((show (kc Z32).size = 32 from rfl).trans ((kc_size _).trans hkl).symm) (kc_one _) ?_
  replace hL := hL.set 0 (x := ⟨w.heap.size, kc Z32, 25⟩) rfl (kc m)
  simp only [List.set_cons_zero, List.set_cons_succ] at hL
  generalize World.setRow _ _ _ = u7 at *
  simp only [nrm]
  refine wpList_nil ?_
  replace hm := hide hm
  go_wp2_with fail
  rw [unhide hT]
  exact bodyPost_ret (v := .agg (kc m)) (results_cell_row Tryd.results32 _ _ w.heap.size 25 (kc m) (0, 0) _ rfl (hL.get 0 (x := ⟨w.heap.size, kc m, 25⟩) rfl) Tryd.underlying25 rfl (by rw [Tryd.infoKey, kc_size, hkl])) rfl ⟨by rw [unhide hm], hL.gr⟩
def W12 (B : List Int) (n : Nat) : List Int := if n ≤ 16 then W1 B n else W2 B (n - 16)
theorem W12_len (B : List Int) (n : Nat) : (W12 B n).length = 64 := by
  unfold W12
  split
  · exact W1_len B n
  · exact W2_len B _
theorem W12_lo (B : List Int) (n : Nat) (h : n < 16) : W12 B (n + 1) = (W12 B n).set n (be (B.getD (4 * n) 0) (B.getD (4 * n + 1) 0) (B.getD (4 * n + 2) 0) (B.getD (4 * n + 3) 0)) := by
  unfold W12
  rw [if_pos (by omega), if_pos (by omega), W1]
theorem W12_hi (B : List Int) (n : Nat) (h : 16 ≤ n) : W12 B (n + 1) = (W12 B n).set n (nx (W12 B n) n) := by
  obtain ⟨k, rfl⟩ : ∃ k, n = k + 16 := ⟨n - 16, by omega⟩
  have e0 : W12 B (k + 16) = W2 B k := by
    unfold W12
    split
    · have : k = 0 := by omega
      subst this
      rfl
    · rw [Nat.add_sub_cancel]
  have e1 : W12 B (k + 16 + 1) = W2 B (k + 1) := by
    unfold W12
    rw [if_neg (by omega)]
    congr 1
  rw [e0, e1, W2]
theorem W12_all (B : List Int) : W12 B 64 = wds B := rfl
def stl (q : St) : List Int := [q.a, q.b, q.c, q.d, q.e, q.f, q.g, q.h]
theorem stl_of (s : List Int) (hs : s.length = 8) : stl (.of s) = s := by
  rcases s with _ | ⟨a, _ | ⟨b, _ | ⟨c, _ | ⟨d, _ | ⟨e, _ | ⟨f, _ | ⟨g, _ | ⟨h, _ | ⟨i, s⟩⟩⟩⟩⟩⟩⟩⟩⟩ <;> simp at hs
  rfl
def SA (s t : List Int) : Nat → List Int
  | 0 => s
  | n + 1 => (SA s t n).set n (ad ((SA s t n).getD n 0) (t.getD n 0))
theorem SA_len (s t : List Int) : ∀ n, (SA s t n).length = s.length
  | 0 => rfl
  | n + 1 => by rw [SA, List.length_set, SA_len s t n]
theorem SA_all (s W K : List Int) (hs : s.length = 8) : SA s (stl (rnds (.of s) W K 64)) 8 = stp s W K := by
  rcases s with _ | ⟨a, _ | ⟨b, _ | ⟨c, _ | ⟨d, _ | ⟨e, _ | ⟨f, _ | ⟨g, _ | ⟨h, _ | ⟨i, s⟩⟩⟩⟩⟩⟩⟩⟩⟩ <;> simp at hs
  generalize hq : rnds (.of [a, b, c, d, e, f, g, h]) W K 64 = q
  unfold stp
  rw [hq]
  rfl
def yn (x : Int) (n : Nat) : Int := x / 2 ^ (24 - 8 * n) % 256
def KZ (s : List Int) (i : Nat) : Nat → List Int
  | 0 => KY s i
  | n + 1 => (KZ s i n).set (4 * i + n) (yn (s.getD i 0) n)
theorem KZ_len (s : List Int) (i : Nat) : ∀ n, (KZ s i n).length = 32
  | 0 => KY_len s i
  | n + 1 => by rw [KZ, List.length_set, KZ_len s i n]
theorem KZ_all (s : List Int) (i : Nat) : KZ s i 4 = KY s (i + 1) := by
  simp [KZ, KY, yn, y0, y1, y2, y3]
theorem nx_ref (l : List Int) (i : Nat) : nx l i = (l.getD (i - 16) 0 + sg0 (l.getD (i - 15) 0) + l.getD (i - 7) 0 + sg1 (l.getD (i - 2) 0)) % 4294967296 := by
  unfold nx
  simp only [ad_eq]
  omega
theorem right_ok (x : Int) (n : Nat) (hn : 1 ≤ n ∧ n ≤ 31) (w : World) :
    Calls Tryd.prog 47 #[.int .u32 x, .int .i64 n] w (fun r w' => r = .returned (.int .u32 (tn x n)) ∧ w' = w.drew) := by
  obtain ⟨m, hm⟩ : ∃ m, m = 32 - n := ⟨_, rfl⟩
  have e1 : 32 - (n : Int) = (m : Int) := by omega
  have e2 : IntKind.i64.wrap (m : Int) = (m : Int) := by rw [IntKind.wrap_i64]; omega
  have m0 : 0 ≤ (m : Int) := by omega
  have n0 : 0 ≤ (n : Int) := by omega
  replace hm := hide hm
  go_enter Tryd.func47, Tryd.ntmps47
  go_wp2_with fail
  go_still_tail 8, (by kernel_rfl)
  go_wp2_with fail
  refine bodyPost_ret (v := .int .u32 (tn x n)) ?_ rfl ⟨rfl, rfl⟩
  unfold tn
  rw [← unhide hm]
  simp [results, Tryd.results47, go_sem]
theorem right_int (x m : Int) (hm : 1 ≤ m ∧ m ≤ 31) (w : World) :
    Calls Tryd.prog 47 #[.int .u32 x, .int .i64 m] w (fun r w' => r = .returned (.int .u32 (tn x m.toNat)) ∧ w' = w.drew) := by
  obtain ⟨n, rfl⟩ := Int.eq_ofNat_of_zero_le (a := m) (by omega)
  exact right_ok x n (by omega) w
theorem rbegin_ok (w : World) : Calls Tryd.prog 46 #[] w (fun r w' => r = .returned (.agg (uc F0)) ∧ Gr w w') := by
  go_enter Tryd.func46, Tryd.ntmps46
  go_upto_region 1 with fail
  have hB := (Bl.nil w).new #[.int .u32 0, .int .u32 0, .int .u32 0, .int .u32 0, .int .u32 0, .int .u32 0, .int .u32 0, .int .u32 0] 73
  simp only [List.nil_append] at hB
  generalize World.alloc _ _ = u at *
  replace hB : Bl w [⟨w.heap.size, uc Z8, 73⟩] u := hB
  refine wp_region_lit ?_
  refine list_val (.agg (uc F0)) (by kernel_rfl) (by kernel_rfl) ?_
  simp only [nrm]
  refine list_store 73 (.tmp 0) (.tmp 1) w.heap.size (uc F0) 73 (uc Z8) (by kernel_rfl) rfl (by kernel_rfl) (by kernel_rfl) (hB.get 0 (x := ⟨w.heap.size, uc Z8, 73⟩) rfl) (by rw [Tryd.infoS]; rfl) rfl (uc_one _) ?_
  replace hB := hB.set 0 (x := ⟨w.heap.size, uc Z8, 73⟩) rfl (uc F0)
  simp only [List.set_cons_zero, List.set_cons_succ] at hB
  generalize World.setRow _ _ _ = v1_ at *
  simp only [nrm]
  refine wpList_nil ?_
  go_wp2_with fail
  exact bodyPost_ret (v := .agg (uc F0)) (results_cell_row Tryd.results46 _ _ w.heap.size 73 (uc F0) (0, 0) _ rfl (hB.get 0 (x := ⟨w.heap.size, uc F0, 73⟩) rfl) Tryd.underlying73 rfl (by rw [Tryd.infoS]; rfl)) rfl ⟨rfl, hB.gr⟩
theorem rconstants_ok (w : World) : Calls Tryd.prog 44 #[] w (fun r w' => r = .returned (.agg (uc KL)) ∧ Gr w w') := by
  go_enter Tryd.func44, Tryd.ntmps44
  go_upto_region 1 with fail
  have hB := (Bl.nil w).new #[.int .u32 0, .int .u32 0, .int .u32 0, .int .u32 0, .int .u32 0, .int .u32 0, .int .u32 0, .int .u32 0, .int .u32 0, .int .u32 0, .int .u32 0, .int .u32 0, .int .u32 0, .int .u32 0, .int .u32 0, .int .u32 0, .int .u32 0, .int .u32 0, .int .u32 0, .int .u32 0, .int .u32 0, .int .u32 0, .int .u32 0, .int .u32 0, .int .u32 0, .int .u32 0, .int .u32 0, .int .u32 0, .int .u32 0, .int .u32 0, .int .u32 0, .int .u32 0, .int .u32 0, .int .u32 0, .int .u32 0, .int .u32 0, .int .u32 0, .int .u32 0, .int .u32 0, .int .u32 0, .int .u32 0, .int .u32 0, .int .u32 0, .int .u32 0, .int .u32 0, .int .u32 0, .int .u32 0, .int .u32 0, .int .u32 0, .int .u32 0, .int .u32 0, .int .u32 0, .int .u32 0, .int .u32 0, .int .u32 0, .int .u32 0, .int .u32 0, .int .u32 0, .int .u32 0, .int .u32 0, .int .u32 0, .int .u32 0, .int .u32 0, .int .u32 0] 70
  simp only [List.nil_append] at hB
  generalize World.alloc _ _ = u at *
  replace hB : Bl w [⟨w.heap.size, uc Z64, 70⟩] u := hB
  refine wp_region_lit ?_
  refine list_val (.agg (uc KL)) (by kernel_rfl) (by kernel_rfl) ?_
  simp only [nrm]
  refine list_store 70 (.tmp 0) (.tmp 1) w.heap.size (uc KL) 70 (uc Z64) (by kernel_rfl) rfl (by kernel_rfl) (by kernel_rfl) (hB.get 0 (x := ⟨w.heap.size, uc Z64, 70⟩) rfl) (by rw [Tryd.infoW]; rfl) rfl (uc_one _) ?_
  replace hB := hB.set 0 (x := ⟨w.heap.size, uc Z64, 70⟩) rfl (uc KL)
  simp only [List.set_cons_zero, List.set_cons_succ] at hB
  generalize World.setRow _ _ _ = v1_ at *
  simp only [nrm]
  refine wpList_nil ?_
  go_wp2_with fail
  exact bodyPost_ret (v := .agg (uc KL)) (results_cell_row Tryd.results44 _ _ w.heap.size 70 (uc KL) (0, 0) _ rfl (hB.get 0 (x := ⟨w.heap.size, uc KL, 70⟩) rfl) Tryd.underlying70 rfl (by rw [Tryd.infoW]; rfl)) rfl ⟨rfl, hB.gr⟩
theorem Sl.text {w : World} {a : Option Addr} {B : List Int} (h : Sl w a B) (n c : Nat) (hn : B.length = n) : (convert 33 9 (.slice a n c)).run Tryd.prog w = .ok (.string (strOfNums B)) w := by
  subst hn
  rcases h with rfl | ⟨p, o, rfl, h2⟩
  · rw [run_convert_bytes_string w 33 9 5 _ _ c Tryd.underlying33 Tryd.underlying5 Tryd.underlying9]
    cases a <;> simp [Conv.bytesToString, loadCells]
    all_goals rfl
  · exact run_convert_bytes_arg (P := Tryd.prog) w 33 5 Tryd.underlying33 Tryd.underlying5 p o _ c B rfl (fun i hi => h2 i hi) 9 Tryd.underlying9
def Ob (b : Nat) (w : World) (v : Value) (L : List Int) : Prop := w.ownsRow b 5 1 v L.length (L.map (Value.int .u8))
theorem Ob.gr {b : Nat} {w u : World} {v : Value} {L : List Int} (h : Ob b w v L) (k : Gr w u) : Ob b u v L := own_gr h k
theorem Ob.slice {b : Nat} {w : World} {v : Value} {L : List Int} (h : Ob b w v L) : ∃ a c, v = .slice a L.length c ∧ L.length ≤ c ∧ c ≤ maxLen ∧ Sl w a L := by
  rcases h.2 with ⟨h1, h2⟩ | ⟨g, cap, cur, h1, h2, h3, h4, h5, h6, h7⟩
  · have : L = [] := List.eq_nil_of_length_eq_zero h2
    subst this
    exact ⟨none, 0, h1, Nat.le_refl _, Nat.zero_le _, .inl rfl⟩
  · refine ⟨_, cap, h1, h4, h5, .inr ⟨g, 0, rfl, fun j hj => ?_⟩⟩
    rw [Nat.zero_add]
    refine cell_of h3 ?_
    rw [← Array.getElem?_toList]
    have e : (L.map (Value.int .u8))[j]? = some (.int .u8 (L.getD j 0)) := by simp [hj]
    rw [← h7, Nat.mul_one, List.getElem?_take, if_pos hj] at e
    exact e
theorem Ob.grown {b : Nat} {w u u' : World} {v : Value} {L : List Int} (h : Ob b u v L) (hb : w.heap.size ≤ b) (k : Gr w u) (g : u.grownBy u' v.ownBlock) : Gr w u' := by
  refine ⟨g.os.trans k.os, g.tape.trans k.tape, g.output.trans k.output, Nat.le_trans k.size g.size, fun i hi => (g.block i (Nat.lt_of_lt_of_le hi k.size) ?_).trans (k.block i hi)⟩
  intro e
  have := (World.ownsRow.lt h i e.symm).1
  omega
theorem app_bs {w : World} {ops : Array Oper} {rest : List Oper} {o : Oper} {a : Act} {Q : Exit → Act → World → Prop} (hw : Region.wanted o (yielded ops a.tmps) = true) (s x : Operand)
    (ho : o.op = .call { callee := .builtin .append, args := #[s, x], argTypes := #[33, 33] }) (b : Nat) (v : Value) (L : List Int) (hs : a.eval s = v) (hown : Ob b w v L)
    (sp : Option Addr) (n sc : Nat) (l : List Int) (hx : a.eval x = .slice sp n sc) (hn : l.length = n) (hsl : Sl w sp l) (hbig : L.length + n ≤ 180000000000000) (hB : b ≤ w.heap.size)
    (h : ∀ v' w', Ob b w' v' (L ++ l) → w.grownBy w' v.ownBlock → wpList Tryd.prog ops Q rest (a.put o.dst v') w') :
    wpList Tryd.prog ops Q (o :: rest) a w := by
  subst hn
  obtain ⟨i0, hi, hz0, hz1, hz2⟩ := info_parts Tryd.info5
  rw [wpList, if_pos hw]
  refine Or.inl ?_
  rcases hsl with rfl | ⟨p, q, rfl, hat⟩
  · obtain ⟨a', c', rfl, hc, _, _⟩ := hown.slice
    have hrun : (Builtin.append_ #[33, 33] o.type #[.slice a' L.length c', .slice sp 0 sc]).run Tryd.prog w = .ok (.slice a' L.length c') w := by
      cases a' <;> cases sp <;> simp [Builtin.append_, run_underlying Tryd.underlying33, sizeOf, typeInfo, hi, Builtin.lenOf, Builtin.firstCells, loadCells, loadCellsFrom, storeCells, hc]
    unfold Oper.wp
    simp [execOp, ho, resolve, invoke, builtin, hs, hx, hrun, Result.andThen]
    exact h _ _ (by rw [List.append_nil]; exact hown) (World.grownBy.refl _ _)
  · refine wp_append_own_wide w s x 33 ho b 5 i0 (.int .u8 0) 1 1 Tryd.underlying33 hi hz0 hz1 hz2 rfl (by decide) v L.length _ hs hown ⟨p, q, none⟩ l.length sc (l.map (Value.int .u8)) hx (by simp) ?_ ?_ (by unfold maxLen; omega) (by omega) hB ?_
    · intro j u hj
      have hjl : j < l.length := by have := (List.getElem?_eq_some_iff.1 hj).1; simpa using this
      rw [Addr.add_mid, hat j hjl]
      simp [hjl] at hj ⊢
      exact hj
    · intro u hu
      obtain ⟨y, _, rfl⟩ := List.mem_map.1 hu
      rfl
    · intro v' w' h1 h2 _
      refine h v' w' ?_ h2
      unfold Ob
      rw [List.length_append, List.map_append]
      exact h1
theorem blk_bytes {w : World} {b : Nat} (l : List Int) (hb : b ≤ w.heap.size) (h1 : l.length ≤ maxLen) : Ob b (w.alloc (.cells (kc l) 5 (0, 0))) (.slice (some ⟨w.heap.size, 0, none⟩) l.length l.length) l :=
  ⟨by simp, .inr ⟨w.heap.size, l.length, kc l, rfl, hb, blk_new _ _, Nat.le_refl _, h1, by rw [kc_size, Nat.mul_one], by unfold kc; rw [Nat.mul_one]; exact List.take_of_length_le (by simp)⟩⟩
def slenV : Value → Nat
  | .slice _ n _ => n
  | _ => 0
def RPadded (n : Nat) (w : World) (r : Ending) (w' : World) : Prop := ∃ v, r = .returned v ∧ Ob w.heap.size w' v (padL n) ∧ Gr w w'
set_option maxHeartbeats 2000000 in
theorem rpad_ok (n : Nat) (hn : n < 1152921504606846976) (w : World) : Calls Tryd.prog 45 #[.int .i64 n] w (RPadded n w) := by
  obtain ⟨T, hT⟩ : ∃ T, T = RPadded n w := ⟨_, rfl⟩
  rw [← hT]
  replace hT := hide hT
  obtain ⟨z, hz⟩ : ∃ z, z = nz n := ⟨_, rfl⟩
  have hz2 : z = (119 - n % 64) % 64 := hz
  have e0 : ¬ (n : Int) < 0 := by omega
  replace hz := hide hz
  go_enter Tryd.func45, Tryd.ntmps45
  go_wp2_with fail
  have hO := blk_bytes (w := w) (b := w.heap.size) [128] (Nat.le_refl _) (by unfold maxLen; simp)
  replace hO : Hid (Ob w.heap.size (w.alloc (.cells #[.int .u8 128] 5 (0, 0))) (.slice (some ⟨w.heap.size, 0, none⟩) 1 1) (128 :: List.replicate 0 0)) := hO
  have hG : Hid (Gr w (w.alloc (.cells #[.int .u8 128] 5 (0, 0)))) := (Gr.refl w).alloc _
  generalize World.alloc _ _ = u at *
  go_loopw [3] (fun p wr => ∃ (k : Nat) (a : Option Addr) (c : Nat), k ≤ z ∧ p = .slice a (k + 1) c ∧ Hid (Ob w.heap.size wr (.slice a (k + 1) c) (128 :: List.replicate k 0)) ∧ Hid (Gr w wr)) (fun p _ => 65 - slenV p)
  case atStart => exact ⟨0, _, 1, by omega, rfl, hO, hG⟩
  case round =>
  clear hO hG
  obtain ⟨k, a, c, hk, rfl, hO, hG⟩ := hrel
  have e1 : IntKind.i64.wrap ((n : Int) + ((k : Int) + 1)) = (n : Int) + ((k : Int) + 1) := by rw [IntKind.wrap_i64]; omega
  have e2 : IntKind.i64.wrap ((n : Int) + ((k : Int) + 1) + 8) = (n : Int) + ((k : Int) + 1) + 8 := by rw [IntKind.wrap_i64]; omega
  have e3 : Int.tmod ((n : Int) + ((k : Int) + 1) + 8) 64 = ((n : Int) + ((k : Int) + 1) + 8) % 64 := by rw [Int.tmod_eq_emod_of_nonneg (by omega)]
  by_cases hil : k < z
  · have e4 : ¬ ((n : Int) + ((k : Int) + 1) + 8) % 64 = 0 := by omega
    replace hz2 := hide hz2
    have hsz : Hid (w.heap.size ≤ wr.heap.size) := (unhide hG).size
    go_upto_region 5 with fail
    refine wp_region_lit ?_
    iterate 2 (refine wpList_step fun K hK => ?_; replace hK := hide hK; go_simp; refine unhide hK _ _ ?_; clear hK K)
    have hO2 := (unhide hO).gr ((Gr.refl wr).alloc (.cells #[.int .u8 0] 5))
    refine app_bs (by kernel_rfl) (.tmp 16) (.tmp 17) rfl w.heap.size (.slice a (k + 1) c) (128 :: List.replicate k 0) (by kernel_rfl) hO2 (some ⟨wr.heap.size, 0, none⟩) 1 1 [0] (by kernel_rfl) rfl (.inr ⟨_, 0, rfl, fun j hj => by rw [Nat.zero_add]; exact kc_cell (l := [0]) (blk_new _ _) j hj⟩) (by simp; have := unhide hz2; omega) (by have := unhide hsz; simp only [size_alloc]; omega) ?_
    intro v' w2 hO3 hG3
    have hG4 := hO2.grown (Nat.le_refl _) ((unhide hG).alloc _) hG3
    have hl : ((128 :: List.replicate k 0) ++ [0] : List Int) = 128 :: List.replicate (k + 1) 0 := by rw [List.cons_append, ← List.replicate_succ']
    rw [hl] at hO3
    obtain ⟨a', c', hv', _, _, _⟩ := hO3.slice
    have hv2 : v' = .slice a' (k + 1 + 1) c' := by rw [hv']; simp
    rw [hv2] at hO3
    rw [hv2]
    clear hO hG hO2 hG3 hv' hv2 hl
    replace hO3 := hide hO3
    replace hG4 := hide hG4
    simp only [nrm]
    iterate 1 (refine wpList_step fun K hK => ?_; replace hK := hide hK; go_simp; refine unhide hK _ _ ?_; clear hK K)
    refine wpList_nil ?_
    go_wp2_with fail
    exact ⟨⟨k + 1, a', c', by omega, rfl, hO3, hG4⟩, by show 65 - (k + 1 + 1) < 65 - (k + 1); have := unhide hz2; omega⟩
  · have hkz : k = z := by omega
    subst hkz
    have e4 : ((n : Int) + ((k : Int) + 1) + 8) % 64 = 0 := by omega
    have hO2 : Hid (Ob w.heap.size wr (.slice a (k + 1 + 0) c) (padH n ++ be8 (n * 8) 0)) := by
      have := unhide hO
      unfold padH be8
      rw [List.append_nil, ← unhide hz]
      exact this
    clear hO hil
    replace hz2 := hide hz2
    go_wp2_with fail
    go_loopw [5, 3] (fun s p wr => ∃ (r : Nat) (a : Option Addr) (c : Nat), r ≤ 8 ∧ s = .int .i64 (7 - (r : Int)) ∧ p = .slice a (k + 1 + r) c ∧ Hid (Ob w.heap.size wr (.slice a (k + 1 + r) c) (padH n ++ be8 (n * 8) r)) ∧ Hid (Gr w wr)) (fun s _ _ => (intOf s + 1).toNat)
    case atStart => exact ⟨0, a, c, by omega, rfl, rfl, hO2, hG⟩
    case round =>
    clear hO2 hG
    obtain ⟨r, a, c, hr, rfl, rfl, hO, hG⟩ := hrel
    by_cases hil : r < 8
    · obtain ⟨s, hs⟩ : ∃ s, s = 7 - r := ⟨_, rfl⟩
      have g0 : 7 - (r : Int) = (s : Int) := by omega
      rw [g0]
      have g1 : 0 ≤ (s : Int) := by omega
      obtain ⟨sh, hsh⟩ : ∃ sh, sh = 8 * s := ⟨_, rfl⟩
      have g2 : 8 * (s : Int) = (sh : Int) := by omega
      have g3 : 0 ≤ (sh : Int) := by omega
      have g6 : IntKind.i64.wrap (sh : Int) = (sh : Int) := by rw [IntKind.wrap_i64]; omega
      have g7 : (sh : Int) < 64 := by omega
      obtain ⟨y, hy⟩ : ∃ y : Int, y = ((n * 8 / 2 ^ (56 - 8 * r) % 256 : Nat) : Int) := ⟨_, rfl⟩
      have g4 : IntKind.u8.wrap ((n : Int) * 8 / 2 ^ sh) = y := by
        rw [IntKind.wrap_u8', hy, hsh, hs]
        have : (2 : Int) ^ (8 * (7 - r)) = ((2 ^ (56 - 8 * r) : Nat) : Int) := by
          rw [show 8 * (7 - r) = 56 - 8 * r by omega]; simp
        rw [this, show (n : Int) * 8 = ((n * 8 : Nat) : Int) by omega]
        rfl
      have g5 : IntKind.i64.wrap ((s : Int) - 1) = (s : Int) - 1 := by rw [IntKind.wrap_i64]; omega
      have g8 : IntKind.u64.wrap ((n : Int) * 8) = (n : Int) * 8 := by rw [IntKind.wrap_u64]; omega
      have hnx : Hid ((padH n ++ be8 (n * 8) r) ++ [y] = padH n ++ be8 (n * 8) (r + 1)) := by
        have h1 : be8 (n * 8) (r + 1) = be8 (n * 8) r ++ [y] := by rw [be8, hy]
        rw [h1]
        exact List.append_assoc _ _ _
      have hsz : Hid (w.heap.size ≤ wr.heap.size) := (unhide hG).size
      have hlen : (padH n ++ be8 (n * 8) r).length ≤ 100 := by
        have := padH_len n
        have h2 := be8_len (n * 8) r
        have h3 := unhide hz
        have h4 := unhide hz2
        rw [List.length_append]
        omega
      replace hsh := hide hsh
      replace hs := hide hs
      replace hy := hide hy
      go_upto_region 10 with fail
      refine wp_region_lit ?_
      iterate 7 (refine wpList_step fun K hK => ?_; replace hK := hide hK; go_simp; refine unhide hK _ _ ?_; clear hK K)
      have hO2 := (unhide hO).gr ((Gr.refl wr).alloc (.cells #[.int .u8 y] 5))
      refine app_bs (by kernel_rfl) (.tmp 26) (.tmp 32) rfl w.heap.size (.slice a (k + 1 + r) c) _ (by kernel_rfl) hO2 (some ⟨wr.heap.size, 0, none⟩) 1 1 [y] (by kernel_rfl) rfl (.inr ⟨_, 0, rfl, fun j hj => by rw [Nat.zero_add]; exact kc_cell (l := [y]) (blk_new _ _) j hj⟩) (by omega) (by have := unhide hsz; simp only [size_alloc]; omega) ?_
      intro v' w2 hO3 hG3
      have hG4 := hO2.grown (Nat.le_refl _) ((unhide hG).alloc _) hG3
      rw [unhide hnx] at hO3
      obtain ⟨a', c', hv', _, _, _⟩ := hO3.slice
      have hv2 : v' = .slice a' (k + 1 + (r + 1)) c' := by
        rw [hv', List.length_append, padH_len, be8_len, ← unhide hz]
      rw [hv2] at hO3
      rw [hv2]
      clear hO hG hO2 hG3 hv' hv2 hnx
      replace hO3 := hide hO3
      replace hG4 := hide hG4
      simp only [nrm]
      iterate 1 (refine wpList_step fun K hK => ?_; replace hK := hide hK; go_simp; refine unhide hK _ _ ?_; clear hK K)
      refine wpList_nil ?_
      go_wp2_with fail
      have hs1 := unhide hs
      refine ⟨⟨r + 1, a', c', by omega, by congr 1; omega, rfl, hO3, hG4⟩, ?_⟩
      show ((s : Int) - 1 + 1).toNat < ((s : Int) + 1).toNat
      omega
    · have e : r = 8 := by omega
      subst e
      have hP : Hid (RPadded n w (.returned (.slice a (k + 1 + 8) c)) wr) := ⟨_, rfl, unhide hO, unhide hG⟩
      clear hil hO hG
      go_wp2_with fail
      rw [unhide hT]
      exact unhide hP
end Go.Proofs.YtpmgmpihmpifgaaDoor
