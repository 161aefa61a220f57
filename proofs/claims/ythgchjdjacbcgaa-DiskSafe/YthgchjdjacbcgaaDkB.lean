/-
  Disks, as the document has them; rows of cells, one behind the other.
-/
import Derived.Test.YthgchjdjacbcgaaFloat
namespace Go.Proofs.Ythgchjdjacbcgaa
open Go.RowKit
set_option maxRecDepth 100000
set_option linter.unusedSimpArgs false
set_option linter.unusedVariables false
/-- a disk -/
structure Dk where
  safe : List (List Int)
  pend : List (Nat × List Int)
  dead : Bool
  left : Int
  ops : Nat
/-- a block's bytes -/
def BB (b : List Int) : Prop := b.length = 64 ∧ IsB b
/-- a disk that can be; m: what its counts do not pass -/
structure Dk.Ok (D : Dk) (m : Nat) : Prop where
  blk : ∀ b ∈ D.safe, BB b
  pnd : ∀ x ∈ D.pend, x.1 < D.safe.length ∧ BB x.2
  lo1 : 1 ≤ D.safe.length
  hi1 : D.safe.length ≤ 512
  lo : -1 ≤ D.left
  hi : D.left < 9223372036854775808
  ops : D.ops ≤ m
  num : D.pend.length ≤ m
theorem Dk.Ok.up {D : Dk} {m k : Nat} (h : D.Ok m) (hk : m ≤ k) : D.Ok k := ⟨h.blk, h.pnd, h.lo1, h.hi1, h.lo, h.hi, Nat.le_trans h.ops hk, Nat.le_trans h.num hk⟩
def ZB : List Int := List.replicate 64 0
theorem ZB_bb : BB ZB := ⟨rfl, fun x hx => by have := List.eq_of_mem_replicate hx; omega⟩
/-- what a sector holds behind the first k of the pending writes -/
def curL (S : List (List Int)) (P : List (Nat × List Int)) (i : Nat) : Nat → List Int
  | 0 => S.getD i []
  | k + 1 => if (P.getD k (0, [])).1 = i then (P.getD k (0, [])).2 else curL S P i k
def Dk.cur (D : Dk) (i : Nat) : List Int := curL D.safe D.pend i D.pend.length
def Dk.has (D : Dk) (i : Int) : Prop := 0 ≤ i ∧ i < (D.safe.length : Int)
instance (D : Dk) (i : Int) : Decidable (D.has i) := by unfold Dk.has; exact inferInstance
/-- Read -/
def Dk.readB (D : Dk) (i : Int) : List Int := if D.dead then ZB else if D.has i then D.cur i.toNat else ZB
def Dk.readE (D : Dk) (i : Int) : Int := if D.dead then 7 else if D.has i then 0 else 2
/-- is a write or a sync done? -/
def Dk.doneB (D : Dk) : Bool := decide (D.left ≠ 0)
def Dk.doneD (D : Dk) : Dk := if D.left = 0 then { D with dead := true } else { D with left := if 0 < D.left then D.left - 1 else D.left, ops := D.ops + 1 }
/-- the first k pending writes live on, those that are kept -/
def liv (S : List (List Int)) (P : List (Nat × List Int)) (keep : List Bool) : Nat → List (List Int)
  | 0 => S
  | k + 1 => if keep.getD k false then (liv S P keep k).set (P.getD k (0, [])).1 (P.getD k (0, [])).2 else liv S P keep k
def Dk.live (D : Dk) (keep : List Bool) : Dk := { D with safe := liv D.safe D.pend keep D.pend.length, pend := [] }
def Dk.all (D : Dk) : List Bool := List.replicate D.pend.length true
/-- Write -/
def Dk.writeD (D : Dk) (i : Int) (b : List Int) : Dk := if D.dead then D else if D.has i then (if D.left = 0 then D.doneD else { D.doneD with pend := D.doneD.pend ++ [(i.toNat, b)] }) else D
def Dk.writeE (D : Dk) (i : Int) : Int := if D.dead then 7 else if D.has i then (if D.left = 0 then 7 else 0) else 2
/-- Sync -/
def Dk.syncD (D : Dk) : Dk := if D.dead then D else if D.left = 0 then D.doneD else D.doneD.live D.doneD.all
def Dk.syncE (D : Dk) : Int := if D.dead then 7 else if D.left = 0 then 7 else 0
/-- Arm -/
def Dk.armD (D : Dk) (n : Int) : Dk := if D.dead then D else { D with left := if n < -1 then -1 else n }
def Dk.armE (D : Dk) : Int := if D.dead then 7 else 0
/-- Crash -/
def Dk.crashD (D : Dk) (keep : List Bool) : Dk := { D.live keep with dead := false, left := -1 }
/-- a new one -/
def dk0 (n : Nat) : Dk := ⟨List.replicate n ZB, [], false, -1, 0⟩
theorem mem_of_getD {α : Type} {l : List α} {d : α} {i : Nat} (h : i < l.length) : l.getD i d ∈ l := by
  rw [List.getD_eq_getElem?_getD, List.getElem?_eq_getElem h]
  exact List.getElem_mem h
theorem curL_bb {D : Dk} {m : Nat} (h : D.Ok m) (i : Nat) (hi : i < D.safe.length) : ∀ k, k ≤ D.pend.length → BB (curL D.safe D.pend i k)
  | 0, _ => h.blk _ (mem_of_getD hi)
  | k + 1, hk => by
    unfold curL
    split
    · exact (h.pnd _ (mem_of_getD (by omega))).2
    · exact curL_bb h i hi k (by omega)
theorem Dk.cur_bb {D : Dk} {m : Nat} (h : D.Ok m) (i : Nat) (hi : i < D.safe.length) : BB (D.cur i) := curL_bb h i hi _ (Nat.le_refl _)
theorem Dk.readB_bb {D : Dk} {m : Nat} (h : D.Ok m) (i : Int) : BB (D.readB i) := by
  unfold Dk.readB
  split
  · exact ZB_bb
  · split
    · rename_i h2
      exact Dk.cur_bb h _ (by unfold Dk.has at h2; omega)
    · exact ZB_bb
theorem liv_len (S : List (List Int)) (P : List (Nat × List Int)) (keep : List Bool) : ∀ k, (liv S P keep k).length = S.length
  | 0 => rfl
  | k + 1 => by
    unfold liv
    split
    · rw [List.length_set, liv_len S P keep k]
    · exact liv_len S P keep k
theorem mem_set_or {α : Type} {l : List α} {i : Nat} {x y : α} (h : y ∈ l.set i x) : y = x ∨ y ∈ l := by
  rcases List.mem_or_eq_of_mem_set h with h | h
  · exact .inr h
  · exact .inl h
theorem liv_bb {S : List (List Int)} {P : List (Nat × List Int)} (hS : ∀ b ∈ S, BB b) (hP : ∀ x ∈ P, BB x.2) (keep : List Bool) : ∀ k, k ≤ P.length → ∀ b ∈ liv S P keep k, BB b
  | 0, _ => hS
  | k + 1, hk => by
    intro b hb
    unfold liv at hb
    split at hb
    · rcases mem_set_or hb with rfl | h
      · exact hP _ (mem_of_getD (by omega))
      · exact liv_bb hS hP keep k (by omega) b h
    · exact liv_bb hS hP keep k (by omega) b hb
theorem Dk.Ok.done {D : Dk} {m : Nat} (h : D.Ok m) : D.doneD.Ok (m + 1) := by
  unfold Dk.doneD
  split
  · exact ⟨h.blk, h.pnd, h.lo1, h.hi1, h.lo, h.hi, by have := h.ops; show D.ops ≤ m + 1; omega, by have := h.num; show D.pend.length ≤ m + 1; omega⟩
  · refine ⟨h.blk, h.pnd, h.lo1, h.hi1, ?_, ?_, by have := h.ops; show D.ops + 1 ≤ m + 1; omega, by have := h.num; show D.pend.length ≤ m + 1; omega⟩
    · have h1 := h.lo
      dsimp only
      split <;> omega
    · have h1 := h.hi
      dsimp only
      split <;> omega
theorem Dk.Ok.live {D : Dk} {m : Nat} (h : D.Ok m) (keep : List Bool) : (D.live keep).Ok m := by
  unfold Dk.live
  refine ⟨?_, (fun x hx => by cases hx), ?_, ?_, h.lo, h.hi, h.ops, Nat.zero_le _⟩
  · exact liv_bb h.blk (fun x hx => (h.pnd x hx).2) keep _ (Nat.le_refl _)
  · show 1 ≤ (liv _ _ _ _).length
    rw [liv_len]; exact h.lo1
  · show (liv _ _ _ _).length ≤ 512
    rw [liv_len]; exact h.hi1
theorem Dk.Ok.write {D : Dk} {m : Nat} (h : D.Ok m) (i : Int) (b : List Int) (hb : BB b) : (D.writeD i b).Ok (m + 1) := by
  unfold Dk.writeD
  split
  · exact h.up (by omega)
  · split
    · rename_i h2
      split
      · exact h.done
      · rename_i h3
        have k := h.done
        have e : D.doneD.safe = D.safe ∧ D.doneD.pend = D.pend := by unfold Dk.doneD; split <;> exact ⟨rfl, rfl⟩
        refine ⟨k.blk, ?_, k.lo1, k.hi1, k.lo, k.hi, k.ops, ?_⟩
        · intro x hx
          rcases List.mem_append.1 hx with hx | hx
          · exact k.pnd x hx
          · rw [List.mem_singleton] at hx
            subst hx
            refine ⟨?_, hb⟩
            show i.toNat < D.doneD.safe.length
            rw [e.1]
            unfold Dk.has at h2
            omega
        · show (D.doneD.pend ++ [(i.toNat, b)]).length ≤ m + 1
          rw [List.length_append, e.2]
          have := h.num
          simp
          omega
    · exact h.up (by omega)
theorem Dk.Ok.sync {D : Dk} {m : Nat} (h : D.Ok m) : D.syncD.Ok (m + 1) := by
  unfold Dk.syncD
  split
  · exact h.up (by omega)
  · split
    · exact h.done
    · exact h.done.live _
theorem Dk.Ok.arm {D : Dk} {m : Nat} (h : D.Ok m) (n : Int) (hn : n < 9223372036854775808) : (D.armD n).Ok m := by
  unfold Dk.armD
  split
  · exact h
  · refine ⟨h.blk, h.pnd, h.lo1, h.hi1, ?_, ?_, h.ops, h.num⟩
    · dsimp only
      split <;> omega
    · dsimp only
      split <;> omega
theorem Dk.Ok.crash {D : Dk} {m : Nat} (h : D.Ok m) (keep : List Bool) : (D.crashD keep).Ok m := by
  have k := h.live keep
  exact ⟨k.blk, k.pnd, k.lo1, k.hi1, by show (-1 : Int) ≤ -1; omega, by show (-1 : Int) < _; omega, k.ops, k.num⟩
theorem dk0_ok (n : Nat) (h1 : 1 ≤ n) (h2 : n ≤ 512) : (dk0 n).Ok 0 := by
  refine ⟨?_, (fun x hx => by cases hx), ?_, ?_, by show (-1 : Int) ≤ -1; omega, by show (-1 : Int) < _; omega, Nat.le_refl _, Nat.le_refl _⟩
  · intro b hb
    rw [List.eq_of_mem_replicate hb]
    exact ZB_bb
  · show 1 ≤ (List.replicate n ZB).length
    rw [List.length_replicate]; exact h1
  · show (List.replicate n ZB).length ≤ 512
    rw [List.length_replicate]; exact h2
/-- a block's cells, a write's cells -/
def bv (b : List Int) : List Value := b.map (Value.int .u8)
def wv (x : Nat × List Int) : List Value := Value.int .i64 (x.1 : Int) :: bv x.2
theorem bv_len (b : List Int) : (bv b).length = b.length := by unfold bv; simp
theorem wv_len (x : Nat × List Int) : (wv x).length = x.2.length + 1 := by unfold wv; simp [bv_len]
theorem kc_bv (b : List Int) : kc b = (bv b).toArray := rfl
theorem bv_one (b : List Int) : (bv b).toArray.all (·.oneCell') = true := kc_one b
theorem wv_one (x : Nat × List Int) : (wv x).toArray.all (·.oneCell') = true := by unfold wv bv; simp [Value.oneCell']
/-- rows of k cells lie there, one behind the other -/
structure Ls (k : Nat) (w : World) (a : Option Addr) (n c : Nat) (R : List (List Value)) : Prop where
  len : R.length = n
  row : ∀ r ∈ R, r.length = k
  sl : R = [] ∨ ∃ p o, a = some ⟨p, o, none⟩ ∧ w.rangeAt p o R.flatten
  cap : n ≤ c
  max : c < 9223372036854775808
  low : ∀ p, a.map (·.block) = some p → p < w.heap.size
theorem range_gr {w v : World} {p o : Nat} {L : List Value} (h : w.rangeAt p o L) (g : Gr w v) : v.rangeAt p o L := fun j x hj => g.cell (h j x hj)
theorem range_bt {g : Nat} {w v : World} {p o : Nat} {L : List Value} (h : w.rangeAt p o L) (k : Bt g w v) (hp : p ≠ g) : v.rangeAt p o L := fun j x hj => k.cell (h j x hj) hp
theorem Ls.gr {k : Nat} {w v : World} {a : Option Addr} {n c : Nat} {R : List (List Value)} (h : Ls k w a n c R) (g : Gr w v) : Ls k v a n c R := by
  refine ⟨h.len, h.row, ?_, h.cap, h.max, fun p e => Nat.lt_of_lt_of_le (h.low p e) g.size⟩
  rcases h.sl with h | ⟨p, o, h1, h2⟩
  · exact .inl h
  · exact .inr ⟨p, o, h1, range_gr h2 g⟩
theorem flat_row : ∀ (R : List (List Value)) (k : Nat), (∀ r ∈ R, r.length = k) → ∀ (i j : Nat), i < R.length → j < k → R.flatten[k * i + j]? = (R.getD i [])[j]?
  | [], _, _, i, _, hi, _ => absurd hi (Nat.not_lt_zero i)
  | r :: R, k, h, 0, j, _, hj => by
    have hr := h r List.mem_cons_self
    rw [List.flatten_cons, Nat.mul_zero, Nat.zero_add, List.getElem?_append_left (by omega)]
    rfl
  | r :: R, k, h, i + 1, j, hi, hj => by
    have hr := h r List.mem_cons_self
    have ih := flat_row R k (fun x hx => h x (List.mem_cons_of_mem _ hx)) i j (by simpa using hi) hj
    rw [List.flatten_cons, List.getElem?_append_right (by rw [hr, Nat.mul_succ]; omega), hr, show k * (i + 1) + j - k = k * i + j from by rw [Nat.mul_succ]; omega, ih]
    rfl
theorem Ls.at_ {k : Nat} {w : World} {a : Option Addr} {n c : Nat} {R : List (List Value)} (h : Ls k w a n c R) (i : Nat) (hi : i < n) : ∃ p o, a = some ⟨p, o, none⟩ ∧ w.rangeAt p (o + k * i) (R.getD i []) := by
  have hl := h.len
  rcases h.sl with h0 | ⟨p, o, h1, h2⟩
  · rw [h0] at hl
    simp at hl
    omega
  · refine ⟨p, o, h1, fun j x hj => ?_⟩
    have hrl := h.row _ (mem_of_getD (d := []) (show i < R.length by omega))
    have hj2 : j < k := by have := (List.getElem?_eq_some_iff.1 hj).1; omega
    rw [Nat.add_assoc]
    exact h2 _ _ (by rw [flat_row R k h.row i j (by omega) hj2]; exact hj)
theorem getD_map {α β : Type} (f : α → β) (l : List α) (i : Nat) (d : α) (e : β) (h : i < l.length) : (l.map f).getD i e = f (l.getD i d) := by
  rw [List.getD_eq_getElem?_getD, List.getD_eq_getElem?_getD, List.getElem?_map, List.getElem?_eq_getElem h]
  rfl
/-- the cells of the reference's disk -/
def dkv (sa : Option Addr) (sn sc : Nat) (pa : Option Addr) (pn pc : Nat) (d : Bool) (l : Int) (o : Nat) : Array Value := #[.slice sa sn sc, .slice pa pn pc, .bool d, .int .i64 l, .int .i64 (o : Int)]
theorem dkv_one (sa : Option Addr) (sn sc : Nat) (pa : Option Addr) (pn pc : Nat) (d : Bool) (l : Int) (o : Nat) : (dkv sa sn sc pa pn pc d l o).all (·.oneCell') = true := by unfold dkv; simp [Value.oneCell']
/-- the reference's disk -/
structure Rd (w : World) (sa : Option Addr) (sc : Nat) (pa : Option Addr) (pc : Nat) (D : Dk) : Prop where
  sf : Ls 64 w sa D.safe.length sc (D.safe.map bv)
  pn : Ls 65 w pa D.pend.length pc (D.pend.map wv)
theorem Rd.gr {w v : World} {sa : Option Addr} {sc : Nat} {pa : Option Addr} {pc : Nat} {D : Dk} (h : Rd w sa sc pa pc D) (g : Gr w v) : Rd v sa sc pa pc D := ⟨h.sf.gr g, h.pn.gr g⟩
/-- the block of an address -/
def blkOf (a : Option Addr) : Option Nat := a.map (·.block)
/-- an address lies where another one does, or in what is new -/
def Fr2 (w : World) (a a' : Option Addr) : Prop := ∀ p, blkOf a' = some p → blkOf a = some p ∨ w.heap.size ≤ p
theorem Fr2.refl (w : World) (a : Option Addr) : Fr2 w a a := fun p h => .inl h
theorem Fr2.none (w : World) (a : Option Addr) : Fr2 w a none := fun p h => by cases h
theorem Fr2.new {w : World} (a : Option Addr) {g o : Nat} (h : w.heap.size ≤ g) : Fr2 w a (some ⟨g, o, Option.none⟩) := fun p e => by
  have : g = p := by simpa [blkOf] using e
  exact .inr (by omega)
theorem Fr2.far {w v : World} {a a' : Option Addr} (h : Fr2 v a a') (hl : ∀ p, a.map (·.block) = some p → p < w.heap.size) {g : Nat} (h1 : w.heap.size ≤ g) (h2 : g < v.heap.size) : blkOf a' ≠ some g := fun e => by
  rcases h g e with h | h
  · have := hl g h
    omega
  · omega
theorem Fr2.trans {w v : World} {a a' : Option Addr} (h : Fr2 v a a') (hs : w.heap.size ≤ v.heap.size) : Fr2 w a a' := fun p e => by
  rcases h p e with h | h
  · exact .inl h
  · exact .inr (Nat.le_trans hs h)
theorem Ls.bt {k : Nat} {g : Nat} {w v : World} {a : Option Addr} {n c : Nat} {R : List (List Value)} (h : Ls k w a n c R) (b : Bt g w v) (hg : blkOf a ≠ some g) : Ls k v a n c R := by
  refine ⟨h.len, h.row, ?_, h.cap, h.max, fun p e => Nat.lt_of_lt_of_le (h.low p e) b.size⟩
  rcases h.sl with h | ⟨p, o, rfl, h2⟩
  · exact .inl h
  · exact .inr ⟨p, o, rfl, range_bt h2 b (fun e => hg (by rw [← e]; rfl))⟩
theorem Rd.bt {g : Nat} {w v : World} {sa : Option Addr} {sc : Nat} {pa : Option Addr} {pc : Nat} {D : Dk} (h : Rd w sa sc pa pc D) (b : Bt g w v) (h1 : blkOf sa ≠ some g) (h2 : blkOf pa ≠ some g) : Rd v sa sc pa pc D := ⟨h.sf.bt b h1, h.pn.bt b h2⟩
def Dk.v (D : Dk) (sa : Option Addr) (sc : Nat) (pa : Option Addr) (pc : Nat) : Array Value := dkv sa D.safe.length sc pa D.pend.length pc D.dead D.left D.ops
end Go.Proofs.Ythgchjdjacbcgaa
