/-
  What a Hash stands for.
-/
import Derived.Test.YthnmebhljkccnaaDoorShaPad
import Derived.Laws.IdiomCopy
namespace Go.Proofs.YthnmebhljkccnaaDoor
open Go.RowKit
set_option maxRecDepth 100000
set_option linter.unusedSimpArgs false

theorem blk_left {B : List Int} (C : List Int) (k : Nat) (h : 64 * (k + 1) ≤ B.length) : ((B ++ C).drop (64 * k)).take 64 = (B.drop (64 * k)).take 64 := by
  rw [List.drop_append_of_le_length (by omega), List.take_append_of_le_length (by rw [List.length_drop]; omega)]
theorem bk_left {B : List Int} (s C : List Int) : ∀ n, 64 * n ≤ B.length → bk n s (B ++ C) = bk n s B
  | 0, _ => rfl
  | n + 1, h => by rw [bk, bk, bk_left s C n (by omega), blk_left C n h]
theorem bk_append {B : List Int} (s C : List Int) (n : Nat) (hB : B.length = 64 * n) : ∀ m, bk (n + m) s (B ++ C) = bk m (bk n s B) C
  | 0 => bk_left s C n (by omega)
  | m + 1 => by
    have e : n + (m + 1) = (n + m) + 1 := by omega
    rw [e, bk, bk, bk_append s C n hB m, Nat.mul_add, ← List.drop_drop, ← hB, List.drop_left]
/-- the state of no bytes -/
def F0 : List Int := [1779033703, 3144134277, 1013904242, 2773480762, 1359893119, 2600822924, 528734635, 1541459225]
/-- the Hash at g stands for the bytes B -/
def H (g : Nat) (B : List Int) (v : World) : Prop := ∃ l, l.length = 64 ∧ IsB l ∧ v.heap[g]? = some (.cells (hc (bk (B.length / 64) F0 B) l B.length) 73 (0, 0)) ∧ l.take (B.length % 64) = B.drop (64 * (B.length / 64))
theorem H.gr {g : Nat} {B : List Int} {w v : World} (h : H g B w) (k : Gr w v) : H g B v := by
  obtain ⟨l, h1, h2, h3, h4⟩ := h
  exact ⟨l, h1, h2, k.blk h3, h4⟩
theorem H.bt {g p : Nat} {B : List Int} {w v : World} (h : H g B w) (k : Bt p w v) (hn : g ≠ p) : H g B v := by
  obtain ⟨l, h1, h2, h3, h4⟩ := h
  exact ⟨l, h1, h2, k.blk h3 hn, h4⟩
theorem H.whole {g : Nat} {B C : List Int} {v : World} {l : List Int} (hB : B.length % 64 = 0) (h1 : l.length = 64) (h2 : IsB l)
    (h3 : v.heap[g]? = some (.cells (hc (bk (C.length / 64) (bk (B.length / 64) F0 B) C) l ((B.length : Int) + C.length)) 73 (0, 0))) (h4 : l.take (C.length % 64) = C.drop (64 * (C.length / 64))) : H g (B ++ C) v := by
  have e1 : (B ++ C).length / 64 = B.length / 64 + C.length / 64 := by rw [List.length_append]; omega
  have e2 : (B ++ C).length % 64 = C.length % 64 := by rw [List.length_append]; omega
  have e3 : ((B ++ C).length : Int) = (B.length : Int) + C.length := by rw [List.length_append]; omega
  refine ⟨l, h1, h2, ?_, ?_⟩
  · rw [e1, bk_append F0 C (B.length / 64) (by omega), e3]
    exact h3
  · rw [e2, h4, e1, Nat.mul_add, ← List.drop_drop, show 64 * (B.length / 64) = B.length by omega, List.drop_left]

theorem hcl_len (s l : List Int) (n : Int) (hs : s.length = 8) (hl : l.length = 64) : (hcl s l n).length = 73 := by unfold hcl; simp [hs, hl]
theorem hcl_count (s l : List Int) (n m : Int) (hs : s.length = 8) (hl : l.length = 64) : (hcl s l n).set 72 (.int .i64 m) = hcl s l m := by
  unfold hcl
  rw [List.set_append_right _ _ (by simp [hs]), List.set_append_right _ _ (by simp [hs, hl])]
  simp [hs, hl]
theorem hcl_copy (s l B : List Int) (n : Int) (k : Nat) (hs : s.length = 8) (hk : k + B.length ≤ l.length) : sp (hcl s l n) (8 + k) (B.map (Value.int .u8)) = hcl s (l.take k ++ (B ++ l.drop (k + B.length))) n := by
  have e : hcl s l n = (s.map (Value.int .u32) ++ (l.take k).map (Value.int .u8)) ++ (((l.drop k).take B.length).map (Value.int .u8) ++ ((l.drop (k + B.length)).map (Value.int .u8) ++ [.int .i64 n])) := by
    unfold hcl
    rw [List.append_assoc]
    congr 1
    rw [← List.append_assoc, ← List.append_assoc, ← List.map_append, ← List.map_append]
    congr 2
    rw [List.append_assoc]
    have : (l.drop k).take B.length ++ l.drop (k + B.length) = l.drop k := by rw [← List.drop_drop, List.take_append_drop]
    rw [this, List.take_append_drop]
  have hlen : (s.map (Value.int .u32) ++ (l.take k).map (Value.int .u8)).length = 8 + k := by simp [hs]; omega
  have h := sp_mid (B.map (Value.int .u8)) (s.map (Value.int .u32) ++ (l.take k).map (Value.int .u8)) (((l.drop k).take B.length).map (Value.int .u8)) ((l.drop (k + B.length)).map (Value.int .u8) ++ [.int .i64 n]) (by simp; omega)
  rw [hlen, ← e] at h
  rw [h]
  unfold hcl
  simp [List.append_assoc]
/-- bytes behind a slice that does not lie in g -/
def SlX (g : Nat) (w : World) (a : Option Addr) (B : List Int) : Prop := B = [] ∨ ∃ p o, a = some ⟨p, o, none⟩ ∧ At w p o B ∧ p ≠ g
theorem SlX.gr {g : Nat} {w v : World} {a : Option Addr} {B : List Int} (h : SlX g w a B) (k : Gr w v) : SlX g v a B := by
  rcases h with h | ⟨p, o, h1, h2, h3⟩
  · exact .inl h
  · exact .inr ⟨p, o, h1, h2.gr k, h3⟩
theorem SlX.bt {g : Nat} {w v : World} {a : Option Addr} {B : List Int} (h : SlX g w a B) (k : Bt g w v) : SlX g v a B := by
  rcases h with h | ⟨p, o, h1, h2, h3⟩
  · exact .inl h
  · exact .inr ⟨p, o, h1, h2.bt k h3, h3⟩
theorem SlX.out {g : Nat} {w : World} {a : Option Addr} {B : List Int} (h : SlX g w a B) : SlO g w a B := by
  rcases h with h | ⟨p, o, h1, h2, h3⟩
  · exact .inl h
  · exact .inr ⟨p, o, h1, h2, .inl h3⟩
theorem At.take {w : World} {p o : Nat} {B : List Int} (h : At w p o B) (k : Nat) : At w p o (B.take k) := by
  intro j hj
  rw [List.length_take] at hj
  rw [h j (by omega)]
  have hk2 : j < k := by omega
  simp [List.getElem?_take, hk2]
theorem At.drop {w : World} {p o : Nat} {B : List Int} (h : At w p o B) (k : Nat) : At w p (o + k) (B.drop k) := by
  intro j hj
  rw [List.length_drop] at hj
  rw [Nat.add_assoc, h (k + j) (by omega)]
  simp
theorem isB_take {B : List Int} (h : IsB B) (k : Nat) : IsB (B.take k) := fun x hx => h x (List.mem_of_mem_take hx)
theorem isB_drop {B : List Int} (h : IsB B) (k : Nat) : IsB (B.drop k) := fun x hx => h x (List.mem_of_mem_drop hx)
theorem isB_append {B C : List Int} (h : IsB B) (k : IsB C) : IsB (B ++ C) := fun x hx => (List.mem_append.1 hx).elim (h x) (k x)
theorem Tryd.size5 : (Tryd.prog.info? 5).map (·.size) = some 1 := by kernel_rfl
/-- copy -/
theorem copy_wp {o : Oper} {a : Act} {w : World} {K : Act → World → Prop} {Q : Exit → Act → World → Prop} (d s : Operand) (ho : o.op = .call { callee := .builtin .copy, args := #[d, s], argTypes := #[22, 22] })
    (g off dLen dCap : Nat) (sp : Option Addr) (sLen sCap : Nat) (hd : a.eval d = .slice (some ⟨g, off, none⟩) dLen dCap) (hs : a.eval s = .slice sp sLen sCap)
    (C : List Value) (t : TypeId) (hg : w.heap[g]? = some (.cells C.toArray t (0, 0))) (B : List Int) (hn : B.length = Nat.min sLen dLen) (hsrc : B = [] ∨ ∃ p q, sp = some ⟨p, q, none⟩ ∧ At w p q B) (hfit : off + B.length ≤ C.length)
    (h : K (a.put o.dst (.int .i64 B.length)) (w.setCells g off (B.map (Value.int .u8)))) : o.wp Tryd.prog a w K Q := by
  rcases hsrc with rfl | ⟨p, q, rfl, hat⟩
  · have hrun := run_copy_none (P := Tryd.prog) w 22 22 o.type 5 (some ⟨g, off, none⟩) sp dLen dCap sLen sCap Tryd.underlying22 Tryd.size5 hn.symm
    unfold Oper.wp
    simp [execOp, ho, resolve, invoke, builtin, hd, hs, hrun, Result.andThen]
    exact h
  · have hth := there_of (n := B.length) hg hfit
    have hrun := run_copy_cells (P := Tryd.prog) w 22 22 o.type 5 g off dLen dCap ⟨p, q, none⟩ sLen sCap (B.map (Value.int .u8)) Tryd.underlying22 Tryd.size5 (by simpa using hn) (by
      intro j v hj
      have hj2 : j < B.length := by have := (List.getElem?_eq_some_iff.1 hj).1; simpa using this
      rw [Addr.add_mid, hat j hj2]
      simp [hj2] at hj ⊢
      exact hj) (fun j hj => (hth j (by simpa using hj)).1) (fun j hj => (hth j (by simpa using hj)).2) (by intro v hv; obtain ⟨x, _, rfl⟩ := List.mem_map.1 hv; rfl)
    unfold Oper.wp
    simp [execOp, ho, resolve, invoke, builtin, hd, hs, hrun, Result.andThen]
    exact h
end Go.Proofs.YthnmebhljkccnaaDoor
