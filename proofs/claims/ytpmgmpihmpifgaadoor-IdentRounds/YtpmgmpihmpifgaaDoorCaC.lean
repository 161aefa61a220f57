/-
  The quarter by the reference. Four bytes as a word, the places of the quarters, by the reference. The block by the reference. Bytes xored with the stream, by the reference.
-/
import Derived.Test.YtpmgmpihmpifgaaDoorCaB
import Derived.Deep.QuietTactic
import Derived.BigQuiet
namespace Go.Proofs.YtpmgmpihmpifgaaDoor
open Go.RowKit
set_option maxRecDepth 100000
set_option linter.unusedSimpArgs false
set_option linter.unusedVariables false
/-- append, as an operation of a region that draws its order -/
theorem app_op {w : World} {o : Oper} {a : Act} {K : Act → World → Prop} {Q : Exit → Act → World → Prop} (s x : Operand)
    (ho : o.op = .call { callee := .builtin .append, args := #[s, x], argTypes := #[33, 33] }) (b : Nat) (v : Value) (L : List Int) (hs : a.eval s = v) (hown : Ob b w v L)
    (sp : Option Addr) (n sc : Nat) (l : List Int) (hx : a.eval x = .slice sp n sc) (hn : l.length = n) (hsl : Sl w sp l) (hbig : L.length + n ≤ 180000000000000) (hB : b ≤ w.heap.size)
    (h : ∀ v' w', Ob b w' v' (L ++ l) → w.grownBy w' v.ownBlock → K (a.put o.dst v') w') : o.wp Tryd.prog a w K Q := by
  subst hn
  obtain ⟨i0, hi, hz0, hz1, hz2⟩ := info_parts Tryd.info5
  rcases hsl with rfl | ⟨p, q, rfl, hat⟩
  · obtain ⟨a', c', rfl, hc, _, _⟩ := hown.slice
    have hrun : (Builtin.append_ #[33, 33] o.type #[.slice a' L.length c', .slice sp 0 sc]).run Tryd.prog w = .ok (.slice a' L.length c') w := by
      cases a' <;> cases sp <;> simp [Builtin.append_, run_underlying Tryd.underlying33, sizeOf, typeInfo, hi, Builtin.lenOf, Builtin.firstCells, loadCells, loadCellsFrom, storeCells, hc]
    unfold Oper.wp
    simp [execOp, ho, resolve, invoke, builtin, hs, hx, hrun, Result.andThen]
    exact h _ _ (by rw [List.append_nil]; exact hown) (World.grownBy.refl _ _)
  · refine wp_append_own_wide w s x 33 ho b 5 i0 (.int .u8 0) 1 1 Tryd.underlying33 hi hz0 hz1 hz2 rfl (by decide) v L.length _ hs hown ⟨p, q, none⟩ l.length sc (l.map (Value.int .u8)) hx (by simp) ?_ ?_ (by unfold maxLen; omega) (by omega) hB ?_
    · intro j u hj
      have hjl : j < l.length := by have := (List.getElem?_eq_some_iff.1 hj).1; simpa using this
      rw [Addr.add_mid, hat j hjl]
      simp [hjl] at hj ⊢
      exact hj
    · intro u hu
      obtain ⟨y, _, rfl⟩ := List.mem_map.1 hu
      rfl
    · intro v' w' h1 h2 _
      refine h v' w' ?_ h2
      unfold Ob
      rw [List.length_append, List.map_append]
      exact h1
/-- four bytes as a word -/
def wd (K : List Int) (o : Nat) : Int := bits .or .u32 (bits .or .u32 (bits .or .u32 (K.getD o 0) (K.getD (o + 1) 0 * 256)) (K.getD (o + 2) 0 * 65536)) (K.getD (o + 3) 0 * 16777216)
/-- numbers in a row -/
def ic (l : List Nat) : Array Value := (l.map (fun x : Nat => Value.int .i64 (x : Int))).toArray
theorem ic_size (l : List Nat) : (ic l).size = l.length := by simp [ic]
theorem ic_one (l : List Nat) : (ic l).all (·.oneCell') = true := by unfold ic; simp [Value.oneCell']
theorem ic_cell {v : World} {g : Nat} {l : List Nat} {t : TypeId} (h : v.heap[g]? = some (.cells (ic l) t (0, 0))) (i : Nat) (hi : i < l.length) : v.cell? ⟨g, i, none⟩ = some (.int .i64 ((l.getD i 0 : Nat) : Int)) := by
  refine cell_of h ?_
  unfold ic
  simp [hi]
/-- the places of the eight quarters -/
def PL : List Nat := [0, 4, 8, 12, 1, 5, 9, 13, 2, 6, 10, 14, 3, 7, 11, 15, 0, 5, 10, 15, 1, 6, 11, 12, 2, 7, 8, 13, 3, 4, 9, 14]
def P32 : List Nat := List.replicate 32 0
/-- the places of the quarter number t -/
def pl4 (t : Nat) : List Nat := (PL.drop (4 * t)).take 4
theorem pl4_len (t : Nat) (h : t < 8) : (pl4 t).length = 4 := by unfold pl4 PL; simp; omega
theorem pl4_lt (t : Nat) (h : t < 8) : ∀ i, (pl4 t).getD i 0 < 16 := by
  have hd : ∀ t, t < 8 → ∀ i, i < 4 → (pl4 t).getD i 0 < 16 := by decide
  intro i
  rcases Nat.lt_or_ge i 4 with hi | hi
  · exact hd t h i hi
  · rw [List.getD_eq_getElem?_getD, List.getElem?_eq_none (by rw [pl4_len t h]; exact hi)]
    decide
/-- the words behind t quarters of two rounds -/
def qpl (X : List Int) (p : List Nat) : List Int := qp X (p.getD 0 0) (p.getD 1 0) (p.getD 2 0) (p.getD 3 0)
def dq (X : List Int) : Nat → List Int
  | 0 => X
  | t + 1 => qpl (dq X t) (pl4 t)
theorem dq_len (X : List Int) : ∀ t, (dq X t).length = X.length
  | 0 => rfl
  | t + 1 => by rw [dq, qpl, qp_len, dq_len X t]
theorem dq_all (X : List Int) : dq X 8 = dbl X := rfl
/-- the words of the key, of the nonce, as far as n -/
def wk (K W : List Int) (p : Nat) : Nat → List Int
  | 0 => W
  | n + 1 => (wk K W p n).set (p + n) (wd K (4 * n))
theorem wk_len (K W : List Int) (p : Nat) : ∀ n, (wk K W p n).length = W.length
  | 0 => rfl
  | n + 1 => by rw [wk, List.length_set, wk_len K W p n]
/-- four words stored one by one -/
def qset (X : List Int) (p : List Nat) (q : List Int) : Nat → List Int
  | 0 => X
  | i + 1 => (qset X p q i).set (p.getD i 0) (q.getD i 0)
theorem qset_len (X : List Int) (p : List Nat) (q : List Int) : ∀ i, (qset X p q i).length = X.length
  | 0 => rfl
  | i + 1 => by rw [qset, List.length_set, qset_len X p q i]
theorem qset_all (X : List Int) (p : List Nat) : qset X p (ql (quar (X.getD (p.getD 0 0) 0) (X.getD (p.getD 1 0) 0) (X.getD (p.getD 2 0) 0) (X.getD (p.getD 3 0) 0))) 4 = qpl X p := rfl
/-- the words of key and nonce, by both -/
def ob (K : List Int) (o : Nat) : Int := bits .or .u32 (bits .or .u32 (bits .or .u32 (bits .or .u32 0 (K.getD o 0 * 2 ^ 0 % 4294967296)) (K.getD (o + 1) 0 * 2 ^ 8 % 4294967296)) (K.getD (o + 2) 0 * 2 ^ 16 % 4294967296)) (K.getD (o + 3) 0 * 2 ^ 24 % 4294967296)
theorem ob_wd (K : List Int) (h : IsB K) (o : Nat) : ob K o = wd K o := by
  have b0 := h.at_ o
  have b1 := h.at_ (o + 1)
  have b2 := h.at_ (o + 2)
  have b3 := h.at_ (o + 3)
  unfold ob wd
  rw [show K.getD o 0 * 2 ^ 0 % 4294967296 = K.getD o 0 from by omega, or_zero _ ⟨b0.1, by omega⟩, show K.getD (o + 1) 0 * 2 ^ 8 % 4294967296 = K.getD (o + 1) 0 * 256 from by omega, show K.getD (o + 2) 0 * 2 ^ 16 % 4294967296 = K.getD (o + 2) 0 * 65536 from by omega, show K.getD (o + 3) 0 * 2 ^ 24 % 4294967296 = K.getD (o + 3) 0 * 16777216 from by omega]
theorem kw_key (K : List Int) : kw 4 K W0 32 = [1634760805, 857760878, 2036477234, 1797285236, ob K 0, ob K 4, ob K 8, ob K 12, ob K 16, ob K 20, ob K 24, ob K 28, 0, 0, 0, 0] := by kernel_rfl
theorem kw_nonce (N : List Int) (a0 a1 a2 a3 a4 a5 a6 a7 a8 a9 a10 a11 a12 : Int) : kw 13 N [a0, a1, a2, a3, a4, a5, a6, a7, a8, a9, a10, a11, a12, 0, 0, 0] 12 = [a0, a1, a2, a3, a4, a5, a6, a7, a8, a9, a10, a11, a12, ob N 0, ob N 4, ob N 8] := by kernel_rfl
theorem wk_key (K : List Int) : wk K W0 4 8 = [1634760805, 857760878, 2036477234, 1797285236, wd K 0, wd K 4, wd K 8, wd K 12, wd K 16, wd K 20, wd K 24, wd K 28, 0, 0, 0, 0] := by kernel_rfl
theorem wk_nonce (N : List Int) (a0 a1 a2 a3 a4 a5 a6 a7 a8 a9 a10 a11 a12 : Int) : wk N [a0, a1, a2, a3, a4, a5, a6, a7, a8, a9, a10, a11, a12, 0, 0, 0] 13 3 = [a0, a1, a2, a3, a4, a5, a6, a7, a8, a9, a10, a11, a12, wd N 0, wd N 4, wd N 8] := by kernel_rfl
theorem words_eq (K N : List Int) (hK : IsB K) (hN : IsB N) (c : Int) : wk N ((wk K W0 4 8).set 12 c) 13 3 = (bg K N).set 12 c := by
  unfold bg
  rw [kw_key, kw_nonce, wk_key]
  simp only [List.set_cons_zero, List.set_cons_succ]
  rw [wk_nonce]
  simp only [ob_wd K hK, ob_wd N hN]
/-- blocks of another kind stay as bytes are put behind others -/
theorem Bl.grown {w v v' : World} {L : List Blk} (h : Bl w L v) {b : Nat} {x : Value} {M : List Int} (ho : Ob b v x M) (hb : w.heap.size ≤ b) (k : v.grownBy v' x.ownBlock) (ht : ∀ y ∈ L, y.t ≠ 5) : Bl w L v' := by
  refine ⟨Ob.grown ho hb h.gr k, fun y hy => ?_, h.ne⟩
  obtain ⟨h1, h2⟩ := h.at_ y hy
  refine ⟨?_, h2⟩
  rw [k.block y.g (lt_of_block h1) ?_]
  · exact h1
  · intro e
    rcases ho.2 with ⟨rfl, _⟩ | ⟨g, cap, cur, rfl, _, h3, _⟩
    · cases e
    · have e2 : y.g = g := by simpa [Value.ownBlock] using e
      rw [e2] at h1
      rw [h3] at h1
      simp only [Blk.obj, Option.some.injEq, Obj.cells.injEq] at h1
      exact ht y hy h1.2.1.symm
/-- the first m bytes -/
def pre (K N : List Int) (c : Int) (B : List Int) (m : Nat) : List Int := (List.range m).map (xf K N c B)
theorem pre_len (K N : List Int) (c : Int) (B : List Int) (m : Nat) : (pre K N c B m).length = m := by simp [pre]
theorem pre_succ (K N : List Int) (c : Int) (B : List Int) (m : Nat) : pre K N c B m ++ [xf K N c B m] = pre K N c B (m + 1) := by
  unfold pre
  rw [List.range_succ, List.map_append]
  rfl
def Xr (K N : List Int) (c : Int) (B : List Int) (w : World) (r : Ending) (w' : World) : Prop := ∃ v, r = .returned v ∧ Ob w.heap.size w' v (xl K N c B) ∧ Gr w w'
theorem Ob.other {b : Nat} {w : World} {v : Value} {L : List Int} (h : Ob b w v L) {g : Nat} {c : Array Value} {t : TypeId} (hg : w.heap[g]? = some (.cells c t (0, 0))) (ht : t ≠ 5) (cs : Array Value) : Ob b (w.setRow g cs) v L := by
  rcases h with ⟨h0, h1 | ⟨g', cap, cur, h1, h2, h3, h4⟩⟩
  · exact ⟨h0, .inl h1⟩
  · refine ⟨h0, .inr ⟨g', cap, cur, h1, h2, ?_, h4⟩⟩
    have hne : g' ≠ g := by
      rintro rfl
      rw [hg] at h3
      simp only [Option.some.injEq, Obj.cells.injEq] at h3
      exact ht h3.2.1
    exact (setRow_other w g g' cs hne).trans h3
end Go.Proofs.YtpmgmpihmpifgaaDoor
