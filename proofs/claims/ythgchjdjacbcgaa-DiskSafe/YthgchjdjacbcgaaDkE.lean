/-
  Rows that are put behind rows of one's own; a row that is laid over another.
-/
import Derived.Test.YthgchjdjacbcgaaDkD
namespace Go.Proofs.Ythgchjdjacbcgaa
open Go.RowKit
set_option maxRecDepth 100000
set_option linter.unusedSimpArgs false
set_option linter.unusedVariables false
/-- rows that the call itself has made -/
def Or_ (k : Nat) (e : TypeId) (b : Nat) (w : World) (v : Value) (R : List (List Value)) : Prop := (∀ r ∈ R, r.length = k) ∧ w.ownsRow b e k v R.length R.flatten
theorem flat_len : ∀ (R : List (List Value)) (k : Nat), (∀ r ∈ R, r.length = k) → R.flatten.length = R.length * k
  | [], _, _ => by simp
  | r :: R, k, h => by
    have h1 := h r List.mem_cons_self
    have ih := flat_len R k (fun x hx => h x (List.mem_cons_of_mem _ hx))
    rw [List.flatten_cons, List.length_append, ih, h1, List.length_cons, Nat.add_mul]
    omega
theorem ownsRow_gr {k : Nat} {e : TypeId} {b : Nat} {w u : World} {v : Value} {n : Nat} {xs : List Value} (h : w.ownsRow b e k v n xs) (g : Gr w u) : u.ownsRow b e k v n xs := by
  obtain ⟨h1, h2 | ⟨p, cap, cur, h2, h3, h4, h5⟩⟩ := h
  · exact ⟨h1, .inl h2⟩
  · exact ⟨h1, .inr ⟨p, cap, cur, h2, h3, g.blk h4, h5⟩⟩
theorem Or_.gr {k : Nat} {e : TypeId} {b : Nat} {w u : World} {v : Value} {R : List (List Value)} (h : Or_ k e b w v R) (g : Gr w u) : Or_ k e b u v R := ⟨h.1, ownsRow_gr h.2 g⟩
theorem Or_.ls {k : Nat} {e : TypeId} {b : Nat} {w : World} {v : Value} {R : List (List Value)} (h : Or_ k e b w v R) : ∃ a c, v = .slice a R.length c ∧ Ls k w a R.length c R := by
  rcases h.2.2 with ⟨h1, h2⟩ | ⟨g, cap, cur, h1, h2, h3, h4, h5, h6, h7⟩
  · have e : R = [] := List.eq_nil_of_length_eq_zero h2
    subst e
    exact ⟨none, 0, h1, rfl, (fun r hr => by cases hr), .inl rfl, Nat.le_refl _, by omega, (fun p e => by cases e)⟩
  · refine ⟨_, cap, h1, rfl, h.1, .inr ⟨g, 0, rfl, fun j x hj => ?_⟩, h4, by unfold maxLen at h5; omega, fun p e => by have e3 := Option.some.inj e; rw [← e3]; exact lt_of_block h3⟩
    rw [Nat.zero_add]
    refine cell_of h3 ?_
    rw [← Array.getElem?_toList]
    have hjl := (List.getElem?_eq_some_iff.1 hj).1
    rw [h.2.1] at hjl
    rw [← h7, List.getElem?_take, if_pos hjl] at hj
    exact hj
theorem grown_owned {k : Nat} {e : TypeId} {b : Nat} {w u u' : World} {v : Value} {n : Nat} {xs : List Value} (h : u.ownsRow b e k v n xs) (hb : w.heap.size ≤ b) (g : Gr w u) (k : u.grownBy u' v.ownBlock) : Gr w u' := by
  refine ⟨k.os.trans g.os, k.tape.trans g.tape, k.output.trans g.output, Nat.le_trans g.size k.size, fun i hi => (k.block i (Nat.lt_of_lt_of_le hi g.size) ?_).trans (g.block i hi)⟩
  intro e
  have := (World.ownsRow.lt h i e.symm).1
  omega
/-- what is asked of a list's type -/
structure Lt (t e : TypeId) (k n : Nat) : Prop where
  ht : Try.prog.underlying t = some (.slice e)
  hi : ∃ i z, Try.prog.info? e = some i ∧ i.zero = some z ∧ i.size = k ∧ i.bytes = n ∧ z.cells.size = k
  hk : 0 < k
  hn : n ≤ 100
/-- rows are put behind rows of one's own -/
theorem app_rows0 {t e : TypeId} {k nb : Nat} (L : Lt t e k nb) {w : World} {o : Oper} {a : Act} {K : Act → World → Prop} {Q : Exit → Act → World → Prop} (s x : Operand)
    (ho : o.op = .call { callee := .builtin .append, args := #[s, x], argTypes := #[t, t] }) (b : Nat) (v : Value) (R : List (List Value)) (hs : a.eval s = v) (hown : Or_ k e b w v R)
    (sp : Option Addr) (n sc : Nat) (l : List (List Value)) (hx : a.eval x = .slice sp n sc) (hn : l.length = n) (hrow : ∀ r ∈ l, r.length = k) (hsl : l = [] ∨ ∃ p o, sp = some ⟨p, o, none⟩ ∧ w.rangeAt p o l.flatten) (h1 : ∀ r ∈ l, ∀ u ∈ r, u.oneCell' = true) (hbig : ((R.length + n) + (R.length + n) / 4 + 192) * nb ≤ 281474976710656 ∧ R.length + n ≤ 4611686018427387904) (hB : b ≤ w.heap.size)
    (h : ∀ v' w', Or_ k e b w' v' (R ++ l) → w.grownBy w' v.ownBlock → K (a.put o.dst v') w') : o.wp Try.prog a w K Q := by
  obtain ⟨i0, z0, hi, hz0, hz1, hz2, hz3⟩ := L.hi
  have hnb := L.hn
  rcases hsl with rfl | ⟨p, q, rfl, hat⟩
  · obtain rfl : 0 = n := hn
    obtain ⟨a', c', rfl, hls⟩ := hown.ls
    have hc := hls.cap
    have hrun : (Builtin.append_ #[t, t] o.type #[.slice a' R.length c', .slice sp 0 sc]).run Try.prog w = .ok (.slice a' R.length c') w := by
      cases a' <;> cases sp <;> simp [Builtin.append_, run_underlying L.ht, sizeOf, typeInfo, hi, Builtin.lenOf, Builtin.firstCells, loadCells, loadCellsFrom, storeCells, hc]
    unfold Oper.wp
    simp [execOp, ho, resolve, invoke, builtin, hs, hx, hrun, Result.andThen]
    exact h _ _ (by rw [List.append_nil]; exact hown) (World.grownBy.refl _ _)
  · have hfl := flat_len l k hrow
    refine wp_append_own_wide w s x t ho b e i0 z0 k nb L.ht hi hz0 hz1 hz2 hz3 L.hk v R.length _ hs hown.2 ⟨p, q, none⟩ n sc l.flatten hx (by rw [hfl, hn]) ?_ ?_ (by unfold maxLen; omega) hbig.1 hB ?_
    · intro j u hj
      rw [Addr.add_mid]
      exact hat j u hj
    · intro u hu
      obtain ⟨r, hr, hu⟩ := List.mem_flatten.1 hu
      exact h1 r hr u hu
    · intro v' w' h1 h2 _
      refine h v' w' ⟨?_, ?_⟩ h2
      · intro r hr
        rcases List.mem_append.1 hr with hr | hr
        · exact hown.1 r hr
        · exact hrow r hr
      · rw [List.length_append, List.flatten_append, hn]
        exact h1
theorem app_rows {t e : TypeId} {k nb : Nat} (L : Lt t e k nb) {w : World} {o : Oper} {a : Act} {K : Act → World → Prop} {Q : Exit → Act → World → Prop} (s x : Operand)
    (ho : o.op = .call { callee := .builtin .append, args := #[s, x], argTypes := #[t, t] }) (b : Nat) (v : Value) (R : List (List Value)) (hs : a.eval s = v) (hown : Or_ k e b w v R)
    (sp : Option Addr) (n sc : Nat) (l : List (List Value)) (hx : a.eval x = .slice sp n sc) (hl : Ls k w sp n sc l) (h1 : ∀ r ∈ l, ∀ u ∈ r, u.oneCell' = true) (hbig : ((R.length + n) + (R.length + n) / 4 + 192) * nb ≤ 281474976710656 ∧ R.length + n ≤ 4611686018427387904) (hB : b ≤ w.heap.size)
    (h : ∀ v' w', Or_ k e b w' v' (R ++ l) → w.grownBy w' v.ownBlock → K (a.put o.dst v') w') : o.wp Try.prog a w K Q :=
  app_rows0 L s x ho b v R hs hown sp n sc l hx hl.len hl.row hl.sl h1 hbig hB h
/-- C holds L at its beginning -/
def Cov (C L : List Value) : Prop := ∀ (q : Nat) (x : Value), L[q]? = some x → C[q]? = some x
theorem sp_get : ∀ (vs C : List Value) (o p : Nat), o + vs.length ≤ C.length → (sp C o vs)[p]? = if o ≤ p ∧ p < o + vs.length then vs[p - o]? else C[p]?
  | [], C, o, p, _ => by rw [if_neg (by simp; try omega)]; rfl
  | v :: vs, C, o, p, h => by
    have ih := sp_get vs (C.set o v) (o + 1) p (by rw [List.length_set]; simp at h; omega)
    show (sp (C.set o v) (o + 1) vs)[p]? = _
    rw [ih]
    simp only [List.length_cons] at h ⊢
    by_cases hp : p = o
    · subst hp
      rw [if_neg (by omega), if_pos (by omega), Nat.sub_self, List.getElem?_set_self (by omega)]
      rfl
    · by_cases h2 : o + 1 ≤ p ∧ p < o + 1 + vs.length
      · rw [if_pos h2, if_pos (by omega)]
        obtain ⟨d, hd⟩ : ∃ d, p - o = d + 1 := ⟨p - o - 1, by omega⟩
        rw [hd, List.getElem?_cons_succ]
        congr 1
        omega
      · rw [if_neg h2, if_neg (by omega), List.getElem?_set_ne (by omega)]
theorem sp_length : ∀ (vs C : List Value) (o : Nat), (sp C o vs).length = C.length
  | [], C, o => rfl
  | v :: vs, C, o => by
    show (sp (C.set o v) (o + 1) vs).length = _
    rw [sp_length, List.length_set]
theorem cov_set (k : Nat) (hk : 0 < k) (C : List Value) (R : List (List Value)) (hR : ∀ r ∈ R, r.length = k) (i : Nat) (hi : i < R.length) (r : List Value) (hr : r.length = k) (hC : R.length * k ≤ C.length) (h : Cov C R.flatten) : Cov (sp C (k * i) r) (R.set i r).flatten := by
  have hR2 : ∀ x ∈ R.set i r, x.length = k := by
    intro x hx
    rcases mem_set_or hx with rfl | hx
    · exact hr
    · exact hR x hx
  have hki : k * i + k ≤ R.length * k := by
    have : (i + 1) * k ≤ R.length * k := Nat.mul_le_mul_right _ (by omega)
    rw [Nat.add_mul, Nat.one_mul, Nat.mul_comm i k] at this
    omega
  intro q x hq
  have hql := (List.getElem?_eq_some_iff.1 hq).1
  rw [flat_len _ k hR2, List.length_set] at hql
  have hqd : q = k * (q / k) + q % k := (Nat.div_add_mod q k).symm
  have hm : q % k < k := Nat.mod_lt _ hk
  have hd : q / k < R.length := Nat.div_lt_of_lt_mul (by rw [Nat.mul_comm]; exact hql)
  rw [hqd, flat_row _ k hR2 (q / k) (q % k) (by rw [List.length_set]; exact hd) hm] at hq
  rw [sp_get r C (k * i) q (by omega)]
  by_cases hqi : q / k = i
  · rw [hqi] at hq hqd
    rw [if_pos (by rw [hr]; omega), show q - k * i = q % k from by omega]
    rw [List.getD_eq_getElem?_getD, List.getElem?_set_self hi] at hq
    exact hq
  · rw [if_neg ?_]
    · apply h
      rw [hqd, flat_row _ k hR (q / k) (q % k) hd hm]
      rw [List.getD_eq_getElem?_getD, List.getElem?_set_ne (fun e => hqi e.symm), ← List.getD_eq_getElem?_getD] at hq
      exact hq
    · rintro ⟨h1, h2⟩
      rw [hr] at h2
      apply hqi
      have h3 : q / k < i + 1 := Nat.div_lt_of_lt_mul (by rw [Nat.mul_add, Nat.mul_one]; exact h2)
      have h4 : i ≤ q / k := (Nat.le_div_iff_mul_le hk).2 (by rw [Nat.mul_comm]; exact h1)
      omega
theorem cov_range {w : World} {g : Nat} {C L : List Value} {t : TypeId} (h : w.heap[g]? = some (.cells C.toArray t (0, 0))) (hc : Cov C L) : w.rangeAt g 0 L := fun j x hj => by
  rw [Nat.zero_add]
  exact cell_of h (by rw [List.getElem?_toArray]; exact hc j x hj)
/-- rows of one's own: the block and its cells -/
theorem Or_.some {k : Nat} {e : TypeId} {b : Nat} {w : World} {v : Value} {R : List (List Value)} (h : Or_ k e b w v R) (hne : R ≠ []) : ∃ g c C, v = .slice (some ⟨g, 0, none⟩) R.length c ∧ b ≤ g ∧ w.heap[g]? = some (.cells (C : List Value).toArray e (0, 0)) ∧ R.length ≤ c ∧ c ≤ maxLen ∧ C.length = c * k ∧ Cov C R.flatten := by
  rcases h.2.2 with ⟨h1, h2⟩ | ⟨g, cap, cur, h1, h2, h3, h4, h5, h6, h7⟩
  · exact absurd (List.eq_nil_of_length_eq_zero h2) hne
  · refine ⟨g, cap, cur.toList, h1, h2, by simpa using h3, h4, h5, by simpa using h6, fun q x hq => ?_⟩
    have hql := (List.getElem?_eq_some_iff.1 hq).1
    rw [h.2.1] at hql
    rw [← h7, List.getElem?_take, if_pos hql] at hq
    exact hq
/-- a list of bools -/
structure Kp (w : World) (a : Option Addr) (n c : Nat) (l : List Bool) : Prop where
  len : l.length = n
  sl : l = [] ∨ ∃ p o, a = some ⟨p, o, none⟩ ∧ w.rangeAt p o (l.map Value.bool)
  cap : n ≤ c
  max : c < 9223372036854775808
theorem Kp.gr {w v : World} {a : Option Addr} {n c : Nat} {l : List Bool} (h : Kp w a n c l) (g : Gr w v) : Kp v a n c l := by
  refine ⟨h.len, ?_, h.cap, h.max⟩
  rcases h.sl with h | ⟨p, o, h1, h2⟩
  · exact .inl h
  · exact .inr ⟨p, o, h1, range_gr h2 g⟩
theorem Kp.at_ {w : World} {a : Option Addr} {n c : Nat} {l : List Bool} (h : Kp w a n c l) (i : Nat) (hi : i < n) : ∃ p o, a = some ⟨p, o, none⟩ ∧ w.cell? ⟨p, o + i, none⟩ = some (.bool (l.getD i false)) := by
  have hl := h.len
  rcases h.sl with h0 | ⟨p, o, h1, h2⟩
  · rw [h0] at hl
    simp at hl
    omega
  · refine ⟨p, o, h1, h2 i _ ?_⟩
    rw [List.getElem?_map, List.getD_eq_getElem?_getD, List.getElem?_eq_getElem (by omega)]
    rfl
def bc (l : List Bool) : Array Value := (l.map Value.bool).toArray
theorem bc_size (l : List Bool) : (bc l).size = l.length := by unfold bc; simp
theorem bc_set (l : List Bool) (i : Nat) (x : Bool) : (bc l).setIfInBounds i (.bool x) = bc (l.set i x) := by
  unfold bc
  rw [List.setIfInBounds_toArray, List.map_set]
theorem bc_kp {w : World} {g : Nat} {l : List Bool} {t : TypeId} {n : Nat} (h : w.heap[g]? = some (.cells (bc l) t (0, 0))) (hn : l.length = n) (hb : n < 9223372036854775808) : Kp w (some ⟨g, 0, none⟩) n n l := ⟨hn, .inr ⟨g, 0, rfl, range_row h⟩, Nat.le_refl _, hb⟩
end Go.Proofs.Ythgchjdjacbcgaa
