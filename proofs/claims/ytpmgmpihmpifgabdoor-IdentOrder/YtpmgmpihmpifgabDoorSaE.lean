/-
  The reference's words, steps and bytes: plain facts. Small functions of the reference and of the laws: a turn, the constants, the first state, bytes that are held against each other, bytes behind others, Copy. The reference's filling; bytes with room behind them; Copy; what a Hash that is not there answers.
-/
import Derived.Test.YtpmgmpihmpifgabDoorSaD
import Derived.Deep.DeepAppendWide
import Derived.Laws.BytesArg
namespace Go.Proofs.YtpmgmpihmpifgabDoor
open Go.RowKit
set_option maxRecDepth 100000
set_option linter.unusedSimpArgs false
set_option linter.unusedVariables false

/-- as far as n words are there: the first sixteen read, the others reckoned -/
def W12 (B : List Int) (n : Nat) : List Int := if n ≤ 16 then W1 B n else W2 B (n - 16)
theorem W12_len (B : List Int) (n : Nat) : (W12 B n).length = 64 := by
  unfold W12
  split
  · exact W1_len B n
  · exact W2_len B _
theorem W12_zero (B : List Int) : W12 B 0 = Z64 := rfl
theorem W12_lo (B : List Int) (n : Nat) (h : n < 16) : W12 B (n + 1) = (W12 B n).set n (be (B.getD (4 * n) 0) (B.getD (4 * n + 1) 0) (B.getD (4 * n + 2) 0) (B.getD (4 * n + 3) 0)) := by
  unfold W12
  rw [if_pos (by omega), if_pos (by omega), W1]
theorem W12_hi (B : List Int) (n : Nat) (h : 16 ≤ n) : W12 B (n + 1) = (W12 B n).set n (nx (W12 B n) n) := by
  obtain ⟨k, rfl⟩ : ∃ k, n = k + 16 := ⟨n - 16, by omega⟩
  have e0 : W12 B (k + 16) = W2 B k := by
    unfold W12
    split
    · have : k = 0 := by omega
      subst this
      rfl
    · rw [Nat.add_sub_cancel]
  have e1 : W12 B (k + 16 + 1) = W2 B (k + 1) := by
    unfold W12
    rw [if_neg (by omega)]
    congr 1
  rw [e0, e1, W2]
theorem W12_all (B : List Int) : W12 B 64 = wds B := rfl
/-- eight words as a list -/
def stl (q : St) : List Int := [q.a, q.b, q.c, q.d, q.e, q.f, q.g, q.h]
theorem stl_len (q : St) : (stl q).length = 8 := rfl
theorem stl_of (s : List Int) (hs : s.length = 8) : stl (.of s) = s := by
  rcases s with _ | ⟨a, _ | ⟨b, _ | ⟨c, _ | ⟨d, _ | ⟨e, _ | ⟨f, _ | ⟨g, _ | ⟨h, _ | ⟨i, s⟩⟩⟩⟩⟩⟩⟩⟩⟩ <;> simp at hs
  rfl
theorem of_stl (q : St) : St.of (stl q) = q := rfl
/-- the first n words of the state, the steps' added -/
def SA (s t : List Int) : Nat → List Int
  | 0 => s
  | n + 1 => (SA s t n).set n (ad ((SA s t n).getD n 0) (t.getD n 0))
theorem SA_len (s t : List Int) : ∀ n, (SA s t n).length = s.length
  | 0 => rfl
  | n + 1 => by rw [SA, List.length_set, SA_len s t n]
theorem SA_all (s W K : List Int) (hs : s.length = 8) : SA s (stl (rnds (.of s) W K 64)) 8 = stp s W K := by
  rcases s with _ | ⟨a, _ | ⟨b, _ | ⟨c, _ | ⟨d, _ | ⟨e, _ | ⟨f, _ | ⟨g, _ | ⟨h, _ | ⟨i, s⟩⟩⟩⟩⟩⟩⟩⟩⟩ <;> simp at hs
  generalize hq : rnds (.of [a, b, c, d, e, f, g, h]) W K 64 = q
  unfold stp
  rw [hq]
  rfl
/-- a word's byte -/
def yn (x : Int) (n : Nat) : Int := x / 2 ^ (24 - 8 * n) % 256
/-- the bytes of i words and n bytes of the next one -/
def KZ (s : List Int) (i : Nat) : Nat → List Int
  | 0 => KY s i
  | n + 1 => (KZ s i n).set (4 * i + n) (yn (s.getD i 0) n)
theorem KZ_len (s : List Int) (i : Nat) : ∀ n, (KZ s i n).length = 32
  | 0 => KY_len s i
  | n + 1 => by rw [KZ, List.length_set, KZ_len s i n]
theorem KZ_all (s : List Int) (i : Nat) : KZ s i 4 = KY s (i + 1) := by
  simp [KZ, KY, yn, y0, y1, y2, y3]
theorem nx_ref (l : List Int) (i : Nat) : nx l i = (l.getD (i - 16) 0 + sg0 (l.getD (i - 15) 0) + l.getD (i - 7) 0 + sg1 (l.getD (i - 2) 0)) % 4294967296 := by
  unfold nx
  simp only [ad_eq]
  omega


/-- bytes as a text -/
theorem Sl.text {w : World} {a : Option Addr} {B : List Int} (h : Sl w a B) (n c : Nat) (hn : B.length = n) : (convert 34 9 (.slice a n c)).run Tryd.prog w = .ok (.string (strOfNums B)) w := by
  subst hn
  rcases h with rfl | ⟨p, o, rfl, h2⟩
  · rw [run_convert_bytes_string w 34 9 5 _ _ c Tryd.underlying34 Tryd.underlying5 Tryd.underlying9]
    cases a <;> simp [Conv.bytesToString, loadCells]
    all_goals rfl
  · exact run_convert_bytes_arg (P := Tryd.prog) w 34 5 Tryd.underlying34 Tryd.underlying5 p o _ c B rfl (fun i hi => h2 i hi) 9 Tryd.underlying9
/-- a list of bytes that the call itself has made -/
def Ob (b : Nat) (w : World) (v : Value) (L : List Int) : Prop := w.ownsRow b 5 1 v L.length (L.map (Value.int .u8))
theorem Ob.gr {b : Nat} {w u : World} {v : Value} {L : List Int} (h : Ob b w v L) (k : Gr w u) : Ob b u v L := own_gr h k
theorem Ob.slice {b : Nat} {w : World} {v : Value} {L : List Int} (h : Ob b w v L) : ∃ a c, v = .slice a L.length c ∧ L.length ≤ c ∧ c ≤ maxLen ∧ Sl w a L := by
  rcases h.2 with ⟨h1, h2⟩ | ⟨g, cap, cur, h1, h2, h3, h4, h5, h6, h7⟩
  · have : L = [] := List.eq_nil_of_length_eq_zero h2
    subst this
    exact ⟨none, 0, h1, Nat.le_refl _, Nat.zero_le _, .inl rfl⟩
  · refine ⟨_, cap, h1, h4, h5, .inr ⟨g, 0, rfl, fun j hj => ?_⟩⟩
    rw [Nat.zero_add]
    refine cell_of h3 ?_
    rw [← Array.getElem?_toList]
    have e : (L.map (Value.int .u8))[j]? = some (.int .u8 (L.getD j 0)) := by simp [hj]
    rw [← h7, Nat.mul_one, List.getElem?_take, if_pos hj] at e
    exact e
theorem Ob.grown {b : Nat} {w u u' : World} {v : Value} {L : List Int} (h : Ob b u v L) (hb : w.heap.size ≤ b) (k : Gr w u) (g : u.grownBy u' v.ownBlock) : Gr w u' := by
  refine ⟨g.os.trans k.os, g.tape.trans k.tape, g.output.trans k.output, Nat.le_trans k.size g.size, fun i hi => (g.block i (Nat.lt_of_lt_of_le hi k.size) ?_).trans (k.block i hi)⟩
  intro e
  have := (World.ownsRow.lt h i e.symm).1
  omega
/-- bytes are put behind bytes of one's own -/
theorem app_bs {w : World} {ops : Array Oper} {rest : List Oper} {o : Oper} {a : Act} {Q : Exit → Act → World → Prop} (hw : Region.wanted o (yielded ops a.tmps) = true) (s x : Operand)
    (ho : o.op = .call { callee := .builtin .append, args := #[s, x], argTypes := #[34, 34] }) (b : Nat) (v : Value) (L : List Int) (hs : a.eval s = v) (hown : Ob b w v L)
    (sp : Option Addr) (n sc : Nat) (l : List Int) (hx : a.eval x = .slice sp n sc) (hn : l.length = n) (hsl : Sl w sp l) (hbig : L.length + n ≤ 180000000000000) (hB : b ≤ w.heap.size)
    (h : ∀ v' w', Ob b w' v' (L ++ l) → w.grownBy w' v.ownBlock → wpList Tryd.prog ops Q rest (a.put o.dst v') w') :
    wpList Tryd.prog ops Q (o :: rest) a w := by
  subst hn
  obtain ⟨i0, hi, hz0, hz1, hz2⟩ := info_parts Tryd.info5
  rw [wpList, if_pos hw]
  refine Or.inl ?_
  rcases hsl with rfl | ⟨p, q, rfl, hat⟩
  · obtain ⟨a', c', rfl, hc, _, _⟩ := hown.slice
    have hrun : (Builtin.append_ #[34, 34] o.type #[.slice a' L.length c', .slice sp 0 sc]).run Tryd.prog w = .ok (.slice a' L.length c') w := by
      cases a' <;> cases sp <;> simp [Builtin.append_, run_underlying Tryd.underlying34, sizeOf, typeInfo, hi, Builtin.lenOf, Builtin.firstCells, loadCells, loadCellsFrom, storeCells, hc]
    unfold Oper.wp
    simp [execOp, ho, resolve, invoke, builtin, hs, hx, hrun, Result.andThen]
    exact h _ _ (by rw [List.append_nil]; exact hown) (World.grownBy.refl _ _)
  · refine wp_append_own_wide w s x 34 ho b 5 i0 (.int .u8 0) 1 1 Tryd.underlying34 hi hz0 hz1 hz2 rfl (by decide) v L.length _ hs hown ⟨p, q, none⟩ l.length sc (l.map (Value.int .u8)) hx (by simp) ?_ ?_ (by unfold maxLen; omega) (by omega) hB ?_
    · intro j u hj
      have hjl : j < l.length := by have := (List.getElem?_eq_some_iff.1 hj).1; simpa using this
      rw [Addr.add_mid, hat j hjl]
      simp [hjl] at hj ⊢
      exact hj
    · intro u hu
      obtain ⟨y, _, rfl⟩ := List.mem_map.1 hu
      rfl
    · intro v' w' h1 h2 _
      refine h v' w' ?_ h2
      unfold Ob
      rw [List.length_append, List.map_append]
      exact h1


theorem blk_bytes {w : World} {b : Nat} (l : List Int) (hb : b ≤ w.heap.size) (h1 : l.length ≤ maxLen) : Ob b (w.alloc (.cells (kc l) 5 (0, 0))) (.slice (some ⟨w.heap.size, 0, none⟩) l.length l.length) l :=
  ⟨by simp, .inr ⟨w.heap.size, l.length, kc l, rfl, hb, blk_new _ _, Nat.le_refl _, h1, by rw [kc_size, Nat.mul_one], by unfold kc; rw [Nat.mul_one]; exact List.take_of_length_le (by simp)⟩⟩
def slenV : Value → Nat
  | .slice _ n _ => n
  | _ => 0
/-- what the reference's Pad answers -/
def RPadded (n : Nat) (w : World) (r : Ending) (w' : World) : Prop := ∃ v, r = .returned v ∧ Ob w.heap.size w' v (padL n) ∧ Gr w w'
/-- a block of bytes of one's own, with seven behind them -/
structure Rm (b : Nat) (w : World) (v : Value) (n : Nat) (L : List Int) : Prop where
  ex : ∃ g cap cur, v = .slice (some ⟨g, 0, none⟩) n cap ∧ b ≤ g ∧ w.heap[g]? = some (.cells cur 5 (0, 0)) ∧ n + 1 ≤ cap ∧ cap ≤ maxLen ∧ cur.size = cap ∧ cur.toList.take (n + 1) = (L ++ [7]).map (Value.int .u8) ∧ L.length = n
theorem Rm.sl {b : Nat} {w : World} {v : Value} {n : Nat} {L : List Int} (h : Rm b w v n L) : ∃ g c, v = .slice (some ⟨g, 0, none⟩) n c ∧ b ≤ g ∧ n + 1 ≤ c ∧ c ≤ maxLen ∧ At w g 0 (L ++ [7]) ∧ At w g 0 L := by
  obtain ⟨g, cap, cur, h1, h2, h3, h4, h5, h6, h7, h8⟩ := h.ex
  have hA : At w g 0 (L ++ [7]) := by
    intro j hj
    rw [Nat.zero_add]
    refine cell_of h3 ?_
    rw [← Array.getElem?_toList]
    have e : ((L ++ [7]).map (Value.int .u8))[j]? = some (.int .u8 ((L ++ [7]).getD j 0)) := by
      rw [List.getElem?_map, List.getElem?_eq_getElem hj, List.getD_eq_getElem?_getD, List.getElem?_eq_getElem hj]
      rfl
    rw [← h7, List.getElem?_take, if_pos (by rw [List.length_append] at hj; simp at hj; omega)] at e
    exact e
  refine ⟨g, cap, h1, h2, h4, h5, hA, ?_⟩
  have := hA.take L.length
  rw [List.take_left] at this
  exact this
theorem Rm.gr {b : Nat} {w u : World} {v : Value} {n : Nat} {L : List Int} (h : Rm b w v n L) (k : Gr w u) : Rm b u v n L := by
  obtain ⟨g, cap, cur, h1, h2, h3, h4⟩ := h.ex
  exact ⟨g, cap, cur, h1, h2, k.blk h3, h4⟩

end Go.Proofs.YtpmgmpihmpifgabDoor
