/-
  Of layer 16: what the proof leans on.
-/
import Derived.Test.YtpmgmpihmpifgaaDoorChecked
import Derived.WalkKit
import Derived.WalkSpells
import Derived.WalkLawsBesides
import Derived.Laws.BitsAllLaws
import Derived.Laws.ShiftsVarLaws
import Derived.Laws.Bits64b
import Derived.Laws.Externs
import Derived.Lib.Mul64
import Derived.LoopN
import Derived.Deep.RegionHeld
import Derived.Deep.DrawnRows
import Derived.Laws.Tables
import Derived.Laws.CopyOwn
import Derived.WalkMore
import Derived.Deep.Cut
import Derived.StillTailTactics
import Derived.Deep.QuietTactic
import Derived.BigQuiet
namespace Go.Proofs.YtpmgmpihmpifgaaDoor
open Go.RowKit
theorem nrm : (∀ (a : Act) (i : Nat) (v : Value), Act.put a (some i) v = ⟨a.tmps.setIfInBounds i v, a.defers⟩) ∧ (∀ (a : Act) (v : Value), Act.put a none v = a) ∧ (∀ {α : Type} (l : List α) (i : Nat) (v : α), l.toArray.setIfInBounds i v = (l.set i v).toArray) ∧ (∀ {α : Type} (l : List α) (x v : α), (x :: l).set 0 v = v :: l) ∧ (∀ {α : Type} (l : List α) (x v : α) (i : Nat), (x :: l).set (i + 1) v = x :: l.set i v) ∧ (∀ {α : Type} (l : List α) (i : Nat) (h : i < l.toArray.size), l.toArray[i] = l[i]'(by simpa using h)) ∧ (∀ {α : Type} (l : List α) (x : α) (h : 0 < (x :: l).length), (x :: l)[0] = x) ∧ (∀ {α : Type} (l : List α) (x : α) (i : Nat) (h : i + 1 < (x :: l).length), (x :: l)[i + 1] = l[i]'(by simpa using h)) := by
  refine ⟨?_, ?_, ?_, ?_, ?_, ?_, ?_, ?_⟩ <;> intros <;> simp [Act.put]
theorem hide {p : Prop} (h : p) : Hid p := h
theorem unhide {p : Prop} (h : Hid p) : p := h
def Gr (w w' : World) : Prop := Below w.heap.size w w'
theorem Gr.refl (w : World) : Gr w w := ⟨rfl, rfl, rfl, Nat.le_refl _, fun _ _ => rfl⟩
theorem Gr.trans {a b c : World} (h : Gr a b) (k : Gr b c) : Gr a c :=
  ⟨k.os.trans h.os, k.tape.trans h.tape, k.output.trans h.output, Nat.le_trans h.size k.size, fun i hi => (k.block i (Nat.lt_of_lt_of_le hi h.size)).trans (h.block i hi)⟩
theorem Gr.alloc {a w : World} (h : Gr a w) (o : Obj) : Gr a (w.alloc o) := Below.alloc h h.size o
theorem Gr.drew {a w : World} (h : Gr a w) : Gr a w.drew := Below.drew h
theorem Gr.drewN {a w : World} (h : Gr a w) (n : Nat) : Gr a (w.drewN n) := ⟨h.os, h.tape, h.output, h.size, h.block⟩
theorem Gr.cell {w w' : World} (h : Gr w w') {p : Addr} {v : Value} (hp : w.cell? p = some v) : w'.cell? p = some v := by
  have hlt : p.block < w.heap.size := by
    rcases Nat.lt_or_ge p.block w.heap.size with h' | h'
    · exact h'
    · simp [World.cell?, Array.getElem?_eq_none h'] at hp
  rw [Below.cell h hlt]; exact hp
theorem Gr.blk {w w' : World} (h : Gr w w') {b : Nat} {o : Obj} (hp : w.heap[b]? = some o) : w'.heap[b]? = some o := by
  rw [h.block b (lt_of_block hp)]; exact hp
theorem blk_alloc (w : World) (o : Obj) (i : Nat) : (w.alloc o).heap[i]? = if i = w.heap.size then some o else w.heap[i]? := by
  show (w.heap.push o)[i]? = _
  rw [Array.getElem?_push]
theorem size_alloc (w : World) (o : Obj) : (w.alloc o).heap.size = w.heap.size + 1 := by
  show (w.heap.push o).size = _
  simp
theorem blk_new (w : World) (o : Obj) : (w.alloc o).heap[w.heap.size]? = some o := by rw [blk_alloc, if_pos rfl]
theorem cell_of {w : World} {b i : Nat} {cs : Array Value} {t : TypeId} {z : Nat × Nat} {v : Value} (h : w.heap[b]? = some (.cells cs t z)) (hi : cs[i]? = some v) : w.cell? ⟨b, i, none⟩ = some v := by
  simp [World.cell?, h, hi]
theorem froz_of {w : World} {b i : Nat} {cs : Array Value} {t : TypeId} (h : w.heap[b]? = some (.cells cs t (0, 0))) : w.frozen? ⟨b, i, none⟩ = false := by
  simp [World.frozen?, h]
theorem Gr.setCell {a w : World} (h : Gr a w) {p : Addr} (hp : a.heap.size ≤ p.block) (u : Value) : Gr a (w.setCell p u) := Below.setCell h hp u
def Res (w : World) (b n : Nat) (t : TypeId) (v : World) : Prop := Gr w v ∧ w.heap.size ≤ b ∧ ∃ cs : Array Value, cs.size = n ∧ v.heap[b]? = some (.cells cs t (0, 0))
theorem Res.gr {w u v : World} {b n : Nat} {t : TypeId} (h : Res w b n t u) (g : Gr u v) : Res w b n t v := by
  obtain ⟨h1, h2, cs, h3, h4⟩ := h
  exact ⟨h1.trans g, h2, cs, h3, g.blk h4⟩
theorem Res.cell {w v : World} {b n : Nat} {t : TypeId} (h : Res w b n t v) (i : Nat) (hi : i < n) : ∃ x, v.cell? ⟨b, i, none⟩ = some x := by
  obtain ⟨h1, h2, cs, h3, h4⟩ := h
  exact ⟨cs[i]'(by omega), cell_of h4 (Array.getElem?_eq_getElem (by omega))⟩
theorem Res.froz {w v : World} {b n : Nat} {t : TypeId} (h : Res w b n t v) (i : Nat) : v.frozen? ⟨b, i, none⟩ = false := by
  obtain ⟨h1, h2, cs, h3, h4⟩ := h
  exact froz_of h4
theorem Res.set {w v : World} {b n : Nat} {t : TypeId} (h : Res w b n t v) (i : Nat) (x : Value) : Res w b n t (v.setCell ⟨b, i, none⟩ x) := by
  obtain ⟨h1, h2, cs, h3, h4⟩ := h
  refine ⟨h1.setCell h2 x, h2, cs.setIfInBounds i x, by simpa using h3, ?_⟩
  have hlt := lt_of_block h4
  have h' : v.heap[b] = .cells cs t (0, 0) := by simpa [Array.getElem?_eq_getElem hlt] using h4
  show (v.heap.modify b _)[b]? = _
  rw [Array.getElem?_eq_getElem (by simpa using hlt), Array.getElem_modify_self, h']
  rfl
def five (a b c d e : Int) : Value := .agg #[.int .u64 a, .int .u64 b, .int .u64 c, .int .u64 d, .int .u64 e]
def two (a b : Int) : Value := .agg #[.int .u64 a, .int .u64 b]
def val (a b c d e : Int) : Int := a + b * 2251799813685248 + c * 5070602400912917605986812821504 + d * 11417981541647679048466287755595961091061972992 + e * 25711008708143844408671393477458601640355247900524685364822016
def pp : Int := 57896044618658097711785492504343953926634992332820282019728792003956564819949
def Fit (a b c d e : Int) : Prop := (0 ≤ a ∧ a < 4503599627370496) ∧ (0 ≤ b ∧ b < 2251799813685248) ∧ (0 ≤ c ∧ c < 2251799813685248) ∧ (0 ≤ d ∧ d < 2251799813685248) ∧ (0 ≤ e ∧ e < 2251799813685248)
def Rep (n a b c d e : Int) : Prop := Fit a b c d e ∧ val a b c d e % pp = n % pp
def Reck (n : Int) (w : World) (r : Ending) (w' : World) : Prop := ∃ a b c d e, r = .returned (five a b c d e) ∧ Rep n a b c d e ∧ Gr w w'
theorem Reck.same {n m : Int} {w w' : World} {r : Ending} (h : Reck n w r w') (e : n % pp = m % pp) : Reck m w r w' := by
  obtain ⟨a, b, c, d, x, h1, h2, h3⟩ := h
  exact ⟨a, b, c, d, x, h1, ⟨h2.1, h2.2.trans e⟩, h3⟩
def Reck1 (n : Int) (w : World) (r : Ending) (w' : World) : Prop := ∃ a b c d e o, r = .returned (five a b c d e) ∧ Rep n a b c d e ∧ w' = w.alloc o
theorem Reck1.all {n : Int} {w w' : World} {r : Ending} (h : Reck1 n w r w') : Reck n w r w' := by
  obtain ⟨a, b, c, d, x, o, h1, h2, h3⟩ := h
  exact ⟨a, b, c, d, x, h1, h2, h3 ▸ (Gr.refl _).alloc _⟩
theorem mask51 (a : Int) (h : 0 ≤ a) (h2 : a < 18446744073709551616) : bits .and .u64 a 2251799813685247 = a % 2251799813685248 := by
  obtain ⟨n, rfl⟩ := Int.eq_ofNat_of_zero_le h
  have h3 := bits_and_u64_nat n 2251799813685247 (by omega) (by omega)
  have e : n &&& 2251799813685247 = n % 2251799813685248 := Nat.and_two_pow_sub_one_eq_mod n 51
  rw [e] at h3
  simpa using h3
theorem wrap_id (a : Int) (h : 0 ≤ a) (h2 : a < 18446744073709551616) : IntKind.u64.wrap a = a := by rw [IntKind.wrap_u64]; omega
theorem carries (a b c d e : Int) : val (a % 2251799813685248 + (e + (d + (c + (b + a / 2251799813685248) / 2251799813685248) / 2251799813685248) / 2251799813685248) / 2251799813685248 * 19)
    ((b + a / 2251799813685248) % 2251799813685248) ((c + (b + a / 2251799813685248) / 2251799813685248) % 2251799813685248)
    ((d + (c + (b + a / 2251799813685248) / 2251799813685248) / 2251799813685248) % 2251799813685248)
    ((e + (d + (c + (b + a / 2251799813685248) / 2251799813685248) / 2251799813685248) / 2251799813685248) % 2251799813685248) % pp = val a b c d e % pp := by
  unfold val pp
  omega
end Go.Proofs.YtpmgmpihmpifgaaDoor

namespace Go.Proofs.YtpmgmpihmpifgaaDoor
open Go.RowKit
set_option maxRecDepth 100000
theorem falses_set (l : List Bool) : ∀ i, l[i]? = some false → ((l.set i true).filter (!·)).length + 1 = (l.filter (!·)).length := by
  induction l with
  | nil => intro i h; simp at h
  | cons x l ih =>
    intro i h
    cases i with
    | zero => simp at h; subst h; simp
    | succ i =>
      have := ih i (by simpa using h)
      simp only [List.set_cons_succ, List.filter_cons]
      cases x <;> simp <;> omega
theorem wpAnyH_inv {P : Program} {md : Region.Mode} {ops : Array Oper} {Q : Exit → Act → World → Prop} {S : World → Prop} (I : Array Bool → Act → World → Prop)
    (done : ∀ l a w, I l a w → Region.ready md ops l = [] → Q .normal a w)
    (step : ∀ l a w, I l a w → ∀ i ∈ Region.ready md ops l, wpOp P ops Q i (fun a' w' => S w' ∧ I (l.setIfInBounds i true) a' w') a w) :
    ∀ fuel l a w, (l.toList.filter (!·)).length ≤ fuel → I l a w → wpAnyH P md ops Q S fuel l a w := by
  intro fuel
  induction fuel with
  | zero =>
    intro l a w hl hi
    have hr : Region.ready md ops l = [] := by
      rcases hq : Region.ready md ops l with _ | ⟨i, r⟩
      · rfl
      · have hm : i ∈ Region.ready md ops l := by rw [hq]; exact List.mem_cons_self
        have h1 := (mem_ready.1 hm).1
        have h2 : l.toList[i]? = some false := by
          rcases Nat.lt_or_ge i l.size with h | h
          · rw [Array.getElem?_toList, Array.getElem?_eq_getElem h]
            simp [Array.getD, h] at h1
            rw [h1]
          · simp [Array.getD, Nat.not_lt.2 h] at h1
        have := falses_set l.toList i h2
        omega
    exact ⟨hr, done l a w hi hr⟩
  | succ fuel ih =>
    intro l a w hl hi
    refine ⟨done l a w hi, fun i hm => wpOp_mono (fun a' w' h => ⟨h.1, ih _ _ _ ?_ h.2⟩) (step l a w hi i hm)⟩
    have h1 := (mem_ready.1 hm).1
    have h2 : l.toList[i]? = some false := by
      rcases Nat.lt_or_ge i l.size with h | h
      · rw [Array.getElem?_toList, Array.getElem?_eq_getElem h]
        simp [Array.getD, h] at h1
        rw [h1]
      · simp [Array.getD, Nat.not_lt.2 h] at h1
    have := falses_set l.toList i h2
    rw [Array.toList_setIfInBounds]
    omega
theorem exec_row {P : Program} {op : Oper} {a : Act} (w : World) (ty : TypeId) (x : Operand) (ho : op.op = .load ty x)
    (b o : Nat) (hx : a.eval x = .pointer (some ⟨b, o, none⟩)) (cs : List Value) (d : TypeDesc) (h : w.rangeAt b o cs)
    (hu : P.underlying ty = some d) (hd : d.isRow = true) (hi : (P.info? ty).map (·.size) = some cs.length) : (execOp a.eval op).run P w = .ok (.value (.agg cs.toArray)) w := by
  unfold execOp
  simp only [ho, hx, Instr.loadAt, Instr.sureAddr, Sem.run_bind, Sem.run_pure, Result.andThen_ok, run_loadVar_mid w b o ty cs d h hu hd hi]
theorem range_row {v : World} {b : Nat} {L : List Value} {t : TypeId} (h : v.heap[b]? = some (.cells L.toArray t (0, 0))) : v.rangeAt b 0 L := by
  intro j x hj
  have : (L.toArray)[0 + j]? = some x := by simpa using hj
  exact cell_of h this
theorem step_callw {P : Program} {ops : Array Oper} {o : Oper} {a : Act} {w : World} {K : Act → World → Prop} {Q : Exit → Act → World → Prop} {E : Prop} (hw : Region.wanted o (yielded ops a.tmps) = true)
    (f : FuncId) (args : Array Value) (hrun : (execOp a.eval o).run P w = .ok (.enter f args) w) (hc : Calls P f args w fun e w' => ∃ v, e = .returned v ∧ K (a.put o.dst v) w') :
    if Region.wanted o (yielded ops a.tmps) = true then Oper.wp P o a w K Q else E := by
  rw [if_pos hw]
  unfold Oper.wp
  rw [hrun, Oper.upon_enter]
  refine hc.mono fun e w'' hh => ?_
  obtain ⟨v, rfl, hK⟩ := hh
  exact hK
def Var (w0 : World) (n : Nat) (t : TypeId) (w : World) (q : Value) (g : Nat) : Prop := q = .pointer (some ⟨g, 0, none⟩) ∧ w0.heap.size ≤ g ∧ ∃ o : Array Value, o.size = n ∧ w.heap[g]? = some (.cells o t (0, 0))
theorem Var.gr {w0 u v : World} {n g : Nat} {t : TypeId} {q : Value} (h : Var w0 n t u q g) (k : Gr u v) : Var w0 n t v q g := by
  obtain ⟨h1, h2, o, h3, h4⟩ := h
  exact ⟨h1, h2, o, h3, k.blk h4⟩
structure D2 (w0 : World) (A : Value → Value → Value → Value → Act) (F : Bool → Bool → Bool → Bool → Bool → Bool → Array Bool) (R1 R2 : Array Value → Prop) (n1 n2 : Nat) (t1 t2 : TypeId)
    (b1 b2 b3 b4 b5 b6 : Bool) (v1 v2 q1 q2 : Value) (g1 g2 : Nat) (c1 c2 : Array Value) (l : Array Bool) (a : Act) (w : World) : Prop where
  hl : l = F b1 b2 b3 b4 b5 b6
  ha : a = A v1 v2 q1 q2
  gr : Gr w0 w
  r1 : b1 = true → v1 = .agg c1 ∧ R1 c1
  r2 : b2 = true → v2 = .agg c2 ∧ R2 c2
  x1 : b3 = true → Var w0 n1 t1 w q1 g1
  x2 : b4 = true → Var w0 n2 t2 w q2 g2
  ne : b3 = true → b4 = true → g1 ≠ g2
  s1 : b5 = true → b1 = true ∧ b3 = true ∧ w.heap[g1]? = some (.cells c1 t1 (0, 0))
  s2 : b6 = true → b2 = true ∧ b4 = true ∧ w.heap[g2]? = some (.cells c2 t2 (0, 0))
theorem Res.row {w v : World} {b n : Nat} {t : TypeId} (h : Res w b n t v) (cs : Array Value) (hs : cs.size = n) : Res w b n t (v.setRow b cs) := by
  obtain ⟨h1, h2, o, h3, h4⟩ := h
  exact ⟨below_setRow h1 h2 cs, h2, cs, hs, setRow_heap _ _ _ _ _ _ h4⟩
theorem Gr.row {a w : World} (h : Gr a w) (g : Nat) (hg : a.heap.size ≤ g) (cs : Array Value) : Gr a (w.setRow g cs) := below_setRow h hg cs
def chk2 (md : Region.Mode) (ops : Array Oper) (F : Bool → Bool → Bool → Bool → Bool → Bool → Array Bool) (i1 i2 i3 i4 i5 i6 : Nat) : Bool :=
  [false, true].all fun b1 => [false, true].all fun b2 => [false, true].all fun b3 => [false, true].all fun b4 => [false, true].all fun b5 => [false, true].all fun b6 =>
    ((Region.ready md ops (F b1 b2 b3 b4 b5 b6)).all fun i => (i == i1 && !b1) || (i == i2 && !b2) || (i == i3 && !b3) || (i == i4 && !b4) || (i == i5 && b1 && b2 && b3 && b4 && !b5) || (i == i6 && b1 && b2 && b3 && b4 && b5 && !b6)) && (!(Region.ready md ops (F b1 b2 b3 b4 b5 b6)).isEmpty || (b5 && b6))
theorem chk2_spec {md : Region.Mode} {ops : Array Oper} {F : Bool → Bool → Bool → Bool → Bool → Bool → Array Bool} {i1 i2 i3 i4 i5 i6 : Nat} (h : chk2 md ops F i1 i2 i3 i4 i5 i6 = true) :
    (∀ b1 b2 b3 b4 b5 b6, ∀ i ∈ Region.ready md ops (F b1 b2 b3 b4 b5 b6), (i = i1 ∧ b1 = false) ∨ (i = i2 ∧ b2 = false) ∨ (i = i3 ∧ b3 = false) ∨ (i = i4 ∧ b4 = false) ∨ (i = i5 ∧ b1 = true ∧ b2 = true ∧ b3 = true ∧ b4 = true ∧ b5 = false) ∨ (i = i6 ∧ b1 = true ∧ b2 = true ∧ b3 = true ∧ b4 = true ∧ b5 = true ∧ b6 = false)) ∧
    (∀ b1 b2 b3 b4 b5 b6, Region.ready md ops (F b1 b2 b3 b4 b5 b6) = [] → b5 = true ∧ b6 = true) := by
  have mb : ∀ b : Bool, b ∈ [false, true] := by intro b; cases b <;> simp
  have h1 : ∀ b1 b2 b3 b4 b5 b6, _ := fun b1 b2 b3 b4 b5 b6 => List.all_eq_true.1 (List.all_eq_true.1 (List.all_eq_true.1 (List.all_eq_true.1 (List.all_eq_true.1 (List.all_eq_true.1 h b1 (mb b1)) b2 (mb b2)) b3 (mb b3)) b4 (mb b4)) b5 (mb b5)) b6 (mb b6)
  constructor
  · intro b1 b2 b3 b4 b5 b6 i hi
    have h2 := List.all_eq_true.1 (Bool.and_eq_true_iff.1 (h1 b1 b2 b3 b4 b5 b6)).1 i hi
    simp only [Bool.or_eq_true, Bool.and_eq_true, beq_iff_eq, Bool.not_eq_true'] at h2
    rcases h2 with ((((h2 | h2) | h2) | h2) | h2) | h2
    · exact .inl h2
    · exact .inr (.inl h2)
    · exact .inr (.inr (.inl h2))
    · exact .inr (.inr (.inr (.inl h2)))
    · exact .inr (.inr (.inr (.inr (.inl ⟨h2.1.1.1.1.1, h2.1.1.1.1.2, h2.1.1.1.2, h2.1.1.2, h2.1.2, h2.2⟩))))
    · exact .inr (.inr (.inr (.inr (.inr ⟨h2.1.1.1.1.1.1, h2.1.1.1.1.1.2, h2.1.1.1.1.2, h2.1.1.1.2, h2.1.1.2, h2.1.2, h2.2⟩))))
  · intro b1 b2 b3 b4 b5 b6 hi
    have h2 := (Bool.and_eq_true_iff.1 (h1 b1 b2 b3 b4 b5 b6)).2
    rw [hi] at h2
    simpa using h2
set_option maxHeartbeats 1000000 in
theorem define2 {P : Program} {md : Region.Mode} {ops : Array Oper} {Q : Exit → Act → World → Prop} (w0 : World) (A : Value → Value → Value → Value → Act) (F : Bool → Bool → Bool → Bool → Bool → Bool → Array Bool)
    (R1 R2 : Array Value → Prop) (n1 n2 : Nat) (t1 t2 : TypeId) (z1 z2 : Array Value) (i1 i2 i3 i4 i5 i6 : Nat)
    (hz1 : z1.size = n1) (hz2 : z2.size = n2)
    (hR1 : ∀ c, R1 c → c.size = n1) (hR2 : ∀ c, R2 c → c.size = n2)
    (hchk : chk2 md ops F i1 i2 i3 i4 i5 i6 = true)
    (hF : ∀ b1 b2 b3 b4 b5 b6, (F b1 b2 b3 b4 b5 b6).setIfInBounds i1 true = F true b2 b3 b4 b5 b6 ∧ (F b1 b2 b3 b4 b5 b6).setIfInBounds i2 true = F b1 true b3 b4 b5 b6 ∧ (F b1 b2 b3 b4 b5 b6).setIfInBounds i3 true = F b1 b2 true b4 b5 b6 ∧ (F b1 b2 b3 b4 b5 b6).setIfInBounds i4 true = F b1 b2 b3 true b5 b6 ∧ (F b1 b2 b3 b4 b5 b6).setIfInBounds i5 true = F b1 b2 b3 b4 true b6 ∧ (F b1 b2 b3 b4 b5 b6).setIfInBounds i6 true = F b1 b2 b3 b4 b5 true)
    (call1 : ∀ v1 v2 q1 q2 w (K : Act → World → Prop), Gr w0 w → (∀ c w', R1 c → Gr w w' → K (A (.agg c) v2 q1 q2) w') → wpOp P ops Q i1 K (A v1 v2 q1 q2) w)
    (call2 : ∀ v1 v2 q1 q2 w (K : Act → World → Prop), Gr w0 w → (∀ c w', R2 c → Gr w w' → K (A v1 (.agg c) q1 q2) w') → wpOp P ops Q i2 K (A v1 v2 q1 q2) w)
    (new1 : ∀ v1 v2 q1 q2 w (K : Act → World → Prop), K (A v1 v2 (.pointer (some ⟨w.heap.size, 0, none⟩)) q2) (w.alloc (.cells z1 t1 (0, 0))) → wpOp P ops Q i3 K (A v1 v2 q1 q2) w)
    (new2 : ∀ v1 v2 q1 q2 w (K : Act → World → Prop), K (A v1 v2 q1 (.pointer (some ⟨w.heap.size, 0, none⟩))) (w.alloc (.cells z2 t2 (0, 0))) → wpOp P ops Q i4 K (A v1 v2 q1 q2) w)
    (put1 : ∀ c v2 g q2 w o (K : Act → World → Prop), w.heap[g]? = some (.cells o t1 (0, 0)) → o.size = n1 → R1 c → K (A (.agg c) v2 (.pointer (some ⟨g, 0, none⟩)) q2) (w.setRow g c) → wpOp P ops Q i5 K (A (.agg c) v2 (.pointer (some ⟨g, 0, none⟩)) q2) w)
    (put2 : ∀ v1 c q1 g w o (K : Act → World → Prop), w.heap[g]? = some (.cells o t2 (0, 0)) → o.size = n2 → R2 c → K (A v1 (.agg c) q1 (.pointer (some ⟨g, 0, none⟩))) (w.setRow g c) → wpOp P ops Q i6 K (A v1 (.agg c) q1 (.pointer (some ⟨g, 0, none⟩))) w)
    (post : ∀ c1 c2 g1 g2 w, Gr w0 w → R1 c1 → R2 c2 → w0.heap.size ≤ g1 → w0.heap.size ≤ g2 → g1 ≠ g2 → w.heap[g1]? = some (.cells c1 t1 (0, 0)) → w.heap[g2]? = some (.cells c2 t2 (0, 0)) → Q .normal (A (.agg c1) (.agg c2) (.pointer (some ⟨g1, 0, none⟩)) (.pointer (some ⟨g2, 0, none⟩))) w)
    (fuel : Nat) (l : Array Bool) (a : Act) (w : World) (hfu : (l.toList.filter (!·)).length ≤ fuel)
    (h : ∃ b1 b2 b3 b4 b5 b6 v1 v2 q1 q2 g1 g2 c1 c2, D2 w0 A F R1 R2 n1 n2 t1 t2 b1 b2 b3 b4 b5 b6 v1 v2 q1 q2 g1 g2 c1 c2 l a w) : wpAnyH P md ops Q (fun v => Gr w0 v) fuel l a w := by
  obtain ⟨hr, hd⟩ := chk2_spec hchk
  refine wpAnyH_inv (fun l a w => ∃ b1 b2 b3 b4 b5 b6 v1 v2 q1 q2 g1 g2 c1 c2, D2 w0 A F R1 R2 n1 n2 t1 t2 b1 b2 b3 b4 b5 b6 v1 v2 q1 q2 g1 g2 c1 c2 l a w) ?_ ?_ fuel l a w hfu h
  · rintro l a w ⟨b1, b2, b3, b4, b5, b6, v1, v2, q1, q2, g1, g2, c1, c2, hl, ha, gr, r1, r2, x1, x2, ne, s1, s2⟩ hrd
    subst hl ha
    obtain ⟨rfl, rfl⟩ := hd _ _ _ _ _ _ hrd
    obtain ⟨rfl, rfl, k1⟩ := s1 rfl
    obtain ⟨rfl, rfl, k2⟩ := s2 rfl
    obtain ⟨rfl, k3⟩ := r1 rfl
    obtain ⟨rfl, k4⟩ := r2 rfl
    obtain ⟨rfl, k5, _⟩ := x1 rfl
    obtain ⟨rfl, k6, _⟩ := x2 rfl
    exact post c1 c2 g1 g2 w gr k3 k4 k5 k6 (ne rfl rfl) k1 k2
  · rintro l a w ⟨b1, b2, b3, b4, b5, b6, v1, v2, q1, q2, g1, g2, c1, c2, hl, ha, gr, r1, r2, x1, x2, ne, s1, s2⟩ i hi
    subst hl ha
    obtain ⟨f1, f2, f3, f4, f5, f6⟩ := hF b1 b2 b3 b4 b5 b6
    rcases hr b1 b2 b3 b4 b5 b6 i hi with ⟨rfl, e⟩ | ⟨rfl, e⟩ | ⟨rfl, e⟩ | ⟨rfl, e⟩ | ⟨rfl, e1, e2, e3, e4, e⟩ | ⟨rfl, e1, e2, e3, e4, e5, e⟩
    · refine call1 v1 v2 q1 q2 w _ gr (fun c w' hc hg => ⟨gr.trans hg, true, b2, b3, b4, b5, b6, _, v2, q1, q2, g1, g2, c, c2, f1, rfl, gr.trans hg, fun _ => ⟨rfl, hc⟩, r2, fun k => (x1 k).gr hg, fun k => (x2 k).gr hg, ne, ?_, fun k => ⟨(s2 k).1, (s2 k).2.1, hg.blk (s2 k).2.2⟩⟩)
      intro k
      have := (s1 k).1
      rw [e] at this
      cases this
    · refine call2 v1 v2 q1 q2 w _ gr (fun c w' hc hg => ⟨gr.trans hg, b1, true, b3, b4, b5, b6, v1, _, q1, q2, g1, g2, c1, c, f2, rfl, gr.trans hg, r1, fun _ => ⟨rfl, hc⟩, fun k => (x1 k).gr hg, fun k => (x2 k).gr hg, ne, fun k => ⟨(s1 k).1, (s1 k).2.1, hg.blk (s1 k).2.2⟩, ?_⟩)
      intro k
      have := (s2 k).1
      rw [e] at this
      cases this
    · have hg := (Gr.refl w).alloc (.cells z1 t1 (0, 0))
      refine new1 v1 v2 q1 q2 w _ ⟨gr.trans hg, b1, b2, true, b4, b5, b6, v1, v2, _, q2, w.heap.size, g2, c1, c2, f3, rfl, gr.trans hg, r1, r2, fun _ => ⟨rfl, gr.size, z1, hz1, blk_new _ _⟩, fun k => (x2 k).gr hg, ?_, ?_, fun k => ⟨(s2 k).1, (s2 k).2.1, hg.blk (s2 k).2.2⟩⟩
      · intro _ k
        obtain ⟨_, _, o, _, h4⟩ := x2 k
        have := lt_of_block h4
        omega
      · intro k
        have := (s1 k).2.1
        rw [e] at this
        cases this
    · have hg := (Gr.refl w).alloc (.cells z2 t2 (0, 0))
      refine new2 v1 v2 q1 q2 w _ ⟨gr.trans hg, b1, b2, b3, true, b5, b6, v1, v2, q1, _, g1, w.heap.size, c1, c2, f4, rfl, gr.trans hg, r1, r2, fun k => (x1 k).gr hg, fun _ => ⟨rfl, gr.size, z2, hz2, blk_new _ _⟩, ?_, fun k => ⟨(s1 k).1, (s1 k).2.1, hg.blk (s1 k).2.2⟩, ?_⟩
      · intro k _
        obtain ⟨_, _, o, _, h4⟩ := x1 k
        have := lt_of_block h4
        omega
      · intro k
        have := (s2 k).2.1
        rw [e] at this
        cases this
    · subst e1 e2 e3 e4 e
      obtain ⟨rfl, k1⟩ := r1 rfl
      obtain ⟨rfl, k2, o, k3, k4⟩ := x1 rfl
      refine put1 c1 v2 g1 q2 w o _ k4 k3 k1 ⟨gr.row g1 k2 c1, true, true, true, true, true, b6, _, v2, _, q2, g1, g2, c1, c2, f5, rfl, gr.row g1 k2 c1, fun _ => ⟨rfl, k1⟩, r2, fun _ => ⟨rfl, k2, c1, hR1 _ k1, setRow_heap _ _ _ _ _ _ k4⟩, ?_, ne, fun _ => ⟨rfl, rfl, setRow_heap _ _ _ _ _ _ k4⟩, fun k => ⟨rfl, rfl, ?_⟩⟩
      · intro _
        obtain ⟨h1, h2, o', h3, h4⟩ := x2 rfl
        exact ⟨h1, h2, o', h3, (setRow_other w g1 g2 c1 (fun q => ne rfl rfl q.symm)).trans h4⟩
      · exact (setRow_other w g1 g2 c1 (fun q => ne rfl rfl q.symm)).trans (s2 k).2.2
    · subst e1 e2 e3 e4 e5 e
      obtain ⟨rfl, k1⟩ := r2 rfl
      obtain ⟨rfl, k2, o, k3, k4⟩ := x2 rfl
      refine put2 v1 c2 q1 g2 w o _ k4 k3 k1 ⟨gr.row g2 k2 c2, true, true, true, true, true, true, v1, _, q1, _, g1, g2, c1, c2, f6, rfl, gr.row g2 k2 c2, r1, fun _ => ⟨rfl, k1⟩, ?_, fun _ => ⟨rfl, k2, c2, hR2 _ k1, setRow_heap _ _ _ _ _ _ k4⟩, ne, fun k => ⟨rfl, rfl, ?_⟩, fun _ => ⟨rfl, rfl, setRow_heap _ _ _ _ _ _ k4⟩⟩
      · intro _
        obtain ⟨h1, h2, o', h3, h4⟩ := x1 rfl
        exact ⟨h1, h2, o', h3, (setRow_other w g2 g1 c2 (fun q => ne rfl rfl q)).trans h4⟩
      · exact (setRow_other w g2 g1 c2 (fun q => ne rfl rfl q)).trans (s1 k).2.2
theorem put_self (a : Act) (d : Nat) : a.put (some d) (a.tmps.getD d undef) = a := by
  cases a with
  | mk tm de =>
    simp only [Act.put]
    congr 1
    apply Array.ext_getElem?
    intro i
    rw [Array.getElem?_setIfInBounds]
    split
    · rename_i e
      subst e
      split
      · rename_i h
        simp
      · rename_i h
        rw [Array.getElem?_eq_none (by omega)]
    · rfl
def fr2 (a : Act) (d1 d2 d3 d4 : Nat) (v1 v2 q1 q2 : Value) : Act := (((a.put (some d1) v1).put (some d2) v2).put (some d3) q1).put (some d4) q2
theorem fr2_self (a : Act) (d1 d2 d3 d4 : Nat) : a = fr2 a d1 d2 d3 d4 (a.tmps.getD d1 undef) (a.tmps.getD d2 undef) (a.tmps.getD d3 undef) (a.tmps.getD d4 undef) := by
  unfold fr2
  rw [put_self, put_self, put_self, put_self]
theorem d2_start (w0 : World) (a : Act) (d1 d2 d3 d4 : Nat) (F : Bool → Bool → Bool → Bool → Bool → Bool → Array Bool) (R1 R2 : Array Value → Prop) (n1 n2 : Nat) (t1 t2 : TypeId) (l : Array Bool) (w : World) (hl : l = F false false false false false false) (hg : Gr w0 w) :
    ∃ b1 b2 b3 b4 b5 b6 v1 v2 q1 q2 g1 g2 c1 c2, D2 w0 (fr2 a d1 d2 d3 d4) F R1 R2 n1 n2 t1 t2 b1 b2 b3 b4 b5 b6 v1 v2 q1 q2 g1 g2 c1 c2 l a w :=
  ⟨false, false, false, false, false, false, _, _, _, _, 0, 0, #[], #[], hl, fr2_self a d1 d2 d3 d4, hg, (by intro h; cases h), (by intro h; cases h), (by intro h; cases h), (by intro h; cases h), (by intro h; cases h), (by intro h; cases h), (by intro h; cases h)⟩
theorem d2_start1 (w0 : World) (a : Act) (d1 d2 d3 d4 : Nat) (F : Bool → Bool → Bool → Bool → Bool → Bool → Array Bool) (R1 R2 : Array Value → Prop) (n1 n2 : Nat) (t1 t2 : TypeId) (l : Array Bool) (w : World) (c1 : Array Value) (hl : l = F true false false false false false) (hg : Gr w0 w) (hv : a.tmps.getD d1 undef = .agg c1) (hr : R1 c1) :
    ∃ b1 b2 b3 b4 b5 b6 v1 v2 q1 q2 g1 g2 c1 c2, D2 w0 (fr2 a d1 d2 d3 d4) F R1 R2 n1 n2 t1 t2 b1 b2 b3 b4 b5 b6 v1 v2 q1 q2 g1 g2 c1 c2 l a w :=
  ⟨true, false, false, false, false, false, _, _, _, _, 0, 0, c1, #[], hl, fr2_self a d1 d2 d3 d4, hg, (fun _ => ⟨hv, hr⟩), (by intro h; cases h), (by intro h; cases h), (by intro h; cases h), (by intro _ h; cases h), (by intro h; cases h), (by intro h; cases h)⟩
structure Blk where
  g : Nat
  c : Array Value
  t : TypeId
def Blk.obj (x : Blk) : Obj := .cells x.c x.t (0, 0)
structure Bl (w : World) (L : List Blk) (v : World) : Prop where
  gr : Gr w v
  at_ : ∀ x ∈ L, v.heap[x.g]? = some x.obj ∧ w.heap.size ≤ x.g
  ne : L.Pairwise (fun x y => x.g ≠ y.g)
theorem Bl.nil (w : World) : Bl w [] w := ⟨Gr.refl w, (fun _ h => by cases h), List.Pairwise.nil⟩
theorem Bl.more {w u v : World} {L : List Blk} (h : Bl w L u) (k : Gr u v) : Bl w L v := ⟨h.gr.trans k, fun x hx => ⟨k.blk (h.at_ x hx).1, (h.at_ x hx).2⟩, h.ne⟩
theorem Bl.drew {w v : World} {L : List Blk} (h : Bl w L v) : Bl w L v.drew := h.more (Gr.refl v).drew
theorem Bl.drewN {w v : World} {L : List Blk} (h : Bl w L v) (n : Nat) : Bl w L (v.drewN n) := h.more ((Gr.refl v).drewN n)
theorem Bl.get {w v : World} {L : List Blk} (h : Bl w L v) (i : Nat) {x : Blk} (hi : L[i]? = some x) : v.heap[x.g]? = some (.cells x.c x.t (0, 0)) := (h.at_ x (List.mem_of_getElem? hi)).1
theorem Bl.own {w v : World} {L : List Blk} (h : Bl w L v) (i : Nat) {x : Blk} (hi : L[i]? = some x) : w.heap.size ≤ x.g := (h.at_ x (List.mem_of_getElem? hi)).2
theorem Bl.set {w v : World} {L : List Blk} (h : Bl w L v) (i : Nat) {x : Blk} (hi : L[i]? = some x) (c : Array Value) : Bl w (L.set i ⟨x.g, c, x.t⟩) (v.setRow x.g c) := by
  have hx := h.get i hi
  have hn : ∀ j y, L[j]? = some y → j ≠ i → y.g ≠ x.g := by
    intro j y hj hji
    obtain ⟨hjl, rfl⟩ := List.getElem?_eq_some_iff.1 hj
    obtain ⟨hil, rfl⟩ := List.getElem?_eq_some_iff.1 hi
    rcases Nat.lt_or_gt_of_ne hji with hlt | hlt
    · exact List.pairwise_iff_getElem.1 h.ne j i hjl hil hlt
    · exact (List.pairwise_iff_getElem.1 h.ne i j hil hjl hlt).symm
  refine ⟨h.gr.row _ (h.own i hi) c, ?_, ?_⟩
  · intro y hy
    obtain ⟨j, hj⟩ := List.mem_iff_getElem?.1 hy
    by_cases hji : j = i
    · subst hji
      rw [List.getElem?_set_self' , hi] at hj
      simp at hj
      have ho := h.own j hi
      subst hj
      exact ⟨setRow_heap _ _ _ _ _ _ hx, ho⟩
    · rw [List.getElem?_set_ne (fun e => hji e.symm)] at hj
      exact ⟨(setRow_other _ _ _ _ (hn j y hj hji)).trans (h.get j hj), h.own j hj⟩
  · refine List.pairwise_iff_getElem.2 fun a b ha hb hab => ?_
    rw [List.length_set] at ha hb
    have h0 := List.pairwise_iff_getElem.1 h.ne a b ha hb hab
    obtain ⟨hil, rfl⟩ := List.getElem?_eq_some_iff.1 hi
    rw [List.getElem_set, List.getElem_set]
    split
    · rename_i e
      subst e
      split
      · omega
      · exact h0
    · split
      · rename_i e
        subst e
        exact h0
      · exact h0
theorem Bl.new {w v : World} {L : List Blk} (h : Bl w L v) (c : Array Value) (t : TypeId) : Bl w (L ++ [⟨v.heap.size, c, t⟩]) (v.alloc (.cells c t (0, 0))) := by
  have k := (Gr.refl v).alloc (.cells c t (0, 0))
  have hm := h.more k
  refine ⟨hm.gr, ?_, ?_⟩
  · intro x hx
    rcases List.mem_append.1 hx with hx | hx
    · exact hm.at_ x hx
    · have : x = ⟨v.heap.size, c, t⟩ := by simpa using hx
      subst this
      exact ⟨blk_new _ _, h.gr.size⟩
  · refine List.pairwise_append.2 ⟨h.ne, List.pairwise_singleton _ _, fun x hx y hy => ?_⟩
    have : y = ⟨v.heap.size, c, t⟩ := by simpa using hy
    subst this
    have := lt_of_block (h.at_ x hx).1
    show x.g ≠ v.heap.size
    omega
theorem Bl.to {w v : World} {L L' : List Blk} (h : Bl w L v) (e : L = L') : Bl w L' v := e ▸ h
theorem Bl.join {w W v : World} {L : List Blk} (h : Bl w L W) (k : Gr W v) (M : List Blk) (hm : ∀ x ∈ M, v.heap[x.g]? = some x.obj ∧ W.heap.size ≤ x.g) (hp : M.Pairwise (fun x y => x.g ≠ y.g)) : Bl w (L ++ M) v := by
  have h1 := h.more k
  refine ⟨h1.gr, ?_, List.pairwise_append.2 ⟨h.ne, hp, ?_⟩⟩
  · intro x hx
    rcases List.mem_append.1 hx with hx | hx
    · exact h1.at_ x hx
    · exact ⟨(hm x hx).1, Nat.le_trans h.gr.size (hm x hx).2⟩
  · intro x hx y hy
    have h2 := lt_of_block (h.at_ x hx).1
    have h3 := (hm y hy).2
    omega
def New (W : World) (z : Array Value) (t : TypeId) (w : World) (q : Value) (g : Nat) : Prop := q = .pointer (some ⟨g, 0, none⟩) ∧ W.heap.size ≤ g ∧ w.heap[g]? = some (.cells z t (0, 0))
theorem New.more {W u v : World} {z : Array Value} {t : TypeId} {q : Value} {g : Nat} (h : New W z t u q g) (k : Gr u v) : New W z t v q g := ⟨h.1, h.2.1, k.blk h.2.2⟩
theorem New.lt {W u : World} {z : Array Value} {t : TypeId} {q : Value} {g : Nat} (h : New W z t u q g) : g < u.heap.size := lt_of_block h.2.2
theorem exec_arr {P : Program} {op : Oper} {a : Act} (w : World) (ty : TypeId) (x : Operand) (ho : op.op = .load ty x)
    (b : Nat) (hx : a.eval x = .pointer (some ⟨b, 0, none⟩)) (cs : Array Value) (t : TypeId) (d : TypeDesc) (h : w.heap[b]? = some (.cells cs t (0, 0)))
    (hu : P.underlying ty = some d) (hd : d.isRow = true) (hi : (P.info? ty).map (·.size) = some cs.size) : (execOp a.eval op).run P w = .ok (.value (.agg cs)) w := by
  have := exec_row (P := P) (op := op) (a := a) w ty x ho b 0 hx cs.toList d (range_row (t := t) (by simpa using h)) hu hd (by simpa using hi)
  simpa using this
/-! ### a list of operations, one behind the other -/
section
variable {P : Program} {ops : Array Oper} {Q : Exit → Act → World → Prop} {a : Act} {w : World} {o : Oper} {rest : List Oper}
theorem list_val (v : Value) (hw : Region.wanted o (yielded ops a.tmps) = true) (hx : (execOp a.eval o).run P w = .ok (.value v) w) (h : wpList P ops Q rest (a.put o.dst v) w) : wpList P ops Q (o :: rest) a w := by
  refine wpList_step fun K hK => ?_
  rw [if_pos hw]
  unfold Oper.wp
  rw [hx]
  exact hK _ _ h
theorem list_call (f : FuncId) (args : Array Value) (hw : Region.wanted o (yielded ops a.tmps) = true) (hx : (execOp a.eval o).run P w = .ok (.enter f args) w)
    (hc : Calls P f args w fun e w' => ∃ v, e = .returned v ∧ wpList P ops Q rest (a.put o.dst v) w') : wpList P ops Q (o :: rest) a w := by
  refine wpList_step fun K hK => ?_
  refine step_callw hw f args hx (hc.mono ?_)
  rintro e w' ⟨v, rfl, h⟩
  exact ⟨v, rfl, hK _ _ h⟩
theorem list_store (ty : TypeId) (x y : Operand) (g : Nat) (c : Array Value) (t : TypeId) (old : Array Value) (hw : Region.wanted o (yielded ops a.tmps) = true) (ho : o.op = .store ty x y)
    (hx : a.eval x = .pointer (some ⟨g, 0, none⟩)) (hy : a.eval y = .agg c) (hg : w.heap[g]? = some (.cells old t (0, 0))) (hi : (P.info? ty).map (·.size) = some c.size) (hold : old.size = c.size) (h1 : c.all (·.oneCell') = true)
    (h : wpList P ops Q rest (a.put o.dst undef) (w.setRow g c)) : wpList P ops Q (o :: rest) a w := by
  refine wpList_step fun K hK => ?_
  rw [if_pos hw]
  exact wp_store_row ty x y ho g c hx hy t old hg hi hold h1 (hK _ _ h)
end
/-! ### an order that is drawn -/
section
variable {P : Program} {md : Region.Mode} {ops : Array Oper} {Q : Exit → Act → World → Prop} {S : World → Prop}
def Any (P : Program) (md : Region.Mode) (ops : Array Oper) (Q : Exit → Act → World → Prop) (S : World → Prop) (l : Array Bool) (a : Act) (w : World) : Prop :=
  ∀ fuel, (l.toList.filter (!·)).length ≤ fuel → wpAnyH P md ops Q S fuel l a w
theorem left_of {l : Array Bool} {i : Nat} (h1 : l.getD i true = false) : ((l.setIfInBounds i true).toList.filter (!·)).length + 1 = (l.toList.filter (!·)).length := by
  have h2 : l.toList[i]? = some false := by
    rcases Nat.lt_or_ge i l.size with h | h
    · rw [Array.getElem?_toList, Array.getElem?_eq_getElem h]
      simp [Array.getD, h] at h1
      rw [h1]
    · simp [Array.getD, Nat.not_lt.2 h] at h1
  rw [Array.toList_setIfInBounds]
  exact falses_set l.toList i h2
theorem any_start {id : Nat} {a : Act} {w : World} (hm : P.follows .mixedOrders = true) (h : Any P .any ops Q S (Array.replicate ops.size false) a w.drew) : (Code.region id ops true).wp P Q a w := by
  refine wp_region_held hm (h ops.size ?_)
  simp
def leB (n : Nat) (l0 l : Array Bool) : Bool := (List.range n).all fun j => !(l0.getD j true) || l.getD j true
def rdB (md : Region.Mode) (ops : Array Oper) (l : Array Bool) (i : Nat) : Bool := decide (i < ops.size) && (!l.getD i true && ((ops[i]?).map (·.after.all fun e => !Region.binds md e || l.getD e.on false)).getD false)
theorem rdB_mem {l : Array Bool} {i : Nat} (h : rdB md ops l i = true) : i ∈ Region.ready md ops l := by
  unfold rdB at h
  rw [Bool.and_eq_true, decide_eq_true_eq] at h
  unfold Region.ready
  rw [List.mem_filter, List.mem_range]
  exact h
theorem any_take {i : Nat} {oi : Oper} {v : Value} {l : Array Bool} {a : Act} {w : World} (l0 : Array Bool) (hi : ops[i]? = some oi)
    (hs : Region.noSelect ops = true) (hle : leB ops.size l0 l = true) (hf : Region.free md ops l0 i = true) (hr : rdB md ops l i = true)
    (hQ : ∀ c a w, Q (.panic c) (a.put oi.dst v) w → Q (.panic c) a w) (hy : YieldsIf P ops S oi v a) (hS : S w)
    (h : Any P md ops Q S (l.setIfInBounds i true) (a.put oi.dst v) w) : Any P md ops Q S l a w := by
  intro fuel hfu
  have hm := rdB_mem hr
  have h1 := left_of (mem_ready.1 hm).1
  obtain ⟨f, rfl⟩ : ∃ f, fuel = f + 1 := ⟨fuel - 1, by omega⟩
  refine wpAnyH_first hi (Region.noSelect_spec hs) hQ f l a w ?_ hm hy hS (h f (by omega))
  intro j oj hj hji hjl hn
  refine Region.free_spec hi hf j oj hj hji ?_ hn
  have hjs : j < ops.size := by
    rcases Nat.lt_or_ge j ops.size with h | h
    · exact h
    · rw [Array.getElem?_eq_none h] at hj
      cases hj
  have h2 := List.all_eq_true.1 hle j (List.mem_range.2 hjs)
  rw [hjl] at h2
  simpa using h2
theorem any_done {l : Array Bool} {a : Act} {w : World} (hr : Region.ready md ops l = []) (h : Q .normal a w) : Any P md ops Q S l a w := fun fuel _ => wpAnyH_done hr h fuel
theorem any_one {i : Nat} {o : Oper} {l : Array Bool} {a : Act} {w : World} (hr : Region.ready md ops l = [i]) (ho : ops[i]? = some o)
    (h : ∀ K' : Act → World → Prop, Shut (∀ a w, S w → (S w → Any P md ops Q S (l.setIfInBounds i true) a w) → K' a w) → if Region.wanted o (yielded ops a.tmps) = true then Oper.wp P o a w K' Q else K' (a.put o.dst undef) w) : Any P md ops Q S l a w := by
  intro fuel hfu
  have hm : i ∈ Region.ready md ops l := by rw [hr]; exact List.mem_cons_self
  have h1 := left_of (mem_ready.1 hm).1
  obtain ⟨f, rfl⟩ : ∃ f, fuel = f + 1 := ⟨fuel - 1, by omega⟩
  refine wpAnyH_ready hr (by simp) (AllReadyH.cons ho (fun K hK => ?_) AllReadyH.nil)
  exact h K (fun a w hS hW => hK.out a w hS (fun hS => hW hS f (by omega)))
theorem any_stage (I : Array Bool → Act → World → Prop)
    (step : ∀ l a w, I l a w → Region.ready md ops l ≠ [] ∧ ∀ i ∈ Region.ready md ops l, wpOp P ops Q i (fun a' w' => S w' ∧ (I (l.setIfInBounds i true) a' w' ∨ Any P md ops Q S (l.setIfInBounds i true) a' w')) a w)
    {l : Array Bool} {a : Act} {w : World} (h : I l a w) : Any P md ops Q S l a w := by
  intro fuel
  induction fuel generalizing l a w with
  | zero =>
    intro hfu
    exfalso
    obtain ⟨hne, _⟩ := step l a w h
    rcases hq : Region.ready md ops l with _ | ⟨i, r⟩
    · exact hne hq
    · have hm : i ∈ Region.ready md ops l := by rw [hq]; exact List.mem_cons_self
      have := left_of (mem_ready.1 hm).1
      omega
  | succ f ih =>
    intro hfu
    obtain ⟨hne, hs⟩ := step l a w h
    refine ⟨fun h0 => absurd h0 hne, fun i hm => wpOp_mono (fun a' w' k => ⟨k.1, ?_⟩) (hs i hm)⟩
    have h1 := left_of (mem_ready.1 hm).1
    rcases k.2 with k2 | k2
    · exact ih k2 (by omega)
    · exact k2 f (by omega)
end
end Go.Proofs.YtpmgmpihmpifgaaDoor

namespace Go.Proofs.YtpmgmpihmpifgaaDoor
open Go.RowKit
set_option maxRecDepth 100000
set_option linter.unusedSimpArgs false
set_option linter.unusedVariables false
structure M1 (W : World) (z : Array Value) (t : TypeId) (A : Value → Act) (F : Bool → Array Bool) (b1 : Bool) (q1 : Value) (g1 : Nat) (l : Array Bool) (a : Act) (w : World) : Prop where
  hl : l = F b1
  ha : a = A q1
  gr : Gr W w
  x1 : b1 = true → New W z t w q1 g1
theorem M1.go {W : World} {z : Array Value} {t : TypeId} {A A' : Value → Act} {F F' : Bool → Array Bool} {b1 : Bool} {q1 : Value} {g1 : Nat} {l : Array Bool} {a : Act} {w w' : World} (h : M1 W z t A F b1 q1 g1 l a w) (k : Gr w w') :
    M1 W z t A' F' b1 q1 g1 (F' b1) (A' q1) w' := ⟨rfl, rfl, h.gr.trans k, fun e => (h.x1 e).more k⟩
theorem M1.start (W : World) (z : Array Value) (t : TypeId) (A : Value → Act) (F : Bool → Array Bool) : M1 W z t A F false undef 0 (F false) (A undef) W :=
  ⟨rfl, rfl, Gr.refl W, (fun e => by cases e)⟩
theorem M1.all {W : World} {z : Array Value} {t : TypeId} {A : Value → Act} {F : Bool → Array Bool} {q1 : Value} {g1 : Nat} {l : Array Bool} {a : Act} {w W0 : World} {L : List Blk} (h : M1 W z t A F true q1 g1 l a w) (hB : Bl W0 L W) :
    q1 = .pointer (some ⟨g1, 0, none⟩) ∧ Bl W0 (L ++ [⟨g1, z, t⟩]) w := by
  refine ⟨(h.x1 rfl).1, hB.join h.gr _ ?_ ?_⟩
  · intro x hx
    simp only [List.mem_cons, List.not_mem_nil, or_false] at hx
    subst hx
    · exact ⟨(h.x1 rfl).2.2, (h.x1 rfl).2.1⟩
  · exact List.pairwise_singleton _ _
def chkM1 (md : Region.Mode) (ops : Array Oper) (F : Bool → Array Bool) (i1 c : Nat) (all : Bool) : Bool :=
  [false, true].all fun b1 =>
    !(Region.ready md ops (F b1)).isEmpty && (Region.ready md ops (F b1)).all fun i => (i == i1 && !b1) || (i == c && (!all || (b1)))
theorem chkM1_spec {md : Region.Mode} {ops : Array Oper} {F : Bool → Array Bool} {i1 c : Nat} {all : Bool} (h : chkM1 md ops F i1 c all = true) :
    ∀ b1, Region.ready md ops (F b1) ≠ [] ∧ ∀ i ∈ Region.ready md ops (F b1), (i = i1 ∧ b1 = false) ∨ (i = c ∧ (all = true → b1 = true)) := by
  have mb : ∀ b : Bool, b ∈ [false, true] := by intro b; cases b <;> simp
  intro b1
  have h1 := (List.all_eq_true.1 h b1 (mb b1))
  rw [Bool.and_eq_true] at h1
  refine ⟨fun e => ?_, fun i hi => ?_⟩
  · rw [e] at h1
    exact absurd h1.1 (by decide)
  · have h2 := List.all_eq_true.1 h1.2 i hi
    rw [Bool.or_eq_true] at h2
    rcases h2 with h2 | h2
    · simp only [Bool.and_eq_true, beq_iff_eq, Bool.not_eq_true'] at h2
      exact .inl h2
    · rw [Bool.and_eq_true, beq_iff_eq] at h2
      obtain ⟨rfl, h3⟩ := h2
      refine .inr ⟨rfl, fun ha => ?_⟩
      rw [ha] at h3
      simpa using h3
theorem stage1 {P : Program} {md : Region.Mode} {ops : Array Oper} {Q : Exit → Act → World → Prop} {S : World → Prop} (W : World) (z : Array Value) (t : TypeId) (A : Value → Act) (F : Bool → Array Bool) (i1 c : Nat) (all : Bool)
    (hS : ∀ v, Gr W v → S v) (hchk : chkM1 md ops F i1 c all = true)
    (hF : ∀ b1, (F b1).setIfInBounds i1 true = F true)
    (new1 : ∀ q1 w (K : Act → World → Prop), K (A (.pointer (some ⟨w.heap.size, 0, none⟩))) (w.alloc (.cells z t (0, 0))) → wpOp P ops Q i1 K (A q1) w)
    (next : ∀ b1 q1 g1 w, M1 W z t A F b1 q1 g1 (F b1) (A q1) w → (all = true → b1 = true) → wpOp P ops Q c (fun a' w' => S w' ∧ Any P md ops Q S ((F b1).setIfInBounds c true) a' w') (A q1) w)
    {l : Array Bool} {a : Act} {w : World} (h : ∃ b1 q1 g1, M1 W z t A F b1 q1 g1 l a w) : Any P md ops Q S l a w := by
  refine any_stage (fun l a w => ∃ b1 q1 g1, M1 W z t A F b1 q1 g1 l a w) ?_ h
  rintro l a w ⟨b1, q1, g1, hM⟩
  obtain ⟨hl, ha, gr, x1⟩ := hM
  subst hl ha
  obtain ⟨hne, hr⟩ := chkM1_spec hchk b1
  have f1 := hF b1
  refine ⟨hne, fun i hi => ?_⟩
  rcases hr i hi with ⟨rfl, e⟩ | ⟨rfl, e⟩
  · have hg := (Gr.refl w).alloc (.cells z t (0, 0))
    exact new1 q1 w _ ⟨hS _ (gr.trans hg), .inl ⟨true, _, w.heap.size, ⟨f1, rfl, gr.trans hg, fun _ => ⟨rfl, gr.size, blk_new _ _⟩⟩⟩⟩
  · refine wpOp_mono (fun a' w' k => ⟨k.1, .inr k.2⟩) (next b1 q1 g1 w ⟨rfl, rfl, gr, x1⟩ e)
structure M2 (W : World) (z : Array Value) (t : TypeId) (A : Value → Value → Act) (F : Bool → Bool → Array Bool) (b1 b2 : Bool) (q1 q2 : Value) (g1 g2 : Nat) (l : Array Bool) (a : Act) (w : World) : Prop where
  hl : l = F b1 b2
  ha : a = A q1 q2
  gr : Gr W w
  x1 : b1 = true → New W z t w q1 g1
  x2 : b2 = true → New W z t w q2 g2
  ne12 : b1 = true → b2 = true → g1 ≠ g2
theorem M2.go {W : World} {z : Array Value} {t : TypeId} {A A' : Value → Value → Act} {F F' : Bool → Bool → Array Bool} {b1 b2 : Bool} {q1 q2 : Value} {g1 g2 : Nat} {l : Array Bool} {a : Act} {w w' : World} (h : M2 W z t A F b1 b2 q1 q2 g1 g2 l a w) (k : Gr w w') :
    M2 W z t A' F' b1 b2 q1 q2 g1 g2 (F' b1 b2) (A' q1 q2) w' := ⟨rfl, rfl, h.gr.trans k, fun e => (h.x1 e).more k, fun e => (h.x2 e).more k, h.ne12⟩
theorem M2.start (W : World) (z : Array Value) (t : TypeId) (A : Value → Value → Act) (F : Bool → Bool → Array Bool) : M2 W z t A F false false undef undef 0 0 (F false false) (A undef undef) W :=
  ⟨rfl, rfl, Gr.refl W, (fun e => by cases e), (fun e => by cases e), (fun e => by cases e)⟩
theorem M2.all {W : World} {z : Array Value} {t : TypeId} {A : Value → Value → Act} {F : Bool → Bool → Array Bool} {q1 q2 : Value} {g1 g2 : Nat} {l : Array Bool} {a : Act} {w W0 : World} {L : List Blk} (h : M2 W z t A F true true q1 q2 g1 g2 l a w) (hB : Bl W0 L W) :
    q1 = .pointer (some ⟨g1, 0, none⟩) ∧ q2 = .pointer (some ⟨g2, 0, none⟩) ∧ Bl W0 (L ++ [⟨g1, z, t⟩, ⟨g2, z, t⟩]) w := by
  refine ⟨(h.x1 rfl).1, (h.x2 rfl).1, hB.join h.gr _ ?_ ?_⟩
  · intro x hx
    simp only [List.mem_cons, List.not_mem_nil, or_false] at hx
    rcases hx with rfl | rfl
    · exact ⟨(h.x1 rfl).2.2, (h.x1 rfl).2.1⟩
    · exact ⟨(h.x2 rfl).2.2, (h.x2 rfl).2.1⟩
  · simp only [List.pairwise_cons, List.mem_cons, List.not_mem_nil, or_false, forall_eq, List.Pairwise.nil, and_true, false_implies, implies_true]
    exact h.ne12 rfl rfl
def chkM2 (md : Region.Mode) (ops : Array Oper) (F : Bool → Bool → Array Bool) (i1 i2 c : Nat) (all : Bool) : Bool :=
  [false, true].all fun b1 => [false, true].all fun b2 =>
    !(Region.ready md ops (F b1 b2)).isEmpty && (Region.ready md ops (F b1 b2)).all fun i => (i == i1 && !b1) || (i == i2 && !b2) || (i == c && (!all || (b1 && b2)))
theorem chkM2_spec {md : Region.Mode} {ops : Array Oper} {F : Bool → Bool → Array Bool} {i1 i2 c : Nat} {all : Bool} (h : chkM2 md ops F i1 i2 c all = true) :
    ∀ b1 b2, Region.ready md ops (F b1 b2) ≠ [] ∧ ∀ i ∈ Region.ready md ops (F b1 b2), (i = i1 ∧ b1 = false) ∨ (i = i2 ∧ b2 = false) ∨ (i = c ∧ (all = true → b1 = true ∧ b2 = true)) := by
  have mb : ∀ b : Bool, b ∈ [false, true] := by intro b; cases b <;> simp
  intro b1 b2
  have h1 := (List.all_eq_true.1 (List.all_eq_true.1 h b1 (mb b1)) b2 (mb b2))
  rw [Bool.and_eq_true] at h1
  refine ⟨fun e => ?_, fun i hi => ?_⟩
  · rw [e] at h1
    exact absurd h1.1 (by decide)
  · have h2 := List.all_eq_true.1 h1.2 i hi
    rw [Bool.or_eq_true] at h2
    rcases h2 with h2 | h2
    · simp only [Bool.or_eq_true, Bool.and_eq_true, beq_iff_eq, Bool.not_eq_true'] at h2
      exact h2.elim .inl (fun h => .inr (.inl h))
    · rw [Bool.and_eq_true, beq_iff_eq] at h2
      obtain ⟨rfl, h3⟩ := h2
      refine .inr (.inr ⟨rfl, fun ha => ?_⟩)
      rw [ha] at h3
      simpa using h3
theorem stage2 {P : Program} {md : Region.Mode} {ops : Array Oper} {Q : Exit → Act → World → Prop} {S : World → Prop} (W : World) (z : Array Value) (t : TypeId) (A : Value → Value → Act) (F : Bool → Bool → Array Bool) (i1 i2 c : Nat) (all : Bool)
    (hS : ∀ v, Gr W v → S v) (hchk : chkM2 md ops F i1 i2 c all = true)
    (hF : ∀ b1 b2, (F b1 b2).setIfInBounds i1 true = F true b2 ∧ (F b1 b2).setIfInBounds i2 true = F b1 true)
    (new1 : ∀ q1 q2 w (K : Act → World → Prop), K (A (.pointer (some ⟨w.heap.size, 0, none⟩)) q2) (w.alloc (.cells z t (0, 0))) → wpOp P ops Q i1 K (A q1 q2) w)
    (new2 : ∀ q1 q2 w (K : Act → World → Prop), K (A q1 (.pointer (some ⟨w.heap.size, 0, none⟩))) (w.alloc (.cells z t (0, 0))) → wpOp P ops Q i2 K (A q1 q2) w)
    (next : ∀ b1 b2 q1 q2 g1 g2 w, M2 W z t A F b1 b2 q1 q2 g1 g2 (F b1 b2) (A q1 q2) w → (all = true → b1 = true ∧ b2 = true) → wpOp P ops Q c (fun a' w' => S w' ∧ Any P md ops Q S ((F b1 b2).setIfInBounds c true) a' w') (A q1 q2) w)
    {l : Array Bool} {a : Act} {w : World} (h : ∃ b1 b2 q1 q2 g1 g2, M2 W z t A F b1 b2 q1 q2 g1 g2 l a w) : Any P md ops Q S l a w := by
  refine any_stage (fun l a w => ∃ b1 b2 q1 q2 g1 g2, M2 W z t A F b1 b2 q1 q2 g1 g2 l a w) ?_ h
  rintro l a w ⟨b1, b2, q1, q2, g1, g2, hM⟩
  obtain ⟨hl, ha, gr, x1, x2, ne12⟩ := hM
  subst hl ha
  obtain ⟨hne, hr⟩ := chkM2_spec hchk b1 b2
  obtain ⟨f1, f2⟩ := hF b1 b2
  refine ⟨hne, fun i hi => ?_⟩
  rcases hr i hi with ⟨rfl, e⟩ | ⟨rfl, e⟩ | ⟨rfl, e⟩
  · have hg := (Gr.refl w).alloc (.cells z t (0, 0))
    exact new1 q1 q2 w _ ⟨hS _ (gr.trans hg), .inl ⟨true, b2, _, q2, w.heap.size, g2, ⟨f1, rfl, gr.trans hg, fun _ => ⟨rfl, gr.size, blk_new _ _⟩, fun e => (x2 e).more hg, fun _ e => Nat.ne_of_gt (x2 e).lt⟩⟩⟩
  · have hg := (Gr.refl w).alloc (.cells z t (0, 0))
    exact new2 q1 q2 w _ ⟨hS _ (gr.trans hg), .inl ⟨b1, true, q1, _, g1, w.heap.size, ⟨f2, rfl, gr.trans hg, fun e => (x1 e).more hg, fun _ => ⟨rfl, gr.size, blk_new _ _⟩, fun e _ => Nat.ne_of_lt (x1 e).lt⟩⟩⟩
  · refine wpOp_mono (fun a' w' k => ⟨k.1, .inr k.2⟩) (next b1 b2 q1 q2 g1 g2 w ⟨rfl, rfl, gr, x1, x2, ne12⟩ e)
structure M4 (W : World) (z : Array Value) (t : TypeId) (A : Value → Value → Value → Value → Act) (F : Bool → Bool → Bool → Bool → Array Bool) (b1 b2 b3 b4 : Bool) (q1 q2 q3 q4 : Value) (g1 g2 g3 g4 : Nat) (l : Array Bool) (a : Act) (w : World) : Prop where
  hl : l = F b1 b2 b3 b4
  ha : a = A q1 q2 q3 q4
  gr : Gr W w
  x1 : b1 = true → New W z t w q1 g1
  x2 : b2 = true → New W z t w q2 g2
  x3 : b3 = true → New W z t w q3 g3
  x4 : b4 = true → New W z t w q4 g4
  ne12 : b1 = true → b2 = true → g1 ≠ g2
  ne13 : b1 = true → b3 = true → g1 ≠ g3
  ne14 : b1 = true → b4 = true → g1 ≠ g4
  ne23 : b2 = true → b3 = true → g2 ≠ g3
  ne24 : b2 = true → b4 = true → g2 ≠ g4
  ne34 : b3 = true → b4 = true → g3 ≠ g4
theorem M4.go {W : World} {z : Array Value} {t : TypeId} {A A' : Value → Value → Value → Value → Act} {F F' : Bool → Bool → Bool → Bool → Array Bool} {b1 b2 b3 b4 : Bool} {q1 q2 q3 q4 : Value} {g1 g2 g3 g4 : Nat} {l : Array Bool} {a : Act} {w w' : World} (h : M4 W z t A F b1 b2 b3 b4 q1 q2 q3 q4 g1 g2 g3 g4 l a w) (k : Gr w w') :
    M4 W z t A' F' b1 b2 b3 b4 q1 q2 q3 q4 g1 g2 g3 g4 (F' b1 b2 b3 b4) (A' q1 q2 q3 q4) w' := ⟨rfl, rfl, h.gr.trans k, fun e => (h.x1 e).more k, fun e => (h.x2 e).more k, fun e => (h.x3 e).more k, fun e => (h.x4 e).more k, h.ne12, h.ne13, h.ne14, h.ne23, h.ne24, h.ne34⟩
theorem M4.start (W : World) (z : Array Value) (t : TypeId) (A : Value → Value → Value → Value → Act) (F : Bool → Bool → Bool → Bool → Array Bool) : M4 W z t A F false false false false undef undef undef undef 0 0 0 0 (F false false false false) (A undef undef undef undef) W :=
  ⟨rfl, rfl, Gr.refl W, (fun e => by cases e), (fun e => by cases e), (fun e => by cases e), (fun e => by cases e), (fun e => by cases e), (fun e => by cases e), (fun e => by cases e), (fun e => by cases e), (fun e => by cases e), (fun e => by cases e)⟩
theorem M4.all {W : World} {z : Array Value} {t : TypeId} {A : Value → Value → Value → Value → Act} {F : Bool → Bool → Bool → Bool → Array Bool} {q1 q2 q3 q4 : Value} {g1 g2 g3 g4 : Nat} {l : Array Bool} {a : Act} {w W0 : World} {L : List Blk} (h : M4 W z t A F true true true true q1 q2 q3 q4 g1 g2 g3 g4 l a w) (hB : Bl W0 L W) :
    q1 = .pointer (some ⟨g1, 0, none⟩) ∧ q2 = .pointer (some ⟨g2, 0, none⟩) ∧ q3 = .pointer (some ⟨g3, 0, none⟩) ∧ q4 = .pointer (some ⟨g4, 0, none⟩) ∧ Bl W0 (L ++ [⟨g1, z, t⟩, ⟨g2, z, t⟩, ⟨g3, z, t⟩, ⟨g4, z, t⟩]) w := by
  refine ⟨(h.x1 rfl).1, (h.x2 rfl).1, (h.x3 rfl).1, (h.x4 rfl).1, hB.join h.gr _ ?_ ?_⟩
  · intro x hx
    simp only [List.mem_cons, List.not_mem_nil, or_false] at hx
    rcases hx with rfl | rfl | rfl | rfl
    · exact ⟨(h.x1 rfl).2.2, (h.x1 rfl).2.1⟩
    · exact ⟨(h.x2 rfl).2.2, (h.x2 rfl).2.1⟩
    · exact ⟨(h.x3 rfl).2.2, (h.x3 rfl).2.1⟩
    · exact ⟨(h.x4 rfl).2.2, (h.x4 rfl).2.1⟩
  · simp only [List.pairwise_cons, List.mem_cons, List.not_mem_nil, or_false, forall_eq_or_imp, forall_eq, List.Pairwise.nil, and_true, false_implies, implies_true]
    exact ⟨⟨h.ne12 rfl rfl, h.ne13 rfl rfl, h.ne14 rfl rfl⟩, ⟨h.ne23 rfl rfl, h.ne24 rfl rfl⟩, h.ne34 rfl rfl⟩
def chkM4 (md : Region.Mode) (ops : Array Oper) (F : Bool → Bool → Bool → Bool → Array Bool) (i1 i2 i3 i4 c : Nat) (all : Bool) : Bool :=
  [false, true].all fun b1 => [false, true].all fun b2 => [false, true].all fun b3 => [false, true].all fun b4 =>
    !(Region.ready md ops (F b1 b2 b3 b4)).isEmpty && (Region.ready md ops (F b1 b2 b3 b4)).all fun i => (i == i1 && !b1) || (i == i2 && !b2) || (i == i3 && !b3) || (i == i4 && !b4) || (i == c && (!all || (b1 && b2 && b3 && b4)))
theorem chkM4_spec {md : Region.Mode} {ops : Array Oper} {F : Bool → Bool → Bool → Bool → Array Bool} {i1 i2 i3 i4 c : Nat} {all : Bool} (h : chkM4 md ops F i1 i2 i3 i4 c all = true) :
    ∀ b1 b2 b3 b4, Region.ready md ops (F b1 b2 b3 b4) ≠ [] ∧ ∀ i ∈ Region.ready md ops (F b1 b2 b3 b4), (i = i1 ∧ b1 = false) ∨ (i = i2 ∧ b2 = false) ∨ (i = i3 ∧ b3 = false) ∨ (i = i4 ∧ b4 = false) ∨ (i = c ∧ (all = true → b1 = true ∧ b2 = true ∧ b3 = true ∧ b4 = true)) := by
  have mb : ∀ b : Bool, b ∈ [false, true] := by intro b; cases b <;> simp
  intro b1 b2 b3 b4
  have h1 := (List.all_eq_true.1 (List.all_eq_true.1 (List.all_eq_true.1 (List.all_eq_true.1 h b1 (mb b1)) b2 (mb b2)) b3 (mb b3)) b4 (mb b4))
  rw [Bool.and_eq_true] at h1
  refine ⟨fun e => ?_, fun i hi => ?_⟩
  · rw [e] at h1
    exact absurd h1.1 (by decide)
  · have h2 := List.all_eq_true.1 h1.2 i hi
    rw [Bool.or_eq_true] at h2
    rcases h2 with h2 | h2
    · simp only [Bool.or_eq_true, Bool.and_eq_true, beq_iff_eq, Bool.not_eq_true', or_assoc] at h2
      rcases h2 with h2 | h2 | h2 | h2
      · exact .inl h2
      · exact .inr (.inl h2)
      · exact .inr (.inr (.inl h2))
      · exact .inr (.inr (.inr (.inl h2)))
    · rw [Bool.and_eq_true, beq_iff_eq] at h2
      obtain ⟨rfl, h3⟩ := h2
      refine .inr (.inr (.inr (.inr ⟨rfl, fun ha => ?_⟩)))
      rw [ha] at h3
      simpa [and_assoc] using h3
theorem stage4 {P : Program} {md : Region.Mode} {ops : Array Oper} {Q : Exit → Act → World → Prop} {S : World → Prop} (W : World) (z : Array Value) (t : TypeId) (A : Value → Value → Value → Value → Act) (F : Bool → Bool → Bool → Bool → Array Bool) (i1 i2 i3 i4 c : Nat) (all : Bool)
    (hS : ∀ v, Gr W v → S v) (hchk : chkM4 md ops F i1 i2 i3 i4 c all = true)
    (hF : ∀ b1 b2 b3 b4, (F b1 b2 b3 b4).setIfInBounds i1 true = F true b2 b3 b4 ∧ (F b1 b2 b3 b4).setIfInBounds i2 true = F b1 true b3 b4 ∧ (F b1 b2 b3 b4).setIfInBounds i3 true = F b1 b2 true b4 ∧ (F b1 b2 b3 b4).setIfInBounds i4 true = F b1 b2 b3 true)
    (new1 : ∀ q1 q2 q3 q4 w (K : Act → World → Prop), K (A (.pointer (some ⟨w.heap.size, 0, none⟩)) q2 q3 q4) (w.alloc (.cells z t (0, 0))) → wpOp P ops Q i1 K (A q1 q2 q3 q4) w)
    (new2 : ∀ q1 q2 q3 q4 w (K : Act → World → Prop), K (A q1 (.pointer (some ⟨w.heap.size, 0, none⟩)) q3 q4) (w.alloc (.cells z t (0, 0))) → wpOp P ops Q i2 K (A q1 q2 q3 q4) w)
    (new3 : ∀ q1 q2 q3 q4 w (K : Act → World → Prop), K (A q1 q2 (.pointer (some ⟨w.heap.size, 0, none⟩)) q4) (w.alloc (.cells z t (0, 0))) → wpOp P ops Q i3 K (A q1 q2 q3 q4) w)
    (new4 : ∀ q1 q2 q3 q4 w (K : Act → World → Prop), K (A q1 q2 q3 (.pointer (some ⟨w.heap.size, 0, none⟩))) (w.alloc (.cells z t (0, 0))) → wpOp P ops Q i4 K (A q1 q2 q3 q4) w)
    (next : ∀ b1 b2 b3 b4 q1 q2 q3 q4 g1 g2 g3 g4 w, M4 W z t A F b1 b2 b3 b4 q1 q2 q3 q4 g1 g2 g3 g4 (F b1 b2 b3 b4) (A q1 q2 q3 q4) w → (all = true → b1 = true ∧ b2 = true ∧ b3 = true ∧ b4 = true) → wpOp P ops Q c (fun a' w' => S w' ∧ Any P md ops Q S ((F b1 b2 b3 b4).setIfInBounds c true) a' w') (A q1 q2 q3 q4) w)
    {l : Array Bool} {a : Act} {w : World} (h : ∃ b1 b2 b3 b4 q1 q2 q3 q4 g1 g2 g3 g4, M4 W z t A F b1 b2 b3 b4 q1 q2 q3 q4 g1 g2 g3 g4 l a w) : Any P md ops Q S l a w := by
  refine any_stage (fun l a w => ∃ b1 b2 b3 b4 q1 q2 q3 q4 g1 g2 g3 g4, M4 W z t A F b1 b2 b3 b4 q1 q2 q3 q4 g1 g2 g3 g4 l a w) ?_ h
  rintro l a w ⟨b1, b2, b3, b4, q1, q2, q3, q4, g1, g2, g3, g4, hM⟩
  obtain ⟨hl, ha, gr, x1, x2, x3, x4, ne12, ne13, ne14, ne23, ne24, ne34⟩ := hM
  subst hl ha
  obtain ⟨hne, hr⟩ := chkM4_spec hchk b1 b2 b3 b4
  obtain ⟨f1, f2, f3, f4⟩ := hF b1 b2 b3 b4
  refine ⟨hne, fun i hi => ?_⟩
  rcases hr i hi with ⟨rfl, e⟩ | ⟨rfl, e⟩ | ⟨rfl, e⟩ | ⟨rfl, e⟩ | ⟨rfl, e⟩
  · have hg := (Gr.refl w).alloc (.cells z t (0, 0))
    exact new1 q1 q2 q3 q4 w _ ⟨hS _ (gr.trans hg), .inl ⟨true, b2, b3, b4, _, q2, q3, q4, w.heap.size, g2, g3, g4, ⟨f1, rfl, gr.trans hg, fun _ => ⟨rfl, gr.size, blk_new _ _⟩, fun e => (x2 e).more hg, fun e => (x3 e).more hg, fun e => (x4 e).more hg, fun _ e => Nat.ne_of_gt (x2 e).lt, fun _ e => Nat.ne_of_gt (x3 e).lt, fun _ e => Nat.ne_of_gt (x4 e).lt, ne23, ne24, ne34⟩⟩⟩
  · have hg := (Gr.refl w).alloc (.cells z t (0, 0))
    exact new2 q1 q2 q3 q4 w _ ⟨hS _ (gr.trans hg), .inl ⟨b1, true, b3, b4, q1, _, q3, q4, g1, w.heap.size, g3, g4, ⟨f2, rfl, gr.trans hg, fun e => (x1 e).more hg, fun _ => ⟨rfl, gr.size, blk_new _ _⟩, fun e => (x3 e).more hg, fun e => (x4 e).more hg, fun e _ => Nat.ne_of_lt (x1 e).lt, ne13, ne14, fun _ e => Nat.ne_of_gt (x3 e).lt, fun _ e => Nat.ne_of_gt (x4 e).lt, ne34⟩⟩⟩
  · have hg := (Gr.refl w).alloc (.cells z t (0, 0))
    exact new3 q1 q2 q3 q4 w _ ⟨hS _ (gr.trans hg), .inl ⟨b1, b2, true, b4, q1, q2, _, q4, g1, g2, w.heap.size, g4, ⟨f3, rfl, gr.trans hg, fun e => (x1 e).more hg, fun e => (x2 e).more hg, fun _ => ⟨rfl, gr.size, blk_new _ _⟩, fun e => (x4 e).more hg, ne12, fun e _ => Nat.ne_of_lt (x1 e).lt, ne14, fun e _ => Nat.ne_of_lt (x2 e).lt, ne24, fun _ e => Nat.ne_of_gt (x4 e).lt⟩⟩⟩
  · have hg := (Gr.refl w).alloc (.cells z t (0, 0))
    exact new4 q1 q2 q3 q4 w _ ⟨hS _ (gr.trans hg), .inl ⟨b1, b2, b3, true, q1, q2, q3, _, g1, g2, g3, w.heap.size, ⟨f4, rfl, gr.trans hg, fun e => (x1 e).more hg, fun e => (x2 e).more hg, fun e => (x3 e).more hg, fun _ => ⟨rfl, gr.size, blk_new _ _⟩, ne12, ne13, fun e _ => Nat.ne_of_lt (x1 e).lt, ne23, fun e _ => Nat.ne_of_lt (x2 e).lt, fun e _ => Nat.ne_of_lt (x3 e).lt⟩⟩⟩
  · refine wpOp_mono (fun a' w' k => ⟨k.1, .inr k.2⟩) (next b1 b2 b3 b4 q1 q2 q3 q4 g1 g2 g3 g4 w ⟨rfl, rfl, gr, x1, x2, x3, x4, ne12, ne13, ne14, ne23, ne24, ne34⟩ e)
structure M5 (W : World) (z : Array Value) (t : TypeId) (A : Value → Value → Value → Value → Value → Act) (F : Bool → Bool → Bool → Bool → Bool → Array Bool) (b1 b2 b3 b4 b5 : Bool) (q1 q2 q3 q4 q5 : Value) (g1 g2 g3 g4 g5 : Nat) (l : Array Bool) (a : Act) (w : World) : Prop where
  hl : l = F b1 b2 b3 b4 b5
  ha : a = A q1 q2 q3 q4 q5
  gr : Gr W w
  x1 : b1 = true → New W z t w q1 g1
  x2 : b2 = true → New W z t w q2 g2
  x3 : b3 = true → New W z t w q3 g3
  x4 : b4 = true → New W z t w q4 g4
  x5 : b5 = true → New W z t w q5 g5
  ne12 : b1 = true → b2 = true → g1 ≠ g2
  ne13 : b1 = true → b3 = true → g1 ≠ g3
  ne14 : b1 = true → b4 = true → g1 ≠ g4
  ne15 : b1 = true → b5 = true → g1 ≠ g5
  ne23 : b2 = true → b3 = true → g2 ≠ g3
  ne24 : b2 = true → b4 = true → g2 ≠ g4
  ne25 : b2 = true → b5 = true → g2 ≠ g5
  ne34 : b3 = true → b4 = true → g3 ≠ g4
  ne35 : b3 = true → b5 = true → g3 ≠ g5
  ne45 : b4 = true → b5 = true → g4 ≠ g5
theorem M5.go {W : World} {z : Array Value} {t : TypeId} {A A' : Value → Value → Value → Value → Value → Act} {F F' : Bool → Bool → Bool → Bool → Bool → Array Bool} {b1 b2 b3 b4 b5 : Bool} {q1 q2 q3 q4 q5 : Value} {g1 g2 g3 g4 g5 : Nat} {l : Array Bool} {a : Act} {w w' : World} (h : M5 W z t A F b1 b2 b3 b4 b5 q1 q2 q3 q4 q5 g1 g2 g3 g4 g5 l a w) (k : Gr w w') :
    M5 W z t A' F' b1 b2 b3 b4 b5 q1 q2 q3 q4 q5 g1 g2 g3 g4 g5 (F' b1 b2 b3 b4 b5) (A' q1 q2 q3 q4 q5) w' := ⟨rfl, rfl, h.gr.trans k, fun e => (h.x1 e).more k, fun e => (h.x2 e).more k, fun e => (h.x3 e).more k, fun e => (h.x4 e).more k, fun e => (h.x5 e).more k, h.ne12, h.ne13, h.ne14, h.ne15, h.ne23, h.ne24, h.ne25, h.ne34, h.ne35, h.ne45⟩
theorem M5.start (W : World) (z : Array Value) (t : TypeId) (A : Value → Value → Value → Value → Value → Act) (F : Bool → Bool → Bool → Bool → Bool → Array Bool) : M5 W z t A F false false false false false undef undef undef undef undef 0 0 0 0 0 (F false false false false false) (A undef undef undef undef undef) W :=
  ⟨rfl, rfl, Gr.refl W, (fun e => by cases e), (fun e => by cases e), (fun e => by cases e), (fun e => by cases e), (fun e => by cases e), (fun e => by cases e), (fun e => by cases e), (fun e => by cases e), (fun e => by cases e), (fun e => by cases e), (fun e => by cases e), (fun e => by cases e), (fun e => by cases e), (fun e => by cases e), (fun e => by cases e)⟩
theorem M5.all {W : World} {z : Array Value} {t : TypeId} {A : Value → Value → Value → Value → Value → Act} {F : Bool → Bool → Bool → Bool → Bool → Array Bool} {q1 q2 q3 q4 q5 : Value} {g1 g2 g3 g4 g5 : Nat} {l : Array Bool} {a : Act} {w W0 : World} {L : List Blk} (h : M5 W z t A F true true true true true q1 q2 q3 q4 q5 g1 g2 g3 g4 g5 l a w) (hB : Bl W0 L W) :
    q1 = .pointer (some ⟨g1, 0, none⟩) ∧ q2 = .pointer (some ⟨g2, 0, none⟩) ∧ q3 = .pointer (some ⟨g3, 0, none⟩) ∧ q4 = .pointer (some ⟨g4, 0, none⟩) ∧ q5 = .pointer (some ⟨g5, 0, none⟩) ∧ Bl W0 (L ++ [⟨g1, z, t⟩, ⟨g2, z, t⟩, ⟨g3, z, t⟩, ⟨g4, z, t⟩, ⟨g5, z, t⟩]) w := by
  refine ⟨(h.x1 rfl).1, (h.x2 rfl).1, (h.x3 rfl).1, (h.x4 rfl).1, (h.x5 rfl).1, hB.join h.gr _ ?_ ?_⟩
  · intro x hx
    simp only [List.mem_cons, List.not_mem_nil, or_false] at hx
    rcases hx with rfl | rfl | rfl | rfl | rfl
    · exact ⟨(h.x1 rfl).2.2, (h.x1 rfl).2.1⟩
    · exact ⟨(h.x2 rfl).2.2, (h.x2 rfl).2.1⟩
    · exact ⟨(h.x3 rfl).2.2, (h.x3 rfl).2.1⟩
    · exact ⟨(h.x4 rfl).2.2, (h.x4 rfl).2.1⟩
    · exact ⟨(h.x5 rfl).2.2, (h.x5 rfl).2.1⟩
  · simp only [List.pairwise_cons, List.mem_cons, List.not_mem_nil, or_false, forall_eq_or_imp, forall_eq, List.Pairwise.nil, and_true, false_implies, implies_true]
    exact ⟨⟨h.ne12 rfl rfl, h.ne13 rfl rfl, h.ne14 rfl rfl, h.ne15 rfl rfl⟩, ⟨h.ne23 rfl rfl, h.ne24 rfl rfl, h.ne25 rfl rfl⟩, ⟨h.ne34 rfl rfl, h.ne35 rfl rfl⟩, h.ne45 rfl rfl⟩
def chkM5 (md : Region.Mode) (ops : Array Oper) (F : Bool → Bool → Bool → Bool → Bool → Array Bool) (i1 i2 i3 i4 i5 c : Nat) (all : Bool) : Bool :=
  [false, true].all fun b1 => [false, true].all fun b2 => [false, true].all fun b3 => [false, true].all fun b4 => [false, true].all fun b5 =>
    !(Region.ready md ops (F b1 b2 b3 b4 b5)).isEmpty && (Region.ready md ops (F b1 b2 b3 b4 b5)).all fun i => (i == i1 && !b1) || (i == i2 && !b2) || (i == i3 && !b3) || (i == i4 && !b4) || (i == i5 && !b5) || (i == c && (!all || (b1 && b2 && b3 && b4 && b5)))
theorem chkM5_spec {md : Region.Mode} {ops : Array Oper} {F : Bool → Bool → Bool → Bool → Bool → Array Bool} {i1 i2 i3 i4 i5 c : Nat} {all : Bool} (h : chkM5 md ops F i1 i2 i3 i4 i5 c all = true) :
    ∀ b1 b2 b3 b4 b5, Region.ready md ops (F b1 b2 b3 b4 b5) ≠ [] ∧ ∀ i ∈ Region.ready md ops (F b1 b2 b3 b4 b5), (i = i1 ∧ b1 = false) ∨ (i = i2 ∧ b2 = false) ∨ (i = i3 ∧ b3 = false) ∨ (i = i4 ∧ b4 = false) ∨ (i = i5 ∧ b5 = false) ∨ (i = c ∧ (all = true → b1 = true ∧ b2 = true ∧ b3 = true ∧ b4 = true ∧ b5 = true)) := by
  have mb : ∀ b : Bool, b ∈ [false, true] := by intro b; cases b <;> simp
  intro b1 b2 b3 b4 b5
  have h1 := (List.all_eq_true.1 (List.all_eq_true.1 (List.all_eq_true.1 (List.all_eq_true.1 (List.all_eq_true.1 h b1 (mb b1)) b2 (mb b2)) b3 (mb b3)) b4 (mb b4)) b5 (mb b5))
  rw [Bool.and_eq_true] at h1
  refine ⟨fun e => ?_, fun i hi => ?_⟩
  · rw [e] at h1
    exact absurd h1.1 (by decide)
  · have h2 := List.all_eq_true.1 h1.2 i hi
    rw [Bool.or_eq_true] at h2
    rcases h2 with h2 | h2
    · simp only [Bool.or_eq_true, Bool.and_eq_true, beq_iff_eq, Bool.not_eq_true', or_assoc] at h2
      rcases h2 with h2 | h2 | h2 | h2 | h2
      · exact .inl h2
      · exact .inr (.inl h2)
      · exact .inr (.inr (.inl h2))
      · exact .inr (.inr (.inr (.inl h2)))
      · exact .inr (.inr (.inr (.inr (.inl h2))))
    · rw [Bool.and_eq_true, beq_iff_eq] at h2
      obtain ⟨rfl, h3⟩ := h2
      refine .inr (.inr (.inr (.inr (.inr ⟨rfl, fun ha => ?_⟩))))
      rw [ha] at h3
      simpa [and_assoc] using h3
theorem stage5 {P : Program} {md : Region.Mode} {ops : Array Oper} {Q : Exit → Act → World → Prop} {S : World → Prop} (W : World) (z : Array Value) (t : TypeId) (A : Value → Value → Value → Value → Value → Act) (F : Bool → Bool → Bool → Bool → Bool → Array Bool) (i1 i2 i3 i4 i5 c : Nat) (all : Bool)
    (hS : ∀ v, Gr W v → S v) (hchk : chkM5 md ops F i1 i2 i3 i4 i5 c all = true)
    (hF : ∀ b1 b2 b3 b4 b5, (F b1 b2 b3 b4 b5).setIfInBounds i1 true = F true b2 b3 b4 b5 ∧ (F b1 b2 b3 b4 b5).setIfInBounds i2 true = F b1 true b3 b4 b5 ∧ (F b1 b2 b3 b4 b5).setIfInBounds i3 true = F b1 b2 true b4 b5 ∧ (F b1 b2 b3 b4 b5).setIfInBounds i4 true = F b1 b2 b3 true b5 ∧ (F b1 b2 b3 b4 b5).setIfInBounds i5 true = F b1 b2 b3 b4 true)
    (new1 : ∀ q1 q2 q3 q4 q5 w (K : Act → World → Prop), K (A (.pointer (some ⟨w.heap.size, 0, none⟩)) q2 q3 q4 q5) (w.alloc (.cells z t (0, 0))) → wpOp P ops Q i1 K (A q1 q2 q3 q4 q5) w)
    (new2 : ∀ q1 q2 q3 q4 q5 w (K : Act → World → Prop), K (A q1 (.pointer (some ⟨w.heap.size, 0, none⟩)) q3 q4 q5) (w.alloc (.cells z t (0, 0))) → wpOp P ops Q i2 K (A q1 q2 q3 q4 q5) w)
    (new3 : ∀ q1 q2 q3 q4 q5 w (K : Act → World → Prop), K (A q1 q2 (.pointer (some ⟨w.heap.size, 0, none⟩)) q4 q5) (w.alloc (.cells z t (0, 0))) → wpOp P ops Q i3 K (A q1 q2 q3 q4 q5) w)
    (new4 : ∀ q1 q2 q3 q4 q5 w (K : Act → World → Prop), K (A q1 q2 q3 (.pointer (some ⟨w.heap.size, 0, none⟩)) q5) (w.alloc (.cells z t (0, 0))) → wpOp P ops Q i4 K (A q1 q2 q3 q4 q5) w)
    (new5 : ∀ q1 q2 q3 q4 q5 w (K : Act → World → Prop), K (A q1 q2 q3 q4 (.pointer (some ⟨w.heap.size, 0, none⟩))) (w.alloc (.cells z t (0, 0))) → wpOp P ops Q i5 K (A q1 q2 q3 q4 q5) w)
    (next : ∀ b1 b2 b3 b4 b5 q1 q2 q3 q4 q5 g1 g2 g3 g4 g5 w, M5 W z t A F b1 b2 b3 b4 b5 q1 q2 q3 q4 q5 g1 g2 g3 g4 g5 (F b1 b2 b3 b4 b5) (A q1 q2 q3 q4 q5) w → (all = true → b1 = true ∧ b2 = true ∧ b3 = true ∧ b4 = true ∧ b5 = true) → wpOp P ops Q c (fun a' w' => S w' ∧ Any P md ops Q S ((F b1 b2 b3 b4 b5).setIfInBounds c true) a' w') (A q1 q2 q3 q4 q5) w)
    {l : Array Bool} {a : Act} {w : World} (h : ∃ b1 b2 b3 b4 b5 q1 q2 q3 q4 q5 g1 g2 g3 g4 g5, M5 W z t A F b1 b2 b3 b4 b5 q1 q2 q3 q4 q5 g1 g2 g3 g4 g5 l a w) : Any P md ops Q S l a w := by
  refine any_stage (fun l a w => ∃ b1 b2 b3 b4 b5 q1 q2 q3 q4 q5 g1 g2 g3 g4 g5, M5 W z t A F b1 b2 b3 b4 b5 q1 q2 q3 q4 q5 g1 g2 g3 g4 g5 l a w) ?_ h
  rintro l a w ⟨b1, b2, b3, b4, b5, q1, q2, q3, q4, q5, g1, g2, g3, g4, g5, hM⟩
  obtain ⟨hl, ha, gr, x1, x2, x3, x4, x5, ne12, ne13, ne14, ne15, ne23, ne24, ne25, ne34, ne35, ne45⟩ := hM
  subst hl ha
  obtain ⟨hne, hr⟩ := chkM5_spec hchk b1 b2 b3 b4 b5
  obtain ⟨f1, f2, f3, f4, f5⟩ := hF b1 b2 b3 b4 b5
  refine ⟨hne, fun i hi => ?_⟩
  rcases hr i hi with ⟨rfl, e⟩ | ⟨rfl, e⟩ | ⟨rfl, e⟩ | ⟨rfl, e⟩ | ⟨rfl, e⟩ | ⟨rfl, e⟩
  · have hg := (Gr.refl w).alloc (.cells z t (0, 0))
    exact new1 q1 q2 q3 q4 q5 w _ ⟨hS _ (gr.trans hg), .inl ⟨true, b2, b3, b4, b5, _, q2, q3, q4, q5, w.heap.size, g2, g3, g4, g5, ⟨f1, rfl, gr.trans hg, fun _ => ⟨rfl, gr.size, blk_new _ _⟩, fun e => (x2 e).more hg, fun e => (x3 e).more hg, fun e => (x4 e).more hg, fun e => (x5 e).more hg, fun _ e => Nat.ne_of_gt (x2 e).lt, fun _ e => Nat.ne_of_gt (x3 e).lt, fun _ e => Nat.ne_of_gt (x4 e).lt, fun _ e => Nat.ne_of_gt (x5 e).lt, ne23, ne24, ne25, ne34, ne35, ne45⟩⟩⟩
  · have hg := (Gr.refl w).alloc (.cells z t (0, 0))
    exact new2 q1 q2 q3 q4 q5 w _ ⟨hS _ (gr.trans hg), .inl ⟨b1, true, b3, b4, b5, q1, _, q3, q4, q5, g1, w.heap.size, g3, g4, g5, ⟨f2, rfl, gr.trans hg, fun e => (x1 e).more hg, fun _ => ⟨rfl, gr.size, blk_new _ _⟩, fun e => (x3 e).more hg, fun e => (x4 e).more hg, fun e => (x5 e).more hg, fun e _ => Nat.ne_of_lt (x1 e).lt, ne13, ne14, ne15, fun _ e => Nat.ne_of_gt (x3 e).lt, fun _ e => Nat.ne_of_gt (x4 e).lt, fun _ e => Nat.ne_of_gt (x5 e).lt, ne34, ne35, ne45⟩⟩⟩
  · have hg := (Gr.refl w).alloc (.cells z t (0, 0))
    exact new3 q1 q2 q3 q4 q5 w _ ⟨hS _ (gr.trans hg), .inl ⟨b1, b2, true, b4, b5, q1, q2, _, q4, q5, g1, g2, w.heap.size, g4, g5, ⟨f3, rfl, gr.trans hg, fun e => (x1 e).more hg, fun e => (x2 e).more hg, fun _ => ⟨rfl, gr.size, blk_new _ _⟩, fun e => (x4 e).more hg, fun e => (x5 e).more hg, ne12, fun e _ => Nat.ne_of_lt (x1 e).lt, ne14, ne15, fun e _ => Nat.ne_of_lt (x2 e).lt, ne24, ne25, fun _ e => Nat.ne_of_gt (x4 e).lt, fun _ e => Nat.ne_of_gt (x5 e).lt, ne45⟩⟩⟩
  · have hg := (Gr.refl w).alloc (.cells z t (0, 0))
    exact new4 q1 q2 q3 q4 q5 w _ ⟨hS _ (gr.trans hg), .inl ⟨b1, b2, b3, true, b5, q1, q2, q3, _, q5, g1, g2, g3, w.heap.size, g5, ⟨f4, rfl, gr.trans hg, fun e => (x1 e).more hg, fun e => (x2 e).more hg, fun e => (x3 e).more hg, fun _ => ⟨rfl, gr.size, blk_new _ _⟩, fun e => (x5 e).more hg, ne12, ne13, fun e _ => Nat.ne_of_lt (x1 e).lt, ne15, ne23, fun e _ => Nat.ne_of_lt (x2 e).lt, ne25, fun e _ => Nat.ne_of_lt (x3 e).lt, ne35, fun _ e => Nat.ne_of_gt (x5 e).lt⟩⟩⟩
  · have hg := (Gr.refl w).alloc (.cells z t (0, 0))
    exact new5 q1 q2 q3 q4 q5 w _ ⟨hS _ (gr.trans hg), .inl ⟨b1, b2, b3, b4, true, q1, q2, q3, q4, _, g1, g2, g3, g4, w.heap.size, ⟨f5, rfl, gr.trans hg, fun e => (x1 e).more hg, fun e => (x2 e).more hg, fun e => (x3 e).more hg, fun e => (x4 e).more hg, fun _ => ⟨rfl, gr.size, blk_new _ _⟩, ne12, ne13, ne14, fun e _ => Nat.ne_of_lt (x1 e).lt, ne23, ne24, fun e _ => Nat.ne_of_lt (x2 e).lt, ne34, fun e _ => Nat.ne_of_lt (x3 e).lt, fun e _ => Nat.ne_of_lt (x4 e).lt⟩⟩⟩
  · refine wpOp_mono (fun a' w' k => ⟨k.1, .inr k.2⟩) (next b1 b2 b3 b4 b5 q1 q2 q3 q4 q5 g1 g2 g3 g4 g5 w ⟨rfl, rfl, gr, x1, x2, x3, x4, x5, ne12, ne13, ne14, ne15, ne23, ne24, ne25, ne34, ne35, ne45⟩ e)
def fw1 (a : Act) (p1 : Nat) (q1 : Value) : Act := ⟨(a.tmps.setIfInBounds p1 q1), a.defers⟩
theorem M1.re {W : World} {z : Array Value} {t : TypeId} {A A' : Value → Act} {F F' : Bool → Array Bool} {b1 : Bool} {q1 : Value} {g1 : Nat} {l l' : Array Bool} {a a' : Act} {w w' : World} (h : M1 W z t A F b1 q1 g1 l a w) (k : Gr w w') (hl : l' = F' b1) (ha : a' = A' q1) :
    M1 W z t A' F' b1 q1 g1 l' a' w' := ⟨hl, ha, h.gr.trans k, fun e => (h.x1 e).more k⟩
theorem M1.again {W : World} {z : Array Value} {t : TypeId} {A : Value → Act} {F F' : Bool → Array Bool} {b1 : Bool} {q1 : Value} {g1 : Nat} {p1 : Nat} {l l' : Array Bool} {a a' : Act} {w w' : World} (h : M1 W z t A F b1 q1 g1 l a w) (k : Gr w w') (hl : l' = F' b1) (ha : fw1 a' p1 q1 = a') :
    M1 W z t (fw1 a' p1) F' b1 q1 g1 l' a' w' := h.re k hl ha.symm
theorem M1.first {W : World} {z : Array Value} {t : TypeId} (F : Bool → Array Bool) {p1 : Nat} {l : Array Bool} (a : Act) (hl : l = F false) (ha : fw1 a p1 (a.tmps.getD p1 undef) = a) :
    ∃ b1 q1 g1, M1 W z t (fw1 a p1) F b1 q1 g1 l a W :=
  ⟨false, a.tmps.getD p1 undef, 0, ⟨hl, ha.symm, Gr.refl W, (fun e => by cases e)⟩⟩
def fw2 (a : Act) (p1 p2 : Nat) (q1 q2 : Value) : Act := ⟨((a.tmps.setIfInBounds p1 q1).setIfInBounds p2 q2), a.defers⟩
theorem M2.re {W : World} {z : Array Value} {t : TypeId} {A A' : Value → Value → Act} {F F' : Bool → Bool → Array Bool} {b1 b2 : Bool} {q1 q2 : Value} {g1 g2 : Nat} {l l' : Array Bool} {a a' : Act} {w w' : World} (h : M2 W z t A F b1 b2 q1 q2 g1 g2 l a w) (k : Gr w w') (hl : l' = F' b1 b2) (ha : a' = A' q1 q2) :
    M2 W z t A' F' b1 b2 q1 q2 g1 g2 l' a' w' := ⟨hl, ha, h.gr.trans k, fun e => (h.x1 e).more k, fun e => (h.x2 e).more k, h.ne12⟩
theorem M2.again {W : World} {z : Array Value} {t : TypeId} {A : Value → Value → Act} {F F' : Bool → Bool → Array Bool} {b1 b2 : Bool} {q1 q2 : Value} {g1 g2 : Nat} {p1 p2 : Nat} {l l' : Array Bool} {a a' : Act} {w w' : World} (h : M2 W z t A F b1 b2 q1 q2 g1 g2 l a w) (k : Gr w w') (hl : l' = F' b1 b2) (ha : fw2 a' p1 p2 q1 q2 = a') :
    M2 W z t (fw2 a' p1 p2) F' b1 b2 q1 q2 g1 g2 l' a' w' := h.re k hl ha.symm
theorem M2.first {W : World} {z : Array Value} {t : TypeId} (F : Bool → Bool → Array Bool) {p1 p2 : Nat} {l : Array Bool} (a : Act) (hl : l = F false false) (ha : fw2 a p1 p2 (a.tmps.getD p1 undef) (a.tmps.getD p2 undef) = a) :
    ∃ b1 b2 q1 q2 g1 g2, M2 W z t (fw2 a p1 p2) F b1 b2 q1 q2 g1 g2 l a W :=
  ⟨false, false, a.tmps.getD p1 undef, a.tmps.getD p2 undef, 0, 0, ⟨hl, ha.symm, Gr.refl W, (fun e => by cases e), (fun e => by cases e), (fun e => by cases e)⟩⟩
def fw4 (a : Act) (p1 p2 p3 p4 : Nat) (q1 q2 q3 q4 : Value) : Act := ⟨((((a.tmps.setIfInBounds p1 q1).setIfInBounds p2 q2).setIfInBounds p3 q3).setIfInBounds p4 q4), a.defers⟩
theorem M4.re {W : World} {z : Array Value} {t : TypeId} {A A' : Value → Value → Value → Value → Act} {F F' : Bool → Bool → Bool → Bool → Array Bool} {b1 b2 b3 b4 : Bool} {q1 q2 q3 q4 : Value} {g1 g2 g3 g4 : Nat} {l l' : Array Bool} {a a' : Act} {w w' : World} (h : M4 W z t A F b1 b2 b3 b4 q1 q2 q3 q4 g1 g2 g3 g4 l a w) (k : Gr w w') (hl : l' = F' b1 b2 b3 b4) (ha : a' = A' q1 q2 q3 q4) :
    M4 W z t A' F' b1 b2 b3 b4 q1 q2 q3 q4 g1 g2 g3 g4 l' a' w' := ⟨hl, ha, h.gr.trans k, fun e => (h.x1 e).more k, fun e => (h.x2 e).more k, fun e => (h.x3 e).more k, fun e => (h.x4 e).more k, h.ne12, h.ne13, h.ne14, h.ne23, h.ne24, h.ne34⟩
theorem M4.again {W : World} {z : Array Value} {t : TypeId} {A : Value → Value → Value → Value → Act} {F F' : Bool → Bool → Bool → Bool → Array Bool} {b1 b2 b3 b4 : Bool} {q1 q2 q3 q4 : Value} {g1 g2 g3 g4 : Nat} {p1 p2 p3 p4 : Nat} {l l' : Array Bool} {a a' : Act} {w w' : World} (h : M4 W z t A F b1 b2 b3 b4 q1 q2 q3 q4 g1 g2 g3 g4 l a w) (k : Gr w w') (hl : l' = F' b1 b2 b3 b4) (ha : fw4 a' p1 p2 p3 p4 q1 q2 q3 q4 = a') :
    M4 W z t (fw4 a' p1 p2 p3 p4) F' b1 b2 b3 b4 q1 q2 q3 q4 g1 g2 g3 g4 l' a' w' := h.re k hl ha.symm
theorem M4.first {W : World} {z : Array Value} {t : TypeId} (F : Bool → Bool → Bool → Bool → Array Bool) {p1 p2 p3 p4 : Nat} {l : Array Bool} (a : Act) (hl : l = F false false false false) (ha : fw4 a p1 p2 p3 p4 (a.tmps.getD p1 undef) (a.tmps.getD p2 undef) (a.tmps.getD p3 undef) (a.tmps.getD p4 undef) = a) :
    ∃ b1 b2 b3 b4 q1 q2 q3 q4 g1 g2 g3 g4, M4 W z t (fw4 a p1 p2 p3 p4) F b1 b2 b3 b4 q1 q2 q3 q4 g1 g2 g3 g4 l a W :=
  ⟨false, false, false, false, a.tmps.getD p1 undef, a.tmps.getD p2 undef, a.tmps.getD p3 undef, a.tmps.getD p4 undef, 0, 0, 0, 0, ⟨hl, ha.symm, Gr.refl W, (fun e => by cases e), (fun e => by cases e), (fun e => by cases e), (fun e => by cases e), (fun e => by cases e), (fun e => by cases e), (fun e => by cases e), (fun e => by cases e), (fun e => by cases e), (fun e => by cases e)⟩⟩
theorem Bl.cell {w v : World} {L : List Blk} (h : Bl w L v) (k : Nat) {x : Blk} (hk : L[k]? = some x) (i : Nat) (y : Value) : Bl w (L.set k ⟨x.g, x.c.setIfInBounds i y, x.t⟩) (v.setCell ⟨x.g, i, none⟩ y) := by
  have hx := h.get k hk
  have hn : ∀ j y, L[j]? = some y → j ≠ k → y.g ≠ x.g := by
    intro j y hj hji
    obtain ⟨hjl, rfl⟩ := List.getElem?_eq_some_iff.1 hj
    obtain ⟨hil, rfl⟩ := List.getElem?_eq_some_iff.1 hk
    rcases Nat.lt_or_gt_of_ne hji with hlt | hlt
    · exact List.pairwise_iff_getElem.1 h.ne j k hjl hil hlt
    · exact (List.pairwise_iff_getElem.1 h.ne k j hil hjl hlt).symm
  refine ⟨h.gr.setCell (h.own k hk) y, ?_, ?_⟩
  · intro z hz
    obtain ⟨j, hj⟩ := List.mem_iff_getElem?.1 hz
    by_cases hji : j = k
    · subst hji
      rw [List.getElem?_set_self', hk] at hj
      simp at hj
      have ho := h.own j hk
      subst hj
      exact ⟨heap_setCell_same _ _ _ _ _ _ hx, ho⟩
    · rw [List.getElem?_set_ne (fun e => hji e.symm)] at hj
      exact ⟨(Below.heap_setCell v ⟨x.g, i, none⟩ y z.g (hn j z hj hji)).trans (h.get j hj), h.own j hj⟩
  · refine List.pairwise_iff_getElem.2 fun a b ha hb hab => ?_
    rw [List.length_set] at ha hb
    have h0 := List.pairwise_iff_getElem.1 h.ne a b ha hb hab
    obtain ⟨hil, rfl⟩ := List.getElem?_eq_some_iff.1 hk
    rw [List.getElem_set, List.getElem_set]
    split
    · rename_i e
      subst e
      split
      · omega
      · exact h0
    · split
      · rename_i e
        subst e
        exact h0
      · exact h0
def uc (l : List Int) : Array Value := (l.map (Value.int .u32)).toArray
theorem uc_size (l : List Int) : (uc l).size = l.length := by simp [uc]
theorem uc_one (l : List Int) : (uc l).all (·.oneCell') = true := by unfold uc; simp [Value.oneCell']
theorem uc_set (l : List Int) (i : Nat) (x : Int) : (uc l).setIfInBounds i (.int .u32 x) = uc (l.set i x) := by
  unfold uc
  rw [List.setIfInBounds_toArray, List.map_set]
theorem uc_get (l : List Int) (i : Nat) (hi : i < l.length) : (uc l)[i]? = some (.int .u32 (l.getD i 0)) := by
  unfold uc
  simp [hi]
theorem uc_cell {v : World} {g : Nat} {l : List Int} {t : TypeId} (h : v.heap[g]? = some (.cells (uc l) t (0, 0))) (i : Nat) (hi : i < l.length) : v.cell? ⟨g, i, none⟩ = some (.int .u32 (l.getD i 0)) := cell_of h (uc_get l i hi)
def kc (l : List Int) : Array Value := (l.map (Value.int .u8)).toArray
theorem kc_size (l : List Int) : (kc l).size = l.length := by simp [kc]
theorem kc_one (l : List Int) : (kc l).all (·.oneCell') = true := by unfold kc; simp [Value.oneCell']
theorem kc_set (l : List Int) (i : Nat) (x : Int) : (kc l).setIfInBounds i (.int .u8 x) = kc (l.set i x) := by
  unfold kc
  rw [List.setIfInBounds_toArray, List.map_set]
theorem kc_get (l : List Int) (i : Nat) (hi : i < l.length) : (kc l)[i]? = some (.int .u8 (l.getD i 0)) := by
  unfold kc
  simp [hi]
theorem kc_cell {v : World} {g : Nat} {l : List Int} {t : TypeId} (h : v.heap[g]? = some (.cells (kc l) t (0, 0))) (i : Nat) (hi : i < l.length) : v.cell? ⟨g, i, none⟩ = some (.int .u8 (l.getD i 0)) := cell_of h (kc_get l i hi)
theorem getD_set (l : List Int) (i j : Nat) (x : Int) (hi : i < l.length) : (l.set i x).getD j 0 = if j = i then x else l.getD j 0 := by
  by_cases h : j = i
  · subst h
    simp [hi]
  · rw [if_neg h]
    simp [List.getElem?_set_ne (fun e => h e.symm)]
def tn (x : Int) (n : Nat) : Int := bits .or .u32 (x / 2 ^ n) (IntKind.u32.wrap (x * 2 ^ (32 - n)))
theorem sturn_ok (x : Int) (n : Nat) (hn : 1 ≤ n ∧ n ≤ 31) (w : World) :
    Calls Tryd.prog 104 #[.int .u32 x, .int .i64 n] w (fun r w' => r = .returned (.int .u32 (tn x n)) ∧ w' = w.drew) := by
  obtain ⟨m, hm⟩ : ∃ m, m = 32 - n := ⟨_, rfl⟩
  have e1 : 32 - (n : Int) = (m : Int) := by omega
  have e2 : IntKind.i64.wrap (m : Int) = (m : Int) := by rw [IntKind.wrap_i64]; omega
  have m0 : 0 ≤ (m : Int) := by omega
  have n0 : 0 ≤ (n : Int) := by omega
  replace hm := hide hm
  go_enter Tryd.func104, Tryd.ntmps104
  go_wp2_with fail
  go_still_tail 8, (by kernel_rfl)
  go_wp2_with fail
  refine bodyPost_ret (v := .int .u32 (tn x n)) ?_ rfl ⟨rfl, rfl⟩
  unfold tn
  rw [← unhide hm]
  simp [results, Tryd.results104, go_sem]
theorem sturn_int (x m : Int) (hm : 1 ≤ m ∧ m ≤ 31) (w : World) :
    Calls Tryd.prog 104 #[.int .u32 x, .int .i64 m] w (fun r w' => r = .returned (.int .u32 (tn x m.toNat)) ∧ w' = w.drew) := by
  obtain ⟨n, rfl⟩ := Int.eq_ofNat_of_zero_le (a := m) (by omega)
  exact sturn_ok x n (by omega) w
def dg (d : Int) : Int := if 97 ≤ d then d - 87 else d - 48
theorem value_ok (d : Int) (hd : (48 ≤ d ∧ d ≤ 57) ∨ (97 ≤ d ∧ d ≤ 102)) (w : World) :
    Calls Tryd.prog 103 #[.int .i32 d] w (fun r w' => r = .returned (.int .u32 (dg d)) ∧ w' = w) := by
  rcases hd with hd | hd
  · have e : dg d = d - 48 := by unfold dg; rw [if_neg (by omega)]
    rw [e]
    have hl : ¬ 97 ≤ d := by omega
    go_enter Tryd.func103, Tryd.ntmps103
    go_wp2_with fail
    refine bodyPost_ret (v := .int .u32 (d - 48)) ?_ rfl ⟨rfl, rfl⟩
    simp [results, Tryd.results103, go_sem]
  · have e : dg d = d - 87 := by unfold dg; rw [if_pos (by omega)]
    rw [e]
    have hl : 97 ≤ d := by omega
    go_enter Tryd.func103, Tryd.ntmps103
    go_wp2_with fail
    refine bodyPost_ret (v := .int .u32 (d - 87)) ?_ rfl ⟨rfl, rfl⟩
    simp [results, Tryd.results103, go_sem]
    try omega
theorem Tryd.infoW : (Tryd.prog.info? 70).map (·.size) = some 64 := by kernel_rfl
theorem Tryd.infoS : (Tryd.prog.info? 73).map (·.size) = some 8 := by kernel_rfl
def xr (a b : Int) : Int := bits .xor .u32 a b
def an (a b : Int) : Int := bits .and .u32 a b
def ad (a b : Int) : Int := IntKind.u32.wrap (a + b)
theorem ad_eq (a b : Int) : ad a b = (a + b) % 4294967296 := by unfold ad; rw [IntKind.wrap_u32]
structure St where
  (a b c d e f g h : Int)
def T1 (e f g h k w : Int) : Int := ad (ad (ad (ad h (xr (xr (tn e 6) (tn e 11)) (tn e 25))) (xr (an e f) (an (xr 4294967295 e) g))) k) w
def T2 (a b c : Int) : Int := ad (xr (xr (tn a 2) (tn a 13)) (tn a 22)) (xr (xr (an a b) (an a c)) (an b c))
def rnd (s : St) (k w : Int) : St := ⟨ad (T1 s.e s.f s.g s.h k w) (T2 s.a s.b s.c), s.a, s.b, s.c, ad s.d (T1 s.e s.f s.g s.h k w), s.e, s.f, s.g⟩
def rnds (s : St) (W K : List Int) : Nat → St
  | 0 => s
  | n + 1 => rnd (rnds s W K n) (K.getD n 0) (W.getD n 0)
def St.of (s : List Int) : St := ⟨s.getD 0 0, s.getD 1 0, s.getD 2 0, s.getD 3 0, s.getD 4 0, s.getD 5 0, s.getD 6 0, s.getD 7 0⟩
def stp (s W K : List Int) : List Int :=
  [ad (s.getD 0 0) (rnds (.of s) W K 64).a, ad (s.getD 1 0) (rnds (.of s) W K 64).b, ad (s.getD 2 0) (rnds (.of s) W K 64).c, ad (s.getD 3 0) (rnds (.of s) W K 64).d,
   ad (s.getD 4 0) (rnds (.of s) W K 64).e, ad (s.getD 5 0) (rnds (.of s) W K 64).f, ad (s.getD 6 0) (rnds (.of s) W K 64).g, ad (s.getD 7 0) (rnds (.of s) W K 64).h]
theorem stp_len (s W K : List Int) : (stp s W K).length = 8 := rfl
def Z8 : List Int := [0, 0, 0, 0, 0, 0, 0, 0]
set_option maxHeartbeats 2000000 in
theorem steps_ok (s W K : List Int) (hs : s.length = 8) (hW : W.length = 64) (hK : K.length = 64) (w : World) :
    Calls Tryd.prog 87 #[.agg (uc s), .agg (uc W), .agg (uc K)] w (fun r w' => r = .returned (.agg (uc (stp s W K))) ∧ Gr w w') := by
  obtain ⟨S, hS⟩ : ∃ S, S = uc s := ⟨_, rfl⟩
  obtain ⟨A, hA⟩ : ∃ A, A = uc W := ⟨_, rfl⟩
  obtain ⟨C, hC⟩ : ∃ C, C = uc K := ⟨_, rfl⟩
  rw [← hS, ← hA, ← hC]
  replace hS := hide hS
  replace hA := hide hA
  replace hC := hide hC
  go_enter Tryd.func87, Tryd.ntmps87
  go_upto_region 1 with fail
  have hB := ((((Bl.nil w).new S 73).new A 70).new C 70).new #[.int .u32 0, .int .u32 0, .int .u32 0, .int .u32 0, .int .u32 0, .int .u32 0, .int .u32 0, .int .u32 0] 73
  simp only [size_alloc, List.nil_append, List.cons_append] at hB
  replace hB : Bl w [⟨w.heap.size, S, 73⟩, ⟨w.heap.size + 1, A, 70⟩, ⟨w.heap.size + 1 + 1, C, 70⟩, ⟨w.heap.size + 1 + 1 + 1, #[.int .u32 0, .int .u32 0, .int .u32 0, .int .u32 0, .int .u32 0, .int .u32 0, .int .u32 0, .int .u32 0], 73⟩] ((((w.alloc (.cells S 73)).alloc (.cells A 70)).alloc (.cells C 70)).alloc (.cells #[.int .u32 0, .int .u32 0, .int .u32 0, .int .u32 0, .int .u32 0, .int .u32 0, .int .u32 0, .int .u32 0] 73)) := hB
  have hB0 := hide hB
  have c : ∀ j, j < 8 → ((((w.alloc (.cells S 73)).alloc (.cells A 70)).alloc (.cells C 70)).alloc (.cells #[.int .u32 0, .int .u32 0, .int .u32 0, .int .u32 0, .int .u32 0, .int .u32 0, .int .u32 0, .int .u32 0] 73)).cell? ⟨w.heap.size, j, none⟩ = some (.int .u32 (s.getD j 0)) := fun j hj => by
    have h1 := hB.get 0 (x := ⟨w.heap.size, S, 73⟩) rfl
    rw [unhide hS] at h1
    rw [unhide hS]
    exact uc_cell h1 j (by omega)
  obtain ⟨s0, e0, c0⟩ : ∃ x, Hid (x = s.getD 0 0) ∧ ((((w.alloc (.cells S 73)).alloc (.cells A 70)).alloc (.cells C 70)).alloc (.cells #[.int .u32 0, .int .u32 0, .int .u32 0, .int .u32 0, .int .u32 0, .int .u32 0, .int .u32 0, .int .u32 0] 73)).cell? ⟨w.heap.size, 0, none⟩ = some (.int .u32 x) := ⟨_, rfl, c 0 (by omega)⟩
  obtain ⟨s1, e1, c1⟩ : ∃ x, Hid (x = s.getD 1 0) ∧ ((((w.alloc (.cells S 73)).alloc (.cells A 70)).alloc (.cells C 70)).alloc (.cells #[.int .u32 0, .int .u32 0, .int .u32 0, .int .u32 0, .int .u32 0, .int .u32 0, .int .u32 0, .int .u32 0] 73)).cell? ⟨w.heap.size, 1, none⟩ = some (.int .u32 x) := ⟨_, rfl, c 1 (by omega)⟩
  obtain ⟨s2, e2, c2⟩ : ∃ x, Hid (x = s.getD 2 0) ∧ ((((w.alloc (.cells S 73)).alloc (.cells A 70)).alloc (.cells C 70)).alloc (.cells #[.int .u32 0, .int .u32 0, .int .u32 0, .int .u32 0, .int .u32 0, .int .u32 0, .int .u32 0, .int .u32 0] 73)).cell? ⟨w.heap.size, 2, none⟩ = some (.int .u32 x) := ⟨_, rfl, c 2 (by omega)⟩
  obtain ⟨s3, e3, c3⟩ : ∃ x, Hid (x = s.getD 3 0) ∧ ((((w.alloc (.cells S 73)).alloc (.cells A 70)).alloc (.cells C 70)).alloc (.cells #[.int .u32 0, .int .u32 0, .int .u32 0, .int .u32 0, .int .u32 0, .int .u32 0, .int .u32 0, .int .u32 0] 73)).cell? ⟨w.heap.size, 3, none⟩ = some (.int .u32 x) := ⟨_, rfl, c 3 (by omega)⟩
  obtain ⟨s4, e4, c4⟩ : ∃ x, Hid (x = s.getD 4 0) ∧ ((((w.alloc (.cells S 73)).alloc (.cells A 70)).alloc (.cells C 70)).alloc (.cells #[.int .u32 0, .int .u32 0, .int .u32 0, .int .u32 0, .int .u32 0, .int .u32 0, .int .u32 0, .int .u32 0] 73)).cell? ⟨w.heap.size, 4, none⟩ = some (.int .u32 x) := ⟨_, rfl, c 4 (by omega)⟩
  obtain ⟨s5, e5, c5⟩ : ∃ x, Hid (x = s.getD 5 0) ∧ ((((w.alloc (.cells S 73)).alloc (.cells A 70)).alloc (.cells C 70)).alloc (.cells #[.int .u32 0, .int .u32 0, .int .u32 0, .int .u32 0, .int .u32 0, .int .u32 0, .int .u32 0, .int .u32 0] 73)).cell? ⟨w.heap.size, 5, none⟩ = some (.int .u32 x) := ⟨_, rfl, c 5 (by omega)⟩
  obtain ⟨s6, e6, c6⟩ : ∃ x, Hid (x = s.getD 6 0) ∧ ((((w.alloc (.cells S 73)).alloc (.cells A 70)).alloc (.cells C 70)).alloc (.cells #[.int .u32 0, .int .u32 0, .int .u32 0, .int .u32 0, .int .u32 0, .int .u32 0, .int .u32 0, .int .u32 0] 73)).cell? ⟨w.heap.size, 6, none⟩ = some (.int .u32 x) := ⟨_, rfl, c 6 (by omega)⟩
  obtain ⟨s7, e7, c7⟩ : ∃ x, Hid (x = s.getD 7 0) ∧ ((((w.alloc (.cells S 73)).alloc (.cells A 70)).alloc (.cells C 70)).alloc (.cells #[.int .u32 0, .int .u32 0, .int .u32 0, .int .u32 0, .int .u32 0, .int .u32 0, .int .u32 0, .int .u32 0] 73)).cell? ⟨w.heap.size, 7, none⟩ = some (.int .u32 x) := ⟨_, rfl, c 7 (by omega)⟩
  clear c hB
  replace hB := hB0
  clear hB0
  generalize World.alloc _ _ = u at *
  replace hB : Hid (Bl w [⟨w.heap.size, S, 73⟩, ⟨w.heap.size + 1, A, 70⟩, ⟨w.heap.size + 1 + 1, C, 70⟩, ⟨w.heap.size + 1 + 1 + 1, uc Z8, 73⟩] u) := hB
  go_quiet (fail)
  replace hB : Hid (Bl w [⟨w.heap.size, S, 73⟩, ⟨w.heap.size + 1, A, 70⟩, ⟨w.heap.size + 1 + 1, C, 70⟩, ⟨w.heap.size + 1 + 1 + 1, uc Z8, 73⟩] (u.drewN nq)) := (unhide hB).drewN nq
  clear c0 c1 c2 c3 c4 c5 c6 c7
  generalize World.drewN _ _ = u1 at *
  obtain ⟨a0, b0, d0, f0, g0, h0, i0, j0⟩ : s0 = (St.of s).a ∧ s1 = (St.of s).b ∧ s2 = (St.of s).c ∧ s3 = (St.of s).d ∧ s4 = (St.of s).e ∧ s5 = (St.of s).f ∧ s6 = (St.of s).g ∧ s7 = (St.of s).h := ⟨unhide e0, unhide e1, unhide e2, unhide e3, unhide e4, unhide e5, unhide e6, unhide e7⟩
  obtain ⟨z, hz⟩ : ∃ z, z = St.of s := ⟨_, rfl⟩
  rw [← hz] at a0 b0 d0 f0 g0 h0 i0 j0
  subst a0 b0 d0 f0 g0 h0 i0 j0
  clear e0 e1 e2 e3 e4 e5 e6 e7
  replace hz := hide hz
  go_wp2_with fail
  go_loopw [36, 7, 8, 9, 10, 11, 12, 13, 14] (fun i a b c d e f g h wr => ∃ n : Nat, ∃ q : St, n ≤ 64 ∧ i = .int .i64 n ∧ a = .int .u32 q.a ∧ b = .int .u32 q.b ∧ c = .int .u32 q.c ∧ d = .int .u32 q.d ∧ e = .int .u32 q.e ∧ f = .int .u32 q.f ∧ g = .int .u32 q.g ∧ h = .int .u32 q.h ∧ Hid (q = rnds z W K n) ∧ Hid (Bl w [⟨w.heap.size, S, 73⟩, ⟨w.heap.size + 1, A, 70⟩, ⟨w.heap.size + 1 + 1, C, 70⟩, ⟨w.heap.size + 1 + 1 + 1, uc Z8, 73⟩] wr)) (fun i _ _ _ _ _ _ _ _ _ => 64 - (intOf i).toNat)
  case atStart => exact ⟨0, z, by omega, rfl, rfl, rfl, rfl, rfl, rfl, rfl, rfl, rfl, rfl, hB⟩
  case round =>
  clear hB
  obtain ⟨n, q, hn, rfl, rfl, rfl, rfl, rfl, rfl, rfl, rfl, rfl, hq, hB⟩ := hrel
  by_cases hl : n < 64
  · have cW : wr.cell? ⟨w.heap.size + 1, n, none⟩ = some (.int .u32 (W.getD n 0)) := by
      have h1 := (unhide hB).get 1 (x := ⟨w.heap.size + 1, A, 70⟩) rfl
      rw [unhide hA] at h1
      exact uc_cell h1 n (by omega)
    have cK : wr.cell? ⟨w.heap.size + 1 + 1, n, none⟩ = some (.int .u32 (K.getD n 0)) := by
      have h1 := (unhide hB).get 2 (x := ⟨w.heap.size + 1 + 1, C, 70⟩) rfl
      rw [unhide hC] at h1
      exact uc_cell h1 n (by omega)
    have hq2 : Hid (rnd q (K.getD n 0) (W.getD n 0) = rnds z W K (n + 1)) := by
      rw [unhide hq]
      rfl
    obtain ⟨qa, qb, qc, qd, qe, qf, qg, qh⟩ := q
    generalize K.getD n 0 = k at *
    generalize W.getD n 0 = x at *
    have nI : (n : Int) < 64 := by omega
    go_upto_region 7 with (go_at_call 104; refine (sturn_int _ _ (by omega) _).mono ?_; rintro e w1 ⟨rfl, rfl⟩)
    replace hB : Hid (Bl w [⟨w.heap.size, S, 73⟩, ⟨w.heap.size + 1, A, 70⟩, ⟨w.heap.size + 1 + 1, C, 70⟩, ⟨w.heap.size + 1 + 1 + 1, uc Z8, 73⟩] wr.drew.drew.drew.drew.drew.drew) := (unhide hB).drew.drew.drew.drew.drew.drew
    replace cW : wr.drew.drew.drew.drew.drew.drew.cell? ⟨w.heap.size + 1, n, none⟩ = some (.int .u32 x) := cW
    replace cK : wr.drew.drew.drew.drew.drew.drew.cell? ⟨w.heap.size + 1 + 1, n, none⟩ = some (.int .u32 k) := cK
    generalize wr.drew.drew.drew.drew.drew.drew = v at *
    go_quiet (fail)
    replace hB : Hid (Bl w [⟨w.heap.size, S, 73⟩, ⟨w.heap.size + 1, A, 70⟩, ⟨w.heap.size + 1 + 1, C, 70⟩, ⟨w.heap.size + 1 + 1 + 1, uc Z8, 73⟩] (v.drewN nq)) := (unhide hB).drewN nq
    clear cW cK
    generalize World.drewN _ _ = v2 at *
    go_wp2_with fail
    go_roundw
    case rel =>
      have e : (if IntKind.u32.signed = true then (-1 : Int) else IntKind.u32.max) = 4294967295 := by decide
      refine ⟨n + 1, rnd ⟨qa, qb, qc, qd, qe, qf, qg, qh⟩ k x, by omega, by go_num, ?_, rfl, rfl, rfl, ?_, rfl, rfl, rfl, hq2, hB⟩
      · rw [e]
        congr 1
        simp only [rnd, T1, T2, ad_eq, xr, an]
        omega
      · rw [e]
        congr 1
        simp only [rnd, T1, T2, ad_eq, xr, an]
        omega
    case measure => simp [intOf]; omega
  · have e : n = 64 := by omega
    subst e
    have c : ∀ j, j < 8 → wr.cell? ⟨w.heap.size, j, none⟩ = some (.int .u32 (s.getD j 0)) := fun j hj => by
      have h1 := (unhide hB).get 0 (x := ⟨w.heap.size, S, 73⟩) rfl
      rw [unhide hS] at h1
      exact uc_cell h1 j (by omega)
    obtain ⟨s0, e0, c0⟩ : ∃ x, Hid (x = s.getD 0 0) ∧ wr.cell? ⟨w.heap.size, 0, none⟩ = some (.int .u32 x) := ⟨_, rfl, c 0 (by omega)⟩
    obtain ⟨s1, e1, c1⟩ : ∃ x, Hid (x = s.getD 1 0) ∧ wr.cell? ⟨w.heap.size, 1, none⟩ = some (.int .u32 x) := ⟨_, rfl, c 1 (by omega)⟩
    obtain ⟨s2, e2, c2⟩ : ∃ x, Hid (x = s.getD 2 0) ∧ wr.cell? ⟨w.heap.size, 2, none⟩ = some (.int .u32 x) := ⟨_, rfl, c 2 (by omega)⟩
    obtain ⟨s3, e3, c3⟩ : ∃ x, Hid (x = s.getD 3 0) ∧ wr.cell? ⟨w.heap.size, 3, none⟩ = some (.int .u32 x) := ⟨_, rfl, c 3 (by omega)⟩
    obtain ⟨s4, e4, c4⟩ : ∃ x, Hid (x = s.getD 4 0) ∧ wr.cell? ⟨w.heap.size, 4, none⟩ = some (.int .u32 x) := ⟨_, rfl, c 4 (by omega)⟩
    obtain ⟨s5, e5, c5⟩ : ∃ x, Hid (x = s.getD 5 0) ∧ wr.cell? ⟨w.heap.size, 5, none⟩ = some (.int .u32 x) := ⟨_, rfl, c 5 (by omega)⟩
    obtain ⟨s6, e6, c6⟩ : ∃ x, Hid (x = s.getD 6 0) ∧ wr.cell? ⟨w.heap.size, 6, none⟩ = some (.int .u32 x) := ⟨_, rfl, c 6 (by omega)⟩
    obtain ⟨s7, e7, c7⟩ : ∃ x, Hid (x = s.getD 7 0) ∧ wr.cell? ⟨w.heap.size, 7, none⟩ = some (.int .u32 x) := ⟨_, rfl, c 7 (by omega)⟩
    clear c
    go_upto_region 12 with fail
    refine wp_region_lit ?_
    iterate 32 (refine wpList_step fun K hK => ?_; replace hK := hide hK; go_simp; refine unhide hK _ _ ?_; clear hK K)
    have hv : Hid (#[.int .u32 ((s0 + q.a) % 4294967296), .int .u32 ((s1 + q.b) % 4294967296), .int .u32 ((s2 + q.c) % 4294967296), .int .u32 ((s3 + q.d) % 4294967296), .int .u32 ((s4 + q.e) % 4294967296), .int .u32 ((s5 + q.f) % 4294967296), .int .u32 ((s6 + q.g) % 4294967296), .int .u32 ((s7 + q.h) % 4294967296)] = uc (stp s W K)) := by
      rw [unhide e0, unhide e1, unhide e2, unhide e3, unhide e4, unhide e5, unhide e6, unhide e7, unhide hq, unhide hz]
      simp only [← ad_eq]
      rfl
    replace hB := unhide hB
    refine list_val (.agg (uc (stp s W K))) (by kernel_rfl) (by rw [← unhide hv]; go_simp; simp only [IntKind.wrap_u32, and_self]) ?_
    simp only [nrm]
    have hr : (stp s W K).length = 8 := stp_len s W K
    obtain ⟨r, hr0⟩ : ∃ r, r = stp s W K := ⟨_, rfl⟩
    rw [← hr0] at hr
    rw [← hr0]
    refine list_store 73 (.tmp 6) (.tmp 133) (w.heap.size + 1 + 1 + 1) (uc r) 73 (uc Z8) (by kernel_rfl) rfl (by kernel_rfl) (by kernel_rfl) (hB.get 3 (x := ⟨w.heap.size + 1 + 1 + 1, uc Z8, 73⟩) rfl) (by rw [Tryd.infoS, uc_size, hr]) ((show (uc Z8).size = 8 from rfl).trans ((uc_size _).trans hr).symm) (uc_one _) ?_
    replace hB := hB.set 3 (x := ⟨w.heap.size + 1 + 1 + 1, uc Z8, 73⟩) rfl (uc r)
    simp only [List.set_cons_zero, List.set_cons_succ] at hB
    generalize World.setRow _ _ _ = v1_ at *
    simp only [nrm]
    refine wpList_nil ?_
    go_wp2_with fail
    exact bodyPost_ret (v := .agg (uc r)) (results_cell_row Tryd.results87 _ _ (w.heap.size + 1 + 1 + 1) 73 (uc r) (0, 0) _ rfl (hB.get 3 (x := ⟨w.heap.size + 1 + 1 + 1, uc r, 73⟩) rfl) Tryd.underlying73 rfl (by rw [Tryd.infoS, uc_size, hr])) rfl ⟨by rw [hr0], hB.gr⟩
def be (b0 b1 b2 b3 : Int) : Int := bits .or .u32 (bits .or .u32 (bits .or .u32 (b0 * 16777216) (b1 * 65536)) (b2 * 256)) b3
def Z64 : List Int := List.replicate 64 0
def W1 (B : List Int) : Nat → List Int
  | 0 => Z64
  | n + 1 => (W1 B n).set n (be (B.getD (4 * n) 0) (B.getD (4 * n + 1) 0) (B.getD (4 * n + 2) 0) (B.getD (4 * n + 3) 0))
def sg0 (x : Int) : Int := xr (xr (tn x 7) (tn x 18)) (x / 2 ^ 3)
def sg1 (y : Int) : Int := xr (xr (tn y 17) (tn y 19)) (y / 2 ^ 10)
def nx (l : List Int) (i : Nat) : Int := ad (ad (ad (sg1 (l.getD (i - 2) 0)) (l.getD (i - 7) 0)) (sg0 (l.getD (i - 15) 0))) (l.getD (i - 16) 0)
def W2 (B : List Int) : Nat → List Int
  | 0 => W1 B 16
  | k + 1 => (W2 B k).set (k + 16) (nx (W2 B k) (k + 16))
def wds (B : List Int) : List Int := W2 B 48
theorem W1_len (B : List Int) : ∀ n, (W1 B n).length = 64
  | 0 => rfl
  | n + 1 => by rw [W1, List.length_set, W1_len B n]
theorem W2_len (B : List Int) : ∀ n, (W2 B n).length = 64
  | 0 => W1_len B 16
  | n + 1 => by rw [W2, List.length_set, W2_len B n]
theorem wds_len (B : List Int) : (wds B).length = 64 := W2_len B 48
def IsB (B : List Int) : Prop := ∀ x ∈ B, 0 ≤ x ∧ x < 256
theorem IsB.at_ {B : List Int} (h : IsB B) (j : Nat) : 0 ≤ B.getD j 0 ∧ B.getD j 0 < 256 := by
  rcases Nat.lt_or_ge j B.length with hj | hj
  · have : B.getD j 0 = B[j] := by simp [hj]
    rw [this]
    exact h _ (List.getElem_mem hj)
  · simp [List.getElem?_eq_none hj]
def At (w : World) (p o : Nat) (B : List Int) : Prop := ∀ j, j < B.length → w.cell? ⟨p, o + j, none⟩ = some (.int .u8 (B.getD j 0))
theorem At.gr {w v : World} {p o : Nat} {B : List Int} (h : At w p o B) (g : Gr w v) : At v p o B := fun j hj => g.cell (h j hj)
set_option maxHeartbeats 2000000 in
theorem words_ok (B : List Int) (hb : IsB B) (hl : B.length = 64) (p o cap : Nat) (w : World) (hA : At w p o B) :
    Calls Tryd.prog 88 #[.slice (some ⟨p, o, none⟩) 64 cap] w (fun r w' => r = .returned (.agg (uc (wds B))) ∧ Gr w w') := by
  replace hA := hide hA
  replace hb := hide hb
  go_enter Tryd.func88, Tryd.ntmps88
  go_wp2_with fail
  have hB := ((Bl.nil w).new #[.int .u32 0, .int .u32 0, .int .u32 0, .int .u32 0, .int .u32 0, .int .u32 0, .int .u32 0, .int .u32 0, .int .u32 0, .int .u32 0, .int .u32 0, .int .u32 0, .int .u32 0, .int .u32 0, .int .u32 0, .int .u32 0, .int .u32 0, .int .u32 0, .int .u32 0, .int .u32 0, .int .u32 0, .int .u32 0, .int .u32 0, .int .u32 0, .int .u32 0, .int .u32 0, .int .u32 0, .int .u32 0, .int .u32 0, .int .u32 0, .int .u32 0, .int .u32 0, .int .u32 0, .int .u32 0, .int .u32 0, .int .u32 0, .int .u32 0, .int .u32 0, .int .u32 0, .int .u32 0, .int .u32 0, .int .u32 0, .int .u32 0, .int .u32 0, .int .u32 0, .int .u32 0, .int .u32 0, .int .u32 0, .int .u32 0, .int .u32 0, .int .u32 0, .int .u32 0, .int .u32 0, .int .u32 0, .int .u32 0, .int .u32 0, .int .u32 0, .int .u32 0, .int .u32 0, .int .u32 0, .int .u32 0, .int .u32 0, .int .u32 0, .int .u32 0] 70).new #[.int .u32 0, .int .u32 0, .int .u32 0, .int .u32 0, .int .u32 0, .int .u32 0, .int .u32 0, .int .u32 0, .int .u32 0, .int .u32 0, .int .u32 0, .int .u32 0, .int .u32 0, .int .u32 0, .int .u32 0, .int .u32 0, .int .u32 0, .int .u32 0, .int .u32 0, .int .u32 0, .int .u32 0, .int .u32 0, .int .u32 0, .int .u32 0, .int .u32 0, .int .u32 0, .int .u32 0, .int .u32 0, .int .u32 0, .int .u32 0, .int .u32 0, .int .u32 0, .int .u32 0, .int .u32 0, .int .u32 0, .int .u32 0, .int .u32 0, .int .u32 0, .int .u32 0, .int .u32 0, .int .u32 0, .int .u32 0, .int .u32 0, .int .u32 0, .int .u32 0, .int .u32 0, .int .u32 0, .int .u32 0, .int .u32 0, .int .u32 0, .int .u32 0, .int .u32 0, .int .u32 0, .int .u32 0, .int .u32 0, .int .u32 0, .int .u32 0, .int .u32 0, .int .u32 0, .int .u32 0, .int .u32 0, .int .u32 0, .int .u32 0, .int .u32 0] 70
  simp only [size_alloc, List.nil_append, List.cons_append] at hB
  generalize World.alloc _ _ = u at *
  replace hB : Hid (Bl w [⟨w.heap.size, uc Z64, 70⟩, ⟨w.heap.size + 1, uc (W1 B 0), 70⟩] u) := hide hB
  go_loopw [10] (fun i wr => ∃ n : Nat, ∃ m : List Int, n ≤ 16 ∧ i = .int .i64 n ∧ Hid (m = W1 B n) ∧ Hid (Bl w [⟨w.heap.size, uc Z64, 70⟩, ⟨w.heap.size + 1, uc m, 70⟩] wr)) (fun i _ => 16 - (intOf i).toNat)
  case atStart => exact ⟨0, W1 B 0, by omega, rfl, rfl, hB⟩
  case round =>
  clear hB
  obtain ⟨n, m, hn, rfl, hm, hB⟩ := hrel
  have hml : m.length = 64 := by rw [unhide hm]; exact W1_len B n
  by_cases hil : n < 16
  · obtain ⟨q0, hq0⟩ : ∃ q, q = 4 * n := ⟨_, rfl⟩
    obtain ⟨q1, hq1⟩ : ∃ q, q = 4 * n + 1 := ⟨_, rfl⟩
    obtain ⟨q2, hq2⟩ : ∃ q, q = 4 * n + 2 := ⟨_, rfl⟩
    obtain ⟨q3, hq3⟩ : ∃ q, q = 4 * n + 3 := ⟨_, rfl⟩
    have hAt : At wr p o B := (unhide hA).gr (unhide hB).gr
    have c0 := hAt q0 (by omega)
    have c1 := hAt q1 (by omega)
    have c2 := hAt q2 (by omega)
    have c3 := hAt q3 (by omega)
    have b0 := (unhide hb).at_ q0
    have b1 := (unhide hb).at_ q1
    have b2 := (unhide hb).at_ q2
    have b3 := (unhide hb).at_ q3
    have f3 := froz_of (i := n) ((unhide hB).get 1 (x := ⟨w.heap.size + 1, uc m, 70⟩) rfl)
    have c4 := uc_cell ((unhide hB).get 1 (x := ⟨w.heap.size + 1, uc m, 70⟩) rfl) n (by omega)
    have hm2 : Hid (m.set n (be (B.getD q0 0) (B.getD q1 0) (B.getD q2 0) (B.getD q3 0)) = W1 B (n + 1)) := by
      rw [unhide hm, hq0, hq1, hq2, hq3]
      rfl
    have hB2 := (unhide hB).drew.cell 1 (x := ⟨w.heap.size + 1, uc m, 70⟩) rfl n (.int .u32 (be (B.getD q0 0) (B.getD q1 0) (B.getD q2 0) (B.getD q3 0)))
    simp only [List.set_cons_zero, List.set_cons_succ, uc_set] at hB2
    replace hB2 := hide hB2
    generalize B.getD q0 0 = x0 at *
    generalize B.getD q1 0 = x1 at *
    generalize B.getD q2 0 = x2 at *
    generalize B.getD q3 0 = x3 at *
    generalize m.getD n 0 = z at c4
    have e0 : 4 * (n : Int) = (q0 : Int) := by omega
    have e1 : (q0 : Int) + 1 = (q1 : Int) := by omega
    have e2 : (q0 : Int) + 2 = (q2 : Int) := by omega
    have e3 : (q0 : Int) + 3 = (q3 : Int) := by omega
    have g0 : IntKind.i64.wrap (q0 : Int) = (q0 : Int) := by rw [IntKind.wrap_i64]; omega
    have g1 : IntKind.i64.wrap (q1 : Int) = (q1 : Int) := by rw [IntKind.wrap_i64]; omega
    have g2 : IntKind.i64.wrap (q2 : Int) = (q2 : Int) := by rw [IntKind.wrap_i64]; omega
    have g3 : IntKind.i64.wrap (q3 : Int) = (q3 : Int) := by rw [IntKind.wrap_i64]; omega
    have l0 : 0 ≤ (q0 : Int) ∧ (q0 : Int) < 64 := by omega
    have l1 : 0 ≤ (q1 : Int) ∧ (q1 : Int) < 64 := by omega
    have l2 : 0 ≤ (q2 : Int) ∧ (q2 : Int) < 64 := by omega
    have l3 : 0 ≤ (q3 : Int) ∧ (q3 : Int) < 64 := by omega
    have m0 : q0 < 64 := by omega
    have m1 : q1 < 64 := by omega
    have m2 : q2 < 64 := by omega
    have m3 : q3 < 64 := by omega
    have nI : (n : Int) < 16 := by omega
    have nJ : (n : Int) < 64 := by omega
    have nK : n < 64 := by omega
    replace hq0 := hide hq0
    replace hq1 := hide hq1
    replace hq2 := hide hq2
    replace hq3 := hide hq3
    go_wp2_with fail
    go_still_tail 35, (by kernel_rfl)
    go_wp2_with fail
    go_roundw
    case rel =>
      exact ⟨n + 1, _, by omega, by go_num, hm2, hB2⟩
    case measure => simp [intOf]; omega
  · have e : n = 16 := by omega
    subst e
    replace hB : Hid (Bl w [⟨w.heap.size, uc Z64, 70⟩, ⟨w.heap.size + 1, uc (W2 B 0), 70⟩] wr) := by
      have := unhide hB
      rw [unhide hm] at this
      exact this
    clear hm hml
    go_wp2_with fail
    go_loopw [5] (fun i wr => ∃ n : Nat, ∃ m : List Int, n ≤ 48 ∧ i = .int .i64 (n + 16 : Nat) ∧ Hid (m = W2 B n) ∧ Hid (Bl w [⟨w.heap.size, uc Z64, 70⟩, ⟨w.heap.size + 1, uc m, 70⟩] wr)) (fun i _ => 64 - (intOf i).toNat)
    case atStart => exact ⟨0, W2 B 0, by omega, rfl, rfl, hB⟩
    case round =>
    clear hB
    obtain ⟨n, m, hn, rfl, hm, hB⟩ := hrel
    have hml : m.length = 64 := by rw [unhide hm]; exact W2_len B n
    by_cases hil : n < 48
    · obtain ⟨k, hk⟩ : ∃ k, k = n + 16 := ⟨_, rfl⟩
      rw [← hk]
      obtain ⟨q0, hq0⟩ : ∃ q, q = k - 2 := ⟨_, rfl⟩
      obtain ⟨q1, hq1⟩ : ∃ q, q = k - 7 := ⟨_, rfl⟩
      obtain ⟨q2, hq2⟩ : ∃ q, q = k - 15 := ⟨_, rfl⟩
      obtain ⟨q3, hq3⟩ : ∃ q, q = k - 16 := ⟨_, rfl⟩
      have hg := (unhide hB).get 1 (x := ⟨w.heap.size + 1, uc m, 70⟩) rfl
      have c0 := uc_cell hg q0 (by omega)
      have c1 := uc_cell hg q1 (by omega)
      have c2 := uc_cell hg q2 (by omega)
      have c3 := uc_cell hg q3 (by omega)
      have c4 := uc_cell hg k (by omega)
      have f4 := froz_of (i := k) hg
      have hm2 : Hid (m.set k (ad (ad (ad (sg1 (m.getD q0 0)) (m.getD q1 0)) (sg0 (m.getD q2 0))) (m.getD q3 0)) = W2 B (n + 1)) := by
        rw [hq0, hq1, hq2, hq3, hk, unhide hm]
        rfl
      clear hg
      generalize m.getD q0 0 = x0 at *
      generalize m.getD q1 0 = x1 at *
      generalize m.getD q2 0 = x2 at *
      generalize m.getD q3 0 = x3 at *
      generalize m.getD k 0 = z at c4
      have e0 : (k : Int) - 2 = (q0 : Int) := by omega
      have e1 : (k : Int) - 7 = (q1 : Int) := by omega
      have e2 : (k : Int) - 15 = (q2 : Int) := by omega
      have e3 : (k : Int) - 16 = (q3 : Int) := by omega
      have g0 : IntKind.i64.wrap (q0 : Int) = (q0 : Int) := by rw [IntKind.wrap_i64]; omega
      have g1 : IntKind.i64.wrap (q1 : Int) = (q1 : Int) := by rw [IntKind.wrap_i64]; omega
      have g2 : IntKind.i64.wrap (q2 : Int) = (q2 : Int) := by rw [IntKind.wrap_i64]; omega
      have g3 : IntKind.i64.wrap (q3 : Int) = (q3 : Int) := by rw [IntKind.wrap_i64]; omega
      have l0 : 0 ≤ (q0 : Int) ∧ (q0 : Int) < 64 := by omega
      have l1 : 0 ≤ (q1 : Int) ∧ (q1 : Int) < 64 := by omega
      have l2 : 0 ≤ (q2 : Int) ∧ (q2 : Int) < 64 := by omega
      have l3 : 0 ≤ (q3 : Int) ∧ (q3 : Int) < 64 := by omega
      have m0 : q0 < 64 := by omega
      have m1 : q1 < 64 := by omega
      have m2 : q2 < 64 := by omega
      have m3 : q3 < 64 := by omega
      have nJ : 0 ≤ (k : Int) ∧ (k : Int) < 64 := by omega
      have nK : k < 64 := by omega
      replace hk := hide hk
      replace hq0 := hide hq0
      replace hq1 := hide hq1
      replace hq2 := hide hq2
      replace hq3 := hide hq3
      go_wp2_with fail
      go_quiet (fail)
      replace hB : Hid (Bl w [⟨w.heap.size, uc Z64, 70⟩, ⟨w.heap.size + 1, uc m, 70⟩] (wr.drewN nq)) := (unhide hB).drewN nq
      replace c1 : (wr.drewN nq).cell? ⟨w.heap.size + 1, q1, none⟩ = some (.int .u32 x1) := c1
      replace c3 : (wr.drewN nq).cell? ⟨w.heap.size + 1, q3, none⟩ = some (.int .u32 x3) := c3
      replace c4 : (wr.drewN nq).cell? ⟨w.heap.size + 1, k, none⟩ = some (.int .u32 z) := c4
      replace f4 : (wr.drewN nq).frozen? ⟨w.heap.size + 1, k, none⟩ = false := f4
      clear c0 c2
      generalize World.drewN _ _ = v at *
      go_upto_region 13 with (go_at_call 104; refine (sturn_int _ _ (by omega) _).mono ?_; rintro e w1 ⟨rfl, rfl⟩)
      replace hB : Hid (Bl w [⟨w.heap.size, uc Z64, 70⟩, ⟨w.heap.size + 1, uc m, 70⟩] v.drew.drew.drew.drew) := (unhide hB).drew.drew.drew.drew
      replace c1 : v.drew.drew.drew.drew.cell? ⟨w.heap.size + 1, q1, none⟩ = some (.int .u32 x1) := c1
      replace c3 : v.drew.drew.drew.drew.cell? ⟨w.heap.size + 1, q3, none⟩ = some (.int .u32 x3) := c3
      replace c4 : v.drew.drew.drew.drew.cell? ⟨w.heap.size + 1, k, none⟩ = some (.int .u32 z) := c4
      replace f4 : v.drew.drew.drew.drew.frozen? ⟨w.heap.size + 1, k, none⟩ = false := f4
      generalize v.drew.drew.drew.drew = v2 at *
      go_still_tail 15, (by kernel_rfl)
      go_wp2_with fail
      go_roundw
      case rel =>
        have hB2 := (unhide hB).drew.cell 1 (x := ⟨w.heap.size + 1, uc m, 70⟩) rfl k (.int .u32 (ad (ad (ad (sg1 x0) x1) (sg0 x2)) x3))
        simp only [List.set_cons_zero, List.set_cons_succ, uc_set] at hB2
        have hz : ad (ad (ad (sg1 x0) x1) (sg0 x2)) x3 = (sg1 x0 + x1 + sg0 x2 + x3) % 4294967296 := by
          simp only [ad_eq]
          omega
        rw [hz] at hB2 hm2
        exact ⟨.int .i64 ((k : Int) + 1), _, _, _, _, _, _, _, _, _, _, _, _, _, _, _, _, _, _, _, _, _, _, _, _, _, _, _, _, _, _, _, _, _, _, _, _, _, _, _, _, _, _, _, _, _, _, _, ⟨n + 1, _, by omega, by have := unhide hk; congr 1; omega, hm2, hide hB2⟩, rfl⟩
      case measure => simp [intOf]; omega
    · have e : n = 48 := by omega
      subst e
      clear hil
      go_upto_region 14 with fail
      replace hB := unhide hB
      have hr0 : m = wds B := unhide hm
      clear hm
      refine wp_region_lit ?_
      refine list_val (.agg (uc m)) (by kernel_rfl) (exec_arr _ 70 (.tmp 3) rfl (w.heap.size + 1) (by kernel_rfl) (uc m) 70 _ (hB.get 1 (x := ⟨w.heap.size + 1, uc m, 70⟩) rfl) Tryd.underlying70 rfl (by rw [Tryd.infoW, uc_size, hml])) ?_
      simp only [nrm]
      refine list_store 70 (.tmp 2) (.tmp 92) w.heap.size (uc m) 70 (uc Z64) (by kernel_rfl) rfl (by kernel_rfl) (by kernel_rfl) (hB.get 0 (x := ⟨w.heap.size, uc Z64, 70⟩) rfl) (by rw [Tryd.infoW, uc_size, hml]) ((show (uc Z64).size = 64 from rfl).trans ((uc_size _).trans hml).symm) (uc_one _) ?_
      replace hB := hB.set 0 (x := ⟨w.heap.size, uc Z64, 70⟩) rfl (uc m)
      simp only [List.set_cons_zero, List.set_cons_succ] at hB
      generalize World.setRow _ _ _ = v1_ at *
      simp only [nrm]
      refine wpList_nil ?_
      go_wp2_with fail
      exact bodyPost_ret (v := .agg (uc m)) (results_cell_row Tryd.results88 _ _ w.heap.size 70 (uc m) (0, 0) _ rfl (hB.get 0 (x := ⟨w.heap.size, uc m, 70⟩) rfl) Tryd.underlying70 rfl (by rw [Tryd.infoW, uc_size, hml])) rfl ⟨by rw [hr0], hB.gr⟩
end Go.Proofs.YtpmgmpihmpifgaaDoor
