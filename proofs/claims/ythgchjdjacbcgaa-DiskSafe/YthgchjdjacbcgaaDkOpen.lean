/-
  How ops and bools that come in as arguments are opened.
-/
import Derived.Test.YthgchjdjacbcgaaDkK
import Derived.Test.YthgchjdjacbcgaaRows
import Derived.ProofKit
import Derived.OpenShut
import Derived.ChangeOld
import Derived.SizedLaws
import Derived.Deep.Strs
import Derived.Deep.Grids
import Derived.Lib.SmallJoins
namespace Go.Proofs.Ythgchjdjacbcgaa
open Go.ChangeShapes Go.WideShapes Go.ChangeAt Go.RowKit
set_option linter.unusedVariables false
set_option linter.unusedSimpArgs false
theorem own : ownKnob Try.prog.godebug = none := by kernel_rfl
theorem laidOut : laidOutB Try.prog = true := by kernel_rfl
theorem wf_byte {x : Int} (h : (Lit.int .u8 x).wf = true) : 0 ≤ x ∧ x < 256 := by
  have := bounds_u8 h
  omega
theorem wf_i64 {x : Int} (h : (Lit.int .i64 x).wf = true) : -9223372036854775808 ≤ x ∧ x < 9223372036854775808 := by
  have := bounds_i64 h
  omega
theorem Try.bytesK : Try.prog.bytesOf 4 = 1 := by kernel_rfl
theorem Try.bytesO : Try.prog.bytesOf 37 = 48 := by kernel_rfl
theorem Try.cellsO : Try.prog.cellsOf 37 = 4 := by kernel_rfl
theorem Try.cellsI : Try.prog.cellsOf 3 = 1 := by kernel_rfl
theorem Try.cellsK : Try.prog.cellsOf 35 = 1 := by kernel_rfl
/-- a list of bools -/
theorem open_keep {H : Type} {enc : TypeId × Value → H} {W : World} {fuel : Nat} {cs : List Value} {x : DataW H × List MemPlace} (h : DataW.trod enc Try.prog W 0 (fun _ => true) true fuel 35 cs = some x)
    (hw : ∀ e2 s2, x.1 = .slice e2 s2 → (e2.length + s2.length) * Try.prog.bytesOf 4 ≤ reachBytes) : ∃ ka kn kp l, cs = [.slice ka kn kp] ∧ Kp W ka kn kp l ∧ kn ≤ 140737488351232 := by
  rcases Deep.open_bools Try.underlying35 Try.underlying4 (by kernel_rfl) h with ⟨rfl, _⟩ | ⟨a, len, cap, B, rfl, _, hl, hm, rfl, hcell⟩
  · exact ⟨none, 0, 0, [], rfl, ⟨rfl, .inl rfl, Nat.le_refl _, by omega⟩, by omega⟩
  · have hb := hw _ _ rfl
    rw [Try.bytesK] at hb
    simp only [List.length_map, List.length_range, reachBytes] at hb
    refine ⟨some a, len, cap, (List.range len).map B, rfl, ⟨by simp, ?_, hl, by unfold maxLen at hm; omega⟩, by omega⟩
    rcases Nat.eq_zero_or_pos len with h0 | h0
    · subst h0
      exact .inl rfl
    · obtain ⟨b, off, spot⟩ := a
      have hspot : spot = none := by simpa [Addr.add] using World.cell?_spot (hcell 0 (by omega))
      subst hspot
      refine .inr ⟨b, off, rfl, fun j v hj => ?_⟩
      have hjl : j < len := by have := (List.getElem?_eq_some_iff.1 hj).1; simpa using this
      have hc := hcell j (by omega)
      rw [Addr.add_mid] at hc
      rw [hc]
      simp [hjl] at hj
      rw [hj]
/-- an op, of its cells -/
theorem open_opc {H : Type} {enc : TypeId × Value → H} {W : World} {fuel : Nat} {cs : List Value} {x : DataW H × List MemPlace} (h : DataW.trod enc Try.prog W 0 (fun _ => true) true fuel 37 cs = some x)
    (hw : ∀ n ∈ x.1.weights Try.prog 37, n ≤ reachBytes) : ∃ o ka kn kp, cs = (opv o ka kn kp).toList ∧ Kp W ka kn kp o.keep ∧ o.Ok := by
  obtain ⟨y0, y1, y2, y3, n, hx, hl, h0, h1, h2, h3⟩ := Go.Joins.trod_struct4 Try.underlying37 h
  rw [Try.cellsO] at hl
  match cs, hl with
  | [c0, c1, c2, c3], _ =>
    simp only [Try.cellsI, Try.cells_b, Try.cellsK] at h0 h1 h2 h3
    have hsw : ∀ e2 s2, y3.1 = .slice e2 s2 → (e2.length + s2.length) * Try.prog.bytesOf 4 ≤ reachBytes := by
      intro e2 s2 he
      refine hw _ ?_
      rw [hx, DataW.weights, Try.underlying37]
      show _ ∈ DataW.weightsEach Try.prog [3, 3, 5, 35] [y0.1, y1.1, y2.1, y3.1]
      rw [DataW.weightsEach, DataW.weightsEach, DataW.weightsEach, DataW.weightsEach]
      refine List.mem_append_right _ (List.mem_append_right _ (List.mem_append_right _ (List.mem_append_left _ ?_)))
      rw [he, DataW.weights, Try.underlying35]
      exact List.mem_cons_self
    obtain ⟨z0, e0, _, w0⟩ := DataW.trod_int Try.underlying3 h0
    obtain ⟨z1, e1, _, w1⟩ := DataW.trod_int Try.underlying3 h1
    obtain ⟨z2, e2, _, w2⟩ := DataW.trod_int Try.underlying5 h2
    obtain ⟨ka, kn, kp, l, e3, hk, hkn⟩ := open_keep h3 hsw
    simp at e0 e1 e2 e3
    subst e0 e1 e2 e3
    have b0 := wf_i64 w0
    have b1 := wf_i64 w1
    have b2 := wf_byte w2
    exact ⟨⟨z0, z1, z2, l⟩, ka, kn, kp, rfl, hk, ⟨b0.1, b0.2, b1.1, b1.2, b2.1, b2.2, by show l.length ≤ _; rw [hk.len]; exact hkn⟩⟩
theorem open_op {H : Type} {enc : TypeId × Value → H} {W : World} {base : Nat} {v : Value} {d : DataW H} {p : List MemPlace}
    (hv : Value.okWide Try.prog W .any base 37 v) (h : DataW.Trod enc Try.prog W 0 (fun _ => true) true 37 v d p) (hw : ∀ n ∈ d.weights Try.prog 37, n ≤ reachBytes) :
    ∃ o ka kn kp, v = .agg (opv o ka kn kp) ∧ Kp W ka kn kp o.keep ∧ o.Ok := by
  unfold Value.okWide at hv
  rw [Try.underlying37] at hv
  obtain ⟨cs, rfl, hsz, _⟩ := hv
  obtain ⟨fuel, hf⟩ := h
  obtain ⟨o, ka, kn, kp, e, hk, ho⟩ := open_opc hf hw
  refine ⟨o, ka, kn, kp, ?_, hk, ho⟩
  congr 1
  apply Array.ext'
  exact e
theorem open_bools0 {H : Type} {enc : TypeId × Value → H} {W : World} {a : Option Addr} {len cap : Nat} {d : DataW H} {p : List MemPlace}
    (h : DataW.Trod enc Try.prog W 0 (fun _ => true) true 35 (.slice a len cap) d p) (hw : ∀ elems spare, d = .slice elems spare → (elems.length + spare.length) * Try.prog.bytesOf 4 ≤ reachBytes) :
    ∃ l, Kp W a len cap l ∧ len ≤ 140737488351232 := by
  obtain ⟨fuel, hf⟩ := h
  obtain ⟨ka, kn, kp, l, e, hk, hkn⟩ := open_keep hf hw
  simp [Value.cells] at e
  obtain ⟨rfl, rfl, rfl⟩ := e
  exact ⟨l, hk, hkn⟩
theorem weightsAll_mem {H : Type} {P : Program} {e : TypeId} {d : DataW H} {n : Nat} : ∀ {l : List (DataW H)}, d ∈ l → n ∈ d.weights P e → n ∈ DataW.weightsAll P e l
  | [], h, _ => by cases h
  | x :: r, h, hn => by
    rw [DataW.weightsAll]
    rcases List.mem_cons.1 h with rfl | h
    · exact List.mem_append_left _ hn
    · exact List.mem_append_right _ (weightsAll_mem h hn)
/-- a list of ops -/
theorem open_ops {H : Type} {enc : TypeId × Value → H} {W : World} {a : Option Addr} {len cap : Nat} {d : DataW H} {p : List MemPlace}
    (h : DataW.Trod enc Try.prog W 0 (fun _ => true) true 22 (.slice a len cap) d p) (hw : ∀ n ∈ d.weights Try.prog 22, n ≤ reachBytes) : ∃ l, Los W a len cap l := by
  obtain ⟨fuel, hf⟩ := h
  rcases DataW.trod_slice Try.underlying22 hf with ⟨hcs, _⟩ | ⟨ad, l, c, elems, rest, n, _, hcs, hx, hb, hl, hm, hlen, hel, hsp, hns⟩
  · simp [Value.cells] at hcs
    obtain ⟨rfl, rfl, rfl⟩ := hcs
    exact ⟨[], rfl, (fun o ho => by cases ho), .inl rfl, Nat.le_refl _, by omega⟩
  · simp [Value.cells] at hcs
    obtain ⟨rfl, rfl, rfl⟩ := hcs
    simp only [Prod.mk.injEq] at hx
    have hwd : d.weights Try.prog 22 = ((elems.map (·.1)).length + (rest.map (·.1)).length) * Try.prog.bytesOf 37 :: (DataW.weightsAll Try.prog 37 (elems.map (·.1)) ++ DataW.weightsAll Try.prog 37 (rest.map (·.1))) := by
      rw [hx.1, DataW.weights, Try.underlying22]
    have each : ∀ i, ∃ o : Opl, i < len → ∃ ka kn kp, (∀ j, j < 4 → W.cell? (ad.add (i * 4 + j)) = (opv o ka kn kp).toList[j]?) ∧ Kp W ka kn kp o.keep ∧ o.Ok := by
      intro i
      by_cases hi : i < len
      · have hy : elems[i]? = some (elems[i]'(by omega)) := List.getElem?_eq_getElem (by omega)
        have h1 := hel i hi
        rw [hy, Try.cellsO, Option.bind_eq_some_iff] at h1
        obtain ⟨cs', hcs', hy'⟩ := h1
        have hmem : (elems[i]'(by omega)).1 ∈ elems.map (·.1) := List.mem_map.2 ⟨_, List.getElem_mem _, rfl⟩
        obtain ⟨o, ka, kn, kp, e, hk, ho⟩ := open_opc hy' (fun n hn => hw n (by
          rw [hwd]
          exact List.mem_cons_of_mem _ (List.mem_append_left _ (weightsAll_mem hmem hn))))
        obtain ⟨_, hl4, hc4⟩ := World.cells?_some hcs'
        refine ⟨o, fun _ => ⟨ka, kn, kp, fun j hj => ?_, hk, ho⟩⟩
        have h9 := hc4 j hj
        rw [Deep.add_add] at h9
        rw [h9, e]
      · exact ⟨op0, fun h => absurd h hi⟩
    obtain ⟨f, hf2⟩ := Classical.axiomOfChoice each
    refine ⟨(List.range len).map f, by simp, ?_, ?_, hl, by unfold maxLen at hm; omega⟩
    · intro o ho
      obtain ⟨i, hi, rfl⟩ := List.mem_map.1 ho
      obtain ⟨_, _, _, _, _, h3⟩ := hf2 i (List.mem_range.1 hi)
      exact h3
    rcases Nat.eq_zero_or_pos len with h0 | h0
    · left
      subst h0
      rfl
    · right
      obtain ⟨b, off, spot⟩ := ad
      obtain ⟨_, _, _, h1, _⟩ := hf2 0 h0
      have h1 := h1 0 (by omega)
      have hspot : spot = none := by
        rw [show (opv (f 0) _ _ _).toList[0]? = some (Value.int .i64 (f 0).kind) from rfl] at h1
        simpa [Addr.add] using World.cell?_spot h1
      subst hspot
      refine ⟨b, off, rfl, fun j hj => ?_⟩
      obtain ⟨ka, kn, kp, h2, h3, _⟩ := hf2 j hj
      have e : ((List.range len).map f).getD j op0 = f j := by simp [hj]
      rw [e]
      refine ⟨ka, kn, kp, fun q v hq => ?_, h3⟩
      have hq4 : q < 4 := (List.getElem?_eq_some_iff.1 hq).1
      have h5 := h2 q hq4
      rw [Addr.add_mid, hq] at h5
      rw [Nat.add_assoc, Nat.mul_comm 4 j]
      exact h5
end Go.Proofs.Ythgchjdjacbcgaa
