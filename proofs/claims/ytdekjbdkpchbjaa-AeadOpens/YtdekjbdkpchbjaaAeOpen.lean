/-
  How what is used, tags and bytes that come in as arguments are opened.
-/
import Derived.Test.YtdekjbdkpchbjaaAeW
import Derived.Test.YtdekjbdkpchbjaaRows
import Derived.ProofKit
import Derived.OpenShut
import Derived.ChangeOld
import Derived.SizedLaws
import Derived.Deep.Strs
namespace Go.Proofs.Ytdekjbdkpchbjaa
open Go.ChangeShapes Go.WideShapes Go.ChangeAt Go.RowKit
set_option linter.unusedVariables false
set_option linter.unusedSimpArgs false

theorem own : ownKnob Try.prog.godebug = none := by kernel_rfl
theorem laidOut : laidOutB Try.prog = true := by kernel_rfl
theorem wf_byte {x : Int} (h : (Lit.int .u8 x).wf = true) : 0 ≤ x ∧ x < 256 := by
  have := bounds_u8 h
  omega
def numV : Value → Int
  | .int _ z => z
  | _ => 0
/-- a row of bytes -/
theorem row8 {H : Type} {enc : TypeId × Value → H} {W : World} {t : TypeId} {n fuel : Nat} {cs : List Value} {x : DataW H × List MemPlace} (ht : Try.prog.underlying t = some (.array n 5)) (hc : Try.prog.cellsOf t = n)
    (h : DataW.trod enc Try.prog W 0 (fun _ => true) true fuel t cs = some x) : ∃ kl : List Int, cs = kl.map (Value.int .u8) ∧ kl.length = n ∧ IsB kl := by
  obtain ⟨xs, m, _, _, hl, hxl, hx⟩ := DataW.trod_array ht h
  rw [hc] at hl
  have hcell : ∀ i, i < n → ∃ z, cs[i]? = some (.int .u8 z) ∧ (Lit.int .u8 z).wf = true := by
    intro i hi
    have h1 := hx i hi
    rw [Try.cells_b, Nat.mul_one, List.getElem?_eq_getElem (by omega)] at h1
    obtain ⟨z, e, _, hwf⟩ := DataW.trod_int Try.underlying5 h1
    refine ⟨z, ?_, hwf⟩
    have h2 : ((cs.drop i).take 1)[0]? = some (.int .u8 z) := by rw [e]; rfl
    simpa using h2
  refine ⟨cs.map numV, ?_, by simp [hl], ?_⟩
  · apply List.ext_getElem (by simp)
    intro i h1 h2
    obtain ⟨z, hz, _⟩ := hcell i (by omega)
    have : cs[i] = .int .u8 z := by rw [List.getElem?_eq_getElem h1] at hz; simpa using hz
    simp [this, numV]
  · intro x hx
    obtain ⟨v, hv, rfl⟩ := List.mem_map.1 hx
    obtain ⟨i, hi, rfl⟩ := List.getElem_of_mem hv
    obtain ⟨z, hz, hwf⟩ := hcell i (by omega)
    have : cs[i] = .int .u8 z := by rw [List.getElem?_eq_getElem hi] at hz; simpa using hz
    rw [this]
    exact wf_byte hwf
theorem Try.cellsK : Try.prog.cellsOf 23 = 32 := by kernel_rfl
theorem Try.cellsT : Try.prog.cellsOf 41 = 16 := by kernel_rfl
theorem open_key {H : Type} {enc : TypeId × Value → H} {W : World} {base : Nat} {v : Value} {d : DataW H} {p : List MemPlace}
    (hv : Value.okWide Try.prog W .any base 23 v) (h : DataW.Trod enc Try.prog W 0 (fun _ => true) true 23 v d p) : ∃ K, v = .agg (kc K) ∧ K.length = 32 ∧ IsB K := by
  unfold Value.okWide at hv
  rw [Try.underlying23] at hv
  obtain ⟨cs, rfl, hsz, _⟩ := hv
  obtain ⟨fuel, hf⟩ := h
  obtain ⟨K, eK, hK, bK⟩ := row8 Try.underlying23 Try.cellsK hf
  simp only [Value.cells] at eK
  refine ⟨K, ?_, hK, bK⟩
  congr 1
  apply Array.ext'
  exact eK
theorem open_row16 {H : Type} {enc : TypeId × Value → H} {W : World} {base : Nat} {v : Value} {d : DataW H} {p : List MemPlace}
    (hv : Value.okWide Try.prog W .any base 41 v) (h : DataW.Trod enc Try.prog W 0 (fun _ => true) true 41 v d p) : ∃ K, v = .agg (kc K) ∧ K.length = 16 ∧ IsB K := by
  unfold Value.okWide at hv
  rw [Try.underlying41] at hv
  obtain ⟨cs, rfl, hsz, _⟩ := hv
  obtain ⟨fuel, hf⟩ := h
  obtain ⟨K, eK, hK, bK⟩ := row8 Try.underlying41 Try.cellsT hf
  simp only [Value.cells] at eK
  refine ⟨K, ?_, hK, bK⟩
  congr 1
  apply Array.ext'
  exact eK
theorem Try.bytes5 : Try.prog.bytesOf 5 = 1 := by kernel_rfl
/-- a list of bytes -/
theorem open_bytes {H : Type} {enc : TypeId × Value → H} {W : World} {a : Option Addr} {len cap : Nat} {d : DataW H} {p : List MemPlace}
    (h : DataW.Trod enc Try.prog W 0 (fun _ => true) true 26 (.slice a len cap) d p) (hw : ∀ elems spare, d = .slice elems spare → (elems.length + spare.length) * Try.prog.bytesOf 5 ≤ reachBytes) :
    ∃ l, Lb W a len cap l ∧ cap ≤ 140737488351232 := by
  obtain ⟨fuel, hf⟩ := h
  rcases open_ints Try.underlying26 Try.underlying5 (by kernel_rfl) hf with ⟨hcs, _⟩ | ⟨x, l, c, zs, hcs, _, hl, hm, hz, hx, hcell, hwz⟩
  · simp [Value.cells] at hcs
    obtain ⟨rfl, rfl, rfl⟩ := hcs
    exact ⟨[], ⟨rfl, (fun x hx => by cases hx), .inl rfl, by omega, by omega⟩, by omega⟩
  · simp [Value.cells] at hcs
    obtain ⟨rfl, rfl, rfl⟩ := hcs
    simp only [Prod.mk.injEq] at hx
    simp only [if_true] at hz
    have := hw _ _ hx.1
    rw [Try.bytes5] at this
    simp only [lits, List.length_map, List.length_take, List.length_drop, reachBytes] at this
    refine ⟨zs.take len, ⟨by simp; omega, fun y hy => wf_byte (hwz y (List.mem_of_mem_take hy)), ?_, by omega, by omega⟩, by omega⟩
    rcases Nat.eq_zero_or_pos len with h0 | h0
    · subst h0
      exact .inl (by simp)
    obtain ⟨b, off, spot⟩ := x
    have hspot : spot = none := by simpa [Addr.add] using World.cell?_spot (hcell 0 (by omega))
    subst hspot
    refine .inr ⟨b, off, rfl, fun i hi => ?_⟩
    have hi : i < len := by simp at hi; omega
    have e1 : (⟨b, off, none⟩ : Addr).add i = ⟨b, off + i, none⟩ := by
      rcases Nat.eq_zero_or_pos i with h0 | h0
      · subst h0; rfl
      · simp [Addr.add]; omega
    have := hcell i (by omega)
    rw [e1] at this
    rw [this, List.getD_eq_getElem?_getD, List.getD_eq_getElem?_getD, List.getElem?_take, if_pos hi]
theorem weightsAll_mem {H : Type} {P : Program} {e : TypeId} {d : DataW H} {n : Nat} : ∀ {l : List (DataW H)}, d ∈ l → n ∈ d.weights P e → n ∈ DataW.weightsAll P e l
  | [], h, _ => by cases h
  | x :: r, h, hn => by
    rw [DataW.weightsAll]
    rcases List.mem_cons.1 h with rfl | h
    · exact List.mem_append_left _ hn
    · exact List.mem_append_right _ (weightsAll_mem h hn)
theorem Try.cellsU : Try.prog.cellsOf 28 = 45 := by kernel_rfl
theorem Try.cellsN : Try.prog.cellsOf 25 = 12 := by kernel_rfl
theorem Try.cellsB : Try.prog.cellsOf 26 = 1 := by kernel_rfl
theorem wf_long {x : Int} (h : (Lit.int .u64 x).wf = true) : 0 ≤ x ∧ x < 18446744073709551616 := by
  have := bounds_u64 h
  omega
/-- a key, a nonce, and what is only looked at -/
theorem open_used {H : Type} {enc : TypeId × Value → H} {W : World} {base : Nat} {v : Value} {d : DataW H} {p : List MemPlace}
    (hv : Value.okWide Try.prog W .any base 28 v) (h : DataW.Trod enc Try.prog W 0 (fun _ => true) true 28 v d p) (hw : ∀ n ∈ d.weights Try.prog 28, n ≤ reachBytes) :
    ∃ K N s len cap A, v = .agg (usd K N s len cap) ∧ Us K N ∧ Lb W s len cap A := by
  unfold Value.okWide at hv
  rw [Try.underlying28] at hv
  obtain ⟨cs, rfl, hsz, _⟩ := hv
  rw [Try.cellsU] at hsz
  obtain ⟨fuel, hf⟩ := h
  obtain ⟨y0, y1, y2, n, hx, _, h0, h1, h2⟩ := Deep.trod_struct3 Try.underlying28 hf
  obtain ⟨K, eK, hK, bK⟩ := row8 Try.underlying23 Try.cellsK h0
  obtain ⟨N, eN, hN, bN⟩ := row8 Try.underlying25 Try.cellsN h1
  rw [Try.cellsK] at eK
  rw [Try.cellsN] at eN
  rw [Try.cellsB] at h2
  simp only [Value.cells] at eK eN h2
  simp only [Prod.mk.injEq] at hx
  have hsw : ∀ e2 s2, y2.1 = .slice e2 s2 → (e2.length + s2.length) * Try.prog.bytesOf 5 ≤ reachBytes := by
    intro e2 s2 he
    refine hw _ ?_
    rw [hx.1, DataW.weights, Try.underlying28]
    show _ ∈ DataW.weightsEach Try.prog [23, 25, 26] [y0.1, y1.1, y2.1]
    rw [DataW.weightsEach, DataW.weightsEach, DataW.weightsEach]
    refine List.mem_append_right _ (List.mem_append_right _ (List.mem_append_left _ ?_))
    rw [he, DataW.weights, Try.underlying26]
    exact List.mem_cons_self
  obtain ⟨sc, hsc⟩ : ∃ x, x = (cs.toList.drop 44).take 1 := ⟨_, rfl⟩
  have h2' : DataW.trod enc Try.prog W 0 (fun _ => true) true n 26 sc = some y2 := by rw [hsc]; exact h2
  obtain ⟨s, len, cap, A, hs, hA⟩ : ∃ s len cap A, sc = [Value.slice s len cap] ∧ Lb W s len cap A := by
    rcases DataW.trod_slice Try.underlying26 h2' with ⟨rfl, _⟩ | ⟨ad', l', c', _, _, _, _, rfl, _⟩
    · obtain ⟨li, kk, _⟩ := open_bytes (a := none) (len := 0) (cap := 0) (d := y2.1) (p := y2.2) ⟨n, h2'⟩ hsw
      exact ⟨_, _, _, li, rfl, kk⟩
    · obtain ⟨li, kk, _⟩ := open_bytes (a := some ad') (len := l') (cap := c') (d := y2.1) (p := y2.2) ⟨n, h2'⟩ hsw
      exact ⟨_, _, _, li, rfl, kk⟩
  refine ⟨K, N, s, len, cap, A, ?_, ⟨hK, hN, bK, bN⟩, hA⟩
  congr 1
  apply Array.ext'
  unfold usd
  have hl : cs.toList.length = 45 := by simpa using hsz
  generalize cs.toList = l at *
  have e0 : l = l.take 32 ++ ((l.drop 32).take 12 ++ (l.drop 44).take 1) := by
    have a1 := List.take_append_drop 32 l
    have a2 := List.take_append_drop 12 (l.drop 32)
    have a3 : (l.drop 44).take 1 = l.drop 44 := List.take_of_length_le (by simp; omega)
    rw [List.drop_drop] at a2
    rw [a3, a2, a1]
  simp only [List.drop_zero] at eK
  rw [e0, eK, eN, ← hsc, hs]
end Go.Proofs.Ytdekjbdkpchbjaa
