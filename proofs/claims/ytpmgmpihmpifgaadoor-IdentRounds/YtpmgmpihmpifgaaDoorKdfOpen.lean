/-
  How a key, two counts, a text and parts come in.
-/
import Derived.Test.YtpmgmpihmpifgaaDoorKdfG
import Derived.ChangeMaps5
namespace Go.Proofs.YtpmgmpihmpifgaaDoor
open Go.ChangeShapes Go.WideShapes Go.ChangeAt Go.RowKit
set_option maxRecDepth 100000
set_option linter.unusedVariables false

theorem Tryd.cellsK : Tryd.prog.cellsOf 25 = 32 := by kernel_rfl
theorem Tryd.cells5k : Tryd.prog.cellsOf 5 = 1 := by kernel_rfl
theorem Tryd.cells3k : Tryd.prog.cellsOf 3 = 1 := by kernel_rfl
/-- an array of numbers, cell by cell -/
theorem open_row {H : Type} {enc : TypeId × Value → H} {W : World} {t e : TypeId} {k : IntKind} {n fuel : Nat} {cs : List Value} {x : DataW H × List MemPlace} (ht : Tryd.prog.underlying t = some (.array n e)) (he : Tryd.prog.underlying e = some (.int k)) (hc : Tryd.prog.cellsOf e = 1) (hn : Tryd.prog.cellsOf t = n)
    (h : DataW.trod enc Tryd.prog W 0 (fun _ => true) true fuel t cs = some x) : ∃ zs : List Int, cs = zs.map (Value.int k) ∧ zs.length = n ∧ ∀ z ∈ zs, (Lit.int k z).wf = true := by
  obtain ⟨xs, m, _, hx, hl, hxl, hh⟩ := DataW.trod_array ht h
  rw [hn] at hl
  have hce : ∀ i, i < n → ∃ z, cs[i]? = some (.int k z) ∧ (Lit.int k z).wf = true := by
    intro i hi
    have h1 := hh i hi
    rw [hc, Nat.mul_one, List.getElem?_eq_getElem (by omega)] at h1
    obtain ⟨z, e, _, hw⟩ := DataW.trod_int he h1
    refine ⟨z, ?_, hw⟩
    have h2 : ((cs.drop i).take 1)[0]? = some (.int k z) := by rw [e]; rfl
    simpa using h2
  refine ⟨cs.map (fun v => match v with | .int _ z => z | _ => 0), ?_, by simp [hl], ?_⟩
  · apply List.ext_getElem?
    intro i
    rcases Nat.lt_or_ge i n with hi | hi
    · obtain ⟨z, h1, _⟩ := hce i hi
      simp [h1]
    · rw [List.getElem?_eq_none (by omega), List.getElem?_eq_none (by simp; omega)]
  · intro z hz
    obtain ⟨v, hv, rfl⟩ := List.mem_map.1 hz
    obtain ⟨i, hi⟩ := List.getElem?_of_mem hv
    have hi2 : i < n := by have := (List.getElem?_eq_some_iff.1 hi).1; omega
    obtain ⟨z, h1, h2⟩ := hce i hi2
    rw [hi] at h1
    obtain rfl := Option.some.inj h1
    exact h2
theorem cells_agg_eq {v : Value} {k : IntKind} {zs : List Int} (hz : 1 < zs.length) (h : v.cells.toList = zs.map (Value.int k)) : v = .agg (zs.map (Value.int k)).toArray := by
  cases v with
  | agg cs =>
    have h2 : cs.toList = zs.map (Value.int k) := by simpa [Value.cells] using h
    rw [← h2]
  | _ =>
    have h3 := congrArg List.length h
    simp [Value.cells] at h3
    omega
theorem open_key {H : Type} {enc : TypeId × Value → H} {W : World} {v : Value} {d : DataW H} {p : List MemPlace} (h : DataW.Trod enc Tryd.prog W 0 (fun _ => true) true 25 v d p) : ∃ l : List Int, v = .agg (kc l) ∧ IsB l ∧ l.length = 32 := by
  obtain ⟨fuel, hf⟩ := h
  obtain ⟨zs, h1, h2, h3⟩ := open_row Tryd.underlying25 Tryd.underlying5 Tryd.cells5k Tryd.cellsK hf
  exact ⟨zs, cells_agg_eq (by omega) h1, fun z hz => wf_byte (h3 z hz), h2⟩
theorem open_text {H : Type} {enc : TypeId × Value → H} {W : World} {base : Nat} {v : Value} {d : DataW H} {p : List MemPlace} (hval : Value.okWide Tryd.prog W .any base 9 v) (h : DataW.Trod enc Tryd.prog W 0 (fun _ => true) true 9 v d p) (hs : ∀ bytes, d = .lit (.string bytes) → bytes.length ≤ reachBytes) : ∃ s : ByteArray, v = .string s ∧ s.size ≤ 140737488351232 := by
  obtain ⟨s, h1, h2, _, _⟩ := Go.ChangeMaps.open_string Tryd.underlying9 hval h
  have := hs _ h2
  unfold reachBytes at this
  exact ⟨s, h1, by simpa using this⟩
theorem weightsAll_mem {H : Type} {P : Program} {e : TypeId} {d : DataW H} {n : Nat} : ∀ {l : List (DataW H)}, d ∈ l → n ∈ d.weights P e → n ∈ DataW.weightsAll P e l
  | [], h, _ => by cases h
  | x :: r, h, hn => by
    rw [DataW.weightsAll]
    rcases List.mem_cons.1 h with rfl | h
    · exact List.mem_append_left _ hn
    · exact List.mem_append_right _ (weightsAll_mem h hn)
theorem Tryd.cellsB : Tryd.prog.cellsOf 33 = 1 := by kernel_rfl
theorem Tryd.bytesB : Tryd.prog.bytesOf 33 = 24 := by kernel_rfl
theorem open_parts {H : Type} {enc : TypeId × Value → H} {W : World} {a : Option Addr} {len cap : Nat} {d : DataW H} {p : List MemPlace}
    (h : DataW.Trod enc Tryd.prog W 0 (fun _ => true) true 62 (.slice a len cap) d p) (hw : ∀ n ∈ d.weights Tryd.prog 62, n ≤ reachBytes) :
    ∃ ps : List (List Int), ps.length = len ∧ Pr W a ps ∧ len ≤ 140737488351232 ∧ len ≤ cap ∧ ∀ q ∈ ps, q.length ≤ 140737488351232 := by
  obtain ⟨fuel, hf⟩ := h
  rcases DataW.trod_slice Tryd.underlying62 hf with ⟨hcs, _⟩ | ⟨ad, l, c, elems, rest, n, _, hcs, hx, hb, hl, hm, hlen, hel, hsp, hns⟩
  · simp [Value.cells] at hcs
    obtain ⟨rfl, rfl, rfl⟩ := hcs
    exact ⟨[], rfl, .inl rfl, by omega, by omega, fun q h => by cases h⟩
  · simp [Value.cells] at hcs
    obtain ⟨rfl, rfl, rfl⟩ := hcs
    simp only [Prod.mk.injEq] at hx
    have hwd : d.weights Tryd.prog 62 = ((elems.map (·.1)).length + (rest.map (·.1)).length) * Tryd.prog.bytesOf 33 :: (DataW.weightsAll Tryd.prog 33 (elems.map (·.1)) ++ DataW.weightsAll Tryd.prog 33 (rest.map (·.1))) := by
      rw [hx.1, DataW.weights, Tryd.underlying62]
    have hlb : len ≤ 140737488351232 := by
      have h1 := hw _ (by rw [hwd]; exact List.mem_cons_self)
      rw [Tryd.bytesB, List.length_map, hlen] at h1
      unfold reachBytes at h1
      omega
    have each : ∀ i, ∃ li : List Int, i < len → ∃ ai ni ci, W.cell? (ad.add i) = some (.slice ai ni ci) ∧ li.length = ni ∧ IsB li ∧ Sl W ai li ∧ ni ≤ ci ∧ ci < 9223372036854775808 ∧ ni ≤ 140737488351232 := by
      intro i
      by_cases hi : i < len
      · have hy : elems[i]? = some (elems[i]'(by omega)) := List.getElem?_eq_getElem (by omega)
        have h1 := hel i hi
        rw [hy, Tryd.cellsB, Nat.mul_one, Option.bind_eq_some_iff] at h1
        obtain ⟨cs', hcs', hy'⟩ := h1
        have hmem : (elems[i]'(by omega)).1 ∈ elems.map (·.1) := List.mem_map.2 ⟨_, List.getElem_mem _, rfl⟩
        have hsz : ∀ e2 s2, (elems[i]'(by omega)).1 = .slice e2 s2 → (e2.length + s2.length) * Tryd.prog.bytesOf 5 ≤ reachBytes := by
          intro e2 s2 he
          refine hw _ ?_
          rw [hwd]
          refine List.mem_cons_of_mem _ (List.mem_append_left _ (weightsAll_mem hmem ?_))
          rw [he, DataW.weights, Tryd.underlying33]
          exact List.mem_cons_self
        rcases DataW.trod_slice Tryd.underlying33 hy' with ⟨rfl, _⟩ | ⟨ad', l', c', _, _, _, _, rfl, _⟩
        · obtain ⟨li, k1, k2, k3, k4, k5⟩ := open_bytes (a := none) (len := 0) (cap := 0) (d := (elems[i]'(by omega)).1) (p := (elems[i]'(by omega)).2) ⟨n, hy'⟩ hsz
          exact ⟨li, fun _ => ⟨none, 0, 0, cell_of_cells?_one hcs', k2, k1, k3, k4, by omega, by omega⟩⟩
        · obtain ⟨li, k1, k2, k3, k4, k5⟩ := open_bytes (a := some ad') (len := l') (cap := c') (d := (elems[i]'(by omega)).1) (p := (elems[i]'(by omega)).2) ⟨n, hy'⟩ hsz
          exact ⟨li, fun _ => ⟨some ad', l', c', cell_of_cells?_one hcs', k2, k1, k3, k4, by omega, by omega⟩⟩
      · exact ⟨[], fun h => absurd h hi⟩
    obtain ⟨f, hf2⟩ := Classical.axiomOfChoice each
    refine ⟨(List.range len).map f, by simp, ?_, hlb, hl, fun q hq => by
      obtain ⟨i, hi, rfl⟩ := List.mem_map.1 hq
      obtain ⟨_, _, _, _, h3, _, _, _, _, h8⟩ := hf2 i (List.mem_range.1 hi)
      omega⟩
    rcases Nat.eq_zero_or_pos len with h0 | h0
    · left
      subst h0
      rfl
    · right
      obtain ⟨b, off, spot⟩ := ad
      obtain ⟨a0, n0, c0, h1, _⟩ := hf2 0 h0
      have hspot : spot = none := by simpa [Addr.add] using World.cell?_spot h1
      subst hspot
      refine ⟨b, off, rfl, fun j hj => ?_⟩
      have hj2 : j < len := by simpa using hj
      obtain ⟨ai, ni, ci, h2, h3, h4, h5, h6, h7, _⟩ := hf2 j hj2
      have e : ((List.range len).map f).getD j [] = f j := by simp [hj2]
      rw [e]
      rw [Addr.add_mid] at h2
      exact ⟨ai, ni, ci, h2, h3, h4, h5, h6, h7⟩
end Go.Proofs.YtpmgmpihmpifgaaDoor
