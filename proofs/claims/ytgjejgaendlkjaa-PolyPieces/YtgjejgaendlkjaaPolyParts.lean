/-
  How parts come in; what a Code does.
-/
import Derived.Test.YtgjejgaendlkjaaPiecesWalk
import Derived.Test.YtgjejgaendlkjaaPolyOpen
import Derived.ChangeMaps5
namespace Go.Proofs.Ytgjejgaendlkjaa
open Go.ChangeShapes Go.WideShapes Go.ChangeAt Go.RowKit
set_option maxRecDepth 100000
set_option linter.unusedVariables false

theorem weightsAll_mem {H : Type} {P : Program} {e : TypeId} {d : DataW H} {n : Nat} : ∀ {l : List (DataW H)}, d ∈ l → n ∈ d.weights P e → n ∈ DataW.weightsAll P e l
  | [], h, _ => by cases h
  | x :: r, h, hn => by
    rw [DataW.weightsAll]
    rcases List.mem_cons.1 h with rfl | h
    · exact List.mem_append_left _ hn
    · exact List.mem_append_right _ (weightsAll_mem h hn)
theorem Try.cellsB : Try.prog.cellsOf 24 = 1 := by kernel_rfl
theorem Try.bytesB : Try.prog.bytesOf 24 = 24 := by kernel_rfl
theorem open_parts {H : Type} {enc : TypeId × Value → H} {W : World} {a : Option Addr} {len cap : Nat} {d : DataW H} {p : List MemPlace}
    (h : DataW.Trod enc Try.prog W 0 (fun _ => true) true 31 (.slice a len cap) d p) (hw : ∀ n ∈ d.weights Try.prog 31, n ≤ reachBytes) :
    ∃ ps : List (List Int), ps.length = len ∧ Pr W a ps ∧ len ≤ 140737488351232 ∧ len ≤ cap ∧ ∀ q ∈ ps, q.length ≤ 140737488351232 := by
  obtain ⟨fuel, hf⟩ := h
  rcases DataW.trod_slice Try.underlying31 hf with ⟨hcs, _⟩ | ⟨ad, l, c, elems, rest, n, _, hcs, hx, hb, hl, hm, hlen, hel, hsp, hns⟩
  · simp [Value.cells] at hcs
    obtain ⟨rfl, rfl, rfl⟩ := hcs
    exact ⟨[], rfl, .inl rfl, by omega, by omega, fun q h => by cases h⟩
  · simp [Value.cells] at hcs
    obtain ⟨rfl, rfl, rfl⟩ := hcs
    simp only [Prod.mk.injEq] at hx
    have hwd : d.weights Try.prog 31 = ((elems.map (·.1)).length + (rest.map (·.1)).length) * Try.prog.bytesOf 24 :: (DataW.weightsAll Try.prog 24 (elems.map (·.1)) ++ DataW.weightsAll Try.prog 24 (rest.map (·.1))) := by
      rw [hx.1, DataW.weights, Try.underlying31]
    have hlb : len ≤ 140737488351232 := by
      have h1 := hw _ (by rw [hwd]; exact List.mem_cons_self)
      rw [Try.bytesB, List.length_map, hlen] at h1
      unfold reachBytes at h1
      omega
    have each : ∀ i, ∃ li : List Int, i < len → ∃ ai ni ci, W.cell? (ad.add i) = some (.slice ai ni ci) ∧ li.length = ni ∧ IsB li ∧ Sl W ai li ∧ ni ≤ ci ∧ ci < 9223372036854775808 ∧ ni ≤ 140737488351232 := by
      intro i
      by_cases hi : i < len
      · have hy : elems[i]? = some (elems[i]'(by omega)) := List.getElem?_eq_getElem (by omega)
        have h1 := hel i hi
        rw [hy, Try.cellsB, Nat.mul_one, Option.bind_eq_some_iff] at h1
        obtain ⟨cs', hcs', hy'⟩ := h1
        have hmem : (elems[i]'(by omega)).1 ∈ elems.map (·.1) := List.mem_map.2 ⟨_, List.getElem_mem _, rfl⟩
        have hsz : ∀ e2 s2, (elems[i]'(by omega)).1 = .slice e2 s2 → (e2.length + s2.length) * Try.prog.bytesOf 5 ≤ reachBytes := by
          intro e2 s2 he
          refine hw _ ?_
          rw [hwd]
          refine List.mem_cons_of_mem _ (List.mem_append_left _ (weightsAll_mem hmem ?_))
          rw [he, DataW.weights, Try.underlying24]
          exact List.mem_cons_self
        rcases DataW.trod_slice Try.underlying24 hy' with ⟨rfl, _⟩ | ⟨ad', l', c', _, _, _, _, rfl, _⟩
        · obtain ⟨li, kk, k5⟩ := open_bytes (a := none) (len := 0) (cap := 0) (d := (elems[i]'(by omega)).1) (p := (elems[i]'(by omega)).2) ⟨n, hy'⟩ hsz
          exact ⟨li, fun _ => ⟨none, 0, 0, cell_of_cells?_one hcs', kk.len, kk.isB, kk.sl, kk.cap, kk.max, by have := kk.cap; omega⟩⟩
        · obtain ⟨li, kk, k5⟩ := open_bytes (a := some ad') (len := l') (cap := c') (d := (elems[i]'(by omega)).1) (p := (elems[i]'(by omega)).2) ⟨n, hy'⟩ hsz
          exact ⟨li, fun _ => ⟨some ad', l', c', cell_of_cells?_one hcs', kk.len, kk.isB, kk.sl, kk.cap, kk.max, by have := kk.cap; omega⟩⟩
      · exact ⟨[], fun h => absurd h hi⟩
    obtain ⟨f, hf2⟩ := Classical.axiomOfChoice each
    refine ⟨(List.range len).map f, by simp, ?_, hlb, hl, fun q hq => by
      obtain ⟨i, hi, rfl⟩ := List.mem_map.1 hq
      obtain ⟨_, _, _, _, h3, _, _, _, _, h8⟩ := hf2 i (List.mem_range.1 hi)
      omega⟩
    rcases Nat.eq_zero_or_pos len with h0 | h0
    · left
      subst h0
      rfl
    · right
      obtain ⟨b, off, spot⟩ := ad
      obtain ⟨a0, n0, c0, h1, _⟩ := hf2 0 h0
      have hspot : spot = none := by simpa [Addr.add] using World.cell?_spot h1
      subst hspot
      refine ⟨b, off, rfl, fun j hj => ?_⟩
      have hj2 : j < len := by simpa using hj
      obtain ⟨ai, ni, ci, h2, h3, h4, h5, h6, h7, _⟩ := hf2 j hj2
      have e : ((List.range len).map f).getD j [] = f j := by simp [hj2]
      rw [e]
      rw [Addr.add_mid] at h2
      exact ⟨ai, ni, ci, h2, h3, h4, h5, h6, h7⟩
/-- what the calls of a Code do -/
theorem code_ops (K : List Int) (hK : K.length = 32) (hKb : IsB K) : CodeOps (Cd K) K where
  new := fun w => (new_ok K hK hKb w).mono fun r w' h => h
  write := fun g L P s n cap w hC _ lb hne _ => (write_ok K L P g s n cap w hC (fun v hv => ⟨lb.len, lb.isB, by
    rcases lb.sl with h | ⟨p, o, h1, h2⟩
    · exact .inl h
    · exact .inr ⟨p, o, h1, fun j hj => hv.cell (h2 j hj) (hne _ h1)⟩, lb.cap, lb.max⟩)).mono fun r w' h => h
  tag := fun g L w hC _ _ => (ctag_ok K L g w hC).mono fun r w' h => h
  cell := fun g L w hC => by
    obtain ⟨l, S, M, A, hH, _⟩ := hC
    exact ⟨_, hH.2⟩
  keep := fun g L w v hC h => by
    obtain ⟨l, S, M, A, hH, hr⟩ := hC
    exact ⟨l, S, M, A, ⟨hH.1, h.trans hH.2⟩, hr⟩
end Go.Proofs.Ytgjejgaendlkjaa
