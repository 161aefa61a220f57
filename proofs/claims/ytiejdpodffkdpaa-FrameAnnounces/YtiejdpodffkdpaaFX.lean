/-
  Layer 14: how records and bytes that come in as arguments are opened.
-/
import Derived.Test.YtiejdpodffkdpaaFC
import Derived.Test.YtiejdpodffkdpaaRows
import Derived.ProofKit
import Derived.OpenShut
import Derived.ChangeOld
import Derived.ChangeSame
import Derived.SizedLaws
import Derived.Deep.Strs
import Derived.Deep.Grids
import Derived.Lib.SmallJoins
namespace Go.Proofs.Ytiejdpodffkdpaa
open Go.ChangeShapes Go.WideShapes Go.ChangeAt Go.RowKit
set_option maxRecDepth 100000
set_option linter.unusedVariables false
set_option linter.unusedSimpArgs false
theorem laidOut : laidOutB Try.prog = true := by kernel_rfl
theorem wf_byte {x : Int} (h : (Lit.int .u8 x).wf = true) : 0 ≤ x ∧ x < 256 := by
  have := bounds_u8 h
  omega
def numV : Value → Int
  | .int _ z => z
  | _ => 0
/-- a row of bytes -/
theorem row8 {H : Type} {enc : TypeId × Value → H} {W : World} {t : TypeId} {n fuel : Nat} {cs : List Value} {x : DataW H × List MemPlace} (ht : Try.prog.underlying t = some (.array n 5)) (hc : Try.prog.cellsOf t = n)
    (h : DataW.trod enc Try.prog W 0 (fun _ => true) true fuel t cs = some x) : ∃ kl : List Int, cs = kl.map (Value.int .u8) ∧ kl.length = n ∧ IsB kl := by
  obtain ⟨xs, m, _, _, hl, hxl, hx⟩ := DataW.trod_array ht h
  rw [hc] at hl
  have hcell : ∀ i, i < n → ∃ z, cs[i]? = some (.int .u8 z) ∧ (Lit.int .u8 z).wf = true := by
    intro i hi
    have h1 := hx i hi
    rw [Try.cells_b, Nat.mul_one, List.getElem?_eq_getElem (by omega)] at h1
    obtain ⟨z, e, _, hwf⟩ := DataW.trod_int Try.underlying5 h1
    refine ⟨z, ?_, hwf⟩
    have h2 : ((cs.drop i).take 1)[0]? = some (.int .u8 z) := by rw [e]; rfl
    simpa using h2
  refine ⟨cs.map numV, ?_, by simp [hl], ?_⟩
  · apply List.ext_getElem (by simp)
    intro i h1 h2
    obtain ⟨z, hz, _⟩ := hcell i (by omega)
    have : cs[i] = .int .u8 z := by rw [List.getElem?_eq_getElem h1] at hz; simpa using hz
    simp [this, numV]
  · intro x hx
    obtain ⟨v, hv, rfl⟩ := List.mem_map.1 hx
    obtain ⟨i, hi, rfl⟩ := List.getElem_of_mem hv
    obtain ⟨z, hz, hwf⟩ := hcell i (by omega)
    have : cs[i] = .int .u8 z := by rw [List.getElem?_eq_getElem hi] at hz; simpa using hz
    rw [this]
    exact wf_byte hwf
theorem Try.cellsK : Try.prog.cellsOf 30 = 32 := by kernel_rfl
theorem Try.bytes5 : Try.prog.bytesOf 5 = 1 := by kernel_rfl
/-- a list of bytes -/
theorem open_bytes {H : Type} {enc : TypeId × Value → H} {W : World} {a : Option Addr} {len cap : Nat} {d : DataW H} {p : List MemPlace}
    (h : DataW.Trod enc Try.prog W 0 (fun _ => true) true 26 (.slice a len cap) d p) (hw : ∀ elems spare, d = .slice elems spare → (elems.length + spare.length) * Try.prog.bytesOf 5 ≤ reachBytes) :
    ∃ l, Lb W a len cap l ∧ cap ≤ 140737488351232 := by
  obtain ⟨fuel, hf⟩ := h
  rcases open_ints Try.underlying26 Try.underlying5 (by kernel_rfl) hf with ⟨hcs, _⟩ | ⟨x, l, c, zs, hcs, _, hl, hm, hz, hx, hcell, hwz⟩
  · simp [Value.cells] at hcs
    obtain ⟨rfl, rfl, rfl⟩ := hcs
    exact ⟨[], ⟨rfl, (fun x hx => by cases hx), .inl rfl, by omega, by omega⟩, by omega⟩
  · simp [Value.cells] at hcs
    obtain ⟨rfl, rfl, rfl⟩ := hcs
    simp only [Prod.mk.injEq] at hx
    simp only [if_true] at hz
    have := hw _ _ hx.1
    rw [Try.bytes5] at this
    simp only [lits, List.length_map, List.length_take, List.length_drop, reachBytes] at this
    refine ⟨zs.take len, ⟨by simp; omega, fun y hy => wf_byte (hwz y (List.mem_of_mem_take hy)), ?_, by omega, by omega⟩, by omega⟩
    rcases Nat.eq_zero_or_pos len with h0 | h0
    · subst h0
      exact .inl (by simp)
    obtain ⟨b, off, spot⟩ := x
    have hspot : spot = none := by simpa [Addr.add] using World.cell?_spot (hcell 0 (by omega))
    subst hspot
    refine .inr ⟨b, off, rfl, fun i hi => ?_⟩
    have hi : i < len := by simp at hi; omega
    have e1 : (⟨b, off, none⟩ : Addr).add i = ⟨b, off + i, none⟩ := by
      rcases Nat.eq_zero_or_pos i with h0 | h0
      · subst h0; rfl
      · simp [Addr.add]; omega
    have := hcell i (by omega)
    rw [e1] at this
    rw [this, List.getD_eq_getElem?_getD, List.getD_eq_getElem?_getD, List.getElem?_take, if_pos hi]
theorem wf_b64 {x : Int} (h : (Lit.int .i64 x).wf = true) : -9223372036854775808 ≤ x ∧ x < 9223372036854775808 := by
  have := bounds_i64 h
  omega
theorem wf_u64 {x : Int} (h : (Lit.int .u64 x).wf = true) : 0 ≤ x ∧ x < 18446744073709551616 := by
  have := bounds_u64 h
  omega
/-- rows of k cells that came in -/
structure Lr (k : Nat) (W : World) (a : Option Addr) (n c : Nat) (R : List (List Value)) : Prop where
  len : R.length = n
  sl : n = 0 ∨ ∃ p o, a = some ⟨p, o, none⟩ ∧ ∀ i, i < n → W.rangeAt p (o + k * i) (R.getD i [])
  cap : n ≤ c
  max : c < 9223372036854775808
theorem Lr.gr {k : Nat} {w v : World} {a : Option Addr} {n c : Nat} {R : List (List Value)} (h : Lr k w a n c R) (g : Gr w v) : Lr k v a n c R := by
  refine ⟨h.len, ?_, h.cap, h.max⟩
  rcases h.sl with h | ⟨p, o, h1, h2⟩
  · exact .inl h
  · exact .inr ⟨p, o, h1, fun i hi => range_gr (h2 i hi) g⟩
theorem Lr.at_ {k : Nat} {w : World} {a : Option Addr} {n c : Nat} {R : List (List Value)} (h : Lr k w a n c R) (i : Nat) (hi : i < n) : ∃ p o, a = some ⟨p, o, none⟩ ∧ w.rangeAt p (o + k * i) (R.getD i []) := by
  rcases h.sl with h0 | ⟨p, o, h1, h2⟩
  · omega
  · exact ⟨p, o, h1, h2 i hi⟩
theorem open_rows {H : Type} {enc : TypeId × Value → H} {W : World} {t e : TypeId} {k : Nat} (ht : Try.prog.underlying t = some (.slice e)) (hk : Try.prog.cellsOf e = k) (hk0 : 0 < k) {α : Type} (z : α) (f : α → List Value) (Ok : α → Prop) (hlen : ∀ o, Ok o → (f o).length = k)
    (each : ∀ (fuel : Nat) (cs : List Value) (x : DataW H × List MemPlace), DataW.trod enc Try.prog W 0 (fun _ => true) true fuel e cs = some x → ∃ o, cs = f o ∧ Ok o)
    {fuel : Nat} {cs : List Value} {x : DataW H × List MemPlace} (hf : DataW.trod enc Try.prog W 0 (fun _ => true) true fuel t cs = some x) : ∃ a len cap l, cs = [.slice a len cap] ∧ Lr k W a len cap ((l : List α).map f) ∧ ∀ o ∈ l, Ok o := by
  rcases DataW.trod_slice ht hf with ⟨hcs, _⟩ | ⟨ad, len, cap, elems, rest, n, _, hcs, hx, hb, hl, hm, hlen2, hel, hsp, hns⟩
  · exact ⟨none, 0, 0, [], hcs, ⟨rfl, .inl rfl, Nat.le_refl _, by omega⟩, fun o h => by cases h⟩
  · have each2 : ∀ i, ∃ o : α, i < len → (∀ j, j < k → W.cell? (ad.add (i * k + j)) = (f o)[j]?) ∧ Ok o := by
      intro i
      by_cases hi : i < len
      · have hy : elems[i]? = some (elems[i]'(by omega)) := List.getElem?_eq_getElem (by omega)
        have h1 := hel i hi
        rw [hy, hk, Option.bind_eq_some_iff] at h1
        obtain ⟨cs', hcs', hy'⟩ := h1
        obtain ⟨o, e, ho⟩ := each _ _ _ hy'
        obtain ⟨_, hl4, hc4⟩ := World.cells?_some hcs'
        refine ⟨o, fun _ => ⟨fun j hj => ?_, ho⟩⟩
        have h9 := hc4 j hj
        rw [Deep.add_add] at h9
        rw [h9, e]
      · exact ⟨z, fun h => absurd h hi⟩
    obtain ⟨g, hg⟩ := Classical.axiomOfChoice each2
    refine ⟨some ad, len, cap, (List.range len).map g, hcs, ⟨by simp, ?_, hl, by unfold maxLen at hm; omega⟩, ?_⟩
    · rcases Nat.eq_zero_or_pos len with h0 | h0
      · exact .inl h0
      · right
        obtain ⟨b, off, spot⟩ := ad
        obtain ⟨h1, h2⟩ := hg 0 h0
        have h1 := h1 0 hk0
        have hspot : spot = none := by
          rw [List.getElem?_eq_getElem (by rw [hlen _ h2]; exact hk0)] at h1
          simpa [Addr.add] using World.cell?_spot h1
        subst hspot
        refine ⟨b, off, rfl, fun i hi => ?_⟩
        obtain ⟨h3, h4⟩ := hg i hi
        have e : (((List.range len).map g).map f).getD i [] = f (g i) := by simp [hi]
        rw [e]
        intro q v hq
        have hqk : q < k := by have := (List.getElem?_eq_some_iff.1 hq).1; rw [hlen _ h4] at this; exact this
        have h5 := h3 q hqk
        rw [Addr.add_mid, hq] at h5
        rw [Nat.add_assoc, Nat.mul_comm k i]
        exact h5
    · intro o ho
      obtain ⟨i, hi, rfl⟩ := List.mem_map.1 ho
      exact (hg i (List.mem_range.1 hi)).2

theorem take_sp (l : List Value) (o n : Nat) : l.drop o = (l.drop o).take n ++ l.drop (o + n) := by
  have := List.take_append_drop n (l.drop o)
  rw [List.drop_drop] at this
  exact this.symm
theorem wf_u32 {x : Int} (h : (Lit.int .u32 x).wf = true) : 0 ≤ x ∧ x < 4294967296 := by
  have := bounds_u32 h
  omega
theorem Try.cellsHd : Try.prog.cellsOf 46 = 34 := by kernel_rfl
theorem Try.cellsAn : Try.prog.cellsOf 25 = 2 := by kernel_rfl
theorem Try.cells32 : Try.prog.cellsOf 44 = 1 := by kernel_rfl
theorem Try.cells64 : Try.prog.cellsOf 22 = 1 := by kernel_rfl
theorem Try.cellsI : Try.prog.cellsOf 3 = 1 := by kernel_rfl
theorem Try.cellsSl : Try.prog.cellsOf 26 = 1 := by kernel_rfl
theorem Try.cellsSk : Try.prog.cellsOf 23 = 1 := by kernel_rfl
theorem open_hd {H : Type} {enc : TypeId × Value → H} {W : World} {fuel : Nat} {cs : List Value} {x : DataW H × List MemPlace} (h : DataW.trod enc Try.prog W 0 (fun _ => true) true fuel 46 cs = some x) : ∃ K p q, cs = hdl K p q ∧ (K.length = 32 ∧ IsB K) ∧ (0 ≤ p ∧ p < 4294967296) ∧ (0 ≤ q ∧ q < 4294967296) := by
  obtain ⟨y0, y1, y2, n, hx, hl, h0, h1, h2⟩ := Deep.trod_struct3 Try.underlying46 h
  rw [Try.cellsHd] at hl
  simp only [Try.cellsK, Try.cells32] at h0 h1 h2
  obtain ⟨K, eK, hK, bK⟩ := row8 Try.underlying30 Try.cellsK h0
  obtain ⟨z1, e1, _, w1⟩ := DataW.trod_int Try.underlying44 h1
  obtain ⟨z2, e2, _, w2⟩ := DataW.trod_int Try.underlying44 h2
  refine ⟨K, z1, z2, ?_, ⟨hK, bK⟩, wf_u32 w1, wf_u32 w2⟩
  have s0 := take_sp cs 0 32
  have s1 := take_sp cs 32 1
  have s2 := take_sp cs 33 1
  have s3 : cs.drop 34 = [] := List.drop_eq_nil_of_le (by omega)
  rw [List.drop_zero] at s0
  simp only [List.drop_zero] at eK
  rw [s0, eK, s1, e1, s2, e2, s3]
  rfl
/-- a list of bytes within a record -/
theorem open_sl {H : Type} {enc : TypeId × Value → H} {W : World} {n : Nat} {sc : List Value} {y : DataW H × List MemPlace} (h : DataW.trod enc Try.prog W 0 (fun _ => true) true n 26 sc = some y) (hw : ∀ e2 s2, y.1 = .slice e2 s2 → (e2.length + s2.length) * Try.prog.bytesOf 5 ≤ reachBytes) : ∃ s len cap A, sc = [Value.slice s len cap] ∧ Lb W s len cap A := by
  rcases DataW.trod_slice Try.underlying26 h with ⟨rfl, _⟩ | ⟨ad', l', c', _, _, _, _, rfl, _⟩
  · obtain ⟨li, kk, _⟩ := open_bytes (a := none) (len := 0) (cap := 0) (d := y.1) (p := y.2) ⟨n, h⟩ hw
    exact ⟨_, _, _, li, rfl, kk⟩
  · obtain ⟨li, kk, _⟩ := open_bytes (a := some ad') (len := l') (cap := c') (d := y.1) (p := y.2) ⟨n, h⟩ hw
    exact ⟨_, _, _, li, rfl, kk⟩
end Go.Proofs.Ytiejdpodffkdpaa
