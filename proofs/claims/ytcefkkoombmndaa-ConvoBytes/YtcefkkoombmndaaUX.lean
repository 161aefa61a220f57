/-
  How conversations, texts and bytes come in.
-/
import Derived.Test.YtcefkkoombmndaaUA
import Derived.Test.YtcefkkoombmndaaRows
import Derived.ProofKit
import Derived.OpenShut
import Derived.ChangeOld
import Derived.ChangeSame
import Derived.SizedLaws
import Derived.Deep.Strs
import Derived.Deep.Grids
import Derived.Lib.SmallJoins
namespace Go.Proofs.Ytcefkkoombmndaa
open Go.ChangeShapes Go.WideShapes Go.ChangeAt Go.RowKit
set_option maxRecDepth 100000
set_option linter.unusedVariables false
set_option linter.unusedSimpArgs false
theorem laidOut : laidOutB Try.prog = true := by kernel_rfl
theorem wf_byte {x : Int} (h : (Lit.int .u8 x).wf = true) : 0 ≤ x ∧ x < 256 := by
  have := bounds_u8 h
  omega
def numV : Value → Int
  | .int _ z => z
  | _ => 0
/-- a row of bytes -/
theorem row8 {H : Type} {enc : TypeId × Value → H} {W : World} {t : TypeId} {n fuel : Nat} {cs : List Value} {x : DataW H × List MemPlace} (ht : Try.prog.underlying t = some (.array n 5)) (hc : Try.prog.cellsOf t = n)
    (h : DataW.trod enc Try.prog W 0 (fun _ => true) true fuel t cs = some x) : ∃ kl : List Int, cs = kl.map (Value.int .u8) ∧ kl.length = n ∧ IsB kl := by
  obtain ⟨xs, m, _, _, hl, hxl, hx⟩ := DataW.trod_array ht h
  rw [hc] at hl
  have hcell : ∀ i, i < n → ∃ z, cs[i]? = some (.int .u8 z) ∧ (Lit.int .u8 z).wf = true := by
    intro i hi
    have h1 := hx i hi
    rw [Try.cells_b, Nat.mul_one, List.getElem?_eq_getElem (by omega)] at h1
    obtain ⟨z, e, _, hwf⟩ := DataW.trod_int Try.underlying5 h1
    refine ⟨z, ?_, hwf⟩
    have h2 : ((cs.drop i).take 1)[0]? = some (.int .u8 z) := by rw [e]; rfl
    simpa using h2
  refine ⟨cs.map numV, ?_, by simp [hl], ?_⟩
  · apply List.ext_getElem (by simp)
    intro i h1 h2
    obtain ⟨z, hz, _⟩ := hcell i (by omega)
    have : cs[i] = .int .u8 z := by rw [List.getElem?_eq_getElem h1] at hz; simpa using hz
    simp [this, numV]
  · intro x hx
    obtain ⟨v, hv, rfl⟩ := List.mem_map.1 hx
    obtain ⟨i, hi, rfl⟩ := List.getElem_of_mem hv
    obtain ⟨z, hz, hwf⟩ := hcell i (by omega)
    have : cs[i] = .int .u8 z := by rw [List.getElem?_eq_getElem hi] at hz; simpa using hz
    rw [this]
    exact wf_byte hwf
theorem Try.cells105 : Try.prog.cellsOf 27 = 105 := by kernel_rfl
theorem Try.cellsI : Try.prog.cellsOf 3 = 1 := by kernel_rfl
theorem Try.cellsSt : Try.prog.cellsOf 9 = 1 := by kernel_rfl
theorem Try.cellsO : Try.prog.cellsOf 39 = 106 := by kernel_rfl
theorem Try.cellsN : Try.prog.cellsOf 47 = 2 := by kernel_rfl
theorem Try.cellsC : Try.prog.cellsOf 26 = 5 := by kernel_rfl
theorem Try.cellsSO : Try.prog.cellsOf 23 = 1 := by kernel_rfl
theorem Try.cellsSI : Try.prog.cellsOf 24 = 1 := by kernel_rfl
theorem Try.cellsY : Try.prog.cellsOf 28 = 105 := by kernel_rfl
theorem Try.bytes5 : Try.prog.bytesOf 5 = 1 := by kernel_rfl
/-- a list of bytes -/
theorem open_bytes {H : Type} {enc : TypeId × Value → H} {W : World} {a : Option Addr} {len cap : Nat} {d : DataW H} {p : List MemPlace}
    (h : DataW.Trod enc Try.prog W 0 (fun _ => true) true 53 (.slice a len cap) d p) (hw : ∀ elems spare, d = .slice elems spare → (elems.length + spare.length) * Try.prog.bytesOf 5 ≤ reachBytes) :
    ∃ l, Lb W a len cap l ∧ cap ≤ 140737488351232 := by
  obtain ⟨fuel, hf⟩ := h
  rcases open_ints Try.underlying53 Try.underlying5 (by kernel_rfl) hf with ⟨hcs, _⟩ | ⟨x, l, c, zs, hcs, _, hl, hm, hz, hx, hcell, hwz⟩
  · simp [Value.cells] at hcs
    obtain ⟨rfl, rfl, rfl⟩ := hcs
    exact ⟨[], ⟨rfl, (fun x hx => by cases hx), .inl rfl, by omega, by omega⟩, by omega⟩
  · simp [Value.cells] at hcs
    obtain ⟨rfl, rfl, rfl⟩ := hcs
    simp only [Prod.mk.injEq] at hx
    simp only [if_true] at hz
    have := hw _ _ hx.1
    rw [Try.bytes5] at this
    simp only [lits, List.length_map, List.length_take, List.length_drop, reachBytes] at this
    refine ⟨zs.take len, ⟨by simp; omega, fun y hy => wf_byte (hwz y (List.mem_of_mem_take hy)), ?_, by omega, by omega⟩, by omega⟩
    rcases Nat.eq_zero_or_pos len with h0 | h0
    · subst h0
      exact .inl (by simp)
    obtain ⟨b, off, spot⟩ := x
    have hspot : spot = none := by simpa [Addr.add] using World.cell?_spot (hcell 0 (by omega))
    subst hspot
    refine .inr ⟨b, off, rfl, fun i hi => ?_⟩
    have hi : i < len := by simp at hi; omega
    have e1 : (⟨b, off, none⟩ : Addr).add i = ⟨b, off + i, none⟩ := by
      rcases Nat.eq_zero_or_pos i with h0 | h0
      · subst h0; rfl
      · simp [Addr.add]; omega
    have := hcell i (by omega)
    rw [e1] at this
    rw [this, List.getD_eq_getElem?_getD, List.getD_eq_getElem?_getD, List.getElem?_take, if_pos hi]
theorem wf_b64 {x : Int} (h : (Lit.int .i64 x).wf = true) : -9223372036854775808 ≤ x ∧ x < 9223372036854775808 := by
  have := bounds_i64 h
  omega
/-- rows of k cells that came in -/
structure Lr (k : Nat) (W : World) (a : Option Addr) (n c : Nat) (R : List (List Value)) : Prop where
  len : R.length = n
  sl : n = 0 ∨ ∃ p o, a = some ⟨p, o, none⟩ ∧ ∀ i, i < n → W.rangeAt p (o + k * i) (R.getD i [])
  cap : n ≤ c
  max : c < 9223372036854775808
theorem open_rows {H : Type} {enc : TypeId × Value → H} {W : World} {t e : TypeId} {k : Nat} (ht : Try.prog.underlying t = some (.slice e)) (hk : Try.prog.cellsOf e = k) (hk0 : 0 < k) {α : Type} (z : α) (f : α → List Value) (Ok : α → Prop) (hlen : ∀ o, Ok o → (f o).length = k)
    (each : ∀ (fuel : Nat) (cs : List Value) (x : DataW H × List MemPlace), DataW.trod enc Try.prog W 0 (fun _ => true) true fuel e cs = some x → ∃ o, cs = f o ∧ Ok o)
    {fuel : Nat} {cs : List Value} {x : DataW H × List MemPlace} (hf : DataW.trod enc Try.prog W 0 (fun _ => true) true fuel t cs = some x) : ∃ a len cap l, cs = [.slice a len cap] ∧ Lr k W a len cap ((l : List α).map f) ∧ ∀ o ∈ l, Ok o := by
  rcases DataW.trod_slice ht hf with ⟨hcs, _⟩ | ⟨ad, len, cap, elems, rest, n, _, hcs, hx, hb, hl, hm, hlen2, hel, hsp, hns⟩
  · exact ⟨none, 0, 0, [], hcs, ⟨rfl, .inl rfl, Nat.le_refl _, by omega⟩, fun o h => by cases h⟩
  · have each2 : ∀ i, ∃ o : α, i < len → (∀ j, j < k → W.cell? (ad.add (i * k + j)) = (f o)[j]?) ∧ Ok o := by
      intro i
      by_cases hi : i < len
      · have hy : elems[i]? = some (elems[i]'(by omega)) := List.getElem?_eq_getElem (by omega)
        have h1 := hel i hi
        rw [hy, hk, Option.bind_eq_some_iff] at h1
        obtain ⟨cs', hcs', hy'⟩ := h1
        obtain ⟨o, e, ho⟩ := each _ _ _ hy'
        obtain ⟨_, hl4, hc4⟩ := World.cells?_some hcs'
        refine ⟨o, fun _ => ⟨fun j hj => ?_, ho⟩⟩
        have h9 := hc4 j hj
        rw [Deep.add_add] at h9
        rw [h9, e]
      · exact ⟨z, fun h => absurd h hi⟩
    obtain ⟨g, hg⟩ := Classical.axiomOfChoice each2
    refine ⟨some ad, len, cap, (List.range len).map g, hcs, ⟨by simp, ?_, hl, by unfold maxLen at hm; omega⟩, ?_⟩
    · rcases Nat.eq_zero_or_pos len with h0 | h0
      · exact .inl h0
      · right
        obtain ⟨b, off, spot⟩ := ad
        obtain ⟨h1, h2⟩ := hg 0 h0
        have h1 := h1 0 hk0
        have hspot : spot = none := by
          rw [List.getElem?_eq_getElem (by rw [hlen _ h2]; exact hk0)] at h1
          simpa [Addr.add] using World.cell?_spot h1
        subst hspot
        refine ⟨b, off, rfl, fun i hi => ?_⟩
        obtain ⟨h3, h4⟩ := hg i hi
        have e : (((List.range len).map g).map f).getD i [] = f (g i) := by simp [hi]
        rw [e]
        intro q v hq
        have hqk : q < k := by have := (List.getElem?_eq_some_iff.1 hq).1; rw [hlen _ h4] at this; exact this
        have h5 := h3 q hqk
        rw [Addr.add_mid, hq] at h5
        rw [Nat.add_assoc, Nat.mul_comm k i]
        exact h5
    · intro o ho
      obtain ⟨i, hi, rfl⟩ := List.mem_map.1 ho
      exact (hg i (List.mem_range.1 hi)).2
theorem take_sp (l : List Value) (o n : Nat) : l.drop o = (l.drop o).take n ++ l.drop (o + n) := by
  have := List.take_append_drop n (l.drop o)
  rw [List.drop_drop] at this
  exact this.symm
theorem wf_u32 {x : Int} (h : (Lit.int .u32 x).wf = true) : 0 ≤ x ∧ x < 4294967296 := by
  have := bounds_u32 h
  omega
theorem Try.cells32 : Try.prog.cellsOf 22 = 1 := by kernel_rfl
theorem trod_struct5 {H : Type} {enc : TypeId × Value → H} {P : Program} {w : World} {base : Nat} {spare : Nat → Bool} {held : Bool} {t : TypeId} {f0 f1 f2 f3 f4 : Field} {fuel : Nat} {cs : List Value} {x : DataW H × List MemPlace} (ht : P.underlying t = some (.struct #[f0, f1, f2, f3, f4])) (h : DataW.trod enc P w base spare held fuel t cs = some x) :
    ∃ y0 y1 y2 y3 y4 n, cs.length = P.cellsOf t ∧ DataW.trod enc P w base spare held n f0.type ((cs.drop f0.offset).take (P.cellsOf f0.type)) = some y0 ∧ DataW.trod enc P w base spare held n f1.type ((cs.drop f1.offset).take (P.cellsOf f1.type)) = some y1 ∧ DataW.trod enc P w base spare held n f2.type ((cs.drop f2.offset).take (P.cellsOf f2.type)) = some y2 ∧ DataW.trod enc P w base spare held n f3.type ((cs.drop f3.offset).take (P.cellsOf f3.type)) = some y3 ∧ DataW.trod enc P w base spare held n f4.type ((cs.drop f4.offset).take (P.cellsOf f4.type)) = some y4 := by
  obtain ⟨xs, n, _, rfl, hl, hlen, hf⟩ := DataW.trod_struct ht h
  match xs, hlen with
  | [y0, y1, y2, y3, y4], _ => exact ⟨y0, y1, y2, y3, y4, n, hl, by simpa using hf 0 f0 rfl, by simpa using hf 1 f1 rfl, by simpa using hf 2 f2 rfl, by simpa using hf 3 f3 rfl, by simpa using hf 4 f4 rfl⟩
theorem rows_flat {k : Nat} {w : World} {p : Nat} : ∀ (R : List (List Value)) (o : Nat), (∀ r ∈ R, r.length = k) → (∀ i, i < R.length → w.rangeAt p (o + k * i) (R.getD i [])) → w.rangeAt p o R.flatten
  | [], _, _, _ => fun j x hj => by cases hj
  | r :: R, o, hr, h => fun j x hj => by
    have hrl := hr r List.mem_cons_self
    rw [List.flatten_cons] at hj
    by_cases hjk : j < k
    · rw [List.getElem?_append_left (by omega)] at hj
      have h0 := h 0 (by simp)
      exact h0 j x hj
    · rw [List.getElem?_append_right (by omega), hrl] at hj
      have ih := rows_flat R (o + k) (fun r hr2 => hr r (List.mem_cons_of_mem _ hr2)) (fun i hi => by
        have h1 := h (i + 1) (by simpa using hi)
        rw [Nat.mul_add, Nat.mul_one, show o + (k * i + k) = o + k + k * i from by omega] at h1
        exact h1)
      have h2 := ih (j - k) x hj
      rwa [show o + k + (j - k) = o + j from by omega] at h2
theorem lr_lz {k : Nat} {w : World} {a : Option Addr} {n c : Nat} {R : List (List Value)} (h : Lr k w a n c R) (hr : ∀ r ∈ R, r.length = k) : Lz k w a n c R := by
  refine ⟨h.len, hr, ?_, h.cap, h.max⟩
  rcases h.sl with h0 | ⟨p, o, h1, h2⟩
  · exact .inl (List.eq_nil_of_length_eq_zero (by rw [h.len, h0]))
  · exact .inr ⟨p, o, h1, rows_flat R o hr fun i hi => h2 i (by rw [← h.len]; exact hi)⟩
theorem open_out {H : Type} {enc : TypeId × Value → H} {W : World} {fuel : Nat} {cs : List Value} {x : DataW H × List MemPlace} (h : DataW.trod enc Try.prog W 0 (fun _ => true) true fuel 39 cs = some x) : ∃ s, cs = otr s ∧ s.Ok := by
  obtain ⟨y0, y1, n, hx, hl, h0, h1⟩ := trod_struct2 Try.underlying39 h
  rw [Try.cellsO] at hl
  simp only [Try.cells105, Try.cells32] at h0 h1
  obtain ⟨z1, e1, _, w1⟩ := DataW.trod_int Try.underlying22 h0
  obtain ⟨K, eK, hK, bK⟩ := row8 Try.underlying27 Try.cells105 h1
  refine ⟨⟨z1, K⟩, ?_, wf_u32 w1, hK, bK⟩
  have s0 := take_sp cs 0 1
  have s1 := take_sp cs 1 105
  have s3 : cs.drop 106 = [] := List.drop_eq_nil_of_le (by omega)
  rw [List.drop_zero] at s0
  simp only [List.drop_zero] at e1
  rw [s0, e1, s1, eK, s3]
  simp [otr, bw]
theorem open_in0 {H : Type} {enc : TypeId × Value → H} {W : World} {fuel : Nat} {cs : List Value} {x : DataW H × List MemPlace} (h : DataW.trod enc Try.prog W 0 (fun _ => true) true fuel 47 cs = some x) : ∃ s, cs = itr s ∧ s.Ok := by
  obtain ⟨y0, y1, n, hx, hl, h0, h1⟩ := trod_struct2 Try.underlying47 h
  rw [Try.cellsN] at hl
  simp only [Try.cellsSt, Try.cells32] at h0 h1
  obtain ⟨z1, e1, _, w1⟩ := DataW.trod_int Try.underlying22 h0
  obtain ⟨s, es, _, hs⟩ := DataW.trod_string Try.underlying9 h1
  refine ⟨⟨z1, s⟩, ?_, wf_u32 w1, by unfold maxLen at hs; dsimp only; omega⟩
  have s0 := take_sp cs 0 1
  have s1 := take_sp cs 1 1
  have s3 : cs.drop 2 = [] := List.drop_eq_nil_of_le (by omega)
  rw [List.drop_zero] at s0
  simp only [List.drop_zero] at e1
  rw [s0, e1, s1, es, s3]
  rfl
theorem open_convo0 {H : Type} {enc : TypeId × Value → H} {W : World} {fuel : Nat} {cs : List Value} {x : DataW H × List MemPlace} (hf : DataW.trod enc Try.prog W 0 (fun _ => true) true fuel 26 cs = some x) : ∃ c x, cs = (cvs c x).flatten ∧ Cin W c x := by
  obtain ⟨y0, y1, y2, y3, y4, n, hl, h0, h1, h2, h3, h4⟩ := trod_struct5 Try.underlying26 hf
  simp only [Try.cells32, Try.cellsI, Try.cellsSO, Try.cellsSI] at h0 h1 h2 h3 h4
  rw [Try.cellsC] at hl
  obtain ⟨z0, e0, _, w0⟩ := DataW.trod_int Try.underlying22 h0
  obtain ⟨z2, e2, _, w2⟩ := DataW.trod_int Try.underlying3 h2
  obtain ⟨z3, e3, _, w3⟩ := DataW.trod_int Try.underlying22 h3
  obtain ⟨a, len, cap, L, e1, hR, hk⟩ := open_rows (t := 23) (e := 39) (k := 106) Try.underlying23 Try.cellsO (by decide) (⟨0, Z105⟩ : Ot) otr Ot.Ok (fun s hs => otr_len hs) (fun fuel cs x hx => open_out hx) h1
  obtain ⟨a2, len2, cap2, L2, e4, hR2, hk2⟩ := open_rows (t := 24) (e := 47) (k := 2) Try.underlying24 Try.cellsN (by decide) (⟨0, ByteArray.empty⟩ : It) itr It.Ok (fun s hs => itr_len s) (fun fuel cs x hx => open_in0 hx) h4
  refine ⟨⟨z0, L, z2, z3, L2⟩, ⟨a, len, cap, a2, len2, cap2⟩, ?_, ⟨hk, lr_lz hR fun r hr => by
    obtain ⟨s, hs, rfl⟩ := List.mem_map.1 hr
    exact otr_len (hk s hs)⟩, ⟨hk2, lr_lz hR2 fun r hr => by
    obtain ⟨s, hs, rfl⟩ := List.mem_map.1 hr
    rfl⟩, wf_u32 w0, wf_b64 w2, wf_u32 w3⟩
  simp only [List.drop_zero] at e0 e1 e2 e3 e4
  have s0 := take_sp cs 0 1
  have s1 := take_sp cs 1 1
  have s2 := take_sp cs 2 1
  have s3 := take_sp cs 3 1
  have s4 := take_sp cs 4 1
  have s9 : cs.drop 5 = [] := List.drop_eq_nil_of_le (by omega)
  rw [List.drop_zero] at s0
  rw [s0, e0, s1, e1, s2, e2, s3, e3, s4, e4, s9]
  rfl
theorem open_convo {H : Type} {enc : TypeId × Value → H} {W : World} {base : Nat} {v : Value} {d : DataW H} {p : List MemPlace} (hv : Value.okWide Try.prog W .any base 26 v) (h : DataW.Trod enc Try.prog W 0 (fun _ => true) true 26 v d p) :
    ∃ c x, v = .agg (fl (cvs c x)) ∧ Cin W c x := by
  unfold Value.okWide at hv
  rw [Try.underlying26] at hv
  obtain ⟨cs, rfl, hsz, _⟩ := hv
  obtain ⟨fuel, hf⟩ := h
  obtain ⟨c, x, e, hC⟩ := open_convo0 hf
  refine ⟨c, x, ?_, hC⟩
  congr 1
  apply Array.ext'
  simp only [Value.cells] at e
  rw [e]
  simp [fl]
theorem open_in {H : Type} {enc : TypeId × Value → H} {W : World} {base : Nat} {v : Value} {d : DataW H} {p : List MemPlace} (hv : Value.okWide Try.prog W .any base 47 v) (h : DataW.Trod enc Try.prog W 0 (fun _ => true) true 47 v d p) :
    ∃ s : It, v = .agg (fl [[.int .u32 s.n], [.string s.s]]) ∧ s.Ok := by
  unfold Value.okWide at hv
  rw [Try.underlying47] at hv
  obtain ⟨cs, rfl, hsz, _⟩ := hv
  obtain ⟨fuel, hf⟩ := h
  obtain ⟨s, e, hC⟩ := open_in0 hf
  refine ⟨s, ?_, hC⟩
  congr 1
  apply Array.ext'
  simp only [Value.cells] at e
  rw [e]
  simp [fl, itr]
theorem open_body {H : Type} {enc : TypeId × Value → H} {W : World} {base : Nat} {v : Value} {d : DataW H} {p : List MemPlace} (hv : Value.okWide Try.prog W .any base 28 v) (h : DataW.Trod enc Try.prog W 0 (fun _ => true) true 28 v d p) :
    ∃ B, v = .agg (fl [bw B]) ∧ B.length = 105 ∧ IsB B := by
  unfold Value.okWide at hv
  rw [Try.underlying28] at hv
  obtain ⟨cs, rfl, hsz, _⟩ := hv
  obtain ⟨fuel, hf⟩ := h
  obtain ⟨K, eK, hK, bK⟩ := row8 Try.underlying28 Try.cellsY hf
  refine ⟨K, ?_, hK, bK⟩
  congr 1
  apply Array.ext'
  simp only [Value.cells] at eK
  rw [eK]
  simp [fl, bw]
end Go.Proofs.Ytcefkkoombmndaa
