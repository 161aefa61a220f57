/-
  FrameAnnounces: how its announcement comes in.
-/
import Derived.Test.YtiejdpodffkdpaaGX
namespace Go.Proofs.Ytiejdpodffkdpaa
open Go.ChangeShapes Go.WideShapes Go.ChangeAt Go.RowKit
set_option maxRecDepth 100000
set_option linter.unusedVariables false
set_option linter.unusedSimpArgs false
theorem rows_flat {w : World} {p : Nat} {k : Nat} : ∀ (R : List (List Value)) (o : Nat), (∀ r ∈ R, r.length = k) → (∀ i, i < R.length → w.rangeAt p (o + k * i) (R.getD i [])) → w.rangeAt p o R.flatten
  | [], o, _, _ => fun j x hj => by simp at hj
  | r :: R, o, hr, h => by
    have h0 := h 0 (by simp)
    have hl : r.length = k := hr r List.mem_cons_self
    have ih := rows_flat R (o + k) (fun x hx => hr x (List.mem_cons_of_mem _ hx)) (fun i hi => by
      have h1 := h (i + 1) (by simp only [List.length_cons]; omega)
      rw [Nat.mul_succ] at h1
      have e : o + k + k * i = o + (k * i + k) := by omega
      rw [e]
      simpa using h1)
    intro j x hj
    rw [List.flatten_cons] at hj
    by_cases hjk : j < k
    · rw [List.getElem?_append_left (by omega)] at hj
      have := h0 j x (by simpa using hj)
      simpa using this
    · rw [List.getElem?_append_right (by omega), hl] at hj
      have := ih (j - k) x hj
      have e : o + k + (j - k) = o + j := by omega
      rw [e] at this
      exact this
theorem Try.bytesKey : Try.prog.bytesOf 30 = 32 := by kernel_rfl
theorem open_ann2 {H : Type} {enc : TypeId × Value → H} {W : World} {base : Nat} {v : Value} {d : DataW H} {p : List MemPlace} (hv : Value.okWide Try.prog W .any base 25 v) (h : DataW.Trod enc Try.prog W 0 (fun _ => true) true 25 v d p) (hw : ∀ n ∈ d.weights Try.prog 25, n ≤ reachBytes) :
    ∃ r a n c ks, v = .agg #[.int .u64 r, .slice a n c] ∧ (0 ≤ r ∧ r < 18446744073709551616) ∧ KsOk ks ∧ ks.length = n ∧ n ≤ 4398046511104 ∧ (n = 0 ∨ ∃ p q, a = some ⟨p, q, none⟩ ∧ Ls 32 W (some ⟨p, q, none⟩) n c (ks.map bv)) := by
  obtain ⟨r, a, n, c, ks, rfl, hr, hks, hL⟩ := open_ann hv h hw
  refine ⟨r, a, n, c, ks, rfl, hr, hks, ?_, ?_, ?_⟩
  · have := hL.len
    rwa [List.length_map] at this
  · obtain ⟨fuel, hf⟩ := h
    obtain ⟨y0, y1, n9, hx, hl, h0, h1⟩ := trod_struct2 Try.underlying25 hf
    simp only [Try.cells64, Try.cellsSk] at h0 h1
    have hsw : ∀ e2 s2, y1.1 = .slice e2 s2 → (e2.length + s2.length) * Try.prog.bytesOf 30 ≤ reachBytes := by
      intro e2 s2 he
      refine hw _ ?_
      have hd : d = DataW.agg [y0.1, y1.1] := congrArg Prod.fst hx
      rw [hd, DataW.weights, Try.underlying25]
      show _ ∈ DataW.weightsEach Try.prog [22, 23] [y0.1, y1.1]
      rw [DataW.weightsEach, DataW.weightsEach]
      refine List.mem_append_right _ (List.mem_append_left _ ?_)
      rw [he, DataW.weights, Try.underlying23]
      exact List.mem_cons_self
    rw [Try.bytesKey] at hsw
    rcases DataW.trod_slice Try.underlying23 h1 with ⟨hcs, _⟩ | ⟨ad, len, cap, elems, rest, n8, _, hcs, hx1, hb, hl1, hm, hlen2, hel, hsp, hns⟩
    · have e : [Value.slice a n c] = [Value.slice none 0 0] := hcs
      injection e with e _
      injection e with _ e _
      omega
    · have e : [Value.slice a n c] = [Value.slice (some ad) len cap] := hcs
      injection e with e _
      injection e with _ e _
      have h9 := hsw _ _ (by rw [hx1])
      simp only [List.length_map, reachBytes] at h9
      omega
  · rcases hL.sl with h0 | ⟨p9, q9, rfl, hp⟩
    · exact .inl h0
    · rcases Nat.eq_zero_or_pos n with hn | hn
      · exact .inl hn
      · right
        have hrow : ∀ r ∈ ks.map bv, r.length = 32 := by
          intro r hr
          obtain ⟨k, hk, rfl⟩ := List.mem_map.1 hr
          rw [bv_len, (hks k hk).1]
        refine ⟨p9, q9, rfl, hL.len, hrow, .inr ⟨p9, q9, rfl, rows_flat _ _ hrow (fun i hi => hp i (by rw [← hL.len]; exact hi))⟩, hL.cap, hL.max, ?_⟩
        intro p' hp'
        have e : p9 = p' := by simpa using hp'
        subst e
        have h0 := hp 0 hn
        have hlen := hL.len
        generalize hG : ks.map bv = G at *
        match G, hlen with
        | [], hlen => simp at hlen; omega
        | g :: G', _ =>
          have hg : g.length = 32 := hrow g List.mem_cons_self
          have h1 := h0 0 (g[0]'(by omega)) (by simp)
          exact lt_of_cell h1
end Go.Proofs.Ytiejdpodffkdpaa
