/-
  What is put is read as it was.
-/
import Derived.Test.YtcefkkoombmndaaPF
namespace Go.Proofs.Ytcefkkoombmndaa
open Go.RowKit
set_option maxRecDepth 100000
set_option linter.unusedSimpArgs false
set_option linter.unusedVariables false
theorem str_tb (s : ByteArray) : strOfNums (tb s) = s := by
  have h : (strOfNums (tb s)).data.toList = s.data.toList := by
    rw [strOfNums_data]
    unfold tb
    rw [List.map_map]
    refine (List.map_congr_left fun x hx => ?_).trans (List.map_id _)
    show UInt8.ofNat ((x.toNat : Int)).toNat = id x
    rw [Int.toNat_natCast]
    exact UInt8.ofNat_toNat
  have h2 : (strOfNums (tb s)).data = s.data := Array.ext' h
  exact congrArg ByteArray.mk h2
theorem seqs_atb : ∀ (L : List Ot) (k : Int) (i : Nat) (s : Ot), seqs k L = true → L[i]? = some s → s.n = k + (i : Int)
  | [], _, _, _, _, h => by simp at h
  | o :: L, k, 0, s, h, hi => by
    simp only [seqs, Bool.and_eq_true, decide_eq_true_eq] at h
    simp only [List.getElem?_cons_zero, Option.some.injEq] at hi
    rw [← hi]
    simpa using h.1
  | o :: L, k, i + 1, s, h, hi => by
    simp only [seqs, Bool.and_eq_true, decide_eq_true_eq] at h
    simp only [List.getElem?_cons_succ] at hi
    have := seqs_atb L (k + 1) i s h.2 hi
    rw [this]
    push_cast
    omega
theorem rt_seqsb {c : Cm} (h : rt c = true) : seqs (c.nx - c.O.length) c.O = true := by
  unfold rt outB at h
  simp only [Bool.and_eq_true, decide_eq_true_eq] at h
  exact h.2.1.2
theorem getD_drop (L : List Int) (k i : Nat) : L.getD (k + i) 0 = (L.drop k).getD i 0 := by simp [List.getD, List.getElem?_drop]
theorem drop_len {A R : List Int} {k : Nat} (h : A.length = k) : (A ++ R).drop k = R := by subst h; simp
theorem take_len {A R : List Int} {k : Nat} (h : A.length = k) : (A ++ R).take k = A := by subst h; simp
theorem bod_atO {O : List Ot} (h : ∀ s ∈ O, s.Ok) (h4 : O.length ≤ 4) {j : Nat} {s : Ot} (hs : O[j]? = some s) : ((bodL O O.length).drop (105 * j)).take 105 = s.B := by
  obtain ⟨hl, h5⟩ := List.getElem?_eq_some_iff.1 hs
  have h3 : O = O.take j ++ (s :: O.drop (j + 1)) := by rw [← h5, ← List.drop_eq_getElem_cons hl, List.take_append_drop]
  have hA := bodt_len h (Nat.le_of_lt hl)
  have hb := (h s (List.mem_of_getElem? hs)).2.1
  have e : (O.map (·.B)).flatten = ((O.take j).map (·.B)).flatten ++ (s.B ++ ((O.drop (j + 1)).map (·.B)).flatten) := by
    conv => lhs; rw [h3]
    simp
  have e0 : O.take O.length = O := List.take_length
  unfold bodL
  rw [e0, e]
  generalize ((O.take j).map (·.B)).flatten = A at *
  rw [List.append_assoc, List.drop_append, List.drop_eq_nil_of_le (by omega), List.nil_append, hA, Nat.sub_self, List.drop_zero, List.append_assoc, List.take_append_of_le_length (by omega), List.take_of_length_le (by omega)]
theorem hel_drop {L : List It} (h : ∀ t ∈ L, t.s.size ≤ 48) {j : Nat} {t : It} (ht : L[j]? = some t) : ((L.map inB).flatten).drop (53 * j) = inB t ++ ((L.drop (j + 1)).map inB).flatten := by
  obtain ⟨hl, h5⟩ := List.getElem?_eq_some_iff.1 ht
  have h3 : L = L.take j ++ (t :: L.drop (j + 1)) := by rw [← h5, ← List.drop_eq_getElem_cons hl, List.take_append_drop]
  have hA := hel_len (L := L.take j) (fun u hu => h u (List.mem_of_mem_take hu))
  rw [List.length_take, Nat.min_eq_left (Nat.le_of_lt hl)] at hA
  have e : (L.map inB).flatten = ((L.take j).map inB).flatten ++ (inB t ++ ((L.drop (j + 1)).map inB).flatten) := by
    conv => lhs; rw [h3]
    simp
  rw [e, drop_len hA]
/-- a text that lies there is read -/
theorem inA_inB {L : List Int} {k : Nat} {t : It} {R : List Int} (h : L.drop k = inB t ++ R) (ht : t.Ok) (hs : t.s.size ≤ 48) : inA L k = t := by
  have hl := lowL_len t.n 4
  have hp := padT_len hs
  have h1 : (L.drop k).take 4 = lowL t.n 4 := by rw [h]; unfold inB; rw [List.append_assoc, take_len hl]
  have h4 : L.drop (k + 4) = [(t.s.size : Int)] ++ (padT t.s ++ R) := by
    rw [← List.drop_drop, h]; unfold inB; rw [List.append_assoc, drop_len hl, List.append_assoc]
  have h5 : L.drop (k + 5) = padT t.s ++ R := by
    rw [show k + 5 = (k + 4) + 1 from rfl, ← List.drop_drop, h4, drop_len (k := 1) rfl]
  have h6 : L.getD (k + 4) 0 = (t.s.size : Int) := by
    have := getD_drop L (k + 4) 0
    rw [Nat.add_zero] at this
    rw [this, h4]
    rfl
  unfold inA
  rw [h1, h5, h6, lowN_lowL 4 t.n ht.1.1 (by have := ht.1.2; omega), take_len hp, Int.toNat_natCast, Nat.min_eq_left hs]
  have e : (padT t.s).take t.s.size = tb t.s := by unfold padT; exact take_len (tb_len _)
  rw [e, str_tb]
theorem rd_put {c : Cm} (h : rt c = true) (hn : Nums c) : rdC (putL c) = c := by
  have hle := rt_le h
  have hsq := rt_seqsb h
  have hsz := rises_sz _ _ _ (rt_rises h)
  obtain ⟨L, hL⟩ : ∃ L, L = putL c := ⟨_, rfl⟩
  have hB := bodL_len hn.O (Nat.le_refl _) hle.2.1.1
  have l4 := lowL_len c.nx 4
  have d4 := lowL_len c.dl 4
  have hL0 : L = lowL c.nx 4 ++ ([(c.O.length : Int), c.tn] ++ (bodL c.O c.O.length ++ (lowL c.dl 4 ++ ([(c.H.length : Int)] ++ ((fil3 c.H).map inB).flatten)))) := hL
  have h4 : L.drop 4 = [(c.O.length : Int), c.tn] ++ (bodL c.O c.O.length ++ (lowL c.dl 4 ++ ([(c.H.length : Int)] ++ ((fil3 c.H).map inB).flatten))) := by rw [hL0, drop_len l4]
  have h6 : L.drop 6 = bodL c.O c.O.length ++ (lowL c.dl 4 ++ ([(c.H.length : Int)] ++ ((fil3 c.H).map inB).flatten)) := by
    rw [show 6 = 4 + 2 from rfl, ← List.drop_drop, h4, drop_len (k := 2) rfl]
  have h426 : L.drop 426 = lowL c.dl 4 ++ ([(c.H.length : Int)] ++ ((fil3 c.H).map inB).flatten) := by
    rw [show 426 = 6 + 420 from rfl, ← List.drop_drop, h6, drop_len hB]
  have h430 : L.drop 430 = [(c.H.length : Int)] ++ ((fil3 c.H).map inB).flatten := by
    rw [show 430 = 426 + 4 from rfl, ← List.drop_drop, h426, drop_len d4]
  have h431 : L.drop 431 = ((fil3 c.H).map inB).flatten := by
    rw [show 431 = 430 + 1 from rfl, ← List.drop_drop, h430, drop_len (k := 1) rfl]
  have e4 : L.getD 4 0 = (c.O.length : Int) := by
    rw [show (4 : Nat) = 4 + 0 from rfl, getD_drop, h4]; rfl
  have e5 : L.getD 5 0 = c.tn := by
    rw [show (5 : Nat) = 4 + 1 from rfl, getD_drop, h4]; rfl
  have e430 : L.getD 430 0 = (c.H.length : Int) := by
    rw [show (430 : Nat) = 430 + 0 from rfl, getD_drop, h430]; rfl
  have en : rdN L = c.O.length := by unfold rdN; rw [e4, Int.toNat_natCast]; exact Nat.min_eq_left hle.2.1.1
  have em : rdM L = c.H.length := by unfold rdM; rw [e430, Int.toNat_natCast]; exact Nat.min_eq_left hle.2.2
  have ex : lowN (L.take 4) = c.nx := by rw [hL0, take_len l4, lowN_lowL 4 c.nx hn.nx.1 (by have := hn.nx.2; omega)]
  have ed : lowN ((L.drop 426).take 4) = c.dl := by rw [h426, take_len d4, lowN_lowL 4 c.dl hn.dl.1 (by have := hn.dl.2; omega)]
  have eO : (rdO L (c.nx - (c.O.length : Int))).take c.O.length = c.O := by
    apply List.ext_getElem?
    intro i
    by_cases hi : i < c.O.length
    · rw [List.getElem?_take_of_lt hi, rdO_at _ _ i (by have := hle.2.1.1; omega)]
      have hs : c.O[i]? = some c.O[i] := List.getElem?_eq_getElem hi
      have h7 := seqs_atb _ _ _ _ hsq hs
      have h8 := bod_atO hn.O hle.2.1.1 hs
      have hk := hn.O _ (List.mem_of_getElem? hs)
      rw [hs]
      congr 1
      have e1 : (c.nx - (c.O.length : Int) + (i : Int)) % 4294967296 = (c.O[i]).n := by
        rw [← h7]
        exact Int.emod_eq_of_lt hk.1.1 hk.1.2
      have e2 : (L.drop (6 + 105 * i)).take 105 = (c.O[i]).B := by
        rw [← List.drop_drop, h6, List.drop_append_of_le_length (by have := hle.2.1.1; omega), List.take_append_of_le_length (by have := hle.2.1.1; rw [List.length_drop]; omega), h8]
      rw [e1, e2]
    · rw [List.getElem?_eq_none (by rw [List.length_take]; omega), List.getElem?_eq_none (by omega)]
  have eH : ((List.range c.H.length).map fun (i : Nat) => inA L (431 + 53 * i)) = c.H := by
    apply List.ext_getElem?
    intro i
    by_cases hi : i < c.H.length
    · rw [List.getElem?_map, List.getElem?_range hi]
      have hs : c.H[i]? = some c.H[i] := List.getElem?_eq_getElem hi
      have hs2 : (fil3 c.H)[i]? = some c.H[i] := by unfold fil3; rw [List.getElem?_append_left hi, hs]
      have hf : ∀ t ∈ fil3 c.H, t.s.size ≤ 48 := fun t ht => (fil3_ok hn.H hsz t ht).2
      have h9 := hel_drop hf hs2
      rw [hs]
      show some (inA L (431 + 53 * i)) = _
      congr 1
      exact inA_inB (by rw [← List.drop_drop, h431, h9]) (hn.H _ (List.mem_of_getElem? hs)) (hsz _ (List.mem_of_getElem? hs))
    · rw [List.getElem?_eq_none (by simp; omega), List.getElem?_eq_none (by omega)]
  rw [← hL]
  unfold rdC
  rw [ex, en, e5, ed, em, eO, eH]
/-- what is put is got -/
theorem gt_put {c : Cm} (h : rt c = true) (hn : Nums c) : gtM (putL c) = (c, 0) := by
  unfold gtM
  rw [if_pos (putL_len h hn.O), rd_put h hn, if_pos ⟨h, rfl⟩]
end Go.Proofs.Ytcefkkoombmndaa
