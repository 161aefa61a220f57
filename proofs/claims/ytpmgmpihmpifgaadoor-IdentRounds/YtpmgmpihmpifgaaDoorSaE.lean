/-
  The reference's words, steps and bytes: plain facts. Small functions of the reference and of the laws: a turn, the constants, the first state, bytes that are held against each other, bytes behind others, Copy. The reference's filling; bytes with room behind them; Copy; what a Hash that is not there answers.
-/
import Derived.Test.YtpmgmpihmpifgaaDoorSaD
import Derived.Deep.DeepAppendWide
import Derived.Laws.BytesArg
namespace Go.Proofs.YtpmgmpihmpifgaaDoor
open Go.RowKit
set_option maxRecDepth 100000
set_option linter.unusedSimpArgs false
set_option linter.unusedVariables false

/-- as far as n words are there: the first sixteen read, the others reckoned -/
def W12 (B : List Int) (n : Nat) : List Int := if n ≤ 16 then W1 B n else W2 B (n - 16)
theorem W12_len (B : List Int) (n : Nat) : (W12 B n).length = 64 := by
  unfold W12
  split
  · exact W1_len B n
  · exact W2_len B _
theorem W12_zero (B : List Int) : W12 B 0 = Z64 := rfl
theorem W12_lo (B : List Int) (n : Nat) (h : n < 16) : W12 B (n + 1) = (W12 B n).set n (be (B.getD (4 * n) 0) (B.getD (4 * n + 1) 0) (B.getD (4 * n + 2) 0) (B.getD (4 * n + 3) 0)) := by
  unfold W12
  rw [if_pos (by omega), if_pos (by omega), W1]
theorem W12_hi (B : List Int) (n : Nat) (h : 16 ≤ n) : W12 B (n + 1) = (W12 B n).set n (nx (W12 B n) n) := by
  obtain ⟨k, rfl⟩ : ∃ k, n = k + 16 := ⟨n - 16, by omega⟩
  have e0 : W12 B (k + 16) = W2 B k := by
    unfold W12
    split
    · have : k = 0 := by omega
      subst this
      rfl
    · rw [Nat.add_sub_cancel]
  have e1 : W12 B (k + 16 + 1) = W2 B (k + 1) := by
    unfold W12
    rw [if_neg (by omega)]
    congr 1
  rw [e0, e1, W2]
theorem W12_all (B : List Int) : W12 B 64 = wds B := rfl
/-- eight words as a list -/
def stl (q : St) : List Int := [q.a, q.b, q.c, q.d, q.e, q.f, q.g, q.h]
theorem stl_len (q : St) : (stl q).length = 8 := rfl
theorem stl_of (s : List Int) (hs : s.length = 8) : stl (.of s) = s := by
  rcases s with _ | ⟨a, _ | ⟨b, _ | ⟨c, _ | ⟨d, _ | ⟨e, _ | ⟨f, _ | ⟨g, _ | ⟨h, _ | ⟨i, s⟩⟩⟩⟩⟩⟩⟩⟩⟩ <;> simp at hs
  rfl
theorem of_stl (q : St) : St.of (stl q) = q := rfl
/-- the first n words of the state, the steps' added -/
def SA (s t : List Int) : Nat → List Int
  | 0 => s
  | n + 1 => (SA s t n).set n (ad ((SA s t n).getD n 0) (t.getD n 0))
theorem SA_len (s t : List Int) : ∀ n, (SA s t n).length = s.length
  | 0 => rfl
  | n + 1 => by rw [SA, List.length_set, SA_len s t n]
theorem SA_all (s W K : List Int) (hs : s.length = 8) : SA s (stl (rnds (.of s) W K 64)) 8 = stp s W K := by
  rcases s with _ | ⟨a, _ | ⟨b, _ | ⟨c, _ | ⟨d, _ | ⟨e, _ | ⟨f, _ | ⟨g, _ | ⟨h, _ | ⟨i, s⟩⟩⟩⟩⟩⟩⟩⟩⟩ <;> simp at hs
  generalize hq : rnds (.of [a, b, c, d, e, f, g, h]) W K 64 = q
  unfold stp
  rw [hq]
  rfl
/-- a word's byte -/
def yn (x : Int) (n : Nat) : Int := x / 2 ^ (24 - 8 * n) % 256
/-- the bytes of i words and n bytes of the next one -/
def KZ (s : List Int) (i : Nat) : Nat → List Int
  | 0 => KY s i
  | n + 1 => (KZ s i n).set (4 * i + n) (yn (s.getD i 0) n)
theorem KZ_len (s : List Int) (i : Nat) : ∀ n, (KZ s i n).length = 32
  | 0 => KY_len s i
  | n + 1 => by rw [KZ, List.length_set, KZ_len s i n]
theorem KZ_all (s : List Int) (i : Nat) : KZ s i 4 = KY s (i + 1) := by
  simp [KZ, KY, yn, y0, y1, y2, y3]
theorem nx_ref (l : List Int) (i : Nat) : nx l i = (l.getD (i - 16) 0 + sg0 (l.getD (i - 15) 0) + l.getD (i - 7) 0 + sg1 (l.getD (i - 2) 0)) % 4294967296 := by
  unfold nx
  simp only [ad_eq]
  omega


theorem right_ok (x : Int) (n : Nat) (hn : 1 ≤ n ∧ n ≤ 31) (w : World) :
    Calls Tryd.prog 47 #[.int .u32 x, .int .i64 n] w (fun r w' => r = .returned (.int .u32 (tn x n)) ∧ w' = w.drew) := by
  obtain ⟨m, hm⟩ : ∃ m, m = 32 - n := ⟨_, rfl⟩
  have e1 : 32 - (n : Int) = (m : Int) := by omega
  have e2 : IntKind.i64.wrap (m : Int) = (m : Int) := by rw [IntKind.wrap_i64]; omega
  have m0 : 0 ≤ (m : Int) := by omega
  have n0 : 0 ≤ (n : Int) := by omega
  replace hm := hide hm
  go_enter Tryd.func47, Tryd.ntmps47
  go_wp2_with fail
  go_still_tail 8, (by kernel_rfl)
  go_wp2_with fail
  refine bodyPost_ret (v := .int .u32 (tn x n)) ?_ rfl ⟨rfl, rfl⟩
  unfold tn
  rw [← unhide hm]
  simp [results, Tryd.results47, go_sem]
theorem right_int (x m : Int) (hm : 1 ≤ m ∧ m ≤ 31) (w : World) :
    Calls Tryd.prog 47 #[.int .u32 x, .int .i64 m] w (fun r w' => r = .returned (.int .u32 (tn x m.toNat)) ∧ w' = w.drew) := by
  obtain ⟨n, rfl⟩ := Int.eq_ofNat_of_zero_le (a := m) (by omega)
  exact right_ok x n (by omega) w
theorem rbegin_ok (w : World) : Calls Tryd.prog 46 #[] w (fun r w' => r = .returned (.agg (uc F0)) ∧ Gr w w') := by
  go_enter Tryd.func46, Tryd.ntmps46
  go_upto_region 1 with fail
  have hB := (Bl.nil w).new #[.int .u32 0, .int .u32 0, .int .u32 0, .int .u32 0, .int .u32 0, .int .u32 0, .int .u32 0, .int .u32 0] 73
  simp only [List.nil_append] at hB
  generalize World.alloc _ _ = u at *
  replace hB : Bl w [⟨w.heap.size, uc Z8, 73⟩] u := hB
  refine wp_region_lit ?_
  refine list_val (.agg (uc F0)) (by kernel_rfl) (by kernel_rfl) ?_
  simp only [Act.put, List.setIfInBounds_toArray, List.set_cons_zero, List.set_cons_succ, List.getElem_toArray, List.getElem_cons_zero, List.getElem_cons_succ]
  refine list_store 73 (.tmp 0) (.tmp 1) w.heap.size (uc F0) 73 (uc Z8) (by kernel_rfl) rfl (by kernel_rfl) (by kernel_rfl) (hB.get 0 (x := ⟨w.heap.size, uc Z8, 73⟩) rfl) (by rw [Tryd.infoS]; rfl) rfl (uc_one _) ?_
  replace hB := hB.set 0 (x := ⟨w.heap.size, uc Z8, 73⟩) rfl (uc F0)
  simp only [List.set_cons_zero, List.set_cons_succ] at hB
  generalize World.setRow _ _ _ = v1_ at *
  simp only [Act.put, List.setIfInBounds_toArray, List.set_cons_zero, List.set_cons_succ, List.getElem_toArray, List.getElem_cons_zero, List.getElem_cons_succ]
  refine wpList_nil ?_
  go_wp2_with fail
  exact bodyPost_ret (v := .agg (uc F0)) (results_cell_row Tryd.results46 _ _ w.heap.size 73 (uc F0) (0, 0) _ rfl (hB.get 0 (x := ⟨w.heap.size, uc F0, 73⟩) rfl) Tryd.underlying73 rfl (by rw [Tryd.infoS]; rfl)) rfl ⟨rfl, hB.gr⟩
theorem rconstants_ok (w : World) : Calls Tryd.prog 44 #[] w (fun r w' => r = .returned (.agg (uc KL)) ∧ Gr w w') := by
  go_enter Tryd.func44, Tryd.ntmps44
  go_upto_region 1 with fail
  have hB := (Bl.nil w).new #[.int .u32 0, .int .u32 0, .int .u32 0, .int .u32 0, .int .u32 0, .int .u32 0, .int .u32 0, .int .u32 0, .int .u32 0, .int .u32 0, .int .u32 0, .int .u32 0, .int .u32 0, .int .u32 0, .int .u32 0, .int .u32 0, .int .u32 0, .int .u32 0, .int .u32 0, .int .u32 0, .int .u32 0, .int .u32 0, .int .u32 0, .int .u32 0, .int .u32 0, .int .u32 0, .int .u32 0, .int .u32 0, .int .u32 0, .int .u32 0, .int .u32 0, .int .u32 0, .int .u32 0, .int .u32 0, .int .u32 0, .int .u32 0, .int .u32 0, .int .u32 0, .int .u32 0, .int .u32 0, .int .u32 0, .int .u32 0, .int .u32 0, .int .u32 0, .int .u32 0, .int .u32 0, .int .u32 0, .int .u32 0, .int .u32 0, .int .u32 0, .int .u32 0, .int .u32 0, .int .u32 0, .int .u32 0, .int .u32 0, .int .u32 0, .int .u32 0, .int .u32 0, .int .u32 0, .int .u32 0, .int .u32 0, .int .u32 0, .int .u32 0, .int .u32 0] 70
  simp only [List.nil_append] at hB
  generalize World.alloc _ _ = u at *
  replace hB : Bl w [⟨w.heap.size, uc Z64, 70⟩] u := hB
  refine wp_region_lit ?_
  refine list_val (.agg (uc KL)) (by kernel_rfl) (by kernel_rfl) ?_
  simp only [Act.put, List.setIfInBounds_toArray, List.set_cons_zero, List.set_cons_succ, List.getElem_toArray, List.getElem_cons_zero, List.getElem_cons_succ]
  refine list_store 70 (.tmp 0) (.tmp 1) w.heap.size (uc KL) 70 (uc Z64) (by kernel_rfl) rfl (by kernel_rfl) (by kernel_rfl) (hB.get 0 (x := ⟨w.heap.size, uc Z64, 70⟩) rfl) (by rw [Tryd.infoW]; rfl) rfl (uc_one _) ?_
  replace hB := hB.set 0 (x := ⟨w.heap.size, uc Z64, 70⟩) rfl (uc KL)
  simp only [List.set_cons_zero, List.set_cons_succ] at hB
  generalize World.setRow _ _ _ = v1_ at *
  simp only [Act.put, List.setIfInBounds_toArray, List.set_cons_zero, List.set_cons_succ, List.getElem_toArray, List.getElem_cons_zero, List.getElem_cons_succ]
  refine wpList_nil ?_
  go_wp2_with fail
  exact bodyPost_ret (v := .agg (uc KL)) (results_cell_row Tryd.results44 _ _ w.heap.size 70 (uc KL) (0, 0) _ rfl (hB.get 0 (x := ⟨w.heap.size, uc KL, 70⟩) rfl) Tryd.underlying70 rfl (by rw [Tryd.infoW]; rfl)) rfl ⟨rfl, hB.gr⟩

/-- bytes as a text -/
theorem Sl.text {w : World} {a : Option Addr} {B : List Int} (h : Sl w a B) (n c : Nat) (hn : B.length = n) : (convert 33 9 (.slice a n c)).run Tryd.prog w = .ok (.string (strOfNums B)) w := by
  subst hn
  rcases h with rfl | ⟨p, o, rfl, h2⟩
  · rw [run_convert_bytes_string w 33 9 5 _ _ c Tryd.underlying33 Tryd.underlying5 Tryd.underlying9]
    cases a <;> simp [Conv.bytesToString, loadCells]
    all_goals rfl
  · exact run_convert_bytes_arg (P := Tryd.prog) w 33 5 Tryd.underlying33 Tryd.underlying5 p o _ c B rfl (fun i hi => h2 i hi) 9 Tryd.underlying9
/-- a list of bytes that the call itself has made -/
def Ob (b : Nat) (w : World) (v : Value) (L : List Int) : Prop := w.ownsRow b 5 1 v L.length (L.map (Value.int .u8))
theorem Ob.gr {b : Nat} {w u : World} {v : Value} {L : List Int} (h : Ob b w v L) (k : Gr w u) : Ob b u v L := own_gr h k
theorem Ob.slice {b : Nat} {w : World} {v : Value} {L : List Int} (h : Ob b w v L) : ∃ a c, v = .slice a L.length c ∧ L.length ≤ c ∧ c ≤ maxLen ∧ Sl w a L := by
  rcases h.2 with ⟨h1, h2⟩ | ⟨g, cap, cur, h1, h2, h3, h4, h5, h6, h7⟩
  · have : L = [] := List.eq_nil_of_length_eq_zero h2
    subst this
    exact ⟨none, 0, h1, Nat.le_refl _, Nat.zero_le _, .inl rfl⟩
  · refine ⟨_, cap, h1, h4, h5, .inr ⟨g, 0, rfl, fun j hj => ?_⟩⟩
    rw [Nat.zero_add]
    refine cell_of h3 ?_
    rw [← Array.getElem?_toList]
    have e : (L.map (Value.int .u8))[j]? = some (.int .u8 (L.getD j 0)) := by simp [hj]
    rw [← h7, Nat.mul_one, List.getElem?_take, if_pos hj] at e
    exact e
theorem Ob.grown {b : Nat} {w u u' : World} {v : Value} {L : List Int} (h : Ob b u v L) (hb : w.heap.size ≤ b) (k : Gr w u) (g : u.grownBy u' v.ownBlock) : Gr w u' := by
  refine ⟨g.os.trans k.os, g.tape.trans k.tape, g.output.trans k.output, Nat.le_trans k.size g.size, fun i hi => (g.block i (Nat.lt_of_lt_of_le hi k.size) ?_).trans (k.block i hi)⟩
  intro e
  have := (World.ownsRow.lt h i e.symm).1
  omega
/-- bytes are put behind bytes of one's own -/
theorem app_bs {w : World} {ops : Array Oper} {rest : List Oper} {o : Oper} {a : Act} {Q : Exit → Act → World → Prop} (hw : Region.wanted o (yielded ops a.tmps) = true) (s x : Operand)
    (ho : o.op = .call { callee := .builtin .append, args := #[s, x], argTypes := #[33, 33] }) (b : Nat) (v : Value) (L : List Int) (hs : a.eval s = v) (hown : Ob b w v L)
    (sp : Option Addr) (n sc : Nat) (l : List Int) (hx : a.eval x = .slice sp n sc) (hn : l.length = n) (hsl : Sl w sp l) (hbig : L.length + n ≤ 180000000000000) (hB : b ≤ w.heap.size)
    (h : ∀ v' w', Ob b w' v' (L ++ l) → w.grownBy w' v.ownBlock → wpList Tryd.prog ops Q rest (a.put o.dst v') w') :
    wpList Tryd.prog ops Q (o :: rest) a w := by
  subst hn
  obtain ⟨i0, hi, hz0, hz1, hz2⟩ := info_parts Tryd.info5
  rw [wpList, if_pos hw]
  refine Or.inl ?_
  rcases hsl with rfl | ⟨p, q, rfl, hat⟩
  · obtain ⟨a', c', rfl, hc, _, _⟩ := hown.slice
    have hrun : (Builtin.append_ #[33, 33] o.type #[.slice a' L.length c', .slice sp 0 sc]).run Tryd.prog w = .ok (.slice a' L.length c') w := by
      cases a' <;> cases sp <;> simp [Builtin.append_, run_underlying Tryd.underlying33, sizeOf, typeInfo, hi, Builtin.lenOf, Builtin.firstCells, loadCells, loadCellsFrom, storeCells, hc]
    unfold Oper.wp
    simp [execOp, ho, resolve, invoke, builtin, hs, hx, hrun, Result.andThen]
    exact h _ _ (by rw [List.append_nil]; exact hown) (World.grownBy.refl _ _)
  · refine wp_append_own_wide w s x 33 ho b 5 i0 (.int .u8 0) 1 1 Tryd.underlying33 hi hz0 hz1 hz2 rfl (by decide) v L.length _ hs hown ⟨p, q, none⟩ l.length sc (l.map (Value.int .u8)) hx (by simp) ?_ ?_ (by unfold maxLen; omega) (by omega) hB ?_
    · intro j u hj
      have hjl : j < l.length := by have := (List.getElem?_eq_some_iff.1 hj).1; simpa using this
      rw [Addr.add_mid, hat j hjl]
      simp [hjl] at hj ⊢
      exact hj
    · intro u hu
      obtain ⟨y, _, rfl⟩ := List.mem_map.1 hu
      rfl
    · intro v' w' h1 h2 _
      refine h v' w' ?_ h2
      unfold Ob
      rw [List.length_append, List.map_append]
      exact h1


theorem blk_bytes {w : World} {b : Nat} (l : List Int) (hb : b ≤ w.heap.size) (h1 : l.length ≤ maxLen) : Ob b (w.alloc (.cells (kc l) 5 (0, 0))) (.slice (some ⟨w.heap.size, 0, none⟩) l.length l.length) l :=
  ⟨by simp, .inr ⟨w.heap.size, l.length, kc l, rfl, hb, blk_new _ _, Nat.le_refl _, h1, by rw [kc_size, Nat.mul_one], by unfold kc; rw [Nat.mul_one]; exact List.take_of_length_le (by simp)⟩⟩
def slenV : Value → Nat
  | .slice _ n _ => n
  | _ => 0
/-- what the reference's Pad answers -/
def RPadded (n : Nat) (w : World) (r : Ending) (w' : World) : Prop := ∃ v, r = .returned v ∧ Ob w.heap.size w' v (padL n) ∧ Gr w w'
set_option maxHeartbeats 2000000 in
theorem rpad_ok (n : Nat) (hn : n < 1152921504606846976) (w : World) : Calls Tryd.prog 45 #[.int .i64 n] w (RPadded n w) := by
  obtain ⟨T, hT⟩ : ∃ T, T = RPadded n w := ⟨_, rfl⟩
  rw [← hT]
  replace hT := hide hT
  obtain ⟨z, hz⟩ : ∃ z, z = nz n := ⟨_, rfl⟩
  have hz2 : z = (119 - n % 64) % 64 := hz
  have e0 : ¬ (n : Int) < 0 := by omega
  replace hz := hide hz
  go_enter Tryd.func45, Tryd.ntmps45
  go_wp2_with fail
  have hO := blk_bytes (w := w) (b := w.heap.size) [128] (Nat.le_refl _) (by unfold maxLen; simp)
  replace hO : Hid (Ob w.heap.size (w.alloc (.cells #[.int .u8 128] 5 (0, 0))) (.slice (some ⟨w.heap.size, 0, none⟩) 1 1) (128 :: List.replicate 0 0)) := hO
  have hG : Hid (Gr w (w.alloc (.cells #[.int .u8 128] 5 (0, 0)))) := (Gr.refl w).alloc _
  generalize World.alloc _ _ = u at *
  go_loopw [3] (fun p wr => ∃ (k : Nat) (a : Option Addr) (c : Nat), k ≤ z ∧ p = .slice a (k + 1) c ∧ Hid (Ob w.heap.size wr (.slice a (k + 1) c) (128 :: List.replicate k 0)) ∧ Hid (Gr w wr)) (fun p _ => 65 - slenV p)
  case atStart => exact ⟨0, _, 1, by omega, rfl, hO, hG⟩
  case round =>
  clear hO hG
  obtain ⟨k, a, c, hk, rfl, hO, hG⟩ := hrel
  have e1 : IntKind.i64.wrap ((n : Int) + ((k : Int) + 1)) = (n : Int) + ((k : Int) + 1) := by rw [IntKind.wrap_i64]; omega
  have e2 : IntKind.i64.wrap ((n : Int) + ((k : Int) + 1) + 8) = (n : Int) + ((k : Int) + 1) + 8 := by rw [IntKind.wrap_i64]; omega
  have e3 : Int.tmod ((n : Int) + ((k : Int) + 1) + 8) 64 = ((n : Int) + ((k : Int) + 1) + 8) % 64 := by rw [Int.tmod_eq_emod_of_nonneg (by omega)]
  by_cases hil : k < z
  · have e4 : ¬ ((n : Int) + ((k : Int) + 1) + 8) % 64 = 0 := by omega
    replace hz2 := hide hz2
    have hsz : Hid (w.heap.size ≤ wr.heap.size) := (unhide hG).size
    go_upto_region 5 with fail
    refine wp_region_lit ?_
    iterate 2 (refine wpList_step fun K hK => ?_; replace hK := hide hK; go_simp; refine unhide hK _ _ ?_; clear hK K)
    have hO2 := (unhide hO).gr ((Gr.refl wr).alloc (.cells #[.int .u8 0] 5))
    refine app_bs (by kernel_rfl) (.tmp 16) (.tmp 17) rfl w.heap.size (.slice a (k + 1) c) (128 :: List.replicate k 0) (by kernel_rfl) hO2 (some ⟨wr.heap.size, 0, none⟩) 1 1 [0] (by kernel_rfl) rfl (.inr ⟨_, 0, rfl, fun j hj => by rw [Nat.zero_add]; exact kc_cell (l := [0]) (blk_new _ _) j hj⟩) (by simp; have := unhide hz2; omega) (by have := unhide hsz; simp only [size_alloc]; omega) ?_
    intro v' w2 hO3 hG3
    have hG4 := hO2.grown (Nat.le_refl _) ((unhide hG).alloc _) hG3
    have hl : ((128 :: List.replicate k 0) ++ [0] : List Int) = 128 :: List.replicate (k + 1) 0 := by rw [List.cons_append, ← List.replicate_succ']
    rw [hl] at hO3
    obtain ⟨a', c', hv', _, _, _⟩ := hO3.slice
    have hv2 : v' = .slice a' (k + 1 + 1) c' := by rw [hv']; simp
    rw [hv2] at hO3
    rw [hv2]
    clear hO hG hO2 hG3 hv' hv2 hl
    replace hO3 := hide hO3
    replace hG4 := hide hG4
    simp only [Act.put, List.setIfInBounds_toArray, List.set_cons_zero, List.set_cons_succ, List.getElem_toArray, List.getElem_cons_zero, List.getElem_cons_succ]
    iterate 1 (refine wpList_step fun K hK => ?_; replace hK := hide hK; go_simp; refine unhide hK _ _ ?_; clear hK K)
    refine wpList_nil ?_
    go_wp2_with fail
    exact ⟨⟨k + 1, a', c', by omega, rfl, hO3, hG4⟩, by show 65 - (k + 1 + 1) < 65 - (k + 1); have := unhide hz2; omega⟩
  · have hkz : k = z := by omega
    subst hkz
    have e4 : ((n : Int) + ((k : Int) + 1) + 8) % 64 = 0 := by omega
    have hO2 : Hid (Ob w.heap.size wr (.slice a (k + 1 + 0) c) (padH n ++ be8 (n * 8) 0)) := by
      have := unhide hO
      unfold padH be8
      rw [List.append_nil, ← unhide hz]
      exact this
    clear hO hil
    replace hz2 := hide hz2
    go_wp2_with fail
    go_loopw [5, 3] (fun s p wr => ∃ (r : Nat) (a : Option Addr) (c : Nat), r ≤ 8 ∧ s = .int .i64 (7 - (r : Int)) ∧ p = .slice a (k + 1 + r) c ∧ Hid (Ob w.heap.size wr (.slice a (k + 1 + r) c) (padH n ++ be8 (n * 8) r)) ∧ Hid (Gr w wr)) (fun s _ _ => (intOf s + 1).toNat)
    case atStart => exact ⟨0, a, c, by omega, rfl, rfl, hO2, hG⟩
    case round =>
    clear hO2 hG
    obtain ⟨r, a, c, hr, rfl, rfl, hO, hG⟩ := hrel
    by_cases hil : r < 8
    · obtain ⟨s, hs⟩ : ∃ s, s = 7 - r := ⟨_, rfl⟩
      have g0 : 7 - (r : Int) = (s : Int) := by omega
      rw [g0]
      have g1 : 0 ≤ (s : Int) := by omega
      obtain ⟨sh, hsh⟩ : ∃ sh, sh = 8 * s := ⟨_, rfl⟩
      have g2 : 8 * (s : Int) = (sh : Int) := by omega
      have g3 : 0 ≤ (sh : Int) := by omega
      have g6 : IntKind.i64.wrap (sh : Int) = (sh : Int) := by rw [IntKind.wrap_i64]; omega
      have g7 : (sh : Int) < 64 := by omega
      obtain ⟨y, hy⟩ : ∃ y : Int, y = ((n * 8 / 2 ^ (56 - 8 * r) % 256 : Nat) : Int) := ⟨_, rfl⟩
      have g4 : IntKind.u8.wrap ((n : Int) * 8 / 2 ^ sh) = y := by
        rw [IntKind.wrap_u8', hy, hsh, hs]
        have : (2 : Int) ^ (8 * (7 - r)) = ((2 ^ (56 - 8 * r) : Nat) : Int) := by
          rw [show 8 * (7 - r) = 56 - 8 * r by omega]; simp
        rw [this, show (n : Int) * 8 = ((n * 8 : Nat) : Int) by omega]
        rfl
      have g5 : IntKind.i64.wrap ((s : Int) - 1) = (s : Int) - 1 := by rw [IntKind.wrap_i64]; omega
      have g8 : IntKind.u64.wrap ((n : Int) * 8) = (n : Int) * 8 := by rw [IntKind.wrap_u64]; omega
      have hnx : Hid ((padH n ++ be8 (n * 8) r) ++ [y] = padH n ++ be8 (n * 8) (r + 1)) := by
        have h1 : be8 (n * 8) (r + 1) = be8 (n * 8) r ++ [y] := by rw [be8, hy]
        rw [h1]
        exact List.append_assoc _ _ _
      have hsz : Hid (w.heap.size ≤ wr.heap.size) := (unhide hG).size
      have hlen : (padH n ++ be8 (n * 8) r).length ≤ 100 := by
        have := padH_len n
        have h2 := be8_len (n * 8) r
        have h3 := unhide hz
        have h4 := unhide hz2
        rw [List.length_append]
        omega
      replace hsh := hide hsh
      replace hs := hide hs
      replace hy := hide hy
      go_upto_region 10 with fail
      refine wp_region_lit ?_
      iterate 7 (refine wpList_step fun K hK => ?_; replace hK := hide hK; go_simp; refine unhide hK _ _ ?_; clear hK K)
      have hO2 := (unhide hO).gr ((Gr.refl wr).alloc (.cells #[.int .u8 y] 5))
      refine app_bs (by kernel_rfl) (.tmp 26) (.tmp 32) rfl w.heap.size (.slice a (k + 1 + r) c) _ (by kernel_rfl) hO2 (some ⟨wr.heap.size, 0, none⟩) 1 1 [y] (by kernel_rfl) rfl (.inr ⟨_, 0, rfl, fun j hj => by rw [Nat.zero_add]; exact kc_cell (l := [y]) (blk_new _ _) j hj⟩) (by omega) (by have := unhide hsz; simp only [size_alloc]; omega) ?_
      intro v' w2 hO3 hG3
      have hG4 := hO2.grown (Nat.le_refl _) ((unhide hG).alloc _) hG3
      rw [unhide hnx] at hO3
      obtain ⟨a', c', hv', _, _, _⟩ := hO3.slice
      have hv2 : v' = .slice a' (k + 1 + (r + 1)) c' := by
        rw [hv', List.length_append, padH_len, be8_len, ← unhide hz]
      rw [hv2] at hO3
      rw [hv2]
      clear hO hG hO2 hG3 hv' hv2 hnx
      replace hO3 := hide hO3
      replace hG4 := hide hG4
      simp only [Act.put, List.setIfInBounds_toArray, List.set_cons_zero, List.set_cons_succ, List.getElem_toArray, List.getElem_cons_zero, List.getElem_cons_succ]
      iterate 1 (refine wpList_step fun K hK => ?_; replace hK := hide hK; go_simp; refine unhide hK _ _ ?_; clear hK K)
      refine wpList_nil ?_
      go_wp2_with fail
      have hs1 := unhide hs
      refine ⟨⟨r + 1, a', c', by omega, by congr 1; omega, rfl, hO3, hG4⟩, ?_⟩
      show ((s : Int) - 1 + 1).toNat < ((s : Int) + 1).toNat
      omega
    · have e : r = 8 := by omega
      subst e
      have hP : Hid (RPadded n w (.returned (.slice a (k + 1 + 8) c)) wr) := ⟨_, rfl, unhide hO, unhide hG⟩
      clear hil hO hG
      go_wp2_with fail
      rw [unhide hT]
      exact unhide hP
/-- a block of bytes of one's own, with seven behind them -/
structure Rm (b : Nat) (w : World) (v : Value) (n : Nat) (L : List Int) : Prop where
  ex : ∃ g cap cur, v = .slice (some ⟨g, 0, none⟩) n cap ∧ b ≤ g ∧ w.heap[g]? = some (.cells cur 5 (0, 0)) ∧ n + 1 ≤ cap ∧ cap ≤ maxLen ∧ cur.size = cap ∧ cur.toList.take (n + 1) = (L ++ [7]).map (Value.int .u8) ∧ L.length = n
theorem Rm.sl {b : Nat} {w : World} {v : Value} {n : Nat} {L : List Int} (h : Rm b w v n L) : ∃ g c, v = .slice (some ⟨g, 0, none⟩) n c ∧ b ≤ g ∧ n + 1 ≤ c ∧ c ≤ maxLen ∧ At w g 0 (L ++ [7]) ∧ At w g 0 L := by
  obtain ⟨g, cap, cur, h1, h2, h3, h4, h5, h6, h7, h8⟩ := h.ex
  have hA : At w g 0 (L ++ [7]) := by
    intro j hj
    rw [Nat.zero_add]
    refine cell_of h3 ?_
    rw [← Array.getElem?_toList]
    have e : ((L ++ [7]).map (Value.int .u8))[j]? = some (.int .u8 ((L ++ [7]).getD j 0)) := by
      rw [List.getElem?_map, List.getElem?_eq_getElem hj, List.getD_eq_getElem?_getD, List.getElem?_eq_getElem hj]
      rfl
    rw [← h7, List.getElem?_take, if_pos (by rw [List.length_append] at hj; simp at hj; omega)] at e
    exact e
  refine ⟨g, cap, h1, h2, h4, h5, hA, ?_⟩
  have := hA.take L.length
  rw [List.take_left] at this
  exact this
theorem Rm.gr {b : Nat} {w u : World} {v : Value} {n : Nat} {L : List Int} (h : Rm b w v n L) (k : Gr w u) : Rm b u v n L := by
  obtain ⟨g, cap, cur, h1, h2, h3, h4⟩ := h.ex
  exact ⟨g, cap, cur, h1, h2, k.blk h3, h4⟩

end Go.Proofs.YtpmgmpihmpifgaaDoor
