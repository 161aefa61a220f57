/-
  A conversation is read.
-/
import Derived.Test.YtcefkkoombmndaaPD
namespace Go.Proofs.Ytcefkkoombmndaa
open Go.RowKit
set_option maxRecDepth 100000
set_option linter.unusedSimpArgs false
set_option linter.unusedVariables false
theorem app_row1P {t e : TypeId} {k nb : Nat} (L : Lw t e k nb) {w : World} {o : Oper} {a : Act} {K : Act → World → Prop} {Q : Exit → Act → World → Prop} (s x : Operand)
    (ho : o.op = .call { callee := .builtin .append, args := #[s, x], argTypes := #[t, t] }) (v : Value) (R : List (List Value)) (hs : a.eval s = v) (b : Nat) (hb : b ≤ w.heap.size) (hown : Or_ k e b w v R)
    (p q sc : Nat) (r : List Value) (hx : a.eval x = .slice (some ⟨p, q, none⟩) 1 sc) (hrow : r.length = k) (hat : w.rangeAt p q r) (h1 : ∀ u ∈ r, u.oneCell' = true) (hbig : ((R.length + 1) + (R.length + 1) / 4 + 192) * nb ≤ 281474976710656 ∧ R.length + 1 ≤ 4611686018427387904)
    (h : ∀ v' w', Or_ k e b w' v' (R ++ [r]) → w.grownBy w' v.ownBlock → (v'.ownBlock = v.ownBlock ∨ v'.ownBlock = some w.heap.size) → K (a.put o.dst v') w') : o.wp Try.prog a w K Q := by
  obtain ⟨i0, z0, hi, hz0, hz1, hz2, hz3⟩ := L.hi
  have hat2 : ∀ j u, r[j]? = some u → w.cell? ((⟨p, q, none⟩ : Addr).add j) = some u := fun j u hj => by rw [Addr.add_mid]; exact hat j u hj
  have hrl : r.length = 1 * k := by omega
  obtain ⟨v', w', hr, h2, h3, -⟩ := run_append_own_wide (P := Try.prog) w b t o.type e i0 z0 k nb L.ht hi hz0 hz1 hz2 hz3 L.hk v R.length _ hown.2 ⟨p, q, none⟩ 1 sc r hrl hat2 h1 (by unfold maxLen; omega) hbig.1 hb
  have hwh : v'.ownBlock = v.ownBlock ∨ v'.ownBlock = some w.heap.size := by
    subst hz1 hz2
    rcases hown.2.2 with ⟨e1, e2⟩ | ⟨g, cap, cur, e1, hbg, hg, hnc, hcm, hcs, htake⟩
    · subst e1
      have hr2 := run_append_nil (P := Try.prog) w t o.type e i0 z0 L.ht hi hz0 ⟨p, q, none⟩ 1 sc r hrl hat2 (by omega) (by omega) (Nat.le_trans (Nat.mul_le_mul_right _ (by omega)) hbig.1)
      rw [hr2] at hr
      injection hr with hr _
      rw [← hr]
      exact .inr rfl
    · subst e1
      by_cases hroom : R.length + 1 ≤ cap
      · have hfit : R.length * i0.size + r.length ≤ cur.size := by rw [hrl, hcs, ← Nat.add_mul]; exact Nat.mul_le_mul_right _ hroom
        have hr2 := run_append_room (P := Try.prog) w t o.type e i0 L.ht hi g R.length cap cur hg ⟨p, q, none⟩ 1 sc r hrl hat2 h1 hroom hfit
        rw [hr2] at hr
        injection hr with hr _
        rw [← hr]
        exact .inl rfl
      · have hr2 := run_append_grow (P := Try.prog) w t o.type e i0 z0 L.ht hi hz0 ⟨g, 0, none⟩ R.length cap _ hown.2.1 (hown.2.cells (g := g) rfl) ⟨p, q, none⟩ 1 sc r hrl hat2 (by omega) (by omega) (growslice_fits_wide (by omega) hbig.1)
        rw [hr2] at hr
        injection hr with hr _
        rw [← hr]
        exact .inr rfl
  unfold Oper.wp execOp
  simp only [ho, resolve, invoke, builtin, Sem.run_bind, Sem.run_pure, Result.andThen_ok, List.map_toArray, List.map_cons, List.map_nil, hs, hx, hr]
  refine h v' w' ⟨?_, ?_⟩ h3 hwh
  · intro x hx
    rcases List.mem_append.1 hx with hx | hx
    · exact hown.1 x hx
    · rw [List.mem_singleton] at hx
      rw [hx]
      exact hrow
  · rw [List.length_append, List.flatten_append]
    simpa using h2
/-- the bodies that are read, with their numbers -/
def rdO (L : List Int) (m : Int) : List Ot := (List.range 4).map fun (i : Nat) => (⟨(m + (i : Int)) % 4294967296, (L.drop (6 + 105 * i)).take 105⟩ : Ot)
def rdN (L : List Int) : Nat := min (L.getD 4 0).toNat 4
def rdM (L : List Int) : Nat := min (L.getD 430 0).toNat 3
/-- what is read -/
def rdC (L : List Int) : Cm := ⟨lowN (L.take 4), (rdO L (lowN (L.take 4) - (rdN L : Int))).take (rdN L), L.getD 5 0, lowN ((L.drop 426).take 4), (List.range (rdM L)).map fun (i : Nat) => inA L (431 + 53 * i)⟩
theorem rdO_len (L : List Int) (m : Int) : (rdO L m).length = 4 := by unfold rdO; simp
theorem rdO_at (L : List Int) (m : Int) (i : Nat) (h : i < 4) : (rdO L m)[i]? = some ⟨(m + (i : Int)) % 4294967296, (L.drop (6 + 105 * i)).take 105⟩ := by
  unfold rdO
  rw [List.getElem?_map, List.getElem?_range h]
  rfl
theorem rdO_ok {L : List Int} (hl : L.length = 590) (hb : IsB L) (m : Int) : ∀ s ∈ rdO L m, s.Ok := by
  intro s hs
  obtain ⟨i, hi, rfl⟩ := List.mem_map.1 hs
  have hi := List.mem_range.1 hi
  exact ⟨⟨Int.emod_nonneg _ (by decide), Int.emod_lt_of_pos _ (by decide)⟩, by rw [List.length_take, List.length_drop]; omega, fun x hx => hb x (List.mem_of_mem_drop (List.mem_of_mem_take hx))⟩
theorem bod_at {O : List Ot} (h : ∀ s ∈ O, s.Ok) (hO : O.length = 4) {j : Nat} {s : Ot} (hs : O[j]? = some s) : ((bodL O 4).drop (105 * j)).take 105 = s.B := by
  obtain ⟨hl, h4⟩ := List.getElem?_eq_some_iff.1 hs
  have h3 : O = O.take j ++ (s :: O.drop (j + 1)) := by rw [← h4, ← List.drop_eq_getElem_cons hl, List.take_append_drop]
  have hA := bodt_len h (Nat.le_of_lt hl)
  have hb := (h s (List.mem_of_getElem? hs)).2.1
  have e : (O.map (·.B)).flatten = ((O.take j).map (·.B)).flatten ++ (s.B ++ ((O.drop (j + 1)).map (·.B)).flatten) := by
    conv => lhs; rw [h3]
    simp
  have e0 : O.take 4 = O := List.take_of_length_le (by omega)
  unfold bodL
  rw [e0, e]
  generalize ((O.take j).map (·.B)).flatten = A at *
  rw [List.append_assoc, List.drop_append, List.drop_eq_nil_of_le (by omega), List.nil_append, hA, Nat.sub_self, List.drop_zero, List.append_assoc, List.take_append_of_le_length (by omega), List.take_of_length_le (by omega)]
theorem sub_32w {a : Act} {o : Oper} (w : World) (x y : Operand) (m n : Int) (ho : o.op = .binOp .sub 22 x y 22) (hx : a.eval x = .int .u32 m) (hy : a.eval y = .int .u32 n) (r : Int) (hr : (m - n) % 4294967296 = r) : (execOp a.eval o).run Try.prog w = .ok (.value (.int .u32 r)) w := by
  have e : IntKind.u32.wrap (m - n) = r := by rw [IntKind.wrap_u32]; exact hr
  unfold execOp
  simp only [ho, hx, hy]
  go_simp
theorem add_32w {a : Act} {o : Oper} (w : World) (x y : Operand) (m n : Int) (ho : o.op = .binOp .add 22 x y 22) (hx : a.eval x = .int .u32 m) (hy : a.eval y = .int .u32 n) (r : Int) (hr : (m + n) % 4294967296 = r) : (execOp a.eval o).run Try.prog w = .ok (.value (.int .u32 r)) w := by
  have e : IntKind.u32.wrap (m + n) = r := by rw [IntKind.wrap_u32]; exact hr
  unfold execOp
  simp only [ho, hx, hy]
  go_simp
theorem exec_sl69 {a : Act} {o : Oper} (w : World) (x y : Operand) (ho : o.op = .slice 69 x none (some y) none) (g n : Nat) (hx : a.eval x = .pointer (some ⟨g, 0, none⟩)) (hy : a.eval y = .int .i64 (n : Int)) (hn : n ≤ 4) :
    (execOp a.eval o).run Try.prog w = .ok (.value (.slice (some ⟨g, 0, none⟩) n 4)) w := by
  have hl : Try.prog.arrayLen 69 = 4 := by kernel_rfl
  have h1 : (0 : Int) ≤ (n : Int) := by omega
  have h2 : (n : Int) ≤ (Try.prog.arrayLen 69 : Int) := by rw [hl]; omega
  have hu : Try.prog.underlying 69 = some (.array (Try.prog.arrayLen 69) (Try.prog.elem 69)) := by kernel_rfl
  have hz : (sizeOf (Try.prog.elem 69)).run Try.prog w = .ok 105 w := by kernel_rfl
  have h3 := run_sliceAt_array_h (P := Try.prog) w 69 ⟨g, 0, none⟩ hu .i64 (n : Int) h1 h2
  simp [execOp, ho, hx, hy, h3, hl, hz, slicedAt, Addr.add]
theorem exec_ix94 {a : Act} {o : Oper} (w : World) (x y : Operand) (ho : o.op = .indexAddr 94 x y) (g len cap i : Nat) (hx : a.eval x = .slice (some ⟨g, 0, none⟩) len cap) (hy : a.eval y = .int .i64 i) (hi : i < len) :
    (execOp a.eval o).run Try.prog w = .ok (.value (.pointer (some ⟨g, 105 * i, none⟩))) w := by
  have h1 : (i : Int) < (len : Int) := by omega
  have hs : (Try.prog.info? 27).map (·.size) = some 105 := by kernel_rfl
  obtain ⟨i0, h2, h3⟩ := Option.map_eq_some_iff.1 hs
  have hu := Try.underlying94
  have hc : i * 105 = 105 * i := Nat.mul_comm _ _
  unfold execOp
  simp only [ho, hx, hy]
  go_simp
theorem exec_lbK {op : Oper} {a : Act} (w : World) (x : Operand) (ho : op.op = .load 27 x) (g o : Nat) (hx : a.eval x = .pointer (some ⟨g, o, none⟩)) (X K : List Int) {t : TypeId} (h : w.heap[g]? = some (.cells (kc X) t (0, 0))) (hK : (X.drop o).take 105 = K) (hl : K.length = 105) :
    (execOp a.eval op).run Try.prog w = .ok (.value (.agg (fl [bw K]))) w := by
  have e : fl [bw K] = (bw K).toArray := by unfold fl; simp
  rw [e]
  refine exec_row (P := Try.prog) w 27 x ho g o hx (bw K) _ (fun j v hj => cell_of h ?_) Try.underlying27 rfl (by rw [bw_len, hl]; kernel_rfl)
  unfold bw at hj
  subst hK
  have hjl := (List.getElem?_eq_some_iff.1 hj).1
  rw [List.length_map] at hjl
  rw [List.getElem?_map, List.getElem?_take_of_lt (by rw [List.length_take] at hjl; omega), List.getElem?_drop] at hj
  unfold kc
  rw [List.getElem?_toArray, List.getElem?_map]
  exact hj
set_option maxHeartbeats 4000000 in
theorem cread_ok (g p c : Nat) (L : List Int) (w : World) (hR : Rdr g p 590 c 0 L w) : Calls Try.prog 45 #[.pointer (some ⟨g, 0, none⟩)] w (fun r_ w' => ∃ x', r_ = .returned (.agg (fl (cvs (rdC L) x'))) ∧ Own w.heap.size w' (rdC L) x' ∧ Bt g w w') := by
  obtain ⟨T, hT⟩ : ∃ T : Ending → World → Prop, T = (fun r_ w' => ∃ x', r_ = .returned (.agg (fl (cvs (rdC L) x'))) ∧ Own w.heap.size w' (rdC L) x' ∧ Bt g w w') := ⟨_, rfl⟩
  rw [← hT]
  replace hT := hide hT
  have hLn := hR.len
  have hLB := hR.isB
  have hgl := lt_of_block hR.cel
  have hpl := hR.plt (by omega)
  have hb4 := hLB.at_ 4
  have hb430 := hLB.at_ 430
  have hb5 := hLB.at_ 5
  have hn0 := low4 hLB 0 (by omega)
  rw [List.drop_zero] at hn0
  replace hR := hide hR; replace hLB := hide hLB
  go_enter Try.func45, Try.ntmps45
  go_upto_region 1 with fail
  have hB := ((Bl.nil w).new (fl [[.int .u32 0], [.slice none 0 0], [.int .i64 0], [.int .u32 0], [.slice none 0 0]]) 26)
  simp only [size_alloc, List.nil_append, List.cons_append] at hB
  generalize hu_ : World.alloc _ _ = u0
  replace hB : Bl w [⟨w.heap.size, fl [[.int .u32 0], [.slice none 0 0], [.int .i64 0], [.int .u32 0], [.slice none 0 0]], 26⟩] u0 := by
    rw [← hu_]
    exact hB
  clear hu_
  refine wp_region_lit ?_
  refine list_valw (.pointer (some ⟨u0.heap.size, 0, none⟩)) (u0.alloc (.cells (fl [[.int .u32 0], [.slice none 0 0], [.int .i64 0], [.int .u32 0], [.slice none 0 0]]) 26 (0, 0))) (by kernel_rfl) (by kernel_rfl) ?_
  replace hB := hB.new (fl [[.int .u32 0], [.slice none 0 0], [.int .i64 0], [.int .u32 0], [.slice none 0 0]]) 26
  simp only [List.nil_append, List.cons_append] at hB
  generalize World.alloc _ _ = u1 at *
  generalize u0.heap.size = g3 at *
  simp only [nrm]
  refine wpList_nil ?_
  obtain ⟨nx, hnx⟩ : ∃ nx, nx = lowN (L.take 4) := ⟨_, rfl⟩
  obtain ⟨q4, hq4⟩ : ∃ q, q = L.getD 4 0 := ⟨_, rfl⟩
  obtain ⟨q5, hq5⟩ : ∃ q, q = L.getD 5 0 := ⟨_, rfl⟩
  obtain ⟨q9, hq9⟩ : ∃ q, q = L.getD 430 0 := ⟨_, rfl⟩
  rw [← hnx] at hn0
  rw [← hq4] at hb4
  rw [← hq9] at hb430
  obtain ⟨n, hn⟩ : ∃ n, n = min q4.toNat 4 := ⟨_, rfl⟩
  obtain ⟨m, hm⟩ : ∃ m, m = min q9.toNat 3 := ⟨_, rfl⟩
  have hnI : min q4 4 = (n : Int) := by omega
  have hmI : min q9 3 = (m : Int) := by omega
  have hn4 : n ≤ 4 := by omega
  have hm3 : m ≤ 3 := by omega
  replace hnx := hide hnx; replace hq4 := hide hq4; replace hq5 := hide hq5; replace hq9 := hide hq9; replace hn := hide hn; replace hm := hide hm; replace hnI := hide hnI; replace hmI := hide hmI
  replace hB := hide hB
  go_upto_region 2 with fail
  replace hB := unhide hB
  refine wp_region_lit ?_
  refine lvk (.pointer (some ⟨g, 0, none⟩)) ?_
  simp only [nrm]
  refine list_call 61 #[P0 g] (by kernel_rfl) (by kernel_rfl) ((ru32_ok g p 590 c 0 L u1 ((unhide hR).gr hB.gr) (by omega) (by omega)).mono ?_)
  rintro r_ u2 ⟨rfl, hR_, hb_⟩
  refine ⟨_, rfl, ?_⟩
  obtain ⟨b1, hB_, hbt_, hcb_, hsz_⟩ := hB.re hb_ (unhide hR).cel hR_.cel
  clear hB
  have hgl_ : g < b1.heap.size := by rw [hsz_]; exact hgl
  have hpl_ : p < b1.heap.size := by rw [hsz_]; exact hpl
  have hR2_ := hide (hR_.base hB_.gr hgl_ hpl_)
  clear hR hR_ hcb_ hgl hpl
  have hR := hR2_
  have hgl := hgl_
  have hpl := hpl_
  clear hR2_ hgl_ hpl_
  have hbt := hide hbt_
  have hsz := hide hsz_
  have hB := hB_
  clear hbt_ hsz_ hB_ 
  clear hb_
  rw [List.drop_zero, ← unhide hnx]
  simp only [nrm]
  refine lvk (.pointer (some ⟨g3, 0, none⟩)) ?_
  simp only [nrm]
  refine list_c32 (.tmp 12) (.tmp 11) (g3) 0 nx (by kernel_rfl) rfl (by kernel_rfl) (by kernel_rfl) hB 1 rfl NC (nC  _ _ _ _ _) 0 _ rfl rfl ?_
  intro u3 hB_ hbt_
  clear hB
  replace hB : Bl b1 [⟨w.heap.size, fl [[.int .u32 0], [.slice none 0 0], [.int .i64 0], [.int .u32 0], [.slice none 0 0]], 26⟩, ⟨g3, fl [[.int .u32 nx], [.slice none 0 0], [.int .i64 0], [.int .u32 0], [.slice none 0 0]], 26⟩] u3 := hB_
  clear hB_
  clear hbt_
  simp only [nrm]
  refine wpList_nil ?_
  replace hB := hide hB
  go_upto_region 3 with fail
  replace hB := unhide hB
  refine wp_region_lit ?_
  refine lvk (.pointer (some ⟨g, 0, none⟩)) ?_
  simp only [nrm]
  refine list_call 62 #[P0 g] (by kernel_rfl) (by kernel_rfl) ((cone_ok g p 590 c (0 + 4) L u3 ((unhide hR).gr hB.gr) (by omega) (by omega)).mono ?_)
  rintro r_ u4 ⟨rfl, hR_, hb_⟩
  refine ⟨_, rfl, ?_⟩
  obtain ⟨b2, hB_, hbt_, hcb_, hsz_⟩ := hB.re hb_ (unhide hR).cel hR_.cel
  clear hB
  have hgl_ : g < b2.heap.size := by rw [hsz_]; exact hgl
  have hpl_ : p < b2.heap.size := by rw [hsz_]; exact hpl
  have hR2_ := hide (hR_.base hB_.gr hgl_ hpl_)
  clear hR hR_ hcb_ hgl hpl
  have hR := hR2_
  have hgl := hgl_
  have hpl := hpl_
  clear hR2_ hgl_ hpl_
  replace hbt := hide ((unhide hbt).trans hbt_)
  replace hsz := hide (hsz_.trans (unhide hsz))
  have hB := hB_
  clear hbt_ hsz_ hB_ 
  clear hb_
  rw [show L.getD (0 + 4) 0 = q4 from (unhide hq4).symm]
  simp only [nrm]
  refine list_val (.int .i64 (n : Int)) (by kernel_rfl) (min_i _ (.tmp 14) (.const (.int .i64 4)) q4 4 rfl (by kernel_rfl) rfl (n : Int) (unhide hnI)) ?_
  simp only [nrm]
  (refine wpList_step fun K hK => ?_; replace hK := hide hK; go_simp; refine unhide hK _ _ ?_; clear hK K)
  refine wpList_nil ?_
  replace hB := hide hB
  go_upto_region 4 with fail
  replace hB := unhide hB
  refine wp_region_lit ?_
  refine lvk (.pointer (some ⟨g, 0, none⟩)) ?_
  simp only [nrm]
  refine list_call 62 #[P0 g] (by kernel_rfl) (by kernel_rfl) ((cone_ok g p 590 c (0 + 4 + 1) L u4 ((unhide hR).gr hB.gr) (by omega) (by omega)).mono ?_)
  rintro r_ u5 ⟨rfl, hR_, hb_⟩
  refine ⟨_, rfl, ?_⟩
  obtain ⟨b3, hB_, hbt_, hcb_, hsz_⟩ := hB.re hb_ (unhide hR).cel hR_.cel
  clear hB
  have hgl_ : g < b3.heap.size := by rw [hsz_]; exact hgl
  have hpl_ : p < b3.heap.size := by rw [hsz_]; exact hpl
  have hR2_ := hide (hR_.base hB_.gr hgl_ hpl_)
  clear hR hR_ hcb_ hgl hpl
  have hR := hR2_
  have hgl := hgl_
  have hpl := hpl_
  clear hR2_ hgl_ hpl_
  replace hbt := hide ((unhide hbt).trans hbt_)
  replace hsz := hide (hsz_.trans (unhide hsz))
  have hB := hB_
  clear hbt_ hsz_ hB_ 
  clear hb_
  rw [show L.getD (0 + 4 + 1) 0 = q5 from (unhide hq5).symm]
  simp only [nrm]
  refine lvk (.pointer (some ⟨g3, 2, none⟩)) ?_
  simp only [nrm]
  refine list_ci (.tmp 18) (.tmp 17) (g3) 2 q5 (by kernel_rfl) rfl (by kernel_rfl) (by kernel_rfl) hB 1 rfl NC (nC  _ _ _ _ _) 2 _ rfl rfl ?_
  intro u6 hB_ hbt_
  clear hB
  replace hB : Bl b3 [⟨w.heap.size, fl [[.int .u32 0], [.slice none 0 0], [.int .i64 0], [.int .u32 0], [.slice none 0 0]], 26⟩, ⟨g3, fl [[.int .u32 nx], [.slice none 0 0], [.int .i64 q5], [.int .u32 0], [.slice none 0 0]], 26⟩] u6 := hB_
  clear hB_
  clear hbt_
  simp only [nrm]
  refine wpList_nil ?_
  obtain ⟨O, hO⟩ : ∃ O, O = rdO L (nx - (n : Int)) := ⟨_, rfl⟩
  have hOl : O.length = 4 := by rw [hO]; exact rdO_len _ _
  have hOk := hide (hO ▸ rdO_ok hLn (unhide hLB) (nx - (n : Int)) : ∀ s ∈ O, s.Ok)
  have hOat : ∀ i, i < 4 → O[i]? = some ⟨(nx - (n : Int) + (i : Int)) % 4294967296, (L.drop (6 + 105 * i)).take 105⟩ := fun i hi => by rw [hO]; exact rdO_at _ _ i hi
  replace hO := hide hO; replace hOat := hide hOat
  replace hB := hide hB
  go_upto_region 5 with fail
  replace hB := unhide hB
  refine wp_region_lit ?_
  refine list_valw (.pointer (some ⟨u6.heap.size, 0, none⟩)) (u6.alloc (.cells (kc (bodL O 0)) 69 (0, 0))) (by kernel_rfl) (by rw [bodL_0]; kernel_rfl) ?_
  replace hB := hB.new (kc (bodL O 0)) 69
  simp only [List.nil_append, List.cons_append] at hB
  generalize World.alloc _ _ = u7 at *
  generalize u6.heap.size = g5 at *
  simp only [nrm]
  refine wpList_nil ?_
  replace hB := hide hB
  go_upto_region 6 with fail
  replace hB := unhide hB
  refine wp_region_lit ?_
  refine lvk (.int .i64 0) ?_
  simp only [nrm]
  refine wpList_nil ?_
  replace hB := hide hB
  clear hgl hpl
  go_wp2_with fail
  go_loopw [19] (fun i wr => ∃ (j : Nat) (b : World), j ≤ 4 ∧ i = .int .i64 (j : Int) ∧ Hid (Rdr g p 590 c (6 + 105 * j) L b) ∧ Hid (Bt g w b) ∧ Hid (b.heap.size = w.heap.size) ∧ Hid (Bl b [⟨w.heap.size, fl [[.int .u32 0], [.slice none 0 0], [.int .i64 0], [.int .u32 0], [.slice none 0 0]], 26⟩, ⟨g3, fl [[.int .u32 nx], [.slice none 0 0], [.int .i64 q5], [.int .u32 0], [.slice none 0 0]], 26⟩, ⟨g5, kc (bodL O j), 69⟩] wr)) (fun i _ => 4 - (intOf i).toNat)
  case atStart => exact ⟨0, _, by omega, rfl, hR, hbt, hsz, hB⟩
  case round =>
  clear hB hR hbt hsz
  obtain ⟨j, b, hj, rfl, hR, hbt, hsz, hB⟩ := hrel
  have hB := unhide hB
  have hgl : g < b.heap.size := lt_of_block (unhide hR).cel
  have hpl : p < b.heap.size := (unhide hR).plt (by omega)
  by_cases hlt : j < 4
  · have jI : (j : Int) < 4 := by omega
    have hsj := (unhide hOat) j hlt
    have hlay := bodL_lay (unhide hOk) hsj hlt
    have hbl := bodL_len (unhide hOk) (j := j) (by omega) (by omega)
    have hyl : ((L.drop (6 + 105 * j)).take 105).length = 105 := by rw [List.length_take, List.length_drop]; omega
    obtain ⟨Y, hY⟩ : ∃ Y, Y = (L.drop (6 + 105 * j)).take 105 := ⟨_, rfl⟩
    dsimp only at hlay
    rw [← hY] at hyl hlay
    clear hsj
    replace hlay := hide hlay; replace hbl := hide hbl; replace hyl := hide hyl; replace hY := hide hY
    replace hB := hide hB
    go_upto_region 8 with fail
    replace hB := unhide hB
    refine wp_region_lit ?_
    refine lvk (.int .i64 (j : Int)) ?_
    simp only [nrm]
    (refine wpList_step fun K hK => ?_; replace hK := hide hK; go_simp; refine unhide hK _ _ ?_; clear hK K)
    refine wpList_nil ?_
    replace hB := hide hB
    go_upto_region 9 with fail
    replace hB := unhide hB
    refine any_start (S := fun v_ => True) (by kernel_rfl) ?_
    replace hB := hB.drew
    generalize World.drew _ = u8 at *
    simp only [List.size_toArray, List.length_cons, List.length_nil, Array.replicate, List.replicate]
    refine any_tk 0 (.int .i64 (j : Int)) (tf 6 0) rfl (fun x_ hu => by kernel_rfl) trivial ?_
    simp only [nrm]
    refine any_tk 1 (.pointer (some ⟨g5, 105 * j, none⟩)) (tf 6 1) rfl (fun x_ hu => exec_ixA _ (.tmp 5) (.tmp 22) rfl (g5) j (by kernel_rfl) (by kernel_rfl) hlt) trivial ?_
    simp only [nrm]
    refine any_tk 2 (.slice (some ⟨g5, 105 * j, none⟩) 105 105) (tf 6 2) rfl (fun x_ hu => by kernel_rfl) trivial ?_
    simp only [nrm]
    refine any_tk 3 (.pointer (some ⟨g, 0, none⟩)) (tf 6 3) rfl (fun x_ hu => by kernel_rfl) trivial ?_
    simp only [nrm]
    refine any_one (i := 4) (by kernel_rfl) rfl (fun K hK => ?_)
    refine step_callw (by kernel_rfl) 63 #[P0 g, .int .i64 105] (by kernel_rfl) ((rraw_ok g p 590 c (6 + 105 * j) 105 L u8 ((unhide hR).gr hB.gr) (by omega) (by omega) (by omega)).mono ?_)
    rintro r_ u9 ⟨v9, rfl, hO_, hR_, hb_⟩
    refine ⟨_, rfl, ?_⟩
    obtain ⟨b4, hB_, hbt_, hcb_, hsz_⟩ := hB.re hb_ (unhide hR).cel hR_.cel
    clear hB
    have hR2_ := hide (hR_.base hB_.gr (by rw [hsz_]; exact hgl) (by rw [hsz_]; exact hpl))
    clear hR hR_ hcb_ hgl hpl
    have hR := hR2_
    clear hR2_
    replace hbt := hide ((unhide hbt).trans hbt_)
    replace hsz := hide (hsz_.trans (unhide hsz))
    have hB := hB_
    clear hbt_ hsz_ hB_ hb_
    rw [← unhide hY] at hO_
    obtain ⟨p9, c9, cur9, e9, -, -, hcp9, -, -, -⟩ := hO_.some (by intro e8; rw [e8] at hyl; exact absurd (unhide hyl) (by decide))
    obtain ⟨a9, c8, e8, -, -, hsl9⟩ := hO_.slice
    rw [e9] at e8
    injection e8 with e8 _ _
    subst e8 e9
    rw [unhide hyl]
    replace hsl9 := hide hsl9
    clear hO_ hcp9
    refine hK.out _ _ trivial (fun _ => ?_)
    clear hK K
    simp only [nrm]
    refine any_one (i := 5) (by kernel_rfl) rfl (fun K hK => ?_)
    rw [if_pos (by kernel_rfl)]
    refine copy_wp (.tmp 24) (.tmp 26) rfl (g5) (105 * j) 105 105 (some ⟨p9, 0, none⟩) 105 c9 (by kernel_rfl) (by kernel_rfl) ((bodL O j).map (Value.int .u8)) 69 (hB.get 2 (x := ⟨g5, kc (bodL O j), 69⟩) rfl) Y (by rw [unhide hyl]; rfl) ((unhide hsl9).imp (fun h => h) (fun h => h)) (by rw [List.length_map, unhide hbl, unhide hyl]; omega) ?_
    rw [show ((Y.length : Nat) : Int) = 105 by rw [unhide hyl]; rfl]
    have hB2 := hB.cells 2 (C := (bodL O j).map (Value.int .u8)) rfl (105 * j) (Y.map (Value.int .u8))
    rw [sp_lay _ _ _ (by rw [unhide hbl, unhide hyl]; omega), unhide hlay] at hB2
    simp only [List.set_cons_zero, List.set_cons_succ] at hB2
    clear hB hsl9
    generalize World.setCells _ _ _ _ = u10 at *
    have hB : Bl b4 [⟨w.heap.size, fl [[.int .u32 0], [.slice none 0 0], [.int .i64 0], [.int .u32 0], [.slice none 0 0]], 26⟩, ⟨g3, fl [[.int .u32 nx], [.slice none 0 0], [.int .i64 q5], [.int .u32 0], [.slice none 0 0]], 26⟩, ⟨g5, kc (bodL O (j + 1)), 69⟩] u10 := hB2
    clear hB2
    refine hK.out _ _ trivial (fun _ => ?_)
    clear hK K
    simp only [nrm]
    refine any_done (by kernel_rfl) ?_
    have jw : IntKind.i64.wrap ((j : Int) + 1) = (j : Int) + 1 := by rw [IntKind.wrap_i64]; omega
    replace hB := hide hB
    clear hlay hbl hyl hY
    replace hR := hide (show Rdr g p 590 c (6 + 105 * (j + 1)) L _ from by have h := unhide hR; rwa [show 6 + 105 * j + 105 = 6 + 105 * (j + 1) from by omega] at h)
    go_wp2_with fail
    go_roundw
    case rel => exact ⟨j + 1, _, by omega, by simp, hR, hbt, hsz, hB⟩
    case measure => simp [intOf]; omega
  · have jI : ¬ (j : Int) < 4 := by omega
    obtain rfl : j = 4 := by omega
    obtain ⟨X, hX⟩ : ∃ X, X = bodL O 4 := ⟨_, rfl⟩
    rw [← hX] at hB
    have hXat : ∀ i s, O[i]? = some s → (X.drop (105 * i)).take 105 = s.B := fun i s hs => by rw [hX]; exact bod_at (unhide hOk) hOl hs
    replace hX := hide hX; replace hXat := hide hXat
    replace hB := hide hB
    go_upto_region 11 with fail
    replace hB := unhide hB
    refine wp_region_lit ?_
    refine lvk (.pointer (some ⟨g3, 0, none⟩)) ?_
    simp only [nrm]
    refine list_val (.int .u32 nx) (by kernel_rfl) (exec_c32 _ (.tmp 29) rfl (g3) 0 (by kernel_rfl) nx (seg_cell (nC  _ _ _ _ _) (hB.get 1 (x := ⟨g3, fl [[.int .u32 nx], [.slice none 0 0], [.int .i64 q5], [.int .u32 0], [.slice none 0 0]], 26⟩) rfl) 0 (v := .int .u32 nx) rfl rfl)) ?_
    simp only [nrm]
    (refine wpList_step fun K hK => ?_; replace hK := hide hK; go_simp; refine unhide hK _ _ ?_; clear hK K)
    refine wpList_nil ?_
    replace hB := hide hB
    go_upto_region 12 with fail
    replace hB := unhide hB
    refine wp_region_lit ?_
    refine lvk (.int .u32 nx) ?_
    simp only [nrm]
    refine lvk (.int .i64 (n : Int)) ?_
    simp only [nrm]
    refine list_val (.int .u32 (n : Int)) (by kernel_rfl) (conv_u32 _ (.tmp 32) (n : Int) rfl (by kernel_rfl) (by omega)) ?_
    simp only [nrm]
    refine list_val (.int .u32 ((nx - (n : Int) + ((0 : Nat) : Int)) % 4294967296)) (by kernel_rfl) (sub_32w _ (.tmp 31) (.tmp 33) nx (n : Int) rfl (by kernel_rfl) (by kernel_rfl) _ (by simp)) ?_
    simp only [nrm]
    (refine wpList_step fun K hK => ?_; replace hK := hide hK; go_simp; refine unhide hK _ _ ?_; clear hK K)
    refine wpList_nil ?_
    replace hB := hide hB
    go_upto_region 13 with fail
    replace hB := unhide hB
    refine wp_region_lit ?_
    refine lvk (.int .i64 (n : Int)) ?_
    simp only [nrm]
    refine list_val (.slice (some ⟨g5, 0, none⟩) n 4) (by kernel_rfl) (exec_sl69 _ (.tmp 5) (.tmp 35) rfl (g5) n (by kernel_rfl) (by kernel_rfl) hn4) ?_
    simp only [nrm]
    refine lvk (.int .i64 (n : Int)) ?_
    simp only [nrm]
    refine lvk (.int .i64 0) ?_
    simp only [nrm]
    refine wpList_nil ?_
    replace hB := hide hB
    clear hgl hpl
    have hL := hide (or_none 106 39 w.heap.size wr)
    go_wp2_with fail
    go_loopw [7, 38] (fun q i wr => ∃ (j : Nat) (la : Option Addr) (lc : Nat), j ≤ n ∧ q = .int .u32 ((nx - (n : Int) + (j : Int)) % 4294967296) ∧ i = .int .i64 (j : Int) ∧ Hid (Or_ 106 39 w.heap.size wr (.slice la j lc) ((O.take j).map otr)) ∧ Hid (Bl b [⟨w.heap.size, fl [[.int .u32 0], [.slice none 0 0], [.int .i64 0], [.int .u32 0], [.slice none 0 0]], 26⟩, ⟨g3, fl [[.int .u32 nx], [.slice la j lc], [.int .i64 q5], [.int .u32 0], [.slice none 0 0]], 26⟩, ⟨g5, kc X, 69⟩] wr)) (fun _ i _ => n - (intOf i).toNat)
    case atStart => exact ⟨0, none, 0, by omega, by simp, rfl, hL, hB⟩
    case round =>
    clear hB hL
    obtain ⟨j, la, lc, hj, rfl, rfl, hL, hB⟩ := hrel
    have hB := unhide hB
    by_cases hlt : j < n
    · have jI : (j : Int) < (n : Int) := by omega
      have hsj := (unhide hOat) j (by omega)
      obtain ⟨s, hs⟩ : ∃ s : Ot, s = ⟨(nx - (n : Int) + (j : Int)) % 4294967296, (L.drop (6 + 105 * j)).take 105⟩ := ⟨_, rfl⟩
      rw [← hs] at hsj
      have hsn : (nx - (n : Int) + (j : Int)) % 4294967296 = s.n := by rw [hs]
      have hok := (unhide hOk) s (List.mem_of_getElem? hsj)
      have hXj := (unhide hXat) j s hsj
      have etk : (O.take j).map otr ++ [otr s] = (O.take (j + 1)).map otr := by rw [List.take_add_one, hsj]; simp
      rw [hsn]
      replace hok := hide hok; replace hXj := hide hXj; replace etk := hide etk; replace hsn := hide hsn
      clear hs hsj
      replace hB := hide hB
      go_upto_region 15 with fail
      replace hB := unhide hB
      refine wp_region_lit ?_
      refine list_val (.pointer (some ⟨g5, 105 * j, none⟩)) (by kernel_rfl) (exec_ix94 _ (.tmp 36) (.tmp 38) rfl (g5) n 4 j (by kernel_rfl) (by kernel_rfl) hlt) ?_
      simp only [nrm]
      refine list_val (.agg (fl [bw s.B])) (by kernel_rfl) (exec_lbK _ (.tmp 40) rfl (g5) (105 * j) (by kernel_rfl) X s.B (hB.get 2 (x := ⟨g5, kc X, 69⟩) rfl) (unhide hXj) (unhide hok).2.1) ?_
      simp only [nrm]
      refine list_valw (.pointer (some ⟨wr.heap.size, 0, none⟩)) (wr.alloc (.cells (fl [bw Z105]) 27 (0, 0))) (by kernel_rfl) (by kernel_rfl) ?_
      replace hB := hB.new (fl [bw Z105]) 27
      simp only [List.nil_append, List.cons_append] at hB
      have hg := (Gr.refl wr).alloc (.cells (fl [bw Z105]) 27 (0, 0))
      replace hL := hide ((unhide hL).gr hg)
      clear hg
      generalize World.alloc _ _ = u11 at *
      generalize wr.heap.size = g9 at *
      simp only [nrm]
      have hzz_ : Hid (u11.heap[g9]? = some (.cells (fl [bw Z105]) 27 (0, 0))) := hide (hB.get 3 (x := ⟨g9, fl [bw Z105], 27⟩) rfl)
      refine list_all 27 (.tmp 9) (.tmp 41) (g9) (S2 := [bw s.B]) (by kernel_rfl) rfl (by kernel_rfl) (by kernel_rfl) hB 3 rfl NY (nY Z105_len) (nY (unhide hok).2.1) (by kernel_rfl) (oY _) ?_
      intro u12 hB_ hbt_
      clear hB
      replace hB : Bl b [⟨w.heap.size, fl [[.int .u32 0], [.slice none 0 0], [.int .i64 0], [.int .u32 0], [.slice none 0 0]], 26⟩, ⟨g3, fl [[.int .u32 nx], [.slice la j lc], [.int .i64 q5], [.int .u32 0], [.slice none 0 0]], 26⟩, ⟨g5, kc X, 69⟩, ⟨g9, fl [bw s.B], 27⟩] u12 := hB_
      clear hB_
      replace hL := hide ((unhide hL).bz (unhide hzz_) hbt_)
      clear hbt_ hzz_
      simp only [nrm]
      refine wpList_nil ?_
      replace hB := hide hB
      go_upto_region 16 with fail
      replace hB := unhide hB
      refine wp_region_lit ?_
      refine lvk (.pointer (some ⟨g3, 1, none⟩)) ?_
      simp only [nrm]
      refine list_val (.slice la j lc) (by kernel_rfl) (exec_csO _ (.tmp 42) rfl (g3) 1 (by kernel_rfl) la j lc (seg_cell (nC  _ _ _ _ _) (hB.get 1 (x := ⟨g3, fl [[.int .u32 nx], [.slice la j lc], [.int .i64 q5], [.int .u32 0], [.slice none 0 0]], 26⟩) rfl) 1 (v := .slice la j lc) rfl rfl)) ?_
      simp only [nrm]
      refine lvk (.int .u32 s.n) ?_
      simp only [nrm]
      refine list_val (.agg (fl [bw s.B])) (by kernel_rfl) (exec_sw _ 27 (.tmp 9) rfl (g9) (by kernel_rfl) (hB.get 3 (x := ⟨g9, fl [bw s.B], 27⟩) rfl) NY (nY (unhide hok).2.1) Try.underlying27 rfl (by kernel_rfl)) ?_
      simp only [nrm]
      refine list_val (.agg (fl [[.int .u32 s.n], bw s.B])) (by kernel_rfl) (bO01 _ (.tmp 44) (.tmp 45) rfl (unhide hok).2.1 (by kernel_rfl) (by kernel_rfl)) ?_
      simp only [nrm]
      refine list_valw (.slice (some ⟨u12.heap.size, 0, none⟩) 1 1) (u12.alloc (.cells (fl [[.int .u32 s.n], bw s.B]) 39 (0, 0))) (by kernel_rfl) (exec_bso _ (.tmp 46) rfl s (unhide hok).2.1 (by kernel_rfl)) ?_
      have hS := hide (blk_new u12 (.cells (fl [[.int .u32 s.n], bw s.B]) 39 (0, 0)))
      have hg := (Gr.refl u12).alloc (.cells (fl [[.int .u32 s.n], bw s.B]) 39 (0, 0))
      replace hL := hide ((unhide hL).gr hg)
      replace hB := hB.more hg
      clear hg
      generalize World.alloc _ _ = u13 at *
      generalize u12.heap.size = gs at *
      simp only [nrm]
      refine wpList_step fun K hK => ?_
      rw [if_pos (by kernel_rfl)]
      refine app_row1P ltO (.tmp 43) (.tmp 47) rfl _ ((O.take j).map otr) (by kernel_rfl) w.heap.size (by have h9 := hB.gr.size; have h8 := unhide hsz; omega) (unhide hL) gs 0 1 (otr s) (by kernel_rfl) (otr_len (unhide hok)) (range_row (unhide hS)) (otr_one s) (by rw [List.length_map, List.length_take]; omega) ?_
      intro v1 u14 hL1 hgr hwh
      refine hK _ _ ?_
      clear hK K hS hwh
      replace hB := hB.grownR (unhide hL) (by have h8 := unhide hsz; omega) hgr (by intro y_ hy_; simp only [List.mem_cons, List.not_mem_nil, or_false] at hy_; rcases hy_ with rfl | rfl | rfl | rfl <;> (dsimp only; decide))
      clear hL hgr
      rw [unhide etk] at hL1
      obtain ⟨l8, c8, rfl, hls8⟩ := hL1.lz
      clear hls8
      have e2 : ((O.take (j + 1)).map otr).length = j + 1 := by rw [List.length_map, List.length_take]; omega
      rw [e2] at hL1 ⊢
      have hL := hide hL1
      clear hL1 e2
      simp only [nrm]
      refine lvk (.pointer (some ⟨g3, 1, none⟩)) ?_
      simp only [nrm]
      have hzz_ : Hid (u14.heap[g3]? = some (.cells (fl [[.int .u32 nx], [.slice la j lc], [.int .i64 q5], [.int .u32 0], [.slice none 0 0]]) 26 (0, 0))) := hide (hB.get 1 (x := ⟨g3, fl [[.int .u32 nx], [.slice la j lc], [.int .i64 q5], [.int .u32 0], [.slice none 0 0]], 26⟩) rfl)
      refine list_csO (.tmp 49) (.tmp 48) (g3) 1 l8 (j + 1) c8 (by kernel_rfl) rfl (by kernel_rfl) (by kernel_rfl) hB 1 rfl NC (nC  _ _ _ _ _) 1 _ rfl rfl ?_
      intro u15 hB_ hbt_
      clear hB
      replace hB : Bl b [⟨w.heap.size, fl [[.int .u32 0], [.slice none 0 0], [.int .i64 0], [.int .u32 0], [.slice none 0 0]], 26⟩, ⟨g3, fl [[.int .u32 nx], [.slice l8 (j + 1) c8], [.int .i64 q5], [.int .u32 0], [.slice none 0 0]], 26⟩, ⟨g5, kc X, 69⟩, ⟨g9, fl [bw s.B], 27⟩] u15 := hB_
      clear hB_
      replace hL := hide ((unhide hL).bz (unhide hzz_) hbt_)
      clear hbt_ hzz_
      simp only [nrm]
      refine wpList_nil ?_
      replace hB := Bl.left (L := [⟨w.heap.size, fl [[.int .u32 0], [.slice none 0 0], [.int .i64 0], [.int .u32 0], [.slice none 0 0]], 26⟩, ⟨g3, fl [[.int .u32 nx], [.slice l8 (j + 1) c8], [.int .i64 q5], [.int .u32 0], [.slice none 0 0]], 26⟩, ⟨g5, kc X, 69⟩]) (M := [⟨g9, fl [bw s.B], 27⟩]) hB
      replace hB := hide hB
      go_upto_region 17 with fail
      replace hB := unhide hB
      refine wp_region_lit ?_
      refine lvk (.int .u32 s.n) ?_
      simp only [nrm]
      refine list_val (.int .u32 ((nx - (n : Int) + ((j + 1 : Nat) : Int)) % 4294967296)) (by kernel_rfl) (add_32w _ (.tmp 50) (.const (.int .u32 1)) s.n 1 rfl (by kernel_rfl) rfl _ (by rw [← unhide hsn]; omega)) ?_
      simp only [nrm]
      (refine wpList_step fun K hK => ?_; replace hK := hide hK; go_simp; refine unhide hK _ _ ?_; clear hK K)
      refine wpList_nil ?_
      have jw : IntKind.i64.wrap ((j : Int) + 1) = (j : Int) + 1 := by rw [IntKind.wrap_i64]; omega
      replace hB := hide hB
      clear hsn hok hXj etk
      go_wp2_with fail
      go_roundw
      case rel => exact ⟨j + 1, l8, c8, by omega, rfl, by simp, hL, hB⟩
      case measure => simp [intOf]; omega
    · have jI : ¬ (j : Int) < (n : Int) := by omega
      have hjn : j = n := by omega
      rw [hjn] at hL hB
      clear hjn
      have hgl : g < b.heap.size := lt_of_block (unhide hR).cel
      have hpl : p < b.heap.size := (unhide hR).plt (by omega)
      obtain ⟨dl, hdl⟩ : ∃ d, d = lowN ((L.drop 426).take 4) := ⟨_, rfl⟩
      replace hdl := hide hdl
      replace hB := hide hB
      go_upto_region 19 with fail
      replace hB := unhide hB
      refine wp_region_lit ?_
      refine lvk (.pointer (some ⟨g, 0, none⟩)) ?_
      simp only [nrm]
      refine list_call 61 #[P0 g] (by kernel_rfl) (by kernel_rfl) ((ru32_ok g p 590 c (6 + 105 * 4) L wr ((unhide hR).gr hB.gr) (by omega) (by omega)).mono ?_)
      rintro r_ u16 ⟨rfl, hR_, hb_⟩
      refine ⟨_, rfl, ?_⟩
      replace hL := hide ((unhide hL).bz ((unhide hR).gr hB.gr).cel hb_)
      obtain ⟨b21, hB_, hbt_, hcb_, hsz_⟩ := hB.re hb_ (unhide hR).cel hR_.cel
      clear hB
      have hgl_ : g < b21.heap.size := by rw [hsz_]; exact hgl
      have hpl_ : p < b21.heap.size := by rw [hsz_]; exact hpl
      have hR2_ := hide (hR_.base hB_.gr hgl_ hpl_)
      clear hR hR_ hcb_ hgl hpl
      have hR := hR2_
      have hgl := hgl_
      have hpl := hpl_
      clear hR2_ hgl_ hpl_
      replace hbt := hide ((unhide hbt).trans hbt_)
      replace hsz := hide (hsz_.trans (unhide hsz))
      have hB := hB_
      clear hbt_ hsz_ hB_ 
      clear hb_
      rw [show (6 + 105 * 4) = 426 from rfl, ← unhide hdl]
      simp only [nrm]
      refine lvk (.pointer (some ⟨g3, 3, none⟩)) ?_
      simp only [nrm]
      have hzz_ : Hid (u16.heap[g3]? = some (.cells (fl [[.int .u32 nx], [.slice la n lc], [.int .i64 q5], [.int .u32 0], [.slice none 0 0]]) 26 (0, 0))) := hide (hB.get 1 (x := ⟨g3, fl [[.int .u32 nx], [.slice la n lc], [.int .i64 q5], [.int .u32 0], [.slice none 0 0]], 26⟩) rfl)
      refine list_c32 (.tmp 55) (.tmp 54) (g3) 3 dl (by kernel_rfl) rfl (by kernel_rfl) (by kernel_rfl) hB 1 rfl NC (nC  _ _ _ _ _) 3 _ rfl rfl ?_
      intro u17 hB_ hbt_
      clear hB
      replace hB : Bl b21 [⟨w.heap.size, fl [[.int .u32 0], [.slice none 0 0], [.int .i64 0], [.int .u32 0], [.slice none 0 0]], 26⟩, ⟨g3, fl [[.int .u32 nx], [.slice la n lc], [.int .i64 q5], [.int .u32 dl], [.slice none 0 0]], 26⟩, ⟨g5, kc X, 69⟩] u17 := hB_
      clear hB_
      replace hL := hide ((unhide hL).bz (unhide hzz_) hbt_)
      clear hbt_ hzz_
      simp only [nrm]
      refine wpList_nil ?_
      replace hB := hide hB
      go_upto_region 20 with fail
      replace hB := unhide hB
      refine wp_region_lit ?_
      refine lvk (.pointer (some ⟨g, 0, none⟩)) ?_
      simp only [nrm]
      refine list_call 62 #[P0 g] (by kernel_rfl) (by kernel_rfl) ((cone_ok g p 590 c (6 + 105 * 4 + 4) L u17 ((unhide hR).gr hB.gr) (by omega) (by omega)).mono ?_)
      rintro r_ u18 ⟨rfl, hR_, hb_⟩
      refine ⟨_, rfl, ?_⟩
      replace hL := hide ((unhide hL).bz ((unhide hR).gr hB.gr).cel hb_)
      obtain ⟨b22, hB_, hbt_, hcb_, hsz_⟩ := hB.re hb_ (unhide hR).cel hR_.cel
      clear hB
      have hgl_ : g < b22.heap.size := by rw [hsz_]; exact hgl
      have hpl_ : p < b22.heap.size := by rw [hsz_]; exact hpl
      have hR2_ := hide (hR_.base hB_.gr hgl_ hpl_)
      clear hR hR_ hcb_ hgl hpl
      have hR := hR2_
      have hgl := hgl_
      have hpl := hpl_
      clear hR2_ hgl_ hpl_
      replace hbt := hide ((unhide hbt).trans hbt_)
      replace hsz := hide (hsz_.trans (unhide hsz))
      have hB := hB_
      clear hbt_ hsz_ hB_ 
      clear hb_
      rw [show L.getD (6 + 105 * 4 + 4) 0 = q9 from (unhide hq9).symm]
      simp only [nrm]
      refine list_val (.int .i64 (m : Int)) (by kernel_rfl) (min_i _ (.tmp 57) (.const (.int .i64 3)) q9 3 rfl (by kernel_rfl) rfl (m : Int) (unhide hmI)) ?_
      simp only [nrm]
      refine lvk (.int .i64 0) ?_
      simp only [nrm]
      refine wpList_nil ?_
      obtain ⟨H, hH⟩ : ∃ H, H = (List.range m).map fun (i : Nat) => inA L (431 + 53 * i) := ⟨_, rfl⟩
      have hHl : H.length = m := by rw [hH]; simp
      have hHat : ∀ i, i < m → H[i]? = some (inA L (431 + 53 * i)) := fun i hi => by rw [hH, List.getElem?_map, List.getElem?_range hi]; rfl
      replace hH := hide hH; replace hHat := hide hHat
      have hI := hide (or_none 2 47 w.heap.size u18)
      replace hB := hide hB
      clear hgl hpl
      go_wp2_with fail
      go_loopw [59] (fun i wr => ∃ (j : Nat) (b : World) (ia : Option Addr) (ic : Nat), j ≤ m ∧ i = .int .i64 (j : Int) ∧ Hid (Rdr g p 590 c (431 + 53 * j) L b) ∧ Hid (Bt g w b) ∧ Hid (b.heap.size = w.heap.size) ∧ Hid (Or_ 106 39 w.heap.size wr (.slice la n lc) ((O.take n).map otr)) ∧ Hid (Or_ 2 47 w.heap.size wr (.slice ia j ic) ((H.take j).map itr)) ∧ Hid (Bl b [⟨w.heap.size, fl [[.int .u32 0], [.slice none 0 0], [.int .i64 0], [.int .u32 0], [.slice none 0 0]], 26⟩, ⟨g3, fl [[.int .u32 nx], [.slice la n lc], [.int .i64 q5], [.int .u32 dl], [.slice ia j ic]], 26⟩, ⟨g5, kc X, 69⟩] wr)) (fun i _ => m - (intOf i).toNat)
      case atStart => exact ⟨0, _, none, 0, by omega, rfl, hR, hbt, hsz, hL, hI, hB⟩
      case round =>
      clear hB hR hbt hsz hL hI
      obtain ⟨j, b, ia, ic, hj, rfl, hR, hbt, hsz, hL, hI, hB⟩ := hrel
      have hB := unhide hB
      have hgl : g < b.heap.size := lt_of_block (unhide hR).cel
      have hpl : p < b.heap.size := (unhide hR).plt (by omega)
      by_cases hlt : j < m
      · have jI : (j : Int) < (m : Int) := by omega
        have hsj := (unhide hHat) j hlt
        have hok := inA_ok (unhide hLB) (431 + 53 * j) (by omega)
        obtain ⟨s, hs⟩ : ∃ s, s = inA L (431 + 53 * j) := ⟨_, rfl⟩
        rw [← hs] at hsj hok
        have etk : (H.take j).map itr ++ [itr s] = (H.take (j + 1)).map itr := by rw [List.take_add_one, hsj]; simp
        replace hs := hide hs; replace hok := hide hok; replace etk := hide etk
        clear hsj
        replace hB := hide hB
        go_upto_region 22 with fail
        replace hB := unhide hB
        refine anyC_start 7 (fun v_ => v_.heap[g3]? = some (.cells (fl [[.int .u32 nx], [.slice la n lc], [.int .i64 q5], [.int .u32 dl], [.slice ia j ic]]) 26 (0, 0))) (by kernel_rfl) ?_
        replace hL := hide ((unhide hL).gr ((Gr.refl wr).drew))
        replace hI := hide ((unhide hI).gr ((Gr.refl wr).drew))
        replace hB := hB.drew
        generalize World.drew _ = u19 at *
        simp only [List.size_toArray, List.length_cons, List.length_nil, Array.replicate, List.replicate]
        refine anyC_take (i := 0) (v := (.pointer (some ⟨g3, 4, none⟩))) (fun v_ => v_.heap[g3]? = some (.cells (fl [[.int .u32 nx], [.slice la n lc], [.int .i64 q5], [.int .u32 dl], [.slice ia j ic]]) 26 (0, 0))) (fun _ h_ => h_) (.inr (by kernel_rfl)) rfl (by kernel_rfl) (by kernel_rfl) (by kernel_rfl) (by decide) (by kernel_rfl) (by decide) (fun _ _ _ h => h) (.inl ⟨by kernel_rfl, fun x_ hu => by kernel_rfl⟩) (hB.get 1 (x := ⟨g3, fl [[.int .u32 nx], [.slice la n lc], [.int .i64 q5], [.int .u32 dl], [.slice ia j ic]], 26⟩) rfl) ?_
        simp only [nrm]
        refine anyC_take (i := 1) (v := (.slice ia j ic)) (fun v_ => v_.heap[g3]? = some (.cells (fl [[.int .u32 nx], [.slice la n lc], [.int .i64 q5], [.int .u32 dl], [.slice ia j ic]]) 26 (0, 0))) (fun _ h_ => h_) (.inr (by kernel_rfl)) rfl (by kernel_rfl) (by kernel_rfl) (by kernel_rfl) (by decide) (by kernel_rfl) (by decide) (fun _ _ _ h => h) (.inl ⟨by kernel_rfl, fun x_ hu => exec_csI _ (.tmp 61) rfl (g3) 4 (by kernel_rfl) ia j ic (seg_cell (nC  _ _ _ _ _) hu 4 (v := .slice ia j ic) rfl rfl)⟩) (hB.get 1 (x := ⟨g3, fl [[.int .u32 nx], [.slice la n lc], [.int .i64 q5], [.int .u32 dl], [.slice ia j ic]], 26⟩) rfl) ?_
        simp only [nrm]
        refine anyC_take (i := 2) (v := (.pointer (some ⟨g, 0, none⟩))) (fun v_ => v_.heap[g3]? = some (.cells (fl [[.int .u32 nx], [.slice la n lc], [.int .i64 q5], [.int .u32 dl], [.slice ia j ic]]) 26 (0, 0))) (fun _ h_ => h_) (.inr (by kernel_rfl)) rfl (by kernel_rfl) (by kernel_rfl) (by kernel_rfl) (by decide) (by kernel_rfl) (by decide) (fun _ _ _ h => h) (.inl ⟨by kernel_rfl, fun x_ hu => by kernel_rfl⟩) (hB.get 1 (x := ⟨g3, fl [[.int .u32 nx], [.slice la n lc], [.int .i64 q5], [.int .u32 dl], [.slice ia j ic]], 26⟩) rfl) ?_
        simp only [nrm]
        refine anyC_one (i := 3) (by kernel_rfl) rfl (fun K hK => ?_)
        refine step_callw (by kernel_rfl) 64 #[P0 g] (by kernel_rfl) ((readin_ok g p 590 c (431 + 53 * j) L (by omega) (by omega) u19 ((unhide hR).gr hB.gr)).mono ?_)
        rintro r u20 ⟨rfl, hR_, hb_⟩
        refine ⟨_, rfl, ?_⟩
        replace hL := hide ((unhide hL).bz ((unhide hR).gr hB.gr).cel hb_)
        replace hI := hide ((unhide hI).bz ((unhide hR).gr hB.gr).cel hb_)
        obtain ⟨b23, hB_, hbt_, hcb_, hsz_⟩ := hB.re hb_ (unhide hR).cel hR_.cel
        clear hB
        have hR2_ := hide (hR_.base hB_.gr (by rw [hsz_]; exact hgl) (by rw [hsz_]; exact hpl))
        clear hR hR_ hcb_ hgl hpl
        have hR := hR2_
        clear hR2_
        replace hbt := hide ((unhide hbt).trans hbt_)
        replace hsz := hide (hsz_.trans (unhide hsz))
        have hB := hB_
        clear hbt_ hsz_ hB_ hb_
        rw [← unhide hs]
        refine hK.out _ _ (hB.get 1 (x := ⟨g3, fl [[.int .u32 nx], [.slice la n lc], [.int .i64 q5], [.int .u32 dl], [.slice ia j ic]], 26⟩) rfl) (fun _ => ?_)
        clear hK K
        simp only [nrm]
        refine anyC_one (i := 4) (by kernel_rfl) rfl (fun K hK => ?_)
        refine step_val (.slice (some ⟨u20.heap.size, 0, none⟩) 1 1) (u20.alloc (.cells (fl [[.int .u32 s.n], [.string s.s]]) 47 (0, 0))) (by kernel_rfl) (exec_bsi _ (.tmp 64) rfl s (by kernel_rfl)) ?_
        have hS := hide (blk_new u20 (.cells (fl [[.int .u32 s.n], [.string s.s]]) 47 (0, 0)))
        have hg := (Gr.refl u20).alloc (.cells (fl [[.int .u32 s.n], [.string s.s]]) 47 (0, 0))
        replace hL := hide ((unhide hL).gr hg)
        replace hI := hide ((unhide hI).gr hg)
        replace hB := hB.more hg
        clear hg
        generalize World.alloc _ _ = u21 at *
        generalize u20.heap.size = gs at *
        refine hK.out _ _ (hB.get 1 (x := ⟨g3, fl [[.int .u32 nx], [.slice la n lc], [.int .i64 q5], [.int .u32 dl], [.slice ia j ic]], 26⟩) rfl) (fun _ => ?_)
        clear hK K
        simp only [nrm]
        refine anyC_one (i := 5) (by kernel_rfl) rfl (fun K hK => ?_)
        rw [if_pos (by kernel_rfl)]
        refine app_row1P ltI (.tmp 62) (.tmp 65) rfl _ ((H.take j).map itr) (by kernel_rfl) w.heap.size (by have h9 := hB.gr.size; have h8 := unhide hsz; omega) (unhide hI) gs 0 1 (itr s) (by kernel_rfl) rfl (range_row (unhide hS)) (itr_one s) (by rw [List.length_map, List.length_take]; omega) ?_
        intro v1 u22 hL1 hgr hwh
        replace hB := hB.grownR (unhide hI) (by have h8 := unhide hsz; omega) hgr (by intro y_ hy_; simp only [List.mem_cons, List.not_mem_nil, or_false] at hy_; rcases hy_ with rfl | rfl | rfl <;> (dsimp only; decide))
        replace hL := hide (or_grown (unhide hL) (unhide hI) hgr (by decide))
        clear hI hgr hwh hS
        rw [unhide etk] at hL1
        obtain ⟨l8, c8, rfl, hls8⟩ := hL1.lz
        clear hls8
        have e2 : ((H.take (j + 1)).map itr).length = j + 1 := by rw [List.length_map, List.length_take]; omega
        rw [e2] at hL1 ⊢
        have hI := hide hL1
        clear hL1 e2
        refine hK.out _ _ (hB.get 1 (x := ⟨g3, fl [[.int .u32 nx], [.slice la n lc], [.int .i64 q5], [.int .u32 dl], [.slice ia j ic]], 26⟩) rfl) (fun _ => ?_)
        clear hK K
        simp only [nrm]
        refine anyC_take (i := 6) (v := (.pointer (some ⟨g3, 4, none⟩))) (fun v_ => v_.heap[g3]? = some (.cells (fl [[.int .u32 nx], [.slice la n lc], [.int .i64 q5], [.int .u32 dl], [.slice ia j ic]]) 26 (0, 0))) (fun _ h_ => h_) (.inr (by kernel_rfl)) rfl (by kernel_rfl) (by kernel_rfl) (by kernel_rfl) (by decide) (by kernel_rfl) (by decide) (fun _ _ _ h => h) (.inl ⟨by kernel_rfl, fun x_ hu => by kernel_rfl⟩) (hB.get 1 (x := ⟨g3, fl [[.int .u32 nx], [.slice la n lc], [.int .i64 q5], [.int .u32 dl], [.slice ia j ic]], 26⟩) rfl) ?_
        simp only [nrm]
        refine anyC_last (by kernel_rfl) rfl (fun K hK => ?_)
        have hzz_ : Hid (u22.heap[g3]? = some (.cells (fl [[.int .u32 nx], [.slice la n lc], [.int .i64 q5], [.int .u32 dl], [.slice ia j ic]]) 26 (0, 0))) := hide (hB.get 1 (x := ⟨g3, fl [[.int .u32 nx], [.slice la n lc], [.int .i64 q5], [.int .u32 dl], [.slice ia j ic]], 26⟩) rfl)
        refine step_csI (.tmp 67) (.tmp 66) (g3) 4 l8 (j + 1) c8 (by kernel_rfl) rfl (by kernel_rfl) (by kernel_rfl) hB 1 rfl NC (nC  _ _ _ _ _) 4 _ rfl rfl ?_
        intro u23 hB_ hbt_
        clear hB
        replace hB : Bl b23 [⟨w.heap.size, fl [[.int .u32 0], [.slice none 0 0], [.int .i64 0], [.int .u32 0], [.slice none 0 0]], 26⟩, ⟨g3, fl [[.int .u32 nx], [.slice la n lc], [.int .i64 q5], [.int .u32 dl], [.slice l8 (j + 1) c8]], 26⟩, ⟨g5, kc X, 69⟩] u23 := hB_
        clear hB_
        replace hL := hide ((unhide hL).bz (unhide hzz_) hbt_)
        replace hI := hide ((unhide hI).bz (unhide hzz_) hbt_)
        clear hbt_ hzz_
        refine hK.out _ _ ?_
        clear hK K
        simp only [nrm]
        refine any_done (by kernel_rfl) ?_
        have jw : IntKind.i64.wrap ((j : Int) + 1) = (j : Int) + 1 := by rw [IntKind.wrap_i64]; omega
        replace hB := hide hB
        clear hs hok etk
        replace hR := hide (show Rdr g p 590 c (431 + 53 * (j + 1)) L _ from by have h := unhide hR; rwa [show 431 + 53 * j + 53 = 431 + 53 * (j + 1) from by omega] at h)
        go_wp2_with fail
        go_roundw
        case rel => exact ⟨j + 1, _, l8, c8, by omega, by simp, hR, hbt, hsz, hL, hI, hB⟩
        case measure => simp [intOf]; omega
      · have jI : ¬ (j : Int) < (m : Int) := by omega
        have hjm : j = m := by omega
        rw [hjm] at hI hB
        clear hjm
        rw [List.take_of_length_le (Nat.le_of_eq hHl)] at hI
        have hCr : rdC L = ⟨nx, O.take n, q5, dl, H⟩ := by
          unfold rdC rdN rdM
          rw [← unhide hnx, ← unhide hq4, ← unhide hq5, ← unhide hq9, ← unhide hdl, ← unhide hn, ← unhide hm, ← unhide hO, ← unhide hH]
        replace hCr := hide hCr
        replace hB := hide hB
        go_upto_region 24 with fail
        replace hB := unhide hB
        refine wp_region_lit ?_
        refine list_val (.agg (fl [[.int .u32 nx], [.slice la n lc], [.int .i64 q5], [.int .u32 dl], [.slice ia m ic]])) (by kernel_rfl) (exec_sw _ 26 (.tmp 3) rfl (g3) (by kernel_rfl) (hB.get 1 (x := ⟨g3, fl [[.int .u32 nx], [.slice la n lc], [.int .i64 q5], [.int .u32 dl], [.slice ia m ic]], 26⟩) rfl) NC (nC  _ _ _ _ _) Try.underlying26 rfl (by kernel_rfl)) ?_
        simp only [nrm]
        have hzz_ : Hid (wr.heap[w.heap.size]? = some (.cells (fl [[.int .u32 0], [.slice none 0 0], [.int .i64 0], [.int .u32 0], [.slice none 0 0]]) 26 (0, 0))) := hide (hB.get 0 (x := ⟨w.heap.size, fl [[.int .u32 0], [.slice none 0 0], [.int .i64 0], [.int .u32 0], [.slice none 0 0]], 26⟩) rfl)
        refine list_all 26 (.tmp 2) (.tmp 69) (w.heap.size) (S2 := [[.int .u32 nx], [.slice la n lc], [.int .i64 q5], [.int .u32 dl], [.slice ia m ic]]) (by kernel_rfl) rfl (by kernel_rfl) (by kernel_rfl) hB 0 rfl NC (nC  _ _ _ _ _) (nC  _ _ _ _ _) (by kernel_rfl) (oC  rfl rfl rfl rfl rfl) ?_
        intro u24 hB_ hbt_
        clear hB
        replace hB : Bl b [⟨w.heap.size, fl [[.int .u32 nx], [.slice la n lc], [.int .i64 q5], [.int .u32 dl], [.slice ia m ic]], 26⟩, ⟨g3, fl [[.int .u32 nx], [.slice la n lc], [.int .i64 q5], [.int .u32 dl], [.slice ia m ic]], 26⟩, ⟨g5, kc X, 69⟩] u24 := hB_
        clear hB_
        replace hL := hide ((unhide hL).bz (unhide hzz_) hbt_)
        replace hI := hide ((unhide hI).bz (unhide hzz_) hbt_)
        clear hbt_ hzz_
        simp only [nrm]
        refine wpList_nil ?_
        replace hB := hide hB
        go_wp2_with fail
        replace hB := unhide hB
        rw [unhide hT]
        rw [unhide hCr]
        exact bodyPost_ret (v := .agg (fl [[.int .u32 nx], [.slice la n lc], [.int .i64 q5], [.int .u32 dl], [.slice ia m ic]])) (res1 Try.results45 (rv_cell (by kernel_rfl) (hB.get 0 (x := ⟨w.heap.size, fl [[.int .u32 nx], [.slice la n lc], [.int .i64 q5], [.int .u32 dl], [.slice ia m ic]], 26⟩) rfl) Try.underlying26 rfl (by rw [fl_size (nC  _ _ _ _ _)]; kernel_rfl))) rfl (⟨⟨la, n, lc, ia, m, ic⟩, rfl, ⟨unhide hL, unhide hI⟩, (unhide hbt).trans (hB.gr.bt g)⟩)
end Go.Proofs.Ytcefkkoombmndaa
