/-
  Of layer 15: what the proof leans on.
-/
import Derived.Test.YtgabkfleidpipaaDoorRows
import Derived.ProofKit
import Derived.OpenShut
import Derived.ChangeOld
import Derived.ChangeSame
import Derived.SizedLaws
import Derived.Deep.Strs
import Derived.Deep.Grids
import Derived.Lib.SmallJoins
import Derived.Test.YtgabkfleidpipaaDoorYK8
import Derived.Test.YtgabkfleidpipaaDoorVBitsMath
namespace Go.Proofs.YtgabkfleidpipaaDoor
open Go.RowKit
set_option maxRecDepth 100000
set_option linter.unusedSimpArgs false
set_option linter.unusedVariables false
def bv (b : List Int) : List Value := b.map (Value.int .u8)
theorem bv_len (b : List Int) : (bv b).length = b.length := by unfold bv; simp
structure Ls (k : Nat) (w : World) (a : Option Addr) (n c : Nat) (R : List (List Value)) : Prop where
  len : R.length = n
  row : ∀ r ∈ R, r.length = k
  sl : R = [] ∨ ∃ p o, a = some ⟨p, o, none⟩ ∧ w.rangeAt p o R.flatten
  cap : n ≤ c
  max : c < 9223372036854775808
  low : ∀ p, a.map (·.block) = some p → p < w.heap.size
def Or_ (k : Nat) (e : TypeId) (b : Nat) (w : World) (v : Value) (R : List (List Value)) : Prop := (∀ r ∈ R, r.length = k) ∧ w.ownsRow b e k v R.length R.flatten
theorem ownsRow_gr {k : Nat} {e : TypeId} {b : Nat} {w u : World} {v : Value} {n : Nat} {xs : List Value} (h : w.ownsRow b e k v n xs) (g : Gr w u) : u.ownsRow b e k v n xs := by
  obtain ⟨h1, h2 | ⟨p, cap, cur, h2, h3, h4, h5⟩⟩ := h
  · exact ⟨h1, .inl h2⟩
  · exact ⟨h1, .inr ⟨p, cap, cur, h2, h3, g.blk h4, h5⟩⟩
theorem Or_.gr {k : Nat} {e : TypeId} {b : Nat} {w u : World} {v : Value} {R : List (List Value)} (h : Or_ k e b w v R) (g : Gr w u) : Or_ k e b u v R := ⟨h.1, ownsRow_gr h.2 g⟩
theorem flat_len : ∀ (R : List (List Value)) (k : Nat), (∀ r ∈ R, r.length = k) → R.flatten.length = R.length * k
  | [], _, _ => by simp
  | r :: R, k, h => by
    have h1 := h r List.mem_cons_self
    have ih := flat_len R k (fun x hx => h x (List.mem_cons_of_mem _ hx))
    rw [List.flatten_cons, List.length_append, ih, h1, List.length_cons, Nat.add_mul]
    omega
theorem Or_.ls {k : Nat} {e : TypeId} {b : Nat} {w : World} {v : Value} {R : List (List Value)} (h : Or_ k e b w v R) : ∃ a c, v = .slice a R.length c ∧ Ls k w a R.length c R := by
  rcases h.2.2 with ⟨h1, h2⟩ | ⟨g, cap, cur, h1, h2, h3, h4, h5, h6, h7⟩
  · have e : R = [] := List.eq_nil_of_length_eq_zero h2
    subst e
    exact ⟨none, 0, h1, rfl, (fun r hr => by cases hr), .inl rfl, Nat.le_refl _, by omega, (fun p e => by cases e)⟩
  · refine ⟨_, cap, h1, rfl, h.1, .inr ⟨g, 0, rfl, fun j x hj => ?_⟩, h4, by unfold maxLen at h5; omega, fun p e => by have e3 := Option.some.inj e; rw [← e3]; exact lt_of_block h3⟩
    rw [Nat.zero_add]
    refine cell_of h3 ?_
    rw [← Array.getElem?_toList]
    have hjl := (List.getElem?_eq_some_iff.1 hj).1
    rw [h.2.1] at hjl
    rw [← h7, List.getElem?_take, if_pos hjl] at hj
    exact hj
theorem grown_owned {k : Nat} {e : TypeId} {b : Nat} {w u u' : World} {v : Value} {n : Nat} {xs : List Value} (h : u.ownsRow b e k v n xs) (hb : w.heap.size ≤ b) (g : Gr w u) (k : u.grownBy u' v.ownBlock) : Gr w u' := by
  refine ⟨k.os.trans g.os, k.tape.trans g.tape, k.output.trans g.output, Nat.le_trans g.size k.size, fun i hi => (k.block i (Nat.lt_of_lt_of_le hi g.size) ?_).trans (g.block i hi)⟩
  intro e
  have := (World.ownsRow.lt h i e.symm).1
  omega
structure Lt (t e : TypeId) (k n : Nat) : Prop where
  ht : Tryd.prog.underlying t = some (.slice e)
  hi : ∃ i z, Tryd.prog.info? e = some i ∧ i.zero = some z ∧ i.size = k ∧ i.bytes = n ∧ z.cells.size = k
  hk : 0 < k
  hn : n ≤ 100
theorem app_rows0 {t e : TypeId} {k nb : Nat} (L : Lt t e k nb) {w : World} {o : Oper} {a : Act} {K : Act → World → Prop} {Q : Exit → Act → World → Prop} (s x : Operand)
    (ho : o.op = .call { callee := .builtin .append, args := #[s, x], argTypes := #[t, t] }) (b : Nat) (v : Value) (R : List (List Value)) (hs : a.eval s = v) (hown : Or_ k e b w v R)
    (sp : Option Addr) (n sc : Nat) (l : List (List Value)) (hx : a.eval x = .slice sp n sc) (hn : l.length = n) (hrow : ∀ r ∈ l, r.length = k) (hsl : l = [] ∨ ∃ p o, sp = some ⟨p, o, none⟩ ∧ w.rangeAt p o l.flatten) (h1 : ∀ r ∈ l, ∀ u ∈ r, u.oneCell' = true) (hbig : ((R.length + n) + (R.length + n) / 4 + 192) * nb ≤ 281474976710656 ∧ R.length + n ≤ 4611686018427387904) (hB : b ≤ w.heap.size)
    (h : ∀ v' w', Or_ k e b w' v' (R ++ l) → w.grownBy w' v.ownBlock → K (a.put o.dst v') w') : o.wp Tryd.prog a w K Q := by
  obtain ⟨i0, z0, hi, hz0, hz1, hz2, hz3⟩ := L.hi
  have hnb := L.hn
  rcases hsl with rfl | ⟨p, q, rfl, hat⟩
  · obtain rfl : 0 = n := hn
    obtain ⟨a', c', rfl, hls⟩ := hown.ls
    have hc := hls.cap
    have hrun : (Builtin.append_ #[t, t] o.type #[.slice a' R.length c', .slice sp 0 sc]).run Tryd.prog w = .ok (.slice a' R.length c') w := by
      cases a' <;> cases sp <;> simp [Builtin.append_, run_underlying L.ht, sizeOf, typeInfo, hi, Builtin.lenOf, Builtin.firstCells, loadCells, loadCellsFrom, storeCells, hc]
    unfold Oper.wp
    simp [execOp, ho, resolve, invoke, builtin, hs, hx, hrun, Result.andThen]
    exact h _ _ (by rw [List.append_nil]; exact hown) (World.grownBy.refl _ _)
  · have hfl := flat_len l k hrow
    refine wp_append_own_wide w s x t ho b e i0 z0 k nb L.ht hi hz0 hz1 hz2 hz3 L.hk v R.length _ hs hown.2 ⟨p, q, none⟩ n sc l.flatten hx (by rw [hfl, hn]) ?_ ?_ (by unfold maxLen; omega) hbig.1 hB ?_
    · intro j u hj
      rw [Addr.add_mid]
      exact hat j u hj
    · intro u hu
      obtain ⟨r, hr, hu⟩ := List.mem_flatten.1 hu
      exact h1 r hr u hu
    · intro v' w' h1 h2 _
      refine h v' w' ⟨?_, ?_⟩ h2
      · intro r hr
        rcases List.mem_append.1 hr with hr | hr
        · exact hown.1 r hr
        · exact hrow r hr
      · rw [List.length_append, List.flatten_append, hn]
        exact h1
theorem lt_k : Lt 23 34 32 32 := by
  obtain ⟨i, h1, h2, h3, h4⟩ := info_parts Tryd.infoKz
  exact ⟨Tryd.underlying23, ⟨i, _, h1, h2, h3, h4, rfl⟩, by decide, by decide⟩
def roadv (r : Int) (a : Option Addr) (n c : Nat) (b : Option Addr) (m d : Nat) (p : Option Addr) (i e : Nat) (q : Option Addr) (k l : Nat) : Array Value := #[.int .u64 r, .slice a n c, .slice b m d, .slice p i e, .slice q k l]
theorem exec_ks {op : Oper} {a : Act} (w : World) (x : Operand) (ho : op.op = .load 23 x) (g i : Nat) (hx : a.eval x = .pointer (some ⟨g, i, none⟩)) (s : Option Addr) (n c : Nat) (hc : w.cell? ⟨g, i, none⟩ = some (.slice s n c)) : (execOp a.eval op).run Tryd.prog w = .ok (.value (.slice s n c)) w := by
  unfold execOp
  simp only [ho, hx, Instr.loadAt, Instr.sureAddr, Sem.run_bind, Sem.run_pure, Result.andThen_ok]
  go_simp
theorem exec_uptok {a : Act} {o : Oper} (w : World) (x y : Operand) (ho : o.op = .slice 23 x none (some y) none) (s : Option Addr) (len cap n : Nat) (hx : a.eval x = .slice s len cap) (hy : a.eval y = .int .i64 n) (hc : len ≤ cap) (hn : n ≤ len) :
    (execOp a.eval o).run Tryd.prog w = .ok (.value (.slice s n cap)) w := by
  have h1 : (0 : Int) ≤ n := by omega
  have h2 : (n : Int) ≤ cap := by omega
  have hu : Tryd.prog.underlying 23 = some (.slice (Tryd.prog.elem 23)) := by kernel_rfl
  have hz : (sizeOf (Tryd.prog.elem 23)).run Tryd.prog w = .ok 32 w := by kernel_rfl
  have e : (if cap = 0 then s else s.map (·.add 0)) = s := by cases s <;> simp [Addr.add]
  simp [execOp, ho, hx, hy, run_sliceAt_slice _ _ _ _ _ _ hu, run_slice_h _ _ _ _ _ hu _ _ h1 h2, hz, sliced, e]
theorem exec_min3 {a : Act} {o : Oper} (w : World) (x y : Operand) (ho : o.op = .call { callee := .builtin .min, args := #[x, y, .const (.int .i64 3)], argTypes := #[3, 3, 3] }) (n m N : Nat) (hx : a.eval x = .int .i64 n) (hy : a.eval y = .int .i64 m) (hN : N = min (min n m) 3) :
    (execOp a.eval o).run Tryd.prog w = .ok (.value (.int .i64 (N : Int))) w := by
  have hz : a.eval (.const (.int .i64 3)) = .int .i64 3 := rfl
  simp [execOp, ho, resolve, invoke, builtin, hx, hy, hz, Builtin.min_, Builtin.min2]
  repeat' split
  all_goals omega
theorem flat_take : ∀ (S : List (List Int)) (N : Nat), (∀ k ∈ S, IsK k) → (S.take N).flatten = S.flatten.take (32 * N)
  | [], N, _ => by simp
  | k :: S, 0, _ => by simp
  | k :: S, N + 1, h => by
    have h1 := (h k (by simp)).1
    have h2 := flat_take S N (fun x hx => h x (by simp [hx]))
    rw [List.take_succ_cons, List.flatten_cons, List.flatten_cons, h2, List.take_append, h1, show 32 * (N + 1) - 32 = 32 * N by omega, List.take_of_length_le (l := k) (by omega)]
theorem Kw.take {w : World} {a : Option Addr} {n c N : Nat} {S : List (List Int)} (h : Kw w a n c S) (hN : N ≤ n) : Kw w a N c (S.take N) := by
  have hl := h.len
  refine ⟨by rw [List.length_take]; omega, fun k hk => h.ok k (List.mem_of_mem_take hk), ?_, Nat.le_trans hN h.cap, h.max⟩
  rcases h.sl with h1 | ⟨p, o, h1, h2⟩
  · left
    rw [h1]
    simp
  · right
    refine ⟨p, o, h1, ?_⟩
    rw [flat_take S N h.ok]
    exact h2.take _
theorem map_bv_flat (Q : List (List Int)) : (Q.map bv).flatten = Q.flatten.map (Value.int .u8) := by
  rw [List.map_flatten]
  rfl
theorem rg_at {w : World} {p o : Nat} {L : List Int} (h : w.rangeAt p o (L.map (Value.int .u8))) : At w p o L := fun j hj => by
  refine h j _ ?_
  rw [List.getElem?_map, List.getElem?_eq_getElem hj, List.getD_eq_getElem?_getD, List.getElem?_eq_getElem hj]
  rfl
theorem at_rg {w : World} {p o : Nat} {L : List Int} (h : At w p o L) : w.rangeAt p o (L.map (Value.int .u8)) := fun j x hj => by
  rw [List.getElem?_map] at hj
  obtain ⟨y, hy, rfl⟩ := Option.map_eq_some_iff.1 hj
  obtain ⟨hl, e⟩ := List.getElem?_eq_some_iff.1 hy
  have h1 := h j hl
  rw [List.getD_eq_getElem?_getD, hy] at h1
  exact h1
theorem kw_or {b : Nat} {w : World} {v : Value} {Q : List (List Int)} (h : Or_ 32 34 b w v (Q.map bv)) (hQ : ∀ k ∈ Q, IsK k) : ∃ a c, v = .slice a Q.length c ∧ Kw w a Q.length c Q := by
  obtain ⟨a, c, h1, h2⟩ := h.ls
  rw [List.length_map] at h1 h2
  refine ⟨a, c, h1, rfl, hQ, ?_, h2.cap, ?_⟩
  · rcases h2.sl with h3 | ⟨p, o, h3, h4⟩
    · left
      simpa using h3
    · right
      refine ⟨p, o, h3, rg_at ?_⟩
      rw [← map_bv_flat]
      exact h4
  · have := h2.max
    omega
theorem exec_min2 {a : Act} {o : Oper} (w : World) (x y : Operand) (ho : o.op = .call { callee := .builtin .min, args := #[x, y], argTypes := #[3, 3] }) (n m N : Nat) (hx : a.eval x = .int .i64 n) (hy : a.eval y = .int .i64 m) (hN : N = min n m) :
    (execOp a.eval o).run Tryd.prog w = .ok (.value (.int .i64 (N : Int))) w := by
  simp [execOp, ho, resolve, invoke, builtin, hx, hy, Builtin.min_, Builtin.min2]
  repeat' split
  all_goals omega
def Hpd (Q O : List (List Int)) (N : Nat) (w : World) (r : Ending) (w' : World) : Prop := ∃ a c b d, r = .returned (.tuple #[.slice a N c, .slice b N d]) ∧ Kw w' a N c Q ∧ Kw w' b N d O ∧ Gr w w'
theorem take_snocL (Q : List (List Int)) (j : Nat) (h : j < Q.length) : Q.take (j + 1) = Q.take j ++ [Q.getD j []] := by
  rw [List.take_add_one, List.getElem?_eq_getElem h, List.getD_eq_getElem?_getD, List.getElem?_eq_getElem h]
  rfl
set_option maxHeartbeats 4000000 in
theorem rhops_ok (r : Int) (a : Option Addr) (n c : Nat) (b : Option Addr) (m d : Nat) (p : Option Addr) (i e : Nat) (q : Option Addr) (k l : Nat) (S O : List (List Int)) (N : Nat) (hN : N = min (min n m) 3) (w : World) (lk : Kw w a n c S) (lo : Kw w b m d O) : Calls Tryd.prog 7 #[.agg (roadv r a n c b m d p i e q k l)] w (Hpd ((S.take N).map pubL) (O.take N) N w) := by
  obtain ⟨T, hT⟩ : ∃ T, T = Hpd ((S.take N).map pubL) (O.take N) N w := ⟨_, rfl⟩
  rw [← hT]
  replace hT := hide hT
  have hNn : N ≤ n := by omega
  have hNm : N ≤ m := by omega
  have hN3 : N ≤ 3 := by omega
  have hnc := lk.cap
  have hmd := lo.cap
  have hcx := lk.max
  obtain ⟨Q, hQ⟩ : ∃ Q, Q = (S.take N).map pubL := ⟨_, rfl⟩
  have hQl : Q.length = N := by rw [hQ, List.length_map, List.length_take, lk.len]; omega
  have hQk : ∀ k ∈ Q, IsK k := by
    intro k hk
    rw [hQ] at hk
    obtain ⟨z, _, rfl⟩ := List.mem_map.1 hk
    exact pubL_isK z
  have hQg : ∀ j, j < N → Q.getD j [] = pubL ((S.take N).getD j []) := by
    intro j hj
    have h1 : j < (S.take N).length := by rw [List.length_take, lk.len]; omega
    rw [hQ, List.getD_eq_getElem?_getD, List.getElem?_map, List.getElem?_eq_getElem h1, List.getD_eq_getElem?_getD, List.getElem?_eq_getElem h1]
    rfl
  replace lk := lk.take hNn
  replace lo := lo.take hNm
  obtain ⟨SN, hSN⟩ : ∃ X, X = S.take N := ⟨_, rfl⟩
  obtain ⟨ON, hON⟩ : ∃ X, X = O.take N := ⟨_, rfl⟩
  rw [← hSN] at lk hQg
  rw [← hON] at lo
  obtain ⟨SR, hSR⟩ : ∃ S, S = roadv r a n c b m d p i e q k l := ⟨_, rfl⟩
  rw [← hSR]
  replace hSR := hide hSR
  replace hN := hide hN
  replace lk := hide lk
  replace lo := hide lo
  replace hQ := hide hQ
  replace hQl := hide hQl
  replace hQk := hide hQk
  replace hQg := hide hQg
  replace hSN := hide hSN
  replace hON := hide hON
  go_enter Tryd.func7, Tryd.ntmps7
  go_upto_region 1 with fail
  have hB := (Bl.nil w).new SR 26
  simp only [List.nil_append] at hB
  generalize World.alloc _ _ = u at *
  rw [unhide hSR] at hB
  replace hB : Bl w [⟨w.heap.size, roadv r a n c b m d p i e q k l, 26⟩] u := hB
  refine wp_region_lit ?_
  refine list_val (.pointer (some ⟨w.heap.size, 1, none⟩)) (by kernel_rfl) (by kernel_rfl) ?_
  simp only [nrm]
  refine list_val (.slice a n c) (by kernel_rfl) (exec_ks _ (.tmp 8) rfl (w.heap.size) 1 (by kernel_rfl) a n c (cell_of (hB.get 0 (x := ⟨w.heap.size, roadv r a n c b m d p i e q k l, 26⟩) rfl) (i := 1) rfl)) ?_
  simp only [nrm]
  refine list_val (.int .i64 (n : Int)) (by kernel_rfl) (by kernel_rfl) ?_
  simp only [nrm]
  refine list_val (.pointer (some ⟨w.heap.size, 2, none⟩)) (by kernel_rfl) (by kernel_rfl) ?_
  simp only [nrm]
  refine list_val (.slice b m d) (by kernel_rfl) (exec_ks _ (.tmp 11) rfl (w.heap.size) 2 (by kernel_rfl) b m d (cell_of (hB.get 0 (x := ⟨w.heap.size, roadv r a n c b m d p i e q k l, 26⟩) rfl) (i := 2) rfl)) ?_
  simp only [nrm]
  refine list_val (.int .i64 (m : Int)) (by kernel_rfl) (by kernel_rfl) ?_
  simp only [nrm]
  refine list_val (.int .i64 (N : Int)) (by kernel_rfl) (exec_min3 _ (.tmp 10) (.tmp 13) rfl n m N (by kernel_rfl) (by kernel_rfl) (unhide hN)) ?_
  simp only [nrm]
  (refine wpList_step fun K hK => ?_; replace hK := hide hK; go_simp; refine unhide hK _ _ ?_; clear hK K)
  refine wpList_nil ?_
  replace hB := hide hB
  go_upto_region 3 with fail
  replace hB := unhide hB
  refine wp_region_lit ?_
  refine list_val (.pointer (some ⟨w.heap.size, 1, none⟩)) (by kernel_rfl) (by kernel_rfl) ?_
  simp only [nrm]
  refine list_val (.slice a n c) (by kernel_rfl) (exec_ks _ (.tmp 15) rfl (w.heap.size) 1 (by kernel_rfl) a n c (cell_of (hB.get 0 (x := ⟨w.heap.size, roadv r a n c b m d p i e q k l, 26⟩) rfl) (i := 1) rfl)) ?_
  simp only [nrm]
  refine list_val (.int .i64 (N : Int)) (by kernel_rfl) (by kernel_rfl) ?_
  simp only [nrm]
  refine list_val (.slice a N c) (by kernel_rfl) (exec_uptok _ (.tmp 16) (.tmp 17) rfl a n c N (by kernel_rfl) (by kernel_rfl) hnc hNn) ?_
  simp only [nrm]
  refine list_val (.int .i64 (N : Int)) (by kernel_rfl) (by kernel_rfl) ?_
  simp only [nrm]
  refine list_val (.int .i64 0) (by kernel_rfl) (by kernel_rfl) ?_
  simp only [nrm]
  refine wpList_nil ?_
  have hI0 : Hid (Or_ 32 34 u.heap.size u (.slice none 0 0) ((Q.take 0).map bv) ∧ Gr u u) := ⟨⟨by simp, by simp, .inl ⟨rfl, rfl⟩⟩, Gr.refl u⟩
  replace hB := hide hB
  go_wp2_with fail
  go_loopw [5, 20] (fun v i wr => ∃ (j : Nat) (v' : Value), j ≤ N ∧ v' = v ∧ i = .int .i64 (j : Int) ∧ Hid (Or_ 32 34 u.heap.size wr v' ((Q.take j).map bv) ∧ Gr u wr)) (fun _ i _ => N - (intOf i).toNat)
  case atStart => exact ⟨0, _, by omega, rfl, rfl, hI0⟩
  case round =>
  clear hI0
  obtain ⟨j, v', hj, rfl, rfl, hA⟩ := hrel
  obtain ⟨hO, hG⟩ := unhide hA
  clear hA
  by_cases hlt : j < N
  · skip
    have jI : (j : Int) < (N : Int) := by omega
    have hjQ : j < Q.length := by rw [unhide hQl]; exact hlt
    obtain ⟨hkl, hkb⟩ := (unhide lk).key j hlt
    obtain ⟨p0, q0, ea, hrg⟩ := ((unhide lk).gr ((unhide hB).gr.trans hG)).row j hlt
    have hgj := unhide hQg j hlt
    have hts := take_snocL Q j hjQ
    obtain ⟨KJ, hKJ⟩ : ∃ K, K = SN.getD j [] := ⟨_, rfl⟩
    rw [← hKJ] at hkl hkb hrg hgj
    rw [hgj] at hts
    clear hKJ hgj
    replace hO := hide hO; replace hG := hide hG; replace hrg := hide hrg; replace hkb := hide hkb; replace ea := hide ea; replace hts := hide hts
    go_upto_region 5 with fail
    refine wp_region_lit ?_
    refine list_val (.pointer (some ⟨p0, q0 + 32 * j, none⟩)) (by kernel_rfl) (exec_iks _ (.tmp 18) (.tmp 20) rfl p0 q0 N c j (by rw [← unhide ea]; kernel_rfl) (by kernel_rfl) hlt) ?_
    simp only [nrm]
    refine list_val (.agg (kc KJ)) (by kernel_rfl) (exec_kr _ (.tmp 22) rfl p0 (q0 + 32 * j) (by kernel_rfl) KJ hkl (unhide hrg)) ?_
    simp only [nrm]
    refine list_valw (.pointer (some ⟨wr.heap.size, 0, none⟩)) (wr.alloc (.cells (kc ZK) 34 (0, 0))) (by kernel_rfl) (by kernel_rfl) ?_
    have hC := (Bl.nil wr).new (kc ZK) 34
    simp only [List.nil_append] at hC
    generalize World.alloc _ _ = y1 at *
    generalize wr.heap.size = gk at *
    replace hC : Bl wr [⟨gk, kc ZK, 34⟩] y1 := hC
    simp only [nrm]
    refine list_store 34 (.tmp 7) (.tmp 23) gk (kc KJ) 34 (kc ZK) (by kernel_rfl) rfl (by kernel_rfl) (by kernel_rfl) (hC.get 0 (x := ⟨gk, kc ZK, 34⟩) rfl) (by rw [Tryd.infoKey, kc_size, hkl]) (by rw [kc_size, kc_size, hkl]; rfl) (kc_one _) ?_
    replace hC := hC.set 0 (x := ⟨gk, kc ZK, 34⟩) rfl (kc KJ)
    simp only [List.set_cons_zero] at hC
    generalize World.setRow _ _ _ = y2 at *
    replace hC : Bl wr [⟨gk, kc KJ, 34⟩] y2 := hC
    simp only [nrm]
    refine wpList_nil ?_
    replace hC := hide hC
    go_upto_region 6 with fail
    replace hC := unhide hC
    refine wp_region_lit ?_
    refine list_val v' (by kernel_rfl) (by kernel_rfl) ?_
    simp only [nrm]
    refine list_val (.agg (kc KJ)) (by kernel_rfl) (exec_arr _ 34 (.tmp 7) rfl (gk) (by kernel_rfl) (kc KJ) 34 _ (hC.get 0 (x := ⟨gk, kc KJ, 34⟩) rfl) Tryd.underlying34 rfl (by rw [Tryd.infoKey, kc_size, hkl])) ?_
    simp only [nrm]
    refine list_call 13 #[.agg (kc KJ)] (by kernel_rfl) (by kernel_rfl) ((public_is KJ ⟨hkl, unhide hkb⟩ y2).mono ?_)
    rintro r_ y3 ⟨rfl, hg⟩
    obtain ⟨PU, hPU⟩ : ∃ P, P = pubL KJ := ⟨_, rfl⟩
    have hPl : PU.length = 32 := by rw [hPU]; exact (pubL_isK _).1
    rw [← hPU]
    rw [← hPU] at hts
    clear hPU
    replace hC := hC.more hg
    clear hg
    refine ⟨_, rfl, ?_⟩
    simp only [nrm]
    refine list_valw (.slice (some ⟨y3.heap.size, 0, none⟩) 1 1) (y3.alloc (.cells (kc PU) 34 (0, 0))) (by kernel_rfl) (exec_bk1 _ (.tmp 26) rfl PU hPl (by kernel_rfl)) ?_
    have hb4 : (y3.alloc (.cells (kc PU) 34 (0, 0))).heap[y3.heap.size]? = some (.cells (kc PU) 34 (0, 0)) := blk_new _ _
    have hg4 := hC.gr.trans ((Gr.refl y3).alloc (.cells (kc PU) 34 (0, 0)))
    clear hC
    generalize World.alloc _ _ = y4 at *
    generalize y3.heap.size = gb at *
    simp only [nrm]
    refine wpList_step fun K_ hQ_ => ?_
    rw [if_pos (by kernel_rfl)]
    refine app_rows0 lt_k (.tmp 24) (.tmp 27) rfl u.heap.size _ ((Q.take j).map bv) (by kernel_rfl) ((unhide hO).gr hg4) (some ⟨gb, 0, none⟩) 1 1 [bv PU] (by kernel_rfl) rfl (by intro x hx; rw [List.mem_singleton.1 hx, bv_len, hPl]) (.inr ⟨gb, 0, rfl, by
      simp only [List.flatten_cons, List.flatten_nil, List.append_nil]
      exact at_rg (kc_at hb4)⟩) (by intro x hx; rw [List.mem_singleton.1 hx]; intro z hz; obtain ⟨y, _, rfl⟩ := List.mem_map.1 hz; rfl) (by rw [List.length_map, List.length_take, unhide hQl]; omega) ((unhide hG).trans hg4).size ?_
    intro v4 x4 hO4 hgr
    have hI2 : Hid (Or_ 32 34 u.heap.size x4 v4 ((Q.take (j + 1)).map bv) ∧ Gr u x4) := by
      refine ⟨?_, grown_owned ((unhide hO).gr hg4).2 (Nat.le_refl _) ((unhide hG).trans hg4) hgr⟩
      rw [unhide hts, List.map_append]
      exact hO4
    clear hO4 hgr hO hG hg4 hb4
    refine hQ_ _ _ ?_
    clear hQ_ K_
    simp only [nrm]
    (refine wpList_step fun K hK => ?_; replace hK := hide hK; go_simp; refine unhide hK _ _ ?_; clear hK K)
    refine wpList_nil ?_
    have ej : IntKind.i64.wrap ((j : Int) + 1) = ((j + 1 : Nat) : Int) := by rw [IntKind.wrap_i64]; omega
    go_wp2_with fail
    go_roundw
    case rel => exact ⟨j + 1, _, by omega, rfl, by go_num, hI2⟩
    case measure => simp [intOf]; omega
  · skip
    obtain rfl : j = N := by omega
    have jI : ¬ (j : Int) < (j : Int) := by omega
    rw [List.take_of_length_le (by rw [unhide hQl]; exact Nat.le_refl _)] at hO
    obtain ⟨a5, c5, rfl, hK5⟩ := kw_or hO (unhide hQk)
    rw [unhide hQl] at hK5 ⊢
    replace hB := (unhide hB).more hG
    clear hO hG
    replace hK5 := hide hK5
    replace hB := hide hB
    go_upto_region 8 with fail
    replace hB := unhide hB
    refine wp_region_lit ?_
    refine list_val (.slice a5 j c5) (by kernel_rfl) (by kernel_rfl) ?_
    simp only [nrm]
    have gB := hB.gr
    refine list_valw (.slice (some ⟨wr.heap.size, 0, none⟩) 0 0) (wr.alloc (.cells #[] 34 (0, 0))) (by kernel_rfl) (by kernel_rfl) ?_
    have hO : Or_ 32 34 wr.heap.size (wr.alloc (.cells #[] 34 (0, 0))) (.slice (some ⟨wr.heap.size, 0, none⟩) 0 0) [] := ⟨by simp, by simp, .inr ⟨wr.heap.size, 0, #[], rfl, Nat.le_refl _, blk_new _ _, Nat.le_refl _, Nat.zero_le _, rfl, rfl⟩⟩
    have hG := (Gr.refl wr).alloc (.cells #[] 34 (0, 0))
    replace hB := hB.more hG
    generalize World.alloc _ _ = y1 at *
    obtain ⟨gz, hgz⟩ : ∃ z, z = wr.heap.size := ⟨_, rfl⟩
    rw [← hgz] at hO ⊢
    simp only [nrm]
    refine list_val (.pointer (some ⟨w.heap.size, 2, none⟩)) (by kernel_rfl) (by kernel_rfl) ?_
    simp only [nrm]
    refine list_val (.slice b m d) (by kernel_rfl) (exec_ks _ (.tmp 32) rfl (w.heap.size) 2 (by kernel_rfl) b m d (cell_of (hB.get 0 (x := ⟨w.heap.size, roadv r a n c b m d p i e q k l, 26⟩) rfl) (i := 2) rfl)) ?_
    simp only [nrm]
    refine list_val (.int .i64 (j : Int)) (by kernel_rfl) (by kernel_rfl) ?_
    simp only [nrm]
    refine list_val (.slice b j d) (by kernel_rfl) (exec_uptok _ (.tmp 33) (.tmp 34) rfl b m d j (by kernel_rfl) (by kernel_rfl) hmd hNm) ?_
    simp only [nrm]
    refine wpList_step fun K_ hQ_ => ?_
    rw [if_pos (by kernel_rfl)]
    refine app_rows0 lt_k (.tmp 31) (.tmp 35) rfl gz _ [] (by kernel_rfl) hO b j d (ON.map bv) (by kernel_rfl) (by rw [List.length_map, (unhide lo).len]) (by
      intro x hx
      obtain ⟨y, hy, rfl⟩ := List.mem_map.1 hx
      rw [bv_len, ((unhide lo).ok y hy).1]) (by
      rcases ((unhide lo).gr hB.gr).sl with h1 | ⟨p1, o1, h1, h2⟩
      · exact .inl (by rw [h1]; rfl)
      · exact .inr ⟨p1, o1, h1, by rw [map_bv_flat]; exact at_rg h2⟩) (by intro x hx z hz; obtain ⟨y, hy, rfl⟩ := List.mem_map.1 hx; obtain ⟨y, _, rfl⟩ := List.mem_map.1 hz; rfl) (by simp; omega) (by rw [hgz]; exact hG.size) ?_
    intro v4 x4 hO4 hgr
    have hg5 := grown_owned hO.2 (Nat.le_of_eq hgz.symm) hG hgr
    rw [List.nil_append] at hO4
    obtain ⟨a6, c6, rfl, hK6⟩ := kw_or hO4 (unhide lo).ok
    rw [(unhide lo).len] at hK6 ⊢
    have hZ : Hid (T (.returned (.tuple #[.slice a5 j c5, .slice a6 j c6])) x4) := by
      rw [unhide hT]
      exact ⟨a5, c5, a6, c6, rfl, by rw [← unhide hQ]; exact (unhide hK5).gr hg5, by rw [← unhide hON]; exact hK6, gB.trans hg5⟩
    clear hO4 hgr hO hG hg5 hK6 hB
    refine hQ_ _ _ ?_
    clear hQ_ K_
    simp only [nrm]
    (refine wpList_step fun K hK => ?_; replace hK := hide hK; go_simp; refine unhide hK _ _ ?_; clear hK K)
    (refine wpList_step fun K hK => ?_; replace hK := hide hK; go_simp; refine unhide hK _ _ ?_; clear hK K)
    refine wpList_nil ?_
    go_wp2_with fail
    exact unhide hZ
theorem Tryd.infoRoad : (Tryd.prog.info? 26).map (·.size) = some 5 := by kernel_rfl
theorem nlow_all (S : List (List Int)) (O : List (List Int)) (N i : Nat) (hi : i < N) (hS : N ≤ S.length) : NLow (O.getD i []) (((S.map pubL).take N).getD i []) := by
  have h1 : i < ((S.map pubL).take N).length := by rw [List.length_take, List.length_map]; omega
  rw [List.getD_eq_getElem?_getD (l := (S.map pubL).take N), List.getElem?_eq_getElem h1]
  show NLow _ ((S.map pubL).take N)[i]
  rw [List.getElem_take, List.getElem_map]
  exact nlow_pub _ _
end Go.Proofs.YtgabkfleidpipaaDoor

namespace Go.Proofs.YtgabkfleidpipaaDoor
open Go.ChangeShapes Go.WideShapes Go.ChangeAt Go.RowKit
set_option maxRecDepth 100000
set_option linter.unusedSimpArgs false
set_option linter.unusedVariables false
def numV : Value → Int
  | .int _ z => z
  | _ => 0
theorem row8 {H : Type} {enc : TypeId × Value → H} {W : World} {t : TypeId} {n fuel : Nat} {cs : List Value} {x : DataW H × List MemPlace} (ht : Tryd.prog.underlying t = some (.array n 5)) (hc : Tryd.prog.cellsOf t = n)
    (h : DataW.trod enc Tryd.prog W 0 (fun _ => true) true fuel t cs = some x) : ∃ kl : List Int, cs = kl.map (Value.int .u8) ∧ kl.length = n ∧ IsB kl := by
  obtain ⟨xs, m, _, _, hl, hxl, hx⟩ := DataW.trod_array ht h
  rw [hc] at hl
  have hcell : ∀ i, i < n → ∃ z, cs[i]? = some (.int .u8 z) ∧ (Lit.int .u8 z).wf = true := by
    intro i hi
    have h1 := hx i hi
    rw [Tryd.cells_b, Nat.mul_one, List.getElem?_eq_getElem (by omega)] at h1
    obtain ⟨z, e, _, hwf⟩ := DataW.trod_int Tryd.underlying5 h1
    refine ⟨z, ?_, hwf⟩
    have h2 : ((cs.drop i).take 1)[0]? = some (.int .u8 z) := by rw [e]; rfl
    simpa using h2
  refine ⟨cs.map numV, ?_, by simp [hl], ?_⟩
  · apply List.ext_getElem (by simp)
    intro i h1 h2
    obtain ⟨z, hz, _⟩ := hcell i (by omega)
    have : cs[i] = .int .u8 z := by rw [List.getElem?_eq_getElem h1] at hz; simpa using hz
    simp [this, numV]
  · intro x hx
    obtain ⟨v, hv, rfl⟩ := List.mem_map.1 hx
    obtain ⟨i, hi, rfl⟩ := List.getElem_of_mem hv
    obtain ⟨z, hz, hwf⟩ := hcell i (by omega)
    have : cs[i] = .int .u8 z := by rw [List.getElem?_eq_getElem hi] at hz; simpa using hz
    rw [this]
    exact wf_byte hwf
theorem wf_u64 {x : Int} (h : (Lit.int .u64 x).wf = true) : 0 ≤ x ∧ x < 18446744073709551616 := by
  have := bounds_u64 h
  omega
structure Lr (k : Nat) (W : World) (a : Option Addr) (n c : Nat) (R : List (List Value)) : Prop where
  len : R.length = n
  sl : n = 0 ∨ ∃ p o, a = some ⟨p, o, none⟩ ∧ ∀ i, i < n → W.rangeAt p (o + k * i) (R.getD i [])
  cap : n ≤ c
  max : c < 9223372036854775808
theorem open_rows {H : Type} {enc : TypeId × Value → H} {W : World} {t e : TypeId} {k : Nat} (ht : Tryd.prog.underlying t = some (.slice e)) (hk : Tryd.prog.cellsOf e = k) (hk0 : 0 < k) {α : Type} (z : α) (f : α → List Value) (Ok : α → Prop) (hlen : ∀ o, Ok o → (f o).length = k)
    (each : ∀ (fuel : Nat) (cs : List Value) (x : DataW H × List MemPlace), DataW.trod enc Tryd.prog W 0 (fun _ => true) true fuel e cs = some x → ∃ o, cs = f o ∧ Ok o)
    {fuel : Nat} {cs : List Value} {x : DataW H × List MemPlace} (hf : DataW.trod enc Tryd.prog W 0 (fun _ => true) true fuel t cs = some x) : ∃ a len cap l, cs = [.slice a len cap] ∧ Lr k W a len cap ((l : List α).map f) ∧ ∀ o ∈ l, Ok o := by
  rcases DataW.trod_slice ht hf with ⟨hcs, _⟩ | ⟨ad, len, cap, elems, rest, n, _, hcs, hx, hb, hl, hm, hlen2, hel, hsp, hns⟩
  · exact ⟨none, 0, 0, [], hcs, ⟨rfl, .inl rfl, Nat.le_refl _, by omega⟩, fun o h => by cases h⟩
  · have each2 : ∀ i, ∃ o : α, i < len → (∀ j, j < k → W.cell? (ad.add (i * k + j)) = (f o)[j]?) ∧ Ok o := by
      intro i
      by_cases hi : i < len
      · have hy : elems[i]? = some (elems[i]'(by omega)) := List.getElem?_eq_getElem (by omega)
        have h1 := hel i hi
        rw [hy, hk, Option.bind_eq_some_iff] at h1
        obtain ⟨cs', hcs', hy'⟩ := h1
        obtain ⟨o, e, ho⟩ := each _ _ _ hy'
        obtain ⟨_, hl4, hc4⟩ := World.cells?_some hcs'
        refine ⟨o, fun _ => ⟨fun j hj => ?_, ho⟩⟩
        have h9 := hc4 j hj
        rw [Deep.add_add] at h9
        rw [h9, e]
      · exact ⟨z, fun h => absurd h hi⟩
    obtain ⟨g, hg⟩ := Classical.axiomOfChoice each2
    refine ⟨some ad, len, cap, (List.range len).map g, hcs, ⟨by simp, ?_, hl, by unfold maxLen at hm; omega⟩, ?_⟩
    · rcases Nat.eq_zero_or_pos len with h0 | h0
      · exact .inl h0
      · right
        obtain ⟨b, off, spot⟩ := ad
        obtain ⟨h1, h2⟩ := hg 0 h0
        have h1 := h1 0 hk0
        have hspot : spot = none := by
          rw [List.getElem?_eq_getElem (by rw [hlen _ h2]; exact hk0)] at h1
          simpa [Addr.add] using World.cell?_spot h1
        subst hspot
        refine ⟨b, off, rfl, fun i hi => ?_⟩
        obtain ⟨h3, h4⟩ := hg i hi
        have e : (((List.range len).map g).map f).getD i [] = f (g i) := by simp [hi]
        rw [e]
        intro q v hq
        have hqk : q < k := by have := (List.getElem?_eq_some_iff.1 hq).1; rw [hlen _ h4] at this; exact this
        have h5 := h3 q hqk
        rw [Addr.add_mid, hq] at h5
        rw [Nat.add_assoc, Nat.mul_comm k i]
        exact h5
    · intro o ho
      obtain ⟨i, hi, rfl⟩ := List.mem_map.1 ho
      exact (hg i (List.mem_range.1 hi)).2
theorem take_sp (l : List Value) (o n : Nat) : l.drop o = (l.drop o).take n ++ l.drop (o + n) := by
  have := List.take_append_drop n (l.drop o)
  rw [List.drop_drop] at this
  exact this.symm
theorem Tryd.cellsRd : Tryd.prog.cellsOf 26 = 5 := by kernel_rfl
theorem Tryd.cells64 : Tryd.prog.cellsOf 22 = 1 := by kernel_rfl
theorem Tryd.cellsSk : Tryd.prog.cellsOf 23 = 1 := by kernel_rfl
theorem Tryd.cellsSl : Tryd.prog.cellsOf 24 = 1 := by kernel_rfl
theorem struct5 {H : Type} {enc : TypeId × Value → H} {P : Program} {w : World} {base : Nat} {spare : Nat → Bool} {held : Bool} {t : TypeId} {f0 f1 f2 f3 f4 : Field} {fuel : Nat} {cs : List Value} {x : DataW H × List MemPlace} (ht : P.underlying t = some (.struct #[f0, f1, f2, f3, f4])) (h : DataW.trod enc P w base spare held fuel t cs = some x) :
    ∃ y0 y1 y2 y3 y4 n, x.1 = .agg [y0.1, y1.1, y2.1, y3.1, y4.1] ∧ DataW.trod enc P w base spare held n f0.type ((cs.drop f0.offset).take (P.cellsOf f0.type)) = some y0 ∧ DataW.trod enc P w base spare held n f1.type ((cs.drop f1.offset).take (P.cellsOf f1.type)) = some y1 ∧
      DataW.trod enc P w base spare held n f2.type ((cs.drop f2.offset).take (P.cellsOf f2.type)) = some y2 ∧ DataW.trod enc P w base spare held n f3.type ((cs.drop f3.offset).take (P.cellsOf f3.type)) = some y3 ∧ DataW.trod enc P w base spare held n f4.type ((cs.drop f4.offset).take (P.cellsOf f4.type)) = some y4 := by
  obtain ⟨xs, n, _, rfl, hl, hlen, hf⟩ := DataW.trod_struct ht h
  match xs, hlen with
  | [y0, y1, y2, y3, y4], _ => exact ⟨y0, y1, y2, y3, y4, n, by simp, by simpa using hf 0 f0 rfl, by simpa using hf 1 f1 rfl, by simpa using hf 2 f2 rfl, by simpa using hf 3 f3 rfl, by simpa using hf 4 f4 rfl⟩
theorem open_slb {H : Type} {enc : TypeId × Value → H} {W : World} {n : Nat} {sc : List Value} {y : DataW H × List MemPlace} (h : DataW.trod enc Tryd.prog W 0 (fun _ => true) true n 24 sc = some y) (hw : ∀ e2 s2, y.1 = .slice e2 s2 → (e2.length + s2.length) * Tryd.prog.bytesOf 5 ≤ reachBytes) : ∃ s len cap A, sc = [Value.slice s len cap] ∧ Lb W s len cap A := by
  rcases DataW.trod_slice Tryd.underlying24 h with ⟨rfl, _⟩ | ⟨ad', l', c', _, _, _, _, rfl, _⟩
  · obtain ⟨li, h1, h2, h3, h4, h5⟩ := open_bytes (a := none) (len := 0) (cap := 0) (d := y.1) (p := y.2) ⟨n, h⟩ hw
    exact ⟨_, _, _, li, rfl, h2, h1, h3, h4, by omega⟩
  · obtain ⟨li, h1, h2, h3, h4, h5⟩ := open_bytes (a := some ad') (len := l') (cap := c') (d := y.1) (p := y.2) ⟨n, h⟩ hw
    exact ⟨_, _, _, li, rfl, h2, h1, h3, h4, by omega⟩
theorem kw_lr {W : World} {a : Option Addr} {n c : Nat} {ks : List (List Int)} (h : Lr 32 W a n c (ks.map bv)) (hk : ∀ k ∈ ks, k.length = 32 ∧ IsB k) : Kw W a n c ks := by
  have hl := h.len
  rw [List.length_map] at hl
  refine ⟨hl, fun k hk2 => hk k hk2, ?_, h.cap, h.max⟩
  rcases h.sl with h0 | ⟨p, o, h1, h2⟩
  · left
    exact List.eq_nil_of_length_eq_zero (by omega)
  · right
    refine ⟨p, o, h1, fun j hj => ?_⟩
    have hf : ks.flatten.length = 32 * ks.length := flat32 (fun k hk2 => hk k hk2)
    have hi : j / 32 < ks.length := by omega
    have h3 := h2 (j / 32) (by omega)
    have h30 : (ks.map bv).getD (j / 32) [] = bv (ks.getD (j / 32) []) := by
      rw [List.getD_eq_getElem?_getD, List.getElem?_map, List.getElem?_eq_getElem hi, List.getD_eq_getElem?_getD, List.getElem?_eq_getElem hi]
      rfl
    rw [h30] at h3
    have h4 := rg_at (L := ks.getD (j / 32) []) h3
    have hkl : (ks.getD (j / 32) []).length = 32 := by
      rw [List.getD_eq_getElem?_getD, List.getElem?_eq_getElem hi]
      exact (hk _ (List.getElem_mem _)).1
    have h5 := h4 (j % 32) (by omega)
    have h6 := flat_at ks (j / 32) (j % 32) (fun k hk2 => hk k hk2) hi (by omega)
    rw [show 32 * (j / 32) + j % 32 = j by omega] at h6
    rw [h6.2, show o + j = o + 32 * (j / 32) + j % 32 by omega]
    exact h5
theorem open_road {H : Type} {enc : TypeId × Value → H} {W : World} {base : Nat} {v : Value} {d : DataW H} {p : List MemPlace} (hv : Value.okWide Tryd.prog W .any base 26 v) (h : DataW.Trod enc Tryd.prog W 0 (fun _ => true) true 26 v d p) (hw : ∀ n ∈ d.weights Tryd.prog 26, n ≤ reachBytes) :
    ∃ r a n c b m e q i f s k l S O P Q, v = .agg (roadv r a n c b m e q i f s k l) ∧ 0 ≤ r ∧ Kw W a n c S ∧ Kw W b m e O ∧ Lb W q i f P ∧ Lb W s k l Q := by
  unfold Value.okWide at hv
  rw [Tryd.underlying26] at hv
  obtain ⟨cs, rfl, hsz, _⟩ := hv
  rw [Tryd.cellsRd] at hsz
  obtain ⟨fuel, hf⟩ := h
  obtain ⟨y0, y1, y2, y3, y4, n, hx, h0, h1, h2, h3, h4⟩ := struct5 Tryd.underlying26 hf
  replace hx : d = _ := hx
  simp only [Tryd.cells64, Tryd.cellsSk, Tryd.cellsSl] at h0 h1 h2 h3 h4
  obtain ⟨z0, e0, _, w0⟩ := DataW.trod_int Tryd.underlying22 h0
  obtain ⟨a1, l1, c1, k1, e1, hR1, hk1⟩ := open_rows (t := 23) (e := 34) (k := 32) Tryd.underlying23 Tryd.cellsK (by decide) ([] : List Int) bv (fun K => K.length = 32 ∧ IsB K) (fun K hK => by rw [bv_len, hK.1]) (fun fuel cs x hx => row8 Tryd.underlying34 Tryd.cellsK hx) h1
  obtain ⟨a2, l2, c2, k2, e2, hR2, hk2⟩ := open_rows (t := 23) (e := 34) (k := 32) Tryd.underlying23 Tryd.cellsK (by decide) ([] : List Int) bv (fun K => K.length = 32 ∧ IsB K) (fun K hK => by rw [bv_len, hK.1]) (fun fuel cs x hx => row8 Tryd.underlying34 Tryd.cellsK hx) h2
  have hsw : ∀ e5 s5, (y3.1 = .slice e5 s5 ∨ y4.1 = .slice e5 s5) → (e5.length + s5.length) * Tryd.prog.bytesOf 5 ≤ reachBytes := by
    intro e5 s5 he
    refine hw _ ?_
    rw [hx, DataW.weights, Tryd.underlying26]
    show _ ∈ DataW.weightsEach Tryd.prog [22, 23, 23, 24, 24] [y0.1, y1.1, y2.1, y3.1, y4.1]
    rw [DataW.weightsEach, DataW.weightsEach, DataW.weightsEach, DataW.weightsEach, DataW.weightsEach]
    rcases he with he | he
    · refine List.mem_append_right _ (List.mem_append_right _ (List.mem_append_right _ (List.mem_append_left _ ?_)))
      rw [he, DataW.weights, Tryd.underlying24]
      exact List.mem_cons_self
    · refine List.mem_append_right _ (List.mem_append_right _ (List.mem_append_right _ (List.mem_append_right _ (List.mem_append_left _ ?_))))
      rw [he, DataW.weights, Tryd.underlying24]
      exact List.mem_cons_self
  obtain ⟨a3, l3, c3, P, e3, hP⟩ := open_slb h3 (fun e5 s5 he => hsw e5 s5 (.inl he))
  obtain ⟨a4, l4, c4, Q, e4, hQ⟩ := open_slb h4 (fun e5 s5 he => hsw e5 s5 (.inr he))
  refine ⟨z0, a1, l1, c1, a2, l2, c2, a3, l3, c3, a4, l4, c4, k1, k2, P, Q, ?_, (wf_u64 w0).1, kw_lr hR1 hk1, kw_lr hR2 hk2, hP, hQ⟩
  congr 1
  apply Array.ext'
  simp only [Value.cells, List.drop_zero] at e0 e1 e2 e3 e4
  have hl2 : cs.toList.length = 5 := by simpa using hsz
  generalize cs.toList = l at *
  have s0 := take_sp l 0 1
  have s1 := take_sp l 1 1
  have s2 := take_sp l 2 1
  have s3 := take_sp l 3 1
  have s4 := take_sp l 4 1
  have s5 : l.drop 5 = [] := List.drop_eq_nil_of_le (by omega)
  rw [List.drop_zero] at s0
  rw [s0, e0, s1, e1, s2, e2, s3, e3, s4, e4, s5, List.append_nil]
  rfl
end Go.Proofs.YtgabkfleidpipaaDoor

namespace Go.Proofs.YtgabkfleidpipaaDoor
open Go.RowKit
set_option maxRecDepth 100000
set_option linter.unusedSimpArgs false
set_option linter.unusedVariables false
theorem agL_top (K U : List Int) (b : Int) (hU : IsK U) (hb : 0 ≤ b ∧ b < 256) (h : b % 128 = U.getD 31 0 % 128) : agL K (U.set 31 b) = agL K U ∧ (NLow K U → NLow K (U.set 31 b)) := by
  have e1 := kn_digs hU
  have h31 : U.getD 31 0 = (kn U : Int) / 256 ^ 31 % 256 := by
    rw [e1, Cv.digs_getD _ 31 (by omega), ← e1]
  obtain ⟨V, hV, h1, h2⟩ := Cv.turn_place (kn U) b hb (by rw [h, h31])
  rw [Cv.kc_set] at h1
  have h3 : U.set 31 b = Cv.digs (V : Int) 32 := by rw [← Cv.kc_inj h1, ← e1]
  have h4 : kn (U.set 31 b) = V := by rw [h3]; exact kn_of V hV
  have h5 : Cv.xN (kn K) V = Cv.xN (kn K) (kn U) := Cv.xN_top _ _ _ (by omega)
  unfold agL NLow
  rw [h4, h5]
  exact ⟨rfl, id⟩
theorem exec_max0 {a : Act} {o : Oper} (w : World) (x : Operand) (ho : o.op = .call { callee := .builtin .max, args := #[x, .const (.int .i64 0)], argTypes := #[3, 3] }) (z : Int) (N : Nat) (hx : a.eval x = .int .i64 z) (hN : (N : Int) = max z 0) :
    (execOp a.eval o).run Tryd.prog w = .ok (.value (.int .i64 (N : Int))) w := by
  have hz : a.eval (.const (.int .i64 0)) = .int .i64 0 := rfl
  simp [execOp, ho, resolve, invoke, builtin, hx, hz, Builtin.max_, Builtin.max2]
  repeat' split
  all_goals omega
def Pelno (w : World) (r : Ending) (w' : World) : Prop := ∃ e : Int, e ≠ 0 ∧ r = .returned (.tuple #[.slice none 0 0, .agg (kc ZK), .int .i64 e]) ∧ Gr w w'
set_option maxHeartbeats 4000000 in
theorem npeel_low (r : Int) (hr : 0 ≤ r) (K : List Int) (hK : IsK K) (U : List Int) (hU : IsK U) (C : List Int) (hC : 16 ≤ C.length) (hnl : ¬ NLow K U) (s : Option Addr) (n c : Nat) (hn : n ≤ 20000) (w : World) (hF : Fst w) (ls : Lb w s n c (U ++ C)) : Calls Tryd.prog 9 #[.int .u64 r, .agg (kc K), .slice s n c] w (Pelno w) := by
  obtain ⟨T, hT⟩ : ∃ T, T = Pelno w := ⟨_, rfl⟩
  rw [← hT]
  replace hT := hide hT
  obtain ⟨hKl, hKb⟩ := hK
  obtain ⟨hUl, hUb⟩ := hU
  have hLn := ls.len
  have hcap := ls.cap
  have hn48 : 48 ≤ n := by rw [← hLn, List.length_append, hUl]; omega
  have hnI : ¬ (n : Int) < 48 := by omega
  have hsU : U = [] ∨ ∃ p q, s = some ⟨p, q, none⟩ ∧ At w p q U := by
    rcases ls.sl with h | ⟨p, q, h1, h2⟩
    · rw [h] at hLn
      simp at hLn
      omega
    · refine .inr ⟨p, q, h1, ?_⟩
      have h3 := h2.take 32
      rw [List.take_append_of_le_length (by omega), List.take_of_length_le (by omega)] at h3
      exact h3
  have lR := ls.rest 32 (by omega)
  rw [List.drop_append, List.drop_of_length_le (l := U) (by omega), hUl, Nat.sub_self, List.drop_zero, List.nil_append] at lR
  obtain ⟨s9, hs9⟩ : ∃ x, x = (if c = 32 then s else s.map (·.add 32)) := ⟨_, rfl⟩
  rw [← hs9] at lR
  clear ls hLn hC
  obtain ⟨SK, hSK⟩ : ∃ S, S = kc K := ⟨_, rfl⟩
  rw [← hSK]
  replace hSK := hide hSK
  replace hKb := hide hKb
  replace hUb := hide hUb
  replace hnl := hide hnl
  replace hF := hide hF
  replace hsU := hide hsU
  replace lR := hide lR
  replace hs9 := hide hs9
  go_enter Tryd.func9, Tryd.ntmps9
  go_upto_region 1 with fail
  have hB := (((Bl.nil w).new SK 34).new #[.int .u8 0, .int .u8 0, .int .u8 0, .int .u8 0, .int .u8 0, .int .u8 0, .int .u8 0, .int .u8 0, .int .u8 0, .int .u8 0, .int .u8 0, .int .u8 0, .int .u8 0, .int .u8 0, .int .u8 0, .int .u8 0, .int .u8 0, .int .u8 0, .int .u8 0, .int .u8 0, .int .u8 0, .int .u8 0, .int .u8 0, .int .u8 0, .int .u8 0, .int .u8 0, .int .u8 0, .int .u8 0, .int .u8 0, .int .u8 0, .int .u8 0, .int .u8 0] 34)
  simp only [size_alloc, List.nil_append, List.cons_append] at hB
  generalize World.alloc _ _ = u at *
  rw [unhide hSK] at hB
  replace hB : Bl w [⟨w.heap.size, kc K, 34⟩, ⟨w.heap.size + 1, kc ZK, 34⟩] u := hB
  refine wp_region_lit ?_
  refine list_val (.slice s n c) (by kernel_rfl) (by kernel_rfl) ?_
  simp only [nrm]
  refine list_val (.int .i64 (n : Int)) (by kernel_rfl) (by kernel_rfl) ?_
  simp only [nrm]
  refine list_val (.bool false) (by kernel_rfl) (by go_simp) ?_
  simp only [nrm]
  refine wpList_nil ?_
  replace hB := hide hB
  go_upto_region 3 with fail
  replace hB := unhide hB
  refine wp_region_lit ?_
  refine list_valw (.pointer (some ⟨u.heap.size, 0, none⟩)) (u.alloc (.cells (kc ZK) 34 (0, 0))) (by kernel_rfl) (by kernel_rfl) ?_
  replace hB := hB.new (kc ZK) 34
  simp only [List.nil_append, List.cons_append] at hB
  generalize World.alloc _ _ = u1 at *
  generalize u.heap.size = gp at *
  replace hB : Bl w [⟨w.heap.size, kc K, 34⟩, ⟨w.heap.size + 1, kc ZK, 34⟩, ⟨gp, kc ZK, 34⟩] u1 := hB
  simp only [nrm]
  refine wpList_nil ?_
  replace hB := hide hB
  go_upto_region 4 with fail
  replace hB := unhide hB
  refine wp_region_lit ?_
  refine list_val (.slice (some ⟨gp, 0, none⟩) 32 32) (by kernel_rfl) (by kernel_rfl) ?_
  simp only [nrm]
  refine list_val (.slice s n c) (by kernel_rfl) (by kernel_rfl) ?_
  simp only [nrm]
  refine wpList_step fun K_ hQ => ?_
  rw [if_pos (by kernel_rfl)]
  refine copy_wp (.tmp 17) (.tmp 18) rfl gp 0 32 32 s n c (by kernel_rfl) (by kernel_rfl) (ZK.map (Value.int .u8)) 34 (hB.get 2 (x := ⟨gp, kc ZK, 34⟩) rfl) U (by rw [hUl]; show 32 = min n 32; omega) (by
    rcases unhide hsU with h | ⟨p, q, h1, h2⟩
    · exact .inl h
    · exact .inr ⟨p, q, h1, h2.gr hB.gr⟩) (by rw [hUl]; exact Nat.le_refl _) ?_
  have hcell := laid (S := U) (o := 0) (hB.get 2 (x := ⟨gp, kc ZK, 34⟩) rfl) (by rw [hUl]; exact Nat.le_refl _)
  rw [lay_all ZK U hUl] at hcell
  have hB2 := hB.but (setCells_bt (U.map (Value.int .u8)) u1 gp 0) 2 (x := ⟨gp, kc ZK, 34⟩) rfl rfl hcell
  simp only [List.set_cons_zero, List.set_cons_succ] at hB2
  clear hcell hB
  generalize World.setCells _ _ _ _ = u2 at *
  have hB : Bl w [⟨w.heap.size, kc K, 34⟩, ⟨w.heap.size + 1, kc ZK, 34⟩, ⟨gp, kc U, 34⟩] u2 := hB2
  clear hB2
  rw [hUl]
  refine hQ _ _ ?_
  clear hQ K_
  simp only [nrm]
  refine wpList_nil ?_
  replace hB := hide hB
  go_upto_region 5 with fail
  replace hB := unhide hB
  refine wp_region_lit ?_
  refine list_val (.agg (kc K)) (by kernel_rfl) (exec_arr _ 34 (.tmp 4) rfl (w.heap.size) (by kernel_rfl) (kc K) 34 _ (hB.get 0 (x := ⟨w.heap.size, kc K, 34⟩) rfl) Tryd.underlying34 rfl (by rw [Tryd.infoKey, kc_size, hKl])) ?_
  simp only [nrm]
  refine list_val (.agg (kc U)) (by kernel_rfl) (exec_arr _ 34 (.tmp 9) rfl (gp) (by kernel_rfl) (kc U) 34 _ (hB.get 2 (x := ⟨gp, kc U, 34⟩) rfl) Tryd.underlying34 rfl (by rw [Tryd.infoKey, kc_size, hUl])) ?_
  simp only [nrm]
  refine list_call 16 #[.agg (kc K), .agg (kc U)] (by kernel_rfl) (by kernel_rfl) ((agree_not K U ⟨hKl, unhide hKb⟩ ⟨hUl, unhide hUb⟩ (unhide hnl) u2).mono ?_)
  rintro r_ u3 ⟨rfl, hg⟩
  replace hB := hB.more hg
  clear hg
  refine ⟨_, rfl, ?_⟩
  simp only [nrm]
  refine list_val (.tuple #[.agg (kc ZK), .int .i64 130]) (by kernel_rfl) (by kernel_rfl) ?_
  simp only [nrm]
  refine list_val (.agg (kc ZK)) (by kernel_rfl) (by kernel_rfl) ?_
  simp only [nrm]
  refine list_val (.int .i64 130) (by kernel_rfl) (by kernel_rfl) ?_
  simp only [nrm]
  refine list_valw (.pointer (some ⟨u3.heap.size, 0, none⟩)) (u3.alloc (.cells (kc ZK) 34 (0, 0))) (by kernel_rfl) (by kernel_rfl) ?_
  replace hB := hB.new (kc ZK) 34
  simp only [List.nil_append, List.cons_append] at hB
  generalize World.alloc _ _ = u4 at *
  generalize u3.heap.size = gh at *
  replace hB : Bl w [⟨w.heap.size, kc K, 34⟩, ⟨w.heap.size + 1, kc ZK, 34⟩, ⟨gp, kc U, 34⟩, ⟨gh, kc ZK, 34⟩] u4 := hB
  simp only [nrm]
  refine list_store 34 (.tmp 10) (.tmp 24) gh (kc ZK) 34 (kc ZK) (by kernel_rfl) rfl (by kernel_rfl) (by kernel_rfl) (hB.get 3 (x := ⟨gh, kc ZK, 34⟩) rfl) (by rw [Tryd.infoKey, kc_size]; rfl) rfl (kc_one _) ?_
  replace hB := hB.set 3 (x := ⟨gh, kc ZK, 34⟩) rfl (kc ZK)
  simp only [List.set_cons_zero, List.set_cons_succ] at hB
  generalize World.setRow _ _ _ = u5 at *
  replace hB : Bl w [⟨w.heap.size, kc K, 34⟩, ⟨w.heap.size + 1, kc ZK, 34⟩, ⟨gp, kc U, 34⟩, ⟨gh, kc ZK, 34⟩] u5 := hB
  simp only [nrm]
  (refine wpList_step fun K hK => ?_; replace hK := hide hK; go_simp; refine unhide hK _ _ ?_; clear hK K)
  refine wpList_nil ?_
  replace hB := hide hB
  go_upto_region 6 with fail
  replace hB := unhide hB
  refine wp_region_lit ?_
  refine list_val (.int .i64 130) (by kernel_rfl) (by kernel_rfl) ?_
  simp only [nrm]
  refine list_val (.bool true) (by kernel_rfl) (by kernel_rfl) ?_
  simp only [nrm]
  refine wpList_nil ?_
  replace hB := hide hB
  go_upto_region 7 with fail
  replace hB := unhide hB
  refine wp_region_lit ?_
  refine list_val (.agg (kc ZK)) (by kernel_rfl) (by kernel_rfl) ?_
  simp only [nrm]
  refine list_val (.int .i64 130) (by kernel_rfl) (by kernel_rfl) ?_
  simp only [nrm]
  (refine wpList_step fun K hK => ?_; replace hK := hide hK; go_simp; refine unhide hK _ _ ?_; clear hK K)
  refine list_store 34 (.tmp 7) (.tmp 28) (w.heap.size + 1) (kc ZK) 34 (kc ZK) (by kernel_rfl) rfl (by kernel_rfl) (by kernel_rfl) (hB.get 1 (x := ⟨w.heap.size + 1, kc ZK, 34⟩) rfl) (by rw [Tryd.infoKey, kc_size]; rfl) rfl (kc_one _) ?_
  replace hB := hB.set 1 (x := ⟨w.heap.size + 1, kc ZK, 34⟩) rfl (kc ZK)
  simp only [List.set_cons_zero, List.set_cons_succ] at hB
  generalize World.setRow _ _ _ = y1 at *
  replace hB : Bl w [⟨w.heap.size, kc K, 34⟩, ⟨w.heap.size + 1, kc ZK, 34⟩, ⟨gp, kc U, 34⟩, ⟨gh, kc ZK, 34⟩] y1 := hB
  simp only [nrm]
  (refine wpList_step fun K hK => ?_; replace hK := hide hK; go_simp; refine unhide hK _ _ ?_; clear hK K)
  refine wpList_nil ?_
  have hP9 : Hid (T (.returned (.tuple #[.slice none 0 0, .agg (kc ZK), .int .i64 130])) y1) := by
    rw [unhide hT]
    exact ⟨130, by decide, rfl, hB.gr⟩
  replace hB := hide hB
  go_wp2_with fail
  replace hB := unhide hB
  exact bodyPost_ret (v := .tuple #[.slice none 0 0, .agg (kc ZK), .int .i64 130]) (results_tct Tryd.results9 _ _ (w.heap.size + 1) 34 (kc ZK) (0, 0) _ _ rfl rfl (.int .i64 130) rfl (hB.get 1 (x := ⟨w.heap.size + 1, kc ZK, 34⟩) rfl) Tryd.underlying34 rfl (by rw [Tryd.infoKey, kc_size]; rfl)) rfl (unhide hP9)
set_option maxHeartbeats 4000000 in
theorem npeel_auth (r : Int) (hr : 0 ≤ r) (K : List Int) (hK : IsK K) (U : List Int) (hU : IsK U) (C : List Int) (hC : 16 ≤ C.length) (hnl : NLow K U) (hno : ∀ P, IsB P → C ≠ seO r (agL K U) tO P) (s : Option Addr) (n c : Nat) (hn : n ≤ 20000) (w : World) (hF : Fst w) (ls : Lb w s n c (U ++ C)) : Calls Tryd.prog 9 #[.int .u64 r, .agg (kc K), .slice s n c] w (Pelno w) := by
  obtain ⟨T, hT⟩ : ∃ T, T = Pelno w := ⟨_, rfl⟩
  rw [← hT]
  replace hT := hide hT
  obtain ⟨hKl, hKb⟩ := hK
  obtain ⟨hUl, hUb⟩ := hU
  have hLn := ls.len
  have hcap := ls.cap
  have hn48 : 48 ≤ n := by rw [← hLn, List.length_append, hUl]; omega
  have hnI : ¬ (n : Int) < 48 := by omega
  obtain ⟨A, hA⟩ : ∃ A, A = agL K U := ⟨_, rfl⟩
  have hAl : A.length = 32 := by rw [hA]; exact (agL_isK K U).1
  have hAb : IsB A := by rw [hA]; exact (agL_isK K U).2
  rw [← hA] at hno
  have hsU : U = [] ∨ ∃ p q, s = some ⟨p, q, none⟩ ∧ At w p q U := by
    rcases ls.sl with h | ⟨p, q, h1, h2⟩
    · rw [h] at hLn
      simp at hLn
      omega
    · refine .inr ⟨p, q, h1, ?_⟩
      have h3 := h2.take 32
      rw [List.take_append_of_le_length (by omega), List.take_of_length_le (by omega)] at h3
      exact h3
  have lR := ls.rest 32 (by omega)
  rw [List.drop_append, List.drop_of_length_le (l := U) (by omega), hUl, Nat.sub_self, List.drop_zero, List.nil_append] at lR
  obtain ⟨s9, hs9⟩ : ∃ x, x = (if c = 32 then s else s.map (·.add 32)) := ⟨_, rfl⟩
  rw [← hs9] at lR
  clear ls hLn hC
  obtain ⟨SK, hSK⟩ : ∃ S, S = kc K := ⟨_, rfl⟩
  rw [← hSK]
  replace hSK := hide hSK
  replace hKb := hide hKb
  replace hUb := hide hUb
  replace hnl := hide hnl
  replace hF := hide hF
  replace hsU := hide hsU
  replace lR := hide lR
  replace hs9 := hide hs9
  replace hno := hide hno
  replace hA := hide hA
  replace hAb := hide hAb
  go_enter Tryd.func9, Tryd.ntmps9
  go_upto_region 1 with fail
  have hB := (((Bl.nil w).new SK 34).new #[.int .u8 0, .int .u8 0, .int .u8 0, .int .u8 0, .int .u8 0, .int .u8 0, .int .u8 0, .int .u8 0, .int .u8 0, .int .u8 0, .int .u8 0, .int .u8 0, .int .u8 0, .int .u8 0, .int .u8 0, .int .u8 0, .int .u8 0, .int .u8 0, .int .u8 0, .int .u8 0, .int .u8 0, .int .u8 0, .int .u8 0, .int .u8 0, .int .u8 0, .int .u8 0, .int .u8 0, .int .u8 0, .int .u8 0, .int .u8 0, .int .u8 0, .int .u8 0] 34)
  simp only [size_alloc, List.nil_append, List.cons_append] at hB
  generalize World.alloc _ _ = u at *
  rw [unhide hSK] at hB
  replace hB : Bl w [⟨w.heap.size, kc K, 34⟩, ⟨w.heap.size + 1, kc ZK, 34⟩] u := hB
  refine wp_region_lit ?_
  refine list_val (.slice s n c) (by kernel_rfl) (by kernel_rfl) ?_
  simp only [nrm]
  refine list_val (.int .i64 (n : Int)) (by kernel_rfl) (by kernel_rfl) ?_
  simp only [nrm]
  refine list_val (.bool false) (by kernel_rfl) (by go_simp) ?_
  simp only [nrm]
  refine wpList_nil ?_
  replace hB := hide hB
  go_upto_region 3 with fail
  replace hB := unhide hB
  refine wp_region_lit ?_
  refine list_valw (.pointer (some ⟨u.heap.size, 0, none⟩)) (u.alloc (.cells (kc ZK) 34 (0, 0))) (by kernel_rfl) (by kernel_rfl) ?_
  replace hB := hB.new (kc ZK) 34
  simp only [List.nil_append, List.cons_append] at hB
  generalize World.alloc _ _ = u1 at *
  generalize u.heap.size = gp at *
  replace hB : Bl w [⟨w.heap.size, kc K, 34⟩, ⟨w.heap.size + 1, kc ZK, 34⟩, ⟨gp, kc ZK, 34⟩] u1 := hB
  simp only [nrm]
  refine wpList_nil ?_
  replace hB := hide hB
  go_upto_region 4 with fail
  replace hB := unhide hB
  refine wp_region_lit ?_
  refine list_val (.slice (some ⟨gp, 0, none⟩) 32 32) (by kernel_rfl) (by kernel_rfl) ?_
  simp only [nrm]
  refine list_val (.slice s n c) (by kernel_rfl) (by kernel_rfl) ?_
  simp only [nrm]
  refine wpList_step fun K_ hQ => ?_
  rw [if_pos (by kernel_rfl)]
  refine copy_wp (.tmp 17) (.tmp 18) rfl gp 0 32 32 s n c (by kernel_rfl) (by kernel_rfl) (ZK.map (Value.int .u8)) 34 (hB.get 2 (x := ⟨gp, kc ZK, 34⟩) rfl) U (by rw [hUl]; show 32 = min n 32; omega) (by
    rcases unhide hsU with h | ⟨p, q, h1, h2⟩
    · exact .inl h
    · exact .inr ⟨p, q, h1, h2.gr hB.gr⟩) (by rw [hUl]; exact Nat.le_refl _) ?_
  have hcell := laid (S := U) (o := 0) (hB.get 2 (x := ⟨gp, kc ZK, 34⟩) rfl) (by rw [hUl]; exact Nat.le_refl _)
  rw [lay_all ZK U hUl] at hcell
  have hB2 := hB.but (setCells_bt (U.map (Value.int .u8)) u1 gp 0) 2 (x := ⟨gp, kc ZK, 34⟩) rfl rfl hcell
  simp only [List.set_cons_zero, List.set_cons_succ] at hB2
  clear hcell hB
  generalize World.setCells _ _ _ _ = u2 at *
  have hB : Bl w [⟨w.heap.size, kc K, 34⟩, ⟨w.heap.size + 1, kc ZK, 34⟩, ⟨gp, kc U, 34⟩] u2 := hB2
  clear hB2
  rw [hUl]
  refine hQ _ _ ?_
  clear hQ K_
  simp only [nrm]
  refine wpList_nil ?_
  replace hB := hide hB
  go_upto_region 5 with fail
  replace hB := unhide hB
  refine wp_region_lit ?_
  refine list_val (.agg (kc K)) (by kernel_rfl) (exec_arr _ 34 (.tmp 4) rfl (w.heap.size) (by kernel_rfl) (kc K) 34 _ (hB.get 0 (x := ⟨w.heap.size, kc K, 34⟩) rfl) Tryd.underlying34 rfl (by rw [Tryd.infoKey, kc_size, hKl])) ?_
  simp only [nrm]
  refine list_val (.agg (kc U)) (by kernel_rfl) (exec_arr _ 34 (.tmp 9) rfl (gp) (by kernel_rfl) (kc U) 34 _ (hB.get 2 (x := ⟨gp, kc U, 34⟩) rfl) Tryd.underlying34 rfl (by rw [Tryd.infoKey, kc_size, hUl])) ?_
  simp only [nrm]
  refine list_call 16 #[.agg (kc K), .agg (kc U)] (by kernel_rfl) (by kernel_rfl) ((agree_yes K U ⟨hKl, unhide hKb⟩ ⟨hUl, unhide hUb⟩ (unhide hnl) u2).mono ?_)
  rintro r_ u3 ⟨rfl, hg⟩
  rw [← unhide hA]
  replace hB := hB.more hg
  clear hg
  refine ⟨_, rfl, ?_⟩
  simp only [nrm]
  refine list_val (.tuple #[.agg (kc A), .int .i64 0]) (by kernel_rfl) (by kernel_rfl) ?_
  simp only [nrm]
  refine list_val (.agg (kc A)) (by kernel_rfl) (by kernel_rfl) ?_
  simp only [nrm]
  refine list_val (.int .i64 0) (by kernel_rfl) (by kernel_rfl) ?_
  simp only [nrm]
  refine list_valw (.pointer (some ⟨u3.heap.size, 0, none⟩)) (u3.alloc (.cells (kc ZK) 34 (0, 0))) (by kernel_rfl) (by kernel_rfl) ?_
  replace hB := hB.new (kc ZK) 34
  simp only [List.nil_append, List.cons_append] at hB
  generalize World.alloc _ _ = u4 at *
  generalize u3.heap.size = gh at *
  replace hB : Bl w [⟨w.heap.size, kc K, 34⟩, ⟨w.heap.size + 1, kc ZK, 34⟩, ⟨gp, kc U, 34⟩, ⟨gh, kc ZK, 34⟩] u4 := hB
  simp only [nrm]
  refine list_store 34 (.tmp 10) (.tmp 24) gh (kc A) 34 (kc ZK) (by kernel_rfl) rfl (by kernel_rfl) (by kernel_rfl) (hB.get 3 (x := ⟨gh, kc ZK, 34⟩) rfl) (by rw [Tryd.infoKey, kc_size, hAl]) (by rw [kc_size, kc_size, hAl]; rfl) (kc_one _) ?_
  replace hB := hB.set 3 (x := ⟨gh, kc ZK, 34⟩) rfl (kc A)
  simp only [List.set_cons_zero, List.set_cons_succ] at hB
  generalize World.setRow _ _ _ = u5 at *
  replace hB : Bl w [⟨w.heap.size, kc K, 34⟩, ⟨w.heap.size + 1, kc ZK, 34⟩, ⟨gp, kc U, 34⟩, ⟨gh, kc A, 34⟩] u5 := hB
  simp only [nrm]
  (refine wpList_step fun K hK => ?_; replace hK := hide hK; go_simp; refine unhide hK _ _ ?_; clear hK K)
  refine wpList_nil ?_
  replace hB := hide hB
  go_upto_region 6 with fail
  replace hB := unhide hB
  refine wp_region_lit ?_
  refine list_val (.int .i64 0) (by kernel_rfl) (by kernel_rfl) ?_
  simp only [nrm]
  refine list_val (.bool false) (by kernel_rfl) (by kernel_rfl) ?_
  simp only [nrm]
  refine wpList_nil ?_
  replace hB := hide hB
  go_upto_region 8 with fail
  replace hB := unhide hB
  refine any_start (S := fun (v : World) => Bl w [⟨w.heap.size, kc K, 34⟩, ⟨w.heap.size + 1, kc ZK, 34⟩, ⟨gp, kc U, 34⟩, ⟨gh, kc A, 34⟩] v) (by kernel_rfl) ?_
  replace hB := hB.drew
  generalize World.drew _ = x0 at *
  replace hB : Bl w [⟨w.heap.size, kc K, 34⟩, ⟨w.heap.size + 1, kc ZK, 34⟩, ⟨gp, kc U, 34⟩, ⟨gh, kc A, 34⟩] x0 := hB
  simp only [List.size_toArray, List.length_cons, List.length_nil, Array.replicate, List.replicate]
  refine any_take (i := 0) (v := (.int .u64 r)) #[false, false, false, false, false, false, false, false, false, false] rfl (by kernel_rfl) (by kernel_rfl) (by kernel_rfl) (by kernel_rfl) (fun _ _ _ h => h) (.inl ⟨by kernel_rfl, fun x_ hu => by kernel_rfl⟩) hB ?_
  simp only [nrm]
  refine any_take (i := 1) (v := (.agg (kc A))) #[true, false, false, false, false, false, false, false, false, false] rfl (by kernel_rfl) (by kernel_rfl) (by kernel_rfl) (by kernel_rfl) (fun _ _ _ h => h) (.inl ⟨by kernel_rfl, fun x_ hu => exec_arr _ 34 (.tmp 10) rfl (gh) (by kernel_rfl) (kc A) 34 _ (hu.get 3 (x := ⟨gh, kc A, 34⟩) rfl) Tryd.underlying34 rfl (by rw [Tryd.infoKey, kc_size, hAl])⟩) hB ?_
  simp only [nrm]
  refine any_take (i := 2) (v := (.slice s n c)) #[true, true, false, false, false, false, false, false, false, false] rfl (by kernel_rfl) (by kernel_rfl) (by kernel_rfl) (by kernel_rfl) (fun _ _ _ h => h) (.inl ⟨by kernel_rfl, fun x_ hu => by kernel_rfl⟩) hB ?_
  simp only [nrm]
  refine any_take (i := 3) (v := (.slice s9 (n - 32) (c - 32))) #[true, true, true, false, false, false, false, false, false, false] rfl (by kernel_rfl) (by kernel_rfl) (by kernel_rfl) (by kernel_rfl) (fun _ _ _ h => h) (.inl ⟨by kernel_rfl, fun x_ hu => by rw [unhide hs9]; exact exec_from _ (.tmp 33) (.const (.int .i64 32)) rfl s n c 32 (by kernel_rfl) (by kernel_rfl) hcap (by omega)⟩) hB ?_
  simp only [nrm]
  refine any_one (i := 4) (by kernel_rfl) rfl (fun K_ hQ => ?_)
  refine step_callw (by kernel_rfl) 17 #[.int .u64 r, .agg (kc A), .string tO, .slice s9 (n - 32) (c - 32)] (by kernel_rfl) ((nopen_no r hr A hAl (unhide hAb) tO (by decide) C s9 (n - 32) (c - 32) (by omega) x0 ((unhide hF).gr hB.gr) ((unhide lR).gr hB.gr) (unhide hno)).mono ?_)
  rintro r x1 ⟨rfl, hg⟩
  refine ⟨_, rfl, ?_⟩
  replace hB := hB.more hg
  clear hg
  refine hQ.out _ _ hB (fun _ => ?_)
  clear hQ K_
  simp only [nrm]
  refine any_take (i := 5) (v := (.tuple #[.slice none 0 0, .int .i64 180])) #[true, true, true, true, true, false, false, false, false, false] rfl (by kernel_rfl) (by kernel_rfl) (by kernel_rfl) (by kernel_rfl) (fun _ _ _ h => h) (.inl ⟨by kernel_rfl, fun x_ hu => by kernel_rfl⟩) hB ?_
  simp only [nrm]
  refine any_take (i := 6) (v := (.slice none 0 0)) #[true, true, true, true, true, true, false, false, false, false] rfl (by kernel_rfl) (by kernel_rfl) (by kernel_rfl) (by kernel_rfl) (fun _ _ _ h => h) (.inl ⟨by kernel_rfl, fun x_ hu => by kernel_rfl⟩) hB ?_
  simp only [nrm]
  refine any_take (i := 7) (v := (.int .i64 180)) #[true, true, true, true, true, true, true, false, false, false] rfl (by kernel_rfl) (by kernel_rfl) (by kernel_rfl) (by kernel_rfl) (fun _ _ _ h => h) (.inl ⟨by kernel_rfl, fun x_ hu => by kernel_rfl⟩) hB ?_
  simp only [nrm]
  refine any_one (i := 8) (by kernel_rfl) rfl (fun K_ hQ => ?_)
  replace hQ := hide hQ
  go_simp
  refine (unhide hQ).out _ _ hB (fun _ => ?_)
  clear hQ K_
  refine any_one (i := 9) (by kernel_rfl) rfl (fun K_ hQ => ?_)
  replace hQ := hide hQ
  go_simp
  refine (unhide hQ).out _ _ hB (fun _ => ?_)
  clear hQ K_
  refine any_done (by kernel_rfl) ?_
  replace hB := hide hB
  go_upto_region 9 with fail
  replace hB := unhide hB
  refine wp_region_lit ?_
  refine list_val (.int .i64 180) (by kernel_rfl) (by kernel_rfl) ?_
  simp only [nrm]
  refine list_val (.bool true) (by kernel_rfl) (by kernel_rfl) ?_
  simp only [nrm]
  refine wpList_nil ?_
  replace hB := hide hB
  go_upto_region 10 with fail
  replace hB := unhide hB
  refine wp_region_lit ?_
  refine list_val (.agg (kc ZK)) (by kernel_rfl) (by kernel_rfl) ?_
  simp only [nrm]
  refine list_val (.int .i64 180) (by kernel_rfl) (by kernel_rfl) ?_
  simp only [nrm]
  (refine wpList_step fun K hK => ?_; replace hK := hide hK; go_simp; refine unhide hK _ _ ?_; clear hK K)
  refine list_store 34 (.tmp 7) (.tmp 40) (w.heap.size + 1) (kc ZK) 34 (kc ZK) (by kernel_rfl) rfl (by kernel_rfl) (by kernel_rfl) (hB.get 1 (x := ⟨w.heap.size + 1, kc ZK, 34⟩) rfl) (by rw [Tryd.infoKey, kc_size]; rfl) rfl (kc_one _) ?_
  replace hB := hB.set 1 (x := ⟨w.heap.size + 1, kc ZK, 34⟩) rfl (kc ZK)
  simp only [List.set_cons_zero, List.set_cons_succ] at hB
  generalize World.setRow _ _ _ = y1 at *
  replace hB : Bl w [⟨w.heap.size, kc K, 34⟩, ⟨w.heap.size + 1, kc ZK, 34⟩, ⟨gp, kc U, 34⟩, ⟨gh, kc A, 34⟩] y1 := hB
  simp only [nrm]
  (refine wpList_step fun K hK => ?_; replace hK := hide hK; go_simp; refine unhide hK _ _ ?_; clear hK K)
  refine wpList_nil ?_
  have hP9 : Hid (T (.returned (.tuple #[.slice none 0 0, .agg (kc ZK), .int .i64 180])) y1) := by
    rw [unhide hT]
    exact ⟨180, by decide, rfl, hB.gr⟩
  replace hB := hide hB
  go_wp2_with fail
  replace hB := unhide hB
  exact bodyPost_ret (v := .tuple #[.slice none 0 0, .agg (kc ZK), .int .i64 180]) (results_tct Tryd.results9 _ _ (w.heap.size + 1) 34 (kc ZK) (0, 0) _ _ rfl rfl (.int .i64 180) rfl (hB.get 1 (x := ⟨w.heap.size + 1, kc ZK, 34⟩) rfl) Tryd.underlying34 rfl (by rw [Tryd.infoKey, kc_size]; rfl)) rfl (unhide hP9)
theorem npeel_no (r : Int) (hr : 0 ≤ r) (K : List Int) (hK : IsK K) (U : List Int) (hU : IsK U) (C : List Int) (hC : 16 ≤ C.length) (hno : ¬ ∃ P, IsB P ∧ NLow K U ∧ C = seO r (agL K U) tO P) (s : Option Addr) (n c : Nat) (hn : n ≤ 20000) (w : World) (hF : Fst w) (ls : Lb w s n c (U ++ C)) : Calls Tryd.prog 9 #[.int .u64 r, .agg (kc K), .slice s n c] w (Pelno w) := by
  by_cases h : NLow K U
  · exact npeel_auth r hr K hK U hU C hC h (fun P hP e => hno ⟨P, hP, h, e⟩) s n c hn w hF ls
  · exact npeel_low r hr K hK U hU C hC h s n c hn w hF ls
theorem xb_same (x y : Int) (hx : 0 ≤ x ∧ x < 256) (hy : 0 ≤ y ∧ y < 256) (h : xb x y = x) : y = 0 := by
  obtain ⟨X, rfl⟩ := Int.eq_ofNat_of_zero_le hx.1
  obtain ⟨Y, rfl⟩ := Int.eq_ofNat_of_zero_le hy.1
  unfold xb at h
  rw [u8_xor_nat X Y (by omega) (by omega)] at h
  have h1 : X ^^^ Y = X := by omega
  have h2 : X ^^^ (X ^^^ Y) = X ^^^ X := by rw [h1]
  rw [← Nat.xor_assoc, Nat.xor_self, Nat.zero_xor] at h2
  omega
theorem store_u8 {o : Oper} {a : Act} {w : World} {K : Act → World → Prop} {Q : Exit → Act → World → Prop} (x y : Operand) (ho : o.op = .store 5 x y) (g i : Nat) (hx : a.eval x = .pointer (some ⟨g, i, none⟩)) (v : Int) (hy : a.eval y = .int .u8 v) (old : Value) (hc : w.cell? ⟨g, i, none⟩ = some old) (hf : w.frozen? ⟨g, i, none⟩ = false)
    (h : K (a.put o.dst undef) (w.setCell ⟨g, i, none⟩ (.int .u8 v))) : o.wp Tryd.prog a w K Q := by
  unfold Oper.wp
  unfold execOp
  simp only [ho, hx, hy]
  go_simp
  exact h
theorem exec_rem {a : Act} {o : Oper} (w : World) (x y : Operand) (ho : o.op = .binOp .rem 3 x y 3) (n m : Nat) (hx : a.eval x = .int .i64 n) (hy : a.eval y = .int .i64 m) (hm : 0 < m) (hb : m < 4611686018427387904) :
    (execOp a.eval o).run Tryd.prog w = .ok (.value (.int .i64 ((n % m : Nat) : Int))) w := by
  have h0 : ¬ (m : Int) = 0 := by omega
  have hl := Nat.mod_lt n hm
  unfold execOp
  simp only [ho, hx, hy]
  go_simp
  rw [if_neg (by omega), Int.tmod_eq_emod_of_nonneg (by omega)]
theorem lb_cur {w : World} {g n cap : Nat} {cur : Array Value} {t : TypeId} {L : List Int} (h : w.heap[g]? = some (.cells cur t (0, 0))) (ht : cur.toList.take n = L.map (Value.int .u8)) (hn : L.length = n) (hb : IsB L) (hc : n ≤ cap) (hm : cap < 9223372036854775808) : Lb w (some ⟨g, 0, none⟩) n cap L := by
  refine ⟨hn, hb, .inr ⟨g, 0, rfl, fun j hj => ?_⟩, hc, hm⟩
  refine cell_of h ?_
  rw [Nat.zero_add, ← Array.getElem?_toList]
  have h1 : (cur.toList.take n)[j]? = (L.map (Value.int .u8))[j]? := by rw [ht]
  rw [List.getElem?_take, if_pos (by omega), List.getElem?_map, List.getElem?_eq_getElem hj] at h1
  rw [h1, List.getD_eq_getElem?_getD, List.getElem?_eq_getElem hj]
  rfl
theorem cur_set {cur : Array Value} {n k : Nat} {L : List Int} (ht : cur.toList.take n = L.map (Value.int .u8)) (hn : L.length = n) (hk : k < n) (x : Int) : (cur.setIfInBounds (0 + k) (.int .u8 x)).toList.take n = (L.set k x).map (Value.int .u8) := by
  rw [Nat.zero_add, Array.toList_setIfInBounds, List.take_set, ht, List.map_set]
theorem isB_set {L : List Int} (h : IsB L) (k : Nat) (x : Int) (hx : 0 ≤ x ∧ x < 256) : IsB (L.set k x) := by
  intro z hz
  rcases List.mem_or_eq_of_mem_set hz with h1 | h1
  · exact h z h1
  · rw [h1]
    exact hx
theorem set_app (U C : List Int) (k : Nat) (x : Int) (hU : U.length = 32) : (U ++ C).set k x = (if k < 32 then U.set k x else U) ++ (if k < 32 then C else C.set (k - 32) x) := by
  rw [List.set_append]
  split
  · rw [if_pos (by omega), if_pos (by omega)]
  · rw [if_neg (by omega), if_neg (by omega), hU]
theorem set_ne {C : List Int} {k : Nat} {y : Int} (hC : IsB C) (hk : k < C.length) (hy : 0 ≤ y ∧ y < 256) (h0 : y ≠ 0) : C.set k (xb (C.getD k 0) y) ≠ C := by
  intro e
  have h1 : (C.set k (xb (C.getD k 0) y))[k]? = C[k]? := by rw [e]
  rw [List.getElem?_set_self hk, List.getElem?_eq_getElem hk] at h1
  have h2 : C.getD k 0 = C[k] := by rw [List.getD_eq_getElem?_getD, List.getElem?_eq_getElem hk]; rfl
  rw [h2] at h1
  exact h0 (xb_same _ _ (hC _ (List.getElem_mem _)) hy (Option.some.inj h1))
theorem xb_top (x : Int) (hx : 0 ≤ x ∧ x < 256) : xb x 128 % 128 = x % 128 := (Cv.xor128 x 128 hx ⟨by omega, by omega⟩).2
end Go.Proofs.YtgabkfleidpipaaDoor
