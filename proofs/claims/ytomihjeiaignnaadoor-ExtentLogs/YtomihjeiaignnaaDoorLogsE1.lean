/-
  Of layer 11: what the proofs lean on.
-/
import Derived.Test.YtomihjeiaignnaaDoorRows
import Derived.ChangeOld
import Derived.SizedLaws
import Derived.LaidMore
import Derived.Stop.Joined
import Derived.ProofKit
import Derived.OpenShut
import Derived.Laws.BytesArg
import Derived.ChangeKeysEq
import Derived.WideShapes
import Derived.Deep.DeepAppendWide
import Derived.Deep.Strs
import Derived.Deep.Grids
import Derived.Lib.SmallJoins
import Derived.Test.YtomihjeiaignnaaDoorK7
namespace Go.Proofs.YtomihjeiaignnaaDoor
open Go.ChangeShapes Go.WideShapes Go.ChangeAt Go.RowKit
set_option maxRecDepth 100000
theorem open_word {W : World} {base : Nat} {v : Value} {H : Type} {enc : TypeId × Value → H} {d : DataW H} {p : List MemPlace} (hv : Value.okWide Tryd.prog W .any base 3 v) (h : DataW.Trod enc Tryd.prog W 0 (fun _ => true) true 3 v d p) : ∃ n, v = .int .i64 n ∧ -9223372036854775808 ≤ n ∧ n < 9223372036854775808 := by
  obtain ⟨n, h1, _, _, h4⟩ := open_int Tryd.underlying3 hv h
  have := bounds_i64 h4
  exact ⟨n, h1, by omega⟩
end Go.Proofs.YtomihjeiaignnaaDoor

namespace Go.Proofs.YtomihjeiaignnaaDoor
open Go.RowKit
set_option maxRecDepth 100000
set_option linter.unusedSimpArgs false
set_option linter.unusedVariables false
instance (D : Dk) (i : Int) : Decidable (D.has i) := by unfold Dk.has; exact inferInstance
theorem Ls.gr {k : Nat} {w v : World} {a : Option Addr} {n c : Nat} {R : List (List Value)} (h : Ls k w a n c R) (g : Gr w v) : Ls k v a n c R := by
  refine ⟨h.len, h.row, ?_, h.cap, h.max, fun p e => Nat.lt_of_lt_of_le (h.low p e) g.size⟩
  rcases h.sl with h | ⟨p, o, h1, h2⟩
  · exact .inl h
  · exact .inr ⟨p, o, h1, range_gr h2 g⟩
def Fr2 (w : World) (a a' : Option Addr) : Prop := ∀ p, blkOf a' = some p → blkOf a = some p ∨ w.heap.size ≤ p
theorem Fr2.none (w : World) (a : Option Addr) : Fr2 w a none := fun p h => by cases h
theorem Fr2.new {w : World} (a : Option Addr) {g o : Nat} (h : w.heap.size ≤ g) : Fr2 w a (some ⟨g, o, Option.none⟩) := fun p e => by
  have : g = p := by simpa [blkOf] using e
  exact .inr (by omega)
theorem exec_ii {a : Act} {o : Oper} (w : World) (x y : Operand) (ho : o.op = .indexAddr 47 x y) (g q len cap i : Nat) (hx : a.eval x = .slice (some ⟨g, q, none⟩) len cap) (hy : a.eval y = .int .i64 i) (hi : i < len) :
    (execOp a.eval o).run Tryd.prog w = .ok (.value (.pointer (some ⟨g, q + i, none⟩))) w := by
  have h1 : (i : Int) < (len : Int) := by omega
  unfold execOp
  simp only [ho, hx, hy]
  go_simp
theorem grown_owned {k : Nat} {e : TypeId} {b : Nat} {w u u' : World} {v : Value} {n : Nat} {xs : List Value} (h : u.ownsRow b e k v n xs) (hb : w.heap.size ≤ b) (g : Gr w u) (k : u.grownBy u' v.ownBlock) : Gr w u' := by
  refine ⟨k.os.trans g.os, k.tape.trans g.tape, k.output.trans g.output, Nat.le_trans g.size k.size, fun i hi => (k.block i (Nat.lt_of_lt_of_le hi g.size) ?_).trans (g.block i hi)⟩
  intro e
  have := (World.ownsRow.lt h i e.symm).1
  omega
theorem app_rows0 {t e : TypeId} {k nb : Nat} (L : Lt t e k nb) {w : World} {o : Oper} {a : Act} {K : Act → World → Prop} {Q : Exit → Act → World → Prop} (s x : Operand)
    (ho : o.op = .call { callee := .builtin .append, args := #[s, x], argTypes := #[t, t] }) (b : Nat) (v : Value) (R : List (List Value)) (hs : a.eval s = v) (hown : Or_ k e b w v R)
    (sp : Option Addr) (n sc : Nat) (l : List (List Value)) (hx : a.eval x = .slice sp n sc) (hn : l.length = n) (hrow : ∀ r ∈ l, r.length = k) (hsl : l = [] ∨ ∃ p o, sp = some ⟨p, o, none⟩ ∧ w.rangeAt p o l.flatten) (h1 : ∀ r ∈ l, ∀ u ∈ r, u.oneCell' = true) (hbig : ((R.length + n) + (R.length + n) / 4 + 192) * nb ≤ 281474976710656 ∧ R.length + n ≤ 4611686018427387904) (hB : b ≤ w.heap.size)
    (h : ∀ v' w', Or_ k e b w' v' (R ++ l) → w.grownBy w' v.ownBlock → K (a.put o.dst v') w') : o.wp Tryd.prog a w K Q := by
  obtain ⟨i0, z0, hi, hz0, hz1, hz2, hz3⟩ := L.hi
  have hnb := L.hn
  rcases hsl with rfl | ⟨p, q, rfl, hat⟩
  · obtain rfl : 0 = n := hn
    obtain ⟨a', c', rfl, hls⟩ := hown.ls
    have hc := hls.cap
    have hrun : (Builtin.append_ #[t, t] o.type #[.slice a' R.length c', .slice sp 0 sc]).run Tryd.prog w = .ok (.slice a' R.length c') w := by
      cases a' <;> cases sp <;> simp [Builtin.append_, run_underlying L.ht, sizeOf, typeInfo, hi, Builtin.lenOf, Builtin.firstCells, loadCells, loadCellsFrom, storeCells, hc]
    unfold Oper.wp
    simp [execOp, ho, resolve, invoke, builtin, hs, hx, hrun, Result.andThen]
    exact h _ _ (by rw [List.append_nil]; exact hown) (World.grownBy.refl _ _)
  · have hfl := flat_len l k hrow
    refine wp_append_own_wide w s x t ho b e i0 z0 k nb L.ht hi hz0 hz1 hz2 hz3 L.hk v R.length _ hs hown.2 ⟨p, q, none⟩ n sc l.flatten hx (by rw [hfl, hn]) ?_ ?_ (by unfold maxLen; omega) hbig.1 hB ?_
    · intro j u hj
      rw [Addr.add_mid]
      exact hat j u hj
    · intro u hu
      obtain ⟨r, hr, hu⟩ := List.mem_flatten.1 hu
      exact h1 r hr u hu
    · intro v' w' h1 h2 _
      refine h v' w' ⟨?_, ?_⟩ h2
      · intro r hr
        rcases List.mem_append.1 hr with hr | hr
        · exact hown.1 r hr
        · exact hrow r hr
      · rw [List.length_append, List.flatten_append, hn]
        exact h1
theorem app_rows {t e : TypeId} {k nb : Nat} (L : Lt t e k nb) {w : World} {o : Oper} {a : Act} {K : Act → World → Prop} {Q : Exit → Act → World → Prop} (s x : Operand)
    (ho : o.op = .call { callee := .builtin .append, args := #[s, x], argTypes := #[t, t] }) (b : Nat) (v : Value) (R : List (List Value)) (hs : a.eval s = v) (hown : Or_ k e b w v R)
    (sp : Option Addr) (n sc : Nat) (l : List (List Value)) (hx : a.eval x = .slice sp n sc) (hl : Ls k w sp n sc l) (h1 : ∀ r ∈ l, ∀ u ∈ r, u.oneCell' = true) (hbig : ((R.length + n) + (R.length + n) / 4 + 192) * nb ≤ 281474976710656 ∧ R.length + n ≤ 4611686018427387904) (hB : b ≤ w.heap.size)
    (h : ∀ v' w', Or_ k e b w' v' (R ++ l) → w.grownBy w' v.ownBlock → K (a.put o.dst v') w') : o.wp Tryd.prog a w K Q :=
  app_rows0 L s x ho b v R hs hown sp n sc l hx hl.len hl.row hl.sl h1 hbig hB h
theorem lt_b : Lt 36 50 64 64 := by
  obtain ⟨i, h1, h2, h3, h4⟩ := info_parts Tryd.infoBz
  exact ⟨Tryd.underlying36, ⟨i, _, h1, h2, h3, h4, rfl⟩, by decide, by decide⟩
theorem Bl.grownR {w v v' : World} {L : List Blk} (h : Bl w L v) {k : Nat} {e : TypeId} {b : Nat} {x : Value} {R : List (List Value)} (ho : Or_ k e b v x R) (hb : w.heap.size ≤ b) (g : v.grownBy v' x.ownBlock) (ht : ∀ y ∈ L, y.t ≠ e) : Bl w L v' := by
  refine ⟨grown_owned ho.2 hb h.gr g, fun y hy => ⟨?_, (h.at_ y hy).2⟩, h.ne⟩
  have h1 := (h.at_ y hy).1
  rw [g.block y.g (lt_of_block h1) ?_]
  · exact h1
  · intro e2
    rcases ho.2.2 with ⟨rfl, _⟩ | ⟨p, cap, cur, rfl, _, h4, _⟩
    · simp [Value.ownBlock] at e2
    · have e3 : y.g = p := by simpa [Value.ownBlock] using e2
      rw [e3, h4] at h1
      have := Option.some.inj h1
      unfold Blk.obj at this
      injection this with _ h6 _
      exact ht y hy h6.symm
theorem exec_neB {a : Act} {o : Oper} (w : World) (x y : Operand) (ho : o.op = .binOp .neq 50 x y 50) (b : List Int) (hb : b.length = 64) (hx : a.eval x = .agg (kc b)) (hy : a.eval y = .agg (kc b)) : (execOp a.eval o).run Tryd.prog w = .ok (.value (.bool false)) w := by
  have h := eq_B b b hb hb w
  rw [show decide (b = b) = true from decide_eq_true rfl] at h
  unfold execOp
  simp only [ho, hx, hy]
  go_simp
def iv (l : List Int) : List (List Value) := l.map fun x => [Value.int .i64 x]
def Pnd (l : List Int) (w : World) (r : Ending) (w' : World) : Prop := ∃ v, r = .returned v ∧ Or_ 1 3 w.heap.size w' v (iv l) ∧ Gr w w'
def ic (l : List Int) : Array Value := (l.map (Value.int .i64)).toArray
theorem ic_size (l : List Int) : (ic l).size = l.length := by unfold ic; simp
theorem ic_set (l : List Int) (i : Nat) (x : Int) : (ic l).setIfInBounds i (.int .i64 x) = ic (l.set i x) := by
  unfold ic
  rw [List.setIfInBounds_toArray, List.map_set]
theorem ivp_flat : ∀ (l : List Int), (iv l).flatten = l.map (Value.int .i64)
  | [] => rfl
  | x :: l => by
    have ih := ivp_flat l
    unfold iv at ih ⊢
    rw [List.map_cons, List.flatten_cons, ih]
    rfl
theorem tk_len (L : List Int) (j n : Nat) (hL : L.length = n) (h : j ≤ n) : (tk L j n).length = n := by unfold tk; simp; omega
theorem tk_set (L : List Int) (j n : Nat) (hL : L.length = n) (h : j < n) : (tk L j n).set j (L.getD j 0) = tk L (j + 1) n := by
  unfold tk
  have e1 : (L.take j).length = j := by simp; omega
  rw [List.set_append_right _ _ (by omega), e1, Nat.sub_self, show n - j = (n - (j + 1)) + 1 from by omega, List.replicate_succ, List.set_cons_zero]
  rw [List.take_add_one, List.append_assoc, List.getD_eq_getElem?_getD, List.getElem?_eq_getElem (by omega)]
  rfl
theorem tk_all (L : List Int) (n : Nat) (hL : L.length = n) : tk L n n = L := by unfold tk; rw [Nat.sub_self, List.replicate_zero, List.append_nil, List.take_of_length_le (by omega)]
theorem tk_none (L : List Int) (n : Nat) : tk L 0 n = List.replicate n 0 := by unfold tk; simp
theorem Tryd.infoIz : (Tryd.prog.info? 3).map (fun i => (i.zero, i.size, i.bytes)) = some (some (.int .i64 0), 1, 8) := by kernel_rfl
theorem make_ints (w : World) {ops : Array Oper} {rest : List Oper} {o : Oper} {a : Act} {Q : Exit → Act → World → Prop} (hgd : o.guard = none) (l c : Operand) (hop : o.op = Op.makeSlice 47 l c) (n : Nat) (hl : a.eval l = .int .i64 n) (hc : a.eval c = .int .i64 n) (hn : n ≤ 1000000)
    (h : wpList Tryd.prog ops Q rest (a.put o.dst (.slice (some ⟨w.heap.size, 0, none⟩) n n)) (w.alloc (.cells (ic (List.replicate n 0)) 3 (0, 0)))) : wpList Tryd.prog ops Q (o :: rest) a w := by
  obtain ⟨i, h2, h3, h4, h5⟩ := info_parts Tryd.infoIz
  have hrun := run_make (P := Tryd.prog) w 47 3 i (.int .i64 0) Tryd.underlying47 h2 h3 .i64 .i64 (n : Int) (n : Int) (by omega) (by omega) (by rw [h5]; omega) (by omega)
  rw [h4] at hrun
  have e : madeCells (Value.int .i64 0).cells n = ic (List.replicate n 0) := by
    apply Array.ext
    · simp [size_madeCells, ic]
    · intro i h1 h2
      have : i % 1 = 0 := Nat.mod_one i
      simp [madeCells, Value.cells, this, ic]
  simp only [Int.toNat_natCast, Nat.mul_one, e] at hrun
  rw [wpList, if_pos (by simp [Region.wanted, hgd])]
  refine Or.inl ?_
  unfold Oper.wp
  simp [execOp, hop, hl, hc, hrun, Result.andThen]
  exact h
set_option maxHeartbeats 4000000 in
theorem dpending_p (g : Nat) (D : Dk) (sg sc : Nat) (C : List Value) (pa : Option Addr) (pc : Nat) (l : Int) (m : Nat) (hD : D.Ok m) (hm : m ≤ 1000000) (w : World) (hP : Pd g D w sg sc C pa pc l) : Calls Tryd.prog 21 #[P0 g] w (Pnd (D.pend.map fun x => (x.1 : Int)) w) := by
  obtain ⟨T, hT⟩ : ∃ T, T = Pnd (D.pend.map fun x => (x.1 : Int)) w := ⟨_, rfl⟩
  rw [← hT]
  replace hT := hide hT
  obtain ⟨dd, hdd⟩ : ∃ x, x = D.dead := ⟨_, rfl⟩
  obtain ⟨sn, hsn⟩ : ∃ n, n = D.safe.length := ⟨_, rfl⟩
  obtain ⟨pn, hpn⟩ : ∃ n, n = D.pend.length := ⟨_, rfl⟩
  obtain ⟨os, hos⟩ : ∃ n, n = D.ops := ⟨_, rfl⟩
  have hcl := hP.cel
  rw [← hdd, ← hsn, ← hpn, ← hos] at hcl
  replace hdd := hide hdd; replace hsn := hide hsn; replace hpn := hide hpn; replace hos := hide hos; replace hcl := hide hcl; replace hP := hide hP
  have hpm : pn ≤ 1000000 := by rw [unhide hpn]; exact Nat.le_trans hD.num hm
  obtain ⟨L, hL⟩ : ∃ L : List Int, L = D.pend.map fun x => (x.1 : Int) := ⟨_, rfl⟩
  have hLl : L.length = pn := by rw [hL, List.length_map, unhide hpn]
  replace hD := hide hD; replace hL := hide hL
  go_enter Tryd.func21, Tryd.ntmps21
  go_upto_region 1 with fail
  refine wp_region_lit ?_
  refine list_val (.pointer (some ⟨g, 0, none⟩)) (by kernel_rfl) (by kernel_rfl) ?_
  simp only [Act.put, List.setIfInBounds_toArray, List.set_cons_zero, List.set_cons_succ, List.getElem_toArray, List.getElem_cons_zero, List.getElem_cons_succ]
  refine list_val (.bool false) (by kernel_rfl) (by kernel_rfl) ?_
  simp only [Act.put, List.setIfInBounds_toArray, List.set_cons_zero, List.set_cons_succ, List.getElem_toArray, List.getElem_cons_zero, List.getElem_cons_succ]
  refine wpList_nil ?_
  have hB := Bl.nil w
  replace hB := hide hB
  go_upto_region 3 with fail
  replace hB := unhide hB
  refine wp_region_lit ?_
  refine list_val (.pointer (some ⟨g, 0, none⟩)) (by kernel_rfl) (by kernel_rfl) ?_
  simp only [Act.put, List.setIfInBounds_toArray, List.set_cons_zero, List.set_cons_succ, List.getElem_toArray, List.getElem_cons_zero, List.getElem_cons_succ]
  refine list_val (.pointer (some ⟨g, 0, none⟩)) (by kernel_rfl) (by kernel_rfl) ?_
  simp only [Act.put, List.setIfInBounds_toArray, List.set_cons_zero, List.set_cons_succ, List.getElem_toArray, List.getElem_cons_zero, List.getElem_cons_succ]
  refine list_val (.pointer (some ⟨g, 1, none⟩)) (by kernel_rfl) (by kernel_rfl) ?_
  simp only [Act.put, List.setIfInBounds_toArray, List.set_cons_zero, List.set_cons_succ, List.getElem_toArray, List.getElem_cons_zero, List.getElem_cons_succ]
  refine list_val (.slice pa pn pc) (by kernel_rfl) (exec_spw _ (.tmp 10) rfl g 1 (by kernel_rfl) pa pn pc (cell_of (hB.gr.blk (unhide hcl)) (i := 1) rfl)) ?_
  simp only [Act.put, List.setIfInBounds_toArray, List.set_cons_zero, List.set_cons_succ, List.getElem_toArray, List.getElem_cons_zero, List.getElem_cons_succ]
  refine list_val (.int .i64 pn) (by kernel_rfl) (by kernel_rfl) ?_
  simp only [Act.put, List.setIfInBounds_toArray, List.set_cons_zero, List.set_cons_succ, List.getElem_toArray, List.getElem_cons_zero, List.getElem_cons_succ]
  refine make_ints w rfl (.tmp 12) (.tmp 12) rfl pn rfl rfl (by omega) ?_
  simp only [Act.put, List.setIfInBounds_toArray, List.set_cons_zero, List.set_cons_succ, List.getElem_toArray, List.getElem_cons_zero, List.getElem_cons_succ]
  replace hB := hB.new (ic (List.replicate pn 0)) 3
  simp only [List.nil_append, List.cons_append] at hB
  obtain ⟨gk, hgk⟩ : ∃ x, x = w.heap.size := ⟨_, rfl⟩
  rw [← hgk] at hB ⊢
  replace hgk := hide hgk
  generalize World.alloc _ _ = u1 at *
  (refine wpList_step fun K hK => ?_; replace hK := hide hK; go_simp; refine unhide hK _ _ ?_; clear hK K)
  refine wpList_nil ?_
  replace hB := hide hB
  go_upto_region 4 with fail
  replace hB := unhide hB
  refine wp_region_lit ?_
  refine list_val (.pointer (some ⟨g, 0, none⟩)) (by kernel_rfl) (by kernel_rfl) ?_
  simp only [Act.put, List.setIfInBounds_toArray, List.set_cons_zero, List.set_cons_succ, List.getElem_toArray, List.getElem_cons_zero, List.getElem_cons_succ]
  refine list_val (.pointer (some ⟨g, 0, none⟩)) (by kernel_rfl) (by kernel_rfl) ?_
  simp only [Act.put, List.setIfInBounds_toArray, List.set_cons_zero, List.set_cons_succ, List.getElem_toArray, List.getElem_cons_zero, List.getElem_cons_succ]
  refine list_val (.pointer (some ⟨g, 1, none⟩)) (by kernel_rfl) (by kernel_rfl) ?_
  simp only [Act.put, List.setIfInBounds_toArray, List.set_cons_zero, List.set_cons_succ, List.getElem_toArray, List.getElem_cons_zero, List.getElem_cons_succ]
  refine list_val (.slice pa pn pc) (by kernel_rfl) (exec_spw _ (.tmp 16) rfl g 1 (by kernel_rfl) pa pn pc (cell_of (hB.gr.blk (unhide hcl)) (i := 1) rfl)) ?_
  simp only [Act.put, List.setIfInBounds_toArray, List.set_cons_zero, List.set_cons_succ, List.getElem_toArray, List.getElem_cons_zero, List.getElem_cons_succ]
  refine list_val (.int .i64 pn) (by kernel_rfl) (by kernel_rfl) ?_
  simp only [Act.put, List.setIfInBounds_toArray, List.set_cons_zero, List.set_cons_succ, List.getElem_toArray, List.getElem_cons_zero, List.getElem_cons_succ]
  refine list_val (.int .i64 0) (by kernel_rfl) (by kernel_rfl) ?_
  simp only [Act.put, List.setIfInBounds_toArray, List.set_cons_zero, List.set_cons_succ, List.getElem_toArray, List.getElem_cons_zero, List.getElem_cons_succ]
  refine wpList_nil ?_
  rw [← tk_none L pn] at hB
  replace hB := hide hB
  go_wp2_with fail
  go_loopw [19] (fun i wr => ∃ j : Nat, j ≤ pn ∧ i = .int .i64 j ∧ Hid (Bl w [⟨gk, ic (tk L j pn), 3⟩] wr)) (fun i _ => pn - (intOf i).toNat)
  case atStart => exact ⟨0, by omega, rfl, hB⟩
  case round =>
  clear hB
  obtain ⟨j, hj, rfl, hB⟩ := hrel
  by_cases hjl : j < pn
  · skip
    obtain ⟨p2, o2, rfl, hrw⟩ := (unhide hP).pls.at_ j (by rw [← unhide hpn]; exact hjl)
    rw [getD_map wv D.pend j (0, []) [] (by rw [← unhide hpn]; exact hjl)] at hrw
    have hx := (unhide hD).pnd _ (mem_of_getD (d := (0, [])) (by rw [← unhide hpn]; exact hjl))
    obtain ⟨⟨ai, ab⟩, hab⟩ : ∃ x, x = D.pend.getD j (0, []) := ⟨_, rfl⟩
    rw [← hab] at hrw hx
    have hLj : L.getD j 0 = (ai : Int) := by
      rw [unhide hL, getD_map (fun x : Nat × List Int => (x.1 : Int)) D.pend j (0, []) 0 (by rw [← unhide hpn]; exact hjl), ← hab]
    have hal : ab.length = 64 := hx.2.1
    have hwl : (wv (ai, ab)).length = 65 := by rw [wv_len, hal]
    have hset := tk_set L j pn hLl hjl
    rw [hLj] at hset
    replace hab := hide hab; replace hx := hide hx; replace hrw := hide hrw; replace hLj := hide hLj; replace hset := hide hset
    have jI : (j : Int) < (pn : Int) := by omega
    replace hB := hide hB
    go_upto_region 6 with fail
    replace hB := unhide hB
    refine wp_region_lit ?_
    refine list_val (.int .i64 j) (by kernel_rfl) (by kernel_rfl) ?_
    simp only [Act.put, List.setIfInBounds_toArray, List.set_cons_zero, List.set_cons_succ, List.getElem_toArray, List.getElem_cons_zero, List.getElem_cons_succ]
    refine list_val (.pointer (some ⟨p2, o2 + 65 * j, none⟩)) (by kernel_rfl) (exec_ipw _ (.tmp 17) (.tmp 19) rfl p2 o2 pn pc j rfl rfl hjl) ?_
    simp only [Act.put, List.setIfInBounds_toArray, List.set_cons_zero, List.set_cons_succ, List.getElem_toArray, List.getElem_cons_zero, List.getElem_cons_succ]
    refine list_val (.agg ((wv (ai, ab)).toArray)) (by kernel_rfl) (exec_row _ 99 (.tmp 22) rfl p2 (o2 + 65 * j) (by kernel_rfl) (wv (ai, ab)) _ (range_gr (unhide hrw) hB.gr) Tryd.underlying99 rfl (by rw [Tryd.infoPW, hwl])) ?_
    simp only [Act.put, List.setIfInBounds_toArray, List.set_cons_zero, List.set_cons_succ, List.getElem_toArray, List.getElem_cons_zero, List.getElem_cons_succ]
    refine list_valw (.pointer (some ⟨wr.heap.size, 0, none⟩)) (wr.alloc (.cells ((wv (0, ZB)).toArray) 99 (0, 0))) (by kernel_rfl) (by kernel_rfl) ?_
    replace hB := hB.new ((wv (0, ZB)).toArray) 99
    simp only [List.nil_append, List.cons_append] at hB
    generalize World.alloc _ _ = v1 at *
    generalize wr.heap.size = g8 at *
    replace hB : Bl w [⟨gk, ic (tk L j pn), 3⟩, ⟨g8, (wv (0, ZB)).toArray, 99⟩] v1 := hB
    simp only [Act.put, List.setIfInBounds_toArray, List.set_cons_zero, List.set_cons_succ, List.getElem_toArray, List.getElem_cons_zero, List.getElem_cons_succ]
    (refine wpList_step fun K hK => ?_; replace hK := hide hK; go_simp; refine unhide hK _ _ ?_; clear hK K)
    refine list_store 99 (.tmp 5) (.tmp 23) g8 ((wv (ai, ab)).toArray) 99 ((wv (0, ZB)).toArray) (by kernel_rfl) rfl (by kernel_rfl) (by kernel_rfl) (hB.get 1 (x := ⟨g8, (wv (0, ZB)).toArray, 99⟩) rfl) (by rw [Tryd.infoPW, List.size_toArray, hwl]) ((show ((wv (0, ZB)).toArray).size = 65 from rfl).trans (by rw [List.size_toArray, hwl])) (wv_one _) ?_
    replace hB := hB.set 1 (x := ⟨g8, (wv (0, ZB)).toArray, 99⟩) rfl ((wv (ai, ab)).toArray)
    simp only [List.set_cons_zero, List.set_cons_succ] at hB
    generalize World.setRow _ _ _ = v2 at *
    replace hB : Bl w [⟨gk, ic (tk L j pn), 3⟩, ⟨g8, (wv (ai, ab)).toArray, 99⟩] v2 := hB
    simp only [Act.put, List.setIfInBounds_toArray, List.set_cons_zero, List.set_cons_succ, List.getElem_toArray, List.getElem_cons_zero, List.getElem_cons_succ]
    refine wpList_nil ?_
    replace hB := hide hB
    go_upto_region 7 with fail
    replace hB := unhide hB
    refine wp_region_lit ?_
    refine list_val (.slice (some ⟨gk, 0, none⟩) pn pn) (by kernel_rfl) (by kernel_rfl) ?_
    simp only [Act.put, List.setIfInBounds_toArray, List.set_cons_zero, List.set_cons_succ, List.getElem_toArray, List.getElem_cons_zero, List.getElem_cons_succ]
    refine list_val (.int .i64 j) (by kernel_rfl) (by kernel_rfl) ?_
    simp only [Act.put, List.setIfInBounds_toArray, List.set_cons_zero, List.set_cons_succ, List.getElem_toArray, List.getElem_cons_zero, List.getElem_cons_succ]
    refine list_val (.pointer (some ⟨g8, 0, none⟩)) (by kernel_rfl) (by kernel_rfl) ?_
    simp only [Act.put, List.setIfInBounds_toArray, List.set_cons_zero, List.set_cons_succ, List.getElem_toArray, List.getElem_cons_zero, List.getElem_cons_succ]
    refine list_val (.int .i64 (ai : Int)) (by kernel_rfl) (exec_i64 _ (.tmp 26) rfl g8 0 (by kernel_rfl) _ (cell_of (hB.get 1 (x := ⟨g8, (wv (ai, ab)).toArray, 99⟩) rfl) (i := 0) rfl)) ?_
    simp only [Act.put, List.setIfInBounds_toArray, List.set_cons_zero, List.set_cons_succ, List.getElem_toArray, List.getElem_cons_zero, List.getElem_cons_succ]
    refine list_val (.pointer (some ⟨gk, 0 + j, none⟩)) (by kernel_rfl) (exec_ii _ (.tmp 24) (.tmp 25) rfl gk 0 pn pn j rfl rfl hjl) ?_
    simp only [Act.put, List.setIfInBounds_toArray, List.set_cons_zero, List.set_cons_succ, List.getElem_toArray, List.getElem_cons_zero, List.getElem_cons_succ]
    rw [Nat.zero_add]
    have c0 := cell_of (i := j) (hB.get 0 (x := ⟨gk, ic (tk L j pn), 3⟩) rfl) (Array.getElem?_eq_getElem (by dsimp only; rw [ic_size, tk_len _ _ _ hLl hj]; exact hjl))
    have fz := froz_of (i := j) (hB.get 0 (x := ⟨gk, ic (tk L j pn), 3⟩) rfl)
    have hB2 := hB.cell 0 (x := ⟨gk, ic (tk L j pn), 3⟩) rfl j (.int .i64 (ai : Int))
    simp only [List.set_cons_zero, List.set_cons_succ, ic_set, unhide hset] at hB2
    have hB3 : Hid (Bl w [⟨gk, ic (tk L (j + 1) pn), 3⟩] _) := Bl.left (M := [⟨g8, (wv (ai, ab)).toArray, 99⟩]) hB2
    clear hB hB2
    dsimp only at c0 fz
    generalize (ic (tk L j pn))[j]'_ = z at c0
    (refine wpList_step fun K hK => ?_; replace hK := hide hK; go_simp; refine unhide hK _ _ ?_; clear hK K)
    clear c0 fz
    refine wpList_nil ?_
    go_wp2_with fail
    go_roundw
    case rel => exact ⟨j + 1, by omega, by go_num, hB3⟩
    case measure => simp [intOf]; omega
  have jI : ¬ (j : Int) < (pn : Int) := by omega
  have hZ : Hid (Pnd (D.pend.map fun x => (x.1 : Int)) w (.returned (.slice (some ⟨gk, 0, none⟩) pn pn)) wr) := by
    have e : j = pn := by omega
    have h := (unhide hB).get 0 (x := ⟨gk, ic (tk L j pn), 3⟩) rfl
    dsimp only at h
    rw [e, tk_all L pn hLl] at h
    refine ⟨_, rfl, ⟨?_, ?_, .inr ⟨gk, pn, ic L, ?_, (unhide hB).own 0 (x := ⟨gk, ic (tk L j pn), 3⟩) rfl, h, ?_, by unfold maxLen; omega, ?_, ?_⟩⟩, (unhide hB).gr⟩
    · intro r hr
      unfold iv at hr
      obtain ⟨x, _, rfl⟩ := List.mem_map.1 hr
      rfl
    · rw [← unhide hL, ivp_flat, List.length_map]
      unfold iv
      rw [List.length_map, Nat.mul_one]
    · rw [← unhide hL]
      unfold iv
      rw [List.length_map, hLl]
    · rw [← unhide hL]
      unfold iv
      rw [List.length_map, hLl]
      exact Nat.le_refl _
    · rw [ic_size, hLl, Nat.mul_one]
    · rw [← unhide hL, ivp_flat]
      unfold iv ic
      rw [List.length_map, Nat.mul_one, List.take_of_length_le (by simp)]
  clear hB
  go_wp2_with fail
  rw [unhide hT]
  exact unhide hZ
theorem dpending_ok (F : List Nat) (g m : Nat) (D : Dk) (hD : D.Ok m) (hm : m ≤ 1000000) (w : World) (h : Lies F g D w) : Calls Tryd.prog 21 #[P0 g] w (Pnd (D.pend.map fun x => (x.1 : Int)) w) := by
  obtain ⟨sg, sc, C, pa, pc, l, h, rfl⟩ := h
  exact dpending_p g D sg sc C pa pc l m hD hm w h
set_option maxHeartbeats 4000000 in
theorem settle_c (g : Nat) (D : Dk) (sg sc : Nat) (C : List Value) (pa : Option Addr) (pc : Nat) (l : Int) (keep : List Bool) (kb : Nat) (m : Nat) (hD : D.Ok m) (hm : m ≤ 1000001) (w : World) (hP : Pd g D w sg sc C pa pc l) (hC : ∀ (v : World), Chg [g, sg] [g, sg] w v → ∀ j : Nat, j < D.pend.length → Calls Tryd.prog 58 #[.int .i64 (j : Int), .pointer (some ⟨kb, 0, none⟩)] v (Vl (.bool (keep.getD j false)) v)) : Calls Tryd.prog 57 #[P0 g, .func (.func 58) #[] #[.pointer (some ⟨kb, 0, none⟩)]] w (Stl g (D.live keep) sg sc l w) := by
  obtain ⟨T, hT⟩ : ∃ T, T = Stl g (D.live keep) sg sc l w := ⟨_, rfl⟩
  rw [← hT]
  replace hT := hide hT
  obtain ⟨S, hS⟩ : ∃ x, x = D.safe := ⟨_, rfl⟩
  obtain ⟨P, hPp⟩ : ∃ x, x = D.pend := ⟨_, rfl⟩
  obtain ⟨dd, hdd⟩ : ∃ x, x = D.dead := ⟨_, rfl⟩
  obtain ⟨sn, hsn⟩ : ∃ n, n = D.safe.length := ⟨_, rfl⟩
  obtain ⟨pn, hpn⟩ : ∃ n, n = D.pend.length := ⟨_, rfl⟩
  obtain ⟨os, hos⟩ : ∃ n, n = D.ops := ⟨_, rfl⟩
  have hcl := hP.cel
  rw [← hdd, ← hsn, ← hpn, ← hos] at hcl
  replace hdd := hide hdd; replace hsn := hide hsn; replace hpn := hide hpn; replace hos := hide hos; replace hcl := hide hcl; replace hP := hide hP
  have hpm : pn ≤ 1000001 := by rw [unhide hpn]; exact Nat.le_trans hD.num hm
  have hs512 : sn ≤ 512 := by rw [unhide hsn]; exact hD.hi1
  have hB := (unhide hP).two (F := [g, sg]) (by simp) (by simp)
  rw [← unhide hdd, ← unhide hsn, ← unhide hpn, ← unhide hos] at hB
  have hCl := (unhide hP).len
  have hsc : sn ≤ sc := by rw [unhide hsn]; exact (unhide hP).cap
  have hCov : Cov C (S.map bv).flatten := by rw [hS]; exact (unhide hP).cov
  have hlsn : Hid (S.length = sn) := by show S.length = sn; rw [hS, unhide hsn]
  have hlpn : Hid (P.length = pn) := by show P.length = pn; rw [hPp, unhide hpn]
  have hDS : Hid (∀ b ∈ S, BB b) := by show ∀ b ∈ S, BB b; rw [hS]; exact hD.blk
  have hDP : Hid (∀ x ∈ P, x.1 < S.length ∧ BB x.2) := by show ∀ x ∈ P, x.1 < S.length ∧ BB x.2; rw [hS, hPp]; exact hD.pnd
  have hls : Hid (Ls 65 w pa pn pc (P.map wv)) := by show Ls 65 w pa pn pc (P.map wv); rw [hPp, unhide hpn]; exact (unhide hP).pls
  have hpf : Hid (∀ i, blkOf pa = some i → i ∉ [g, sg]) := fun i hi => by have := (unhide hP).pg_ne hi; simp [this.1, this.2]
  rw [← unhide hpn] at hC
  replace hD := hide hD; replace hB := hide hB; replace hC := hide hC; replace hS := hide hS; replace hPp := hide hPp
  go_enter Tryd.func57, Tryd.ntmps57
  go_upto_region 0 with fail
  replace hB := unhide hB
  refine wp_region_lit ?_
  refine list_val (.pointer (some ⟨g, 0, none⟩)) (by kernel_rfl) (by kernel_rfl) ?_
  simp only [Act.put, List.setIfInBounds_toArray, List.set_cons_zero, List.set_cons_succ, List.getElem_toArray, List.getElem_cons_zero, List.getElem_cons_succ]
  refine list_val (.pointer (some ⟨g, 0, none⟩)) (by kernel_rfl) (by kernel_rfl) ?_
  simp only [Act.put, List.setIfInBounds_toArray, List.set_cons_zero, List.set_cons_succ, List.getElem_toArray, List.getElem_cons_zero, List.getElem_cons_succ]
  refine list_val (.pointer (some ⟨g, 1, none⟩)) (by kernel_rfl) (by kernel_rfl) ?_
  simp only [Act.put, List.setIfInBounds_toArray, List.set_cons_zero, List.set_cons_succ, List.getElem_toArray, List.getElem_cons_zero, List.getElem_cons_succ]
  refine list_val (.slice pa pn pc) (by kernel_rfl) (exec_spw _ (.tmp 8) rfl g 1 (by kernel_rfl) pa pn pc (cell_of (hB.get 0 (x := ⟨g, pdv (some ⟨sg, 0, none⟩) sn sc pa pn pc l os dd, 77⟩) rfl) (i := 1) rfl)) ?_
  simp only [Act.put, List.setIfInBounds_toArray, List.set_cons_zero, List.set_cons_succ, List.getElem_toArray, List.getElem_cons_zero, List.getElem_cons_succ]
  refine list_val (.int .i64 pn) (by kernel_rfl) (by kernel_rfl) ?_
  simp only [Act.put, List.setIfInBounds_toArray, List.set_cons_zero, List.set_cons_succ, List.getElem_toArray, List.getElem_cons_zero, List.getElem_cons_succ]
  refine list_val (.int .i64 0) (by kernel_rfl) (by kernel_rfl) ?_
  simp only [Act.put, List.setIfInBounds_toArray, List.set_cons_zero, List.set_cons_succ, List.getElem_toArray, List.getElem_cons_zero, List.getElem_cons_succ]
  refine wpList_nil ?_
  have hscx : sn * 64 ≤ sc * 64 := Nat.mul_le_mul_right _ hsc
  obtain ⟨cz, hcz⟩ : ∃ z, z = sc * 64 := ⟨_, rfl⟩
  rw [← hcz] at hCl hscx
  replace hcz := hide hcz
  replace hCov : Hid (Cov C ((liv S P keep 0).map bv).flatten) := hCov
  replace hB := hide hB
  go_wp2_with fail
  go_loopw [11] (fun i wr => ∃ j : Nat, ∃ C : List Value, j ≤ pn ∧ i = .int .i64 j ∧ C.length = cz ∧ Hid (Cov C ((liv S P keep j).map bv).flatten) ∧ Hid (Bc [g, sg] w [⟨g, pdv (some ⟨sg, 0, none⟩) sn sc pa pn pc l os dd, 77⟩, ⟨sg, C.toArray, 50⟩] wr)) (fun i _ => pn - (intOf i).toNat)
  case atStart => exact ⟨0, C, by omega, rfl, hCl, hCov, hB⟩
  case round =>
  clear hB hCov hCl
  obtain ⟨j, C2, hj, rfl, hCl, hCov, hB⟩ := hrel
  by_cases hjl : j < pn
  · skip
    obtain ⟨p2, o2, rfl, hrw⟩ := (unhide hls).at_ j hjl
    rw [getD_map wv P j (0, []) [] (by rw [unhide hlpn]; exact hjl)] at hrw
    have hx := unhide hDP _ (mem_of_getD (d := (0, [])) (by rw [unhide hlpn]; exact hjl))
    have hnx : Hid (liv S P keep (j + 1) = if keep.getD j false then (liv S P keep j).set (P.getD j (0, [])).1 (P.getD j (0, [])).2 else liv S P keep j) := rfl
    obtain ⟨⟨ai, ab⟩, hab⟩ : ∃ x, x = P.getD j (0, []) := ⟨_, rfl⟩
    rw [← hab] at hrw hx hnx
    have hal : ab.length = 64 := hx.2.1
    have hai : ai < sn := by rw [← unhide hlsn]; exact hx.1
    have hwl : (wv (ai, ab)).length = 65 := by rw [wv_len, hal]
    have hlb : Hid (∀ b ∈ liv S P keep j, BB b) := liv_bb (unhide hDS) (fun x hx => (unhide hDP x hx).2) keep j (by rw [unhide hlpn]; exact hj)
    have hp2 : p2 ∉ [g, sg] := unhide hpf p2 rfl
    replace hab := hide hab; replace hx := hide hx; replace hrw := hide hrw; replace hp2 := hide hp2
    have jI : (j : Int) < (pn : Int) := by omega
    go_upto_region 2 with fail
    replace hB := unhide hB
    refine wp_region_lit ?_
    refine list_val (.int .i64 j) (by kernel_rfl) (by kernel_rfl) ?_
    simp only [Act.put, List.setIfInBounds_toArray, List.set_cons_zero, List.set_cons_succ, List.getElem_toArray, List.getElem_cons_zero, List.getElem_cons_succ]
    refine list_val (.pointer (some ⟨p2, o2 + 65 * j, none⟩)) (by kernel_rfl) (exec_ipw _ (.tmp 9) (.tmp 11) rfl p2 o2 pn pc j rfl rfl hjl) ?_
    simp only [Act.put, List.setIfInBounds_toArray, List.set_cons_zero, List.set_cons_succ, List.getElem_toArray, List.getElem_cons_zero, List.getElem_cons_succ]
    refine list_val (.agg ((wv (ai, ab)).toArray)) (by kernel_rfl) (exec_row _ 99 (.tmp 14) rfl p2 (o2 + 65 * j) (by kernel_rfl) (wv (ai, ab)) _ (range_chg (unhide hrw) hB.chg (unhide hp2)) Tryd.underlying99 rfl (by rw [Tryd.infoPW, hwl])) ?_
    simp only [Act.put, List.setIfInBounds_toArray, List.set_cons_zero, List.set_cons_succ, List.getElem_toArray, List.getElem_cons_zero, List.getElem_cons_succ]
    refine list_valw (.pointer (some ⟨wr.heap.size, 0, none⟩)) (wr.alloc (.cells ((wv (0, ZB)).toArray) 99 (0, 0))) (by kernel_rfl) (by kernel_rfl) ?_
    replace hB := hB.new ((wv (0, ZB)).toArray) 99
    simp only [List.nil_append, List.cons_append] at hB
    generalize World.alloc _ _ = v1 at *
    generalize wr.heap.size = g8 at *
    replace hB : Bc [g, sg] w [⟨g, pdv (some ⟨sg, 0, none⟩) sn sc (some ⟨p2, o2, none⟩) pn pc l os dd, 77⟩, ⟨sg, C2.toArray, 50⟩, ⟨g8, (wv (0, ZB)).toArray, 99⟩] v1 := hB
    simp only [Act.put, List.setIfInBounds_toArray, List.set_cons_zero, List.set_cons_succ, List.getElem_toArray, List.getElem_cons_zero, List.getElem_cons_succ]
    (refine wpList_step fun K hK => ?_; replace hK := hide hK; go_simp; refine unhide hK _ _ ?_; clear hK K)
    refine list_store 99 (.tmp 5) (.tmp 15) g8 ((wv (ai, ab)).toArray) 99 ((wv (0, ZB)).toArray) (by kernel_rfl) rfl (by kernel_rfl) (by kernel_rfl) (hB.get 2 (x := ⟨g8, (wv (0, ZB)).toArray, 99⟩) rfl) (by rw [Tryd.infoPW, List.size_toArray, hwl]) ((show ((wv (0, ZB)).toArray).size = 65 from rfl).trans (by rw [List.size_toArray, hwl])) (wv_one _) ?_
    replace hB := hB.set 2 (x := ⟨g8, (wv (0, ZB)).toArray, 99⟩) rfl ((wv (ai, ab)).toArray)
    simp only [List.set_cons_zero, List.set_cons_succ] at hB
    generalize World.setRow _ _ _ = v2 at *
    replace hB : Bc [g, sg] w [⟨g, pdv (some ⟨sg, 0, none⟩) sn sc (some ⟨p2, o2, none⟩) pn pc l os dd, 77⟩, ⟨sg, C2.toArray, 50⟩, ⟨g8, (wv (ai, ab)).toArray, 99⟩] v2 := hB
    simp only [Act.put, List.setIfInBounds_toArray, List.set_cons_zero, List.set_cons_succ, List.getElem_toArray, List.getElem_cons_zero, List.getElem_cons_succ]
    refine wpList_nil ?_
    replace hB := hide hB
    go_upto_region 3 with fail
    replace hB := unhide hB
    refine wp_region_lit ?_
    refine list_val (.func (.func 58) #[] #[.pointer (some ⟨kb, 0, none⟩)]) (by kernel_rfl) (by kernel_rfl) ?_
    simp only [Act.put, List.setIfInBounds_toArray, List.set_cons_zero, List.set_cons_succ, List.getElem_toArray, List.getElem_cons_zero, List.getElem_cons_succ]
    refine list_val (.int .i64 j) (by kernel_rfl) (by kernel_rfl) ?_
    simp only [Act.put, List.setIfInBounds_toArray, List.set_cons_zero, List.set_cons_succ, List.getElem_toArray, List.getElem_cons_zero, List.getElem_cons_succ]
    refine list_call 58 #[.int .i64 (j : Int), .pointer (some ⟨kb, 0, none⟩)] (by kernel_rfl) (by kernel_rfl) ((unhide hC _ hB.chg j hjl).mono ?_)
    rintro r v3 ⟨rfl, hG⟩
    refine ⟨_, rfl, ?_⟩
    replace hB := hB.more hG
    clear hG
    obtain ⟨kb_, hkb⟩ : ∃ x, x = keep.getD j false := ⟨_, rfl⟩
    rw [← hkb]
    replace hkb := hide hkb
    simp only [Act.put, List.setIfInBounds_toArray, List.set_cons_zero, List.set_cons_succ, List.getElem_toArray, List.getElem_cons_zero, List.getElem_cons_succ]
    refine wpList_nil ?_
    cases kb_
    case false =>
      have hB3 : Hid (Bc [g, sg] w [⟨g, pdv (some ⟨sg, 0, none⟩) sn sc (some ⟨p2, o2, none⟩) pn pc l os dd, 77⟩, ⟨sg, C2.toArray, 50⟩] _) := Bc.left (M := [⟨g8, (wv (ai, ab)).toArray, 99⟩]) hB
      clear hB
      go_wp2_with fail
      go_roundw
      case rel => exact ⟨j + 1, C2, by omega, by go_num, hCl, (by show Cov C2 ((liv S P keep (j + 1)).map bv).flatten; rw [unhide hnx, ← unhide hkb]; exact unhide hCov), hB3⟩
      case measure => simp [intOf]; omega
    case true =>
      go_upto_region 4 with fail
      replace hB := hB
      refine anyC_start 9 (fun v => Bc [g, sg] w [⟨g, pdv (some ⟨sg, 0, none⟩) sn sc (some ⟨p2, o2, none⟩) pn pc l os dd, 77⟩, ⟨sg, C2.toArray, 50⟩, ⟨g8, (wv (ai, ab)).toArray, 99⟩] v) (by kernel_rfl) ?_
      replace hB := hB.drew
      generalize World.drew _ = x0 at *
      simp only [List.size_toArray, List.length_cons, List.length_nil, Array.replicate, List.replicate]
      refine anyC_take (i := 0) (v := (.pointer (some ⟨g, 0, none⟩))) (fun v => Bc [g, sg] w [⟨g, pdv (some ⟨sg, 0, none⟩) sn sc (some ⟨p2, o2, none⟩) pn pc l os dd, 77⟩, ⟨sg, C2.toArray, 50⟩, ⟨g8, (wv (ai, ab)).toArray, 99⟩] v) (fun _ h_ => h_) (.inr (by kernel_rfl)) rfl (by kernel_rfl) (by kernel_rfl) (by kernel_rfl) (by decide) (by kernel_rfl) (by decide) (fun _ _ _ h => h) (.inl ⟨by kernel_rfl, fun x_ hu => by kernel_rfl⟩) hB ?_
      simp only [Act.put, List.setIfInBounds_toArray, List.set_cons_zero, List.set_cons_succ, List.getElem_toArray, List.getElem_cons_zero, List.getElem_cons_succ]
      refine anyC_take (i := 1) (v := (.pointer (some ⟨g, 0, none⟩))) (fun v => Bc [g, sg] w [⟨g, pdv (some ⟨sg, 0, none⟩) sn sc (some ⟨p2, o2, none⟩) pn pc l os dd, 77⟩, ⟨sg, C2.toArray, 50⟩, ⟨g8, (wv (ai, ab)).toArray, 99⟩] v) (fun _ h_ => h_) (.inr (by kernel_rfl)) rfl (by kernel_rfl) (by kernel_rfl) (by kernel_rfl) (by decide) (by kernel_rfl) (by decide) (fun _ _ _ h => h) (.inl ⟨by kernel_rfl, fun x_ hu => by kernel_rfl⟩) hB ?_
      simp only [Act.put, List.setIfInBounds_toArray, List.set_cons_zero, List.set_cons_succ, List.getElem_toArray, List.getElem_cons_zero, List.getElem_cons_succ]
      refine anyC_take (i := 2) (v := (.pointer (some ⟨g, 0, none⟩))) (fun v => Bc [g, sg] w [⟨g, pdv (some ⟨sg, 0, none⟩) sn sc (some ⟨p2, o2, none⟩) pn pc l os dd, 77⟩, ⟨sg, C2.toArray, 50⟩, ⟨g8, (wv (ai, ab)).toArray, 99⟩] v) (fun _ h_ => h_) (.inr (by kernel_rfl)) rfl (by kernel_rfl) (by kernel_rfl) (by kernel_rfl) (by decide) (by kernel_rfl) (by decide) (fun _ _ _ h => h) (.inl ⟨by kernel_rfl, fun x_ hu => by kernel_rfl⟩) hB ?_
      simp only [Act.put, List.setIfInBounds_toArray, List.set_cons_zero, List.set_cons_succ, List.getElem_toArray, List.getElem_cons_zero, List.getElem_cons_succ]
      refine anyC_take (i := 3) (v := (.slice (some ⟨sg, 0, none⟩) sn sc)) (fun v => Bc [g, sg] w [⟨g, pdv (some ⟨sg, 0, none⟩) sn sc (some ⟨p2, o2, none⟩) pn pc l os dd, 77⟩, ⟨sg, C2.toArray, 50⟩, ⟨g8, (wv (ai, ab)).toArray, 99⟩] v) (fun _ h_ => h_) (.inr (by kernel_rfl)) rfl (by kernel_rfl) (by kernel_rfl) (by kernel_rfl) (by decide) (by kernel_rfl) (by decide) (fun _ _ _ h => h) (.inl ⟨by kernel_rfl, fun x_ hu => exec_sb _ (.tmp 21) rfl g 0 (by kernel_rfl) (some ⟨sg, 0, none⟩) sn sc (cell_of (hu.get 0 (x := ⟨g, pdv (some ⟨sg, 0, none⟩) sn sc (some ⟨p2, o2, none⟩) pn pc l os dd, 77⟩) rfl) (i := 0) rfl)⟩) hB ?_
      simp only [Act.put, List.setIfInBounds_toArray, List.set_cons_zero, List.set_cons_succ, List.getElem_toArray, List.getElem_cons_zero, List.getElem_cons_succ]
      refine anyC_take (i := 4) (v := (.pointer (some ⟨g8, 0, none⟩))) (fun v => Bc [g, sg] w [⟨g, pdv (some ⟨sg, 0, none⟩) sn sc (some ⟨p2, o2, none⟩) pn pc l os dd, 77⟩, ⟨sg, C2.toArray, 50⟩, ⟨g8, (wv (ai, ab)).toArray, 99⟩] v) (fun _ h_ => h_) (.inr (by kernel_rfl)) rfl (by kernel_rfl) (by kernel_rfl) (by kernel_rfl) (by decide) (by kernel_rfl) (by decide) (fun _ _ _ h => h) (.inl ⟨by kernel_rfl, fun x_ hu => by kernel_rfl⟩) hB ?_
      simp only [Act.put, List.setIfInBounds_toArray, List.set_cons_zero, List.set_cons_succ, List.getElem_toArray, List.getElem_cons_zero, List.getElem_cons_succ]
      refine anyC_take (i := 5) (v := (.int .i64 (ai : Int))) (fun v => Bc [g, sg] w [⟨g, pdv (some ⟨sg, 0, none⟩) sn sc (some ⟨p2, o2, none⟩) pn pc l os dd, 77⟩, ⟨sg, C2.toArray, 50⟩, ⟨g8, (wv (ai, ab)).toArray, 99⟩] v) (fun _ h_ => h_) (.inr (by kernel_rfl)) rfl (by kernel_rfl) (by kernel_rfl) (by kernel_rfl) (by decide) (by kernel_rfl) (by decide) (fun _ _ _ h => h) (.inl ⟨by kernel_rfl, fun x_ hu => exec_i64 _ (.tmp 23) rfl g8 0 (by kernel_rfl) _ (cell_of (hu.get 2 (x := ⟨g8, (wv (ai, ab)).toArray, 99⟩) rfl) (i := 0) rfl)⟩) hB ?_
      simp only [Act.put, List.setIfInBounds_toArray, List.set_cons_zero, List.set_cons_succ, List.getElem_toArray, List.getElem_cons_zero, List.getElem_cons_succ]
      refine anyC_take (i := 6) (v := (.pointer (some ⟨g8, 1, none⟩))) (fun v => Bc [g, sg] w [⟨g, pdv (some ⟨sg, 0, none⟩) sn sc (some ⟨p2, o2, none⟩) pn pc l os dd, 77⟩, ⟨sg, C2.toArray, 50⟩, ⟨g8, (wv (ai, ab)).toArray, 99⟩] v) (fun _ h_ => h_) (.inr (by kernel_rfl)) rfl (by kernel_rfl) (by kernel_rfl) (by kernel_rfl) (by decide) (by kernel_rfl) (by decide) (fun _ _ _ h => h) (.inl ⟨by kernel_rfl, fun x_ hu => by kernel_rfl⟩) hB ?_
      simp only [Act.put, List.setIfInBounds_toArray, List.set_cons_zero, List.set_cons_succ, List.getElem_toArray, List.getElem_cons_zero, List.getElem_cons_succ]
      refine anyC_take (i := 7) (v := (.agg (kc ab))) (fun v => Bc [g, sg] w [⟨g, pdv (some ⟨sg, 0, none⟩) sn sc (some ⟨p2, o2, none⟩) pn pc l os dd, 77⟩, ⟨sg, C2.toArray, 50⟩, ⟨g8, (wv (ai, ab)).toArray, 99⟩] v) (fun _ h_ => h_) (.inr (by kernel_rfl)) rfl (by kernel_rfl) (by kernel_rfl) (by kernel_rfl) (by decide) (by kernel_rfl) (by decide) (fun _ _ _ h => h) (.inl ⟨by kernel_rfl, fun x_ hu => exec_row _ 50 (.tmp 25) rfl g8 1 (by kernel_rfl) (bv ab) _ (fun q_ v_ hq => cell_of (hu.get 2 (x := ⟨g8, (wv (ai, ab)).toArray, 99⟩) rfl) (by unfold wv; rw [List.getElem?_toArray, Nat.add_comm, List.getElem?_cons_succ]; exact hq)) Tryd.underlying50 rfl (by rw [Tryd.infoB, bv_len, hal])⟩) hB ?_
      simp only [Act.put, List.setIfInBounds_toArray, List.set_cons_zero, List.set_cons_succ, List.getElem_toArray, List.getElem_cons_zero, List.getElem_cons_succ]
      refine anyC_take (i := 8) (v := (.pointer (some ⟨sg, 0 + 64 * ai, none⟩))) (fun v => Bc [g, sg] w [⟨g, pdv (some ⟨sg, 0, none⟩) sn sc (some ⟨p2, o2, none⟩) pn pc l os dd, 77⟩, ⟨sg, C2.toArray, 50⟩, ⟨g8, (wv (ai, ab)).toArray, 99⟩] v) (fun _ h_ => h_) (.inr (by kernel_rfl)) rfl (by kernel_rfl) (by kernel_rfl) (by kernel_rfl) (by decide) (by kernel_rfl) (by decide) (fun _ _ _ h => h) (.inl ⟨by kernel_rfl, fun x_ hu => exec_ib _ (.tmp 22) (.tmp 24) rfl sg 0 sn sc ai rfl rfl hai⟩) hB ?_
      simp only [Act.put, List.setIfInBounds_toArray, List.set_cons_zero, List.set_cons_succ, List.getElem_toArray, List.getElem_cons_zero, List.getElem_cons_succ]
      refine anyC_last (by kernel_rfl) rfl (fun K_ hQ => ?_)
      have hli : ai < (liv S P keep j).length := by rw [liv_len, unhide hlsn]; exact hai
      have hC3 : Hid (Cov (sp C2 (64 * ai) (bv ab)) ((liv S P keep (j + 1)).map bv).flatten) := by
        show Cov _ ((liv S P keep (j + 1)).map bv).flatten
        rw [unhide hnx, ← unhide hkb]
        have h := cov_set 64 (by omega) C2 ((liv S P keep j).map bv) (bv_rows (unhide hlb)) ai (by rw [List.length_map]; exact hli) (bv ab) (by rw [bv_len, hal]) (by rw [List.length_map, liv_len, unhide hlsn, hCl]; exact hscx) (unhide hCov)
        rw [← List.map_set] at h
        exact h
      have hgC := (hB.get 1 (x := ⟨sg, C2.toArray, 50⟩) rfl)
      dsimp only at hgC
      refine list_store_mid 50 (.tmp 27) (.tmp 26) sg (0 + 64 * ai) (kc ab) (by kernel_rfl) rfl (by kernel_rfl) (by kernel_rfl) (there_of hgC (by rw [kc_size, hal, hCl, Nat.zero_add]; omega)) (by rw [Tryd.infoB, kc_size, hal]) (kc_one _) ?_
      refine hQ.out _ _ ?_
      clear hQ K_
      have hbs := setCells_bt ((kc ab).toList) x0 sg (0 + 64 * ai)
      have hcl2 := setCells_heap ((kc ab).toList) x0 sg (0 + 64 * ai) C2 50 hgC
      have e9 : (kc ab).toList = bv ab := by unfold kc bv; simp
      rw [e9, Nat.zero_add] at hcl2 hbs
      rw [e9, Nat.zero_add]
      have hB4 := hB.but hbs 1 (x := ⟨sg, C2.toArray, 50⟩) rfl rfl hcl2
      simp only [List.set_cons_zero, List.set_cons_succ] at hB4
      clear hB hcl2 hbs hgC e9
      generalize World.setCells _ _ _ _ = v9 at *
      have hB := hB4
      clear hB4
      simp only [Act.put, List.setIfInBounds_toArray, List.set_cons_zero, List.set_cons_succ, List.getElem_toArray, List.getElem_cons_zero, List.getElem_cons_succ]
      refine any_done (by kernel_rfl) ?_
      have hB3 : Hid (Bc [g, sg] w [⟨g, pdv (some ⟨sg, 0, none⟩) sn sc (some ⟨p2, o2, none⟩) pn pc l os dd, 77⟩, ⟨sg, (sp C2 (64 * ai) (bv ab)).toArray, 50⟩] _) := Bc.left (M := [⟨g8, (wv (ai, ab)).toArray, 99⟩]) hB
      clear hB
      go_wp2_with fail
      go_roundw
      case rel => exact ⟨j + 1, (sp C2 (64 * ai) (bv ab)), by omega, by go_num, by rw [sp_length]; exact hCl, hC3, hB3⟩
      case measure => simp [intOf]; omega
  have jI : ¬ (j : Int) < (pn : Int) := by omega
  have e : j = P.length := by rw [unhide hlpn]; omega
  go_upto_region 6 with fail
  replace hB := unhide hB
  refine wp_region_lit ?_
  refine list_val (.pointer (some ⟨g, 0, none⟩)) (by kernel_rfl) (by kernel_rfl) ?_
  simp only [Act.put, List.setIfInBounds_toArray, List.set_cons_zero, List.set_cons_succ, List.getElem_toArray, List.getElem_cons_zero, List.getElem_cons_succ]
  refine list_val (.pointer (some ⟨g, 0, none⟩)) (by kernel_rfl) (by kernel_rfl) ?_
  simp only [Act.put, List.setIfInBounds_toArray, List.set_cons_zero, List.set_cons_succ, List.getElem_toArray, List.getElem_cons_zero, List.getElem_cons_succ]
  refine list_val (.pointer (some ⟨g, 1, none⟩)) (by kernel_rfl) (by kernel_rfl) ?_
  simp only [Act.put, List.setIfInBounds_toArray, List.set_cons_zero, List.set_cons_succ, List.getElem_toArray, List.getElem_cons_zero, List.getElem_cons_succ]
  have c4 := cell_of (hB.get 0 (x := ⟨g, pdv (some ⟨sg, 0, none⟩) sn sc pa pn pc l os dd, 77⟩) rfl) (i := 1) rfl
  have fz := froz_of (i := 1) (hB.get 0 (x := ⟨g, pdv (some ⟨sg, 0, none⟩) sn sc pa pn pc l os dd, 77⟩) rfl)
  have hB2 := hB.cell 0 (x := ⟨g, pdv (some ⟨sg, 0, none⟩) sn sc pa pn pc l os dd, 77⟩) rfl 1 (.slice none 0 0)
  simp only [List.set_cons_zero, List.set_cons_succ] at hB2
  replace hB2 : Bc [g, sg] w [⟨g, pdv (some ⟨sg, 0, none⟩) sn sc none 0 0 l os dd, 77⟩, ⟨sg, C2.toArray, 50⟩] _ := hB2
  clear hB
  replace hB2 := hide hB2
  dsimp only at c4 fz
  (refine wpList_step fun K hK => ?_; replace hK := hide hK; go_simp; refine unhide hK _ _ ?_; clear hK K)
  clear c4 fz
  have hB := unhide hB2
  clear hB2
  generalize World.setCell _ _ _ = v4 at *
  refine wpList_nil ?_
  have hZ : Hid (Stl g (D.live keep) sg sc l w (.returned (.tuple #[])) v4) := by
    have hl : (liv S P keep P.length).length = sn := by rw [liv_len, unhide hlsn]
    have hd1 : (D.live keep).safe = liv S P keep P.length := by
      show liv D.safe D.pend keep D.pend.length = _
      rw [unhide hS, unhide hPp]
    refine ⟨rfl, C2, ⟨?_, ?_, ?_, ?_, ?_, (unhide hP).max, ?_, (unhide hP).lf⟩, hB.chg⟩
    · rw [hd1, hl]
      show v4.heap[g]? = some (.cells (pdv (some ⟨sg, 0, none⟩) sn sc none 0 0 l D.ops D.dead) _ (0, 0))
      rw [← unhide hos, ← unhide hdd]
      exact (hB.get 0 (x := ⟨g, pdv (some ⟨sg, 0, none⟩) sn sc none 0 0 l os dd, 77⟩) rfl)
    · exact (hB.get 1 (x := ⟨sg, C2.toArray, 50⟩) rfl)
    · rw [hd1, ← e]
      exact unhide hCov
    · rw [hCl]
      exact unhide hcz
    · rw [hd1, hl]
      exact hsc
    · exact ⟨(fun r hr => by cases hr), rfl, .inl ⟨rfl, rfl⟩⟩
  replace hB := hide hB
  go_wp2_with fail
  rw [unhide hT]
  exact bodyPost_end (results_none Tryd.results57 _ _ _) rfl (unhide hZ)
theorem exec_bb1 {a : Act} {o : Oper} (w : World) (x : Operand) (ho : o.op = .buildSlice 36 1 #[(0, x)]) (b : List Int) (hb : b.length = 64) (hx : a.eval x = .agg (kc b)) :
    (execOp a.eval o).run Tryd.prog w = .ok (.value (.slice (some ⟨w.heap.size, 0, none⟩) 1 1)) (w.alloc (.cells (kc b) 50 (0, 0))) := by
  obtain ⟨p0, p1, p2, p3, p4, p5, p6, p7, p8, p9, p10, p11, p12, p13, p14, p15, p16, p17, p18, p19, p20, p21, p22, p23, p24, p25, p26, p27, p28, p29, p30, p31, q0, q1, q2, q3, q4, q5, q6, q7, q8, q9, q10, q11, q12, q13, q14, q15, q16, q17, q18, q19, q20, q21, q22, q23, q24, q25, q26, q27, q28, q29, q30, q31, rfl⟩ := list64 b hb
  obtain ⟨i0, h1, h2, h3, h4⟩ := info_parts Tryd.infoBz
  have h := run_buildSlice (P := Tryd.prog) w 36 50 1 #[(0, .agg (kc ([p0, p1, p2, p3, p4, p5, p6, p7, p8, p9, p10, p11, p12, p13, p14, p15, p16, p17, p18, p19, p20, p21, p22, p23, p24, p25, p26, p27, p28, p29, p30, p31] ++ [q0, q1, q2, q3, q4, q5, q6, q7, q8, q9, q10, q11, q12, q13, q14, q15, q16, q17, q18, q19, q20, q21, q22, q23, q24, q25, q26, q27, q28, q29, q30, q31])))] (kc ([p0, p1, p2, p3, p4, p5, p6, p7, p8, p9, p10, p11, p12, p13, p14, p15, p16, p17, p18, p19, p20, p21, p22, p23, p24, p25, p26, p27, p28, p29, p30, p31] ++ [q0, q1, q2, q3, q4, q5, q6, q7, q8, q9, q10, q11, q12, q13, q14, q15, q16, q17, q18, q19, q20, q21, q22, q23, q24, q25, q26, q27, q28, q29, q30, q31])) i0 (.agg (kc ZB)) Tryd.underlying36 h1 h2 (by rw [h3]; decide) (by rw [h3]; decide) (by rw [h3]; kernel_rfl)
  unfold execOp
  simp only [ho, List.map_toArray, List.map_cons, List.map_nil, hx, Sem.run_bind, h, Result.andThen_ok, Sem.run_pure]
def heldN (D : Dk) (n : Nat) : List (List Int) := (List.range n).map fun i : Nat => D.readB (i : Int)
def heldL (D : Dk) : List (List Int) := heldN D D.safe.length
theorem heldN_len (D : Dk) (n : Nat) : (heldN D n).length = n := by unfold heldN; simp
theorem heldN_succ (D : Dk) (n : Nat) : heldN D (n + 1) = heldN D n ++ [D.readB (n : Int)] := by unfold heldN; rw [List.range_succ, List.map_append]; rfl
theorem Or_.fr {k : Nat} {e : TypeId} {b : Nat} {w u : World} {a : Option Addr} {n c : Nat} {R : List (List Value)} (h : Or_ k e b u (.slice a n c) R) (hb : w.heap.size ≤ b) : Fr2 w none a := by
  rcases h.2.2 with ⟨h1, _⟩ | ⟨g_, _, _, h1, h2, _⟩
  · have e9 : a = none := by injection h1
    rw [e9]
    exact Fr2.none _ _
  · have e9 : a = Option.some ⟨g_, 0, none⟩ := by injection h1
    rw [e9]
    exact Fr2.new _ (Nat.le_trans hb h2)
theorem Ls.chg {k : Nat} {F F' : List Nat} {w v : World} {a : Option Addr} {n c : Nat} {R : List (List Value)} (h : Ls k w a n c R) (b : Chg F F' w v) (hg : ∀ i ∈ F, blkOf a ≠ some i) : Ls k v a n c R := by
  refine ⟨h.len, h.row, ?_, h.cap, h.max, fun p e => Nat.lt_of_lt_of_le (h.low p e) b.size⟩
  rcases h.sl with h0 | ⟨p, o, rfl, h2⟩
  · exact .inl h0
  · refine .inr ⟨p, o, rfl, fun j x hj => ?_⟩
    have h3 := h2 j x hj
    rw [cell_heap (b.block p (lt_of_cell h3) (fun hm => hg p hm rfl))]
    exact h3
theorem Tryd.infoRd11 : (Tryd.prog.info? 38).map (·.size) = some 1 := by kernel_rfl
def Sec (D : Dk) (w : World) (r : Ending) (w' : World) : Prop := ∃ a c, r = .returned (.tuple #[.agg #[.slice a D.safe.length c], .bool true]) ∧ Ls 64 w' a D.safe.length c ((heldL D).map bv) ∧ Fr2 w none a ∧ Gr w w'
set_option maxHeartbeats 400000 in
theorem sectors_ok (F : List Nat) (gd m : Nat) (D : Dk) (hD : D.Ok m) (hm : m ≤ 1000000) (hdd : D.dead = false) (w : World) (hL : Lies F gd D w) : Calls Tryd.prog 15 #[P0 gd] w (Sec D w) := by
  obtain ⟨T, hT⟩ : ∃ T, T = Sec D w := ⟨_, rfl⟩
  rw [← hT]
  replace hT := hide hT
  obtain ⟨n, hn⟩ : ∃ n, n = D.safe.length := ⟨_, rfl⟩
  have hn512 : n ≤ 512 := by rw [hn]; exact hD.hi1
  replace hn := hide hn; replace hD := hide hD; replace hL := hide hL; replace hdd := hide hdd
  go_enter Tryd.func15, Tryd.ntmps15
  go_upto_region 2 with fail
  have hB := (((Bl.nil w).new #[.slice none 0 0] 38).new #[.slice none 0 0] 38)
  simp only [size_alloc, List.nil_append, List.cons_append] at hB
  generalize World.alloc _ _ = u at *
  replace hB : Bl w [⟨w.heap.size, #[.slice none 0 0], 38⟩, ⟨w.heap.size + 1, #[.slice none 0 0], 38⟩] u := hB
  refine wp_region_lit ?_
  refine list_val (.pointer (some ⟨gd, 0, none⟩)) (by kernel_rfl) (by kernel_rfl) ?_
  simp only [Act.put, List.setIfInBounds_toArray, List.set_cons_zero, List.set_cons_succ, List.getElem_toArray, List.getElem_cons_zero, List.getElem_cons_succ]
  refine list_call 42 #[.pointer (some ⟨gd, 0, none⟩)] (by kernel_rfl) (by kernel_rfl) ((dlen_ok F gd m D (unhide hD) hm _ ((unhide hL).gr hB.gr)).mono ?_)
  rintro r u1 ⟨rfl, hg⟩
  refine ⟨_, rfl, ?_⟩
  rw [← unhide hn]
  replace hB := hB.more hg
  clear hg
  simp only [Act.put, List.setIfInBounds_toArray, List.set_cons_zero, List.set_cons_succ, List.getElem_toArray, List.getElem_cons_zero, List.getElem_cons_succ]
  refine list_val (.int .i64 0) (by kernel_rfl) (by kernel_rfl) ?_
  simp only [Act.put, List.setIfInBounds_toArray, List.set_cons_zero, List.set_cons_succ, List.getElem_toArray, List.getElem_cons_zero, List.getElem_cons_succ]
  refine wpList_nil ?_
  have hor : Hid (Or_ 64 50 w.heap.size u1 (.slice none 0 0) ((heldN D 0).map bv)) := ⟨(fun r hr => by have h9 : r ∈ ([] : List (List Value)) := hr; cases h9), rfl, .inl ⟨rfl, rfl⟩⟩
  replace hB := hide hB
  go_wp2_with fail
  go_loopw [10] (fun i wr => ∃ (j : Nat) (v : Value), j ≤ n ∧ i = .int .i64 j ∧ Hid (Bl w [⟨w.heap.size, #[.slice none 0 0], 38⟩, ⟨w.heap.size + 1, #[v], 38⟩] wr) ∧ Hid (Or_ 64 50 w.heap.size wr v ((heldN D j).map bv))) (fun i _ => n - (intOf i).toNat)
  case atStart => exact ⟨0, .slice none 0 0, by omega, rfl, hB, hor⟩
  case round =>
  clear hB hor
  obtain ⟨j, v, hj, rfl, hB, hor⟩ := hrel
  obtain ⟨av, cv, hav, hlsv⟩ := (unhide hor).ls
  rw [List.length_map, heldN_len] at hav hlsv
  subst hav
  replace hlsv := hide hlsv
  by_cases hjl : j < n
  · skip
    have jI : (j : Int) < (n : Int) := by omega
    clear hlsv
    go_upto_region 5 with fail
    have hW := unhide hB
    clear hB
    refine wp_region_lit ?_
    refine list_val (.pointer (some ⟨gd, 0, none⟩)) (by kernel_rfl) (by kernel_rfl) ?_
    simp only [Act.put, List.setIfInBounds_toArray, List.set_cons_zero, List.set_cons_succ, List.getElem_toArray, List.getElem_cons_zero, List.getElem_cons_succ]
    refine list_val (.int .i64 (j : Int)) (by kernel_rfl) (by kernel_rfl) ?_
    simp only [Act.put, List.setIfInBounds_toArray, List.set_cons_zero, List.set_cons_succ, List.getElem_toArray, List.getElem_cons_zero, List.getElem_cons_succ]
    refine list_call 24 #[.pointer (some ⟨gd, 0, none⟩), .int .i64 (j : Int)] (by kernel_rfl) (by kernel_rfl) ((dread_ok F gd m D (unhide hD) hm (j : Int) _ ((unhide hL).gr hW.gr)).mono ?_)
    rintro r v1 ⟨rfl, hg⟩
    refine ⟨_, rfl, ?_⟩
    have hbb := Dk.readB_bb (unhide hD) (j : Int)
    have hsc := heldN_succ D j
    have he0 : D.readE (j : Int) = 0 := by
      have hh : D.has (j : Int) := ⟨by omega, by rw [← unhide hn]; exact jI⟩
      unfold Dk.readE
      rw [unhide hdd, if_neg (by decide), if_pos hh]
    rw [he0]
    obtain ⟨b, hb⟩ : ∃ b, b = D.readB (j : Int) := ⟨_, rfl⟩
    rw [← hb]
    rw [← hb] at hbb hsc
    have hbl := hbb.1
    have hB := (Bl.nil wr).more hg
    replace hb := hide hb; replace hsc := hide hsc; replace hW := hide hW
    clear hg he0
    simp only [Act.put, List.setIfInBounds_toArray, List.set_cons_zero, List.set_cons_succ, List.getElem_toArray, List.getElem_cons_zero, List.getElem_cons_succ]
    refine list_val (.tuple #[.agg (kc b), .int .i64 0]) (by kernel_rfl) (by kernel_rfl) ?_
    simp only [Act.put, List.setIfInBounds_toArray, List.set_cons_zero, List.set_cons_succ, List.getElem_toArray, List.getElem_cons_zero, List.getElem_cons_succ]
    refine list_val (.agg (kc b)) (by kernel_rfl) (by kernel_rfl) ?_
    simp only [Act.put, List.setIfInBounds_toArray, List.set_cons_zero, List.set_cons_succ, List.getElem_toArray, List.getElem_cons_zero, List.getElem_cons_succ]
    refine list_val (.int .i64 0) (by kernel_rfl) (by kernel_rfl) ?_
    simp only [Act.put, List.setIfInBounds_toArray, List.set_cons_zero, List.set_cons_succ, List.getElem_toArray, List.getElem_cons_zero, List.getElem_cons_succ]
    refine list_valw (.pointer (some ⟨v1.heap.size, 0, none⟩)) (v1.alloc (.cells (kc ZB) 50 (0, 0))) (by kernel_rfl) (by kernel_rfl) ?_
    replace hB := hB.new (kc ZB) 50
    simp only [List.nil_append, List.cons_append] at hB
    generalize World.alloc _ _ = v2 at *
    generalize v1.heap.size = g5 at *
    replace hB : Bl wr [⟨g5, kc ZB, 50⟩] v2 := hB
    simp only [Act.put, List.setIfInBounds_toArray, List.set_cons_zero, List.set_cons_succ, List.getElem_toArray, List.getElem_cons_zero, List.getElem_cons_succ]
    refine list_store 50 (.tmp 6) (.tmp 17) (g5) (kc b) 50 (kc ZB) (by kernel_rfl) rfl (by kernel_rfl) (by kernel_rfl) (hB.get 0 (x := ⟨g5, kc ZB, 50⟩) rfl) (by rw [Tryd.infoB, kc_size, hbl]) ((show (kc ZB).size = 64 from rfl).trans ((kc_size _).trans hbl).symm) (kc_one _) ?_
    replace hB := hB.set 0 (x := ⟨g5, kc ZB, 50⟩) rfl (kc b)
    simp only [List.set_cons_zero, List.set_cons_succ] at hB
    generalize World.setRow _ _ _ = v3 at *
    replace hB : Bl wr [⟨g5, kc b, 50⟩] v3 := hB
    simp only [Act.put, List.setIfInBounds_toArray, List.set_cons_zero, List.set_cons_succ, List.getElem_toArray, List.getElem_cons_zero, List.getElem_cons_succ]
    (refine wpList_step fun K hK => ?_; replace hK := hide hK; go_simp; refine unhide hK _ _ ?_; clear hK K)
    refine wpList_nil ?_
    replace hB := hide hB
    go_upto_region 8 with fail
    replace hB := unhide hB
    have hX := (unhide hW).more hB.gr
    clear hW
    refine wp_region_lit ?_
    refine list_val (.pointer (some ⟨w.heap.size + 1, 0, none⟩)) (by kernel_rfl) (by kernel_rfl) ?_
    simp only [Act.put, List.setIfInBounds_toArray, List.set_cons_zero, List.set_cons_succ, List.getElem_toArray, List.getElem_cons_zero, List.getElem_cons_succ]
    refine list_val (.slice av j cv) (by kernel_rfl) (exec_sb _ (.tmp 22) rfl (w.heap.size + 1) 0 (by kernel_rfl) av j cv (cell_of (hX.get 1 (x := ⟨w.heap.size + 1, #[.slice av j cv], 38⟩) rfl) (i := 0) rfl)) ?_
    simp only [Act.put, List.setIfInBounds_toArray, List.set_cons_zero, List.set_cons_succ, List.getElem_toArray, List.getElem_cons_zero, List.getElem_cons_succ]
    refine list_val (.agg (kc b)) (by kernel_rfl) (exec_arr _ 50 (.tmp 6) rfl g5 (by kernel_rfl) (kc b) 50 _ (hB.get 0 (x := ⟨g5, kc b, 50⟩) rfl) Tryd.underlying50 rfl (by rw [Tryd.infoB, kc_size, hbl])) ?_
    simp only [Act.put, List.setIfInBounds_toArray, List.set_cons_zero, List.set_cons_succ, List.getElem_toArray, List.getElem_cons_zero, List.getElem_cons_succ]
    refine list_valw (.slice (some ⟨v3.heap.size, 0, none⟩) 1 1) (v3.alloc (.cells (kc b) 50 (0, 0))) (by kernel_rfl) (exec_bb1 _ (.tmp 24) rfl b hbl (by kernel_rfl)) ?_
    have hls : Ls 64 (v3.alloc (.cells (kc b) 50 (0, 0))) (some ⟨v3.heap.size, 0, none⟩) 1 1 [bv b] := ⟨rfl, (by intro r hr; rw [List.mem_singleton] at hr; subst hr; rw [bv_len, hbl]), .inr ⟨v3.heap.size, 0, rfl, by simp only [List.flatten_cons, List.flatten_nil, List.append_nil]; exact range_row (blk_new _ _)⟩, Nat.le_refl _, by omega, fun p e => by have e3 := Option.some.inj e; rw [← e3, size_alloc]; show v3.heap.size < _; omega⟩
    have hGo := hB.gr.alloc (.cells (kc b) 50 (0, 0))
    replace hX := hX.more ((Gr.refl v3).alloc (.cells (kc b) 50 (0, 0)))
    generalize World.alloc _ _ = v4 at *
    generalize v3.heap.size = g6 at *
    simp only [Act.put, List.setIfInBounds_toArray, List.set_cons_zero, List.set_cons_succ, List.getElem_toArray, List.getElem_cons_zero, List.getElem_cons_succ]
    refine wpList_step fun K_ hQ => ?_
    rw [if_pos (by kernel_rfl)]
    refine app_rows lt_b (.tmp 23) (.tmp 25) rfl w.heap.size _ ((heldN D j).map bv) rfl ((unhide hor).gr hGo) (some ⟨g6, 0, none⟩) 1 1 [bv b] rfl hls (by intro r hr; rw [List.mem_singleton] at hr; subst hr; exact bv_one' _) (by rw [List.length_map, heldN_len]; omega) hX.gr.size ?_
    intro v5_ v5 hor5 hgr
    replace hX := hX.grownR ((unhide hor).gr hGo) (Nat.le_refl _) hgr (by intro y hy; simp only [List.mem_cons, List.not_mem_nil, or_false] at hy; rcases hy with rfl | rfl <;> (show (38 : Nat) ≠ 50; decide))
    have e9 : (heldN D j).map bv ++ [bv b] = (heldN D (j + 1)).map bv := by rw [unhide hsc, List.map_append]; rfl
    rw [e9] at hor5
    obtain ⟨a5, c5, ha5, -⟩ := hor5.ls
    rw [List.length_map, heldN_len] at ha5
    subst ha5
    clear hgr hls hGo e9 hB hor
    have hB := hX
    clear hX
    refine hQ _ _ ?_
    clear hQ K_
    simp only [Act.put, List.setIfInBounds_toArray, List.set_cons_zero, List.set_cons_succ, List.getElem_toArray, List.getElem_cons_zero, List.getElem_cons_succ]
    refine list_val (.pointer (some ⟨w.heap.size + 1, 0, none⟩)) (by kernel_rfl) (by kernel_rfl) ?_
    simp only [Act.put, List.setIfInBounds_toArray, List.set_cons_zero, List.set_cons_succ, List.getElem_toArray, List.getElem_cons_zero, List.getElem_cons_succ]
    have hor6 := hide (or_bt hor5 (hB.get 1 (x := ⟨w.heap.size + 1, #[.slice av j cv], 38⟩) rfl) (show (38 : TypeId) ≠ 50 by decide) (Bt.setCell _ 0 (.slice a5 (j + 1) c5)))
    clear hor5
    have c4 := cell_of (hB.get 1 (x := ⟨w.heap.size + 1, #[.slice av j cv], 38⟩) rfl) (i := 0) rfl
    have fz := froz_of (i := 0) (hB.get 1 (x := ⟨w.heap.size + 1, #[.slice av j cv], 38⟩) rfl)
    have hB2 := hB.cell 1 (x := ⟨w.heap.size + 1, #[.slice av j cv], 38⟩) rfl 0 (.slice a5 (j + 1) c5)
    simp only [List.set_cons_zero, List.set_cons_succ] at hB2
    replace hB2 : Bl w [⟨w.heap.size, #[.slice none 0 0], 38⟩, ⟨w.heap.size + 1, #[.slice a5 (j + 1) c5], 38⟩] _ := hB2
    clear hB
    replace hB2 := hide hB2
    dsimp only at c4 fz
    (refine wpList_step fun K hK => ?_; replace hK := hide hK; go_simp; refine unhide hK _ _ ?_; clear hK K)
    clear c4 fz
    have hB := unhide hB2
    clear hB2
    generalize World.setCell _ _ _ = v6 at *
    refine wpList_nil ?_
    replace hB := hide hB
    go_wp2_with fail
    go_roundw
    case rel => exact ⟨j + 1, _, by omega, by go_num, hB, hor6⟩
    case measure => simp [intOf]; omega
  have jI : ¬ (j : Int) < (n : Int) := by omega
  obtain rfl : j = n := by omega
  go_upto_region 10 with fail
  replace hB := unhide hB
  refine wp_region_lit ?_
  refine list_val (.agg #[.slice av j cv]) (by kernel_rfl) (exec_arr _ 38 (.tmp 4) rfl (w.heap.size + 1) (by kernel_rfl) #[.slice av j cv] 38 _ (hB.get 1 (x := ⟨w.heap.size + 1, #[.slice av j cv], 38⟩) rfl) Tryd.underlying38 rfl (by rw [Tryd.infoRd11]; rfl)) ?_
  simp only [Act.put, List.setIfInBounds_toArray, List.set_cons_zero, List.set_cons_succ, List.getElem_toArray, List.getElem_cons_zero, List.getElem_cons_succ]
  refine list_store 38 (.tmp 2) (.tmp 29) (w.heap.size) (#[.slice av j cv]) 38 #[.slice none 0 0] (by kernel_rfl) rfl (by kernel_rfl) (by kernel_rfl) (hB.get 0 (x := ⟨w.heap.size, #[.slice none 0 0], 38⟩) rfl) (by rw [Tryd.infoRd11]; rfl) rfl (by simp [Value.oneCell']) ?_
  have hor6 := or_bt (unhide hor) (hB.get 0 (x := ⟨w.heap.size, #[.slice none 0 0], 38⟩) rfl) (show (38 : TypeId) ≠ 50 by decide) ((Bt.refl (w.heap.size) _).row_self (#[.slice av j cv]))
  replace hB := hB.set 0 (x := ⟨w.heap.size, #[.slice none 0 0], 38⟩) rfl (#[.slice av j cv])
  simp only [List.set_cons_zero, List.set_cons_succ] at hB
  generalize World.setRow _ _ _ = v7 at *
  replace hB : Bl w [⟨w.heap.size, #[.slice av j cv], 38⟩, ⟨w.heap.size + 1, #[.slice av j cv], 38⟩] v7 := hB
  simp only [Act.put, List.setIfInBounds_toArray, List.set_cons_zero, List.set_cons_succ, List.getElem_toArray, List.getElem_cons_zero, List.getElem_cons_succ]
  (refine wpList_step fun K hK => ?_; replace hK := hide hK; go_simp; refine unhide hK _ _ ?_; clear hK K)
  refine wpList_nil ?_
  obtain ⟨a9, c9, ha9, hls9⟩ := hor6.ls
  rw [List.length_map, heldN_len] at ha9 hls9
  obtain ⟨rfl, rfl⟩ : av = a9 ∧ cv = c9 := by injection ha9 with h1 h2 h3; exact ⟨h1, h3⟩
  clear ha9
  have hfr := hor6.fr (Nat.le_refl _)
  replace hor6 := hide hor6; replace hls9 := hide hls9; replace hfr := hide hfr
  replace hB := hide hB
  go_wp2_with fail
  replace hB := unhide hB
  rw [unhide hT]
  exact bodyPost_ret (v := .tuple #[.agg (#[.slice av j cv]), .bool true]) (results_cell_tmp Tryd.results15 _ _ (w.heap.size) 38 (#[.slice av j cv]) (0, 0) _ rfl (.bool true) rfl (hB.get 0 (x := ⟨w.heap.size, #[.slice av j cv], 38⟩) rfl) Tryd.underlying38 rfl (by rw [Tryd.infoRd11]; rfl)) rfl ⟨av, cv, by rw [← unhide hn], by unfold heldL; rw [← unhide hn]; exact unhide hls9, unhide hfr, hB.gr⟩
theorem held_at {D : Dk} (hd : D.dead = false) (i : Nat) (hi : i < D.safe.length) : (heldL D).getD i [] = D.cur i := by
  unfold heldL heldN
  rw [List.getD_eq_getElem?_getD, List.getElem?_map, List.getElem?_range hi]
  exact read_cur hd i hi
theorem exec_upto {a : Act} {o : Oper} (w : World) (x y : Operand) (ho : o.op = .slice 32 x none (some y) none) (s : Option Addr) (len cap n : Nat) (hx : a.eval x = .slice s len cap) (hy : a.eval y = .int .i64 n) (hc : len ≤ cap) (hn : n ≤ len) :
    (execOp a.eval o).run Tryd.prog w = .ok (.value (.slice (if cap = 0 then s else s.map (·.add 0)) n cap)) w := by
  have h1 : (0 : Int) ≤ n := by omega
  have h2 : (n : Int) ≤ cap := by omega
  have hu : Tryd.prog.underlying 32 = some (.slice (Tryd.prog.elem 32)) := by kernel_rfl
  have hz : (sizeOf (Tryd.prog.elem 32)).run Tryd.prog w = .ok 1 w := by kernel_rfl
  simp [execOp, ho, hx, hy, run_sliceAt_slice _ _ _ _ _ _ hu, run_slice_h _ _ _ _ _ hu _ _ h1 h2, hz, sliced]
set_option maxHeartbeats 4000000 in
theorem esync_ok (F G : List Nat) (g gd m : Nat) (D : Dk) (s : Sup) (hD : D.Ok m) (hm : m ≤ 900000) (w : World) (hL : Lies F gd D w) (hs : Sto G g gd D.safe.length s w) : Calls Tryd.prog 29 #[P0 g] w (Ch F gd D.syncD D.syncE w) := by
  obtain ⟨T, hT⟩ : ∃ T, T = Ch F gd D.syncD D.syncE w := ⟨_, rfl⟩
  rw [← hT]
  replace hT := hide hT
  obtain ⟨h, lg, sl, hh, hlg, hsl, hq⟩ := stN_is D.safe.length gd
  obtain ⟨-, hS⟩ := hs
  rw [hq] at hS
  clear hq
  replace hS := hide hS
  clear hh hlg hsl
  replace hL := hide hL; replace hD := hide hD
  go_enter Tryd.func29, Tryd.ntmps29
  go_upto_region 1 with fail
  refine wp_region_lit ?_
  refine list_val (.pointer (some ⟨g, 0, none⟩)) (by kernel_rfl) (by kernel_rfl) ?_
  simp only [Act.put, List.setIfInBounds_toArray, List.set_cons_zero, List.set_cons_succ, List.getElem_toArray, List.getElem_cons_zero, List.getElem_cons_succ]
  refine list_val (.bool false) (by kernel_rfl) (by kernel_rfl) ?_
  simp only [Act.put, List.setIfInBounds_toArray, List.set_cons_zero, List.set_cons_succ, List.getElem_toArray, List.getElem_cons_zero, List.getElem_cons_succ]
  refine wpList_nil ?_
  go_upto_region 3 with fail
  refine wp_region_lit ?_
  refine list_val (.pointer (some ⟨g, 0, none⟩)) (by kernel_rfl) (by kernel_rfl) ?_
  simp only [Act.put, List.setIfInBounds_toArray, List.set_cons_zero, List.set_cons_succ, List.getElem_toArray, List.getElem_cons_zero, List.getElem_cons_succ]
  refine list_val (.pointer (some ⟨g, 0, none⟩)) (by kernel_rfl) (by kernel_rfl) ?_
  simp only [Act.put, List.setIfInBounds_toArray, List.set_cons_zero, List.set_cons_succ, List.getElem_toArray, List.getElem_cons_zero, List.getElem_cons_succ]
  refine list_val (.pointer (some ⟨g, 3, none⟩)) (by kernel_rfl) (by kernel_rfl) ?_
  simp only [Act.put, List.setIfInBounds_toArray, List.set_cons_zero, List.set_cons_succ, List.getElem_toArray, List.getElem_cons_zero, List.getElem_cons_succ]
  refine list_val (.pointer (some ⟨gd, 0, none⟩)) (by kernel_rfl) (exec_pd _ (.tmp 7) rfl g 3 (by kernel_rfl) (some ⟨gd, 0, none⟩) (cell_of (unhide hS) (i := 3) rfl)) ?_
  simp only [Act.put, List.setIfInBounds_toArray, List.set_cons_zero, List.set_cons_succ, List.getElem_toArray, List.getElem_cons_zero, List.getElem_cons_succ]
  refine list_call 55 #[P0 gd] (by kernel_rfl) (by kernel_rfl) ((dsync_ok F gd m D (unhide hD) (by omega) w (unhide hL)).mono ?_)
  rintro r u ⟨F', rfl, h1, h2⟩
  have hZ : Hid (Ch F gd D.syncD D.syncE w (.returned (.int .i64 D.syncE)) u) := ⟨F', rfl, h1, h2⟩
  refine ⟨_, rfl, ?_⟩
  clear h1 h2
  generalize D.syncE = e at *
  simp only [Act.put, List.setIfInBounds_toArray, List.set_cons_zero, List.set_cons_succ, List.getElem_toArray, List.getElem_cons_zero, List.getElem_cons_succ]
  (refine wpList_step fun K hK => ?_; replace hK := hide hK; go_simp; refine unhide hK _ _ ?_; clear hK K)
  refine wpList_nil ?_
  go_wp2_with fail
  rw [unhide hT]
  exact unhide hZ
set_option maxHeartbeats 4000000 in
theorem sreach_ok (G : List Nat) (g gd n : Nat) (s : Sup) (hn : n ≤ 1000000) (i : Int) (hi : 0 ≤ i ∧ i < ((n - 2 - 2 * ((n - 2) / 4) : Nat) : Int)) (w : World) (hs : Sto G g gd n s w) : Calls Tryd.prog 54 #[P0 g, .int .i64 i] w (Vl (.int .i64 0) w) := by
  obtain ⟨T, hT⟩ : ∃ T, T = Vl (.int .i64 0) w := ⟨_, rfl⟩
  rw [← hT]
  replace hT := hide hT
  obtain ⟨h, lg, sl, hh, hlg, hsl, hq⟩ := stN_is n gd
  obtain ⟨-, hS⟩ := hs
  rw [hq] at hS
  clear hq
  replace hS := hide hS
  have hi2 : 0 ≤ i ∧ i < (sl : Int) := by omega
  clear hh hlg hsl hi
  go_enter Tryd.func54, Tryd.ntmps54
  go_upto_region 1 with fail
  refine wp_region_lit ?_
  refine list_val (.pointer (some ⟨g, 0, none⟩)) (by kernel_rfl) (by kernel_rfl) ?_
  simp only [Act.put, List.setIfInBounds_toArray, List.set_cons_zero, List.set_cons_succ, List.getElem_toArray, List.getElem_cons_zero, List.getElem_cons_succ]
  refine list_val (.bool false) (by kernel_rfl) (by kernel_rfl) ?_
  simp only [Act.put, List.setIfInBounds_toArray, List.set_cons_zero, List.set_cons_succ, List.getElem_toArray, List.getElem_cons_zero, List.getElem_cons_succ]
  refine wpList_nil ?_
  obtain ⟨i0, i1⟩ := hi2
  have i2 : ¬ i < 0 := by omega
  have i3 : ¬ (sl : Int) ≤ i := by omega
  clear i0 i1
  go_upto_region 3 with fail
  refine wp_region_lit ?_
  refine list_val (.int .i64 i) (by kernel_rfl) (by kernel_rfl) ?_
  simp only [Act.put, List.setIfInBounds_toArray, List.set_cons_zero, List.set_cons_succ, List.getElem_toArray, List.getElem_cons_zero, List.getElem_cons_succ]
  refine list_val (.bool false) (by kernel_rfl) (by go_simp) ?_
  simp only [Act.put, List.setIfInBounds_toArray, List.set_cons_zero, List.set_cons_succ, List.getElem_toArray, List.getElem_cons_zero, List.getElem_cons_succ]
  refine list_val (.bool false) (by kernel_rfl) (by kernel_rfl) ?_
  simp only [Act.put, List.setIfInBounds_toArray, List.set_cons_zero, List.set_cons_succ, List.getElem_toArray, List.getElem_cons_zero, List.getElem_cons_succ]
  refine list_val (.int .i64 i) (by kernel_rfl) (by kernel_rfl) ?_
  simp only [Act.put, List.setIfInBounds_toArray, List.set_cons_zero, List.set_cons_succ, List.getElem_toArray, List.getElem_cons_zero, List.getElem_cons_succ]
  refine list_val (.pointer (some ⟨g, 0, none⟩)) (by kernel_rfl) (by kernel_rfl) ?_
  simp only [Act.put, List.setIfInBounds_toArray, List.set_cons_zero, List.set_cons_succ, List.getElem_toArray, List.getElem_cons_zero, List.getElem_cons_succ]
  refine list_val (.pointer (some ⟨g, 0, none⟩)) (by kernel_rfl) (by kernel_rfl) ?_
  simp only [Act.put, List.setIfInBounds_toArray, List.set_cons_zero, List.set_cons_succ, List.getElem_toArray, List.getElem_cons_zero, List.getElem_cons_succ]
  refine list_val (.pointer (some ⟨g, 0, none⟩)) (by kernel_rfl) (by kernel_rfl) ?_
  simp only [Act.put, List.setIfInBounds_toArray, List.set_cons_zero, List.set_cons_succ, List.getElem_toArray, List.getElem_cons_zero, List.getElem_cons_succ]
  refine list_val (.pointer (some ⟨g, 2, none⟩)) (by kernel_rfl) (by kernel_rfl) ?_
  simp only [Act.put, List.setIfInBounds_toArray, List.set_cons_zero, List.set_cons_succ, List.getElem_toArray, List.getElem_cons_zero, List.getElem_cons_succ]
  refine list_val (.int .i64 (sl : Int)) (by kernel_rfl) (exec_i64 _ (.tmp 14) rfl g 2 (by kernel_rfl) _ (cell_of (unhide hS) (i := 2) rfl)) ?_
  simp only [Act.put, List.setIfInBounds_toArray, List.set_cons_zero, List.set_cons_succ, List.getElem_toArray, List.getElem_cons_zero, List.getElem_cons_succ]
  refine list_val (.bool false) (by kernel_rfl) (by go_simp) ?_
  simp only [Act.put, List.setIfInBounds_toArray, List.set_cons_zero, List.set_cons_succ, List.getElem_toArray, List.getElem_cons_zero, List.getElem_cons_succ]
  refine list_val (.bool false) (by kernel_rfl) (by kernel_rfl) ?_
  simp only [Act.put, List.setIfInBounds_toArray, List.set_cons_zero, List.set_cons_succ, List.getElem_toArray, List.getElem_cons_zero, List.getElem_cons_succ]
  refine wpList_nil ?_
  have hZ : Hid (Vl (.int .i64 0) w (.returned (.int .i64 0)) w) := ⟨rfl, Gr.refl w⟩
  go_wp2_with fail
  rw [unhide hT]
  exact unhide hZ
set_option maxHeartbeats 4000000 in
theorem sreach_no (G : List Nat) (g gd n : Nat) (s : Sup) (hn : n ≤ 1000000) (i : Int) (hi : i < 0 ∨ ((n - 2 - 2 * ((n - 2) / 4) : Nat) : Int) ≤ i) (w : World) (hs : Sto G g gd n s w) : Calls Tryd.prog 54 #[P0 g, .int .i64 i] w (Vl (.int .i64 2) w) := by
  obtain ⟨T, hT⟩ : ∃ T, T = Vl (.int .i64 2) w := ⟨_, rfl⟩
  rw [← hT]
  replace hT := hide hT
  obtain ⟨h, lg, sl, hh, hlg, hsl, hq⟩ := stN_is n gd
  obtain ⟨-, hS⟩ := hs
  rw [hq] at hS
  clear hq
  replace hS := hide hS
  have hi2 : i < 0 ∨ (0 ≤ i ∧ (sl : Int) ≤ i) := by omega
  clear hh hlg hsl hi
  go_enter Tryd.func54, Tryd.ntmps54
  go_upto_region 1 with fail
  refine wp_region_lit ?_
  refine list_val (.pointer (some ⟨g, 0, none⟩)) (by kernel_rfl) (by kernel_rfl) ?_
  simp only [Act.put, List.setIfInBounds_toArray, List.set_cons_zero, List.set_cons_succ, List.getElem_toArray, List.getElem_cons_zero, List.getElem_cons_succ]
  refine list_val (.bool false) (by kernel_rfl) (by kernel_rfl) ?_
  simp only [Act.put, List.setIfInBounds_toArray, List.set_cons_zero, List.set_cons_succ, List.getElem_toArray, List.getElem_cons_zero, List.getElem_cons_succ]
  refine wpList_nil ?_
  rcases hi2 with hi2 | ⟨i0, i1⟩
  · skip
    go_upto_region 3 with fail
    refine wp_region_lit ?_
    refine list_val (.int .i64 i) (by kernel_rfl) (by kernel_rfl) ?_
    simp only [Act.put, List.setIfInBounds_toArray, List.set_cons_zero, List.set_cons_succ, List.getElem_toArray, List.getElem_cons_zero, List.getElem_cons_succ]
    refine list_val (.bool true) (by kernel_rfl) (by go_simp) ?_
    simp only [Act.put, List.setIfInBounds_toArray, List.set_cons_zero, List.set_cons_succ, List.getElem_toArray, List.getElem_cons_zero, List.getElem_cons_succ]
    refine list_val (.bool true) (by kernel_rfl) (by kernel_rfl) ?_
    simp only [Act.put, List.setIfInBounds_toArray, List.set_cons_zero, List.set_cons_succ, List.getElem_toArray, List.getElem_cons_zero, List.getElem_cons_succ]
    refine wpList_step fun K hK => ?_
    rw [if_neg (ne_true_of_eq_false (by kernel_rfl))]
    refine hK _ _ ?_
    clear hK K
    simp only [Act.put, List.setIfInBounds_toArray, List.set_cons_zero, List.set_cons_succ, List.getElem_toArray, List.getElem_cons_zero, List.getElem_cons_succ]
    refine wpList_step fun K hK => ?_
    rw [if_neg (ne_true_of_eq_false (by kernel_rfl))]
    refine hK _ _ ?_
    clear hK K
    simp only [Act.put, List.setIfInBounds_toArray, List.set_cons_zero, List.set_cons_succ, List.getElem_toArray, List.getElem_cons_zero, List.getElem_cons_succ]
    refine wpList_step fun K hK => ?_
    rw [if_neg (ne_true_of_eq_false (by kernel_rfl))]
    refine hK _ _ ?_
    clear hK K
    simp only [Act.put, List.setIfInBounds_toArray, List.set_cons_zero, List.set_cons_succ, List.getElem_toArray, List.getElem_cons_zero, List.getElem_cons_succ]
    refine wpList_step fun K hK => ?_
    rw [if_neg (ne_true_of_eq_false (by kernel_rfl))]
    refine hK _ _ ?_
    clear hK K
    simp only [Act.put, List.setIfInBounds_toArray, List.set_cons_zero, List.set_cons_succ, List.getElem_toArray, List.getElem_cons_zero, List.getElem_cons_succ]
    refine wpList_step fun K hK => ?_
    rw [if_neg (ne_true_of_eq_false (by kernel_rfl))]
    refine hK _ _ ?_
    clear hK K
    simp only [Act.put, List.setIfInBounds_toArray, List.set_cons_zero, List.set_cons_succ, List.getElem_toArray, List.getElem_cons_zero, List.getElem_cons_succ]
    refine wpList_step fun K hK => ?_
    rw [if_neg (ne_true_of_eq_false (by kernel_rfl))]
    refine hK _ _ ?_
    clear hK K
    simp only [Act.put, List.setIfInBounds_toArray, List.set_cons_zero, List.set_cons_succ, List.getElem_toArray, List.getElem_cons_zero, List.getElem_cons_succ]
    refine wpList_step fun K hK => ?_
    rw [if_neg (ne_true_of_eq_false (by kernel_rfl))]
    refine hK _ _ ?_
    clear hK K
    simp only [Act.put, List.setIfInBounds_toArray, List.set_cons_zero, List.set_cons_succ, List.getElem_toArray, List.getElem_cons_zero, List.getElem_cons_succ]
    refine list_val (.bool true) (by kernel_rfl) (by kernel_rfl) ?_
    simp only [Act.put, List.setIfInBounds_toArray, List.set_cons_zero, List.set_cons_succ, List.getElem_toArray, List.getElem_cons_zero, List.getElem_cons_succ]
    refine wpList_nil ?_
    have hZ : Hid (Vl (.int .i64 2) w (.returned (.int .i64 2)) w) := ⟨rfl, Gr.refl w⟩
    go_wp2_with fail
    rw [unhide hT]
    exact unhide hZ
  have i2 : ¬ i < 0 := by omega
  clear i0
  go_upto_region 3 with fail
  refine wp_region_lit ?_
  refine list_val (.int .i64 i) (by kernel_rfl) (by kernel_rfl) ?_
  simp only [Act.put, List.setIfInBounds_toArray, List.set_cons_zero, List.set_cons_succ, List.getElem_toArray, List.getElem_cons_zero, List.getElem_cons_succ]
  refine list_val (.bool false) (by kernel_rfl) (by go_simp) ?_
  simp only [Act.put, List.setIfInBounds_toArray, List.set_cons_zero, List.set_cons_succ, List.getElem_toArray, List.getElem_cons_zero, List.getElem_cons_succ]
  refine list_val (.bool false) (by kernel_rfl) (by kernel_rfl) ?_
  simp only [Act.put, List.setIfInBounds_toArray, List.set_cons_zero, List.set_cons_succ, List.getElem_toArray, List.getElem_cons_zero, List.getElem_cons_succ]
  refine list_val (.int .i64 i) (by kernel_rfl) (by kernel_rfl) ?_
  simp only [Act.put, List.setIfInBounds_toArray, List.set_cons_zero, List.set_cons_succ, List.getElem_toArray, List.getElem_cons_zero, List.getElem_cons_succ]
  refine list_val (.pointer (some ⟨g, 0, none⟩)) (by kernel_rfl) (by kernel_rfl) ?_
  simp only [Act.put, List.setIfInBounds_toArray, List.set_cons_zero, List.set_cons_succ, List.getElem_toArray, List.getElem_cons_zero, List.getElem_cons_succ]
  refine list_val (.pointer (some ⟨g, 0, none⟩)) (by kernel_rfl) (by kernel_rfl) ?_
  simp only [Act.put, List.setIfInBounds_toArray, List.set_cons_zero, List.set_cons_succ, List.getElem_toArray, List.getElem_cons_zero, List.getElem_cons_succ]
  refine list_val (.pointer (some ⟨g, 0, none⟩)) (by kernel_rfl) (by kernel_rfl) ?_
  simp only [Act.put, List.setIfInBounds_toArray, List.set_cons_zero, List.set_cons_succ, List.getElem_toArray, List.getElem_cons_zero, List.getElem_cons_succ]
  refine list_val (.pointer (some ⟨g, 2, none⟩)) (by kernel_rfl) (by kernel_rfl) ?_
  simp only [Act.put, List.setIfInBounds_toArray, List.set_cons_zero, List.set_cons_succ, List.getElem_toArray, List.getElem_cons_zero, List.getElem_cons_succ]
  refine list_val (.int .i64 (sl : Int)) (by kernel_rfl) (exec_i64 _ (.tmp 14) rfl g 2 (by kernel_rfl) _ (cell_of (unhide hS) (i := 2) rfl)) ?_
  simp only [Act.put, List.setIfInBounds_toArray, List.set_cons_zero, List.set_cons_succ, List.getElem_toArray, List.getElem_cons_zero, List.getElem_cons_succ]
  refine list_val (.bool true) (by kernel_rfl) (by go_simp) ?_
  simp only [Act.put, List.setIfInBounds_toArray, List.set_cons_zero, List.set_cons_succ, List.getElem_toArray, List.getElem_cons_zero, List.getElem_cons_succ]
  refine list_val (.bool true) (by kernel_rfl) (by kernel_rfl) ?_
  simp only [Act.put, List.setIfInBounds_toArray, List.set_cons_zero, List.set_cons_succ, List.getElem_toArray, List.getElem_cons_zero, List.getElem_cons_succ]
  refine wpList_nil ?_
  have hZ : Hid (Vl (.int .i64 2) w (.returned (.int .i64 2)) w) := ⟨rfl, Gr.refl w⟩
  go_wp2_with fail
  rw [unhide hT]
  exact unhide hZ
set_option maxHeartbeats 4000000 in
theorem eslot_ok (F G : List Nat) (g gd m : Nat) (D : Dk) (s : Sup) (hD : D.Ok m) (hm : m ≤ 900000) (i : Int) (hi : 0 ≤ i ∧ i < ((D.safe.length - 2 - 2 * ((D.safe.length - 2) / 4) : Nat) : Int)) (w : World) (hL : Lies F gd D w) (hs : Sto G g gd D.safe.length s w) : Calls Tryd.prog 28 #[P0 g, .int .i64 i] w (Rrd (D.readB (((2 + 2 * ((D.safe.length - 2) / 4) : Nat) : Int) + i)) (D.readE (((2 + 2 * ((D.safe.length - 2) / 4) : Nat) : Int) + i)) w) := by
  obtain ⟨T, hT⟩ : ∃ T, T = Rrd (D.readB (((2 + 2 * ((D.safe.length - 2) / 4) : Nat) : Int) + i)) (D.readE (((2 + 2 * ((D.safe.length - 2) / 4) : Nat) : Int) + i)) w := ⟨_, rfl⟩
  rw [← hT]
  replace hT := hide hT
  have hst := hide hs
  obtain ⟨h, lg, sl, hh, hlg, hsl, hq⟩ := stN_is D.safe.length gd
  obtain ⟨-, hS⟩ := hs
  rw [hq] at hS
  clear hq
  replace hS := hide hS
  have h512 := hD.hi1
  obtain ⟨k, hk⟩ : ∃ k : Int, k = (lg : Int) + i := ⟨_, rfl⟩
  have e1 : IntKind.i64.wrap ((lg : Int) + i) = k := by rw [IntKind.wrap_i64]; omega
  have hkk : ((2 + 2 * ((D.safe.length - 2) / 4) : Nat) : Int) + i = k := by rw [hk, hlg, hh]
  rw [hkk] at hT
  have hbb := Dk.readB_bb hD k
  clear hkk hk hlg hh hsl
  replace hi := hide hi; replace hD := hide hD; replace hL := hide hL
  go_enter Tryd.func28, Tryd.ntmps28
  go_upto_region 1 with fail
  have hB := ((Bl.nil w).new #[.int .u8 0, .int .u8 0, .int .u8 0, .int .u8 0, .int .u8 0, .int .u8 0, .int .u8 0, .int .u8 0, .int .u8 0, .int .u8 0, .int .u8 0, .int .u8 0, .int .u8 0, .int .u8 0, .int .u8 0, .int .u8 0, .int .u8 0, .int .u8 0, .int .u8 0, .int .u8 0, .int .u8 0, .int .u8 0, .int .u8 0, .int .u8 0, .int .u8 0, .int .u8 0, .int .u8 0, .int .u8 0, .int .u8 0, .int .u8 0, .int .u8 0, .int .u8 0, .int .u8 0, .int .u8 0, .int .u8 0, .int .u8 0, .int .u8 0, .int .u8 0, .int .u8 0, .int .u8 0, .int .u8 0, .int .u8 0, .int .u8 0, .int .u8 0, .int .u8 0, .int .u8 0, .int .u8 0, .int .u8 0, .int .u8 0, .int .u8 0, .int .u8 0, .int .u8 0, .int .u8 0, .int .u8 0, .int .u8 0, .int .u8 0, .int .u8 0, .int .u8 0, .int .u8 0, .int .u8 0, .int .u8 0, .int .u8 0, .int .u8 0, .int .u8 0] 50)
  simp only [size_alloc, List.nil_append, List.cons_append] at hB
  generalize World.alloc _ _ = u at *
  replace hB : Bl w [⟨w.heap.size, kc ZB, 50⟩] u := hB
  refine wp_region_lit ?_
  refine list_val (.pointer (some ⟨g, 0, none⟩)) (by kernel_rfl) (by kernel_rfl) ?_
  simp only [Act.put, List.setIfInBounds_toArray, List.set_cons_zero, List.set_cons_succ, List.getElem_toArray, List.getElem_cons_zero, List.getElem_cons_succ]
  refine list_val (.int .i64 i) (by kernel_rfl) (by kernel_rfl) ?_
  simp only [Act.put, List.setIfInBounds_toArray, List.set_cons_zero, List.set_cons_succ, List.getElem_toArray, List.getElem_cons_zero, List.getElem_cons_succ]
  refine list_call 54 #[.pointer (some ⟨g, 0, none⟩), .int .i64 i] (by kernel_rfl) (by kernel_rfl) ((sreach_ok G g gd D.safe.length s (by omega) i (unhide hi) _ ((unhide hst).gr hB.gr)).mono ?_)
  rintro r u1 ⟨rfl, hg⟩
  refine ⟨_, rfl, ?_⟩
  replace hB := hB.more hg
  clear hg
  simp only [Act.put, List.setIfInBounds_toArray, List.set_cons_zero, List.set_cons_succ, List.getElem_toArray, List.getElem_cons_zero, List.getElem_cons_succ]
  (refine wpList_step fun K hK => ?_; replace hK := hide hK; go_simp; refine unhide hK _ _ ?_; clear hK K)
  refine wpList_nil ?_
  replace hB := hide hB
  go_upto_region 4 with fail
  replace hB := unhide hB
  refine any_start (S := fun (v : World) => v.heap[g]? = some (.cells (stv h lg sl gd) 89 (0, 0))) (by kernel_rfl) ?_
  replace hB := hB.drew
  generalize World.drew _ = x0 at *
  have hS1 : (fun (v : World) => v.heap[g]? = some (.cells (stv h lg sl gd) 89 (0, 0))) x0 := hB.gr.blk (unhide hS)
  simp only [List.size_toArray, List.length_cons, List.length_nil, Array.replicate, List.replicate]
  refine any_take (i := 0) (v := (.pointer (some ⟨g, 0, none⟩))) #[false, false, false, false, false, false, false, false, false, false, false, false, false, false, false, false] rfl (by kernel_rfl) (by kernel_rfl) (by kernel_rfl) (by kernel_rfl) (fun _ _ _ h => h) (.inl ⟨by kernel_rfl, fun x_ hu => by kernel_rfl⟩) hS1 ?_
  simp only [Act.put, List.setIfInBounds_toArray, List.set_cons_zero, List.set_cons_succ, List.getElem_toArray, List.getElem_cons_zero, List.getElem_cons_succ]
  refine any_take (i := 1) (v := (.pointer (some ⟨g, 0, none⟩))) #[true, false, false, false, false, false, false, false, false, false, false, false, false, false, false, false] rfl (by kernel_rfl) (by kernel_rfl) (by kernel_rfl) (by kernel_rfl) (fun _ _ _ h => h) (.inl ⟨by kernel_rfl, fun x_ hu => by kernel_rfl⟩) hS1 ?_
  simp only [Act.put, List.setIfInBounds_toArray, List.set_cons_zero, List.set_cons_succ, List.getElem_toArray, List.getElem_cons_zero, List.getElem_cons_succ]
  refine any_take (i := 2) (v := (.pointer (some ⟨g, 3, none⟩))) #[true, true, false, false, false, false, false, false, false, false, false, false, false, false, false, false] rfl (by kernel_rfl) (by kernel_rfl) (by kernel_rfl) (by kernel_rfl) (fun _ _ _ h => h) (.inl ⟨by kernel_rfl, fun x_ hu => by kernel_rfl⟩) hS1 ?_
  simp only [Act.put, List.setIfInBounds_toArray, List.set_cons_zero, List.set_cons_succ, List.getElem_toArray, List.getElem_cons_zero, List.getElem_cons_succ]
  refine any_take (i := 3) (v := (.pointer (some ⟨gd, 0, none⟩))) #[true, true, true, false, false, false, false, false, false, false, false, false, false, false, false, false] rfl (by kernel_rfl) (by kernel_rfl) (by kernel_rfl) (by kernel_rfl) (fun _ _ _ h => h) (.inl ⟨by kernel_rfl, fun x_ hu => exec_pd _ (.tmp 16) rfl g 3 (by kernel_rfl) (some ⟨gd, 0, none⟩) (cell_of hu (i := 3) rfl)⟩) hS1 ?_
  simp only [Act.put, List.setIfInBounds_toArray, List.set_cons_zero, List.set_cons_succ, List.getElem_toArray, List.getElem_cons_zero, List.getElem_cons_succ]
  refine any_take (i := 4) (v := (.pointer (some ⟨g, 0, none⟩))) #[true, true, true, true, false, false, false, false, false, false, false, false, false, false, false, false] rfl (by kernel_rfl) (by kernel_rfl) (by kernel_rfl) (by kernel_rfl) (fun _ _ _ h => h) (.inl ⟨by kernel_rfl, fun x_ hu => by kernel_rfl⟩) hS1 ?_
  simp only [Act.put, List.setIfInBounds_toArray, List.set_cons_zero, List.set_cons_succ, List.getElem_toArray, List.getElem_cons_zero, List.getElem_cons_succ]
  refine any_take (i := 5) (v := (.pointer (some ⟨g, 0, none⟩))) #[true, true, true, true, true, false, false, false, false, false, false, false, false, false, false, false] rfl (by kernel_rfl) (by kernel_rfl) (by kernel_rfl) (by kernel_rfl) (fun _ _ _ h => h) (.inl ⟨by kernel_rfl, fun x_ hu => by kernel_rfl⟩) hS1 ?_
  simp only [Act.put, List.setIfInBounds_toArray, List.set_cons_zero, List.set_cons_succ, List.getElem_toArray, List.getElem_cons_zero, List.getElem_cons_succ]
  refine any_take (i := 6) (v := (.pointer (some ⟨g, 0, none⟩))) #[true, true, true, true, true, true, false, false, false, false, false, false, false, false, false, false] rfl (by kernel_rfl) (by kernel_rfl) (by kernel_rfl) (by kernel_rfl) (fun _ _ _ h => h) (.inl ⟨by kernel_rfl, fun x_ hu => by kernel_rfl⟩) hS1 ?_
  simp only [Act.put, List.setIfInBounds_toArray, List.set_cons_zero, List.set_cons_succ, List.getElem_toArray, List.getElem_cons_zero, List.getElem_cons_succ]
  refine any_take (i := 7) (v := (.pointer (some ⟨g, 1, none⟩))) #[true, true, true, true, true, true, true, false, false, false, false, false, false, false, false, false] rfl (by kernel_rfl) (by kernel_rfl) (by kernel_rfl) (by kernel_rfl) (fun _ _ _ h => h) (.inl ⟨by kernel_rfl, fun x_ hu => by kernel_rfl⟩) hS1 ?_
  simp only [Act.put, List.setIfInBounds_toArray, List.set_cons_zero, List.set_cons_succ, List.getElem_toArray, List.getElem_cons_zero, List.getElem_cons_succ]
  refine any_take (i := 8) (v := (.int .i64 (lg : Int))) #[true, true, true, true, true, true, true, true, false, false, false, false, false, false, false, false] rfl (by kernel_rfl) (by kernel_rfl) (by kernel_rfl) (by kernel_rfl) (fun _ _ _ h => h) (.inl ⟨by kernel_rfl, fun x_ hu => exec_i64 _ (.tmp 21) rfl g 1 (by kernel_rfl) _ (cell_of hu (i := 1) rfl)⟩) hS1 ?_
  simp only [Act.put, List.setIfInBounds_toArray, List.set_cons_zero, List.set_cons_succ, List.getElem_toArray, List.getElem_cons_zero, List.getElem_cons_succ]
  refine any_take (i := 9) (v := (.int .i64 i)) #[true, true, true, true, true, true, true, true, true, false, false, false, false, false, false, false] rfl (by kernel_rfl) (by kernel_rfl) (by kernel_rfl) (by kernel_rfl) (fun _ _ _ h => h) (.inl ⟨by kernel_rfl, fun x_ hu => by kernel_rfl⟩) hS1 ?_
  simp only [Act.put, List.setIfInBounds_toArray, List.set_cons_zero, List.set_cons_succ, List.getElem_toArray, List.getElem_cons_zero, List.getElem_cons_succ]
  refine any_take (i := 10) (v := (.int .i64 k)) #[true, true, true, true, true, true, true, true, true, true, false, false, false, false, false, false] rfl (by kernel_rfl) (by kernel_rfl) (by kernel_rfl) (by kernel_rfl) (fun _ _ _ h => h) (.inl ⟨by kernel_rfl, fun x_ hu => by go_simp⟩) hS1 ?_
  simp only [Act.put, List.setIfInBounds_toArray, List.set_cons_zero, List.set_cons_succ, List.getElem_toArray, List.getElem_cons_zero, List.getElem_cons_succ]
  refine any_one (i := 11) (by kernel_rfl) rfl (fun K_ hQ => ?_)
  refine step_callw (by kernel_rfl) 24 #[P0 gd, .int .i64 k] (by kernel_rfl) ((dread_ok F gd m D (unhide hD) (by omega) k x0 ((unhide hL).gr hB.gr)).mono ?_)
  rintro r u2 ⟨rfl, hg⟩
  refine ⟨_, rfl, ?_⟩
  obtain ⟨rb, hrb⟩ : ∃ x, x = D.readB k := ⟨_, rfl⟩
  obtain ⟨re, hre⟩ : ∃ x, x = D.readE k := ⟨_, rfl⟩
  have hrl := hbb.1
  rw [← hrb] at hrl
  rw [← hrb, ← hre]
  replace hrb := hide hrb; replace hre := hide hre
  replace hB := hB.more hg
  replace hS1 : (fun (v : World) => v.heap[g]? = some (.cells (stv h lg sl gd) 89 (0, 0))) u2 := hg.blk hS1
  clear hg
  refine hQ.out _ _ hS1 (fun _ => ?_)
  clear hQ K_
  simp only [Act.put, List.setIfInBounds_toArray, List.set_cons_zero, List.set_cons_succ, List.getElem_toArray, List.getElem_cons_zero, List.getElem_cons_succ]
  refine any_take (i := 12) (v := (.agg (kc rb))) #[true, true, true, true, true, true, true, true, true, true, true, true, false, false, false, false] rfl (by kernel_rfl) (by kernel_rfl) (by kernel_rfl) (by kernel_rfl) (fun _ _ _ h => h) (.inl ⟨by kernel_rfl, fun x_ hu => by kernel_rfl⟩) hS1 ?_
  simp only [Act.put, List.setIfInBounds_toArray, List.set_cons_zero, List.set_cons_succ, List.getElem_toArray, List.getElem_cons_zero, List.getElem_cons_succ]
  refine any_take (i := 13) (v := (.int .i64 re)) #[true, true, true, true, true, true, true, true, true, true, true, true, true, false, false, false] rfl (by kernel_rfl) (by kernel_rfl) (by kernel_rfl) (by kernel_rfl) (fun _ _ _ h => h) (.inl ⟨by kernel_rfl, fun x_ hu => by kernel_rfl⟩) hS1 ?_
  simp only [Act.put, List.setIfInBounds_toArray, List.set_cons_zero, List.set_cons_succ, List.getElem_toArray, List.getElem_cons_zero, List.getElem_cons_succ]
  refine any_one (i := 14) (by kernel_rfl) rfl (fun K_ hQ => ?_)
  rw [if_pos (by kernel_rfl)]
  refine wp_store_row 50 (.tmp 4) (.tmp 26) rfl (w.heap.size) (kc rb) (by kernel_rfl) (by kernel_rfl) 50 (kc ZB) (hB.get 0 (x := ⟨w.heap.size, kc ZB, 50⟩) rfl) (by rw [Tryd.infoB, kc_size, hrl]) ((show (kc ZB).size = 64 from rfl).trans ((kc_size _).trans hrl).symm) (kc_one _) ?_
  have hB2 := hB.set 0 (x := ⟨w.heap.size, kc ZB, 50⟩) rfl (kc rb)
  simp only [List.set_cons_zero, List.set_cons_succ] at hB2
  have hS2 : (fun (v : World) => v.heap[g]? = some (.cells (stv h lg sl gd) 89 (0, 0))) (u2.setRow (w.heap.size) (kc rb)) := (setRow_other _ _ _ _ (by have h1 := lt_of_block (unhide hst).2; omega)).trans hS1
  generalize World.setRow _ _ _ = u3 at *
  clear hB hS1
  have hB : Bl w [⟨w.heap.size, kc rb, 50⟩] u3 := hB2
  have hS1 := hS2
  clear hB2 hS2
  refine hQ.out _ _ hS1 (fun _ => ?_)
  clear hQ K_
  simp only [Act.put, List.setIfInBounds_toArray, List.set_cons_zero, List.set_cons_succ, List.getElem_toArray, List.getElem_cons_zero, List.getElem_cons_succ]
  refine any_one (i := 15) (by kernel_rfl) rfl (fun K_ hQ => ?_)
  replace hQ := hide hQ
  go_simp
  refine (unhide hQ).out _ _ hS1 (fun _ => ?_)
  clear hQ K_
  refine any_done (by kernel_rfl) ?_
  clear hS1
  replace hB := hide hB
  go_wp2_with fail
  replace hB := unhide hB
  rw [unhide hT]
  exact bodyPost_ret (v := .tuple #[.agg (kc rb), .int .i64 re]) (results_cell_tmp Tryd.results28 _ _ (w.heap.size) 50 (kc rb) (0, 0) _ rfl (.int .i64 re) rfl (hB.get 0 (x := ⟨w.heap.size, kc rb, 50⟩) rfl) Tryd.underlying50 rfl ((by rw [Tryd.infoB, kc_size, hrl]))) rfl (⟨by rw [unhide hrb, unhide hre], hB.gr⟩)
set_option maxHeartbeats 4000000 in
theorem eput_ok (F G : List Nat) (g gd m : Nat) (D : Dk) (s : Sup) (hD : D.Ok m) (hm : m ≤ 900000) (i : Int) (hi : 0 ≤ i ∧ i < ((D.safe.length - 2 - 2 * ((D.safe.length - 2) / 4) : Nat) : Int)) (b : List Int) (hb : BB b) (hap : ∀ i ∈ F, i ∉ G) (w : World) (hL : Lies F gd D w) (hs : Sto G g gd D.safe.length s w) : Calls Tryd.prog 27 #[P0 g, .int .i64 i, .agg (kc b)] w (Ch F gd (D.writeD (((2 + 2 * ((D.safe.length - 2) / 4) : Nat) : Int) + i) b) (D.writeE (((2 + 2 * ((D.safe.length - 2) / 4) : Nat) : Int) + i)) w) := by
  obtain ⟨T, hT⟩ : ∃ T, T = Ch F gd (D.writeD (((2 + 2 * ((D.safe.length - 2) / 4) : Nat) : Int) + i) b) (D.writeE (((2 + 2 * ((D.safe.length - 2) / 4) : Nat) : Int) + i)) w := ⟨_, rfl⟩
  rw [← hT]
  replace hT := hide hT
  have hst := hide hs
  obtain ⟨h, lg, sl, hh, hlg, hsl, hq⟩ := stN_is D.safe.length gd
  obtain ⟨-, hS⟩ := hs
  rw [hq] at hS
  clear hq
  replace hS := hide hS
  have h512 := hD.hi1
  obtain ⟨k, hk⟩ : ∃ k : Int, k = (lg : Int) + i := ⟨_, rfl⟩
  have e1 : IntKind.i64.wrap ((lg : Int) + i) = k := by rw [IntKind.wrap_i64]; omega
  have hkk : ((2 + 2 * ((D.safe.length - 2) / 4) : Nat) : Int) + i = k := by rw [hk, hlg, hh]
  rw [hkk] at hT
  clear hkk hk hlg hh hsl
  replace hi := hide hi; replace hD := hide hD; replace hL := hide hL
  have hbl := hb.1
  obtain ⟨SK, hSK⟩ : ∃ X, X = kc b := ⟨_, rfl⟩
  rw [← hSK]
  replace hSK := hide hSK; replace hb := hide hb
  go_enter Tryd.func27, Tryd.ntmps27
  go_upto_region 1 with fail
  have hB := ((Bl.nil w).new SK 50)
  simp only [size_alloc, List.nil_append, List.cons_append] at hB
  generalize World.alloc _ _ = u at *
  rw [unhide hSK] at hB
  replace hB : Bl w [⟨w.heap.size, kc b, 50⟩] u := hB
  refine wp_region_lit ?_
  refine list_val (.pointer (some ⟨g, 0, none⟩)) (by kernel_rfl) (by kernel_rfl) ?_
  simp only [Act.put, List.setIfInBounds_toArray, List.set_cons_zero, List.set_cons_succ, List.getElem_toArray, List.getElem_cons_zero, List.getElem_cons_succ]
  refine list_val (.int .i64 i) (by kernel_rfl) (by kernel_rfl) ?_
  simp only [Act.put, List.setIfInBounds_toArray, List.set_cons_zero, List.set_cons_succ, List.getElem_toArray, List.getElem_cons_zero, List.getElem_cons_succ]
  refine list_call 54 #[.pointer (some ⟨g, 0, none⟩), .int .i64 i] (by kernel_rfl) (by kernel_rfl) ((sreach_ok G g gd D.safe.length s (by omega) i (unhide hi) _ ((unhide hst).gr hB.gr)).mono ?_)
  rintro r u1 ⟨rfl, hg⟩
  refine ⟨_, rfl, ?_⟩
  replace hB := hB.more hg
  clear hg
  simp only [Act.put, List.setIfInBounds_toArray, List.set_cons_zero, List.set_cons_succ, List.getElem_toArray, List.getElem_cons_zero, List.getElem_cons_succ]
  (refine wpList_step fun K hK => ?_; replace hK := hide hK; go_simp; refine unhide hK _ _ ?_; clear hK K)
  refine wpList_nil ?_
  replace hB := hide hB
  go_upto_region 4 with fail
  replace hB := unhide hB
  refine any_start (S := fun (v : World) => v.heap[g]? = some (.cells (stv h lg sl gd) 89 (0, 0)) ∧ v.heap[w.heap.size]? = some (.cells (kc b) 50 (0, 0))) (by kernel_rfl) ?_
  replace hB := hB.drew
  generalize World.drew _ = x0 at *
  have hS1 : (fun (v : World) => v.heap[g]? = some (.cells (stv h lg sl gd) 89 (0, 0)) ∧ v.heap[w.heap.size]? = some (.cells (kc b) 50 (0, 0))) x0 := ⟨hB.gr.blk (unhide hS), (hB.get 0 (x := ⟨w.heap.size, kc b, 50⟩) rfl)⟩
  simp only [List.size_toArray, List.length_cons, List.length_nil, Array.replicate, List.replicate]
  refine any_take (i := 0) (v := (.pointer (some ⟨g, 0, none⟩))) #[false, false, false, false, false, false, false, false, false, false, false, false, false, false] rfl (by kernel_rfl) (by kernel_rfl) (by kernel_rfl) (by kernel_rfl) (fun _ _ _ h => h) (.inl ⟨by kernel_rfl, fun x_ hu => by kernel_rfl⟩) hS1 ?_
  simp only [Act.put, List.setIfInBounds_toArray, List.set_cons_zero, List.set_cons_succ, List.getElem_toArray, List.getElem_cons_zero, List.getElem_cons_succ]
  refine any_take (i := 1) (v := (.pointer (some ⟨g, 0, none⟩))) #[true, false, false, false, false, false, false, false, false, false, false, false, false, false] rfl (by kernel_rfl) (by kernel_rfl) (by kernel_rfl) (by kernel_rfl) (fun _ _ _ h => h) (.inl ⟨by kernel_rfl, fun x_ hu => by kernel_rfl⟩) hS1 ?_
  simp only [Act.put, List.setIfInBounds_toArray, List.set_cons_zero, List.set_cons_succ, List.getElem_toArray, List.getElem_cons_zero, List.getElem_cons_succ]
  refine any_take (i := 2) (v := (.pointer (some ⟨g, 3, none⟩))) #[true, true, false, false, false, false, false, false, false, false, false, false, false, false] rfl (by kernel_rfl) (by kernel_rfl) (by kernel_rfl) (by kernel_rfl) (fun _ _ _ h => h) (.inl ⟨by kernel_rfl, fun x_ hu => by kernel_rfl⟩) hS1 ?_
  simp only [Act.put, List.setIfInBounds_toArray, List.set_cons_zero, List.set_cons_succ, List.getElem_toArray, List.getElem_cons_zero, List.getElem_cons_succ]
  refine any_take (i := 3) (v := (.pointer (some ⟨gd, 0, none⟩))) #[true, true, true, false, false, false, false, false, false, false, false, false, false, false] rfl (by kernel_rfl) (by kernel_rfl) (by kernel_rfl) (by kernel_rfl) (fun _ _ _ h => h) (.inl ⟨by kernel_rfl, fun x_ hu => exec_pd _ (.tmp 16) rfl g 3 (by kernel_rfl) (some ⟨gd, 0, none⟩) (cell_of hu.1 (i := 3) rfl)⟩) hS1 ?_
  simp only [Act.put, List.setIfInBounds_toArray, List.set_cons_zero, List.set_cons_succ, List.getElem_toArray, List.getElem_cons_zero, List.getElem_cons_succ]
  refine any_take (i := 4) (v := (.pointer (some ⟨g, 0, none⟩))) #[true, true, true, true, false, false, false, false, false, false, false, false, false, false] rfl (by kernel_rfl) (by kernel_rfl) (by kernel_rfl) (by kernel_rfl) (fun _ _ _ h => h) (.inl ⟨by kernel_rfl, fun x_ hu => by kernel_rfl⟩) hS1 ?_
  simp only [Act.put, List.setIfInBounds_toArray, List.set_cons_zero, List.set_cons_succ, List.getElem_toArray, List.getElem_cons_zero, List.getElem_cons_succ]
  refine any_take (i := 5) (v := (.pointer (some ⟨g, 0, none⟩))) #[true, true, true, true, true, false, false, false, false, false, false, false, false, false] rfl (by kernel_rfl) (by kernel_rfl) (by kernel_rfl) (by kernel_rfl) (fun _ _ _ h => h) (.inl ⟨by kernel_rfl, fun x_ hu => by kernel_rfl⟩) hS1 ?_
  simp only [Act.put, List.setIfInBounds_toArray, List.set_cons_zero, List.set_cons_succ, List.getElem_toArray, List.getElem_cons_zero, List.getElem_cons_succ]
  refine any_take (i := 6) (v := (.pointer (some ⟨g, 0, none⟩))) #[true, true, true, true, true, true, false, false, false, false, false, false, false, false] rfl (by kernel_rfl) (by kernel_rfl) (by kernel_rfl) (by kernel_rfl) (fun _ _ _ h => h) (.inl ⟨by kernel_rfl, fun x_ hu => by kernel_rfl⟩) hS1 ?_
  simp only [Act.put, List.setIfInBounds_toArray, List.set_cons_zero, List.set_cons_succ, List.getElem_toArray, List.getElem_cons_zero, List.getElem_cons_succ]
  refine any_take (i := 7) (v := (.pointer (some ⟨g, 1, none⟩))) #[true, true, true, true, true, true, true, false, false, false, false, false, false, false] rfl (by kernel_rfl) (by kernel_rfl) (by kernel_rfl) (by kernel_rfl) (fun _ _ _ h => h) (.inl ⟨by kernel_rfl, fun x_ hu => by kernel_rfl⟩) hS1 ?_
  simp only [Act.put, List.setIfInBounds_toArray, List.set_cons_zero, List.set_cons_succ, List.getElem_toArray, List.getElem_cons_zero, List.getElem_cons_succ]
  refine any_take (i := 8) (v := (.int .i64 (lg : Int))) #[true, true, true, true, true, true, true, true, false, false, false, false, false, false] rfl (by kernel_rfl) (by kernel_rfl) (by kernel_rfl) (by kernel_rfl) (fun _ _ _ h => h) (.inl ⟨by kernel_rfl, fun x_ hu => exec_i64 _ (.tmp 21) rfl g 1 (by kernel_rfl) _ (cell_of hu.1 (i := 1) rfl)⟩) hS1 ?_
  simp only [Act.put, List.setIfInBounds_toArray, List.set_cons_zero, List.set_cons_succ, List.getElem_toArray, List.getElem_cons_zero, List.getElem_cons_succ]
  refine any_take (i := 9) (v := (.int .i64 i)) #[true, true, true, true, true, true, true, true, true, false, false, false, false, false] rfl (by kernel_rfl) (by kernel_rfl) (by kernel_rfl) (by kernel_rfl) (fun _ _ _ h => h) (.inl ⟨by kernel_rfl, fun x_ hu => by kernel_rfl⟩) hS1 ?_
  simp only [Act.put, List.setIfInBounds_toArray, List.set_cons_zero, List.set_cons_succ, List.getElem_toArray, List.getElem_cons_zero, List.getElem_cons_succ]
  refine any_take (i := 10) (v := (.int .i64 k)) #[true, true, true, true, true, true, true, true, true, true, false, false, false, false] rfl (by kernel_rfl) (by kernel_rfl) (by kernel_rfl) (by kernel_rfl) (fun _ _ _ h => h) (.inl ⟨by kernel_rfl, fun x_ hu => by go_simp⟩) hS1 ?_
  simp only [Act.put, List.setIfInBounds_toArray, List.set_cons_zero, List.set_cons_succ, List.getElem_toArray, List.getElem_cons_zero, List.getElem_cons_succ]
  refine any_take (i := 11) (v := (.agg (kc b))) #[true, true, true, true, true, true, true, true, true, true, true, false, false, false] rfl (by kernel_rfl) (by kernel_rfl) (by kernel_rfl) (by kernel_rfl) (fun _ _ _ h => h) (.inl ⟨by kernel_rfl, fun x_ hu => exec_arr _ 50 (.tmp 5) rfl (w.heap.size) (by kernel_rfl) (kc b) 50 _ hu.2 Tryd.underlying50 rfl (by rw [Tryd.infoB, kc_size, hbl])⟩) hS1 ?_
  simp only [Act.put, List.setIfInBounds_toArray, List.set_cons_zero, List.set_cons_succ, List.getElem_toArray, List.getElem_cons_zero, List.getElem_cons_succ]
  refine any_one (i := 12) (by kernel_rfl) rfl (fun K_ hQ => ?_)
  refine step_callw (by kernel_rfl) 25 #[P0 gd, .int .i64 k, .agg (kc b)] (by kernel_rfl) ((dwrite_ok F gd m D (unhide hD) (by omega) k b (unhide hb) x0 ((unhide hL).gr hB.gr)).mono ?_)
  rintro r u2 ⟨F', rfl, h1, h2⟩
  refine ⟨_, rfl, ?_⟩
  have hZ : Hid (Ch F gd (D.writeD k b) (D.writeE k) w (.returned (.int .i64 (D.writeE k))) u2) := ⟨F', rfl, h1, hB.gr.chg h2⟩
  obtain ⟨we, hwe⟩ : ∃ x, x = D.writeE k := ⟨_, rfl⟩
  rw [← hwe] at hZ ⊢
  rw [← hwe] at hT
  clear hwe
  have hgF : g ∉ F := fun e => hap g e (by rw [(unhide hst).1]; exact List.mem_singleton.2 rfl)
  have h0F : w.heap.size ∉ F := fun e => by have := (unhide hL).lt _ e; omega
  replace hS1 : (fun (v : World) => v.heap[g]? = some (.cells (stv h lg sl gd) 89 (0, 0)) ∧ v.heap[w.heap.size]? = some (.cells (kc b) 50 (0, 0))) u2 := ⟨h2.blk hS1.1 hgF, h2.blk hS1.2 h0F⟩
  clear h1 h2 hB
  refine hQ.out _ _ hS1 (fun _ => ?_)
  clear hQ K_
  simp only [Act.put, List.setIfInBounds_toArray, List.set_cons_zero, List.set_cons_succ, List.getElem_toArray, List.getElem_cons_zero, List.getElem_cons_succ]
  refine any_one (i := 13) (by kernel_rfl) rfl (fun K_ hQ => ?_)
  replace hQ := hide hQ
  go_simp
  refine (unhide hQ).out _ _ hS1 (fun _ => ?_)
  clear hQ K_
  refine any_done (by kernel_rfl) ?_
  clear hS1
  go_wp2_with fail
  rw [unhide hT]
  exact unhide hZ
set_option maxHeartbeats 4000000 in
theorem eslot_no (F G : List Nat) (g gd m : Nat) (D : Dk) (s : Sup) (hD : D.Ok m) (hm : m ≤ 900000) (i : Int) (hi : i < 0 ∨ ((D.safe.length - 2 - 2 * ((D.safe.length - 2) / 4) : Nat) : Int) ≤ i) (w : World) (hL : Lies F gd D w) (hs : Sto G g gd D.safe.length s w) : Calls Tryd.prog 28 #[P0 g, .int .i64 i] w (Rrd ZB 2 w) := by
  obtain ⟨T, hT⟩ : ∃ T, T = Rrd ZB 2 w := ⟨_, rfl⟩
  rw [← hT]
  replace hT := hide hT
  have hst := hide hs
  obtain ⟨h, lg, sl, hh, hlg, hsl, hq⟩ := stN_is D.safe.length gd
  obtain ⟨-, hS⟩ := hs
  rw [hq] at hS
  clear hq
  replace hS := hide hS
  have h512 := hD.hi1
  clear hlg hh hsl
  replace hi := hide hi; replace hD := hide hD; replace hL := hide hL
  go_enter Tryd.func28, Tryd.ntmps28
  go_upto_region 1 with fail
  have hB := ((Bl.nil w).new #[.int .u8 0, .int .u8 0, .int .u8 0, .int .u8 0, .int .u8 0, .int .u8 0, .int .u8 0, .int .u8 0, .int .u8 0, .int .u8 0, .int .u8 0, .int .u8 0, .int .u8 0, .int .u8 0, .int .u8 0, .int .u8 0, .int .u8 0, .int .u8 0, .int .u8 0, .int .u8 0, .int .u8 0, .int .u8 0, .int .u8 0, .int .u8 0, .int .u8 0, .int .u8 0, .int .u8 0, .int .u8 0, .int .u8 0, .int .u8 0, .int .u8 0, .int .u8 0, .int .u8 0, .int .u8 0, .int .u8 0, .int .u8 0, .int .u8 0, .int .u8 0, .int .u8 0, .int .u8 0, .int .u8 0, .int .u8 0, .int .u8 0, .int .u8 0, .int .u8 0, .int .u8 0, .int .u8 0, .int .u8 0, .int .u8 0, .int .u8 0, .int .u8 0, .int .u8 0, .int .u8 0, .int .u8 0, .int .u8 0, .int .u8 0, .int .u8 0, .int .u8 0, .int .u8 0, .int .u8 0, .int .u8 0, .int .u8 0, .int .u8 0, .int .u8 0] 50)
  simp only [size_alloc, List.nil_append, List.cons_append] at hB
  generalize World.alloc _ _ = u at *
  replace hB : Bl w [⟨w.heap.size, kc ZB, 50⟩] u := hB
  refine wp_region_lit ?_
  refine list_val (.pointer (some ⟨g, 0, none⟩)) (by kernel_rfl) (by kernel_rfl) ?_
  simp only [Act.put, List.setIfInBounds_toArray, List.set_cons_zero, List.set_cons_succ, List.getElem_toArray, List.getElem_cons_zero, List.getElem_cons_succ]
  refine list_val (.int .i64 i) (by kernel_rfl) (by kernel_rfl) ?_
  simp only [Act.put, List.setIfInBounds_toArray, List.set_cons_zero, List.set_cons_succ, List.getElem_toArray, List.getElem_cons_zero, List.getElem_cons_succ]
  refine list_call 54 #[.pointer (some ⟨g, 0, none⟩), .int .i64 i] (by kernel_rfl) (by kernel_rfl) ((sreach_no G g gd D.safe.length s (by omega) i (unhide hi) _ ((unhide hst).gr hB.gr)).mono ?_)
  rintro r u1 ⟨rfl, hg⟩
  refine ⟨_, rfl, ?_⟩
  replace hB := hB.more hg
  clear hg
  simp only [Act.put, List.setIfInBounds_toArray, List.set_cons_zero, List.set_cons_succ, List.getElem_toArray, List.getElem_cons_zero, List.getElem_cons_succ]
  (refine wpList_step fun K hK => ?_; replace hK := hide hK; go_simp; refine unhide hK _ _ ?_; clear hK K)
  refine wpList_nil ?_
  replace hB := hide hB
  go_upto_region 3 with fail
  replace hB := unhide hB
  refine wp_region_lit ?_
  refine list_val (.agg (kc ZB)) (by kernel_rfl) (by kernel_rfl) ?_
  simp only [Act.put, List.setIfInBounds_toArray, List.set_cons_zero, List.set_cons_succ, List.getElem_toArray, List.getElem_cons_zero, List.getElem_cons_succ]
  refine list_val (.int .i64 2) (by kernel_rfl) (by kernel_rfl) ?_
  simp only [Act.put, List.setIfInBounds_toArray, List.set_cons_zero, List.set_cons_succ, List.getElem_toArray, List.getElem_cons_zero, List.getElem_cons_succ]
  refine list_store 50 (.tmp 4) (.tmp 12) (w.heap.size) (kc ZB) 50 (kc ZB) (by kernel_rfl) rfl (by kernel_rfl) (by kernel_rfl) (hB.get 0 (x := ⟨w.heap.size, kc ZB, 50⟩) rfl) (by rw [Tryd.infoB, kc_size, ZB_len]) ((show (kc ZB).size = 64 from rfl).trans ((kc_size _).trans ZB_len).symm) (kc_one _) ?_
  replace hB := hB.set 0 (x := ⟨w.heap.size, kc ZB, 50⟩) rfl (kc ZB)
  simp only [List.set_cons_zero, List.set_cons_succ] at hB
  generalize World.setRow _ _ _ = u9 at *
  replace hB : Bl w [⟨w.heap.size, kc ZB, 50⟩] u9 := hB
  simp only [Act.put, List.setIfInBounds_toArray, List.set_cons_zero, List.set_cons_succ, List.getElem_toArray, List.getElem_cons_zero, List.getElem_cons_succ]
  (refine wpList_step fun K hK => ?_; replace hK := hide hK; go_simp; refine unhide hK _ _ ?_; clear hK K)
  refine wpList_nil ?_
  replace hB := hide hB
  go_wp2_with fail
  replace hB := unhide hB
  rw [unhide hT]
  exact bodyPost_ret (v := .tuple #[.agg (kc ZB), .int .i64 2]) (results_cell_tmp Tryd.results28 _ _ (w.heap.size) 50 (kc ZB) (0, 0) _ rfl (.int .i64 2) rfl (hB.get 0 (x := ⟨w.heap.size, kc ZB, 50⟩) rfl) Tryd.underlying50 rfl ((by rw [Tryd.infoB]; rfl))) rfl (⟨rfl, hB.gr⟩)
set_option maxHeartbeats 4000000 in
theorem eput_no (F G : List Nat) (g gd m : Nat) (D : Dk) (s : Sup) (hD : D.Ok m) (hm : m ≤ 900000) (i : Int) (hi : i < 0 ∨ ((D.safe.length - 2 - 2 * ((D.safe.length - 2) / 4) : Nat) : Int) ≤ i) (b : List Int) (hb : BB b) (w : World) (hL : Lies F gd D w) (hs : Sto G g gd D.safe.length s w) : Calls Tryd.prog 27 #[P0 g, .int .i64 i, .agg (kc b)] w (Vl (.int .i64 2) w) := by
  obtain ⟨T, hT⟩ : ∃ T, T = Vl (.int .i64 2) w := ⟨_, rfl⟩
  rw [← hT]
  replace hT := hide hT
  have hst := hide hs
  obtain ⟨h, lg, sl, hh, hlg, hsl, hq⟩ := stN_is D.safe.length gd
  obtain ⟨-, hS⟩ := hs
  rw [hq] at hS
  clear hq
  replace hS := hide hS
  have h512 := hD.hi1
  clear hlg hh hsl
  replace hi := hide hi; replace hD := hide hD; replace hL := hide hL
  have hbl := hb.1
  obtain ⟨SK, hSK⟩ : ∃ X, X = kc b := ⟨_, rfl⟩
  rw [← hSK]
  replace hSK := hide hSK; replace hb := hide hb
  go_enter Tryd.func27, Tryd.ntmps27
  go_upto_region 1 with fail
  have hB := ((Bl.nil w).new SK 50)
  simp only [size_alloc, List.nil_append, List.cons_append] at hB
  generalize World.alloc _ _ = u at *
  rw [unhide hSK] at hB
  replace hB : Bl w [⟨w.heap.size, kc b, 50⟩] u := hB
  refine wp_region_lit ?_
  refine list_val (.pointer (some ⟨g, 0, none⟩)) (by kernel_rfl) (by kernel_rfl) ?_
  simp only [Act.put, List.setIfInBounds_toArray, List.set_cons_zero, List.set_cons_succ, List.getElem_toArray, List.getElem_cons_zero, List.getElem_cons_succ]
  refine list_val (.int .i64 i) (by kernel_rfl) (by kernel_rfl) ?_
  simp only [Act.put, List.setIfInBounds_toArray, List.set_cons_zero, List.set_cons_succ, List.getElem_toArray, List.getElem_cons_zero, List.getElem_cons_succ]
  refine list_call 54 #[.pointer (some ⟨g, 0, none⟩), .int .i64 i] (by kernel_rfl) (by kernel_rfl) ((sreach_no G g gd D.safe.length s (by omega) i (unhide hi) _ ((unhide hst).gr hB.gr)).mono ?_)
  rintro r u1 ⟨rfl, hg⟩
  refine ⟨_, rfl, ?_⟩
  replace hB := hB.more hg
  clear hg
  simp only [Act.put, List.setIfInBounds_toArray, List.set_cons_zero, List.set_cons_succ, List.getElem_toArray, List.getElem_cons_zero, List.getElem_cons_succ]
  (refine wpList_step fun K hK => ?_; replace hK := hide hK; go_simp; refine unhide hK _ _ ?_; clear hK K)
  refine wpList_nil ?_
  have hZ : Hid (Vl (.int .i64 2) w (.returned (.int .i64 2)) u1) := ⟨rfl, hB.gr⟩
  replace hB := hide hB
  go_wp2_with fail
  rw [unhide hT]
  exact unhide hZ
theorem Xs.dsk {w : World} {F G F' : List Nat} {g gd : Nat} {D E : Dk} {s : Sup} {v u : World} (h : Xs w F G g gd D s v) (hE : E.safe.length = D.safe.length) (hL : Lies F' gd E u) (c : Chg F F' v u) : Xs w F' G g gd E s u := by
  refine ⟨Chg.own h.gr c h.oF, hL, by rw [hE]; exact h.st.chg c h.ap, fun i hi => (c.new i hi).elim (h.oF i) (fun e => Nat.le_trans h.gr.size e), h.oG, fun i hi hg => ?_⟩
  rcases c.new i hi with e | e
  · exact h.ap i e hg
  · have := h.st.lt i hg
    omega
end Go.Proofs.YtomihjeiaignnaaDoor

namespace Go.Proofs.YtomihjeiaignnaaDoor
open Go.ChangeShapes Go.WideShapes Go.ChangeAt Go.RowKit
set_option maxRecDepth 100000
set_option linter.unusedVariables false
set_option linter.unusedSimpArgs false
theorem open_nums {H : Type} {enc : TypeId × Value → H} {W : World} {t e : TypeId} {k : IntKind} {n fuel : Nat} {cs : List Value} {x : DataW H × List MemPlace} (ht : Tryd.prog.underlying t = some (.array n e)) (he : Tryd.prog.underlying e = some (.int k)) (hc : Tryd.prog.cellsOf e = 1) (hn : Tryd.prog.cellsOf t = n)
    (h : DataW.trod enc Tryd.prog W 0 (fun _ => true) true fuel t cs = some x) : ∃ zs : List Int, cs = zs.map (Value.int k) ∧ zs.length = n ∧ ∀ z ∈ zs, (Lit.int k z).wf = true := by
  obtain ⟨xs, m, _, hx, hl, hxl, hh⟩ := DataW.trod_array ht h
  rw [hn] at hl
  have hce : ∀ i, i < n → ∃ z, cs[i]? = some (.int k z) ∧ (Lit.int k z).wf = true := by
    intro i hi
    have h1 := hh i hi
    rw [hc, Nat.mul_one, List.getElem?_eq_getElem (by omega)] at h1
    obtain ⟨z, e, _, hw⟩ := DataW.trod_int he h1
    refine ⟨z, ?_, hw⟩
    have h2 : ((cs.drop i).take 1)[0]? = some (.int k z) := by rw [e]; rfl
    simpa using h2
  refine ⟨cs.map (fun v => match v with | .int _ z => z | _ => 0), ?_, by simp [hl], ?_⟩
  · apply List.ext_getElem?
    intro i
    rcases Nat.lt_or_ge i n with hi | hi
    · obtain ⟨z, h1, _⟩ := hce i hi
      simp [h1]
    · rw [List.getElem?_eq_none (by omega), List.getElem?_eq_none (by simp; omega)]
  · intro z hz
    obtain ⟨v, hv, rfl⟩ := List.mem_map.1 hz
    obtain ⟨i, hi⟩ := List.getElem?_of_mem hv
    have hi2 : i < n := by have := (List.getElem?_eq_some_iff.1 hi).1; omega
    obtain ⟨z, h1, h2⟩ := hce i hi2
    rw [hi] at h1
    obtain rfl := Option.some.inj h1
    exact h2
theorem Tryd.cellsBk : Tryd.prog.cellsOf 50 = 64 := by kernel_rfl
theorem Tryd.cellsU8 : Tryd.prog.cellsOf 5 = 1 := by kernel_rfl
theorem wf_b8 {x : Int} (h : (Lit.int .u8 x).wf = true) : 0 ≤ x ∧ x < 256 := by
  have := bounds_u8 h
  omega
theorem open_blkc {H : Type} {enc : TypeId × Value → H} {W : World} {fuel : Nat} {cs : List Value} {x : DataW H × List MemPlace} (h : DataW.trod enc Tryd.prog W 0 (fun _ => true) true fuel 50 cs = some x) : ∃ b, cs = bv b ∧ BB b := by
  obtain ⟨zs, h1, h2, h3⟩ := open_nums Tryd.underlying50 Tryd.underlying5 Tryd.cellsU8 Tryd.cellsBk h
  exact ⟨zs, h1, h2, fun z hz => wf_b8 (h3 z hz)⟩
theorem open_blk {H : Type} {enc : TypeId × Value → H} {W : World} {base : Nat} {v : Value} {d : DataW H} {p : List MemPlace}
    (hv : Value.okWide Tryd.prog W .any base 50 v) (h : DataW.Trod enc Tryd.prog W 0 (fun _ => true) true 50 v d p) : ∃ b, v = .agg (kc b) ∧ BB b := by
  unfold Value.okWide at hv
  rw [Tryd.underlying50] at hv
  obtain ⟨cs, rfl, hsz, _⟩ := hv
  obtain ⟨fuel, hf⟩ := h
  obtain ⟨b, e, hb⟩ := open_blkc hf
  refine ⟨b, ?_, hb⟩
  congr 1
  apply Array.ext'
  exact e
end Go.Proofs.YtomihjeiaignnaaDoor
