/-
  Of layer 11: what the proofs lean on.
-/
import Derived.Deep.DeepAppendWide
import Derived.Laws.BytesArg
import Derived.Test.YtomihjeiaignnaaDoorRows
import Derived.ChangeOld
import Derived.SizedLaws
import Derived.LaidMore
import Derived.Stop.Joined
import Derived.ProofKit
import Derived.OpenShut
import Derived.WalkMore
import Derived.Deep.Cut
import Derived.StillTailTactics
import Derived.OwnWalk
import Derived.Deep.QuietTactic
import Derived.BigQuiet
import Derived.Deep.MidRow
import Derived.Laws.IdiomCopy
import Derived.Deep.Strs
import Derived.ChangeKeysEq
import Derived.WideShapes
import Derived.Deep.Grids
import Derived.Lib.SmallJoins
import Derived.Test.YtomihjeiaignnaaDoorK7
namespace Go.Proofs.YtomihjeiaignnaaDoor
open Go.RowKit
set_option maxRecDepth 100000
set_option linter.unusedSimpArgs false
set_option linter.unusedVariables false
structure Rm (b : Nat) (w : World) (v : Value) (n : Nat) (L : List Int) : Prop where
  ex : ∃ g cap cur, v = .slice (some ⟨g, 0, none⟩) n cap ∧ b ≤ g ∧ w.heap[g]? = some (.cells cur 5 (0, 0)) ∧ n + 1 ≤ cap ∧ cap ≤ maxLen ∧ cur.size = cap ∧ cur.toList.take (n + 1) = (L ++ [7]).map (Value.int .u8) ∧ L.length = n
end Go.Proofs.YtomihjeiaignnaaDoor

namespace Go.Proofs.YtomihjeiaignnaaDoor
open Go.ChangeShapes Go.WideShapes Go.ChangeAt Go.RowKit
set_option maxRecDepth 100000
theorem wf_byte {x : Int} (h : (Lit.int .u8 x).wf = true) : 0 ≤ x ∧ x < 256 := by
  have := bounds_u8 h
  omega
theorem Tryd.bytes5 : Tryd.prog.bytesOf 5 = 1 := by kernel_rfl
theorem open_bytes {H : Type} {enc : TypeId × Value → H} {W : World} {a : Option Addr} {len cap : Nat} {d : DataW H} {p : List MemPlace}
    (h : DataW.Trod enc Tryd.prog W 0 (fun _ => true) true 32 (.slice a len cap) d p) (hw : ∀ elems spare, d = .slice elems spare → (elems.length + spare.length) * Tryd.prog.bytesOf 5 ≤ reachBytes) :
    ∃ l, IsB l ∧ l.length = len ∧ Sl W a l ∧ len ≤ cap ∧ cap ≤ 140737488351232 := by
  obtain ⟨fuel, hf⟩ := h
  rcases open_ints Tryd.underlying32 Tryd.underlying5 (by kernel_rfl) hf with ⟨hcs, _⟩ | ⟨x, l, c, zs, hcs, _, hl, hm, hz, hx, hcell, hwz⟩
  · simp [Value.cells] at hcs
    obtain ⟨rfl, rfl, rfl⟩ := hcs
    exact ⟨[], (by intro x hx; cases hx), rfl, .inl rfl, by omega, by omega⟩
  · simp [Value.cells] at hcs
    obtain ⟨rfl, rfl, rfl⟩ := hcs
    simp only [Prod.mk.injEq] at hx
    simp only [if_true] at hz
    have := hw _ _ hx.1
    rw [Tryd.bytes5] at this
    simp only [lits, List.length_map, List.length_take, List.length_drop, reachBytes] at this
    refine ⟨zs.take len, fun y hy => wf_byte (hwz y (List.mem_of_mem_take hy)), by simp; omega, ?_, by omega, by omega⟩
    rcases Nat.eq_zero_or_pos len with h0 | h0
    · left
      subst h0
      rfl
    · right
      obtain ⟨b, off, spot⟩ := x
      have hspot : spot = none := by simpa [Addr.add] using World.cell?_spot (hcell 0 (by omega))
      subst hspot
      refine ⟨b, off, rfl, fun i hi => ?_⟩
      have hi2 : i < len := by rw [List.length_take] at hi; omega
      have := hcell i (by omega)
      rw [Addr.add_mid] at this
      rw [this, List.getD_eq_getElem?_getD, List.getD_eq_getElem?_getD, List.getElem?_take, if_pos hi2]
end Go.Proofs.YtomihjeiaignnaaDoor

namespace Go.Proofs.YtomihjeiaignnaaDoor
open Go.RowKit
set_option maxRecDepth 100000
set_option linter.unusedSimpArgs false
set_option linter.unusedVariables false
theorem u8_xor_nat (a b : Nat) (ha : a < 256) (hb : b < 256) : bits .xor .u8 (a : Int) (b : Int) = ((a ^^^ b : Nat) : Int) := by
  have hx : a ^^^ b < 2 ^ 8 := Nat.xor_lt_two_pow (by omega) (by omega)
  have h1 : (BitVec.ofInt 8 (a : Int)).toNat = a := by
    rw [BitVec.ofInt_natCast, BitVec.toNat_ofNat]; exact Nat.mod_eq_of_lt (by omega)
  have h2 : (BitVec.ofInt 8 (b : Int)).toNat = b := by
    rw [BitVec.ofInt_natCast, BitVec.toNat_ofNat]; exact Nat.mod_eq_of_lt (by omega)
  show IntKind.u8.wrap ((BitVec.ofInt 8 (a : Int) ^^^ BitVec.ofInt 8 (b : Int)).toNat : Int) = _
  rw [BitVec.toNat_xor, h1, h2, IntKind.wrap_u8]
  omega
instance (D : Dk) (i : Int) : Decidable (D.has i) := by unfold Dk.has; exact inferInstance
def Dk.armD (D : Dk) (n : Int) : Dk := if D.dead then D else { D with left := if n < -1 then -1 else n }
def Dk.armE (D : Dk) : Int := if D.dead then 7 else 0
theorem Dk.Ok.arm {D : Dk} {m : Nat} (h : D.Ok m) (n : Int) (hn : n < 9223372036854775808) : (D.armD n).Ok m := by
  unfold Dk.armD
  split
  · exact h
  · refine ⟨h.blk, h.pnd, h.lo1, h.hi1, ?_, ?_, h.ops, h.num⟩
    · dsimp only
      split <;> omega
    · dsimp only
      split <;> omega
theorem Dk.Ok.crash {D : Dk} {m : Nat} (h : D.Ok m) (keep : List Bool) : (D.crashD keep).Ok m := by
  have k := h.live keep
  exact ⟨k.blk, k.pnd, k.lo1, k.hi1, by show (-1 : Int) ≤ -1; omega, by show (-1 : Int) < _; omega, k.ops, k.num⟩
def Fr2 (w : World) (a a' : Option Addr) : Prop := ∀ p, blkOf a' = some p → blkOf a = some p ∨ w.heap.size ≤ p
theorem Fr2.none (w : World) (a : Option Addr) : Fr2 w a none := fun p h => by cases h
theorem Fr2.new {w : World} (a : Option Addr) {g o : Nat} (h : w.heap.size ≤ g) : Fr2 w a (some ⟨g, o, Option.none⟩) := fun p e => by
  have : g = p := by simpa [blkOf] using e
  exact .inr (by omega)
theorem exec_sk {op : Oper} {a : Act} (w : World) (x : Operand) (ho : op.op = .load 68 x) (g i : Nat) (hx : a.eval x = .pointer (some ⟨g, i, none⟩)) (s : Option Addr) (n c : Nat) (hc : w.cell? ⟨g, i, none⟩ = some (.slice s n c)) : (execOp a.eval op).run Tryd.prog w = .ok (.value (.slice s n c)) w := by
  unfold execOp
  simp only [ho, hx, Instr.loadAt, Instr.sureAddr, Sem.run_bind, Sem.run_pure, Result.andThen_ok]
  go_simp
theorem exec_ik {a : Act} {o : Oper} (w : World) (x y : Operand) (ho : o.op = .indexAddr 68 x y) (g q len cap i : Nat) (hx : a.eval x = .slice (some ⟨g, q, none⟩) len cap) (hy : a.eval y = .int .i64 i) (hi : i < len) :
    (execOp a.eval o).run Tryd.prog w = .ok (.value (.pointer (some ⟨g, q + i, none⟩))) w := by
  have h1 : (i : Int) < (len : Int) := by omega
  unfold execOp
  simp only [ho, hx, hy]
  go_simp
theorem grown_owned {k : Nat} {e : TypeId} {b : Nat} {w u u' : World} {v : Value} {n : Nat} {xs : List Value} (h : u.ownsRow b e k v n xs) (hb : w.heap.size ≤ b) (g : Gr w u) (k : u.grownBy u' v.ownBlock) : Gr w u' := by
  refine ⟨k.os.trans g.os, k.tape.trans g.tape, k.output.trans g.output, Nat.le_trans g.size k.size, fun i hi => (k.block i (Nat.lt_of_lt_of_le hi g.size) ?_).trans (g.block i hi)⟩
  intro e
  have := (World.ownsRow.lt h i e.symm).1
  omega
theorem app_rows0 {t e : TypeId} {k nb : Nat} (L : Lt t e k nb) {w : World} {o : Oper} {a : Act} {K : Act → World → Prop} {Q : Exit → Act → World → Prop} (s x : Operand)
    (ho : o.op = .call { callee := .builtin .append, args := #[s, x], argTypes := #[t, t] }) (b : Nat) (v : Value) (R : List (List Value)) (hs : a.eval s = v) (hown : Or_ k e b w v R)
    (sp : Option Addr) (n sc : Nat) (l : List (List Value)) (hx : a.eval x = .slice sp n sc) (hn : l.length = n) (hrow : ∀ r ∈ l, r.length = k) (hsl : l = [] ∨ ∃ p o, sp = some ⟨p, o, none⟩ ∧ w.rangeAt p o l.flatten) (h1 : ∀ r ∈ l, ∀ u ∈ r, u.oneCell' = true) (hbig : ((R.length + n) + (R.length + n) / 4 + 192) * nb ≤ 281474976710656 ∧ R.length + n ≤ 4611686018427387904) (hB : b ≤ w.heap.size)
    (h : ∀ v' w', Or_ k e b w' v' (R ++ l) → w.grownBy w' v.ownBlock → K (a.put o.dst v') w') : o.wp Tryd.prog a w K Q := by
  obtain ⟨i0, z0, hi, hz0, hz1, hz2, hz3⟩ := L.hi
  have hnb := L.hn
  rcases hsl with rfl | ⟨p, q, rfl, hat⟩
  · obtain rfl : 0 = n := hn
    obtain ⟨a', c', rfl, hls⟩ := hown.ls
    have hc := hls.cap
    have hrun : (Builtin.append_ #[t, t] o.type #[.slice a' R.length c', .slice sp 0 sc]).run Tryd.prog w = .ok (.slice a' R.length c') w := by
      cases a' <;> cases sp <;> simp [Builtin.append_, run_underlying L.ht, sizeOf, typeInfo, hi, Builtin.lenOf, Builtin.firstCells, loadCells, loadCellsFrom, storeCells, hc]
    unfold Oper.wp
    simp [execOp, ho, resolve, invoke, builtin, hs, hx, hrun, Result.andThen]
    exact h _ _ (by rw [List.append_nil]; exact hown) (World.grownBy.refl _ _)
  · have hfl := flat_len l k hrow
    refine wp_append_own_wide w s x t ho b e i0 z0 k nb L.ht hi hz0 hz1 hz2 hz3 L.hk v R.length _ hs hown.2 ⟨p, q, none⟩ n sc l.flatten hx (by rw [hfl, hn]) ?_ ?_ (by unfold maxLen; omega) hbig.1 hB ?_
    · intro j u hj
      rw [Addr.add_mid]
      exact hat j u hj
    · intro u hu
      obtain ⟨r, hr, hu⟩ := List.mem_flatten.1 hu
      exact h1 r hr u hu
    · intro v' w' h1 h2 _
      refine h v' w' ⟨?_, ?_⟩ h2
      · intro r hr
        rcases List.mem_append.1 hr with hr | hr
        · exact hown.1 r hr
        · exact hrow r hr
      · rw [List.length_append, List.flatten_append, hn]
        exact h1
structure Kp (w : World) (a : Option Addr) (n c : Nat) (l : List Bool) : Prop where
  len : l.length = n
  sl : l = [] ∨ ∃ p o, a = some ⟨p, o, none⟩ ∧ w.rangeAt p o (l.map Value.bool)
  cap : n ≤ c
  max : c < 9223372036854775808
theorem Kp.gr {w v : World} {a : Option Addr} {n c : Nat} {l : List Bool} (h : Kp w a n c l) (g : Gr w v) : Kp v a n c l := by
  refine ⟨h.len, ?_, h.cap, h.max⟩
  rcases h.sl with h | ⟨p, o, h1, h2⟩
  · exact .inl h
  · exact .inr ⟨p, o, h1, range_gr h2 g⟩
theorem Kp.at_ {w : World} {a : Option Addr} {n c : Nat} {l : List Bool} (h : Kp w a n c l) (i : Nat) (hi : i < n) : ∃ p o, a = some ⟨p, o, none⟩ ∧ w.cell? ⟨p, o + i, none⟩ = some (.bool (l.getD i false)) := by
  have hl := h.len
  rcases h.sl with h0 | ⟨p, o, h1, h2⟩
  · rw [h0] at hl
    simp at hl
    omega
  · refine ⟨p, o, h1, h2 i _ ?_⟩
    rw [List.getElem?_map, List.getD_eq_getElem?_getD, List.getElem?_eq_getElem (by omega)]
    rfl
theorem Tryd.infoKz : (Tryd.prog.info? 4).map (fun i => (i.zero, i.size, i.bytes)) = some (some (.bool false), 1, 1) := by kernel_rfl
theorem lt_k : Lt 68 4 1 1 := by
  obtain ⟨i, h1, h2, h3, h4⟩ := info_parts Tryd.infoKz
  exact ⟨Tryd.underlying68, ⟨i, _, h1, h2, h3, h4, rfl⟩, by decide, by decide⟩
theorem flat_bools : ∀ (l : List Bool), (l.map fun b => [Value.bool b]).flatten = l.map Value.bool
  | [] => rfl
  | x :: r => by rw [List.map_cons, List.flatten_cons, flat_bools r, List.map_cons]; rfl
theorem Ls.kp {w : World} {a : Option Addr} {n c : Nat} {l : List Bool} (h : Ls 1 w a n c (l.map fun b => [Value.bool b])) : Kp w a n c l := by
  refine ⟨by have := h.len; rw [List.length_map] at this; exact this, ?_, h.cap, h.max⟩
  rcases h.sl with h0 | ⟨p, o, h1, h2⟩
  · left
    exact List.eq_nil_of_length_eq_zero (by have := congrArg List.length h0; simpa using this)
  · rw [flat_bools] at h2
    exact .inr ⟨p, o, h1, h2⟩
theorem Kp.keep {w v : World} {a : Option Addr} {n c : Nat} {l : List Bool} (h : Kp w a n c l) (hk : ∀ i, blkOf a = some i → i < w.heap.size → v.heap[i]? = w.heap[i]?) : Kp v a n c l := by
  refine ⟨h.len, ?_, h.cap, h.max⟩
  rcases h.sl with h | ⟨p, o, rfl, h2⟩
  · exact .inl h
  · refine .inr ⟨p, o, rfl, fun j x hj => ?_⟩
    have h3 := h2 j x hj
    rw [cell_heap (hk p rfl (lt_of_cell h3))]
    exact h3
theorem Kp.chg {F F' : List Nat} {w v : World} {a : Option Addr} {n c : Nat} {l : List Bool} (h : Kp w a n c l) (k : Chg F F' w v) (hn : ∀ i ∈ F, blkOf a ≠ some i) : Kp v a n c l :=
  h.keep (fun i hi hl => k.block i hl (fun hm => hn i hm hi))
theorem armed (D : Dk) (n : Int) (h1 : -9223372036854775808 ≤ n) : Lf (if n < -1 then -1 else n) n := by
  unfold Lf
  split <;> constructor <;> intro h <;> first | omega | exact ⟨by omega, h1⟩
set_option maxHeartbeats 4000000 in
theorem darm_p (g : Nat) (D : Dk) (sg sc : Nat) (C : List Value) (pa : Option Addr) (pc : Nat) (l : Int) (n : Int) (h1 : -9223372036854775808 ≤ n) (w : World) (hP : Pd g D w sg sc C pa pc l) : Calls Tryd.prog 31 #[P0 g, .int .i64 n] w (Ch (pdF g sg pa) g (D.armD n) D.armE w) := by
  obtain ⟨T, hT⟩ : ∃ T, T = Ch (pdF g sg pa) g (D.armD n) D.armE w := ⟨_, rfl⟩
  rw [← hT]
  replace hT := hide hT
  obtain ⟨dd, hdd⟩ : ∃ x, x = D.dead := ⟨_, rfl⟩
  obtain ⟨sn, hsn⟩ : ∃ n, n = D.safe.length := ⟨_, rfl⟩
  obtain ⟨pn, hpn⟩ : ∃ n, n = D.pend.length := ⟨_, rfl⟩
  obtain ⟨os, hos⟩ : ∃ n, n = D.ops := ⟨_, rfl⟩
  have hcl := hP.cel
  rw [← hdd, ← hsn, ← hpn, ← hos] at hcl
  replace hdd := hide hdd; replace hsn := hide hsn; replace hpn := hide hpn; replace hos := hide hos; replace hcl := hide hcl; replace hP := hide hP
  go_enter Tryd.func31, Tryd.ntmps31
  go_upto_region 1 with fail
  refine wp_region_lit ?_
  refine list_val (.pointer (some ⟨g, 0, none⟩)) (by kernel_rfl) (by kernel_rfl) ?_
  simp only [Act.put, List.setIfInBounds_toArray, List.set_cons_zero, List.set_cons_succ, List.getElem_toArray, List.getElem_cons_zero, List.getElem_cons_succ]
  refine list_call 56 #[.pointer (some ⟨g, 0, none⟩)] (by kernel_rfl) (by kernel_rfl) ((power_ok g D sg sc C pa pc l _ (unhide hP)).mono ?_)
  rintro r u1 ⟨rfl, hG⟩
  refine ⟨_, rfl, ?_⟩
  obtain ⟨pe, hpe⟩ : ∃ x : Int, x = if D.dead then 7 else 0 := ⟨_, rfl⟩
  rw [← hpe]
  replace hpe := hide hpe
  replace hP := hide ((unhide hP).gr hG)
  simp only [Act.put, List.setIfInBounds_toArray, List.set_cons_zero, List.set_cons_succ, List.getElem_toArray, List.getElem_cons_zero, List.getElem_cons_succ]
  (refine wpList_step fun K hK => ?_; replace hK := hide hK; go_simp; refine unhide hK _ _ ?_; clear hK K)
  refine wpList_nil ?_
  cases hd2 : dd
  case true =>
    have hd3 : D.dead = true := by rw [← unhide hdd, hd2]
    have e7 : pe = 7 := by rw [unhide hpe, hd3]; rfl
    subst e7
    have hZ : Hid (Ch (pdF g sg pa) g (D.armD n) D.armE w (.returned (.int .i64 7)) u1) := by
      have e1 : D.armD n = D := by unfold Dk.armD; rw [hd3]; rfl
      have e2 : D.armE = 7 := by unfold Dk.armE; rw [hd3]; rfl
      rw [e1, e2]
      exact ⟨pdF g sg pa, rfl, ⟨sg, sc, C, pa, pc, l, unhide hP, rfl⟩, hG.chg0 _⟩
    replace hG := hide hG
    go_wp2_with fail
    rw [unhide hT]
    exact unhide hZ
  case false =>
    have hd3 : D.dead = false := by rw [← unhide hdd, hd2]
    have e7 : pe = 0 := by rw [unhide hpe, hd3]; rfl
    subst e7
    have hB := (Bc.nil [g] u1).add ⟨g, pdv (some ⟨sg, 0, none⟩) D.safe.length sc pa D.pend.length pc l D.ops D.dead, 77⟩ (unhide hP).cel (.inl (by simp)) (fun y hy => by cases hy)
    rw [← unhide hdd, hd2, ← unhide hsn, ← unhide hpn, ← unhide hos] at hB
    replace hB : Bc [g] u1 [⟨g, pdv (some ⟨sg, 0, none⟩) sn sc pa pn pc l os false, 77⟩] u1 := hB
    replace hB := hide hB
    replace hd3 := hide hd3
    go_upto_region 4 with fail
    replace hB := unhide hB
    refine wp_region_lit ?_
    refine list_val (.pointer (some ⟨g, 0, none⟩)) (by kernel_rfl) (by kernel_rfl) ?_
    simp only [Act.put, List.setIfInBounds_toArray, List.set_cons_zero, List.set_cons_succ, List.getElem_toArray, List.getElem_cons_zero, List.getElem_cons_succ]
    refine list_val (.int .i64 n) (by kernel_rfl) (by kernel_rfl) ?_
    simp only [Act.put, List.setIfInBounds_toArray, List.set_cons_zero, List.set_cons_succ, List.getElem_toArray, List.getElem_cons_zero, List.getElem_cons_succ]
    refine list_val (.pointer (some ⟨g, 0, none⟩)) (by kernel_rfl) (by kernel_rfl) ?_
    simp only [Act.put, List.setIfInBounds_toArray, List.set_cons_zero, List.set_cons_succ, List.getElem_toArray, List.getElem_cons_zero, List.getElem_cons_succ]
    refine list_val (.pointer (some ⟨g, 2, none⟩)) (by kernel_rfl) (by kernel_rfl) ?_
    simp only [Act.put, List.setIfInBounds_toArray, List.set_cons_zero, List.set_cons_succ, List.getElem_toArray, List.getElem_cons_zero, List.getElem_cons_succ]
    have c4 := cell_of (hB.get 0 (x := ⟨g, pdv (some ⟨sg, 0, none⟩) sn sc pa pn pc l os false, 77⟩) rfl) (i := 2) rfl
    have fz := froz_of (i := 2) (hB.get 0 (x := ⟨g, pdv (some ⟨sg, 0, none⟩) sn sc pa pn pc l os false, 77⟩) rfl)
    have hB2 := hB.cell 0 (x := ⟨g, pdv (some ⟨sg, 0, none⟩) sn sc pa pn pc l os false, 77⟩) rfl 2 (.int .i64 n)
    simp only [List.set_cons_zero, List.set_cons_succ] at hB2
    replace hB2 : Bc [g] u1 [⟨g, pdv (some ⟨sg, 0, none⟩) sn sc pa pn pc n os false, 77⟩] _ := hB2
    clear hB
    replace hB2 := hide hB2
    dsimp only at c4 fz
    (refine wpList_step fun K hK => ?_; replace hK := hide hK; go_simp; refine unhide hK _ _ ?_; clear hK K)
    clear c4 fz
    have hB := unhide hB2
    clear hB2
    generalize World.setCell _ _ _ = u2 at *
    refine wpList_nil ?_
    have hZ : Hid (Ch (pdF g sg pa) g (D.armD n) D.armE w (.returned (.int .i64 0)) u2) := by
      have e1 : D.armD n = { D with left := if n < -1 then -1 else n } := by unfold Dk.armD; rw [unhide hd3]; rfl
      have e2 : D.armE = 0 := by unfold Dk.armE; rw [unhide hd3]; rfl
      rw [e1, e2]
      have hk : ∀ i, i ∈ pdF g sg pa → i ≠ g → u2.heap[i]? = u1.heap[i]? := fun i hi hne => hB.chg.block i ((unhide hP).lt i hi) (by simp [hne])
      refine ⟨pdF g sg pa, rfl, ⟨sg, sc, C, pa, pc, n, ⟨?_, ?_, (unhide hP).cov, (unhide hP).len, (unhide hP).cap, (unhide hP).max, ?_, armed D n h1⟩, rfl⟩, ?_⟩
      · show u2.heap[g]? = some (.cells (pdv (some ⟨sg, 0, none⟩) D.safe.length sc pa D.pend.length pc n D.ops D.dead) _ (0, 0))
        rw [← unhide hsn, ← unhide hpn, ← unhide hos, unhide hd3]
        exact hB.get 0 (x := ⟨g, pdv (some ⟨sg, 0, none⟩) sn sc pa pn pc n os false, 77⟩) rfl
      · rw [hk sg (mem_pdF.2 (.inr (.inl rfl))) (unhide hP).sg_ne.symm]
        exact (unhide hP).saf
      · exact or_keep (unhide hP).pnd (fun i hi => hk i (mem_pdF.2 (.inr (.inr hi))) ((unhide hP).pg_ne hi).1)
      · exact hG.chg (hB.chg.wide (fun i hi => by rw [List.mem_singleton] at hi; rw [hi]; exact mem_pdF.2 (.inl rfl)) (fun i hi => .inl hi))
    replace hG := hide hG
    replace hB := hide hB
    go_wp2_with fail
    rw [unhide hT]
    exact unhide hZ
theorem darm_ok (F : List Nat) (g m : Nat) (D : Dk) (hD : D.Ok m) (hm : m ≤ 1000000) (n : Int) (h1 : -9223372036854775808 ≤ n) (h2 : n < 9223372036854775808) (w : World) (h : Lies F g D w) : Calls Tryd.prog 31 #[P0 g, .int .i64 n] w (Ch F g (D.armD n) D.armE w) := by
  obtain ⟨sg, sc, C, pa, pc, l, h, rfl⟩ := h
  exact darm_p g D sg sc C pa pc l n h1 w h
theorem Kp.chg2 {F F' : List Nat} {w v : World} {a : Option Addr} {n c : Nat} {l : List Bool} (h : Kp w a n c l) (k : Chg F F' w v) (hn : l = [] ∨ ∀ i ∈ F, blkOf a ≠ some i) : Kp v a n c l := by
  rcases hn with hn | hn
  · exact ⟨h.len, .inl hn, h.cap, h.max⟩
  · exact h.chg k hn
set_option maxHeartbeats 4000000 in
theorem settle_c (g : Nat) (D : Dk) (sg sc : Nat) (C : List Value) (pa : Option Addr) (pc : Nat) (l : Int) (keep : List Bool) (kb : Nat) (m : Nat) (hD : D.Ok m) (hm : m ≤ 1000001) (w : World) (hP : Pd g D w sg sc C pa pc l) (hC : ∀ (v : World), Chg [g, sg] [g, sg] w v → ∀ j : Nat, j < D.pend.length → Calls Tryd.prog 58 #[.int .i64 (j : Int), .pointer (some ⟨kb, 0, none⟩)] v (Vl (.bool (keep.getD j false)) v)) : Calls Tryd.prog 57 #[P0 g, .func (.func 58) #[] #[.pointer (some ⟨kb, 0, none⟩)]] w (Stl g (D.live keep) sg sc l w) := by
  obtain ⟨T, hT⟩ : ∃ T, T = Stl g (D.live keep) sg sc l w := ⟨_, rfl⟩
  rw [← hT]
  replace hT := hide hT
  obtain ⟨S, hS⟩ : ∃ x, x = D.safe := ⟨_, rfl⟩
  obtain ⟨P, hPp⟩ : ∃ x, x = D.pend := ⟨_, rfl⟩
  obtain ⟨dd, hdd⟩ : ∃ x, x = D.dead := ⟨_, rfl⟩
  obtain ⟨sn, hsn⟩ : ∃ n, n = D.safe.length := ⟨_, rfl⟩
  obtain ⟨pn, hpn⟩ : ∃ n, n = D.pend.length := ⟨_, rfl⟩
  obtain ⟨os, hos⟩ : ∃ n, n = D.ops := ⟨_, rfl⟩
  have hcl := hP.cel
  rw [← hdd, ← hsn, ← hpn, ← hos] at hcl
  replace hdd := hide hdd; replace hsn := hide hsn; replace hpn := hide hpn; replace hos := hide hos; replace hcl := hide hcl; replace hP := hide hP
  have hpm : pn ≤ 1000001 := by rw [unhide hpn]; exact Nat.le_trans hD.num hm
  have hs512 : sn ≤ 512 := by rw [unhide hsn]; exact hD.hi1
  have hB := (unhide hP).two (F := [g, sg]) (by simp) (by simp)
  rw [← unhide hdd, ← unhide hsn, ← unhide hpn, ← unhide hos] at hB
  have hCl := (unhide hP).len
  have hsc : sn ≤ sc := by rw [unhide hsn]; exact (unhide hP).cap
  have hCov : Cov C (S.map bv).flatten := by rw [hS]; exact (unhide hP).cov
  have hlsn : Hid (S.length = sn) := by show S.length = sn; rw [hS, unhide hsn]
  have hlpn : Hid (P.length = pn) := by show P.length = pn; rw [hPp, unhide hpn]
  have hDS : Hid (∀ b ∈ S, BB b) := by show ∀ b ∈ S, BB b; rw [hS]; exact hD.blk
  have hDP : Hid (∀ x ∈ P, x.1 < S.length ∧ BB x.2) := by show ∀ x ∈ P, x.1 < S.length ∧ BB x.2; rw [hS, hPp]; exact hD.pnd
  have hls : Hid (Ls 65 w pa pn pc (P.map wv)) := by show Ls 65 w pa pn pc (P.map wv); rw [hPp, unhide hpn]; exact (unhide hP).pls
  have hpf : Hid (∀ i, blkOf pa = some i → i ∉ [g, sg]) := fun i hi => by have := (unhide hP).pg_ne hi; simp [this.1, this.2]
  rw [← unhide hpn] at hC
  replace hD := hide hD; replace hB := hide hB; replace hC := hide hC; replace hS := hide hS; replace hPp := hide hPp
  go_enter Tryd.func57, Tryd.ntmps57
  go_upto_region 0 with fail
  replace hB := unhide hB
  refine wp_region_lit ?_
  refine list_val (.pointer (some ⟨g, 0, none⟩)) (by kernel_rfl) (by kernel_rfl) ?_
  simp only [Act.put, List.setIfInBounds_toArray, List.set_cons_zero, List.set_cons_succ, List.getElem_toArray, List.getElem_cons_zero, List.getElem_cons_succ]
  refine list_val (.pointer (some ⟨g, 0, none⟩)) (by kernel_rfl) (by kernel_rfl) ?_
  simp only [Act.put, List.setIfInBounds_toArray, List.set_cons_zero, List.set_cons_succ, List.getElem_toArray, List.getElem_cons_zero, List.getElem_cons_succ]
  refine list_val (.pointer (some ⟨g, 1, none⟩)) (by kernel_rfl) (by kernel_rfl) ?_
  simp only [Act.put, List.setIfInBounds_toArray, List.set_cons_zero, List.set_cons_succ, List.getElem_toArray, List.getElem_cons_zero, List.getElem_cons_succ]
  refine list_val (.slice pa pn pc) (by kernel_rfl) (exec_spw _ (.tmp 8) rfl g 1 (by kernel_rfl) pa pn pc (cell_of (hB.get 0 (x := ⟨g, pdv (some ⟨sg, 0, none⟩) sn sc pa pn pc l os dd, 77⟩) rfl) (i := 1) rfl)) ?_
  simp only [Act.put, List.setIfInBounds_toArray, List.set_cons_zero, List.set_cons_succ, List.getElem_toArray, List.getElem_cons_zero, List.getElem_cons_succ]
  refine list_val (.int .i64 pn) (by kernel_rfl) (by kernel_rfl) ?_
  simp only [Act.put, List.setIfInBounds_toArray, List.set_cons_zero, List.set_cons_succ, List.getElem_toArray, List.getElem_cons_zero, List.getElem_cons_succ]
  refine list_val (.int .i64 0) (by kernel_rfl) (by kernel_rfl) ?_
  simp only [Act.put, List.setIfInBounds_toArray, List.set_cons_zero, List.set_cons_succ, List.getElem_toArray, List.getElem_cons_zero, List.getElem_cons_succ]
  refine wpList_nil ?_
  have hscx : sn * 64 ≤ sc * 64 := Nat.mul_le_mul_right _ hsc
  obtain ⟨cz, hcz⟩ : ∃ z, z = sc * 64 := ⟨_, rfl⟩
  rw [← hcz] at hCl hscx
  replace hcz := hide hcz
  replace hCov : Hid (Cov C ((liv S P keep 0).map bv).flatten) := hCov
  replace hB := hide hB
  go_wp2_with fail
  go_loopw [11] (fun i wr => ∃ j : Nat, ∃ C : List Value, j ≤ pn ∧ i = .int .i64 j ∧ C.length = cz ∧ Hid (Cov C ((liv S P keep j).map bv).flatten) ∧ Hid (Bc [g, sg] w [⟨g, pdv (some ⟨sg, 0, none⟩) sn sc pa pn pc l os dd, 77⟩, ⟨sg, C.toArray, 50⟩] wr)) (fun i _ => pn - (intOf i).toNat)
  case atStart => exact ⟨0, C, by omega, rfl, hCl, hCov, hB⟩
  case round =>
  clear hB hCov hCl
  obtain ⟨j, C2, hj, rfl, hCl, hCov, hB⟩ := hrel
  by_cases hjl : j < pn
  · skip
    obtain ⟨p2, o2, rfl, hrw⟩ := (unhide hls).at_ j hjl
    rw [getD_map wv P j (0, []) [] (by rw [unhide hlpn]; exact hjl)] at hrw
    have hx := unhide hDP _ (mem_of_getD (d := (0, [])) (by rw [unhide hlpn]; exact hjl))
    have hnx : Hid (liv S P keep (j + 1) = if keep.getD j false then (liv S P keep j).set (P.getD j (0, [])).1 (P.getD j (0, [])).2 else liv S P keep j) := rfl
    obtain ⟨⟨ai, ab⟩, hab⟩ : ∃ x, x = P.getD j (0, []) := ⟨_, rfl⟩
    rw [← hab] at hrw hx hnx
    have hal : ab.length = 64 := hx.2.1
    have hai : ai < sn := by rw [← unhide hlsn]; exact hx.1
    have hwl : (wv (ai, ab)).length = 65 := by rw [wv_len, hal]
    have hlb : Hid (∀ b ∈ liv S P keep j, BB b) := liv_bb (unhide hDS) (fun x hx => (unhide hDP x hx).2) keep j (by rw [unhide hlpn]; exact hj)
    have hp2 : p2 ∉ [g, sg] := unhide hpf p2 rfl
    replace hab := hide hab; replace hx := hide hx; replace hrw := hide hrw; replace hp2 := hide hp2
    have jI : (j : Int) < (pn : Int) := by omega
    go_upto_region 2 with fail
    replace hB := unhide hB
    refine wp_region_lit ?_
    refine list_val (.int .i64 j) (by kernel_rfl) (by kernel_rfl) ?_
    simp only [Act.put, List.setIfInBounds_toArray, List.set_cons_zero, List.set_cons_succ, List.getElem_toArray, List.getElem_cons_zero, List.getElem_cons_succ]
    refine list_val (.pointer (some ⟨p2, o2 + 65 * j, none⟩)) (by kernel_rfl) (exec_ipw _ (.tmp 9) (.tmp 11) rfl p2 o2 pn pc j rfl rfl hjl) ?_
    simp only [Act.put, List.setIfInBounds_toArray, List.set_cons_zero, List.set_cons_succ, List.getElem_toArray, List.getElem_cons_zero, List.getElem_cons_succ]
    refine list_val (.agg ((wv (ai, ab)).toArray)) (by kernel_rfl) (exec_row _ 99 (.tmp 14) rfl p2 (o2 + 65 * j) (by kernel_rfl) (wv (ai, ab)) _ (range_chg (unhide hrw) hB.chg (unhide hp2)) Tryd.underlying99 rfl (by rw [Tryd.infoPW, hwl])) ?_
    simp only [Act.put, List.setIfInBounds_toArray, List.set_cons_zero, List.set_cons_succ, List.getElem_toArray, List.getElem_cons_zero, List.getElem_cons_succ]
    refine list_valw (.pointer (some ⟨wr.heap.size, 0, none⟩)) (wr.alloc (.cells ((wv (0, ZB)).toArray) 99 (0, 0))) (by kernel_rfl) (by kernel_rfl) ?_
    replace hB := hB.new ((wv (0, ZB)).toArray) 99
    simp only [List.nil_append, List.cons_append] at hB
    generalize World.alloc _ _ = v1 at *
    generalize wr.heap.size = g8 at *
    replace hB : Bc [g, sg] w [⟨g, pdv (some ⟨sg, 0, none⟩) sn sc (some ⟨p2, o2, none⟩) pn pc l os dd, 77⟩, ⟨sg, C2.toArray, 50⟩, ⟨g8, (wv (0, ZB)).toArray, 99⟩] v1 := hB
    simp only [Act.put, List.setIfInBounds_toArray, List.set_cons_zero, List.set_cons_succ, List.getElem_toArray, List.getElem_cons_zero, List.getElem_cons_succ]
    (refine wpList_step fun K hK => ?_; replace hK := hide hK; go_simp; refine unhide hK _ _ ?_; clear hK K)
    refine list_store 99 (.tmp 5) (.tmp 15) g8 ((wv (ai, ab)).toArray) 99 ((wv (0, ZB)).toArray) (by kernel_rfl) rfl (by kernel_rfl) (by kernel_rfl) (hB.get 2 (x := ⟨g8, (wv (0, ZB)).toArray, 99⟩) rfl) (by rw [Tryd.infoPW, List.size_toArray, hwl]) ((show ((wv (0, ZB)).toArray).size = 65 from rfl).trans (by rw [List.size_toArray, hwl])) (wv_one _) ?_
    replace hB := hB.set 2 (x := ⟨g8, (wv (0, ZB)).toArray, 99⟩) rfl ((wv (ai, ab)).toArray)
    simp only [List.set_cons_zero, List.set_cons_succ] at hB
    generalize World.setRow _ _ _ = v2 at *
    replace hB : Bc [g, sg] w [⟨g, pdv (some ⟨sg, 0, none⟩) sn sc (some ⟨p2, o2, none⟩) pn pc l os dd, 77⟩, ⟨sg, C2.toArray, 50⟩, ⟨g8, (wv (ai, ab)).toArray, 99⟩] v2 := hB
    simp only [Act.put, List.setIfInBounds_toArray, List.set_cons_zero, List.set_cons_succ, List.getElem_toArray, List.getElem_cons_zero, List.getElem_cons_succ]
    refine wpList_nil ?_
    replace hB := hide hB
    go_upto_region 3 with fail
    replace hB := unhide hB
    refine wp_region_lit ?_
    refine list_val (.func (.func 58) #[] #[.pointer (some ⟨kb, 0, none⟩)]) (by kernel_rfl) (by kernel_rfl) ?_
    simp only [Act.put, List.setIfInBounds_toArray, List.set_cons_zero, List.set_cons_succ, List.getElem_toArray, List.getElem_cons_zero, List.getElem_cons_succ]
    refine list_val (.int .i64 j) (by kernel_rfl) (by kernel_rfl) ?_
    simp only [Act.put, List.setIfInBounds_toArray, List.set_cons_zero, List.set_cons_succ, List.getElem_toArray, List.getElem_cons_zero, List.getElem_cons_succ]
    refine list_call 58 #[.int .i64 (j : Int), .pointer (some ⟨kb, 0, none⟩)] (by kernel_rfl) (by kernel_rfl) ((unhide hC _ hB.chg j hjl).mono ?_)
    rintro r v3 ⟨rfl, hG⟩
    refine ⟨_, rfl, ?_⟩
    replace hB := hB.more hG
    clear hG
    obtain ⟨kb_, hkb⟩ : ∃ x, x = keep.getD j false := ⟨_, rfl⟩
    rw [← hkb]
    replace hkb := hide hkb
    simp only [Act.put, List.setIfInBounds_toArray, List.set_cons_zero, List.set_cons_succ, List.getElem_toArray, List.getElem_cons_zero, List.getElem_cons_succ]
    refine wpList_nil ?_
    cases kb_
    case false =>
      have hB3 : Hid (Bc [g, sg] w [⟨g, pdv (some ⟨sg, 0, none⟩) sn sc (some ⟨p2, o2, none⟩) pn pc l os dd, 77⟩, ⟨sg, C2.toArray, 50⟩] _) := Bc.left (M := [⟨g8, (wv (ai, ab)).toArray, 99⟩]) hB
      clear hB
      go_wp2_with fail
      go_roundw
      case rel => exact ⟨j + 1, C2, by omega, by go_num, hCl, (by show Cov C2 ((liv S P keep (j + 1)).map bv).flatten; rw [unhide hnx, ← unhide hkb]; exact unhide hCov), hB3⟩
      case measure => simp [intOf]; omega
    case true =>
      go_upto_region 4 with fail
      replace hB := hB
      refine anyC_start 9 (fun v => Bc [g, sg] w [⟨g, pdv (some ⟨sg, 0, none⟩) sn sc (some ⟨p2, o2, none⟩) pn pc l os dd, 77⟩, ⟨sg, C2.toArray, 50⟩, ⟨g8, (wv (ai, ab)).toArray, 99⟩] v) (by kernel_rfl) ?_
      replace hB := hB.drew
      generalize World.drew _ = x0 at *
      simp only [List.size_toArray, List.length_cons, List.length_nil, Array.replicate, List.replicate]
      refine anyC_take (i := 0) (v := (.pointer (some ⟨g, 0, none⟩))) (fun v => Bc [g, sg] w [⟨g, pdv (some ⟨sg, 0, none⟩) sn sc (some ⟨p2, o2, none⟩) pn pc l os dd, 77⟩, ⟨sg, C2.toArray, 50⟩, ⟨g8, (wv (ai, ab)).toArray, 99⟩] v) (fun _ h_ => h_) (.inr (by kernel_rfl)) rfl (by kernel_rfl) (by kernel_rfl) (by kernel_rfl) (by decide) (by kernel_rfl) (by decide) (fun _ _ _ h => h) (.inl ⟨by kernel_rfl, fun x_ hu => by kernel_rfl⟩) hB ?_
      simp only [Act.put, List.setIfInBounds_toArray, List.set_cons_zero, List.set_cons_succ, List.getElem_toArray, List.getElem_cons_zero, List.getElem_cons_succ]
      refine anyC_take (i := 1) (v := (.pointer (some ⟨g, 0, none⟩))) (fun v => Bc [g, sg] w [⟨g, pdv (some ⟨sg, 0, none⟩) sn sc (some ⟨p2, o2, none⟩) pn pc l os dd, 77⟩, ⟨sg, C2.toArray, 50⟩, ⟨g8, (wv (ai, ab)).toArray, 99⟩] v) (fun _ h_ => h_) (.inr (by kernel_rfl)) rfl (by kernel_rfl) (by kernel_rfl) (by kernel_rfl) (by decide) (by kernel_rfl) (by decide) (fun _ _ _ h => h) (.inl ⟨by kernel_rfl, fun x_ hu => by kernel_rfl⟩) hB ?_
      simp only [Act.put, List.setIfInBounds_toArray, List.set_cons_zero, List.set_cons_succ, List.getElem_toArray, List.getElem_cons_zero, List.getElem_cons_succ]
      refine anyC_take (i := 2) (v := (.pointer (some ⟨g, 0, none⟩))) (fun v => Bc [g, sg] w [⟨g, pdv (some ⟨sg, 0, none⟩) sn sc (some ⟨p2, o2, none⟩) pn pc l os dd, 77⟩, ⟨sg, C2.toArray, 50⟩, ⟨g8, (wv (ai, ab)).toArray, 99⟩] v) (fun _ h_ => h_) (.inr (by kernel_rfl)) rfl (by kernel_rfl) (by kernel_rfl) (by kernel_rfl) (by decide) (by kernel_rfl) (by decide) (fun _ _ _ h => h) (.inl ⟨by kernel_rfl, fun x_ hu => by kernel_rfl⟩) hB ?_
      simp only [Act.put, List.setIfInBounds_toArray, List.set_cons_zero, List.set_cons_succ, List.getElem_toArray, List.getElem_cons_zero, List.getElem_cons_succ]
      refine anyC_take (i := 3) (v := (.slice (some ⟨sg, 0, none⟩) sn sc)) (fun v => Bc [g, sg] w [⟨g, pdv (some ⟨sg, 0, none⟩) sn sc (some ⟨p2, o2, none⟩) pn pc l os dd, 77⟩, ⟨sg, C2.toArray, 50⟩, ⟨g8, (wv (ai, ab)).toArray, 99⟩] v) (fun _ h_ => h_) (.inr (by kernel_rfl)) rfl (by kernel_rfl) (by kernel_rfl) (by kernel_rfl) (by decide) (by kernel_rfl) (by decide) (fun _ _ _ h => h) (.inl ⟨by kernel_rfl, fun x_ hu => exec_sb _ (.tmp 21) rfl g 0 (by kernel_rfl) (some ⟨sg, 0, none⟩) sn sc (cell_of (hu.get 0 (x := ⟨g, pdv (some ⟨sg, 0, none⟩) sn sc (some ⟨p2, o2, none⟩) pn pc l os dd, 77⟩) rfl) (i := 0) rfl)⟩) hB ?_
      simp only [Act.put, List.setIfInBounds_toArray, List.set_cons_zero, List.set_cons_succ, List.getElem_toArray, List.getElem_cons_zero, List.getElem_cons_succ]
      refine anyC_take (i := 4) (v := (.pointer (some ⟨g8, 0, none⟩))) (fun v => Bc [g, sg] w [⟨g, pdv (some ⟨sg, 0, none⟩) sn sc (some ⟨p2, o2, none⟩) pn pc l os dd, 77⟩, ⟨sg, C2.toArray, 50⟩, ⟨g8, (wv (ai, ab)).toArray, 99⟩] v) (fun _ h_ => h_) (.inr (by kernel_rfl)) rfl (by kernel_rfl) (by kernel_rfl) (by kernel_rfl) (by decide) (by kernel_rfl) (by decide) (fun _ _ _ h => h) (.inl ⟨by kernel_rfl, fun x_ hu => by kernel_rfl⟩) hB ?_
      simp only [Act.put, List.setIfInBounds_toArray, List.set_cons_zero, List.set_cons_succ, List.getElem_toArray, List.getElem_cons_zero, List.getElem_cons_succ]
      refine anyC_take (i := 5) (v := (.int .i64 (ai : Int))) (fun v => Bc [g, sg] w [⟨g, pdv (some ⟨sg, 0, none⟩) sn sc (some ⟨p2, o2, none⟩) pn pc l os dd, 77⟩, ⟨sg, C2.toArray, 50⟩, ⟨g8, (wv (ai, ab)).toArray, 99⟩] v) (fun _ h_ => h_) (.inr (by kernel_rfl)) rfl (by kernel_rfl) (by kernel_rfl) (by kernel_rfl) (by decide) (by kernel_rfl) (by decide) (fun _ _ _ h => h) (.inl ⟨by kernel_rfl, fun x_ hu => exec_i64 _ (.tmp 23) rfl g8 0 (by kernel_rfl) _ (cell_of (hu.get 2 (x := ⟨g8, (wv (ai, ab)).toArray, 99⟩) rfl) (i := 0) rfl)⟩) hB ?_
      simp only [Act.put, List.setIfInBounds_toArray, List.set_cons_zero, List.set_cons_succ, List.getElem_toArray, List.getElem_cons_zero, List.getElem_cons_succ]
      refine anyC_take (i := 6) (v := (.pointer (some ⟨g8, 1, none⟩))) (fun v => Bc [g, sg] w [⟨g, pdv (some ⟨sg, 0, none⟩) sn sc (some ⟨p2, o2, none⟩) pn pc l os dd, 77⟩, ⟨sg, C2.toArray, 50⟩, ⟨g8, (wv (ai, ab)).toArray, 99⟩] v) (fun _ h_ => h_) (.inr (by kernel_rfl)) rfl (by kernel_rfl) (by kernel_rfl) (by kernel_rfl) (by decide) (by kernel_rfl) (by decide) (fun _ _ _ h => h) (.inl ⟨by kernel_rfl, fun x_ hu => by kernel_rfl⟩) hB ?_
      simp only [Act.put, List.setIfInBounds_toArray, List.set_cons_zero, List.set_cons_succ, List.getElem_toArray, List.getElem_cons_zero, List.getElem_cons_succ]
      refine anyC_take (i := 7) (v := (.agg (kc ab))) (fun v => Bc [g, sg] w [⟨g, pdv (some ⟨sg, 0, none⟩) sn sc (some ⟨p2, o2, none⟩) pn pc l os dd, 77⟩, ⟨sg, C2.toArray, 50⟩, ⟨g8, (wv (ai, ab)).toArray, 99⟩] v) (fun _ h_ => h_) (.inr (by kernel_rfl)) rfl (by kernel_rfl) (by kernel_rfl) (by kernel_rfl) (by decide) (by kernel_rfl) (by decide) (fun _ _ _ h => h) (.inl ⟨by kernel_rfl, fun x_ hu => exec_row _ 50 (.tmp 25) rfl g8 1 (by kernel_rfl) (bv ab) _ (fun q_ v_ hq => cell_of (hu.get 2 (x := ⟨g8, (wv (ai, ab)).toArray, 99⟩) rfl) (by unfold wv; rw [List.getElem?_toArray, Nat.add_comm, List.getElem?_cons_succ]; exact hq)) Tryd.underlying50 rfl (by rw [Tryd.infoB, bv_len, hal])⟩) hB ?_
      simp only [Act.put, List.setIfInBounds_toArray, List.set_cons_zero, List.set_cons_succ, List.getElem_toArray, List.getElem_cons_zero, List.getElem_cons_succ]
      refine anyC_take (i := 8) (v := (.pointer (some ⟨sg, 0 + 64 * ai, none⟩))) (fun v => Bc [g, sg] w [⟨g, pdv (some ⟨sg, 0, none⟩) sn sc (some ⟨p2, o2, none⟩) pn pc l os dd, 77⟩, ⟨sg, C2.toArray, 50⟩, ⟨g8, (wv (ai, ab)).toArray, 99⟩] v) (fun _ h_ => h_) (.inr (by kernel_rfl)) rfl (by kernel_rfl) (by kernel_rfl) (by kernel_rfl) (by decide) (by kernel_rfl) (by decide) (fun _ _ _ h => h) (.inl ⟨by kernel_rfl, fun x_ hu => exec_ib _ (.tmp 22) (.tmp 24) rfl sg 0 sn sc ai rfl rfl hai⟩) hB ?_
      simp only [Act.put, List.setIfInBounds_toArray, List.set_cons_zero, List.set_cons_succ, List.getElem_toArray, List.getElem_cons_zero, List.getElem_cons_succ]
      refine anyC_last (by kernel_rfl) rfl (fun K_ hQ => ?_)
      have hli : ai < (liv S P keep j).length := by rw [liv_len, unhide hlsn]; exact hai
      have hC3 : Hid (Cov (sp C2 (64 * ai) (bv ab)) ((liv S P keep (j + 1)).map bv).flatten) := by
        show Cov _ ((liv S P keep (j + 1)).map bv).flatten
        rw [unhide hnx, ← unhide hkb]
        have h := cov_set 64 (by omega) C2 ((liv S P keep j).map bv) (bv_rows (unhide hlb)) ai (by rw [List.length_map]; exact hli) (bv ab) (by rw [bv_len, hal]) (by rw [List.length_map, liv_len, unhide hlsn, hCl]; exact hscx) (unhide hCov)
        rw [← List.map_set] at h
        exact h
      have hgC := (hB.get 1 (x := ⟨sg, C2.toArray, 50⟩) rfl)
      dsimp only at hgC
      refine list_store_mid 50 (.tmp 27) (.tmp 26) sg (0 + 64 * ai) (kc ab) (by kernel_rfl) rfl (by kernel_rfl) (by kernel_rfl) (there_of hgC (by rw [kc_size, hal, hCl, Nat.zero_add]; omega)) (by rw [Tryd.infoB, kc_size, hal]) (kc_one _) ?_
      refine hQ.out _ _ ?_
      clear hQ K_
      have hbs := setCells_bt ((kc ab).toList) x0 sg (0 + 64 * ai)
      have hcl2 := setCells_heap ((kc ab).toList) x0 sg (0 + 64 * ai) C2 50 hgC
      have e9 : (kc ab).toList = bv ab := by unfold kc bv; simp
      rw [e9, Nat.zero_add] at hcl2 hbs
      rw [e9, Nat.zero_add]
      have hB4 := hB.but hbs 1 (x := ⟨sg, C2.toArray, 50⟩) rfl rfl hcl2
      simp only [List.set_cons_zero, List.set_cons_succ] at hB4
      clear hB hcl2 hbs hgC e9
      generalize World.setCells _ _ _ _ = v9 at *
      have hB := hB4
      clear hB4
      simp only [Act.put, List.setIfInBounds_toArray, List.set_cons_zero, List.set_cons_succ, List.getElem_toArray, List.getElem_cons_zero, List.getElem_cons_succ]
      refine any_done (by kernel_rfl) ?_
      have hB3 : Hid (Bc [g, sg] w [⟨g, pdv (some ⟨sg, 0, none⟩) sn sc (some ⟨p2, o2, none⟩) pn pc l os dd, 77⟩, ⟨sg, (sp C2 (64 * ai) (bv ab)).toArray, 50⟩] _) := Bc.left (M := [⟨g8, (wv (ai, ab)).toArray, 99⟩]) hB
      clear hB
      go_wp2_with fail
      go_roundw
      case rel => exact ⟨j + 1, (sp C2 (64 * ai) (bv ab)), by omega, by go_num, by rw [sp_length]; exact hCl, hC3, hB3⟩
      case measure => simp [intOf]; omega
  have jI : ¬ (j : Int) < (pn : Int) := by omega
  have e : j = P.length := by rw [unhide hlpn]; omega
  go_upto_region 6 with fail
  replace hB := unhide hB
  refine wp_region_lit ?_
  refine list_val (.pointer (some ⟨g, 0, none⟩)) (by kernel_rfl) (by kernel_rfl) ?_
  simp only [Act.put, List.setIfInBounds_toArray, List.set_cons_zero, List.set_cons_succ, List.getElem_toArray, List.getElem_cons_zero, List.getElem_cons_succ]
  refine list_val (.pointer (some ⟨g, 0, none⟩)) (by kernel_rfl) (by kernel_rfl) ?_
  simp only [Act.put, List.setIfInBounds_toArray, List.set_cons_zero, List.set_cons_succ, List.getElem_toArray, List.getElem_cons_zero, List.getElem_cons_succ]
  refine list_val (.pointer (some ⟨g, 1, none⟩)) (by kernel_rfl) (by kernel_rfl) ?_
  simp only [Act.put, List.setIfInBounds_toArray, List.set_cons_zero, List.set_cons_succ, List.getElem_toArray, List.getElem_cons_zero, List.getElem_cons_succ]
  have c4 := cell_of (hB.get 0 (x := ⟨g, pdv (some ⟨sg, 0, none⟩) sn sc pa pn pc l os dd, 77⟩) rfl) (i := 1) rfl
  have fz := froz_of (i := 1) (hB.get 0 (x := ⟨g, pdv (some ⟨sg, 0, none⟩) sn sc pa pn pc l os dd, 77⟩) rfl)
  have hB2 := hB.cell 0 (x := ⟨g, pdv (some ⟨sg, 0, none⟩) sn sc pa pn pc l os dd, 77⟩) rfl 1 (.slice none 0 0)
  simp only [List.set_cons_zero, List.set_cons_succ] at hB2
  replace hB2 : Bc [g, sg] w [⟨g, pdv (some ⟨sg, 0, none⟩) sn sc none 0 0 l os dd, 77⟩, ⟨sg, C2.toArray, 50⟩] _ := hB2
  clear hB
  replace hB2 := hide hB2
  dsimp only at c4 fz
  (refine wpList_step fun K hK => ?_; replace hK := hide hK; go_simp; refine unhide hK _ _ ?_; clear hK K)
  clear c4 fz
  have hB := unhide hB2
  clear hB2
  generalize World.setCell _ _ _ = v4 at *
  refine wpList_nil ?_
  have hZ : Hid (Stl g (D.live keep) sg sc l w (.returned (.tuple #[])) v4) := by
    have hl : (liv S P keep P.length).length = sn := by rw [liv_len, unhide hlsn]
    have hd1 : (D.live keep).safe = liv S P keep P.length := by
      show liv D.safe D.pend keep D.pend.length = _
      rw [unhide hS, unhide hPp]
    refine ⟨rfl, C2, ⟨?_, ?_, ?_, ?_, ?_, (unhide hP).max, ?_, (unhide hP).lf⟩, hB.chg⟩
    · rw [hd1, hl]
      show v4.heap[g]? = some (.cells (pdv (some ⟨sg, 0, none⟩) sn sc none 0 0 l D.ops D.dead) _ (0, 0))
      rw [← unhide hos, ← unhide hdd]
      exact (hB.get 0 (x := ⟨g, pdv (some ⟨sg, 0, none⟩) sn sc none 0 0 l os dd, 77⟩) rfl)
    · exact (hB.get 1 (x := ⟨sg, C2.toArray, 50⟩) rfl)
    · rw [hd1, ← e]
      exact unhide hCov
    · rw [hCl]
      exact unhide hcz
    · rw [hd1, hl]
      exact hsc
    · exact ⟨(fun r hr => by cases hr), rfl, .inl ⟨rfl, rfl⟩⟩
  replace hB := hide hB
  go_wp2_with fail
  rw [unhide hT]
  exact bodyPost_end (results_none Tryd.results57 _ _ _) rfl (unhide hZ)
set_option maxHeartbeats 4000000 in
theorem crash1_ok (j kb kn kp : Nat) (ka : Option Addr) (keep : List Bool) (w : World) (hj : j < 9223372036854775808) (hkb : w.heap[kb]? = some (.cells #[.slice ka kn kp] 68 (0, 0))) (hK : Kp w ka kn kp keep) : Calls Tryd.prog 58 #[.int .i64 (j : Int), .pointer (some ⟨kb, 0, none⟩)] w (Vl (.bool (keep.getD j false)) w) := by
  obtain ⟨T, hT⟩ : ∃ T, T = Vl (.bool (keep.getD j false)) w := ⟨_, rfl⟩
  rw [← hT]
  replace hT := hide hT
  replace hK := hide hK; replace hkb := hide hkb
  go_enter Tryd.func58, Tryd.ntmps58
  go_upto_region 1 with fail
  by_cases hjk : j < kn
  · skip
    have kI : (j : Int) < (kn : Int) := by omega
    obtain ⟨p3, o3, rfl, hkc⟩ := (unhide hK).at_ j hjk
    obtain ⟨b, hb⟩ : ∃ x, x = keep.getD j false := ⟨_, rfl⟩
    rw [← hb] at hkc
    replace hkc := hide hkc; replace hb := hide hb
    refine wp_region_lit ?_
    refine list_val (.int .i64 j) (by kernel_rfl) (by kernel_rfl) ?_
    simp only [Act.put, List.setIfInBounds_toArray, List.set_cons_zero, List.set_cons_succ, List.getElem_toArray, List.getElem_cons_zero, List.getElem_cons_succ]
    refine list_val (.slice (some ⟨p3, o3, none⟩) kn kp) (by kernel_rfl) (exec_sk _ (.tmp 1) rfl kb 0 (by kernel_rfl) (some ⟨p3, o3, none⟩) kn kp (cell_of (unhide hkb) (i := 0) rfl)) ?_
    simp only [Act.put, List.setIfInBounds_toArray, List.set_cons_zero, List.set_cons_succ, List.getElem_toArray, List.getElem_cons_zero, List.getElem_cons_succ]
    refine list_val (.int .i64 kn) (by kernel_rfl) (by kernel_rfl) ?_
    simp only [Act.put, List.setIfInBounds_toArray, List.set_cons_zero, List.set_cons_succ, List.getElem_toArray, List.getElem_cons_zero, List.getElem_cons_succ]
    refine list_val (.bool true) (by kernel_rfl) (by go_simp) ?_
    simp only [Act.put, List.setIfInBounds_toArray, List.set_cons_zero, List.set_cons_succ, List.getElem_toArray, List.getElem_cons_zero, List.getElem_cons_succ]
    refine list_val (.bool true) (by kernel_rfl) (by kernel_rfl) ?_
    simp only [Act.put, List.setIfInBounds_toArray, List.set_cons_zero, List.set_cons_succ, List.getElem_toArray, List.getElem_cons_zero, List.getElem_cons_succ]
    refine list_val (.slice (some ⟨p3, o3, none⟩) kn kp) (by kernel_rfl) (exec_sk _ (.tmp 1) rfl kb 0 (by kernel_rfl) (some ⟨p3, o3, none⟩) kn kp (cell_of (unhide hkb) (i := 0) rfl)) ?_
    simp only [Act.put, List.setIfInBounds_toArray, List.set_cons_zero, List.set_cons_succ, List.getElem_toArray, List.getElem_cons_zero, List.getElem_cons_succ]
    refine list_val (.int .i64 j) (by kernel_rfl) (by kernel_rfl) ?_
    simp only [Act.put, List.setIfInBounds_toArray, List.set_cons_zero, List.set_cons_succ, List.getElem_toArray, List.getElem_cons_zero, List.getElem_cons_succ]
    refine list_val (.pointer (some ⟨p3, o3 + j, none⟩)) (by kernel_rfl) (exec_ik _ (.tmp 9) (.tmp 10) rfl p3 o3 kn kp j rfl rfl hjk) ?_
    simp only [Act.put, List.setIfInBounds_toArray, List.set_cons_zero, List.set_cons_succ, List.getElem_toArray, List.getElem_cons_zero, List.getElem_cons_succ]
    refine list_val (.bool b) (by kernel_rfl) (exec_bool _ (.tmp 11) rfl p3 (o3 + j) (by kernel_rfl) b (unhide hkc)) ?_
    simp only [Act.put, List.setIfInBounds_toArray, List.set_cons_zero, List.set_cons_succ, List.getElem_toArray, List.getElem_cons_zero, List.getElem_cons_succ]
    refine list_val (.bool b) (by kernel_rfl) (by kernel_rfl) ?_
    simp only [Act.put, List.setIfInBounds_toArray, List.set_cons_zero, List.set_cons_succ, List.getElem_toArray, List.getElem_cons_zero, List.getElem_cons_succ]
    (refine wpList_step fun K hK => ?_; replace hK := hide hK; go_simp; refine unhide hK _ _ ?_; clear hK K)
    refine wpList_nil ?_
    have hZ : Hid (Vl (.bool (keep.getD j false)) w (.returned (.bool b)) w) := ⟨by rw [unhide hb], Gr.refl w⟩
    go_wp2_with fail
    rw [unhide hT]
    exact unhide hZ
  have kI : ¬ (j : Int) < (kn : Int) := by omega
  have hkf : keep.getD j false = false := by
    rw [List.getD_eq_getElem?_getD, List.getElem?_eq_none (by rw [(unhide hK).len]; omega)]
    rfl
  replace hkf := hide hkf
  refine wp_region_lit ?_
  refine list_val (.int .i64 j) (by kernel_rfl) (by kernel_rfl) ?_
  simp only [Act.put, List.setIfInBounds_toArray, List.set_cons_zero, List.set_cons_succ, List.getElem_toArray, List.getElem_cons_zero, List.getElem_cons_succ]
  refine list_val (.slice ka kn kp) (by kernel_rfl) (exec_sk _ (.tmp 1) rfl kb 0 (by kernel_rfl) ka kn kp (cell_of (unhide hkb) (i := 0) rfl)) ?_
  simp only [Act.put, List.setIfInBounds_toArray, List.set_cons_zero, List.set_cons_succ, List.getElem_toArray, List.getElem_cons_zero, List.getElem_cons_succ]
  refine list_val (.int .i64 kn) (by kernel_rfl) (by kernel_rfl) ?_
  simp only [Act.put, List.setIfInBounds_toArray, List.set_cons_zero, List.set_cons_succ, List.getElem_toArray, List.getElem_cons_zero, List.getElem_cons_succ]
  refine list_val (.bool false) (by kernel_rfl) (by go_simp) ?_
  simp only [Act.put, List.setIfInBounds_toArray, List.set_cons_zero, List.set_cons_succ, List.getElem_toArray, List.getElem_cons_zero, List.getElem_cons_succ]
  refine list_val (.bool false) (by kernel_rfl) (by kernel_rfl) ?_
  simp only [Act.put, List.setIfInBounds_toArray, List.set_cons_zero, List.set_cons_succ, List.getElem_toArray, List.getElem_cons_zero, List.getElem_cons_succ]
  refine wpList_step fun K hK => ?_
  rw [if_neg (ne_true_of_eq_false (by kernel_rfl))]
  refine hK _ _ ?_
  clear hK K
  simp only [Act.put, List.setIfInBounds_toArray, List.set_cons_zero, List.set_cons_succ, List.getElem_toArray, List.getElem_cons_zero, List.getElem_cons_succ]
  refine wpList_step fun K hK => ?_
  rw [if_neg (ne_true_of_eq_false (by kernel_rfl))]
  refine hK _ _ ?_
  clear hK K
  simp only [Act.put, List.setIfInBounds_toArray, List.set_cons_zero, List.set_cons_succ, List.getElem_toArray, List.getElem_cons_zero, List.getElem_cons_succ]
  refine wpList_step fun K hK => ?_
  rw [if_neg (ne_true_of_eq_false (by kernel_rfl))]
  refine hK _ _ ?_
  clear hK K
  simp only [Act.put, List.setIfInBounds_toArray, List.set_cons_zero, List.set_cons_succ, List.getElem_toArray, List.getElem_cons_zero, List.getElem_cons_succ]
  refine wpList_step fun K hK => ?_
  rw [if_neg (ne_true_of_eq_false (by kernel_rfl))]
  refine hK _ _ ?_
  clear hK K
  simp only [Act.put, List.setIfInBounds_toArray, List.set_cons_zero, List.set_cons_succ, List.getElem_toArray, List.getElem_cons_zero, List.getElem_cons_succ]
  refine list_val (.bool false) (by kernel_rfl) (by kernel_rfl) ?_
  simp only [Act.put, List.setIfInBounds_toArray, List.set_cons_zero, List.set_cons_succ, List.getElem_toArray, List.getElem_cons_zero, List.getElem_cons_succ]
  (refine wpList_step fun K hK => ?_; replace hK := hide hK; go_simp; refine unhide hK _ _ ?_; clear hK K)
  refine wpList_nil ?_
  have hZ : Hid (Vl (.bool (keep.getD j false)) w (.returned (.bool false)) w) := ⟨by rw [unhide hkf], Gr.refl w⟩
  go_wp2_with fail
  rw [unhide hT]
  exact unhide hZ
set_option maxHeartbeats 4000000 in
theorem dcrash_p (g : Nat) (D : Dk) (sg sc : Nat) (C : List Value) (pa : Option Addr) (pc : Nat) (l : Int) (keep : List Bool) (ka : Option Addr) (kn kp : Nat) (m : Nat) (hD : D.Ok m) (hm : m ≤ 1000000) (w : World) (hP : Pd g D w sg sc C pa pc l) (hK : Kp w ka kn kp keep) (hn : keep = [] ∨ ∀ i ∈ pdF g sg pa, blkOf ka ≠ some i) : Calls Tryd.prog 33 #[P0 g, .slice ka kn kp] w (Ch (pdF g sg pa) g (D.crashD keep) 0 w) := by
  obtain ⟨T, hT⟩ : ∃ T, T = Ch (pdF g sg pa) g (D.crashD keep) 0 w := ⟨_, rfl⟩
  rw [← hT]
  replace hT := hide hT
  have hgl := hP.lt g (mem_pdF.2 (.inl rfl))
  have hsl := hP.lt sg (mem_pdF.2 (.inr (.inl rfl)))
  replace hP := hide hP; replace hK := hide hK; replace hn := hide hn; replace hD := hide hD
  go_enter Tryd.func33, Tryd.ntmps33
  go_upto_region 1 with fail
  have hB := ((Bl.nil w).new #[.slice ka kn kp] 68)
  simp only [size_alloc, List.nil_append, List.cons_append] at hB
  generalize World.alloc _ _ = u at *
  replace hB : Bl w [⟨w.heap.size, #[.slice ka kn kp], 68⟩] u := hB
  refine wp_region_lit ?_
  refine list_val (.pointer (some ⟨g, 0, none⟩)) (by kernel_rfl) (by kernel_rfl) ?_
  simp only [Act.put, List.setIfInBounds_toArray, List.set_cons_zero, List.set_cons_succ, List.getElem_toArray, List.getElem_cons_zero, List.getElem_cons_succ]
  refine list_val (.bool false) (by kernel_rfl) (by kernel_rfl) ?_
  simp only [Act.put, List.setIfInBounds_toArray, List.set_cons_zero, List.set_cons_succ, List.getElem_toArray, List.getElem_cons_zero, List.getElem_cons_succ]
  refine wpList_nil ?_
  replace hB := hide hB
  go_upto_region 3 with fail
  replace hB := unhide hB
  refine wp_region_lit ?_
  refine list_val (.pointer (some ⟨g, 0, none⟩)) (by kernel_rfl) (by kernel_rfl) ?_
  simp only [Act.put, List.setIfInBounds_toArray, List.set_cons_zero, List.set_cons_succ, List.getElem_toArray, List.getElem_cons_zero, List.getElem_cons_succ]
  refine list_val (.func (.func 58) #[] #[.pointer (some ⟨w.heap.size, 0, none⟩)]) (by kernel_rfl) (by kernel_rfl) ?_
  simp only [Act.put, List.setIfInBounds_toArray, List.set_cons_zero, List.set_cons_succ, List.getElem_toArray, List.getElem_cons_zero, List.getElem_cons_succ]
  refine list_call 57 #[P0 g, .func (.func 58) #[] #[.pointer (some ⟨w.heap.size, 0, none⟩)]] (by kernel_rfl) (by kernel_rfl) ((settle_c g D sg sc C pa pc l keep w.heap.size m (unhide hD) (by omega) u ((unhide hP).gr hB.gr) (fun v hv j hj => crash1_ok j w.heap.size kn kp ka keep v (by have := (unhide hD).num; omega) (hv.blk (hB.get 0 (x := ⟨w.heap.size, #[.slice ka kn kp], 68⟩) rfl) (by simp; omega)) (((unhide hK).gr hB.gr).chg2 hv ((unhide hn).imp id (fun hn i hi => hn i (mem_pdF.2 (by simp at hi; rcases hi with hi | hi; exact .inl hi; exact .inr (.inl hi)))))))).mono ?_)
  rintro r v1 ⟨rfl, C2, hP2, hch⟩
  refine ⟨_, rfl, ?_⟩
  replace hch := hide (hB.gr.chg hch)
  simp only [Act.put, List.setIfInBounds_toArray, List.set_cons_zero, List.set_cons_succ, List.getElem_toArray, List.getElem_cons_zero, List.getElem_cons_succ]
  refine wpList_nil ?_
  clear hB
  have hl2 := hP2.lf
  obtain ⟨os, hos⟩ : ∃ x, x = (D.live keep).ops := ⟨_, rfl⟩
  obtain ⟨sn, hsn⟩ : ∃ x, x = (D.live keep).safe.length := ⟨_, rfl⟩
  obtain ⟨dd, hdd⟩ : ∃ x, x = (D.live keep).dead := ⟨_, rfl⟩
  have hB := (Bc.nil [g] v1).add ⟨g, pdv (some ⟨sg, 0, none⟩) (D.live keep).safe.length sc none (D.live keep).pend.length 0 l (D.live keep).ops (D.live keep).dead, 77⟩ hP2.cel (.inl (by simp)) (fun y hy => by cases hy)
  rw [← hos, ← hsn, ← hdd] at hB
  replace hos := hide hos; replace hsn := hide hsn; replace hdd := hide hdd; replace hP2 := hide hP2
  replace hB : Bc [g] v1 [⟨g, pdv (some ⟨sg, 0, none⟩) sn sc none 0 0 l os dd, 77⟩] v1 := hB
  replace hB := hide hB
  go_upto_region 4 with fail
  replace hB := unhide hB
  refine wp_region_lit ?_
  refine list_val (.pointer (some ⟨g, 0, none⟩)) (by kernel_rfl) (by kernel_rfl) ?_
  simp only [Act.put, List.setIfInBounds_toArray, List.set_cons_zero, List.set_cons_succ, List.getElem_toArray, List.getElem_cons_zero, List.getElem_cons_succ]
  refine list_val (.pointer (some ⟨g, 0, none⟩)) (by kernel_rfl) (by kernel_rfl) ?_
  simp only [Act.put, List.setIfInBounds_toArray, List.set_cons_zero, List.set_cons_succ, List.getElem_toArray, List.getElem_cons_zero, List.getElem_cons_succ]
  refine list_val (.pointer (some ⟨g, 0, none⟩)) (by kernel_rfl) (by kernel_rfl) ?_
  simp only [Act.put, List.setIfInBounds_toArray, List.set_cons_zero, List.set_cons_succ, List.getElem_toArray, List.getElem_cons_zero, List.getElem_cons_succ]
  refine list_val (.pointer (some ⟨g, 2, none⟩)) (by kernel_rfl) (by kernel_rfl) ?_
  simp only [Act.put, List.setIfInBounds_toArray, List.set_cons_zero, List.set_cons_succ, List.getElem_toArray, List.getElem_cons_zero, List.getElem_cons_succ]
  have c4 := cell_of (hB.get 0 (x := ⟨g, pdv (some ⟨sg, 0, none⟩) sn sc none 0 0 l os dd, 77⟩) rfl) (i := 2) rfl
  have fz := froz_of (i := 2) (hB.get 0 (x := ⟨g, pdv (some ⟨sg, 0, none⟩) sn sc none 0 0 l os dd, 77⟩) rfl)
  have hB2 := hB.cell 0 (x := ⟨g, pdv (some ⟨sg, 0, none⟩) sn sc none 0 0 l os dd, 77⟩) rfl 2 (.int .i64 (-1))
  simp only [List.set_cons_zero, List.set_cons_succ] at hB2
  replace hB2 : Bc [g] v1 [⟨g, pdv (some ⟨sg, 0, none⟩) sn sc none 0 0 (-1) os dd, 77⟩] _ := hB2
  clear hB
  replace hB2 := hide hB2
  dsimp only at c4 fz
  (refine wpList_step fun K hK => ?_; replace hK := hide hK; go_simp; refine unhide hK _ _ ?_; clear hK K)
  clear c4 fz
  have hB := unhide hB2
  clear hB2
  generalize World.setCell _ _ _ = v2 at *
  refine list_val (.pointer (some ⟨g, 0, none⟩)) (by kernel_rfl) (by kernel_rfl) ?_
  simp only [Act.put, List.setIfInBounds_toArray, List.set_cons_zero, List.set_cons_succ, List.getElem_toArray, List.getElem_cons_zero, List.getElem_cons_succ]
  refine list_val (.pointer (some ⟨g, 4, none⟩)) (by kernel_rfl) (by kernel_rfl) ?_
  simp only [Act.put, List.setIfInBounds_toArray, List.set_cons_zero, List.set_cons_succ, List.getElem_toArray, List.getElem_cons_zero, List.getElem_cons_succ]
  have c4 := cell_of (hB.get 0 (x := ⟨g, pdv (some ⟨sg, 0, none⟩) sn sc none 0 0 (-1) os dd, 77⟩) rfl) (i := 4) rfl
  have fz := froz_of (i := 4) (hB.get 0 (x := ⟨g, pdv (some ⟨sg, 0, none⟩) sn sc none 0 0 (-1) os dd, 77⟩) rfl)
  have hB2 := hB.cell 0 (x := ⟨g, pdv (some ⟨sg, 0, none⟩) sn sc none 0 0 (-1) os dd, 77⟩) rfl 4 (.bool false)
  simp only [List.set_cons_zero, List.set_cons_succ] at hB2
  replace hB2 : Bc [g] v1 [⟨g, pdv (some ⟨sg, 0, none⟩) sn sc none 0 0 (-1) os false, 77⟩] _ := hB2
  clear hB
  replace hB2 := hide hB2
  dsimp only at c4 fz
  (refine wpList_step fun K hK => ?_; replace hK := hide hK; go_simp; refine unhide hK _ _ ?_; clear hK K)
  clear c4 fz
  have hB := unhide hB2
  clear hB2
  generalize World.setCell _ _ _ = v3 at *
  refine wpList_nil ?_
  have hZ : Hid (Ch (pdF g sg pa) g (D.crashD keep) 0 w (.returned (.int .i64 0)) v3) := by
    have h2 := unhide hP2
    have hk : ∀ i, i ∈ pdF g sg none → i ≠ g → v3.heap[i]? = v1.heap[i]? := fun i hi hne => hB.chg.block i (h2.lt i hi) (by simp [hne])
    refine ⟨pdF g sg none, rfl, ⟨sg, sc, C2, none, 0, -1, ⟨?_, ?_, h2.cov, h2.len, h2.cap, h2.max, ⟨(fun r hr => by cases hr), rfl, .inl ⟨rfl, rfl⟩⟩, Lf.refl _ (by show (-9223372036854775808 : Int) ≤ -1; omega)⟩, rfl⟩, ?_⟩
    · show v3.heap[g]? = some (.cells (pdv (some ⟨sg, 0, none⟩) (D.live keep).safe.length sc none 0 0 (-1) (D.live keep).ops false) _ (0, 0))
      rw [← unhide hsn, ← unhide hos]
      exact (hB.get 0 (x := ⟨g, pdv (some ⟨sg, 0, none⟩) sn sc none 0 0 (-1) os false, 77⟩) rfl)
    · rw [hk sg (mem_pdF.2 (.inr (.inl rfl))) h2.sg_ne.symm]
      exact h2.saf
    · have hw : Chg [g, sg] [g, sg] w v3 := (unhide hch).trans (hB.chg.wide (fun i hi => by simp at hi; simp [hi]) (fun i hi => .inl hi))
      refine hw.wide (fun i hi => mem_pdF.2 (by simp at hi; rcases hi with hi | hi; exact .inl hi; exact .inr (.inl hi))) (fun i hi => .inl (mem_pdF.2 ?_))
      rcases mem_pdF.1 hi with hi | hi | hi
      · exact .inl hi
      · exact .inr (.inl hi)
      · cases hi
  replace hB := hide hB
  go_wp2_with fail
  rw [unhide hT]
  exact unhide hZ
theorem dcrash_ok2 (F : List Nat) (g m : Nat) (D : Dk) (hD : D.Ok m) (hm : m ≤ 1000000) (keep : List Bool) (ka : Option Addr) (kn kp : Nat) (w : World) (h : Lies F g D w) (hK : Kp w ka kn kp keep) (hn : keep = [] ∨ ∀ i ∈ F, blkOf ka ≠ some i) : Calls Tryd.prog 33 #[P0 g, .slice ka kn kp] w (Ch F g (D.crashD keep) 0 w) := by
  obtain ⟨sg, sc, C, pa, pc, l, h, rfl⟩ := h
  exact dcrash_p g D sg sc C pa pc l keep ka kn kp m hD hm w h hK hn
theorem Or_.fr {k : Nat} {e : TypeId} {b : Nat} {w u : World} {a : Option Addr} {n c : Nat} {R : List (List Value)} (h : Or_ k e b u (.slice a n c) R) (hb : w.heap.size ≤ b) : Fr2 w none a := by
  rcases h.2.2 with ⟨h1, _⟩ | ⟨g_, _, _, h1, h2, _⟩
  · have e9 : a = none := by injection h1
    rw [e9]
    exact Fr2.none _ _
  · have e9 : a = Option.some ⟨g_, 0, none⟩ := by injection h1
    rw [e9]
    exact Fr2.new _ (Nat.le_trans hb h2)
theorem done_len (D : Dk) : D.doneD.safe = D.safe := by unfold Dk.doneD; split <;> rfl
theorem step_len (D : Dk) (o : Option (Nat × List Int)) : (D.step o).1.safe.length = D.safe.length := by
  cases o with
  | none =>
    show D.syncD.safe.length = _
    unfold Dk.syncD
    split
    · rfl
    · split
      · rw [done_len]
      · show (liv D.doneD.safe _ _ _).length = _
        rw [liv_len, done_len]
  | some x =>
    show (D.writeD _ _).safe.length = _
    unfold Dk.writeD
    split
    · rfl
    · split
      · split
        · rw [done_len]
        · show D.doneD.safe.length = _
          rw [done_len]
      · rfl
theorem run_len : ∀ (l : List (Option (Nat × List Int))) (D : Dk), (Dk.runD l D).1.safe.length = D.safe.length
  | [], D => rfl
  | o :: r, D => by
    rw [Dk.runD]
    split
    · rw [run_len r, step_len]
    · exact step_len D o
theorem crash_size (D : Dk) (keep : List Bool) : (D.crashD keep).safe.length = D.safe.length := liv_len ..
theorem crash_fd {D : Dk} {m : Nat} {s : Sup} {L : List Int} (hD : D.Ok m) (hn : 64 ≤ D.safe.length) (keep : List Bool) (k : Hs (D.crashD keep).cur ((D.safe.length - 2) / 4) s L) : Fd (D.crashD keep) m s L :=
  ⟨hD.crash keep, rfl, rfl, by rw [crash_size]; exact hn, (fun x hx => by cases hx), by rw [crash_size]; exact k⟩
theorem take_cut {D : Dk} {m : Nat} {s : Sup} {L M : List Int} (k : Fd D m s L) (a : Int) (ha : 0 ≤ a) (ha2 : a < 9223372036854775808) (keep : List Bool) (hM : IsB M) (hf : M.length ≤ 64 * ((D.safe.length - 2) / 4)) (ht : s.turn + 1 < 18446744073709551616) :
    ((Dk.runD (takeOps s ((D.safe.length - 2) / 4) M) (D.armD a)).2 = 0 ∧ (Dk.runD (takeOps s ((D.safe.length - 2) / 4) M) (D.armD a)).1.dead = false ∧ Fd ((Dk.runD (takeOps s ((D.safe.length - 2) / 4) M) (D.armD a)).1.crashD keep) (m + ((M.length + 63) / 64 + 3)) (s.next M) M) ∨
    ((Dk.runD (takeOps s ((D.safe.length - 2) / 4) M) (D.armD a)).2 = 7 ∧ (Dk.runD (takeOps s ((D.safe.length - 2) / 4) M) (D.armD a)).1.dead = true ∧ (Fd ((Dk.runD (takeOps s ((D.safe.length - 2) / 4) M) (D.armD a)).1.crashD keep) (m + ((M.length + 63) / 64 + 3)) s L ∨ Fd ((Dk.runD (takeOps s ((D.safe.length - 2) / 4) M) (D.armD a)).1.crashD keep) (m + ((M.length + 63) / 64 + 3)) (s.next M) M)) := by
  have hn := k.len
  have h512 := k.ok.hi1
  have hok := next_ok k.hs hM hf (by omega) ht
  have e1 : D.armD a = { D with left := a } := by
    unfold Dk.armD
    rw [k.dead]
    simp only [Bool.false_eq_true, if_false]
    rw [if_neg (by omega)]
  have hA := k.ok.arm a ha2
  have a1 : (D.armD a).dead = false := by rw [e1]; exact k.dead
  have a2 : (D.armD a).left = a := by rw [e1]
  have a3 : (D.armD a).safe = D.safe := by rw [e1]
  have a4 : (D.armD a).pend = D.pend := by rw [e1]
  have a5 : (D.armD a).cur = D.cur := by funext j; unfold Dk.cur; rw [a3, a4]
  generalize D.armD a = A at *
  have h6 := run_ok (takeOps s ((D.safe.length - 2) / 4) M) hA (take_bb hM hok)
  have h7 := run_len (takeOps s ((D.safe.length - 2) / 4) M) A
  rw [take_len] at h6
  rw [a3] at h7
  have hr := take_run (D := A) (h := (D.safe.length - 2) / 4) (s := s) (L := L) (M := M) a1 (by omega) (by rw [a3]; omega) (by rw [a3, a4]; exact k.pend) (by rw [a5]; exact k.hs) hM hf hok
  generalize (Dk.runD (takeOps s ((D.safe.length - 2) / 4) M) A).2 = e at *
  generalize (Dk.runD (takeOps s ((D.safe.length - 2) / 4) M) A).1 = E at *
  rcases hr with ⟨h1, h2, h3, h4, _⟩ | ⟨_, h1, h2, h3⟩
  · left
    refine ⟨h1, h2.dead, crash_fd h6 (by rw [h7]; exact hn) keep ?_⟩
    rw [h7]
    have hc : (E.crashD keep).cur = E.cur := by
      funext j
      rw [crash_none (by rw [h3]; intro x hx; cases hx) keep (by rw [h3]; intro x hx; cases hx), cur_none (by rw [h3]; intro x hx; cases hx)]
    rw [hc]
    exact h4
  · right
    refine ⟨h1, h2, ?_⟩
    rcases h3 keep with h3 | h3
    · exact .inl (crash_fd h6 (by rw [h7]; exact hn) keep (by rw [h7]; exact h3))
    · exact .inr (crash_fd h6 (by rw [h7]; exact hn) keep (by rw [h7]; exact h3))
theorem exec_upto {a : Act} {o : Oper} (w : World) (x y : Operand) (ho : o.op = .slice 32 x none (some y) none) (s : Option Addr) (len cap n : Nat) (hx : a.eval x = .slice s len cap) (hy : a.eval y = .int .i64 n) (hc : len ≤ cap) (hn : n ≤ len) :
    (execOp a.eval o).run Tryd.prog w = .ok (.value (.slice (if cap = 0 then s else s.map (·.add 0)) n cap)) w := by
  have h1 : (0 : Int) ≤ n := by omega
  have h2 : (n : Int) ≤ cap := by omega
  have hu : Tryd.prog.underlying 32 = some (.slice (Tryd.prog.elem 32)) := by kernel_rfl
  have hz : (sizeOf (Tryd.prog.elem 32)).run Tryd.prog w = .ok 1 w := by kernel_rfl
  simp [execOp, ho, hx, hy, run_sliceAt_slice _ _ _ _ _ _ hu, run_slice_h _ _ _ _ _ hu _ _ h1 h2, hz, sliced]
theorem u8_or_nat (a b : Nat) (ha : a < 256) (hb : b < 256) : bits .or .u8 (a : Int) (b : Int) = ((a ||| b : Nat) : Int) := by
  have hx : a ||| b < 2 ^ 8 := Nat.or_lt_two_pow (by omega) (by omega)
  have h1 : (BitVec.ofInt 8 (a : Int)).toNat = a := by
    rw [BitVec.ofInt_natCast, BitVec.toNat_ofNat]; exact Nat.mod_eq_of_lt (by omega)
  have h2 : (BitVec.ofInt 8 (b : Int)).toNat = b := by
    rw [BitVec.ofInt_natCast, BitVec.toNat_ofNat]; exact Nat.mod_eq_of_lt (by omega)
  show IntKind.u8.wrap ((BitVec.ofInt 8 (a : Int) ||| BitVec.ofInt 8 (b : Int)).toNat : Int) = _
  rw [BitVec.toNat_or, h1, h2, IntKind.wrap_u8]
  omega
theorem nat_or_zero (a b : Nat) : a ||| b = 0 ↔ a = 0 ∧ b = 0 := by
  constructor
  · intro h
    have h1 := Nat.left_le_or (n := a) (m := b)
    have h2 := Nat.right_le_or (n := a) (m := b)
    omega
  · rintro ⟨rfl, rfl⟩; rfl
theorem nat_xor_zero (a b : Nat) : a ^^^ b = 0 ↔ a = b := by
  constructor
  · intro h
    have : a ^^^ b ^^^ b = 0 ^^^ b := by rw [h]
    rw [Nat.xor_assoc, Nat.xor_self, Nat.xor_zero, Nat.zero_xor] at this
    exact this
  · rintro rfl; exact Nat.xor_self a
theorem or_xor (u x y : Int) (hu : 0 ≤ u ∧ u < 256) (hx : 0 ≤ x ∧ x < 256) (hy : 0 ≤ y ∧ y < 256) :
    (0 ≤ bits .or .u8 u (bits .xor .u8 x y) ∧ bits .or .u8 u (bits .xor .u8 x y) < 256) ∧ (bits .or .u8 u (bits .xor .u8 x y) = 0 ↔ u = 0 ∧ x = y) := by
  obtain ⟨U, rfl⟩ := Int.eq_ofNat_of_zero_le hu.1
  obtain ⟨X, rfl⟩ := Int.eq_ofNat_of_zero_le hx.1
  obtain ⟨Y, rfl⟩ := Int.eq_ofNat_of_zero_le hy.1
  have h1 : X ^^^ Y < 256 := Nat.xor_lt_two_pow (n := 8) (by omega) (by omega)
  rw [u8_xor_nat X Y (by omega) (by omega), u8_or_nat U (X ^^^ Y) (by omega) h1]
  have h2 : U ||| (X ^^^ Y) < 256 := Nat.or_lt_two_pow (n := 8) (by omega) h1
  have h3 := nat_or_zero U (X ^^^ Y)
  have h4 := nat_xor_zero X Y
  refine ⟨by omega, ?_⟩
  constructor
  · intro h
    have := h3.1 (by omega)
    exact ⟨by omega, by have := h4.1 this.2; omega⟩
  · rintro ⟨h, h'⟩
    have := h3.2 ⟨by omega, h4.2 (by omega)⟩
    omega
theorem take_eq_step (l m : List Int) (k : Nat) (hl : k < l.length) (hm : k < m.length) : l.take (k + 1) = m.take (k + 1) ↔ l.take k = m.take k ∧ l.getD k 0 = m.getD k 0 := by
  have e : ∀ x : List Int, k < x.length → x.take (k + 1) = x.take k ++ [x.getD k 0] := fun x hx => by
    rw [List.take_add_one, List.getElem?_eq_getElem hx]
    simp [hx]
  rw [e l hl, e m hm]
  constructor
  · intro h
    have := List.append_inj h (by simp; omega)
    exact ⟨this.1, by simpa using this.2⟩
  · rintro ⟨h1, h2⟩; rw [h1, h2]
def Unl (l m : List Int) (k : Nat) (u : Int) : Prop := (0 ≤ u ∧ u < 256) ∧ (u = 0 ↔ l.take k = m.take k)
theorem Unl.step {l m : List Int} {k : Nat} {u x y : Int} (h : Unl l m k u) (hl : k < l.length) (hm : k < m.length) (hx : x = l.getD k 0) (hy : y = m.getD k 0) (bl : IsB l) (bm : IsB m) :
    Unl l m (k + 1) (bits .or .u8 u (bits .xor .u8 x y)) := by
  subst hx; subst hy
  have := or_xor u _ _ h.1 (bl.at_ k) (bm.at_ k)
  refine ⟨this.1, ?_⟩
  rw [this.2, take_eq_step l m k hl hm, h.2]
set_option maxHeartbeats 1000000 in
theorem oequal_ok (l m : List Int) (a a' : Option Addr) (n c c' : Nat) (hn : n ≤ 281474976710656) (w : World) (la : Lb w a n c l) (lb : Lb w a' n c' m) :
    Calls Tryd.prog 34 #[.slice a n c, .slice a' n c'] w (fun e w' => e = .returned (.bool (decide (l = m))) ∧ w' = w) := by
  have hl := hide la.len
  have hm := hide lb.len
  replace la := hide la
  replace lb := hide lb
  go_enter Tryd.func34, Tryd.ntmps34
  go_wp2_with fail
  go_loopw [5, 15] (fun x i wr => ∃ (k : Nat) (u : Int), k ≤ n ∧ i = .int .i64 k ∧ x = .int .u8 u ∧ Hid (Unl l m k u) ∧ wr = w) (fun _ i _ => n - (intOf i).toNat)
  case atStart => exact ⟨0, 0, Nat.zero_le _, rfl, rfl, (⟨by omega, by simp⟩ : Unl l m 0 0), rfl⟩
  case round =>
  obtain ⟨k, u, hk, rfl, rfl, hU, rfl⟩ := hrel
  by_cases hlt : k < n
  · obtain ⟨p, o, rfl, c0⟩ : ∃ p o, a = some ⟨p, o, none⟩ ∧ wr.cell? ⟨p, o + k, none⟩ = some (.int .u8 (l.getD k 0)) := by
      rcases (unhide la).sl with h | ⟨p, o, h1, h2⟩
      · have := unhide hl
        rw [h] at this
        simp at this
        omega
      · exact ⟨p, o, h1, h2 k (by rw [unhide hl]; exact hlt)⟩
    obtain ⟨p', o', rfl, c1⟩ : ∃ p o, a' = some ⟨p, o, none⟩ ∧ wr.cell? ⟨p, o + k, none⟩ = some (.int .u8 (m.getD k 0)) := by
      rcases (unhide lb).sl with h | ⟨p, o, h1, h2⟩
      · have := unhide hm
        rw [h] at this
        simp at this
        omega
      · exact ⟨p, o, h1, h2 k (by rw [unhide hm]; exact hlt)⟩
    obtain ⟨x, hx⟩ : ∃ x, x = l.getD k 0 := ⟨_, rfl⟩
    obtain ⟨y, hy⟩ : ∃ y, y = m.getD k 0 := ⟨_, rfl⟩
    rw [← hx] at c0
    rw [← hy] at c1
    have HS := hide ((unhide hU).step (by rw [unhide hl]; exact hlt) (by rw [unhide hm]; exact hlt) hx hy (unhide la).isB (unhide lb).isB)
    clear hx hy hU
    have kI : (k : Int) < (n : Int) := by omega
    go_wp2_with fail
    go_roundw
    case rel => exact ⟨k + 1, _, by omega, by go_num, rfl, HS, trivial⟩
    case measure => simp [intOf]; omega
  · have kI : ¬ (k : Int) < (n : Int) := by omega
    have e : l.take k = l ∧ m.take k = m := ⟨List.take_of_length_le (by rw [unhide hl]; omega), List.take_of_length_le (by rw [unhide hm]; omega)⟩
    have hU2 := (unhide hU).2
    rw [e.1, e.2] at hU2
    have HU := hide (show (u == 0) = decide (l = m) by rw [Bool.eq_iff_iff]; simpa using hU2)
    clear hU hU2 e
    go_wp2_with fail
    refine bodyPost_ret (v := .bool (u == 0)) (by simp [results, Tryd.results34, go_sem]) rfl ⟨?_, rfl⟩
    rw [unhide HU]
theorem eequal_ok (A B : List Int) (a b : Option Addr) (n c m d : Nat) (w : World) (hA : Lb w a n c A) (hB : Lb w b m d B) (hn : n ≤ 281474976710656) : Calls Tryd.prog 34 #[.slice a n c, .slice b m d] w (Vl (.bool (decide (A = B))) w) := by
  by_cases h : n = m
  · subst h
    refine (oequal_ok A B a b n c d hn w hA hB).mono ?_
    rintro r u ⟨rfl, rfl⟩
    exact ⟨rfl, Gr.refl _⟩
  · have hne : ¬ A = B := by
      intro e
      have h1 := hA.len
      have h2 := hB.len
      rw [e] at h1
      omega
    rw [decide_eq_false hne]
    have hnI : ¬ (n : Int) = (m : Int) := by omega
    clear hA hB
    obtain ⟨T, hT⟩ : ∃ T, T = Vl (.bool false) w := ⟨_, rfl⟩
    rw [← hT]
    replace hT := hide hT
    have hZ : Hid (Vl (.bool false) w (.returned (.bool false)) w) := ⟨rfl, Gr.refl w⟩
    go_enter Tryd.func34, Tryd.ntmps34
    go_wp2_with fail
    rw [unhide hT]
    exact unhide hZ
def Opn (gd : Nat) (D : Dk) (s : Sup) (w : World) (r : Ending) (w' : World) : Prop := ∃ g G, r = .returned (.tuple #[P0 g, .int .i64 0]) ∧ Sto G g gd D.safe.length s w' ∧ (∀ i ∈ G, w.heap.size ≤ i) ∧ Gr w w'
set_option maxHeartbeats 4000000 in
theorem eopen_ok (F : List Nat) (gd m : Nat) (D : Dk) (s : Sup) (L : List Int) (hD : D.Ok m) (hm : m ≤ 900000) (hd : D.dead = false) (hn : 64 ≤ D.safe.length) (w : World) (hL : Lies F gd D w) (ho : Os D ((D.safe.length - 2) / 4) s L) (hf : Fst w) : Calls Tryd.prog 18 #[P0 gd] w (Opn gd D s w) := by
  obtain ⟨T, hT⟩ : ∃ T, T = Opn gd D s w := ⟨_, rfl⟩
  rw [← hT]
  replace hT := hide hT
  replace hL := hide hL; replace hD := hide hD; replace hf := hide hf; replace ho := hide ho
  go_enter Tryd.func18, Tryd.ntmps18
  go_upto_region 1 with fail
  have hB := Bl.nil w
  refine wp_region_lit ?_
  refine list_val (.pointer (some ⟨gd, 0, none⟩)) (by kernel_rfl) (by kernel_rfl) ?_
  simp only [Act.put, List.setIfInBounds_toArray, List.set_cons_zero, List.set_cons_succ, List.getElem_toArray, List.getElem_cons_zero, List.getElem_cons_succ]
  refine list_call 35 #[P0 gd] (by kernel_rfl) (by kernel_rfl) ((on_ok F gd m D (unhide hD) hm hn w (unhide hL)).mono ?_)
  rintro r u1 ⟨gs, rfl, hg1, hg2, hg⟩
  replace hB := hB.join hg [⟨gs, stN D.safe.length gd, 89⟩] (by intro x hx; rw [List.mem_singleton] at hx; subst hx; exact ⟨hg2, hg1⟩) (List.pairwise_singleton _ _)
  replace hB : Bl w [⟨gs, stN D.safe.length gd, 89⟩] u1 := hB
  clear hg hg2
  refine ⟨_, rfl, ?_⟩
  simp only [Act.put, List.setIfInBounds_toArray, List.set_cons_zero, List.set_cons_succ, List.getElem_toArray, List.getElem_cons_zero, List.getElem_cons_succ]
  refine list_val (.tuple #[.pointer (some ⟨gs, 0, none⟩), .int .i64 0]) (by kernel_rfl) (by kernel_rfl) ?_
  simp only [Act.put, List.setIfInBounds_toArray, List.set_cons_zero, List.set_cons_succ, List.getElem_toArray, List.getElem_cons_zero, List.getElem_cons_succ]
  refine list_val (.pointer (some ⟨gs, 0, none⟩)) (by kernel_rfl) (by kernel_rfl) ?_
  simp only [Act.put, List.setIfInBounds_toArray, List.set_cons_zero, List.set_cons_succ, List.getElem_toArray, List.getElem_cons_zero, List.getElem_cons_succ]
  refine list_val (.int .i64 0) (by kernel_rfl) (by kernel_rfl) ?_
  simp only [Act.put, List.setIfInBounds_toArray, List.set_cons_zero, List.set_cons_succ, List.getElem_toArray, List.getElem_cons_zero, List.getElem_cons_succ]
  (refine wpList_step fun K hK => ?_; replace hK := hide hK; go_simp; refine unhide hK _ _ ?_; clear hK K)
  (refine wpList_step fun K hK => ?_; replace hK := hide hK; go_simp; refine unhide hK _ _ ?_; clear hK K)
  refine wpList_nil ?_
  replace hB := hide hB
  go_upto_region 4 with fail
  replace hB := unhide hB
  refine wp_region_lit ?_
  refine list_val (.pointer (some ⟨gs, 0, none⟩)) (by kernel_rfl) (by kernel_rfl) ?_
  simp only [Act.put, List.setIfInBounds_toArray, List.set_cons_zero, List.set_cons_succ, List.getElem_toArray, List.getElem_cons_zero, List.getElem_cons_succ]
  have hst : Sto [gs] gs gd D.safe.length s u1 := ⟨rfl, (hB.get 0 (x := ⟨gs, stN D.safe.length gd, 89⟩) rfl)⟩
  refine list_call 17 #[P0 gs] (by kernel_rfl) (by kernel_rfl) ((esnap_ok F [gs] gs gd m D s L (unhide hD) hm hd hn u1 ((unhide hL).gr hB.gr) hst (unhide ho) ((unhide hf).gr hB.gr)).mono ?_)
  rintro r u2 ⟨vb, rfl, -, hg⟩
  replace hB := hB.more hg
  replace hst := hide (hst.gr hg)
  clear hg
  refine ⟨_, rfl, ?_⟩
  simp only [Act.put, List.setIfInBounds_toArray, List.set_cons_zero, List.set_cons_succ, List.getElem_toArray, List.getElem_cons_zero, List.getElem_cons_succ]
  refine list_val (.tuple #[vb, .int .i64 0]) (by kernel_rfl) (by kernel_rfl) ?_
  simp only [Act.put, List.setIfInBounds_toArray, List.set_cons_zero, List.set_cons_succ, List.getElem_toArray, List.getElem_cons_zero, List.getElem_cons_succ]
  refine list_val vb (by kernel_rfl) (by kernel_rfl) ?_
  simp only [Act.put, List.setIfInBounds_toArray, List.set_cons_zero, List.set_cons_succ, List.getElem_toArray, List.getElem_cons_zero, List.getElem_cons_succ]
  refine list_val (.int .i64 0) (by kernel_rfl) (by kernel_rfl) ?_
  simp only [Act.put, List.setIfInBounds_toArray, List.set_cons_zero, List.set_cons_succ, List.getElem_toArray, List.getElem_cons_zero, List.getElem_cons_succ]
  (refine wpList_step fun K hK => ?_; replace hK := hide hK; go_simp; refine unhide hK _ _ ?_; clear hK K)
  (refine wpList_step fun K hK => ?_; replace hK := hide hK; go_simp; refine unhide hK _ _ ?_; clear hK K)
  refine wpList_nil ?_
  have hZ : Hid (Opn gd D s w (.returned (.tuple #[.pointer (some ⟨gs, 0, none⟩), .int .i64 0])) u2) := ⟨gs, [gs], rfl, unhide hst, fun i hi => by rw [List.mem_singleton] at hi; rw [hi]; exact hg1, hB.gr⟩
  replace hB := hide hB
  go_wp2_with fail
  rw [unhide hT]
  exact unhide hZ
theorem Xs.dsk {w : World} {F G F' : List Nat} {g gd : Nat} {D E : Dk} {s : Sup} {v u : World} (h : Xs w F G g gd D s v) (hE : E.safe.length = D.safe.length) (hL : Lies F' gd E u) (c : Chg F F' v u) : Xs w F' G g gd E s u := by
  refine ⟨Chg.own h.gr c h.oF, hL, by rw [hE]; exact h.st.chg c h.ap, fun i hi => (c.new i hi).elim (h.oF i) (fun e => Nat.le_trans h.gr.size e), h.oG, fun i hi hg => ?_⟩
  rcases c.new i hi with e | e
  · exact h.ap i e hg
  · have := h.st.lt i hg
    omega
theorem Xs.far {w : World} {F G : List Nat} {g gd : Nat} {D : Dk} {s : Sup} {v : World} (h : Xs w F G g gd D s v) {a : Option Addr} {n c : Nat} {A : List Int} (hA : Lb w a n c A) : A = [] ∨ ∀ i, i ∈ F ∨ i ∈ G → blkOf a ≠ some i := by
  rcases hA.sl with e | ⟨p, o, rfl, h2⟩
  · exact .inl e
  · by_cases he : A = []
    · exact .inl he
    · right
      have hp := lt_of_cell (h2 0 (List.length_pos_iff.2 he))
      intro i hi e
      have e2 : p = i := Option.some.inj e
      rcases hi with hi | hi
      · have := h.oF i hi; omega
      · have := h.oG i hi; omega
theorem Fd.up {D : Dk} {m k : Nat} {s : Sup} {L : List Int} (h : Fd D m s L) (hk : m ≤ k) : Fd D k s L := ⟨h.ok.up hk, h.dead, h.left, h.len, h.pend, h.hs⟩
theorem arm_is {D : Dk} (hd : D.dead = false) (a : Int) (ha : 0 ≤ a) : (D.armD a).dead = false ∧ (D.armD a).safe = D.safe ∧ (D.armD a).pend = D.pend ∧ (D.armD a).cur = D.cur ∧ D.armE = 0 := by
  have e1 : D.armD a = { D with left := a } := by
    unfold Dk.armD
    rw [hd]
    simp only [Bool.false_eq_true, if_false]
    rw [if_neg (by omega)]
  have a3 : (D.armD a).safe = D.safe := by rw [e1]
  have a4 : (D.armD a).pend = D.pend := by rw [e1]
  refine ⟨by rw [e1]; exact hd, a3, a4, by funext j; unfold Dk.cur; rw [a3, a4], ?_⟩
  unfold Dk.armE
  rw [hd]
  rfl
end Go.Proofs.YtomihjeiaignnaaDoor

namespace Go.Proofs.YtomihjeiaignnaaDoor
open Go.ChangeShapes Go.WideShapes Go.ChangeAt Go.RowKit
set_option maxRecDepth 100000
set_option linter.unusedVariables false
set_option linter.unusedSimpArgs false
theorem Tryd.cellsIn : Tryd.prog.cellsOf 3 = 1 := by kernel_rfl
theorem Tryd.cellsKs : Tryd.prog.cellsOf 68 = 1 := by kernel_rfl
theorem Tryd.cellsCu : Tryd.prog.cellsOf 70 = 4 := by kernel_rfl
theorem Tryd.bytesBo : Tryd.prog.bytesOf 4 = 1 := by kernel_rfl
theorem wf_b64 {x : Int} (h : (Lit.int .i64 x).wf = true) : -9223372036854775808 ≤ x ∧ x < 9223372036854775808 := by
  have := bounds_i64 h
  omega
theorem open_kps {H : Type} {enc : TypeId × Value → H} {W : World} {fuel : Nat} {cs : List Value} {x : DataW H × List MemPlace} (h : DataW.trod enc Tryd.prog W 0 (fun _ => true) true fuel 68 cs = some x)
    (hw : ∀ e2 s2, x.1 = .slice e2 s2 → (e2.length + s2.length) * Tryd.prog.bytesOf 4 ≤ reachBytes) : ∃ ka kn kp l, cs = [.slice ka kn kp] ∧ Kp W ka kn kp l ∧ kn ≤ 140737488351232 := by
  rcases Deep.open_bools Tryd.underlying68 Tryd.underlying4 (by kernel_rfl) h with ⟨rfl, _⟩ | ⟨a, len, cap, B, rfl, _, hl, hm, rfl, hcell⟩
  · exact ⟨none, 0, 0, [], rfl, ⟨rfl, .inl rfl, Nat.le_refl _, by omega⟩, by omega⟩
  · have hb := hw _ _ rfl
    rw [Tryd.bytesBo] at hb
    simp only [List.length_map, List.length_range, reachBytes] at hb
    refine ⟨some a, len, cap, (List.range len).map B, rfl, ⟨by simp, ?_, hl, by unfold maxLen at hm; omega⟩, by omega⟩
    rcases Nat.eq_zero_or_pos len with h0 | h0
    · subst h0
      exact .inl rfl
    · obtain ⟨b, off, spot⟩ := a
      have hspot : spot = none := by simpa [Addr.add] using World.cell?_spot (hcell 0 (by omega))
      subst hspot
      refine .inr ⟨b, off, rfl, fun j v hj => ?_⟩
      have hjl : j < len := by have := (List.getElem?_eq_some_iff.1 hj).1; simpa using this
      have hc := hcell j (by omega)
      rw [Addr.add_mid] at hc
      rw [hc]
      simp [hjl] at hj
      rw [hj]
theorem open_cut {H : Type} {enc : TypeId × Value → H} {W : World} {base : Nat} {v : Value} {d : DataW H} {p : List MemPlace}
    (hv : Value.okWide Tryd.prog W .any base 70 v) (h : DataW.Trod enc Tryd.prog W 0 (fun _ => true) true 70 v d p) (hw : ∀ n ∈ d.weights Tryd.prog 70, n ≤ reachBytes) :
    ∃ n0 n1 n2 ka kn kp l, v = .agg #[.int .i64 n0, .int .i64 n1, .int .i64 n2, .slice ka kn kp] ∧ Kp W ka kn kp l ∧ kn ≤ 140737488351232 ∧ (-9223372036854775808 ≤ n0 ∧ n0 < 9223372036854775808) ∧ (-9223372036854775808 ≤ n1 ∧ n1 < 9223372036854775808) ∧ (-9223372036854775808 ≤ n2 ∧ n2 < 9223372036854775808) := by
  unfold Value.okWide at hv
  rw [Tryd.underlying70] at hv
  obtain ⟨ar, rfl, hsz, _⟩ := hv
  obtain ⟨fuel, hf⟩ := h
  obtain ⟨y0, y1, y2, y3, n, hx, hl, h0, h1, h2, h3⟩ := Go.Joins.trod_struct4 Tryd.underlying70 hf
  rw [Tryd.cellsCu] at hl
  simp only [Value.cells] at hl h0 h1 h2 h3
  obtain ⟨cs⟩ := ar
  simp only at hl h0 h1 h2 h3
  match cs, hl with
  | [c0, c1, c2, c3], _ =>
    simp only [Tryd.cellsIn, Tryd.cellsKs] at h0 h1 h2 h3
    have hxd : d = .agg [y0.1, y1.1, y2.1, y3.1] := congrArg Prod.fst hx
    have hsw : ∀ e2 s2, y3.1 = .slice e2 s2 → (e2.length + s2.length) * Tryd.prog.bytesOf 4 ≤ reachBytes := by
      intro e2 s2 he
      refine hw _ ?_
      rw [hxd, DataW.weights, Tryd.underlying70]
      show _ ∈ DataW.weightsEach Tryd.prog [3, 3, 3, 68] [y0.1, y1.1, y2.1, y3.1]
      rw [DataW.weightsEach, DataW.weightsEach, DataW.weightsEach, DataW.weightsEach]
      refine List.mem_append_right _ (List.mem_append_right _ (List.mem_append_right _ (List.mem_append_left _ ?_)))
      rw [he, DataW.weights, Tryd.underlying68]
      exact List.mem_cons_self
    obtain ⟨z0, e0, _, w0⟩ := DataW.trod_int Tryd.underlying3 h0
    obtain ⟨z1, e1, _, w1⟩ := DataW.trod_int Tryd.underlying3 h1
    obtain ⟨z2, e2, _, w2⟩ := DataW.trod_int Tryd.underlying3 h2
    obtain ⟨ka, kn, kp, l, e3, hk, hkn⟩ := open_kps h3 hsw
    simp at e0 e1 e2 e3
    subst e0 e1 e2 e3
    exact ⟨z0, z1, z2, ka, kn, kp, l, rfl, hk, hkn, wf_b64 w0, wf_b64 w1, wf_b64 w2⟩
end Go.Proofs.YtomihjeiaignnaaDoor
