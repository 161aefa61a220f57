/-
  Of layer 11: what the proofs lean on.
-/
import Derived.Test.YtomihjeiaignnaaDoorOpensE1
namespace Go.Proofs.YtomihjeiaignnaaDoor
open Go.RowKit
set_option maxRecDepth 100000
set_option linter.unusedSimpArgs false
set_option linter.unusedVariables false
theorem app_op {w : World} {o : Oper} {a : Act} {K : Act → World → Prop} {Q : Exit → Act → World → Prop} (s x : Operand)
    (ho : o.op = .call { callee := .builtin .append, args := #[s, x], argTypes := #[32, 32] }) (b : Nat) (v : Value) (L : List Int) (hs : a.eval s = v) (hown : Ob b w v L)
    (sp : Option Addr) (n sc : Nat) (l : List Int) (hx : a.eval x = .slice sp n sc) (hn : l.length = n) (hsl : Sl w sp l) (hbig : L.length + n ≤ 180000000000000) (hB : b ≤ w.heap.size)
    (h : ∀ v' w', Ob b w' v' (L ++ l) → w.grownBy w' v.ownBlock → K (a.put o.dst v') w') : o.wp Tryd.prog a w K Q := by
  subst hn
  obtain ⟨i0, hi, hz0, hz1, hz2⟩ := info_parts Tryd.info5
  rcases hsl with rfl | ⟨p, q, rfl, hat⟩
  · obtain ⟨a', c', rfl, hc, _, _⟩ := hown.slice
    have hrun : (Builtin.append_ #[32, 32] o.type #[.slice a' L.length c', .slice sp 0 sc]).run Tryd.prog w = .ok (.slice a' L.length c') w := by
      cases a' <;> cases sp <;> simp [Builtin.append_, run_underlying Tryd.underlying32, sizeOf, typeInfo, hi, Builtin.lenOf, Builtin.firstCells, loadCells, loadCellsFrom, storeCells, hc]
    unfold Oper.wp
    simp [execOp, ho, resolve, invoke, builtin, hs, hx, hrun, Result.andThen]
    exact h _ _ (by rw [List.append_nil]; exact hown) (World.grownBy.refl _ _)
  · refine wp_append_own_wide w s x 32 ho b 5 i0 (.int .u8 0) 1 1 Tryd.underlying32 hi hz0 hz1 hz2 rfl (by decide) v L.length _ hs hown ⟨p, q, none⟩ l.length sc (l.map (Value.int .u8)) hx (by simp) ?_ ?_ (by unfold maxLen; omega) (by omega) hB ?_
    · intro j u hj
      have hjl : j < l.length := by have := (List.getElem?_eq_some_iff.1 hj).1; simpa using this
      rw [Addr.add_mid, hat j hjl]
      simp [hjl] at hj ⊢
      exact hj
    · intro u hu
      obtain ⟨y, _, rfl⟩ := List.mem_map.1 hu
      rfl
    · intro v' w' h1 h2 _
      refine h v' w' ?_ h2
      unfold Ob
      rw [List.length_append, List.map_append]
      exact h1
theorem Tryd.infoWt : (Tryd.prog.info? 57).map (·.size) = some 67 := by kernel_rfl
theorem exec_swt {op : Oper} {a : Act} (w : World) (x : Operand) (ho : op.op = .load 53 x) (g i : Nat) (hx : a.eval x = .pointer (some ⟨g, i, none⟩)) (s : Option Addr) (n c : Nat) (hc : w.cell? ⟨g, i, none⟩ = some (.slice s n c)) : (execOp a.eval op).run Tryd.prog w = .ok (.value (.slice s n c)) w := by
  unfold execOp
  simp only [ho, hx, Instr.loadAt, Instr.sureAddr, Sem.run_bind, Sem.run_pure, Result.andThen_ok]
  go_simp
theorem exec_iwt {a : Act} {o : Oper} (w : World) (x y : Operand) (ho : o.op = .indexAddr 53 x y) (g q len cap i : Nat) (hx : a.eval x = .slice (some ⟨g, q, none⟩) len cap) (hy : a.eval y = .int .i64 i) (hi : i < len) :
    (execOp a.eval o).run Tryd.prog w = .ok (.value (.pointer (some ⟨g, q + 67 * i, none⟩))) w := by
  have h1 : (i : Int) < (len : Int) := by omega
  unfold execOp
  simp only [ho, hx, hy]
  go_simp
theorem exec_ixb {a : Act} {o : Oper} (w : World) (x y : Operand) (ho : o.op = .index 50 x y) (t : List Int) (ht : t.length = 64) (k : Nat) (hk : k < 64) (v : Int) (hv : v = t.getD k 0) (hx : a.eval x = .agg (kc t)) (hy : a.eval y = .int .i64 k) : (execOp a.eval o).run Tryd.prog w = .ok (.value (.int .u8 v)) w := by
  have h2 : (k : Int) < 64 := by omega
  have hg : (kc t)[k]? = some (.int .u8 v) := by rw [hv]; exact kc_get t k (by omega)
  have h3 : (Instr.index 50 (.agg (kc t)) (.int .i64 k)).run Tryd.prog w = .ok (.int .u8 v) w := by
    simp [Instr.index, run_underlying Tryd.underlying50, asIntOf, go_sem, h2, hg]
    omega
  unfold execOp
  simp only [ho, hx, hy, Sem.run_bind, h3, Result.andThen_ok, Sem.run_pure]
theorem and_one (x : Int) : ∃ p : Nat, p < 2 ∧ bits .and .i64 x 1 = (p : Int) := by
  refine ⟨(BitVec.ofInt 64 x).toNat % 2, by omega, ?_⟩
  show IntKind.i64.wrap ((BitVec.ofInt 64 x &&& BitVec.ofInt 64 1).toNat : Int) = _
  rw [BitVec.toNat_and, show (BitVec.ofInt 64 1).toNat = 1 from rfl, Nat.and_one_is_mod, IntKind.wrap_i64]
  omega
theorem blk_bb2 {s : Sup} (hp : s.place < 2) (hl : s.hash.length = 16) (hb : IsB s.hash) : BB s.blk := by
  refine ⟨s.blk_len hl, ?_⟩
  have h48 : IsB s.b48 := by
    unfold Sup.b48
    refine isB_app htr_byte (isB_app ?_ (isB_app (lowL_isB _ _) (isB_app (lowL_isB _ _) (isB_app hb (isB_rep 8)))))
    intro x hx
    simp only [List.mem_cons, List.not_mem_nil, or_false] at hx
    omega
  unfold Sup.blk
  exact isB_app h48 (sh16_isB _ (sumL_isB _))
theorem blk_bb3 (p t n : Nat) (L : List Int) (hp : p < 2) : BB (Sup.blk ⟨p, t, n, sh16 L⟩) := by
  have h1 := sh16_len L
  have h2 := sh16_isB L (sumL_isB L)
  generalize sh16 L = H at *
  exact blk_bb2 (s := ⟨p, t, n, H⟩) hp h1 h2
theorem rows_congr {B C : Nat → List Int} {o : Nat} : ∀ (k : Nat), (∀ i, i < k → B (o + i) = C (o + i)) → rows B o k = rows C o k
  | 0, _ => rfl
  | k + 1, h => by rw [rows, rows, rows_congr k (fun i hi => h i (by omega)), h k (by omega)]
theorem snapL_dk {D : Dk} {n : Nat} (hd : D.dead = false) (hn : D.safe.length = n) (h2 : 64 ≤ n) {s : Sup} (hp : s.place < 2) (hf : s.size ≤ 64 * ((n - 2) / 4)) : snapL (heldL D) n s = D.snap ((n - 2) / 4) s := by
  unfold snapL Dk.snap
  have hr : ∀ i, i < (s.size + 63) / 64 → (heldL D).getD (2 + s.place * ((n - 2) / 4) + i) [] = D.cur (2 + s.place * ((n - 2) / 4) + i) := fun i hi => held_at hd _ (by
    have hpl : s.place = 0 ∨ s.place = 1 := by omega
    rcases hpl with e | e <;> rw [e] <;> simp only [Nat.zero_mul, Nat.one_mul, Nat.add_zero] <;> omega)
  rw [rows_congr (B := fun i => (heldL D).getD i []) (C := D.cur) _ hr]
theorem rsn_two {D : Dk} {n m : Nat} (hD : D.Ok m) (hd : D.dead = false) (hn : D.safe.length = n) (h2 : 64 ≤ n) {w w' : World} {r : Ending} (h : Rsn (heldL D) n w r w') : Gr w w' ∧ ((∃ v, r = .returned (.tuple #[v, .bool false]) ∧ Shut D ((n - 2) / 4)) ∨ (∃ v s L, r = .returned (.tuple #[v, .bool true]) ∧ Ob w.heap.size w' v L ∧ Os D ((n - 2) / 4) s L ∧ L.length = s.size ∧ IsB L)) := by
  have c0 := Dk.cur_bb hD 0 (by omega)
  have c1 := Dk.cur_bb hD 1 (by omega)
  unfold Rsn at h
  rw [held_at hd 0 (by omega), held_at hd 1 (by omega)] at h
  obtain ⟨hg, h3, h4⟩ := h
  refine ⟨hg, ?_⟩
  obtain ⟨⟨s, r9⟩, hc⟩ : ∃ x, x = cntS (D.cur 0) (D.cur 1) := ⟨_, rfl⟩
  rw [← hc] at h3 h4
  dsimp only at h3 h4
  cases r9 with
  | false => exact .inl ⟨_, h3 (.inl rfl), .inl (by rw [← hc])⟩
  | true =>
    have hok := cnt_right c0 c1 hc.symm
    by_cases hb : 64 * ((n - 2) / 4) < s.size
    · exact .inl ⟨_, h3 (.inr hb), .inr ⟨s, hc.symm, .inl hb⟩⟩
    · have hf : s.size ≤ 64 * ((n - 2) / 4) := by omega
      obtain ⟨v, h5, h6⟩ := h4 rfl hf
      rw [snapL_dk hd hn h2 hok.p hf] at h5 h6
      have hrl : ∀ i, i < (s.size + 63) / 64 → BB (D.cur (2 + s.place * ((n - 2) / 4) + i)) := fun i hi => Dk.cur_bb hD _ (by
        have hp := hok.p
        have hpl : s.place = 0 ∨ s.place = 1 := by omega
        rcases hpl with e | e <;> rw [e] <;> simp only [Nat.zero_mul, Nat.one_mul, Nat.add_zero] <;> omega)
      have hll : (D.snap ((n - 2) / 4) s).length = s.size := by
        unfold Dk.snap
        rw [List.length_take, (rows_len _ hrl).1]
        omega
      have hib : IsB (D.snap ((n - 2) / 4) s) := fun x hx => (rows_len _ hrl).2 x (List.mem_of_mem_take hx)
      by_cases hh : sh16 (D.snap ((n - 2) / 4) s) = s.hash
      · rw [decide_eq_true hh] at h5
        exact .inr ⟨v, s, _, h5, h6, ⟨hc.symm, hf, rfl, hh.symm⟩, hll, hib⟩
      · rw [decide_eq_false hh] at h5
        exact .inl ⟨v, h5, .inr ⟨s, hc.symm, .inr ⟨hf, hh⟩⟩⟩
structure DkI (v0 : World) (gd za m : Nat) (F : List Nat) (D : Dk) (v : World) : Prop where
  gr : Gr v0 v
  ls : Lies F gd D v
  oF : ∀ i ∈ F, v0.heap.size ≤ i
  ok : D.Ok m
  dead : D.dead = false
  left : D.left = -1
  kn : D.safe.length = za
theorem DkI.more {v0 : World} {gd za m : Nat} {F : List Nat} {D : Dk} {v u : World} (h : DkI v0 gd za m F D v) (k : Gr v u) : DkI v0 gd za m F D u := ⟨h.gr.trans k, h.ls.gr k, h.oF, h.ok, h.dead, h.left, h.kn⟩
theorem DkI.write {v0 : World} {gd za m : Nat} {F F' : List Nat} {D : Dk} {v u : World} (h : DkI v0 gd za m F D v) (i : Nat) (hi : i < za) (b : List Int) (hb : BB b) (hL : Lies F' gd (D.writeD (i : Int) b) u) (c : Chg F F' v u) : DkI v0 gd za (m + 1) F' (D.writeD (i : Int) b) u := by
  obtain ⟨i1, i2, i3, i4, i5, i6⟩ := step_write h.dead (i, b) (by rw [h.kn]; exact hi) (by rw [h.left]; decide)
  have ok := h.ok.write (i : Int) b hb
  replace i2 : (D.writeD (i : Int) b).dead = false := i2
  replace i3 : (D.writeD (i : Int) b).safe = D.safe := i3
  replace i5 : (D.writeD (i : Int) b).left = (if 0 < D.left then D.left - 1 else D.left) := i5
  generalize D.writeD (i : Int) b = E at *
  exact ⟨Chg.own h.gr c h.oF, hL, fun j hj => (c.new j hj).elim (h.oF j) (fun e => Nat.le_trans h.gr.size e), ok, i2, by rw [i5, h.left]; decide, by rw [i3]; exact h.kn⟩
theorem Xs.dki {v0 : World} {F G : List Nat} {g gd : Nat} {D : Dk} {s : Sup} {v : World} (h : Xs v0 F G g gd D s v) {m za : Nat} {L : List Int} (k : Fd D m s L) (hn : D.safe.length = za) : DkI v0 gd za m F D v := ⟨h.gr, h.ls, h.oF, k.ok, k.dead, k.left, hn⟩
theorem wrv_cells {w : World} {g : Nat} {x : Wrl} {t : TypeId} (hx : x.Ok) (h : w.heap[g]? = some (.cells (wrv x).toArray t (0, 0))) : w.cell? ⟨g, 0, none⟩ = some (.int .i64 x.at_) ∧ w.cell? ⟨g, 65, none⟩ = some (.bool x.sup) ∧ w.cell? ⟨g, 66, none⟩ = some (.int .u64 x.cnt) ∧ w.rangeAt g 1 (bv x.turn) := by
  have hl := hx.tb.1
  have e : ∀ (i : Nat) (v : Value), (wrv x)[i]? = some v → w.cell? ⟨g, i, none⟩ = some v := fun i v hv => cell_of h (by rw [List.getElem?_toArray]; exact hv)
  refine ⟨e 0 _ rfl, e 65 _ ?_, e 66 _ ?_, fun j v hj => ?_⟩
  · unfold wrv
    rw [List.getElem?_cons_succ, List.getElem?_append_right (by rw [bv_len, hl]; omega), bv_len, hl]
    rfl
  · unfold wrv
    rw [List.getElem?_cons_succ, List.getElem?_append_right (by rw [bv_len, hl]; omega), bv_len, hl]
    rfl
  · rw [Nat.add_comm 1 j]
    refine e (j + 1) v ?_
    unfold wrv
    rw [List.getElem?_cons_succ, List.getElem?_append_left (List.getElem?_eq_some_iff.1 hj).1]
    exact hj
theorem ob_fr2 {b : Nat} {w : World} {v : Value} {L : List Int} (h : Ob b w v L) : ∀ a n c, v = .slice a n c → ∀ i, blkOf a = some i → b ≤ i := by
  intro a n c e i hi
  rcases h.2 with ⟨h1, _⟩ | ⟨g, cap, cur, h1, h2, _⟩
  · rw [e] at h1
    injection h1 with h3 _ _
    rw [h3] at hi
    cases hi
  · rw [e] at h1
    injection h1 with h3 _ _
    rw [h3] at hi
    have : g = i := Option.some.inj hi
    omega
def ZW : Wrl := ⟨0, ZB, false, 0⟩
theorem wrv_one (x : Wrl) : (wrv x).toArray.all (·.oneCell') = true := by
  rw [List.all_toArray, List.all_eq_true]
  intro v hv
  unfold wrv at hv
  simp only [List.mem_cons, List.mem_append, List.not_mem_nil, or_false] at hv
  rcases hv with rfl | hv | rfl | rfl
  · rfl
  · exact bv_one' _ v hv
  · rfl
  · rfl
def fromReg (r : Nat) : Code → Option Code
  | .seq (.region i ops d) b => if i = r then some (.seq (.region i ops d) b) else fromReg r b
  | .seq a b => (fromReg r a).orElse fun _ => fromReg r b
  | .cond _ a b => (fromReg r a).orElse fun _ => fromReg r b
  | .loop c => fromReg r c
  | .block _ c => fromReg r c
  | .scope c => fromReg r c
  | _ => none
noncomputable def loopO : Code := ((Tryd.f4.body).bind (fromReg 10)).getD .skip
noncomputable def endO : Code := ((Tryd.f4.body).bind (fromReg 26)).getD .skip
theorem wp_code_eq {P : Program} {c c' : Code} {Q : Exit → Act → World → Prop} {a : Act} {w : World} (h : c' = c) (k : c.wp P Q a w) : c'.wp P Q a w := h ▸ k
set_option maxHeartbeats 4000000 in
theorem opens_end (w v0 : World) (hf0 : Fst v0) (gd za : Nat) (bza : 64 ≤ za ∧ za < 64 + 40) (Q : Exit → Act → World → Prop) (hQ : ∀ (t : Array Value) (w' : World), Gr v0 w' → t.getD 2 undef = .bool true → Q .ret ⟨t, []⟩ w') (hpan : ∀ c t t' d w, Q (.panic c) ⟨t, d⟩ w → Q (.panic c) ⟨t', d⟩ w) (m j : Nat) (F3 : List Nat) (D3 : Dk) (wr : World) (k0 k5 k6 k7 k8 k9 k10 k11 k12 k13 k14 k15 k16 k17 k18 k19 k20 k21 k22 k23 k24 k25 k26 k27 k28 k29 k30 k31 k32 k33 k34 k35 k36 k37 k38 k39 k40 k41 k42 k43 k44 k45 k46 k47 k48 k49 k50 k51 k52 k53 k54 k55 k56 k57 k58 k59 k60 k61 k62 k63 k64 k65 k66 k67 k68 k69 k70 k71 k72 k73 k74 k75 k76 k77 k78 k79 k80 k81 k82 k83 k84 k85 k86 k87 k88 k89 k90 k91 k92 k93 k94 k95 k96 k97 k98 k99 k100 k101 k102 k103 k104 k105 k106 k107 k108 k109 k110 k111 k112 k113 k114 k115 k116 k117 k118 k119 k120 k121 k122 k123 k124 k125 k126 k127 k128 k129 k130 k131 k132 k133 k134 k135 k136 k137 k138 k139 k140 k141 k142 k143 k144 k145 k146 k147 k148 k149 k150 k151 k152 k153 k154 k155 k156 k157 k158 : Value) (hm : m ≤ 100) (hj8 : j ≤ 8) (hI : DkI v0 gd za (m + j) F3 D3 wr) : Code.wp Tryd.prog endO Q ⟨#[k0, .pointer (some ⟨w.heap.size, 0, none⟩), .bool false, .pointer (some ⟨gd, 0, none⟩), .int .i64 0, k5, k6, k7, k8, k9, k10, k11, k12, k13, k14, k15, k16, k17, k18, k19, k20, k21, k22, k23, k24, k25, k26, k27, k28, k29, k30, k31, k32, k33, k34, k35, k36, k37, k38, k39, k40, k41, k42, k43, k44, k45, k46, k47, k48, k49, k50, k51, k52, k53, k54, k55, k56, k57, k58, k59, k60, k61, k62, k63, k64, k65, k66, k67, k68, k69, k70, k71, k72, k73, k74, k75, k76, k77, k78, k79, k80, k81, k82, k83, k84, k85, k86, k87, k88, k89, k90, k91, k92, k93, k94, k95, k96, k97, k98, k99, k100, k101, k102, k103, k104, k105, k106, k107, k108, k109, k110, k111, k112, k113, k114, k115, k116, k117, k118, k119, k120, k121, k122, k123, k124, k125, k126, k127, k128, k129, k130, k131, k132, k133, k134, k135, k136, k137, k138, k139, k140, k141, k142, k143, k144, k145, k146, k147, k148, k149, k150, k151, k152, k153, k154, k155, k156, k157, k158], []⟩ wr := by
  conv => arg 2; whnf
  dsimp only
  replace hI := hide hI; replace hQ := hide hQ; replace hf0 := hide hf0; replace hpan := hide hpan
  skip
  have kn3 := (unhide hI).kn
  have hOk := hide (unhide hI).ok
  have hd3 := (unhide hI).dead
  have hB := Bl.nil wr
  replace hB := hide hB
  go_upto_region 26 with fail
  replace hB := unhide hB
  refine wp_region_lit ?_
  refine list_val (.pointer (some ⟨gd, 0, none⟩)) (by kernel_rfl) (by kernel_rfl) ?_
  simp only [Act.put, List.setIfInBounds_toArray, List.set_cons_zero, List.set_cons_succ, List.getElem_toArray, List.getElem_cons_zero, List.getElem_cons_succ]
  refine list_call 15 #[P0 gd] (by kernel_rfl) (by kernel_rfl) ((sectors_ok F3 gd (m + j) D3 (unhide hOk) (by omega) hd3 wr ((unhide hI).ls.gr hB.gr)).mono ?_)
  rintro r y6 ⟨a1, c1, rfl, hlsa1, hfra1, hg⟩
  rw [kn3] at hlsa1 ⊢
  have hfara1 : Hid (∀ i ∈ F3, blkOf a1 ≠ some i) := fun i hi e => by
    rcases hfra1 i e with e | e
    · cases e
    · have h1 := ((unhide hI).ls.gr hB.gr).lt i hi
      omega
  replace hg := hB.gr.trans hg
  skip
  replace hI := hide ((unhide hI).more hg)
  clear hB hfra1 hg
  have hB := Bl.nil y6
  replace hlsa1 := hide hlsa1
  refine ⟨_, rfl, ?_⟩
  simp only [Act.put, List.setIfInBounds_toArray, List.set_cons_zero, List.set_cons_succ, List.getElem_toArray, List.getElem_cons_zero, List.getElem_cons_succ]
  refine list_val (.tuple #[.agg #[.slice a1 za c1], .bool true]) (by kernel_rfl) (by kernel_rfl) ?_
  simp only [Act.put, List.setIfInBounds_toArray, List.set_cons_zero, List.set_cons_succ, List.getElem_toArray, List.getElem_cons_zero, List.getElem_cons_succ]
  refine list_val (.agg #[.slice a1 za c1]) (by kernel_rfl) (by kernel_rfl) ?_
  simp only [Act.put, List.setIfInBounds_toArray, List.set_cons_zero, List.set_cons_succ, List.getElem_toArray, List.getElem_cons_zero, List.getElem_cons_succ]
  refine list_val (.bool true) (by kernel_rfl) (by kernel_rfl) ?_
  simp only [Act.put, List.setIfInBounds_toArray, List.set_cons_zero, List.set_cons_succ, List.getElem_toArray, List.getElem_cons_zero, List.getElem_cons_succ]
  refine list_valw (.pointer (some ⟨y6.heap.size, 0, none⟩)) (y6.alloc (.cells (#[.slice none 0 0]) 38 (0, 0))) (by kernel_rfl) (by kernel_rfl) ?_
  replace hB := hB.new (#[.slice none 0 0]) 38
  simp only [List.nil_append, List.cons_append] at hB
  generalize World.alloc _ _ = y7 at *
  generalize y6.heap.size = gx at *
  replace hB : Bl y6 [⟨gx, #[.slice none 0 0], 38⟩] y7 := hB
  simp only [Act.put, List.setIfInBounds_toArray, List.set_cons_zero, List.set_cons_succ, List.getElem_toArray, List.getElem_cons_zero, List.getElem_cons_succ]
  refine list_store 38 (.tmp 14) (.tmp 113) (gx) (#[.slice a1 za c1]) 38 (#[.slice none 0 0]) (by kernel_rfl) rfl (by kernel_rfl) (by kernel_rfl) (hB.get 0 (x := ⟨gx, #[.slice none 0 0], 38⟩) rfl) (by rw [Tryd.infoRd11]; rfl) rfl (by simp [Value.oneCell']) ?_
  replace hB := hB.set 0 (x := ⟨gx, #[.slice none 0 0], 38⟩) rfl (#[.slice a1 za c1])
  simp only [List.set_cons_zero, List.set_cons_succ] at hB
  generalize World.setRow _ _ _ = y8 at *
  replace hB : Bl y6 [⟨gx, #[.slice a1 za c1], 38⟩] y8 := hB
  simp only [Act.put, List.setIfInBounds_toArray, List.set_cons_zero, List.set_cons_succ, List.getElem_toArray, List.getElem_cons_zero, List.getElem_cons_succ]
  (refine wpList_step fun K hK => ?_; replace hK := hide hK; go_simp; refine unhide hK _ _ ?_; clear hK K)
  refine wpList_nil ?_
  have hgx : Hid (y8.heap[gx]? = some (.cells (#[.slice a1 za c1]) 38 (0, 0))) := (hB.get 0 (x := ⟨gx, #[.slice a1 za c1], 38⟩) rfl)
  replace hlsa1 := hide ((unhide hlsa1).gr hB.gr)
  replace hI := hide ((unhide hI).more hB.gr)
  clear hB
  have hB := Bl.nil y8
  replace hB := hide hB
  go_upto_region 27 with fail
  replace hB := unhide hB
  refine wp_region_lit ?_
  refine list_val (.agg #[.slice a1 za c1]) (by kernel_rfl) (exec_arr _ 38 (.tmp 14) rfl gx (by kernel_rfl) #[.slice a1 za c1] 38 _ (hB.gr.blk (unhide hgx)) Tryd.underlying38 rfl (by rw [Tryd.infoRd11]; rfl)) ?_
  simp only [Act.put, List.setIfInBounds_toArray, List.set_cons_zero, List.set_cons_succ, List.getElem_toArray, List.getElem_cons_zero, List.getElem_cons_succ]
  refine list_call 16 #[.agg #[.slice a1 za c1]] (by kernel_rfl) (by kernel_rfl) ((rsnap_ok (heldL D3) (held_all (unhide hOk)) a1 za c1 (by omega) (by omega) _ (unhide hlsa1)).mono ?_)
  intro r y9 hrs
  obtain ⟨hg, hrs⟩ := rsn_two (unhide hOk) hd3 kn3 (by omega) hrs
  replace hB := hB.more hg
  clear hg
  rcases hrs with ⟨vw, rfl, hsh⟩ | ⟨vw, s5, L5, rfl, hO, hos, hLl, hLb⟩
  · skip
    replace hsh := hide hsh
    refine ⟨_, rfl, ?_⟩
    simp only [Act.put, List.setIfInBounds_toArray, List.set_cons_zero, List.set_cons_succ, List.getElem_toArray, List.getElem_cons_zero, List.getElem_cons_succ]
    refine list_val (.tuple #[vw, .bool false]) (by kernel_rfl) (by kernel_rfl) ?_
    simp only [Act.put, List.setIfInBounds_toArray, List.set_cons_zero, List.set_cons_succ, List.getElem_toArray, List.getElem_cons_zero, List.getElem_cons_succ]
    refine list_val vw (by kernel_rfl) (by kernel_rfl) ?_
    simp only [Act.put, List.setIfInBounds_toArray, List.set_cons_zero, List.set_cons_succ, List.getElem_toArray, List.getElem_cons_zero, List.getElem_cons_succ]
    refine list_val (.bool false) (by kernel_rfl) (by kernel_rfl) ?_
    simp only [Act.put, List.setIfInBounds_toArray, List.set_cons_zero, List.set_cons_succ, List.getElem_toArray, List.getElem_cons_zero, List.getElem_cons_succ]
    (refine wpList_step fun K hK => ?_; replace hK := hide hK; go_simp; refine unhide hK _ _ ?_; clear hK K)
    (refine wpList_step fun K hK => ?_; replace hK := hide hK; go_simp; refine unhide hK _ _ ?_; clear hK K)
    refine wpList_nil ?_
    replace hB := hide hB
    go_upto_region 28 with fail
    replace hB := unhide hB
    refine wp_region_lit ?_
    refine list_val (.pointer (some ⟨gd, 0, none⟩)) (by kernel_rfl) (by kernel_rfl) ?_
    simp only [Act.put, List.setIfInBounds_toArray, List.set_cons_zero, List.set_cons_succ, List.getElem_toArray, List.getElem_cons_zero, List.getElem_cons_succ]
    refine list_call 18 #[P0 gd] (by kernel_rfl) (by kernel_rfl) ((eopen_no F3 gd (m + j) D3 (unhide hOk) (by omega) hd3 (by omega) _ ((unhide hI).ls.gr hB.gr) (by rw [kn3]; exact unhide hsh) ((unhide hf0).gr ((unhide hI).gr.trans hB.gr))).mono ?_)
    rintro r z1 ⟨rfl, hg⟩
    replace hB := hB.more hg
    clear hg
    refine ⟨_, rfl, ?_⟩
    simp only [Act.put, List.setIfInBounds_toArray, List.set_cons_zero, List.set_cons_succ, List.getElem_toArray, List.getElem_cons_zero, List.getElem_cons_succ]
    refine list_val (.tuple #[.pointer none, .int .i64 210]) (by kernel_rfl) (by kernel_rfl) ?_
    simp only [Act.put, List.setIfInBounds_toArray, List.set_cons_zero, List.set_cons_succ, List.getElem_toArray, List.getElem_cons_zero, List.getElem_cons_succ]
    refine list_val (.pointer none) (by kernel_rfl) (by kernel_rfl) ?_
    simp only [Act.put, List.setIfInBounds_toArray, List.set_cons_zero, List.set_cons_succ, List.getElem_toArray, List.getElem_cons_zero, List.getElem_cons_succ]
    refine list_val (.int .i64 210) (by kernel_rfl) (by kernel_rfl) ?_
    simp only [Act.put, List.setIfInBounds_toArray, List.set_cons_zero, List.set_cons_succ, List.getElem_toArray, List.getElem_cons_zero, List.getElem_cons_succ]
    (refine wpList_step fun K hK => ?_; replace hK := hide hK; go_simp; refine unhide hK _ _ ?_; clear hK K)
    (refine wpList_step fun K hK => ?_; replace hK := hide hK; go_simp; refine unhide hK _ _ ?_; clear hK K)
    refine wpList_nil ?_
    have hZ : Hid (Gr v0 z1) := (unhide hI).gr.trans hB.gr
    replace hB := hide hB
    go_wp2_with fail
    exact unhide hQ _ _ (unhide hZ) rfl
  have hfit := hos.fit
  have h512 := (unhide hOk).hi1
  have hs5 : s5.size ≤ 10000 := by omega
  obtain ⟨n5, hn5⟩ : ∃ x, x = s5.size := ⟨_, rfl⟩
  rw [← hn5] at hLl hs5
  obtain ⟨aw, cw, rfl, lw⟩ := ob_lb hO hLb (n := n5) hLl
  replace lw := hide lw; replace hos := hide hos; replace hLb := hide hLb; replace hLl := hide hLl; replace hn5 := hide hn5
  clear hO hfit h512
  refine ⟨_, rfl, ?_⟩
  simp only [Act.put, List.setIfInBounds_toArray, List.set_cons_zero, List.set_cons_succ, List.getElem_toArray, List.getElem_cons_zero, List.getElem_cons_succ]
  refine list_val (.tuple #[.slice aw n5 cw, .bool true]) (by kernel_rfl) (by kernel_rfl) ?_
  simp only [Act.put, List.setIfInBounds_toArray, List.set_cons_zero, List.set_cons_succ, List.getElem_toArray, List.getElem_cons_zero, List.getElem_cons_succ]
  refine list_val (.slice aw n5 cw) (by kernel_rfl) (by kernel_rfl) ?_
  simp only [Act.put, List.setIfInBounds_toArray, List.set_cons_zero, List.set_cons_succ, List.getElem_toArray, List.getElem_cons_zero, List.getElem_cons_succ]
  refine list_val (.bool true) (by kernel_rfl) (by kernel_rfl) ?_
  simp only [Act.put, List.setIfInBounds_toArray, List.set_cons_zero, List.set_cons_succ, List.getElem_toArray, List.getElem_cons_zero, List.getElem_cons_succ]
  (refine wpList_step fun K hK => ?_; replace hK := hide hK; go_simp; refine unhide hK _ _ ?_; clear hK K)
  (refine wpList_step fun K hK => ?_; replace hK := hide hK; go_simp; refine unhide hK _ _ ?_; clear hK K)
  refine wpList_nil ?_
  replace hB := hide hB
  go_upto_region 28 with fail
  replace hB := unhide hB
  refine wp_region_lit ?_
  refine list_val (.pointer (some ⟨gd, 0, none⟩)) (by kernel_rfl) (by kernel_rfl) ?_
  simp only [Act.put, List.setIfInBounds_toArray, List.set_cons_zero, List.set_cons_succ, List.getElem_toArray, List.getElem_cons_zero, List.getElem_cons_succ]
  refine list_call 18 #[P0 gd] (by kernel_rfl) (by kernel_rfl) ((eopen_ok F3 gd (m + j) D3 s5 L5 (unhide hOk) (by omega) hd3 (by omega) _ ((unhide hI).ls.gr hB.gr) (by rw [kn3]; exact unhide hos) ((unhide hf0).gr ((unhide hI).gr.trans hB.gr))).mono ?_)
  rintro r z1 ⟨gt, GT, rfl, hSt, hGt, hg⟩
  replace hSt := hide hSt
  replace lw := hide ((unhide lw).gr hg)
  replace hB := hB.more hg
  clear hg hGt
  refine ⟨_, rfl, ?_⟩
  simp only [Act.put, List.setIfInBounds_toArray, List.set_cons_zero, List.set_cons_succ, List.getElem_toArray, List.getElem_cons_zero, List.getElem_cons_succ]
  refine list_val (.tuple #[.pointer (some ⟨gt, 0, none⟩), .int .i64 0]) (by kernel_rfl) (by kernel_rfl) ?_
  simp only [Act.put, List.setIfInBounds_toArray, List.set_cons_zero, List.set_cons_succ, List.getElem_toArray, List.getElem_cons_zero, List.getElem_cons_succ]
  refine list_val (.pointer (some ⟨gt, 0, none⟩)) (by kernel_rfl) (by kernel_rfl) ?_
  simp only [Act.put, List.setIfInBounds_toArray, List.set_cons_zero, List.set_cons_succ, List.getElem_toArray, List.getElem_cons_zero, List.getElem_cons_succ]
  refine list_val (.int .i64 0) (by kernel_rfl) (by kernel_rfl) ?_
  simp only [Act.put, List.setIfInBounds_toArray, List.set_cons_zero, List.set_cons_succ, List.getElem_toArray, List.getElem_cons_zero, List.getElem_cons_succ]
  (refine wpList_step fun K hK => ?_; replace hK := hide hK; go_simp; refine unhide hK _ _ ?_; clear hK K)
  (refine wpList_step fun K hK => ?_; replace hK := hide hK; go_simp; refine unhide hK _ _ ?_; clear hK K)
  refine wpList_nil ?_
  replace hB := hide hB
  go_upto_region 33 with fail
  replace hB := unhide hB
  refine wp_region_lit ?_
  refine list_val (.pointer (some ⟨gt, 0, none⟩)) (by kernel_rfl) (by kernel_rfl) ?_
  simp only [Act.put, List.setIfInBounds_toArray, List.set_cons_zero, List.set_cons_succ, List.getElem_toArray, List.getElem_cons_zero, List.getElem_cons_succ]
  refine list_call 17 #[P0 gt] (by kernel_rfl) (by kernel_rfl) ((esnap_ok F3 GT gt gd (m + j) D3 s5 L5 (unhide hOk) (by omega) hd3 (by omega) _ ((unhide hI).ls.gr hB.gr) (unhide hSt) (by rw [kn3]; exact unhide hos) ((unhide hf0).gr ((unhide hI).gr.trans hB.gr))).mono ?_)
  rintro r z2 ⟨vg, rfl, hO, hg⟩
  obtain ⟨ag, cg, rfl, lg⟩ := ob_lb hO (unhide hLb) (n := n5) (unhide hLl)
  replace lg := hide lg
  replace lw := hide ((unhide lw).gr hg); replace hSt := hide ((unhide hSt).gr hg)
  replace hB := hB.more hg
  clear hO hg
  refine ⟨_, rfl, ?_⟩
  simp only [Act.put, List.setIfInBounds_toArray, List.set_cons_zero, List.set_cons_succ, List.getElem_toArray, List.getElem_cons_zero, List.getElem_cons_succ]
  refine list_val (.tuple #[.slice ag n5 cg, .int .i64 0]) (by kernel_rfl) (by kernel_rfl) ?_
  simp only [Act.put, List.setIfInBounds_toArray, List.set_cons_zero, List.set_cons_succ, List.getElem_toArray, List.getElem_cons_zero, List.getElem_cons_succ]
  refine list_val (.slice ag n5 cg) (by kernel_rfl) (by kernel_rfl) ?_
  simp only [Act.put, List.setIfInBounds_toArray, List.set_cons_zero, List.set_cons_succ, List.getElem_toArray, List.getElem_cons_zero, List.getElem_cons_succ]
  refine list_val (.int .i64 0) (by kernel_rfl) (by kernel_rfl) ?_
  simp only [Act.put, List.setIfInBounds_toArray, List.set_cons_zero, List.set_cons_succ, List.getElem_toArray, List.getElem_cons_zero, List.getElem_cons_succ]
  (refine wpList_step fun K hK => ?_; replace hK := hide hK; go_simp; refine unhide hK _ _ ?_; clear hK K)
  (refine wpList_step fun K hK => ?_; replace hK := hide hK; go_simp; refine unhide hK _ _ ?_; clear hK K)
  refine wpList_nil ?_
  replace hB := hide hB
  go_upto_region 34 with fail
  replace hB := unhide hB
  refine any_start (S := fun (v : World) => Gr y8 v) (by kernel_rfl) ?_
  replace hB := hB.drew
  replace lw := hide ((unhide lw).gr (Gr.refl _).drew); replace lg := hide ((unhide lg).gr (Gr.refl _).drew); replace hSt := hide ((unhide hSt).gr (Gr.refl _).drew)
  generalize World.drew _ = x2 at *
  simp only [List.size_toArray, List.length_cons, List.length_nil, Array.replicate, List.replicate]
  refine any_take (i := 0) (v := (.int .i64 0)) #[false, false, false, false, false, false, false, false, false, false, false, false, false, false, false, false, false, false, false, false] rfl (by kernel_rfl) (by kernel_rfl) (by kernel_rfl) (by kernel_rfl) (fun _ _ _ h => (unhide hpan) _ _ _ _ _ h) (.inl ⟨by kernel_rfl, fun x_ hu => by kernel_rfl⟩) hB.gr ?_
  simp only [Act.put, List.setIfInBounds_toArray, List.set_cons_zero, List.set_cons_succ, List.getElem_toArray, List.getElem_cons_zero, List.getElem_cons_succ]
  refine any_take (i := 1) (v := (.bool true)) #[true, false, false, false, false, false, false, false, false, false, false, false, false, false, false, false, false, false, false, false] rfl (by kernel_rfl) (by kernel_rfl) (by kernel_rfl) (by kernel_rfl) (fun _ _ _ h => (unhide hpan) _ _ _ _ _ h) (.inl ⟨by kernel_rfl, fun x_ hu => by go_simp⟩) hB.gr ?_
  simp only [Act.put, List.setIfInBounds_toArray, List.set_cons_zero, List.set_cons_succ, List.getElem_toArray, List.getElem_cons_zero, List.getElem_cons_succ]
  refine any_take (i := 2) (v := (.bool true)) #[true, true, false, false, false, false, false, false, false, false, false, false, false, false, false, false, false, false, false, false] rfl (by kernel_rfl) (by kernel_rfl) (by kernel_rfl) (by kernel_rfl) (fun _ _ _ h => (unhide hpan) _ _ _ _ _ h) (.inl ⟨by kernel_rfl, fun x_ hu => by kernel_rfl⟩) hB.gr ?_
  simp only [Act.put, List.setIfInBounds_toArray, List.set_cons_zero, List.set_cons_succ, List.getElem_toArray, List.getElem_cons_zero, List.getElem_cons_succ]
  refine any_take (i := 3) (v := (.int .i64 0)) #[true, true, true, false, false, false, false, false, false, false, false, false, false, false, false, false, false, false, false, false] rfl (by kernel_rfl) (by kernel_rfl) (by kernel_rfl) (by kernel_rfl) (fun _ _ _ h => (unhide hpan) _ _ _ _ _ h) (.inl ⟨by kernel_rfl, fun x_ hu => by kernel_rfl⟩) hB.gr ?_
  simp only [Act.put, List.setIfInBounds_toArray, List.set_cons_zero, List.set_cons_succ, List.getElem_toArray, List.getElem_cons_zero, List.getElem_cons_succ]
  refine any_take (i := 4) (v := (.bool true)) #[true, true, true, true, false, false, false, false, false, false, false, false, false, false, false, false, false, false, false, false] rfl (by kernel_rfl) (by kernel_rfl) (by kernel_rfl) (by kernel_rfl) (fun _ _ _ h => (unhide hpan) _ _ _ _ _ h) (.inl ⟨by kernel_rfl, fun x_ hu => by go_simp⟩) hB.gr ?_
  simp only [Act.put, List.setIfInBounds_toArray, List.set_cons_zero, List.set_cons_succ, List.getElem_toArray, List.getElem_cons_zero, List.getElem_cons_succ]
  refine any_take (i := 5) (v := (.bool true)) #[true, true, true, true, true, false, false, false, false, false, false, false, false, false, false, false, false, false, false, false] rfl (by kernel_rfl) (by kernel_rfl) (by kernel_rfl) (by kernel_rfl) (fun _ _ _ h => (unhide hpan) _ _ _ _ _ h) (.inl ⟨by kernel_rfl, fun x_ hu => by kernel_rfl⟩) hB.gr ?_
  simp only [Act.put, List.setIfInBounds_toArray, List.set_cons_zero, List.set_cons_succ, List.getElem_toArray, List.getElem_cons_zero, List.getElem_cons_succ]
  refine any_take (i := 6) (v := (.bool true)) #[true, true, true, true, true, true, false, false, false, false, false, false, false, false, false, false, false, false, false, false] rfl (by kernel_rfl) (by kernel_rfl) (by kernel_rfl) (by kernel_rfl) (fun _ _ _ h => (unhide hpan) _ _ _ _ _ h) (.inl ⟨by kernel_rfl, fun x_ hu => by kernel_rfl⟩) hB.gr ?_
  simp only [Act.put, List.setIfInBounds_toArray, List.set_cons_zero, List.set_cons_succ, List.getElem_toArray, List.getElem_cons_zero, List.getElem_cons_succ]
  refine any_take (i := 7) (v := (.slice ag n5 cg)) #[true, true, true, true, true, true, true, false, false, false, false, false, false, false, false, false, false, false, false, false] rfl (by kernel_rfl) (by kernel_rfl) (by kernel_rfl) (by kernel_rfl) (fun _ _ _ h => (unhide hpan) _ _ _ _ _ h) (.inl ⟨by kernel_rfl, fun x_ hu => by kernel_rfl⟩) hB.gr ?_
  simp only [Act.put, List.setIfInBounds_toArray, List.set_cons_zero, List.set_cons_succ, List.getElem_toArray, List.getElem_cons_zero, List.getElem_cons_succ]
  refine any_take (i := 8) (v := (.slice aw n5 cw)) #[true, true, true, true, true, true, true, true, false, false, false, false, false, false, false, false, false, false, false, false] rfl (by kernel_rfl) (by kernel_rfl) (by kernel_rfl) (by kernel_rfl) (fun _ _ _ h => (unhide hpan) _ _ _ _ _ h) (.inl ⟨by kernel_rfl, fun x_ hu => by kernel_rfl⟩) hB.gr ?_
  simp only [Act.put, List.setIfInBounds_toArray, List.set_cons_zero, List.set_cons_succ, List.getElem_toArray, List.getElem_cons_zero, List.getElem_cons_succ]
  refine any_one (i := 9) (by kernel_rfl) rfl (fun K_ hQ => ?_)
  refine step_callw (by kernel_rfl) 19 #[.slice ag n5 cg, .slice aw n5 cw] (by kernel_rfl) ((rsame_ok L5 L5 _ _ n5 n5 _ _ _ (unhide lg) (unhide lw) (by omega)).mono ?_)
  rintro r x3 ⟨rfl, hg⟩
  refine ⟨_, rfl, ?_⟩
  rw [decide_eq_true rfl]
  replace hSt := hide ((unhide hSt).gr hg)
  replace hB := hB.more hg
  clear hg
  refine hQ.out _ _ hB.gr (fun _ => ?_)
  clear hQ K_
  simp only [Act.put, List.setIfInBounds_toArray, List.set_cons_zero, List.set_cons_succ, List.getElem_toArray, List.getElem_cons_zero, List.getElem_cons_succ]
  refine any_take (i := 10) (v := (.bool true)) #[true, true, true, true, true, true, true, true, true, true, false, false, false, false, false, false, false, false, false, false] rfl (by kernel_rfl) (by kernel_rfl) (by kernel_rfl) (by kernel_rfl) (fun _ _ _ h => (unhide hpan) _ _ _ _ _ h) (.inl ⟨by kernel_rfl, fun x_ hu => by kernel_rfl⟩) hB.gr ?_
  simp only [Act.put, List.setIfInBounds_toArray, List.set_cons_zero, List.set_cons_succ, List.getElem_toArray, List.getElem_cons_zero, List.getElem_cons_succ]
  refine any_take (i := 11) (v := (.bool true)) #[true, true, true, true, true, true, true, true, true, true, true, false, false, false, false, false, false, false, false, false] rfl (by kernel_rfl) (by kernel_rfl) (by kernel_rfl) (by kernel_rfl) (fun _ _ _ h => (unhide hpan) _ _ _ _ _ h) (.inl ⟨by kernel_rfl, fun x_ hu => by kernel_rfl⟩) hB.gr ?_
  simp only [Act.put, List.setIfInBounds_toArray, List.set_cons_zero, List.set_cons_succ, List.getElem_toArray, List.getElem_cons_zero, List.getElem_cons_succ]
  refine any_take (i := 12) (v := (.pointer (some ⟨gt, 0, none⟩))) #[true, true, true, true, true, true, true, true, true, true, true, true, false, false, false, false, false, false, false, false] rfl (by kernel_rfl) (by kernel_rfl) (by kernel_rfl) (by kernel_rfl) (fun _ _ _ h => (unhide hpan) _ _ _ _ _ h) (.inl ⟨by kernel_rfl, fun x_ hu => by kernel_rfl⟩) hB.gr ?_
  simp only [Act.put, List.setIfInBounds_toArray, List.set_cons_zero, List.set_cons_succ, List.getElem_toArray, List.getElem_cons_zero, List.getElem_cons_succ]
  refine any_take (i := 14) (v := (.agg #[.slice a1 za c1])) #[true, true, true, true, true, true, true, true, true, true, true, true, true, false, false, false, false, false, false, false] rfl (by kernel_rfl) (by kernel_rfl) (by kernel_rfl) (by kernel_rfl) (fun _ _ _ h => (unhide hpan) _ _ _ _ _ h) (.inl ⟨by kernel_rfl, fun x_ hu => exec_arr _ 38 (.tmp 14) rfl gx (by kernel_rfl) #[.slice a1 za c1] 38 _ (hu.blk (unhide hgx)) Tryd.underlying38 rfl (by rw [Tryd.infoRd11]; rfl)⟩) hB.gr ?_
  simp only [Act.put, List.setIfInBounds_toArray, List.set_cons_zero, List.set_cons_succ, List.getElem_toArray, List.getElem_cons_zero, List.getElem_cons_succ]
  refine any_one (i := 13) (by kernel_rfl) rfl (fun K_ hQ => ?_)
  refine step_callw (by kernel_rfl) 20 #[P0 gt] (by kernel_rfl) ((eturn_ok F3 GT gt gd (m + j) D3 s5 L5 (unhide hOk) (by omega) hd3 (by omega) _ ((unhide hI).ls.gr hB.gr) (unhide hSt) (by rw [kn3]; exact unhide hos) ((unhide hf0).gr ((unhide hI).gr.trans hB.gr))).mono ?_)
  rintro r x4 ⟨rfl, hg⟩
  refine ⟨_, rfl, ?_⟩
  replace hSt := hide ((unhide hSt).gr hg)
  replace hB := hB.more hg
  clear hg
  refine hQ.out _ _ hB.gr (fun _ => ?_)
  clear hQ K_
  simp only [Act.put, List.setIfInBounds_toArray, List.set_cons_zero, List.set_cons_succ, List.getElem_toArray, List.getElem_cons_zero, List.getElem_cons_succ]
  refine any_one (i := 15) (by kernel_rfl) rfl (fun K_ hQ => ?_)
  refine step_callw (by kernel_rfl) 26 #[.agg #[.slice a1 za c1]] (by kernel_rfl) ((rcounts_ok (heldL D3) (held_all (unhide hOk)) a1 za c1 (by omega) _ ((unhide hlsa1).gr hB.gr)).mono ?_)
  rintro r x5 ⟨ha, hc, rfl, -, hg⟩
  refine ⟨_, rfl, ?_⟩
  rw [held_at hd3 0 (by omega), held_at hd3 1 (by omega), (unhide hos).cnt]
  replace hB := hB.more hg
  clear hg
  refine hQ.out _ _ hB.gr (fun _ => ?_)
  clear hQ K_
  simp only [Act.put, List.setIfInBounds_toArray, List.set_cons_zero, List.set_cons_succ, List.getElem_toArray, List.getElem_cons_zero, List.getElem_cons_succ]
  refine any_take (i := 16) (v := (.int .u64 (s5.turn : Int))) #[true, true, true, true, true, true, true, true, true, true, true, true, true, true, true, true, false, false, false, false] rfl (by kernel_rfl) (by kernel_rfl) (by kernel_rfl) (by kernel_rfl) (fun _ _ _ h => (unhide hpan) _ _ _ _ _ h) (.inl ⟨by kernel_rfl, fun x_ hu => by kernel_rfl⟩) hB.gr ?_
  simp only [Act.put, List.setIfInBounds_toArray, List.set_cons_zero, List.set_cons_succ, List.getElem_toArray, List.getElem_cons_zero, List.getElem_cons_succ]
  refine any_take (i := 17) (v := (.bool true)) #[true, true, true, true, true, true, true, true, true, true, true, true, true, true, true, true, true, false, false, false] rfl (by kernel_rfl) (by kernel_rfl) (by kernel_rfl) (by kernel_rfl) (fun _ _ _ h => (unhide hpan) _ _ _ _ _ h) (.inl ⟨by kernel_rfl, fun x_ hu => by go_simp⟩) hB.gr ?_
  simp only [Act.put, List.setIfInBounds_toArray, List.set_cons_zero, List.set_cons_succ, List.getElem_toArray, List.getElem_cons_zero, List.getElem_cons_succ]
  refine any_take (i := 18) (v := (.bool true)) #[true, true, true, true, true, true, true, true, true, true, true, true, true, true, true, true, true, true, false, false] rfl (by kernel_rfl) (by kernel_rfl) (by kernel_rfl) (by kernel_rfl) (fun _ _ _ h => (unhide hpan) _ _ _ _ _ h) (.inl ⟨by kernel_rfl, fun x_ hu => by kernel_rfl⟩) hB.gr ?_
  simp only [Act.put, List.setIfInBounds_toArray, List.set_cons_zero, List.set_cons_succ, List.getElem_toArray, List.getElem_cons_zero, List.getElem_cons_succ]
  refine any_one (i := 19) (by kernel_rfl) rfl (fun K_ hQ => ?_)
  replace hQ := hide hQ
  go_simp
  refine (unhide hQ).out _ _ hB.gr (fun _ => ?_)
  clear hQ K_
  refine any_done (by kernel_rfl) ?_
  have hZ : Hid (Gr v0 x5) := (unhide hI).gr.trans hB.gr
  replace hB := hide hB
  go_wp2_with fail
  exact unhide hQ _ _ (unhide hZ) rfl
set_option maxHeartbeats 4000000 in
theorem opens_loop (w v0 : World) (n0 : Int) (fm : Bool) (S : List Int) (sa : Option Addr) (sn sc : Nat) (hsc : sc ≤ 140737488351232) (hcS : sn ≤ sc) (X : List Wrl) (wa : Option Addr) (wn wc : Nat) (hwc : wn ≤ wc) (hwm : wc < 9223372036854775808) (hX0 : ∀ o ∈ X, o.Ok) (hwl : X.length = wn) (hf0 : Fst v0) (hS0 : Lb v0 sa sn sc S) (hW0 : Lr 67 v0 wa wn wc (X.map wrv)) (hgw : v0.heap[w.heap.size]? = some (.cells (#[.int .i64 n0, .bool fm, .slice sa sn sc, .slice wa wn wc]) 55 (0, 0))) (gd za : Nat) (bza : 64 ≤ za ∧ za < 64 + 40) (Q : Exit → Act → World → Prop) (m : Nat) (hm : m ≤ 100) (hQ : ∀ (j : Nat) (F3 : List Nat) (D3 : Dk) (wr : World), j ≤ 8 → DkI v0 gd za (m + j) F3 D3 wr → ∀ (k0 k5 k6 k7 k8 k9 k10 k11 k12 k13 k14 k15 k16 k17 k18 k19 k20 k21 k22 k23 k24 k25 k26 k27 k28 k29 k30 k31 k32 k33 k34 k35 k36 k37 k38 k39 k40 k41 k42 k43 k44 k45 k46 k47 k48 k49 k50 k51 k52 k53 k54 k55 k56 k57 k58 k59 k60 k61 k62 k63 k64 k65 k66 k67 k68 k69 k70 k71 k72 k73 k74 k75 k76 k77 k78 k79 k80 k81 k82 k83 k84 k85 k86 k87 k88 k89 k90 k91 k92 k93 k94 k95 k96 k97 k98 k99 k100 k101 k102 k103 k104 k105 k106 k107 k108 k109 k110 k111 k112 k113 k114 k115 k116 k117 k118 k119 k120 k121 k122 k123 k124 k125 k126 k127 k128 k129 k130 k131 k132 k133 k134 k135 k136 k137 k138 k139 k140 k141 k142 k143 k144 k145 k146 k147 k148 k149 k150 k151 k152 k153 k154 k155 k156 k157 k158 : Value), Q .normal ⟨#[k0, .pointer (some ⟨w.heap.size, 0, none⟩), .bool false, .pointer (some ⟨gd, 0, none⟩), .int .i64 0, k5, k6, k7, k8, k9, k10, k11, k12, k13, k14, k15, k16, k17, k18, k19, k20, k21, k22, k23, k24, k25, k26, k27, k28, k29, k30, k31, k32, k33, k34, k35, k36, k37, k38, k39, k40, k41, k42, k43, k44, k45, k46, k47, k48, k49, k50, k51, k52, k53, k54, k55, k56, k57, k58, k59, k60, k61, k62, k63, k64, k65, k66, k67, k68, k69, k70, k71, k72, k73, k74, k75, k76, k77, k78, k79, k80, k81, k82, k83, k84, k85, k86, k87, k88, k89, k90, k91, k92, k93, k94, k95, k96, k97, k98, k99, k100, k101, k102, k103, k104, k105, k106, k107, k108, k109, k110, k111, k112, k113, k114, k115, k116, k117, k118, k119, k120, k121, k122, k123, k124, k125, k126, k127, k128, k129, k130, k131, k132, k133, k134, k135, k136, k137, k138, k139, k140, k141, k142, k143, k144, k145, k146, k147, k148, k149, k150, k151, k152, k153, k154, k155, k156, k157, k158], []⟩ wr) (F : List Nat) (D : Dk) (v3 : World) (k0 k5 k6 k7 k8 k9 k10 k11 k12 k13 k14 k15 k16 k17 k18 k19 k20 k21 k22 k23 k24 k25 k26 k27 k28 k29 k30 k31 k32 k33 k34 k35 k36 k37 k38 k39 k40 k41 k42 k43 k44 k45 k46 k47 k48 k49 k50 k51 k52 k53 k54 k55 k56 k57 k58 k59 k60 k61 k62 k63 k64 k65 k66 k67 k68 k69 k70 k71 k72 k73 k74 k75 k76 k77 k78 k79 k80 k81 k82 k83 k84 k85 k86 k87 k88 k89 k90 k91 k92 k93 k94 k95 k96 k97 k98 k99 k100 k101 k102 k103 k104 k105 k106 k107 k108 k109 k110 k111 k112 k113 k114 k115 k116 k117 k118 k119 k120 k121 k122 k123 k124 k125 k126 k127 k128 k129 k130 k131 k132 k133 k134 k135 k136 k137 k138 k139 k140 k141 k142 k143 k144 k145 k146 k147 k148 k149 k150 k151 k152 k153 k154 k155 k156 k157 k158 : Value) (hI : DkI v0 gd za m F D v3) : Code.wp Tryd.prog loopO Q ⟨#[k0, .pointer (some ⟨w.heap.size, 0, none⟩), .bool false, .pointer (some ⟨gd, 0, none⟩), .int .i64 0, k5, k6, k7, k8, k9, k10, k11, k12, k13, k14, k15, k16, k17, k18, k19, k20, k21, k22, k23, k24, k25, k26, k27, k28, k29, k30, k31, k32, k33, k34, k35, k36, k37, k38, k39, k40, k41, k42, k43, k44, k45, k46, k47, k48, k49, k50, k51, k52, k53, k54, k55, k56, k57, k58, k59, k60, k61, k62, k63, k64, k65, k66, k67, k68, k69, k70, k71, k72, k73, k74, k75, k76, k77, k78, k79, k80, k81, k82, k83, k84, k85, k86, k87, k88, k89, k90, k91, k92, k93, k94, k95, k96, k97, k98, k99, k100, k101, k102, k103, k104, k105, k106, k107, k108, k109, k110, k111, k112, k113, k114, k115, k116, k117, k118, k119, k120, k121, k122, k123, k124, k125, k126, k127, k128, k129, k130, k131, k132, k133, k134, k135, k136, k137, k138, k139, k140, k141, k142, k143, k144, k145, k146, k147, k148, k149, k150, k151, k152, k153, k154, k155, k156, k157, k158], []⟩ v3 := by
  conv => arg 2; whnf
  dsimp only
  replace hI := hide hI; replace hQ := hide hQ; replace hX0 := hide hX0; replace hwl := hide hwl; replace hf0 := hide hf0; replace hS0 := hide hS0; replace hW0 := hide hW0; replace hgw := hide hgw
  go_upto_region 10 with fail
  have hGR := (unhide hI).gr
  refine wp_region_lit ?_
  refine list_val (.pointer (some ⟨w.heap.size, 3, none⟩)) (by kernel_rfl) (by kernel_rfl) ?_
  simp only [Act.put, List.setIfInBounds_toArray, List.set_cons_zero, List.set_cons_succ, List.getElem_toArray, List.getElem_cons_zero, List.getElem_cons_succ]
  refine list_val (.slice wa wn wc) (by kernel_rfl) (exec_swt _ (.tmp 60) rfl (w.heap.size) 3 (by kernel_rfl) wa wn wc (cell_of (hGR.blk (unhide hgw)) (i := 3) rfl)) ?_
  simp only [Act.put, List.setIfInBounds_toArray, List.set_cons_zero, List.set_cons_succ, List.getElem_toArray, List.getElem_cons_zero, List.getElem_cons_succ]
  refine list_val (.int .i64 wn) (by kernel_rfl) (by kernel_rfl) ?_
  simp only [Act.put, List.setIfInBounds_toArray, List.set_cons_zero, List.set_cons_succ, List.getElem_toArray, List.getElem_cons_zero, List.getElem_cons_succ]
  refine list_val (.int .i64 0) (by kernel_rfl) (by kernel_rfl) ?_
  simp only [Act.put, List.setIfInBounds_toArray, List.set_cons_zero, List.set_cons_succ, List.getElem_toArray, List.getElem_cons_zero, List.getElem_cons_succ]
  refine wpList_nil ?_
  clear hGR
  have hJ0 : Hid (∃ F D, DkI v0 gd za (m + 0) F D v3) := ⟨F, D, unhide hI⟩
  clear hI
  go_wp2_with fail
  go_loopw [63] (fun i wr => ∃ j : Nat, j ≤ wn ∧ j ≤ 8 ∧ i = .int .i64 (j : Int) ∧ Hid (∃ F D, DkI v0 gd za (m + j) F D wr)) (fun i _ => wn - (intOf i).toNat)
  case atStart => exact ⟨0, by omega, by omega, rfl, hJ0⟩
  case round =>
  clear hJ0
  obtain ⟨j, hj, hj8, rfl, hJ⟩ := hrel
  obtain ⟨F3, D3, hI⟩ := unhide hJ
  clear hJ
  replace hI := hide hI
  by_cases hjz : j < wn
  · skip
    have jI : (j : Int) < (wn : Int) := by omega
    obtain ⟨p, o, rfl, hrw⟩ := (unhide hW0).at_ j hjz
    rw [getD_map wrv X j ZW [] (by rw [unhide hwl]; exact hjz)] at hrw
    obtain ⟨x, hx⟩ : ∃ x, x = X.getD j ZW := ⟨_, rfl⟩
    have hxo : x.Ok := by rw [hx]; exact unhide hX0 _ (mem_of_getD (by rw [unhide hwl]; exact hjz))
    rw [← hx] at hrw
    have hxw := wrv_len hxo
    have hxa := hxo.a1
    have hxb := hxo.a2
    have hxt := hxo.tb.1
    replace hrw := hide hrw; replace hxo := hide hxo
    clear hx
    have hB := Bl.nil wr
    replace hB := hide hB
    go_upto_region 12 with fail
    replace hB := unhide hB
    refine wp_region_lit ?_
    refine list_val (.int .i64 (j : Int)) (by kernel_rfl) (by kernel_rfl) ?_
    simp only [Act.put, List.setIfInBounds_toArray, List.set_cons_zero, List.set_cons_succ, List.getElem_toArray, List.getElem_cons_zero, List.getElem_cons_succ]
    refine list_val (.pointer (some ⟨p, o + 67 * j, none⟩)) (by kernel_rfl) (exec_iwt _ (.tmp 61) (.tmp 63) rfl p o wn wc j rfl rfl hjz) ?_
    simp only [Act.put, List.setIfInBounds_toArray, List.set_cons_zero, List.set_cons_succ, List.getElem_toArray, List.getElem_cons_zero, List.getElem_cons_succ]
    refine list_val (.agg (wrv x).toArray) (by kernel_rfl) (exec_row _ 57 (.tmp 66) rfl p (o + 67 * j) (by kernel_rfl) (wrv x) _ (range_gr (unhide hrw) (unhide hI).gr) Tryd.underlying57 rfl (by rw [Tryd.infoWt, hxw])) ?_
    simp only [Act.put, List.setIfInBounds_toArray, List.set_cons_zero, List.set_cons_succ, List.getElem_toArray, List.getElem_cons_zero, List.getElem_cons_succ]
    refine list_valw (.pointer (some ⟨wr.heap.size, 0, none⟩)) (wr.alloc (.cells ((wrv ZW).toArray) 57 (0, 0))) (by kernel_rfl) (by kernel_rfl) ?_
    replace hB := hB.new ((wrv ZW).toArray) 57
    simp only [List.nil_append, List.cons_append] at hB
    generalize World.alloc _ _ = y1 at *
    generalize wr.heap.size = gq at *
    replace hB : Bl wr [⟨gq, (wrv ZW).toArray, 57⟩] y1 := hB
    simp only [Act.put, List.setIfInBounds_toArray, List.set_cons_zero, List.set_cons_succ, List.getElem_toArray, List.getElem_cons_zero, List.getElem_cons_succ]
    (refine wpList_step fun K hK => ?_; replace hK := hide hK; go_simp; refine unhide hK _ _ ?_; clear hK K)
    refine list_store 57 (.tmp 8) (.tmp 67) (gq) ((wrv x).toArray) 57 ((wrv ZW).toArray) (by kernel_rfl) rfl (by kernel_rfl) (by kernel_rfl) (hB.get 0 (x := ⟨gq, (wrv ZW).toArray, 57⟩) rfl) (by rw [Tryd.infoWt, List.size_toArray, hxw]) (by rw [List.size_toArray, List.size_toArray, hxw]; rfl) (wrv_one _) ?_
    replace hB := hB.set 0 (x := ⟨gq, (wrv ZW).toArray, 57⟩) rfl ((wrv x).toArray)
    simp only [List.set_cons_zero, List.set_cons_succ] at hB
    generalize World.setRow _ _ _ = y2 at *
    replace hB : Bl wr [⟨gq, (wrv x).toArray, 57⟩] y2 := hB
    simp only [Act.put, List.setIfInBounds_toArray, List.set_cons_zero, List.set_cons_succ, List.getElem_toArray, List.getElem_cons_zero, List.getElem_cons_succ]
    refine wpList_nil ?_
    by_cases hj9 : j = 8
    · skip
      have hjI : (j : Int) = 8 := by omega
      replace hj9 := hide hj9
      replace hB := hide hB
      go_upto_region 13 with fail
      replace hB := unhide hB
      refine wp_region_lit ?_
      refine list_val (.int .i64 (j : Int)) (by kernel_rfl) (by kernel_rfl) ?_
      simp only [Act.put, List.setIfInBounds_toArray, List.set_cons_zero, List.set_cons_succ, List.getElem_toArray, List.getElem_cons_zero, List.getElem_cons_succ]
      refine list_val (.bool true) (by kernel_rfl) (by go_simp) ?_
      simp only [Act.put, List.setIfInBounds_toArray, List.set_cons_zero, List.set_cons_succ, List.getElem_toArray, List.getElem_cons_zero, List.getElem_cons_succ]
      refine wpList_nil ?_
      replace hI := hide ((unhide hI).more hB.gr)
      clear hB
      go_wp2_with fail
      exact unhide hQ j F3 D3 y2 (by omega) (unhide hI) _ _ _ _ _ _ _ _ _ _ _ _ _ _ _ _ _ _ _ _ _ _ _ _ _ _ _ _ _ _ _ _ _ _ _ _ _ _ _ _ _ _ _ _ _ _ _ _ _ _ _ _ _ _ _ _ _ _ _ _ _ _ _ _ _ _ _ _ _ _ _ _ _ _ _ _ _ _ _ _ _ _ _ _ _ _ _ _ _ _ _ _ _ _ _ _ _ _ _ _ _ _ _ _ _ _ _ _ _ _ _ _ _ _ _ _ _ _ _ _ _ _ _ _ _ _ _ _ _ _ _ _ _ _ _ _ _ _ _ _ _ _ _ _ _ _ _ _ _ _ _ _ _ _ _
    have hjI : ¬ (j : Int) = 8 := by omega
    replace hB := hide hB
    go_upto_region 13 with fail
    replace hB := unhide hB
    refine wp_region_lit ?_
    refine list_val (.int .i64 (j : Int)) (by kernel_rfl) (by kernel_rfl) ?_
    simp only [Act.put, List.setIfInBounds_toArray, List.set_cons_zero, List.set_cons_succ, List.getElem_toArray, List.getElem_cons_zero, List.getElem_cons_succ]
    refine list_val (.bool false) (by kernel_rfl) (by go_simp) ?_
    simp only [Act.put, List.setIfInBounds_toArray, List.set_cons_zero, List.set_cons_succ, List.getElem_toArray, List.getElem_cons_zero, List.getElem_cons_succ]
    refine wpList_nil ?_
    clear hjI
    obtain ⟨ca, cs, cc, cr⟩ := wrv_cells (unhide hxo) (hB.get 0 (x := ⟨gq, (wrv x).toArray, 57⟩) rfl)
    have hq_ : Hid (y2.heap[gq]? = some (.cells (wrv x).toArray 57 (0, 0))) := (hB.get 0 (x := ⟨gq, (wrv x).toArray, 57⟩) rfl)
    replace hI := hide ((unhide hI).more hB.gr)
    clear hB ca cs cc cr
    have hB := Bl.nil y2
    obtain ⟨qb, hqb⟩ : ∃ q : Int, q = (if x.at_ < 0 then 0 else x.at_) := ⟨_, rfl⟩
    have pb : 0 ≤ qb := by rw [hqb]; split <;> omega
    obtain ⟨tb, htb⟩ : ∃ t : Int, t = qb % 40 := ⟨_, rfl⟩
    have rb : 0 ≤ tb ∧ tb < 40 := by omega
    have etb : qb.tmod 40 = tb := by rw [Int.tmod_eq_emod_of_nonneg pb, htb]
    have ewb : IntKind.i64.wrap tb = tb := by rw [IntKind.wrap_i64]; omega
    obtain ⟨zb, hzb⟩ : ∃ z : Nat, (z : Int) = 0 + tb := ⟨(0 + tb).toNat, by omega⟩
    have exb : IntKind.i64.wrap (0 + tb) = (zb : Int) := by rw [IntKind.wrap_i64]; omega
    have bzb : 0 ≤ zb ∧ zb < 0 + 40 := by omega
    replace hqb := hide hqb; replace htb := hide htb; replace hzb := hide hzb
    skip
    replace hB := hide hB
    go_upto_region 14 with fail
    replace hB := unhide hB
    refine wp_region_lit ?_
    refine list_val (.pointer (some ⟨gq, 0, none⟩)) (by kernel_rfl) (by kernel_rfl) ?_
    simp only [Act.put, List.setIfInBounds_toArray, List.set_cons_zero, List.set_cons_succ, List.getElem_toArray, List.getElem_cons_zero, List.getElem_cons_succ]
    refine list_val (.int .i64 x.at_) (by kernel_rfl) (exec_i64 _ (.tmp 70) rfl gq 0 (by kernel_rfl) _ (wrv_cells (unhide hxo) (hB.gr.blk (unhide hq_))).1) ?_
    simp only [Act.put, List.setIfInBounds_toArray, List.set_cons_zero, List.set_cons_succ, List.getElem_toArray, List.getElem_cons_zero, List.getElem_cons_succ]
    refine list_val (.int .i64 qb) (by kernel_rfl) (by have hmx := unhide hqb; go_simp) ?_
    simp only [Act.put, List.setIfInBounds_toArray, List.set_cons_zero, List.set_cons_succ, List.getElem_toArray, List.getElem_cons_zero, List.getElem_cons_succ]
    refine list_val (.int .i64 (zb : Int)) (by kernel_rfl) (by have h9 := unhide hzb; go_simp) ?_
    simp only [Act.put, List.setIfInBounds_toArray, List.set_cons_zero, List.set_cons_succ, List.getElem_toArray, List.getElem_cons_zero, List.getElem_cons_succ]
    (refine wpList_step fun K hK => ?_; replace hK := hide hK; go_simp; refine unhide hK _ _ ?_; clear hK K)
    refine wpList_nil ?_
    replace hB := hide hB
    go_upto_region 15 with fail
    replace hB := unhide hB
    refine wp_region_lit ?_
    refine list_val (.pointer (some ⟨gd, 0, none⟩)) (by kernel_rfl) (by kernel_rfl) ?_
    simp only [Act.put, List.setIfInBounds_toArray, List.set_cons_zero, List.set_cons_succ, List.getElem_toArray, List.getElem_cons_zero, List.getElem_cons_succ]
    refine list_val (.int .i64 (zb : Int)) (by kernel_rfl) (by kernel_rfl) ?_
    simp only [Act.put, List.setIfInBounds_toArray, List.set_cons_zero, List.set_cons_succ, List.getElem_toArray, List.getElem_cons_zero, List.getElem_cons_succ]
    refine list_call 24 #[P0 gd, .int .i64 (zb : Int)] (by kernel_rfl) (by kernel_rfl) ((dread_ok F3 gd _ D3 (unhide hI).ok (by omega) (zb : Int) _ ((unhide hI).ls.gr hB.gr)).mono ?_)
    rintro r y3 ⟨rfl, hg⟩
    have hrb := Dk.readB_bb (unhide hI).ok (zb : Int)
    generalize D3.readB (zb : Int) = rb at *
    generalize D3.readE (zb : Int) = re at *
    have hrl := hrb.1
    replace hrb := hide hrb
    replace hB := hB.more hg
    clear hg
    refine ⟨_, rfl, ?_⟩
    simp only [Act.put, List.setIfInBounds_toArray, List.set_cons_zero, List.set_cons_succ, List.getElem_toArray, List.getElem_cons_zero, List.getElem_cons_succ]
    refine list_val (.tuple #[.agg (kc rb), .int .i64 re]) (by kernel_rfl) (by kernel_rfl) ?_
    simp only [Act.put, List.setIfInBounds_toArray, List.set_cons_zero, List.set_cons_succ, List.getElem_toArray, List.getElem_cons_zero, List.getElem_cons_succ]
    refine list_val (.agg (kc rb)) (by kernel_rfl) (by kernel_rfl) ?_
    simp only [Act.put, List.setIfInBounds_toArray, List.set_cons_zero, List.set_cons_succ, List.getElem_toArray, List.getElem_cons_zero, List.getElem_cons_succ]
    refine list_val (.int .i64 re) (by kernel_rfl) (by kernel_rfl) ?_
    simp only [Act.put, List.setIfInBounds_toArray, List.set_cons_zero, List.set_cons_succ, List.getElem_toArray, List.getElem_cons_zero, List.getElem_cons_succ]
    refine list_valw (.pointer (some ⟨y3.heap.size, 0, none⟩)) (y3.alloc (.cells (kc ZB) 50 (0, 0))) (by kernel_rfl) (by kernel_rfl) ?_
    replace hB := hB.new (kc ZB) 50
    simp only [List.nil_append, List.cons_append] at hB
    generalize World.alloc _ _ = y4 at *
    generalize y3.heap.size = gk at *
    replace hB : Bl y2 [⟨gk, kc ZB, 50⟩] y4 := hB
    simp only [Act.put, List.setIfInBounds_toArray, List.set_cons_zero, List.set_cons_succ, List.getElem_toArray, List.getElem_cons_zero, List.getElem_cons_succ]
    refine list_store 50 (.tmp 10) (.tmp 78) (gk) (kc rb) 50 (kc ZB) (by kernel_rfl) rfl (by kernel_rfl) (by kernel_rfl) (hB.get 0 (x := ⟨gk, kc ZB, 50⟩) rfl) (by rw [Tryd.infoB, kc_size, hrl]) ((show (kc ZB).size = 64 from rfl).trans ((kc_size _).trans hrl).symm) (kc_one _) ?_
    replace hB := hB.set 0 (x := ⟨gk, kc ZB, 50⟩) rfl (kc rb)
    simp only [List.set_cons_zero, List.set_cons_succ] at hB
    generalize World.setRow _ _ _ = y5 at *
    replace hB : Bl y2 [⟨gk, kc rb, 50⟩] y5 := hB
    simp only [Act.put, List.setIfInBounds_toArray, List.set_cons_zero, List.set_cons_succ, List.getElem_toArray, List.getElem_cons_zero, List.getElem_cons_succ]
    (refine wpList_step fun K hK => ?_; replace hK := hide hK; go_simp; refine unhide hK _ _ ?_; clear hK K)
    refine wpList_nil ?_
    replace hB := hide hB
    go_upto_region 16 with fail
    replace hB := unhide hB
    refine wp_region_lit ?_
    refine list_val (.pointer (some ⟨gq, 1, none⟩)) (by kernel_rfl) (by kernel_rfl) ?_
    simp only [Act.put, List.setIfInBounds_toArray, List.set_cons_zero, List.set_cons_succ, List.getElem_toArray, List.getElem_cons_zero, List.getElem_cons_succ]
    refine list_val (.agg (kc x.turn)) (by kernel_rfl) (exec_row _ 50 (.tmp 80) rfl gq 1 (by kernel_rfl) (bv x.turn) _ (wrv_cells (unhide hxo) (hB.gr.blk (unhide hq_))).2.2.2 Tryd.underlying50 rfl (by rw [Tryd.infoB, bv_len, hxt])) ?_
    simp only [Act.put, List.setIfInBounds_toArray, List.set_cons_zero, List.set_cons_succ, List.getElem_toArray, List.getElem_cons_zero, List.getElem_cons_succ]
    refine list_val (.int .i64 0) (by kernel_rfl) (by kernel_rfl) ?_
    simp only [Act.put, List.setIfInBounds_toArray, List.set_cons_zero, List.set_cons_succ, List.getElem_toArray, List.getElem_cons_zero, List.getElem_cons_succ]
    refine wpList_nil ?_
    have hJ1 : Hid (∃ bl, BB bl ∧ Bl y2 [⟨gk, kc bl, 50⟩] y5) := ⟨rb, unhide hrb, hB⟩
    clear hB hrb hrl
    go_wp2_with fail
    go_loopw [82] (fun i wr => ∃ k : Nat, k ≤ 64 ∧ i = .int .i64 (k : Int) ∧ Hid (∃ bl, BB bl ∧ Bl y2 [⟨gk, kc bl, 50⟩] wr)) (fun i _ => 64 - (intOf i).toNat)
    case atStart => exact ⟨0, by omega, rfl, hJ1⟩
    case round =>
    clear hJ1
    obtain ⟨k, hk, rfl, hJ⟩ := hrel
    obtain ⟨bl, hbl, hB⟩ := unhide hJ
    clear hJ
    have hbll := hbl.1
    by_cases hk6 : k < 64
    · skip
      have kI : (k : Int) < 64 := by omega
      obtain ⟨tv, htv⟩ : ∃ v, v = x.turn.getD k 0 := ⟨_, rfl⟩
      obtain ⟨bv9, hbv⟩ : ∃ v, v = bl.getD k 0 := ⟨_, rfl⟩
      obtain ⟨xv, hxv⟩ : ∃ v, v = xb bv9 tv := ⟨_, rfl⟩
      have hxr := xb_rng bv9 tv
      rw [← hxv] at hxr
      replace htv := hide htv; replace hbv := hide hbv; replace hxv := hide hxv; replace hbl := hide hbl
      replace hB := hide hB
      go_upto_region 18 with fail
      replace hB := unhide hB
      refine wp_region_lit ?_
      refine list_val (.int .i64 (k : Int)) (by kernel_rfl) (by kernel_rfl) ?_
      simp only [Act.put, List.setIfInBounds_toArray, List.set_cons_zero, List.set_cons_succ, List.getElem_toArray, List.getElem_cons_zero, List.getElem_cons_succ]
      refine list_val (.int .u8 tv) (by kernel_rfl) (exec_ixb _ (.tmp 81) (.tmp 82) rfl x.turn hxt k hk6 tv (unhide htv) (by kernel_rfl) (by kernel_rfl)) ?_
      simp only [Act.put, List.setIfInBounds_toArray, List.set_cons_zero, List.set_cons_succ, List.getElem_toArray, List.getElem_cons_zero, List.getElem_cons_succ]
      (refine wpList_step fun K hK => ?_; replace hK := hide hK; go_simp; refine unhide hK _ _ ?_; clear hK K)
      (refine wpList_step fun K hK => ?_; replace hK := hide hK; go_simp; refine unhide hK _ _ ?_; clear hK K)
      refine wpList_nil ?_
      replace hB := hide hB
      go_upto_region 19 with fail
      replace hB := unhide hB
      refine wp_region_lit ?_
      refine list_val (.int .i64 (k : Int)) (by kernel_rfl) (by kernel_rfl) ?_
      simp only [Act.put, List.setIfInBounds_toArray, List.set_cons_zero, List.set_cons_succ, List.getElem_toArray, List.getElem_cons_zero, List.getElem_cons_succ]
      refine list_val (.pointer (some ⟨gk, k, none⟩)) (by kernel_rfl) (by go_simp) ?_
      simp only [Act.put, List.setIfInBounds_toArray, List.set_cons_zero, List.set_cons_succ, List.getElem_toArray, List.getElem_cons_zero, List.getElem_cons_succ]
      refine list_val (.int .u8 bv9) (by kernel_rfl) (exec_b _ (.tmp 87) rfl gk k (by kernel_rfl) _ (by rw [unhide hbv]; exact kc_cell (hB.get 0 (x := ⟨gk, kc bl, 50⟩) rfl) k (by omega))) ?_
      simp only [Act.put, List.setIfInBounds_toArray, List.set_cons_zero, List.set_cons_succ, List.getElem_toArray, List.getElem_cons_zero, List.getElem_cons_succ]
      refine list_val (.int .u8 tv) (by kernel_rfl) (by kernel_rfl) ?_
      simp only [Act.put, List.setIfInBounds_toArray, List.set_cons_zero, List.set_cons_succ, List.getElem_toArray, List.getElem_cons_zero, List.getElem_cons_succ]
      refine list_val (.int .u8 xv) (by kernel_rfl) (by rw [unhide hxv]; kernel_rfl) ?_
      simp only [Act.put, List.setIfInBounds_toArray, List.set_cons_zero, List.set_cons_succ, List.getElem_toArray, List.getElem_cons_zero, List.getElem_cons_succ]
      refine list_val (.pointer (some ⟨gk, k, none⟩)) (by kernel_rfl) (by go_simp) ?_
      simp only [Act.put, List.setIfInBounds_toArray, List.set_cons_zero, List.set_cons_succ, List.getElem_toArray, List.getElem_cons_zero, List.getElem_cons_succ]
      have c4 := cell_of (hB.get 0 (x := ⟨gk, kc bl, 50⟩) rfl) (i := k) (kc_get bl k (by omega))
      have fz := froz_of (i := k) (hB.get 0 (x := ⟨gk, kc bl, 50⟩) rfl)
      have hB2 := hB.cell 0 (x := ⟨gk, kc bl, 50⟩) rfl k (.int .u8 xv)
      simp only [List.set_cons_zero, List.set_cons_succ, kc_set] at hB2
      clear hB
      replace hB2 := hide hB2
      dsimp only at c4 fz
      (refine wpList_step fun K hK => ?_; replace hK := hide hK; go_simp; refine unhide hK _ _ ?_; clear hK K)
      clear c4 fz
      generalize World.setCell _ _ _ = y9 at *
      refine wpList_nil ?_
      have hJ2 : Hid (∃ bl, BB bl ∧ Bl y2 [⟨gk, kc bl, 50⟩] y9) := ⟨bl.set k xv, ⟨by rw [List.length_set]; exact hbll, set_isB (unhide hbl).2 k xv hxr⟩, unhide hB2⟩
      clear hB2 hbl hxr
      go_wp2_with fail
      go_roundw
      case rel => exact ⟨k + 1, by omega, by go_num, hJ2⟩
      case measure => simp [intOf]; omega
    have kI : ¬ (k : Int) < 64 := by omega
    replace hbl := hide hbl
    replace hB := hide hB
    go_upto_region 21 with fail
    replace hB := unhide hB
    cases hsu : x.sup
    · skip
      replace hsu := hide hsu
      refine wp_region_lit ?_
      refine list_val (.pointer (some ⟨gq, 65, none⟩)) (by kernel_rfl) (by kernel_rfl) ?_
      simp only [Act.put, List.setIfInBounds_toArray, List.set_cons_zero, List.set_cons_succ, List.getElem_toArray, List.getElem_cons_zero, List.getElem_cons_succ]
      refine list_val (.bool false) (by kernel_rfl) (exec_bool _ (.tmp 93) rfl gq 65 (by kernel_rfl) false (by have h9 := (wrv_cells (unhide hxo) (hB.gr.blk (unhide hq_))).2.1; rw [unhide hsu] at h9; exact h9)) ?_
      simp only [Act.put, List.setIfInBounds_toArray, List.set_cons_zero, List.set_cons_succ, List.getElem_toArray, List.getElem_cons_zero, List.getElem_cons_succ]
      refine wpList_nil ?_
      replace hB := hide hB
      go_upto_region 24 with fail
      replace hB := unhide hB
      refine wp_region_lit ?_
      refine list_val (.pointer (some ⟨gd, 0, none⟩)) (by kernel_rfl) (by kernel_rfl) ?_
      simp only [Act.put, List.setIfInBounds_toArray, List.set_cons_zero, List.set_cons_succ, List.getElem_toArray, List.getElem_cons_zero, List.getElem_cons_succ]
      refine list_val (.int .i64 (zb : Int)) (by kernel_rfl) (by kernel_rfl) ?_
      simp only [Act.put, List.setIfInBounds_toArray, List.set_cons_zero, List.set_cons_succ, List.getElem_toArray, List.getElem_cons_zero, List.getElem_cons_succ]
      refine list_val (.agg (kc bl)) (by kernel_rfl) (exec_arr _ 50 (.tmp 10) rfl gk (by kernel_rfl) (kc bl) 50 _ (hB.get 0 (x := ⟨gk, kc bl, 50⟩) rfl) Tryd.underlying50 rfl (by rw [Tryd.infoB, kc_size, hbll])) ?_
      simp only [Act.put, List.setIfInBounds_toArray, List.set_cons_zero, List.set_cons_succ, List.getElem_toArray, List.getElem_cons_zero, List.getElem_cons_succ]
      refine list_call 25 #[P0 gd, .int .i64 (zb : Int), .agg (kc bl)] (by kernel_rfl) (by kernel_rfl) ((dwrite_ok F3 gd _ D3 (unhide hI).ok (by omega) (zb : Int) bl (unhide hbl) _ ((unhide hI).ls.gr hB.gr)).mono ?_)
      rintro r y12 ⟨F4, rfl, hL4, hc4⟩
      have hJ3 : Hid (∃ F D, DkI v0 gd za (m + (j + 1)) F D y12) := ⟨F4, _, ((unhide hI).more hB.gr).write zb (by omega) bl (unhide hbl) hL4 hc4⟩
      generalize D3.writeE (zb : Int) = we at *
      clear hB hL4 hc4 hI
      refine ⟨_, rfl, ?_⟩
      simp only [Act.put, List.setIfInBounds_toArray, List.set_cons_zero, List.set_cons_succ, List.getElem_toArray, List.getElem_cons_zero, List.getElem_cons_succ]
      refine wpList_nil ?_
      go_wp2_with fail
      go_roundw
      case rel => exact ⟨j + 1, by omega, by omega, by go_num, hJ3⟩
      case measure => simp [intOf]; omega
    replace hsu := hide hsu
    refine wp_region_lit ?_
    refine list_val (.pointer (some ⟨gq, 65, none⟩)) (by kernel_rfl) (by kernel_rfl) ?_
    simp only [Act.put, List.setIfInBounds_toArray, List.set_cons_zero, List.set_cons_succ, List.getElem_toArray, List.getElem_cons_zero, List.getElem_cons_succ]
    refine list_val (.bool true) (by kernel_rfl) (exec_bool _ (.tmp 93) rfl gq 65 (by kernel_rfl) true (by have h9 := (wrv_cells (unhide hxo) (hB.gr.blk (unhide hq_))).2.1; rw [unhide hsu] at h9; exact h9)) ?_
    simp only [Act.put, List.setIfInBounds_toArray, List.set_cons_zero, List.set_cons_succ, List.getElem_toArray, List.getElem_cons_zero, List.getElem_cons_succ]
    refine wpList_nil ?_
    obtain ⟨p1, hp1, ep1⟩ := and_one x.at_
    obtain ⟨p2, hp2, ep2⟩ := and_one (zb : Int)
    have hc1 := (unhide hxo).c1
    have hc2 := (unhide hxo).c2
    obtain ⟨tn, htn⟩ := Int.eq_ofNat_of_zero_le hc1
    have htn2 : tn < 18446744073709551616 := by omega
    have hsn : sn ≤ 170000000000000 := by omega
    replace htn := hide htn; replace ep1 := hide ep1; replace ep2 := hide ep2
    clear hc1 hc2
    replace hB := hide hB
    go_upto_region 22 with fail
    replace hB := unhide hB
    refine wp_region_lit ?_
    refine list_val (.pointer (some ⟨gq, 0, none⟩)) (by kernel_rfl) (by kernel_rfl) ?_
    simp only [Act.put, List.setIfInBounds_toArray, List.set_cons_zero, List.set_cons_succ, List.getElem_toArray, List.getElem_cons_zero, List.getElem_cons_succ]
    refine list_val (.int .i64 x.at_) (by kernel_rfl) (exec_i64 _ (.tmp 95) rfl gq 0 (by kernel_rfl) _ (wrv_cells (unhide hxo) (hB.gr.blk (unhide hq_))).1) ?_
    simp only [Act.put, List.setIfInBounds_toArray, List.set_cons_zero, List.set_cons_succ, List.getElem_toArray, List.getElem_cons_zero, List.getElem_cons_succ]
    refine list_val (.int .i64 (p1 : Int)) (by kernel_rfl) (by have h9 := unhide ep1; go_simp) ?_
    simp only [Act.put, List.setIfInBounds_toArray, List.set_cons_zero, List.set_cons_succ, List.getElem_toArray, List.getElem_cons_zero, List.getElem_cons_succ]
    refine list_val (.pointer (some ⟨gq, 66, none⟩)) (by kernel_rfl) (by kernel_rfl) ?_
    simp only [Act.put, List.setIfInBounds_toArray, List.set_cons_zero, List.set_cons_succ, List.getElem_toArray, List.getElem_cons_zero, List.getElem_cons_succ]
    refine list_val (.int .u64 (tn : Int)) (by kernel_rfl) (exec_u64 _ (.tmp 98) rfl gq 66 (by kernel_rfl) _ (by have h9 := (wrv_cells (unhide hxo) (hB.gr.blk (unhide hq_))).2.2.1; rw [unhide htn] at h9; exact h9)) ?_
    simp only [Act.put, List.setIfInBounds_toArray, List.set_cons_zero, List.set_cons_succ, List.getElem_toArray, List.getElem_cons_zero, List.getElem_cons_succ]
    refine list_val (.pointer (some ⟨w.heap.size, 2, none⟩)) (by kernel_rfl) (by kernel_rfl) ?_
    simp only [Act.put, List.setIfInBounds_toArray, List.set_cons_zero, List.set_cons_succ, List.getElem_toArray, List.getElem_cons_zero, List.getElem_cons_succ]
    refine list_val (.slice sa sn sc) (by kernel_rfl) (exec_sby _ (.tmp 100) rfl (w.heap.size) 2 (by kernel_rfl) sa sn sc (cell_of ((((unhide hI).gr.trans hB.gr)).blk (unhide hgw)) (i := 2) rfl)) ?_
    simp only [Act.put, List.setIfInBounds_toArray, List.set_cons_zero, List.set_cons_succ, List.getElem_toArray, List.getElem_cons_zero, List.getElem_cons_succ]
    refine list_call 22 #[.int .i64 (p1 : Int), .int .u64 (tn : Int), .slice sa sn sc] (by kernel_rfl) (by kernel_rfl) ((rblock_ok p1 tn hp1 htn2 S sa sn sc _ ((unhide hS0).gr ((unhide hI).gr.trans hB.gr)) hsn).mono ?_)
    rintro r y10 ⟨rfl, hg⟩
    have hkb := blk_bb3 p1 tn sn S hp1
    generalize Sup.blk ⟨p1, tn, sn, sh16 S⟩ = kb at *
    have hkl := hkb.1
    replace hkb := hide hkb
    replace hB := hB.more hg
    clear hg
    refine ⟨_, rfl, ?_⟩
    simp only [Act.put, List.setIfInBounds_toArray, List.set_cons_zero, List.set_cons_succ, List.getElem_toArray, List.getElem_cons_zero, List.getElem_cons_succ]
    refine list_store 50 (.tmp 10) (.tmp 102) (gk) (kc kb) 50 (kc bl) (by kernel_rfl) rfl (by kernel_rfl) (by kernel_rfl) (hB.get 0 (x := ⟨gk, kc bl, 50⟩) rfl) (by rw [Tryd.infoB, kc_size, hkl]) (((kc_size _).trans hbll).trans ((kc_size _).trans hkl).symm) (kc_one _) ?_
    replace hB := hB.set 0 (x := ⟨gk, kc bl, 50⟩) rfl (kc kb)
    simp only [List.set_cons_zero, List.set_cons_succ] at hB
    generalize World.setRow _ _ _ = y11 at *
    replace hB : Bl y2 [⟨gk, kc kb, 50⟩] y11 := hB
    simp only [Act.put, List.setIfInBounds_toArray, List.set_cons_zero, List.set_cons_succ, List.getElem_toArray, List.getElem_cons_zero, List.getElem_cons_succ]
    refine wpList_nil ?_
    replace hB := hide hB
    go_upto_region 23 with fail
    replace hB := unhide hB
    refine wp_region_lit ?_
    refine list_val (.int .i64 (zb : Int)) (by kernel_rfl) (by kernel_rfl) ?_
    simp only [Act.put, List.setIfInBounds_toArray, List.set_cons_zero, List.set_cons_succ, List.getElem_toArray, List.getElem_cons_zero, List.getElem_cons_succ]
    refine list_val (.int .i64 (p2 : Int)) (by kernel_rfl) (by have h9 := unhide ep2; go_simp) ?_
    simp only [Act.put, List.setIfInBounds_toArray, List.set_cons_zero, List.set_cons_succ, List.getElem_toArray, List.getElem_cons_zero, List.getElem_cons_succ]
    (refine wpList_step fun K hK => ?_; replace hK := hide hK; go_simp; refine unhide hK _ _ ?_; clear hK K)
    refine wpList_nil ?_
    replace hB := hide hB
    go_upto_region 24 with fail
    replace hB := unhide hB
    refine wp_region_lit ?_
    refine list_val (.pointer (some ⟨gd, 0, none⟩)) (by kernel_rfl) (by kernel_rfl) ?_
    simp only [Act.put, List.setIfInBounds_toArray, List.set_cons_zero, List.set_cons_succ, List.getElem_toArray, List.getElem_cons_zero, List.getElem_cons_succ]
    refine list_val (.int .i64 (p2 : Int)) (by kernel_rfl) (by kernel_rfl) ?_
    simp only [Act.put, List.setIfInBounds_toArray, List.set_cons_zero, List.set_cons_succ, List.getElem_toArray, List.getElem_cons_zero, List.getElem_cons_succ]
    refine list_val (.agg (kc kb)) (by kernel_rfl) (exec_arr _ 50 (.tmp 10) rfl gk (by kernel_rfl) (kc kb) 50 _ (hB.get 0 (x := ⟨gk, kc kb, 50⟩) rfl) Tryd.underlying50 rfl (by rw [Tryd.infoB, kc_size, hkl])) ?_
    simp only [Act.put, List.setIfInBounds_toArray, List.set_cons_zero, List.set_cons_succ, List.getElem_toArray, List.getElem_cons_zero, List.getElem_cons_succ]
    refine list_call 25 #[P0 gd, .int .i64 (p2 : Int), .agg (kc kb)] (by kernel_rfl) (by kernel_rfl) ((dwrite_ok F3 gd _ D3 (unhide hI).ok (by omega) (p2 : Int) kb (unhide hkb) _ ((unhide hI).ls.gr hB.gr)).mono ?_)
    rintro r y12 ⟨F4, rfl, hL4, hc4⟩
    have hJ3 : Hid (∃ F D, DkI v0 gd za (m + (j + 1)) F D y12) := ⟨F4, _, ((unhide hI).more hB.gr).write p2 (by omega) kb (unhide hkb) hL4 hc4⟩
    generalize D3.writeE (p2 : Int) = we at *
    clear hB hL4 hc4 hI
    refine ⟨_, rfl, ?_⟩
    simp only [Act.put, List.setIfInBounds_toArray, List.set_cons_zero, List.set_cons_succ, List.getElem_toArray, List.getElem_cons_zero, List.getElem_cons_succ]
    refine wpList_nil ?_
    go_wp2_with fail
    go_roundw
    case rel => exact ⟨j + 1, by omega, by omega, by go_num, hJ3⟩
    case measure => simp [intOf]; omega
  have jI : ¬ (j : Int) < (wn : Int) := by omega
  go_wp2_with fail
  exact unhide hQ j F3 D3 wr (by omega) (unhide hI) _ _ _ _ _ _ _ _ _ _ _ _ _ _ _ _ _ _ _ _ _ _ _ _ _ _ _ _ _ _ _ _ _ _ _ _ _ _ _ _ _ _ _ _ _ _ _ _ _ _ _ _ _ _ _ _ _ _ _ _ _ _ _ _ _ _ _ _ _ _ _ _ _ _ _ _ _ _ _ _ _ _ _ _ _ _ _ _ _ _ _ _ _ _ _ _ _ _ _ _ _ _ _ _ _ _ _ _ _ _ _ _ _ _ _ _ _ _ _ _ _ _ _ _ _ _ _ _ _ _ _ _ _ _ _ _ _ _ _ _ _ _ _ _ _ _ _ _ _ _ _ _ _ _ _
end Go.Proofs.YtomihjeiaignnaaDoor
