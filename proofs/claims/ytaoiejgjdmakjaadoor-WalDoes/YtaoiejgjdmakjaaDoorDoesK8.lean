/-
  Of layer 12: what the proof leans on.
-/
import Derived.ProofKit
import Derived.OpenShut
import Derived.SizedLaws
import Derived.Deep.Strs
import Derived.Deep.Grids
import Derived.Lib.SmallJoins
import Derived.Test.YtaoiejgjdmakjaaDoorDoesK7
namespace Go.Proofs.YtaoiejgjdmakjaaDoor
open Go.RowKit
set_option maxRecDepth 100000
set_option linter.unusedSimpArgs false
set_option linter.unusedVariables false
theorem run_append_zeros (w : World) (ty : TypeId) (b : Addr) (olds : List Value) (hlo : olds.length = 64) (holds : ∀ j v, olds[j]? = some v → w.cell? (b.add j) = some v) :
    (Builtin.append_ #[32, 3] ty #[.slice (some b) 64 64, .int .i64 64]).run Tryd.prog w =
      .ok (.slice (some ⟨w.heap.size, 0, none⟩) 128 (grownCap w 128 64 5))
        (w.drew.alloc (.cells (olds.toArray ++ Builtin.zeroCells (Value.int .u8 0).cells 64 ++ Builtin.zeroCells (Value.int .u8 0).cells (grownCap w 128 64 5 - 128)) 5)) := by
  obtain ⟨i0, hi, hz0, hz1, hz2⟩ := info_parts Tryd.info5
  have hfo := run_firstCells_some (P := Tryd.prog) w.drew i0.size 64 b 64 64 olds (by rw [hlo, hz1]) (by simpa using holds)
  rw [hz1] at hfo
  have hfit : ¬ (281474976710656 < Builtin.nextslicecap 128 64) := by decide
  simp [Builtin.append_, run_underlying Tryd.underlying32, run_underlying Tryd.underlying3, sizeOf, typeInfo, zeroValue, hi, hz0, hz1, hz2, asInt, asIntOf, IntKind.wrap_i64, Question.forced, hfo, newRow, grownCap, hfit]
  intro h
  exfalso
  omega
theorem zero64 : Builtin.zeroCells (Value.int .u8 0).cells 64 = kc ZB := by kernel_rfl
theorem app_zeros {w : World} {ops : Array Oper} {rest : List Oper} {o : Oper} {a : Act} {Q : Exit → Act → World → Prop} (hw : Region.wanted o (yielded ops a.tmps) = true) (s : Operand)
    (ho : o.op = .call { callee := .builtin .append, args := #[s, .const (.int .i64 64)], argTypes := #[32, 3] }) (g : Nat) (B : List Int) (hB : BB B) (hs : a.eval s = .slice (some ⟨g, 0, none⟩) 64 64) (hat : At w g 0 B)
    (h : ∀ a' c' w', Lb w' a' 128 c' (B ++ ZB) → (∀ i, blkOf a' = some i → w.heap.size ≤ i) → Gr w w' → wpList Tryd.prog ops Q rest (a.put o.dst (.slice a' 128 c')) w') :
    wpList Tryd.prog ops Q (o :: rest) a w := by
  have hl := hB.1
  rw [wpList, if_pos hw]
  refine Or.inl ?_
  have hold : ∀ j v, (B.map (Value.int .u8))[j]? = some v → w.cell? ((⟨g, 0, none⟩ : Addr).add j) = some v := by
    intro j v hj
    have hjl : j < B.length := by have := (List.getElem?_eq_some_iff.1 hj).1; simpa using this
    rw [Addr.add_mid, hat j hjl]
    simp [hjl] at hj ⊢
    exact hj
  have hrun := run_append_zeros w o.type ⟨g, 0, none⟩ (B.map (Value.int .u8)) (by rw [List.length_map, hl]) hold
  have hcm := grownCap_le_maxLen w 128 64 5 (by unfold maxLen; omega)
  have hcg := grownCap_ge w 128 64 5
  have hev : a.eval (.const (.int .i64 64)) = .int .i64 64 := rfl
  unfold Oper.wp
  simp only [execOp, ho, resolve, invoke, builtin, Sem.run_bind, Sem.run_pure, Result.andThen_ok, List.map_toArray, List.map_cons, List.map_nil, hs, hev, hrun]
  refine h _ _ _ ⟨by rw [List.length_append, hl]; rfl, isB_app hB.2 ZB_bb.2, .inr ⟨_, 0, rfl, fun j hj => ?_⟩, hcg, by unfold maxLen at hcm; omega⟩ (fun i hi => ?_) ((Gr.refl w).drew.alloc _)
  · rw [List.length_append, hl, ZB_len] at hj
    rw [Nat.zero_add]
    refine cell_of (blk_new w.drew _) ?_
    rw [zero64, Array.getElem?_append_left (by simp [kc_size, hl, ZB_len]; omega)]
    unfold kc
    rw [List.append_toArray, List.getElem?_toArray, ← List.map_append, List.getElem?_map, List.getElem?_eq_getElem (by rw [List.length_append, hl, ZB_len]; exact hj)]
    simp [List.getD_eq_getElem?_getD, List.getElem?_eq_getElem (show j < (B ++ ZB).length from by rw [List.length_append, hl, ZB_len]; exact hj)]
  · have e : w.heap.size = i := Option.some.inj hi
    omega
theorem fmt_lay : fmtOps = layOps 0 (sup0.blk ++ ZB) := by
  have hb := (blk_bb sup0_ok).1
  unfold fmtOps
  generalize sup0.blk = bk at *
  have hl : (bk ++ ZB).length = 128 := by rw [List.length_append, hb]; rfl
  have e : wrs 0 (bk ++ ZB) 2 = [(0, chk (bk ++ ZB) 0), (1, chk (bk ++ ZB) 1)] := rfl
  have e0 : chk (bk ++ ZB) 0 = bk := by
    unfold chk
    rw [Nat.mul_zero, List.drop_zero, take_app bk ZB 64 hb, hb, Nat.sub_self, List.replicate_zero, List.append_nil]
  have e1 : chk (bk ++ ZB) 1 = ZB := by
    unfold chk
    have h1 : (bk ++ ZB).drop (64 * 1) = ZB := by
      have h := drop_app bk ZB 64 0 hb
      exact h
    rw [h1, List.take_of_length_le (by rw [ZB_len]; omega), ZB_len, Nat.sub_self, List.replicate_zero, List.append_nil]
  unfold layOps
  rw [hl, show (128 + 63) / 64 = 2 from rfl, e, e0, e1]
  rfl
def Fmt (F : List Nat) (gd : Nat) (D : Dk) (w : World) (r : Ending) (w' : World) : Prop := ∃ g F' G, r = .returned (.tuple #[P0 g, .int .i64 0]) ∧ Lies F' gd (Dk.runD fmtOps D).1 w' ∧ Sto G g gd D.safe.length sup0 w' ∧ (∀ i ∈ G, w.heap.size ≤ i) ∧ (∀ i ∈ F', i ∉ G) ∧ Chg F F' w w'
set_option maxHeartbeats 4000000 in
theorem eformat_ok (F : List Nat) (gd m : Nat) (D : Dk) (hD : D.Ok m) (hm : m ≤ 900000) (hd : D.dead = false) (hl : D.left = -1) (hn : 64 ≤ D.safe.length) (w : World) (hL : Lies F gd D w) (hf : Fst w) (h0 : 0 ∉ F) : Calls Tryd.prog 30 #[P0 gd] w (Fmt F gd D w) := by
  obtain ⟨T, hT⟩ : ∃ T, T = Fmt F gd D w := ⟨_, rfl⟩
  rw [← hT]
  replace hT := hide hT
  have h512 := hD.hi1
  obtain ⟨hz, -, hsz, -, -⟩ := fmt_all hD hd hl hn
  have hFl := hL.lt
  have hkb := blk_bb sup0_ok
  have hfl := fmt_lay
  have he0 : (⟨0, 0, 0, sh16 []⟩ : Sup) = sup0 := by simp only [sup0]
  obtain ⟨bk, hbk⟩ : ∃ x, x = sup0.blk := ⟨_, rfl⟩
  rw [← hbk] at hkb hfl
  have hkl := hkb.1
  have hok0 := sup0_ok
  have h0l := hok0.hl
  obtain ⟨h, lg, sl, hh, hlg, hsl, hq⟩ := stN_is D.safe.length gd
  replace hL := hide hL; replace hD := hide hD; replace hf := hide hf; replace hz := hide hz; replace hsz := hide hsz; replace hFl := hide hFl; replace hkb := hide hkb; replace hfl := hide hfl; replace he0 := hide he0; replace hbk := hide hbk; replace hok0 := hide hok0; replace hq := hide hq
  clear hh hlg hsl
  go_enter Tryd.func30, Tryd.ntmps30
  go_upto_region 1 with fail
  have hB := Bl.nil w
  refine wp_region_lit ?_
  refine list_val (.pointer (some ⟨gd, 0, none⟩)) (by kernel_rfl) (by kernel_rfl) ?_
  simp only [nrm]
  refine list_call 48 #[P0 gd] (by kernel_rfl) (by kernel_rfl) ((on_ok F gd m D (unhide hD) hm hn w (unhide hL)).mono ?_)
  rintro r u1 ⟨gs, rfl, hg1, hg2, hg⟩
  replace hB := hB.join hg [⟨gs, stN D.safe.length gd, 73⟩] (by intro x hx; rw [List.mem_singleton] at hx; subst hx; exact ⟨hg2, hg1⟩) (List.pairwise_singleton _ _)
  replace hB : Bl w [⟨gs, stN D.safe.length gd, 73⟩] u1 := hB
  clear hg hg2
  refine ⟨_, rfl, ?_⟩
  simp only [nrm]
  refine list_val (.tuple #[.pointer (some ⟨gs, 0, none⟩), .int .i64 0]) (by kernel_rfl) (by kernel_rfl) ?_
  simp only [nrm]
  refine list_val (.pointer (some ⟨gs, 0, none⟩)) (by kernel_rfl) (by kernel_rfl) ?_
  simp only [nrm]
  refine list_val (.int .i64 0) (by kernel_rfl) (by kernel_rfl) ?_
  simp only [nrm]
  (refine wpList_step fun K hK => ?_; replace hK := hide hK; go_simp; refine unhide hK _ _ ?_; clear hK K)
  (refine wpList_step fun K hK => ?_; replace hK := hide hK; go_simp; refine unhide hK _ _ ?_; clear hK K)
  refine wpList_nil ?_
  replace hB := hide hB
  go_upto_region 4 with fail
  replace hB := unhide hB
  refine wp_region_lit ?_
  refine list_call 49 #[.int .u8 ((0 : Nat) : Int), .int .u64 ((0 : Nat) : Int), .slice none 0 0] (by kernel_rfl) (by kernel_rfl) ((describe_ok 0 0 (by omega) (by omega) [] none 0 0 _ (Lb.nil _) (by omega) ((unhide hf).gr hB.gr)).mono ?_)
  rintro r u2 ⟨rfl, hg⟩
  rw [unhide he0]
  replace hB := hB.more hg
  clear hg he0
  generalize sup0 = s0 at *
  refine ⟨_, rfl, ?_⟩
  simp only [nrm]
  refine list_call 50 #[.agg (spv s0)] (by kernel_rfl) (by kernel_rfl) ((sblock_ok s0 (unhide hok0) _ ((unhide hf).gr hB.gr)).mono ?_)
  rintro r u3 ⟨rfl, hg⟩
  rw [← unhide hbk]
  replace hB := hB.more hg
  clear hg
  refine ⟨_, rfl, ?_⟩
  simp only [nrm]
  refine list_valw (.pointer (some ⟨u3.heap.size, 0, none⟩)) (u3.alloc (.cells (kc ZB) 50 (0, 0))) (by kernel_rfl) (by kernel_rfl) ?_
  replace hB := hB.new (kc ZB) 50
  simp only [List.nil_append, List.cons_append] at hB
  generalize World.alloc _ _ = u4 at *
  generalize u3.heap.size = gf at *
  replace hB : Bl w [⟨gs, stN D.safe.length gd, 73⟩, ⟨gf, kc ZB, 50⟩] u4 := hB
  simp only [nrm]
  refine list_store 50 (.tmp 6) (.tmp 17) (gf) (kc bk) 50 (kc ZB) (by kernel_rfl) rfl (by kernel_rfl) (by kernel_rfl) (hB.get 1 (x := ⟨gf, kc ZB, 50⟩) rfl) (by rw [Tryd.infoB, kc_size, hkl]) ((show (kc ZB).size = 64 from rfl).trans ((kc_size _).trans hkl).symm) (kc_one _) ?_
  replace hB := hB.set 1 (x := ⟨gf, kc ZB, 50⟩) rfl (kc bk)
  simp only [List.set_cons_zero, List.set_cons_succ] at hB
  generalize World.setRow _ _ _ = u5 at *
  replace hB : Bl w [⟨gs, stN D.safe.length gd, 73⟩, ⟨gf, kc bk, 50⟩] u5 := hB
  simp only [nrm]
  refine wpList_nil ?_
  replace hB := hide hB
  go_upto_region 5 with fail
  replace hB := unhide hB
  refine wp_region_lit ?_
  refine list_val (.pointer (some ⟨gs, 0, none⟩)) (by kernel_rfl) (by kernel_rfl) ?_
  simp only [nrm]
  refine list_val (.slice (some ⟨gf, 0, none⟩) 64 64) (by kernel_rfl) (by kernel_rfl) ?_
  simp only [nrm]
  refine app_zeros (by kernel_rfl) (.tmp 19) rfl gf bk (unhide hkb) (by kernel_rfl) (kc_at (hB.get 1 (x := ⟨gf, kc bk, 50⟩) rfl)) ?_
  intro az cz u6 hlz hfz hg
  have hfz2 : Hid (∀ i ∈ F, blkOf az ≠ some i) := fun i hi e => by
    have h1 := hfz i e
    have h2 := unhide hFl i hi
    have h3 := hB.gr.size
    omega
  replace hB := hB.more hg
  replace hlz := hide hlz
  clear hfz hg
  simp only [nrm]
  refine list_call 51 #[P0 gs, .int .i64 ((0 : Nat) : Int), .slice az 128 cz] (by kernel_rfl) (by kernel_rfl) ((slay_ok F gs gd m h lg sl D (unhide hD) u6 ((unhide hL).gr hB.gr) (by rw [← unhide hq]; exact (hB.get 0 (x := ⟨gs, stN D.safe.length gd, 73⟩) rfl)) (fun e => by have h2 := unhide hFl gs e; omega) 0 (by omega) (bk ++ ZB) az 128 cz (unhide hlz) (.inr (unhide hfz2)) (by omega) (by omega)).mono ?_)
  rintro r u7 ⟨F', rfl, hL7, hc7⟩
  rw [← unhide hfl, unhide hz]
  have hZ : Hid (Fmt F gd D w (.returned (.tuple #[P0 gs, .int .i64 0])) u7) := by
    rw [← unhide hfl] at hL7
    have hcc := hB.gr.chg hc7
    refine ⟨gs, F', [gs], rfl, hL7, ⟨rfl, hc7.blk (hB.get 0 (x := ⟨gs, stN D.safe.length gd, 73⟩) rfl) (fun e => by have h2 := unhide hFl gs e; omega)⟩, fun i hi => ?_, fun i hi hg => ?_, hcc⟩
    · rw [List.mem_singleton] at hi
      rw [hi]
      exact hg1
    · rw [List.mem_singleton] at hg
      rw [hg] at hi
      rcases hc7.new gs hi with e | e
      · have h2 := unhide hFl gs e
        omega
      · have h2 := lt_of_block (hB.get 0 (x := ⟨gs, stN D.safe.length gd, 73⟩) rfl)
        dsimp only at h2
        omega
  refine ⟨_, rfl, ?_⟩
  clear hB hL7 hc7
  simp only [nrm]
  (refine wpList_step fun K hK => ?_; replace hK := hide hK; go_simp; refine unhide hK _ _ ?_; clear hK K)
  refine wpList_nil ?_
  go_wp2_with fail
  rw [unhide hT]
  exact unhide hZ
def Shut (D : Dk) (h : Nat) : Prop := (cntS (D.cur 0) (D.cur 1)).2 = false ∨ ∃ s, cntS (D.cur 0) (D.cur 1) = (s, true) ∧ (64 * h < s.size ∨ (s.size ≤ 64 * h ∧ ¬ sh16 (D.snap h s) = s.hash))
structure Xs (w : World) (F G : List Nat) (g gd : Nat) (D : Dk) (s : Sup) (v : World) : Prop where
  gr : Gr w v
  ls : Lies F gd D v
  st : Sto G g gd D.safe.length s v
  oF : ∀ i ∈ F, w.heap.size ≤ i
  oG : ∀ i ∈ G, w.heap.size ≤ i
  ap : ∀ i ∈ F, i ∉ G
theorem Xs.more {w : World} {F G : List Nat} {g gd : Nat} {D : Dk} {s : Sup} {v u : World} (h : Xs w F G g gd D s v) (k : Gr v u) : Xs w F G g gd D s u := ⟨h.gr.trans k, h.ls.gr k, h.st.gr k, h.oF, h.oG, h.ap⟩
theorem fst_size {w : World} (h : Fst w) : 0 < w.heap.size := lt_of_cell (h 0 (.int .u32 1779033703) rfl)
theorem Xs.none_ {w : World} {F G : List Nat} {g gd : Nat} {D : Dk} {s : Sup} {v : World} (h : Xs w F G g gd D s v) (hf : Fst w) : 0 ∉ F ∧ 0 ∉ G := ⟨fun e => by have := h.oF 0 e; have := fst_size hf; omega, fun e => by have := h.oG 0 e; have := fst_size hf; omega⟩
end Go.Proofs.YtaoiejgjdmakjaaDoor

namespace Go.Proofs.YtaoiejgjdmakjaaDoor
open Go.ChangeShapes Go.WideShapes Go.ChangeAt Go.RowKit
set_option maxRecDepth 100000
set_option linter.unusedVariables false
set_option linter.unusedSimpArgs false
theorem Tryd.cellsIn : Tryd.prog.cellsOf 3 = 1 := by kernel_rfl
theorem Tryd.cellsBy : Tryd.prog.cellsOf 32 = 1 := by kernel_rfl
theorem wf_b64 {x : Int} (h : (Lit.int .i64 x).wf = true) : -9223372036854775808 ≤ x ∧ x < 9223372036854775808 := by
  have := bounds_i64 h
  omega
theorem weights_all {H : Type} {P : Program} {e : TypeId} {d : DataW H} {n : Nat} : ∀ {l : List (DataW H)}, d ∈ l → n ∈ d.weights P e → n ∈ DataW.weightsAll P e l
  | [], h, _ => by cases h
  | x :: r, h, hn => by
    rw [DataW.weightsAll]
    rcases List.mem_cons.1 h with rfl | h
    · exact List.mem_append_left _ hn
    · exact List.mem_append_right _ (weights_all h hn)
end Go.Proofs.YtaoiejgjdmakjaaDoor

namespace Go.Proofs.YtaoiejgjdmakjaaDoor
open Go.RowKit
set_option maxRecDepth 100000
set_option linter.unusedSimpArgs false
set_option linter.unusedVariables false
def ned (n : Nat) : Nat := (n + 62) / 63 + 1
def mk48 (t k : Nat) (x : List Int) : List Int := 1 :: (lowL (t : Int) 8 ++ (lowL (k : Int) 4 ++ (lowL (x.length : Int) 4 ++ (sh16 x ++ List.replicate 15 0))))
def mkL (t k : Nat) (x : List Int) : List Int := mk48 t k x ++ sh16 (mk48 t k x)
theorem mk48_len (t k : Nat) (x : List Int) : (mk48 t k x).length = 48 := by
  unfold mk48
  simp only [List.length_cons, List.length_append, lowL_len, sh16_len, List.length_replicate]
theorem mkL_len (t k : Nat) (x : List Int) : (mkL t k x).length = 64 := by
  unfold mkL
  rw [List.length_append, mk48_len, sh16_len]
theorem mk48_isB (t k : Nat) (x : List Int) : IsB (mk48 t k x) := by
  unfold mk48
  have h : IsB (lowL (t : Int) 8 ++ (lowL (k : Int) 4 ++ (lowL (x.length : Int) 4 ++ (sh16 x ++ List.replicate 15 0)))) := isB_app (lowL_isB _ _) (isB_app (lowL_isB _ _) (isB_app (lowL_isB _ _) (isB_app (sh16_isB _ (sumL_isB _)) (isB_rep 15))))
  intro z hz
  rcases List.mem_cons.1 hz with e | e
  · omega
  · exact h z e
theorem mkL_bb (t k : Nat) (x : List Int) : BB (mkL t k x) := ⟨mkL_len t k x, isB_app (mk48_isB t k x) (sh16_isB _ (sumL_isB _))⟩
def trn (b : List Int) : Nat := (lowN ((b.drop 1).take 8)).toNat
def cn4 (b : List Int) : Nat := (lowN ((b.drop 13).take 4)).toNat
theorem mkL_first (t k : Nat) (x : List Int) : (mkL t k x).getD 0 0 = 1 := by
  unfold mkL mk48
  rfl
theorem mkL_trn (t k : Nat) (x : List Int) (ht : t < 18446744073709551616) : trn (mkL t k x) = t := by
  unfold trn mkL mk48
  generalize sh16 (1 :: (lowL (t : Int) 8 ++ (lowL (k : Int) 4 ++ (lowL (x.length : Int) 4 ++ (sh16 x ++ List.replicate 15 0))))) = H
  generalize sh16 x = G
  rw [List.cons_append, List.drop_succ_cons, List.drop_zero, List.append_assoc, take_app _ _ 8 (lowL_len _ _), lowN_lowL 8 (t : Int) (by omega) (by omega), Int.toNat_natCast]
theorem mkL_cn4 (t k : Nat) (x : List Int) (hx : x.length < 4294967296) : cn4 (mkL t k x) = x.length := by
  unfold cn4 mkL mk48
  generalize sh16 (1 :: (lowL (t : Int) 8 ++ (lowL (k : Int) 4 ++ (lowL (x.length : Int) 4 ++ (sh16 x ++ List.replicate 15 0))))) = H
  generalize sh16 x = G
  rw [List.cons_append, show (13 : Nat) = 12 + 1 from rfl, List.drop_succ_cons, List.append_assoc, show (12 : Nat) = 8 + 4 from rfl, drop_app _ _ 8 4 (lowL_len _ _), List.append_assoc, show (4 : Nat) = 4 + 0 from rfl, drop_app _ _ 4 0 (lowL_len _ _), List.drop_zero, List.append_assoc, show (4 + 0 : Nat) = 4 from rfl, take_app _ _ 4 (lowL_len _ _), lowN_lowL 4 (x.length : Int) (by omega) (by omega), Int.toNat_natCast]
def dat (x : List Int) (i : Nat) : List Int := 0 :: ((x.drop (63 * i)).take 63 ++ List.replicate (63 - ((x.drop (63 * i)).take 63).length) 0)
theorem dat_len (x : List Int) (i : Nat) : (dat x i).length = 64 := by
  unfold dat
  rw [List.length_cons, List.length_append, List.length_replicate]
  have : ((x.drop (63 * i)).take 63).length ≤ 63 := by rw [List.length_take]; omega
  omega
theorem dat_bb {x : List Int} (h : IsB x) (i : Nat) : BB (dat x i) := by
  refine ⟨dat_len x i, ?_⟩
  unfold dat
  intro z hz
  rcases List.mem_cons.1 hz with e | e
  · omega
  · rcases List.mem_append.1 e with e | e
    · exact h z (List.mem_of_mem_drop (List.mem_of_mem_take e))
    · have := List.eq_of_mem_replicate e
      omega
theorem dat_first (x : List Int) (i : Nat) : (dat x i).getD 0 0 = 0 := rfl
def bod (B : Nat → List Int) (o : Nat) : Nat → List Int
  | 0 => []
  | k + 1 => bod B o k ++ (B (o + k)).drop 1
theorem bod_dat {B : Nat → List Int} {o : Nat} {x : List Int} : ∀ (k : Nat), 63 * k ≤ x.length → (∀ i, i < k → B (o + i) = dat x i) → bod B o k = x.take (63 * k)
  | 0, _, _ => by simp [bod]
  | k + 1, hk, h => by
    rw [bod, bod_dat k (by omega) (fun i hi => h i (by omega)), h k (by omega)]
    have hl : ((x.drop (63 * k)).take 63).length = 63 := by rw [List.length_take, List.length_drop]; omega
    unfold dat
    rw [List.drop_succ_cons, List.drop_zero, hl, Nat.sub_self, List.replicate_zero, List.append_nil, ← List.take_add, show 63 * k + 63 = 63 * (k + 1) from by omega]
theorem bod_all {B : Nat → List Int} {o : Nat} {x : List Int} (k : Nat) (hk : k = (x.length + 62) / 63) (h : ∀ i, 63 * i < x.length → B (o + i) = dat x i) : (bod B o k).take x.length = x := by
  rcases Nat.eq_zero_or_pos x.length with h0 | h0
  · rw [h0, List.take_zero]
    exact (List.eq_nil_of_length_eq_zero h0).symm
  · obtain ⟨q, hq⟩ : ∃ q, k = q + 1 := ⟨k - 1, by omega⟩
    subst hq
    rw [bod, bod_dat q (by omega) (fun i hi => h i (by omega)), h q (by omega)]
    unfold dat
    rw [List.drop_succ_cons, List.drop_zero]
    have e : (x.drop (63 * q)).take 63 = x.drop (63 * q) := List.take_of_length_le (by rw [List.length_drop]; omega)
    rw [e, ← List.append_assoc, List.take_append_drop, List.take_append_of_le_length (Nat.le_refl _), List.take_length]
structure IsTx (B : Nat → List Int) (N t k a : Nat) (x : List Int) : Prop where
  fit : a + ned x.length ≤ N
  mrk : B a = mkL t k x
  da : ∀ i, 63 * i < x.length → B (a + 1 + i) = dat x i
theorem IsTx.small {B : Nat → List Int} {N t k a : Nat} {x : List Int} (h : IsTx B N t k a x) (hN : N ≤ 100000) : x.length < 4294967296 := by
  have := h.fit
  unfold ned at this
  omega
theorem IsTx.cnt {B : Nat → List Int} {N t k a : Nat} {x : List Int} (h : IsTx B N t k a x) (hN : N ≤ 100000) : cn4 (B a) = x.length := by rw [h.mrk]; exact mkL_cn4 t k x (h.small hN)
theorem istx_bod {B : Nat → List Int} {N t k a : Nat} {x : List Int} (h : IsTx B N t k a x) : (bod B (a + 1) (ned x.length - 1)).take x.length = x := bod_all _ (by unfold ned; omega) h.da
theorem IsTx.uniq {B : Nat → List Int} {N t k a : Nat} {x y : List Int} (h : IsTx B N t k a x) (g : IsTx B N t k a y) (hN : N ≤ 100000) : x = y := by
  have e : x.length = y.length := (h.cnt hN).symm.trans (g.cnt hN)
  have h1 := istx_bod h
  have h2 := istx_bod g
  rw [e] at h1
  exact h1.symm.trans h2
theorem IsTx.congr {B C : Nat → List Int} {N t k a : Nat} {x : List Int} (h : IsTx B N t k a x) (e : ∀ i, a ≤ i → i < a + ned x.length → C i = B i) : IsTx C N t k a x := by
  refine ⟨h.fit, (e a (Nat.le_refl _) (by unfold ned; omega)).trans h.mrk, fun i hi => (e _ (by omega) (by unfold ned; omega)).trans (h.da i hi)⟩
def usd : List (List Int) → Nat
  | [] => 0
  | x :: r => ned x.length + usd r
theorem usd_app (X Y : List (List Int)) : usd (X ++ Y) = usd X + usd Y := by
  induction X with
  | nil => rw [List.nil_append, usd, Nat.zero_add]
  | cons x r ih => rw [List.cons_append, usd, usd, ih]; omega
theorem usd_one (x : List Int) : usd [x] = ned x.length := by rw [usd, usd, Nat.add_zero]
def Lay (B : Nat → List Int) (N t : Nat) : Nat → Nat → List (List Int) → Prop
  | _, _, [] => True
  | k, a, x :: r => IsTx B N t k a x ∧ Lay B N t (k + 1) (a + ned x.length) r
theorem Lay.app {B : Nat → List Int} {N t : Nat} : ∀ (X Y : List (List Int)) {k a : Nat}, Lay B N t k a (X ++ Y) ↔ Lay B N t k a X ∧ Lay B N t (k + X.length) (a + usd X) Y
  | [], Y, k, a => by simp [Lay, usd]
  | x :: r, Y, k, a => by
    rw [List.cons_append, Lay, Lay, Lay.app r Y, List.length_cons, usd, and_assoc, show k + 1 + r.length = k + (r.length + 1) from by omega, Nat.add_assoc a]
theorem Lay.congr {B C : Nat → List Int} {N t : Nat} : ∀ (X : List (List Int)) {k a : Nat}, Lay B N t k a X → (∀ i, a ≤ i → i < a + usd X → C i = B i) → Lay C N t k a X
  | [], _, _, _, _ => trivial
  | x :: r, k, a, h, e => by
    rw [usd] at e
    exact ⟨h.1.congr (fun i h1 h2 => e i h1 (by omega)), Lay.congr r h.2 (fun i h1 h2 => e i (by omega) (by omega))⟩
structure Tl (B : Nat → List Int) (N t : Nat) (X : List (List Int)) : Prop where
  lay : Lay B N t 0 0 X
  fin : ∀ x, ¬ IsTx B N t X.length (usd X) x
theorem lay_uniq {B : Nat → List Int} {N t : Nat} (hN : N ≤ 100000) : ∀ (X Y : List (List Int)) {k a : Nat}, Lay B N t k a X → Lay B N t k a Y → (∀ x, ¬ IsTx B N t (k + X.length) (a + usd X) x) → (∀ x, ¬ IsTx B N t (k + Y.length) (a + usd Y) x) → X = Y
  | [], [], _, _, _, _, _, _ => rfl
  | [], y :: r, k, a, _, h, f, _ => absurd h.1 (f y)
  | x :: r, [], k, a, h, _, _, f => absurd h.1 (f x)
  | x :: r, y :: q, k, a, h, g, f1, f2 => by
    have e := h.1.uniq g.1 hN
    subst e
    rw [List.length_cons, usd] at f1 f2
    rw [lay_uniq hN r q h.2 g.2 (by rw [show k + 1 + r.length = k + (r.length + 1) from by omega, Nat.add_assoc]; exact f1) (by rw [show k + 1 + q.length = k + (q.length + 1) from by omega, Nat.add_assoc]; exact f2)]
theorem Tl.uniq {B : Nat → List Int} {N t : Nat} {X Y : List (List Int)} (hN : N ≤ 100000) (h : Tl B N t X) (g : Tl B N t Y) : X = Y :=
  lay_uniq hN X Y h.lay g.lay (by rw [Nat.zero_add, Nat.zero_add]; exact h.fin) (by rw [Nat.zero_add, Nat.zero_add]; exact g.fin)
theorem Tl.congr {B C : Nat → List Int} {N t : Nat} {X : List (List Int)} (h : Tl B N t X) (hu : usd X ≤ N) (e : ∀ i, i < N → C i = B i) : Tl C N t X :=
  ⟨h.lay.congr X (fun i _ h2 => e i (by omega)), fun x k => h.fin x (k.congr (fun i h1 h2 => (e i (by have := k.fit; omega)).symm))⟩
def Fre (t : Nat) (b : List Int) : Prop := b.getD 0 0 = 1 → trn b < t
theorem fre_dat (t : Nat) (x : List Int) (i : Nat) : Fre t (dat x i) := fun h => by rw [dat_first] at h; omega
theorem fre_mk {t : Nat} (ht : t < 18446744073709551616) (k : Nat) (x : List Int) : Fre (t + 1) (mkL t k x) := fun _ => by rw [mkL_trn t k x ht]; omega
theorem fre_zb (t : Nat) : Fre t ZB := fun h => by
  have : ZB.getD 0 0 = 0 := rfl
  omega
structure Wl (B : Nat → List Int) (N t : Nat) (X : List (List Int)) : Prop where
  lay : Lay B N t 0 0 X
  le : usd X ≤ N
  old : ∀ i, usd X ≤ i → i < N → Fre t (B i)
  all : ∀ i, i < N → Fre (t + 1) (B i)
theorem Wl.tl {B : Nat → List Int} {N t : Nat} {X : List (List Int)} (h : Wl B N t X) (ht : t < 18446744073709551616) : Tl B N t X := by
  refine ⟨h.lay, fun x k => ?_⟩
  have hf := k.fit
  have hn : 1 ≤ ned x.length := by unfold ned; omega
  have h1 := h.old (usd X) (Nat.le_refl _) (by omega)
  rw [k.mrk] at h1
  have h2 := h1 (mkL_first t _ x)
  rw [mkL_trn t _ x ht] at h2
  omega
theorem Wl.zero {B : Nat → List Int} {N : Nat} (t : Nat) (h : ∀ i, i < N → B i = ZB) : Wl B N t [] := ⟨trivial, Nat.zero_le _, fun i _ hi => by rw [h i hi]; exact fre_zb t, fun i hi => by rw [h i hi]; exact fre_zb _⟩
theorem Wl.turn {B : Nat → List Int} {N t : Nat} {X : List (List Int)} (h : Wl B N t X) : Wl B N (t + 1) [] := ⟨trivial, Nat.zero_le _, fun i _ hi => h.all i hi, fun i hi e => by have := h.all i hi e; omega⟩
theorem Wl.congr {B C : Nat → List Int} {N t : Nat} {X : List (List Int)} (h : Wl B N t X) (e : ∀ i, i < N → C i = B i) : Wl C N t X :=
  ⟨h.lay.congr X (fun i _ h2 => e i (by have := h.le; omega)), h.le, fun i h1 h2 => by rw [e i h2]; exact h.old i h1 h2, fun i h1 => by rw [e i h1]; exact h.all i h1⟩
theorem Wl.part {B C : Nat → List Int} {N t : Nat} {X : List (List Int)} (h : Wl B N t X) (x : List Int) (e : ∀ i, i < N → C i = B i ∨ (usd X < i ∧ C i = dat x (i - usd X - 1))) : Wl C N t X := by
  have hl := h.le
  refine ⟨h.lay.congr X (fun i _ h2 => ?_), h.le, fun i h1 h2 => ?_, fun i h1 => ?_⟩
  · rcases e i (by omega) with e | ⟨e, _⟩
    · exact e
    · omega
  · rcases e i h2 with e | ⟨_, e⟩
    · rw [e]; exact h.old i h1 h2
    · rw [e]; exact fre_dat _ _ _
  · rcases e i h1 with e | ⟨_, e⟩
    · rw [e]; exact h.all i h1
    · rw [e]; exact fre_dat _ _ _
theorem Wl.snoc {B C : Nat → List Int} {N t : Nat} {X : List (List Int)} (h : Wl B N t X) (ht : t < 18446744073709551616) (x : List Int) (hf : usd X + ned x.length ≤ N) (hm : C (usd X) = mkL t X.length x) (hd : ∀ i, 63 * i < x.length → C (usd X + 1 + i) = dat x i) (e : ∀ i, i < N → (i < usd X ∨ usd X + ned x.length ≤ i) → C i = B i) : Wl C N t (X ++ [x]) := by
  have hl := h.le
  have hs : ∀ i, usd X ≤ i → i < usd X + ned x.length → Fre (t + 1) (C i) := by
    intro i h1 h2
    rcases Nat.eq_or_lt_of_le h1 with h3 | h3
    · rw [← h3, hm]; exact fre_mk ht _ _
    · have e := hd (i - usd X - 1) (by unfold ned at h2; omega)
      rw [show usd X + 1 + (i - usd X - 1) = i from by omega] at e
      rw [e]; exact fre_dat _ _ _
  refine ⟨(Lay.app X [x]).2 ⟨h.lay.congr X (fun i _ h2 => e i (by omega) (.inl (by omega))), ?_⟩, by rw [usd_app, usd_one]; exact hf, fun i h1 h2 => ?_, fun i h1 => ?_⟩
  · rw [Nat.zero_add, Nat.zero_add]
    exact ⟨⟨hf, hm, hd⟩, trivial⟩
  · rw [usd_app, usd_one] at h1
    rw [e i h2 (.inr h1)]
    exact h.old i (by omega) h2
  · by_cases h2 : i < usd X ∨ usd X + ned x.length ≤ i
    · rw [e i h1 h2]; exact h.all i h1
    · exact hs i (by omega) (by omega)
def wrf (o : Nat) (f : Nat → List Int) (k : Nat) : List (Nat × List Int) := (List.range k).map fun i => (o + i, f i)
theorem wrf_succ (o : Nat) (f : Nat → List Int) (k : Nat) : wrf o f (k + 1) = wrf o f k ++ [(o + k, f k)] := by unfold wrf; rw [List.range_succ, List.map_append]; rfl
theorem wrf_mem {o : Nat} {f : Nat → List Int} {k : Nat} {x : Nat × List Int} (h : x ∈ wrf o f k) : o ≤ x.1 ∧ x.1 < o + k ∧ x.2 = f (x.1 - o) := by
  unfold wrf at h
  obtain ⟨i, hi, rfl⟩ := List.mem_map.1 h
  rw [List.mem_range] at hi
  dsimp only
  rw [show o + i - o = i from by omega]
  exact ⟨by omega, by omega, rfl⟩
theorem wrf_len (o : Nat) (f : Nat → List Int) (k : Nat) : (wrf o f k).length = k := by unfold wrf; simp
theorem wrf_cur (S : List (List Int)) (P : List (Nat × List Int)) (o : Nat) (f : Nat → List Int) (j : Nat) : ∀ k, curL S (P ++ wrf o f k) j (P ++ wrf o f k).length = if o ≤ j ∧ j < o + k then f (j - o) else curL S P j P.length
  | 0 => by rw [if_neg (by omega), show wrf o f 0 = [] from rfl, List.append_nil]
  | k + 1 => by
    rw [wrf_succ, ← List.append_assoc, curL_snoc, wrf_cur S P o f j k]
    dsimp only
    by_cases h : o + k = j
    · rw [if_pos h, if_pos (by omega)]
      congr 1
      omega
    · rw [if_neg h]
      by_cases h2 : o ≤ j ∧ j < o + k
      · rw [if_pos h2, if_pos (by omega)]
      · rw [if_neg h2, if_neg (by omega)]
theorem done_pend (D : Dk) : D.doneD.pend = D.pend := by unfold Dk.doneD; split <;> rfl
theorem step_keep {D : Dk} {m j : Nat} (hD : D.Ok m) (hp : ∀ x ∈ D.pend, x.1 ≠ j) (o : Option (Nat × List Int)) (ho : ∀ x, o = some x → x.1 ≠ j) : (∀ x ∈ (D.step o).1.pend, x.1 ≠ j) ∧ (D.step o).1.safe.getD j [] = D.safe.getD j [] := by
  cases o with
  | none =>
    show (∀ x ∈ D.syncD.pend, x.1 ≠ j) ∧ D.syncD.safe.getD j [] = _
    unfold Dk.syncD
    split
    · exact ⟨hp, rfl⟩
    · split
      · rw [done_pend, done_len]; exact ⟨hp, rfl⟩
      · refine ⟨fun x hx => (by cases hx), ?_⟩
        show (liv D.doneD.safe D.doneD.pend D.doneD.all D.doneD.pend.length).getD j [] = _
        rw [done_len, done_pend]
        rcases liv_pick D.safe D.pend D.doneD.all (fun x hx => (hD.pnd x hx).1) j D.pend.length (Nat.le_refl _) with h1 | ⟨k, h1, h2, _⟩
        · exact h1
        · exact absurd h2 (hp _ (mem_of_getD h1))
  | some x =>
    show (∀ y ∈ (D.writeD _ _).pend, y.1 ≠ j) ∧ (D.writeD _ _).safe.getD j [] = _
    unfold Dk.writeD
    split
    · exact ⟨hp, rfl⟩
    · split
      · split
        · rw [done_pend, done_len]; exact ⟨hp, rfl⟩
        · show (∀ y ∈ D.doneD.pend ++ [((x.1 : Int).toNat, x.2)], y.1 ≠ j) ∧ D.doneD.safe.getD j [] = _
          rw [done_pend, done_len, Int.toNat_natCast]
          refine ⟨fun y hy => ?_, rfl⟩
          rcases List.mem_append.1 hy with hy | hy
          · exact hp y hy
          · rw [List.mem_singleton] at hy
            rw [hy]
            exact ho x rfl
      · exact ⟨hp, rfl⟩
theorem run_keep {j : Nat} : ∀ (l : List (Option (Nat × List Int))) {D : Dk} {m : Nat}, D.Ok m → (∀ x, some x ∈ l → BB x.2 ∧ x.1 ≠ j) → (∀ x ∈ D.pend, x.1 ≠ j) → (∀ x ∈ (Dk.runD l D).1.pend, x.1 ≠ j) ∧ (Dk.runD l D).1.safe.getD j [] = D.safe.getD j []
  | [], D, m, _, _, hp => ⟨hp, rfl⟩
  | o :: r, D, m, hD, hl, hp => by
    have h1 := step_ok hD o (fun x e => (hl x (by rw [e]; exact List.mem_cons_self)).1)
    obtain ⟨h2, h3⟩ := step_keep hD hp o (fun x e => (hl x (by rw [e]; exact List.mem_cons_self)).2)
    rw [Dk.runD]
    split
    · obtain ⟨h4, h5⟩ := run_keep r h1 (fun x hx => hl x (List.mem_cons_of_mem _ hx)) h2
      exact ⟨h4, h5.trans h3⟩
    · exact ⟨h2, h3⟩
theorem run_cur {j : Nat} {l : List (Option (Nat × List Int))} {D : Dk} {m : Nat} (hD : D.Ok m) (hl : ∀ x, some x ∈ l → BB x.2 ∧ x.1 ≠ j) (hp : ∀ x ∈ D.pend, x.1 ≠ j) (keep : List Bool) : (Dk.runD l D).1.cur j = D.cur j ∧ ((Dk.runD l D).1.crashD keep).cur j = D.cur j := by
  obtain ⟨h1, h2⟩ := run_keep l hD hl hp
  have h3 := run_ok l hD (fun x hx => (hl x hx).1)
  rw [cur_none h1, h2, cur_none hp, crash_none (fun x hx => (h3.pnd x hx).1) keep h1, h2]
  exact ⟨rfl, rfl⟩
def appOps (o t k u : Nat) (x : List Int) : List (Option (Nat × List Int)) := (wrf (o + u + 1) (dat x) ((x.length + 62) / 63)).map some ++ [none, some (o + u, mkL t k x), none]
theorem app_len (o t k u : Nat) (x : List Int) : (appOps o t k u x).length = (x.length + 62) / 63 + 3 := by
  unfold appOps
  rw [List.length_append, List.length_map, wrf_len]
  rfl
theorem app_mem {o t k u : Nat} {x : List Int} (hx : IsB x) : ∀ y, some y ∈ appOps o t k u x → BB y.2 ∧ o + u ≤ y.1 ∧ y.1 < o + u + ned x.length := by
  intro y hy
  have hb := mkL_bb t k x
  unfold appOps at hy
  generalize mkL t k x = bk at *
  unfold ned
  rcases List.mem_append.1 hy with hy | hy
  · obtain ⟨z, hz, e⟩ := List.mem_map.1 hy
    have e2 := Option.some.inj e
    subst e2
    obtain ⟨h1, h2, h3⟩ := wrf_mem hz
    exact ⟨by rw [h3]; exact dat_bb hx _, by omega, by omega⟩
  · simp only [List.mem_cons, List.not_mem_nil, or_false, reduceCtorEq, false_or, Option.some.injEq] at hy
    rw [hy]
    exact ⟨hb, by simp, by simp⟩
set_option maxHeartbeats 400000 in
theorem app_run {D : Dk} {m o N t : Nat} {X : List (List Int)} {x : List Int} (hD : D.Ok m) (hd : D.dead = false) (hl : -1 ≤ D.left) (hp : D.pend = []) (hn : o + N ≤ D.safe.length) (k : Wl (fun i => D.cur (o + i)) N t X) (ht : t < 18446744073709551616) (hx : IsB x) (hf : usd X + ned x.length ≤ N) :
    ((Dk.runD (appOps o t X.length (usd X) x) D).2 = 0 ∧ Went D (Dk.runD (appOps o t X.length (usd X) x) D).1 ((x.length + 62) / 63 + 3) ∧ (Dk.runD (appOps o t X.length (usd X) x) D).1.pend = [] ∧ Wl (fun i => (Dk.runD (appOps o t X.length (usd X) x) D).1.cur (o + i)) N t (X ++ [x])) ∨
    (0 ≤ D.left ∧ (Dk.runD (appOps o t X.length (usd X) x) D).2 = 7 ∧ (Dk.runD (appOps o t X.length (usd X) x) D).1.dead = true ∧ ∀ keep, Wl (fun i => ((Dk.runD (appOps o t X.length (usd X) x) D).1.crashD keep).cur (o + i)) N t X ∨ Wl (fun i => ((Dk.runD (appOps o t X.length (usd X) x) D).1.crashD keep).cur (o + i)) N t (X ++ [x])) := by
  obtain ⟨bk, hbk⟩ : ∃ b, b = mkL t X.length x := ⟨_, rfl⟩
  obtain ⟨K, hK⟩ : ∃ K, K = (x.length + 62) / 63 := ⟨_, rfl⟩
  have hned : ned x.length = K + 1 := by unfold ned; omega
  rw [hned] at hf
  obtain ⟨u, hu⟩ : ∃ u, u = usd X := ⟨_, rfl⟩
  have htk : appOps o t X.length (usd X) x = (wrf (o + u + 1) (dat x) K).map some ++ [none, some (o + u, bk), none] := by unfold appOps; rw [hbk, hK, hu]
  rw [htk, run_app]
  rw [← hu] at hf
  have part : ∀ (C : Nat → List Int), (∀ j, C j = D.cur j ∨ (o + u + 1 ≤ j ∧ j < o + u + 1 + K ∧ C j = dat x (j - (o + u + 1)))) → Wl (fun i => C (o + i)) N t X := by
    intro C hC
    refine k.part x (fun i hi => ?_)
    rcases hC (o + i) with h1 | ⟨h1, h2, h3⟩
    · exact .inl h1
    · right
      rw [← hu]
      exact ⟨by omega, by show C (o + i) = _; rw [h3, show o + i - (o + u + 1) = i - u - 1 from by omega]⟩
  have whole : ∀ (C : Nat → List Int), C (o + u) = bk → (∀ j, j ≠ o + u → C j = if o + u + 1 ≤ j ∧ j < o + u + 1 + K then dat x (j - (o + u + 1)) else D.cur j) → Wl (fun i => C (o + i)) N t (X ++ [x]) := by
    intro C hm hC
    refine k.snoc ht x (by rw [hned, ← hu]; exact hf) (by show C (o + usd X) = _; rw [← hu, hm, hbk]) (fun i hi => ?_) (fun i hi h2 => ?_)
    · show C (o + (usd X + 1 + i)) = _
      rw [← hu, hC _ (by omega), if_pos (by omega), show o + (u + 1 + i) - (o + u + 1) = i from by omega]
    · rw [hned, ← hu] at h2
      show C (o + i) = D.cur (o + i)
      rw [hC _ (by omega), if_neg (by omega)]
  have cut1 : ∀ (E : Dk), E.safe = D.safe → (∃ q, E.pend = (wrf (o + u + 1) (dat x) K).take q) → ∀ keep, Wl (fun i => (E.crashD keep).cur (o + i)) N t X := by
    rintro E hs ⟨q, hpe⟩ keep
    have hm : ∀ y ∈ E.pend, y ∈ wrf (o + u + 1) (dat x) K := by
      intro y hy
      rw [hpe] at hy
      exact List.mem_of_mem_take hy
    have hr : ∀ y ∈ E.pend, y.1 < E.safe.length := by
      intro y hy
      rw [hs]
      have := wrf_mem (hm y hy)
      omega
    refine part _ (fun j => ?_)
    rw [crash_cur]
    rcases liv_pick E.safe E.pend keep hr j E.pend.length (Nat.le_refl _) with h1 | ⟨i, h1, h2, h3⟩
    · left
      rw [h1, hs, cur_none (by rw [hp]; intro y hy; cases hy)]
    · right
      obtain ⟨g1, g2, g3⟩ := wrf_mem (hm _ (mem_of_getD (d := (0, [])) h1))
      rw [h3, g3, h2]
      rw [h2] at g1 g2
      exact ⟨g1, g2, rfl⟩
  rcases run_writes (wrf (o + u + 1) (dat x) K) D hd (fun y hy => by have := wrf_mem hy; omega) hl with ⟨f1, f2, f3, f4⟩ | ⟨f0, f1, f2, f3, q, f4⟩
  case inr =>
    right
    rw [if_neg (by rw [f1]; decide)]
    rw [hp, List.nil_append] at f4
    exact ⟨f0, f1, f2, fun keep => .inl (cut1 _ f3 ⟨q, f4⟩ keep)⟩
  rw [if_pos f1]
  have c1 : ∀ j, (Dk.runD ((wrf (o + u + 1) (dat x) K).map some) D).1.cur j = if o + u + 1 ≤ j ∧ j < o + u + 1 + K then dat x (j - (o + u + 1)) else D.cur j := by
    intro j
    unfold Dk.cur
    rw [f3, f4]
    exact wrf_cur _ _ _ _ _ _
  rw [wrf_len] at f2
  generalize (Dk.runD ((wrf (o + u + 1) (dat x) K).map some) D).1 = D1 at *
  rw [hp, List.nil_append] at f4
  have hr1 : ∀ y ∈ D1.pend, y.1 < D1.safe.length := by
    intro y hy
    rw [f3]
    rw [f4] at hy
    have := wrf_mem hy
    omega
  rw [Dk.runD]
  by_cases h1 : D1.left = 0
  · obtain ⟨g1, g2, g3, g4⟩ := step_sync_off f2.dead h1
    right
    rw [if_neg (by rw [g1]; decide)]
    refine ⟨by have := f2.left; omega, g1, g2, fun keep => .inl ?_⟩
    exact cut1 _ (by rw [g3, f3]) ⟨K, by rw [g4, f4, List.take_of_length_le (by rw [wrf_len]; omega)]⟩ keep
  obtain ⟨g1, g2, g3, g4, g5, g6⟩ := step_sync f2.dead h1
  rw [if_pos g1]
  have c2 : ∀ j, (D1.step none).1.cur j = if o + u + 1 ≤ j ∧ j < o + u + 1 + K then dat x (j - (o + u + 1)) else D.cur j := fun j => (Dk.sync_cur f2.dead h1 hr1 j).trans (c1 j)
  generalize (D1.step none).1 = D2 at *
  clear cut1 c1 hr1
  have l2 : D.left < 0 → D2.left = D.left := by
    intro e
    have := f2.left e
    rw [g5, if_neg (by omega)]
    exact this
  have m2 : -1 ≤ D2.left := by have := f2.lo; rw [g5]; split <;> omega
  have n2 : D2.safe.length = D.safe.length := g3.trans f2.len
  have s2 : ∀ j, D2.safe.getD j [] = D2.cur j := fun j => (cur_none (D := D2) (j := j) (by rw [g4]; intro y hy; cases hy)).symm
  have part2 : ∀ (C : Nat → List Int), (∀ j, C j = D2.cur j) → Wl (fun i => C (o + i)) N t X := by
    intro C hC
    refine part C (fun j => ?_)
    rw [hC, c2]
    by_cases h : o + u + 1 ≤ j ∧ j < o + u + 1 + K
    · rw [if_pos h]; exact .inr ⟨h.1, h.2, rfl⟩
    · rw [if_neg h]; exact .inl rfl
  rw [Dk.runD]
  have hq3 : o + u < D2.safe.length := by omega
  by_cases h2 : D2.left = 0
  · obtain ⟨i1, i2, i3, i4⟩ := step_write_off g2 (o + u, bk) hq3 h2
    right
    rw [if_neg (by rw [i1]; decide)]
    refine ⟨by omega, i1, i2, fun keep => .inl (part2 _ fun j => ?_)⟩
    rw [crash_none (by rw [i4, g4]; intro y hy; cases hy) keep (by rw [i4, g4]; intro y hy; cases hy), i3]
    exact s2 j
  obtain ⟨i1, i2, i3, i4, i5, i6⟩ := step_write g2 (o + u, bk) hq3 h2
  rw [if_pos i1]
  rw [g4, List.nil_append] at i4
  have c3 : ∀ j, (D2.step (some (o + u, bk))).1.cur j = if o + u = j then bk else D2.cur j := by
    intro j
    have hw := Dk.write_cur g2 h2 ((o + u : Nat) : Int) ⟨by omega, by omega⟩ bk j
    rw [Int.toNat_natCast] at hw
    exact hw
  generalize (D2.step (some (o + u, bk))).1 = D3 at *
  rw [Dk.runD]
  have hr3 : ∀ y ∈ D3.pend, y.1 < D3.safe.length := by
    intro y hy
    rw [i4, List.mem_singleton] at hy
    rw [hy, i3]
    exact hq3
  by_cases h3 : D3.left = 0
  · obtain ⟨j1, j2, j3, j4⟩ := step_sync_off i2 h3
    right
    rw [if_neg (by rw [j1]; decide)]
    refine ⟨?_, j1, j2, fun keep => ?_⟩
    · rw [i5] at h3
      split at h3 <;> omega
    · generalize (D3.step none).1 = E at *
      have hrE : ∀ y ∈ E.pend, y.1 < E.safe.length := by rw [j3, j4]; exact hr3
      have hoth : ∀ j, j ≠ o + u → (E.crashD keep).cur j = D2.cur j := by
        intro j hj
        rw [crash_none hrE keep, j3, i3, s2]
        intro y hy
        rw [j4, i4, List.mem_singleton] at hy
        rw [hy]
        exact fun e => hj e.symm
      have hself : (E.crashD keep).cur (o + u) = D2.cur (o + u) ∨ (E.crashD keep).cur (o + u) = bk := by
        rw [crash_cur]
        rcases liv_pick E.safe E.pend keep hrE (o + u) E.pend.length (Nat.le_refl _) with h1 | ⟨i, h1, h2, h3⟩
        · left
          rw [h1, j3, i3, s2]
        · right
          rw [h3]
          have hy : E.pend.getD i (0, []) ∈ E.pend := mem_of_getD h1
          rw [j4, i4] at hy
          rw [List.mem_singleton] at hy
          rw [j4, i4, hy]
      rcases hself with h1 | h1
      · left
        refine part2 _ fun j => ?_
        by_cases hj : j = o + u
        · rw [hj]; exact h1
        · exact hoth j hj
      · right
        exact whole _ h1 (fun j hj => (hoth j hj).trans (c2 j))
  obtain ⟨j1, j2, j3, j4, j5, j6⟩ := step_sync i2 h3
  have c4 : ∀ j, (D3.step none).1.cur j = if o + u = j then bk else D2.cur j := fun j => (Dk.sync_cur i2 h3 hr3 j).trans (c3 j)
  rw [if_pos j1, Dk.runD]
  generalize (D3.step none).1 = D4 at *
  left
  refine ⟨rfl, ⟨j2, by rw [j3, i3, n2], fun e => ?_, ?_, ?_⟩, j4, whole _ (by rw [c4, if_pos rfl]) (fun j hj => by rw [c4, if_neg (fun e => hj e.symm)]; exact c2 j)⟩
  · have a1 := l2 e
    have a2 : D3.left = D2.left := by rw [i5, if_neg (by omega)]
    rw [j5, if_neg (by omega), a2, a1]
  · have a2 : -1 ≤ D3.left := by rw [i5]; split <;> omega
    rw [j5]
    split <;> omega
  · rw [j6, i6, g6, f2.ops, hK]
    omega
def lgo (n : Nat) : Nat := 2 + 2 * ((n - 2) / 4)
structure Wd (D : Dk) (m : Nat) (s : Sup) (L : List Int) (X : List (List Int)) : Prop where
  fd : Fd D m s L
  pn : D.pend = []
  wl : Wl (fun i => D.cur (lgo D.safe.length + i)) (D.safe.length - lgo D.safe.length) s.turn X
theorem lgo_le {n : Nat} (h : 64 ≤ n) : lgo n + (n - lgo n) = n ∧ 2 ≤ lgo n := by unfold lgo; omega
theorem wd_fmt {D : Dk} {m : Nat} (hD : D.Ok m) (hd : D.dead = false) (hl : D.left = -1) (hn : 64 ≤ D.safe.length) (hz : ∀ j, j < D.safe.length → D.cur j = ZB) : (Dk.runD fmtOps D).2 = 0 ∧ Wd (Dk.runD fmtOps D).1 (m + 3) sup0 [] [] ∧ (Dk.runD fmtOps D).1.safe.length = D.safe.length := by
  obtain ⟨h1, h2, h3, h4, h5⟩ := fmt_all hD hd hl hn
  have hg := lgo_le hn
  refine ⟨h1, ⟨h2, h4, ?_⟩, h3⟩
  rw [h3]
  exact Wl.zero _ (fun i hi => by rw [h5 _ (by omega)]; exact hz _ (by omega))
theorem wd_take {D : Dk} {m : Nat} {s : Sup} {L M : List Int} {X : List (List Int)} (k : Wd D m s L X) (hM : IsB M) (hf : M.length ≤ 64 * ((D.safe.length - 2) / 4)) (ht : s.turn + 1 < 18446744073709551616) : (Dk.runD (takeOps s ((D.safe.length - 2) / 4) M) D).2 = 0 ∧ Wd (Dk.runD (takeOps s ((D.safe.length - 2) / 4) M) D).1 (m + ((M.length + 63) / 64 + 3)) (s.next M) M [] ∧ (Dk.runD (takeOps s ((D.safe.length - 2) / 4) M) D).1.safe.length = D.safe.length := by
  obtain ⟨h1, h2, h3, h4, h5⟩ := take_all k.fd hM hf ht
  have hw := k.wl.turn
  generalize (Dk.runD (takeOps s ((D.safe.length - 2) / 4) M) D).1 = E at *
  refine ⟨h1, ⟨h2, h4, ?_⟩, h3⟩
  rw [h3, (s.next_is M).1]
  exact hw.congr (fun i hi => h5 _ (by unfold lgo; omega))
theorem wd_app {D : Dk} {m : Nat} {s : Sup} {L x : List Int} {X : List (List Int)} (k : Wd D m s L X) (hx : IsB x) (hf : usd X + ned x.length ≤ D.safe.length - lgo D.safe.length) (ht : s.turn < 18446744073709551616) : (Dk.runD (appOps (lgo D.safe.length) s.turn X.length (usd X) x) D).2 = 0 ∧ Wd (Dk.runD (appOps (lgo D.safe.length) s.turn X.length (usd X) x) D).1 (m + ((x.length + 62) / 63 + 3)) s L (X ++ [x]) ∧ (Dk.runD (appOps (lgo D.safe.length) s.turn X.length (usd X) x) D).1.safe.length = D.safe.length := by
  have hg := lgo_le k.fd.len
  have hl := k.fd.left
  have hpn := k.pn
  have hmem := app_mem (o := lgo D.safe.length) (t := s.turn) (k := X.length) (u := usd X) hx
  have hcur : ∀ j, j < lgo D.safe.length → (Dk.runD (appOps (lgo D.safe.length) s.turn X.length (usd X) x) D).1.cur j = D.cur j := fun j hj => (run_cur k.fd.ok (fun y hy => ⟨(hmem y hy).1, by have := (hmem y hy).2; omega⟩) (by rw [k.pn]; intro y hy; cases hy) []).1
  have hok := run_ok (appOps (lgo D.safe.length) s.turn X.length (usd X) x) k.fd.ok (fun y hy => (hmem y hy).1)
  rw [app_len] at hok
  have hsz := run_len (appOps (lgo D.safe.length) s.turn X.length (usd X) x) D
  rcases app_run k.fd.ok k.fd.dead (by omega) k.pn (by omega) k.wl ht hx hf with ⟨h1, h2, h3, h4⟩ | ⟨h0, _⟩
  · have hhs := k.fd.hs
    have hfit := hhs.fit
    have hpl := hhs.ok.p
    generalize (Dk.runD (appOps (lgo D.safe.length) s.turn X.length (usd X) x) D).1 = E at *
    refine ⟨h1, ⟨⟨hok, h2.dead, (h2.left (by omega)).trans hl, by rw [hsz]; exact k.fd.len, (by rw [h3]; intro y hy; cases hy), ?_⟩, h3, by rw [hsz]; exact h4⟩, hsz⟩
    rw [hsz]
    refine hhs.keep (hcur 0 (by omega)) (hcur 1 (by omega)) (fun i hi => hcur _ ?_)
    have hpl2 : s.place = 0 ∨ s.place = 1 := by omega
    unfold lgo
    rcases hpl2 with e | e <;> rw [e] <;> simp only [Nat.zero_mul, Nat.one_mul, Nat.add_zero] <;> omega
  · omega
def nedI (n : Int) : Int := if n < 0 then 0 else (n + 62) / 63 + 1
theorem nedI_nat (n : Nat) : nedI (n : Int) = ((ned n : Nat) : Int) := by
  unfold nedI ned
  rw [if_neg (by omega)]
  omega
set_option maxHeartbeats 1000000 in
theorem rneed_ok (n : Int) (h1 : -9223372036854775808 ≤ n) (h2 : n < 9223372036854775808) (w : World) : Calls Tryd.prog 14 #[.int .i64 n] w (Vl (.int .i64 (nedI n)) w) := by
  obtain ⟨T, hT⟩ : ∃ T, T = Vl (.int .i64 (nedI n)) w := ⟨_, rfl⟩
  rw [← hT]
  by_cases h0 : n < 0
  · have e : nedI n = 0 := by unfold nedI; rw [if_pos h0]
    rw [e] at hT
    replace hT := hide hT
    clear e
    have hZ : Hid (Vl (.int .i64 0) w (.returned (.int .i64 0)) w) := ⟨rfl, Gr.refl w⟩
    go_enter Tryd.func14, Tryd.ntmps14
    go_wp2_with fail
    rw [unhide hT]
    exact unhide hZ
  · obtain ⟨q, hq⟩ : ∃ q : Int, q = n / 63 := ⟨_, rfl⟩
    obtain ⟨r, hr⟩ : ∃ r : Int, r = n % 63 := ⟨_, rfl⟩
    have e1 : n.tdiv 63 = q := by rw [Int.tdiv_eq_ediv_of_nonneg (by omega), hq]
    have e2 : n.tmod 63 = r := by rw [Int.tmod_eq_emod_of_nonneg (by omega), hr]
    have e3 : IntKind.i64.wrap q = q := by rw [IntKind.wrap_i64]; omega
    have e4 : IntKind.i64.wrap r = r := by rw [IntKind.wrap_i64]; omega
    have e5 : IntKind.i64.wrap (q + 1) = q + 1 := by rw [IntKind.wrap_i64]; omega
    have e6 : IntKind.i64.wrap (q + 1 + 1) = q + 1 + 1 := by rw [IntKind.wrap_i64]; omega
    by_cases hr0 : 0 < r
    · have e : nedI n = q + 1 + 1 := by unfold nedI; rw [if_neg h0]; omega
      rw [e] at hT
      replace hT := hide hT
      replace hq := hide hq; replace hr := hide hr
      clear e
      have hZ : Hid (Vl (.int .i64 (q + 1 + 1)) w (.returned (.int .i64 (q + 1 + 1))) w) := ⟨rfl, Gr.refl w⟩
      go_enter Tryd.func14, Tryd.ntmps14
      go_wp2_with fail
      rw [unhide hT]
      exact unhide hZ
    · have e : nedI n = q + 1 := by unfold nedI; rw [if_neg h0]; omega
      rw [e] at hT
      replace hT := hide hT
      replace hq := hide hq; replace hr := hide hr
      clear e
      have hZ : Hid (Vl (.int .i64 (q + 1)) w (.returned (.int .i64 (q + 1))) w) := ⟨rfl, Gr.refl w⟩
      go_enter Tryd.func14, Tryd.ntmps14
      go_wp2_with fail
      rw [unhide hT]
      exact unhide hZ
theorem Ob.nil (b : Nat) (w : World) : Ob b w (.slice none 0 0) [] := ⟨rfl, .inl ⟨rfl, rfl⟩⟩
theorem exec_ils {a : Act} {o : Oper} (w : World) (x y : Operand) (ho : o.op = .indexAddr 33 x y) (g q len cap i : Nat) (hx : a.eval x = .slice (some ⟨g, q, none⟩) len cap) (hy : a.eval y = .int .i64 i) (hi : i < len) :
    (execOp a.eval o).run Tryd.prog w = .ok (.value (.pointer (some ⟨g, q + i, none⟩))) w := by
  have h1 : (i : Int) < (len : Int) := by omega
  unfold execOp
  simp only [ho, hx, hy]
  go_simp
structure Lq (W : World) (a : Option Addr) (n c : Nat) (ps : List (List Int)) : Prop where
  len : ps.length = n
  sl : n = 0 ∨ ∃ p o, a = some ⟨p, o, none⟩ ∧ ∀ i, i < n → ∃ ai ni ci, W.cell? ⟨p, o + i, none⟩ = some (.slice ai ni ci) ∧ Lb W ai ni ci (ps.getD i []) ∧ ni ≤ 140737488351232
  cap : n ≤ c
  max : c < 9223372036854775808
theorem Lq.gr {w v : World} {a : Option Addr} {n c : Nat} {ps : List (List Int)} (h : Lq w a n c ps) (g : Gr w v) : Lq v a n c ps := by
  refine ⟨h.len, ?_, h.cap, h.max⟩
  rcases h.sl with h | ⟨p, o, h1, h2⟩
  · exact .inl h
  · refine .inr ⟨p, o, h1, fun i hi => ?_⟩
    obtain ⟨ai, ni, ci, h3, h4, h5⟩ := h2 i hi
    exact ⟨ai, ni, ci, g.cell h3, h4.gr g, h5⟩
theorem Lq.at_ {w : World} {a : Option Addr} {n c : Nat} {ps : List (List Int)} (h : Lq w a n c ps) (i : Nat) (hi : i < n) : ∃ p o ai ni ci, a = some ⟨p, o, none⟩ ∧ w.cell? ⟨p, o + i, none⟩ = some (.slice ai ni ci) ∧ Lb w ai ni ci (ps.getD i []) ∧ ni ≤ 140737488351232 := by
  rcases h.sl with h0 | ⟨p, o, h1, h2⟩
  · omega
  · obtain ⟨ai, ni, ci, h3, h4, h5⟩ := h2 i hi
    exact ⟨p, o, ai, ni, ci, h1, h3, h4, h5⟩
theorem usd_take (P : List (List Int)) (j : Nat) (hj : j < P.length) : usd (P.take (j + 1)) = usd (P.take j) + ned (P.getD j []).length := by
  rw [List.take_succ_eq_append_getElem hj, usd_app, usd_one, List.getD_eq_getElem?_getD, List.getElem?_eq_getElem hj]
  rfl
theorem usd_take_le (P : List (List Int)) (j : Nat) : usd (P.take j) ≤ usd P := by
  have h := usd_app (P.take j) (P.drop j)
  rw [List.take_append_drop] at h
  omega
set_option maxHeartbeats 4000000 in
theorem used12_ok (P : List (List Int)) (sa : Option Addr) (sn sc : Nat) (w : World) (hP : Lq w sa sn sc P) (hs : sn ≤ 1000000) (hu : usd P < 4611686018427387904) : Calls Tryd.prog 13 #[.slice sa sn sc] w (Vl (.int .i64 ((usd P : Nat) : Int)) w) := by
  obtain ⟨T, hT⟩ : ∃ T, T = Vl (.int .i64 ((usd P : Nat) : Int)) w := ⟨_, rfl⟩
  rw [← hT]
  replace hT := hide hT
  have hPl := hP.len
  replace hP := hide hP; replace hPl := hide hPl
  have hI0 : Hid (Gr w w) := Gr.refl w
  go_enter Tryd.func13, Tryd.ntmps13
  go_wp2_with fail
  go_loopw [3, 8] (fun x i wr => ∃ j : Nat, j ≤ sn ∧ i = .int .i64 (j : Int) ∧ x = .int .i64 ((usd (P.take j) : Nat) : Int) ∧ Hid (Gr w wr)) (fun _ i _ => sn - (intOf i).toNat)
  case atStart => exact ⟨0, by omega, rfl, rfl, hI0⟩
  case round =>
  clear hI0
  obtain ⟨j, hj, rfl, rfl, hG⟩ := hrel
  have hle := usd_take_le P j
  by_cases hlt : j < sn
  · skip
    have jI : (j : Int) < (sn : Int) := by omega
    obtain ⟨p, o, ai, ni, ci, rfl, hc, hLb, hci⟩ := (unhide hP).at_ j hlt
    have hsu := usd_take P j (by rw [unhide hPl]; exact hlt)
    have hle2 := usd_take_le P (j + 1)
    rw [hLb.len] at hsu
    have hnc := hLb.cap
    have hmx := hLb.max
    obtain ⟨x, hx⟩ : ∃ x, x = usd (P.take j) := ⟨_, rfl⟩
    obtain ⟨y, hy⟩ : ∃ y, y = usd (P.take (j + 1)) := ⟨_, rfl⟩
    rw [← hx] at hsu hle
    rw [← hy] at hsu hle2
    rw [← hx]
    have ew : IntKind.i64.wrap ((x : Int) + ((ned ni : Nat) : Int)) = (y : Int) := by rw [IntKind.wrap_i64]; omega
    replace hc := hide hc; replace hx := hide hx; replace hy := hide hy; replace hsu := hide hsu
    clear hLb
    go_upto_region 4 with fail
    refine wp_region_lit ?_
    refine list_val (.pointer (some ⟨p, o + j, none⟩)) (by kernel_rfl) (exec_ils _ (.tmp 6) (.tmp 8) rfl p o sn sc j rfl rfl hlt) ?_
    simp only [nrm]
    refine list_val (.slice ai ni ci) (by kernel_rfl) (exec_sby _ (.tmp 10) rfl p (o + j) (by kernel_rfl) ai ni ci ((unhide hG).cell (unhide hc))) ?_
    simp only [nrm]
    (refine wpList_step fun K hK => ?_; replace hK := hide hK; go_simp; refine unhide hK _ _ ?_; clear hK K)
    refine wpList_nil ?_
    go_upto_region 5 with fail
    refine wp_region_lit ?_
    refine list_val (.int .i64 (x : Int)) (by kernel_rfl) (by kernel_rfl) ?_
    simp only [nrm]
    refine list_val (.slice ai ni ci) (by kernel_rfl) (by kernel_rfl) ?_
    simp only [nrm]
    refine list_val (.int .i64 (ni : Int)) (by kernel_rfl) (by kernel_rfl) ?_
    simp only [nrm]
    refine list_call 14 #[.int .i64 (ni : Int)] (by kernel_rfl) (by kernel_rfl) ((rneed_ok (ni : Int) (by omega) (by omega) _).mono ?_)
    rintro r v2 ⟨rfl, hg⟩
    refine ⟨_, rfl, ?_⟩
    rw [nedI_nat]
    have hG2 := hide ((unhide hG).trans hg)
    clear hg hG
    simp only [nrm]
    refine list_val (.int .i64 (y : Int)) (by kernel_rfl) (by go_simp) ?_
    simp only [nrm]
    (refine wpList_step fun K hK => ?_; replace hK := hide hK; go_simp; refine unhide hK _ _ ?_; clear hK K)
    refine wpList_nil ?_
    go_wp2_with fail
    go_roundw
    case rel => exact ⟨j + 1, by omega, by go_num, by rw [← unhide hy], hG2⟩
    case measure => simp [intOf]; omega
  have jI : ¬ (j : Int) < (sn : Int) := by omega
  obtain rfl : j = sn := by omega
  rw [List.take_of_length_le (by rw [unhide hPl]; exact Nat.le_refl _)] at *
  have hZ : Hid (Vl (.int .i64 ((usd P : Nat) : Int)) w (.returned (.int .i64 ((usd P : Nat) : Int))) wr) := ⟨rfl, unhide hG⟩
  clear hG
  generalize usd P = U at *
  go_wp2_with fail
  rw [unhide hT]
  exact unhide hZ
def secN (t k : Nat) (x : List Int) (j : Nat) : List (List Int) := mkL t k x :: (List.range j).map (dat x)
def secs (t k : Nat) (x : List Int) : List (List Int) := secN t k x ((x.length + 62) / 63)
theorem lb_drop {w : World} {p o n c q : Nat} {L : List Int} (h : Lb w (some ⟨p, o, none⟩) n c L) (hq : q < n) : Lb w (some ⟨p, o + q, none⟩) (n - q) (c - q) (L.drop q) := by
  have hl := h.len
  have hc := h.cap
  have hm := h.max
  refine ⟨by rw [List.length_drop, hl], isB_drop h.isB q, .inr ⟨p, o + q, rfl, fun j hj => ?_⟩, by omega, by omega⟩
  rw [List.length_drop] at hj
  rcases h.sl with h0 | ⟨p2, o2, e, h2⟩
  · rw [h0] at hl
    simp at hl
    omega
  · injection e with e
    injection e with e1 e2
    subst e1 e2
    have h3 := h2 (q + j) (by omega)
    rw [← Nat.add_assoc] at h3
    rw [h3, List.getD_eq_getElem?_getD, List.getD_eq_getElem?_getD, List.getElem?_drop]
theorem exec_fromo {a : Act} {o : Oper} (w : World) (x y : Operand) (ho : o.op = .slice 32 x (some y) none none) (p u len cap n : Nat) (hx : a.eval x = .slice (some ⟨p, u, none⟩) len cap) (hy : a.eval y = .int .i64 n) (hc : len ≤ cap) (hn : n < len) :
    (execOp a.eval o).run Tryd.prog w = .ok (.value (.slice (some ⟨p, u + n, none⟩) (len - n) (cap - n))) w := by
  have h := exec_from (a := a) (o := o) w x y ho (some ⟨p, u, none⟩) len cap n hx hy hc (by omega)
  rw [if_neg (by omega), Option.map_some, Addr.add_mid] at h
  exact h
theorem lay_dat (x : List Int) (j : Nat) : lay ZB 1 ((x.drop (63 * j)).take 63) = dat x j := by
  unfold lay dat
  generalize (x.drop (63 * j)).take 63 = S
  rw [show ZB.take 1 = [0] from rfl, show ZB.drop (1 + S.length) = List.replicate (63 - S.length) 0 from by unfold ZB; rw [List.drop_replicate]; congr 1; omega]
  rfl
theorem str_inj {A B : List Int} (hA : IsB A) (hB : IsB B) (h : strOfNums A = strOfNums B) : A = B := by
  have h1 : (strOfNums A).data.toList = (strOfNums B).data.toList := by rw [h]
  rw [strOfNums_data, strOfNums_data] at h1
  have hl : A.length = B.length := by simpa using congrArg List.length h1
  apply List.ext_getElem hl
  intro i h2 h3
  have h4 : (A.map fun n => UInt8.ofNat n.toNat)[i]? = (B.map fun n => UInt8.ofNat n.toNat)[i]? := by rw [h1]
  simp only [List.getElem?_map, List.getElem?_eq_getElem h2, List.getElem?_eq_getElem h3, Option.map_some, Option.some.injEq] at h4
  have h5 := congrArg UInt8.toNat h4
  simp only [UInt8.toNat_ofNat'] at h5
  have a1 := hA _ (List.getElem_mem h2)
  have b1 := hB _ (List.getElem_mem h3)
  omega
theorem equal_same (B : List Int) (a b : Option Addr) (n c d : Nat) (hn : B.length = n) (w : World) (ha : Sl w a B) (hb : Sl w b B) : Calls Tryd.prog 37 #[.slice a n c, .slice b n d] w (fun r w' => r = .returned (.bool true) ∧ w' = w) := by
  have h1 := ha.text n c hn
  have h2 := hb.text n d hn
  clear ha hb
  go_enter Tryd.func37, Tryd.ntmps37
  go_wp2_with fail
  refine bodyPost_ret (v := .bool true) ?_ rfl ⟨rfl, rfl⟩
  simp [results, Tryd.results37, go_sem]
theorem equal_not (A B : List Int) (a b : Option Addr) (n m c d : Nat) (hn : A.length = n) (hm : B.length = m) (bA : IsB A) (bB : IsB B) (hne : A ≠ B) (w : World) (ha : Sl w a A) (hb : Sl w b B) : Calls Tryd.prog 37 #[.slice a n c, .slice b m d] w (fun r w' => r = .returned (.bool false) ∧ w' = w) := by
  have h1 := ha.text n c hn
  have h2 := hb.text m d hm
  have h3 : ¬ (strOfNums A).toList = (strOfNums B).toList := fun e => hne (str_inj bA bB (by
    rw [ByteArray.toList_eq, ByteArray.toList_eq] at e
    exact WideShapes.bytes_inj e))
  clear ha hb hne
  generalize strOfNums A = sa at *
  generalize strOfNums B = sb at *
  go_enter Tryd.func37, Tryd.ntmps37
  go_wp2_with fail
  refine bodyPost_ret (v := .bool false) ?_ rfl ⟨rfl, rfl⟩
  simp [results, Tryd.results37, go_sem, h3]
theorem beq_ok (A B : List Int) (a b : Option Addr) (n m c d : Nat) (w : World) (ha : Lb w a n c A) (hb : Lb w b m d B) : Calls Tryd.prog 37 #[.slice a n c, .slice b m d] w (Vl (.bool (decide (A = B))) w) := by
  by_cases h : A = B
  · subst h
    have e : m = n := hb.len.symm.trans ha.len
    subst e
    refine (equal_same A a b m c d ha.len w ha.sl hb.sl).mono ?_
    rintro r w' ⟨rfl, rfl⟩
    exact ⟨by rw [decide_eq_true rfl], Gr.refl _⟩
  · refine (equal_not A B a b n m c d ha.len hb.len ha.isB hb.isB h w ha.sl hb.sl).mono ?_
    rintro r w' ⟨rfl, rfl⟩
    exact ⟨by rw [decide_eq_false h], Gr.refl _⟩
set_option maxHeartbeats 4000000 in
theorem lists_ok (P Q : List (List Int)) (pa qa : Option Addr) (pn pc qn qc : Nat) (w : World) (hP : Lq w pa pn pc P) (hQ : Lq w qa qn qc Q) (hb : pn ≤ 1000000) : Calls Tryd.prog 38 #[.slice pa pn pc, .slice qa qn qc] w (Vl (.bool (decide (P = Q))) w) := by
  obtain ⟨T, hT⟩ : ∃ T, T = Vl (.bool (decide (P = Q))) w := ⟨_, rfl⟩
  rw [← hT]
  replace hT := hide hT
  have hPl := hP.len
  have hQl := hQ.len
  have hPc := hP.cap
  have hQc := hQ.cap
  replace hP := hide hP; replace hQ := hide hQ; replace hPl := hide hPl; replace hQl := hide hQl
  go_enter Tryd.func38, Tryd.ntmps38
  by_cases hpq : pn = qn
  case neg =>
    have nI : ¬ (pn : Int) = (qn : Int) := by omega
    have hZ : Hid (Vl (.bool (decide (P = Q))) w (.returned (.bool false)) w) := by
      have hne : ¬ P = Q := fun e => hpq (by rw [← unhide hPl, ← unhide hQl, e])
      refine ⟨?_, Gr.refl w⟩
      rw [decide_eq_false hne]
    go_wp2_with fail
    rw [unhide hT]
    exact unhide hZ
  subst hpq
  go_wp2_with fail
  go_loopw [13] (fun i wr => ∃ j : Nat, j ≤ pn ∧ i = .int .i64 (j : Int) ∧ Hid (P.take j = Q.take j) ∧ Hid (Gr w wr)) (fun i _ => pn - (intOf i).toNat)
  case atStart => exact ⟨0, by omega, rfl, by show P.take 0 = Q.take 0; simp, Gr.refl w⟩
  case round =>
  obtain ⟨j, hj, rfl, hpre, hG⟩ := hrel
  by_cases hlt : j < pn
  · skip
    have jI : (j : Int) < (pn : Int) := by omega
    obtain ⟨p, o, a1, n1, c1, rfl, hc1, hL1, -⟩ := (unhide hP).at_ j hlt
    obtain ⟨p2, o2, a2, n2, c2, rfl, hc2, hL2, -⟩ := (unhide hQ).at_ j hlt
    obtain ⟨A, hA⟩ : ∃ A, A = P.getD j [] := ⟨_, rfl⟩
    obtain ⟨B, hB⟩ : ∃ B, B = Q.getD j [] := ⟨_, rfl⟩
    rw [← hA] at hL1
    rw [← hB] at hL2
    replace hA := hide hA; replace hB := hide hB; replace hL1 := hide hL1; replace hL2 := hide hL2; replace hc1 := hide hc1; replace hc2 := hide hc2
    by_cases hAB : A = B
    · skip
      go_upto_region 6 with fail
      refine any_start (S := fun (v : World) => Gr w v) (by kernel_rfl) ?_
      have hG9 := (unhide hG).trans (Gr.refl _).drew
      clear hG
      generalize World.drew _ = x2 at *
      simp only [List.size_toArray, List.length_cons, List.length_nil, Array.replicate, List.replicate]
      refine any_take (i := 0) (v := (.slice (some ⟨p, o, none⟩) pn pc)) #[false, false, false, false, false, false, false, false, false, false] rfl (by kernel_rfl) (by kernel_rfl) (by kernel_rfl) (by kernel_rfl) (fun _ _ _ h => h) (.inl ⟨by kernel_rfl, fun x_ hu => by kernel_rfl⟩) hG9 ?_
      simp only [nrm]
      refine any_take (i := 1) (v := (.int .i64 (j : Int))) #[true, false, false, false, false, false, false, false, false, false] rfl (by kernel_rfl) (by kernel_rfl) (by kernel_rfl) (by kernel_rfl) (fun _ _ _ h => h) (.inl ⟨by kernel_rfl, fun x_ hu => by kernel_rfl⟩) hG9 ?_
      simp only [nrm]
      refine any_take (i := 2) (v := (.pointer (some ⟨p, o + j, none⟩))) #[true, true, false, false, false, false, false, false, false, false] rfl (by kernel_rfl) (by kernel_rfl) (by kernel_rfl) (by kernel_rfl) (fun _ _ _ h => h) (.inl ⟨by kernel_rfl, fun x_ hu => exec_ils _ (.tmp 16) (.tmp 17) rfl p o pn pc j (by kernel_rfl) (by kernel_rfl) hlt⟩) hG9 ?_
      simp only [nrm]
      refine any_take (i := 3) (v := (.slice a1 n1 c1)) #[true, true, true, false, false, false, false, false, false, false] rfl (by kernel_rfl) (by kernel_rfl) (by kernel_rfl) (by kernel_rfl) (fun _ _ _ h => h) (.inl ⟨by kernel_rfl, fun x_ hu => exec_sby _ (.tmp 18) rfl p (o + j) (by kernel_rfl) a1 n1 c1 (hu.cell (unhide hc1))⟩) hG9 ?_
      simp only [nrm]
      refine any_take (i := 4) (v := (.slice (some ⟨p2, o2, none⟩) pn qc)) #[true, true, true, true, false, false, false, false, false, false] rfl (by kernel_rfl) (by kernel_rfl) (by kernel_rfl) (by kernel_rfl) (fun _ _ _ h => h) (.inl ⟨by kernel_rfl, fun x_ hu => by kernel_rfl⟩) hG9 ?_
      simp only [nrm]
      refine any_take (i := 5) (v := (.int .i64 (j : Int))) #[true, true, true, true, true, false, false, false, false, false] rfl (by kernel_rfl) (by kernel_rfl) (by kernel_rfl) (by kernel_rfl) (fun _ _ _ h => h) (.inl ⟨by kernel_rfl, fun x_ hu => by kernel_rfl⟩) hG9 ?_
      simp only [nrm]
      refine any_take (i := 6) (v := (.pointer (some ⟨p2, o2 + j, none⟩))) #[true, true, true, true, true, true, false, false, false, false] rfl (by kernel_rfl) (by kernel_rfl) (by kernel_rfl) (by kernel_rfl) (fun _ _ _ h => h) (.inl ⟨by kernel_rfl, fun x_ hu => exec_ils _ (.tmp 20) (.tmp 21) rfl p2 o2 pn qc j (by kernel_rfl) (by kernel_rfl) hlt⟩) hG9 ?_
      simp only [nrm]
      refine any_take (i := 7) (v := (.slice a2 n2 c2)) #[true, true, true, true, true, true, true, false, false, false] rfl (by kernel_rfl) (by kernel_rfl) (by kernel_rfl) (by kernel_rfl) (fun _ _ _ h => h) (.inl ⟨by kernel_rfl, fun x_ hu => exec_sby _ (.tmp 22) rfl p2 (o2 + j) (by kernel_rfl) a2 n2 c2 (hu.cell (unhide hc2))⟩) hG9 ?_
      simp only [nrm]
      refine any_one (i := 8) (by kernel_rfl) rfl (fun K_ hQ => ?_)
      refine step_callw (by kernel_rfl) 37 #[.slice a1 n1 c1, .slice a2 n2 c2] (by kernel_rfl) ((beq_ok A B a1 a2 n1 n2 c1 c2 _ ((unhide hL1).gr hG9) ((unhide hL2).gr hG9)).mono ?_)
      rintro r x3 ⟨rfl, hg⟩
      refine ⟨_, rfl, ?_⟩
      rw [decide_eq_true hAB]
      replace hG9 := hG9.trans hg
      clear hg
      refine hQ.out _ _ hG9 (fun _ => ?_)
      clear hQ K_
      simp only [nrm]
      refine any_take (i := 9) (v := (.bool false)) #[true, true, true, true, true, true, true, true, true, false] rfl (by kernel_rfl) (by kernel_rfl) (by kernel_rfl) (by kernel_rfl) (fun _ _ _ h => h) (.inl ⟨by kernel_rfl, fun x_ hu => by go_simp⟩) hG9 ?_
      simp only [nrm]
      refine any_done (by kernel_rfl) ?_
      have hpre2 : Hid (P.take (j + 1) = Q.take (j + 1)) := by
        have h1 : j < P.length := by rw [unhide hPl]; exact hlt
        have h2 : j < Q.length := by rw [unhide hQl]; exact hlt
        show P.take (j + 1) = Q.take (j + 1)
        rw [List.take_succ_eq_append_getElem h1, List.take_succ_eq_append_getElem h2, unhide hpre]
        have e1 : P[j] = A := by rw [unhide hA, List.getD_eq_getElem?_getD, List.getElem?_eq_getElem h1]; rfl
        have e2 : Q[j] = B := by rw [unhide hB, List.getD_eq_getElem?_getD, List.getElem?_eq_getElem h2]; rfl
        rw [e1, e2, hAB]
      replace hG9 := hide hG9
      go_wp2_with fail
      go_roundw
      case rel => exact ⟨j + 1, by omega, by go_num, hpre2, hG9⟩
      case measure => simp [intOf]; omega
    go_upto_region 6 with fail
    refine any_start (S := fun (v : World) => Gr w v) (by kernel_rfl) ?_
    have hG9 := (unhide hG).trans (Gr.refl _).drew
    clear hG
    generalize World.drew _ = x2 at *
    simp only [List.size_toArray, List.length_cons, List.length_nil, Array.replicate, List.replicate]
    refine any_take (i := 0) (v := (.slice (some ⟨p, o, none⟩) pn pc)) #[false, false, false, false, false, false, false, false, false, false] rfl (by kernel_rfl) (by kernel_rfl) (by kernel_rfl) (by kernel_rfl) (fun _ _ _ h => h) (.inl ⟨by kernel_rfl, fun x_ hu => by kernel_rfl⟩) hG9 ?_
    simp only [nrm]
    refine any_take (i := 1) (v := (.int .i64 (j : Int))) #[true, false, false, false, false, false, false, false, false, false] rfl (by kernel_rfl) (by kernel_rfl) (by kernel_rfl) (by kernel_rfl) (fun _ _ _ h => h) (.inl ⟨by kernel_rfl, fun x_ hu => by kernel_rfl⟩) hG9 ?_
    simp only [nrm]
    refine any_take (i := 2) (v := (.pointer (some ⟨p, o + j, none⟩))) #[true, true, false, false, false, false, false, false, false, false] rfl (by kernel_rfl) (by kernel_rfl) (by kernel_rfl) (by kernel_rfl) (fun _ _ _ h => h) (.inl ⟨by kernel_rfl, fun x_ hu => exec_ils _ (.tmp 16) (.tmp 17) rfl p o pn pc j (by kernel_rfl) (by kernel_rfl) hlt⟩) hG9 ?_
    simp only [nrm]
    refine any_take (i := 3) (v := (.slice a1 n1 c1)) #[true, true, true, false, false, false, false, false, false, false] rfl (by kernel_rfl) (by kernel_rfl) (by kernel_rfl) (by kernel_rfl) (fun _ _ _ h => h) (.inl ⟨by kernel_rfl, fun x_ hu => exec_sby _ (.tmp 18) rfl p (o + j) (by kernel_rfl) a1 n1 c1 (hu.cell (unhide hc1))⟩) hG9 ?_
    simp only [nrm]
    refine any_take (i := 4) (v := (.slice (some ⟨p2, o2, none⟩) pn qc)) #[true, true, true, true, false, false, false, false, false, false] rfl (by kernel_rfl) (by kernel_rfl) (by kernel_rfl) (by kernel_rfl) (fun _ _ _ h => h) (.inl ⟨by kernel_rfl, fun x_ hu => by kernel_rfl⟩) hG9 ?_
    simp only [nrm]
    refine any_take (i := 5) (v := (.int .i64 (j : Int))) #[true, true, true, true, true, false, false, false, false, false] rfl (by kernel_rfl) (by kernel_rfl) (by kernel_rfl) (by kernel_rfl) (fun _ _ _ h => h) (.inl ⟨by kernel_rfl, fun x_ hu => by kernel_rfl⟩) hG9 ?_
    simp only [nrm]
    refine any_take (i := 6) (v := (.pointer (some ⟨p2, o2 + j, none⟩))) #[true, true, true, true, true, true, false, false, false, false] rfl (by kernel_rfl) (by kernel_rfl) (by kernel_rfl) (by kernel_rfl) (fun _ _ _ h => h) (.inl ⟨by kernel_rfl, fun x_ hu => exec_ils _ (.tmp 20) (.tmp 21) rfl p2 o2 pn qc j (by kernel_rfl) (by kernel_rfl) hlt⟩) hG9 ?_
    simp only [nrm]
    refine any_take (i := 7) (v := (.slice a2 n2 c2)) #[true, true, true, true, true, true, true, false, false, false] rfl (by kernel_rfl) (by kernel_rfl) (by kernel_rfl) (by kernel_rfl) (fun _ _ _ h => h) (.inl ⟨by kernel_rfl, fun x_ hu => exec_sby _ (.tmp 22) rfl p2 (o2 + j) (by kernel_rfl) a2 n2 c2 (hu.cell (unhide hc2))⟩) hG9 ?_
    simp only [nrm]
    refine any_one (i := 8) (by kernel_rfl) rfl (fun K_ hQ => ?_)
    refine step_callw (by kernel_rfl) 37 #[.slice a1 n1 c1, .slice a2 n2 c2] (by kernel_rfl) ((beq_ok A B a1 a2 n1 n2 c1 c2 _ ((unhide hL1).gr hG9) ((unhide hL2).gr hG9)).mono ?_)
    rintro r x3 ⟨rfl, hg⟩
    refine ⟨_, rfl, ?_⟩
    rw [decide_eq_false hAB]
    replace hG9 := hG9.trans hg
    clear hg
    refine hQ.out _ _ hG9 (fun _ => ?_)
    clear hQ K_
    simp only [nrm]
    refine any_take (i := 9) (v := (.bool true)) #[true, true, true, true, true, true, true, true, true, false] rfl (by kernel_rfl) (by kernel_rfl) (by kernel_rfl) (by kernel_rfl) (fun _ _ _ h => h) (.inl ⟨by kernel_rfl, fun x_ hu => by go_simp⟩) hG9 ?_
    simp only [nrm]
    refine any_done (by kernel_rfl) ?_
    have hZ : Hid (Vl (.bool (decide (P = Q))) w (.returned (.bool false)) x3) := by
      have hne : ¬ P = Q := fun e => hAB (by rw [unhide hA, unhide hB, e])
      refine ⟨?_, hG9⟩
      rw [decide_eq_false hne]
    replace hG9 := hide hG9
    go_wp2_with fail
    rw [unhide hT]
    exact unhide hZ
  have jI : ¬ (j : Int) < (pn : Int) := by omega
  obtain rfl : j = pn := by omega
  have hZ : Hid (Vl (.bool (decide (P = Q))) w (.returned (.bool true)) wr) := by
    have h := unhide hpre
    rw [List.take_of_length_le (by rw [unhide hPl]; exact Nat.le_refl _), List.take_of_length_le (by rw [unhide hQl]; exact Nat.le_refl _)] at h
    refine ⟨?_, unhide hG⟩
    rw [decide_eq_true h]
  clear hG
  go_wp2_with fail
  rw [unhide hT]
  exact unhide hZ
theorem dk0_cur (n j : Nat) (hj : j < n) : (dk0 n).cur j = ZB := by
  unfold Dk.cur dk0
  show (List.replicate n ZB).getD j [] = ZB
  rw [List.getD_eq_getElem?_getD, List.getElem?_replicate, if_pos hj]
  rfl
def Str (z : Nat) (w : World) (r : Ending) (w' : World) : Prop := ∃ F G g gd D, r = .returned (.tuple #[P0 gd, P0 g]) ∧ Xs w F G g gd D sup0 w' ∧ Wd D 3 sup0 [] [] ∧ D.safe.length = z
def stz (n : Int) : Nat := (64 + IntKind.u64.wrap n % 24).toNat
theorem stz_bd (n : Int) : 64 ≤ stz n ∧ stz n < 88 := by unfold stz; omega
set_option maxHeartbeats 4000000 in
theorem store_ok (n : Int) (w : World) (hf0 : Fst w) : Calls Tryd.prog 8 #[.int .i64 n] w (Str (stz n) w) := by
  obtain ⟨T, hT⟩ : ∃ T, T = Str (stz n) w := ⟨_, rfl⟩
  rw [← hT]
  replace hT := hide hT
  obtain ⟨qa, hqa⟩ : ∃ q : Int, q = IntKind.u64.wrap n := ⟨_, rfl⟩
  have pa : 0 ≤ qa ∧ qa < 18446744073709551616 := by rw [hqa, IntKind.wrap_u64]; omega
  obtain ⟨ta, hta⟩ : ∃ t : Int, t = qa % 24 := ⟨_, rfl⟩
  have ra : 0 ≤ ta ∧ ta < 24 := by omega
  have eta : qa.tmod 24 = ta := by rw [Int.tmod_eq_emod_of_nonneg pa.1, hta]
  have ewu : IntKind.u64.wrap ta = ta := by rw [IntKind.wrap_u64]; omega
  have ewa : IntKind.i64.wrap ta = ta := by rw [IntKind.wrap_i64]; omega
  obtain ⟨za, hza⟩ : ∃ z : Nat, (z : Int) = 64 + ta := ⟨(64 + ta).toNat, by omega⟩
  have exa : IntKind.i64.wrap (64 + ta) = (za : Int) := by rw [IntKind.wrap_i64]; omega
  have bza : 64 ≤ za ∧ za < 88 := by omega
  have hzz : Hid (stz n = za) := by show stz n = za; unfold stz; rw [← hqa]; omega
  replace hqa := hide hqa; replace hta := hide hta; replace hza := hide hza; replace hf0 := hide hf0
  go_enter Tryd.func8, Tryd.ntmps8
  go_upto_region 1 with fail
  obtain ⟨v0, hv0⟩ : ∃ v, v = w := ⟨_, rfl⟩
  rw [← hv0] at hT hf0 ⊢
  refine wp_region_lit ?_
  refine list_val (.int .i64 n) (by kernel_rfl) (by kernel_rfl) ?_
  simp only [nrm]
  refine list_val (.int .u64 qa) (by kernel_rfl) (by have h9 := unhide hqa; go_simp) ?_
  simp only [nrm]
  refine list_val (.int .u64 ta) (by kernel_rfl) (by go_simp) ?_
  simp only [nrm]
  refine list_val (.int .i64 ta) (by kernel_rfl) (by go_simp) ?_
  simp only [nrm]
  refine list_val (.int .i64 (za : Int)) (by kernel_rfl) (by go_simp) ?_
  simp only [nrm]
  refine list_call 29 #[.int .i64 (za : Int)] (by kernel_rfl) (by kernel_rfl) ((dnew_ok (za : Int) _).mono ?_)
  intro r v1 h6
  unfold Dne at h6
  rw [if_pos ⟨by omega, by omega⟩] at h6
  obtain ⟨gd, F, rfl, hL, hF, hg1⟩ := h6
  rw [Int.toNat_natCast] at hL
  have kD := dk0_ok za (by omega) (by omega)
  have kl : (dk0 za).safe.length = za := by unfold dk0; simp
  have kd : (dk0 za).dead = false := rfl
  have kf : (dk0 za).left = -1 := rfl
  have kcur : ∀ j, j < za → (dk0 za).cur j = ZB := fun j hj => dk0_cur za j hj
  generalize dk0 za = D0 at *
  refine ⟨_, rfl, ?_⟩
  replace hL := hide hL; replace hF := hide hF; replace kD := hide kD; replace hg1 := hide hg1; replace kf := hide kf; replace kcur := hide kcur
  simp only [nrm]
  refine list_val (.tuple #[.pointer (some ⟨gd, 0, none⟩), .int .i64 0]) (by kernel_rfl) (by kernel_rfl) ?_
  simp only [nrm]
  refine list_val (.pointer (some ⟨gd, 0, none⟩)) (by kernel_rfl) (by kernel_rfl) ?_
  simp only [nrm]
  refine list_val (.int .i64 0) (by kernel_rfl) (by kernel_rfl) ?_
  simp only [nrm]
  (refine wpList_step fun K hK => ?_; replace hK := hide hK; go_simp; refine unhide hK _ _ ?_; clear hK K)
  (refine wpList_step fun K hK => ?_; replace hK := hide hK; go_simp; refine unhide hK _ _ ?_; clear hK K)
  refine wpList_nil ?_
  go_upto_region 4 with fail
  refine wp_region_lit ?_
  refine list_val (.pointer (some ⟨gd, 0, none⟩)) (by kernel_rfl) (by kernel_rfl) ?_
  simp only [nrm]
  refine list_call 30 #[P0 gd] (by kernel_rfl) (by kernel_rfl) ((eformat_ok F gd 0 D0 (unhide kD) (by omega) kd (unhide kf) (by omega) _ (unhide hL) ((unhide hf0).gr (unhide hg1)) (fun e => by have := unhide hF 0 e; have := fst_size (unhide hf0); omega)).mono ?_)
  rintro r v2 ⟨g, F2, G, rfl, hL2, hS, hG, hap, hc⟩
  obtain ⟨q1, q2, q3⟩ := wd_fmt (unhide kD) kd (unhide kf) (by omega) (by rw [kl]; exact unhide kcur)
  generalize (Dk.runD fmtOps D0).1 = D1 at *
  have hX : Xs v0 F2 G g gd D1 sup0 v2 := by
    have hown : ∀ i ∈ F2, v0.heap.size ≤ i := fun i hi => (hc.new i hi).elim (unhide hF i) (fun e => Nat.le_trans (unhide hg1).size e)
    exact ⟨Chg.own (unhide hg1) hc (unhide hF), hL2, by rw [q3]; exact hS, hown, fun i hi => Nat.le_trans (unhide hg1).size (hG i hi), hap⟩
  have kn1 : D1.safe.length = za := q3.trans kl
  obtain ⟨s1, s2, s3, s4⟩ := sup0_is
  refine ⟨_, rfl, ?_⟩
  clear hL2 hS hG hap hc q1 hL hF kD hg1 kl kd kf q3 s1 s2 s3 s4 kcur
  replace hX := hide hX; replace q2 := hide q2
  simp only [nrm]
  refine list_val (.tuple #[.pointer (some ⟨g, 0, none⟩), .int .i64 0]) (by kernel_rfl) (by kernel_rfl) ?_
  simp only [nrm]
  refine list_val (.pointer (some ⟨g, 0, none⟩)) (by kernel_rfl) (by kernel_rfl) ?_
  simp only [nrm]
  refine list_val (.int .i64 0) (by kernel_rfl) (by kernel_rfl) ?_
  simp only [nrm]
  (refine wpList_step fun K hK => ?_; replace hK := hide hK; go_simp; refine unhide hK _ _ ?_; clear hK K)
  (refine wpList_step fun K hK => ?_; replace hK := hide hK; go_simp; refine unhide hK _ _ ?_; clear hK K)
  refine wpList_nil ?_
  have hZ : Hid (Str (stz n) v0 (.returned (.tuple #[P0 gd, P0 g])) v2) := ⟨F2, G, g, gd, D1, rfl, unhide hX, unhide q2, by rw [unhide hzz]; exact kn1⟩
  clear hX q2
  go_wp2_with fail
  rw [unhide hT]
  exact unhide hZ
theorem exec_upto2 {a : Act} {o : Oper} (w : World) (x y : Operand) (ho : o.op = .slice 32 x none (some y) none) (s : Option Addr) (len cap n : Nat) (hx : a.eval x = .slice s len cap) (hy : a.eval y = .int .i64 n) (hc : len ≤ cap) (hn : n ≤ len) :
    (execOp a.eval o).run Tryd.prog w = .ok (.value (.slice s n cap)) w := by
  have h := exec_upto (a := a) (o := o) w x y ho s len cap n hx hy hc hn
  have h3 : s.map (·.add 0) = s := by
    cases s with
    | none => rfl
    | some q => cases q with | mk b_ o_ s_ => cases s_ <;> rfl
  rw [h3, ite_self] at h
  exact h
theorem exec_few {a : Act} {o : Oper} (w : World) (x y : Operand) (ho : o.op = .slice 22 x none (some y) none) (s : Option Addr) (len cap n : Nat) (hx : a.eval x = .slice s len cap) (hy : a.eval y = .int .i64 n) (hc : len ≤ cap) (hn : n ≤ len) :
    (execOp a.eval o).run Tryd.prog w = .ok (.value (.slice s n cap)) w := by
  have h1 : (0 : Int) ≤ n := by omega
  have h2 : (n : Int) ≤ cap := by omega
  have hu : Tryd.prog.underlying 22 = some (.slice (Tryd.prog.elem 22)) := by kernel_rfl
  have hz : (sizeOf (Tryd.prog.elem 22)).run Tryd.prog w = .ok 2 w := by kernel_rfl
  have h3 : s.map (·.add 0) = s := by
    cases s with
    | none => rfl
    | some q => cases q with | mk b_ o_ s_ => cases s_ <;> rfl
  simp [execOp, ho, hx, hy, run_sliceAt_slice _ _ _ _ _ _ hu, run_slice_h _ _ _ _ _ hu _ _ h1 h2, hz, sliced, h3]
set_option maxHeartbeats 4000000 in
theorem kind12_ok (k : Int) (a : Option Addr) (n c : Nat) (w : World) : Calls Tryd.prog 12 #[.agg #[.int .i64 k, .slice a n c]] w (Vl (.int .i64 (IntKind.u64.wrap k % 3)) w) := by
  obtain ⟨T, hT⟩ : ∃ T, T = Vl (.int .i64 (IntKind.u64.wrap k % 3)) w := ⟨_, rfl⟩
  rw [← hT]
  replace hT := hide hT
  obtain ⟨q, hq⟩ : ∃ q : Int, q = IntKind.u64.wrap k := ⟨_, rfl⟩
  have pa : 0 ≤ q ∧ q < 18446744073709551616 := by rw [hq, IntKind.wrap_u64]; omega
  obtain ⟨t, ht⟩ : ∃ t : Int, t = q % 3 := ⟨_, rfl⟩
  have eta : q.tmod 3 = t := by rw [Int.tmod_eq_emod_of_nonneg pa.1, ht]
  have ewu : IntKind.u64.wrap t = t := by rw [IntKind.wrap_u64]; omega
  have ewa : IntKind.i64.wrap t = t := by rw [IntKind.wrap_i64]; omega
  have hT2 : Hid (T = Vl (.int .i64 t) w) := by show T = _; rw [unhide hT, ht, hq]
  replace hq := hide hq; replace ht := hide ht
  go_enter Tryd.func12, Tryd.ntmps12
  go_upto_region 1 with fail
  have hB := ((Bl.nil w).new #[.int .i64 k, .slice a n c] 36)
  simp only [size_alloc, List.nil_append, List.cons_append] at hB
  generalize World.alloc _ _ = u at *
  replace hB : Bl w [⟨w.heap.size, #[.int .i64 k, .slice a n c], 36⟩] u := hB
  refine wp_region_lit ?_
  refine list_val (.pointer (some ⟨w.heap.size, 0, none⟩)) (by kernel_rfl) (by kernel_rfl) ?_
  simp only [nrm]
  refine list_val (.int .i64 k) (by kernel_rfl) (exec_i64 _ (.tmp 3) rfl (w.heap.size) 0 (by kernel_rfl) k (cell_of (hB.get 0 (x := ⟨w.heap.size, #[.int .i64 k, .slice a n c], 36⟩) rfl) (i := 0) rfl)) ?_
  simp only [nrm]
  refine list_val (.int .u64 q) (by kernel_rfl) (by have h9 := unhide hq; go_simp) ?_
  simp only [nrm]
  refine list_val (.int .u64 t) (by kernel_rfl) (by go_simp) ?_
  simp only [nrm]
  refine list_val (.int .i64 t) (by kernel_rfl) (by go_simp) ?_
  simp only [nrm]
  (refine wpList_step fun K hK => ?_; replace hK := hide hK; go_simp; refine unhide hK _ _ ?_; clear hK K)
  refine wpList_nil ?_
  have hZ : Hid (Vl (.int .i64 t) w (.returned (.int .i64 t)) u) := ⟨rfl, hB.gr⟩
  replace hB := hide hB
  go_wp2_with fail
  rw [unhide hT2]
  exact unhide hZ
set_option maxHeartbeats 4000000 in
theorem bytes12_ok (k : Int) (a : Option Addr) (n c : Nat) (hc : n ≤ c) (hm : c < 9223372036854775808) (w : World) : Calls Tryd.prog 11 #[.agg #[.int .i64 k, .slice a n c]] w (Vl (.slice a (min n 2500) c) w) := by
  obtain ⟨T, hT⟩ : ∃ T, T = Vl (.slice a (min n 2500) c) w := ⟨_, rfl⟩
  rw [← hT]
  replace hT := hide hT
  obtain ⟨q, hq⟩ : ∃ q : Nat, q = min n 2500 := ⟨_, rfl⟩
  have hmn : (if (2500 : Int) < (n : Int) then (2500 : Int) else (n : Int)) = (q : Int) := by split <;> omega
  have hqn : q ≤ n := by omega
  have hT2 : Hid (T = Vl (.slice a q c) w) := by show T = _; rw [unhide hT, hq]
  replace hq := hide hq
  go_enter Tryd.func11, Tryd.ntmps11
  go_upto_region 1 with fail
  have hB := ((Bl.nil w).new #[.int .i64 k, .slice a n c] 36)
  simp only [size_alloc, List.nil_append, List.cons_append] at hB
  generalize World.alloc _ _ = u at *
  replace hB : Bl w [⟨w.heap.size, #[.int .i64 k, .slice a n c], 36⟩] u := hB
  refine wp_region_lit ?_
  refine list_val (.pointer (some ⟨w.heap.size, 1, none⟩)) (by kernel_rfl) (by kernel_rfl) ?_
  simp only [nrm]
  refine list_val (.slice a n c) (by kernel_rfl) (exec_sby _ (.tmp 3) rfl (w.heap.size) 1 (by kernel_rfl) a n c (cell_of (hB.get 0 (x := ⟨w.heap.size, #[.int .i64 k, .slice a n c], 36⟩) rfl) (i := 1) rfl)) ?_
  simp only [nrm]
  refine list_val (.pointer (some ⟨w.heap.size, 1, none⟩)) (by kernel_rfl) (by kernel_rfl) ?_
  simp only [nrm]
  refine list_val (.slice a n c) (by kernel_rfl) (exec_sby _ (.tmp 5) rfl (w.heap.size) 1 (by kernel_rfl) a n c (cell_of (hB.get 0 (x := ⟨w.heap.size, #[.int .i64 k, .slice a n c], 36⟩) rfl) (i := 1) rfl)) ?_
  simp only [nrm]
  refine list_val (.int .i64 (n : Int)) (by kernel_rfl) (by kernel_rfl) ?_
  simp only [nrm]
  refine list_val (.int .i64 (q : Int)) (by kernel_rfl) (by go_simp) ?_
  simp only [nrm]
  refine list_val (.slice a q c) (by kernel_rfl) (exec_upto2 _ (.tmp 4) (.tmp 8) rfl a n c q (by kernel_rfl) (by kernel_rfl) hc hqn) ?_
  simp only [nrm]
  (refine wpList_step fun K hK => ?_; replace hK := hide hK; go_simp; refine unhide hK _ _ ?_; clear hK K)
  refine wpList_nil ?_
  have hZ : Hid (Vl (.slice a q c) w (.returned (.slice a q c)) u) := ⟨rfl, hB.gr⟩
  replace hB := hide hB
  go_wp2_with fail
  rw [unhide hT2]
  exact unhide hZ
set_option maxHeartbeats 4000000 in
theorem few12_ok (a : Option Addr) (n c : Nat) (hc : n ≤ c) (hm : c < 9223372036854775808) (w : World) : Calls Tryd.prog 10 #[.slice a n c] w (Vl (.slice a (min n 30) c) w) := by
  obtain ⟨T, hT⟩ : ∃ T, T = Vl (.slice a (min n 30) c) w := ⟨_, rfl⟩
  rw [← hT]
  replace hT := hide hT
  obtain ⟨q, hq⟩ : ∃ q : Nat, q = min n 30 := ⟨_, rfl⟩
  have hmn : (if (30 : Int) < (n : Int) then (30 : Int) else (n : Int)) = (q : Int) := by split <;> omega
  have hqn : q ≤ n := by omega
  have hT2 : Hid (T = Vl (.slice a q c) w) := by show T = _; rw [unhide hT, hq]
  replace hq := hide hq
  go_enter Tryd.func10, Tryd.ntmps10
  go_upto_region 1 with fail
  refine wp_region_lit ?_
  refine list_val (.slice a n c) (by kernel_rfl) (by kernel_rfl) ?_
  simp only [nrm]
  refine list_val (.slice a n c) (by kernel_rfl) (by kernel_rfl) ?_
  simp only [nrm]
  refine list_val (.int .i64 (n : Int)) (by kernel_rfl) (by kernel_rfl) ?_
  simp only [nrm]
  refine list_val (.int .i64 (q : Int)) (by kernel_rfl) (by go_simp) ?_
  simp only [nrm]
  refine list_val (.slice a q c) (by kernel_rfl) (exec_few _ (.tmp 3) (.tmp 6) rfl a n c q (by kernel_rfl) (by kernel_rfl) hc hqn) ?_
  simp only [nrm]
  (refine wpList_step fun K hK => ?_; replace hK := hide hK; go_simp; refine unhide hK _ _ ?_; clear hK K)
  refine wpList_nil ?_
  have hZ : Hid (Vl (.slice a q c) w (.returned (.slice a q c)) w) := ⟨rfl, Gr.refl w⟩
  go_wp2_with fail
  rw [unhide hT2]
  exact unhide hZ
structure Ox (b : Nat) (w : World) (v : Value) (X : List (List Int)) : Prop where
  own : ∃ vs : List Value, Or_ 1 32 b w v (vs.map fun s => [s]) ∧ vs.length = X.length ∧ ∀ i, i < X.length → Ob b w (vs.getD i undef) (X.getD i [])
  isB : ∀ x ∈ X, IsB x ∧ x.length ≤ 140737488351232
theorem Ox.gr {b : Nat} {w u : World} {v : Value} {X : List (List Int)} (h : Ox b w v X) (g : Gr w u) : Ox b u v X := by
  obtain ⟨vs, h1, h2, h3⟩ := h.own
  exact ⟨⟨vs, h1.gr g, h2, fun i hi => (h3 i hi).gr g⟩, h.isB⟩
theorem Ox.nil (b : Nat) (w : World) : Ox b w (.slice none 0 0) [] := ⟨⟨[], ⟨fun r hr => (by cases hr), rfl, .inl ⟨rfl, rfl⟩⟩, rfl, fun i hi => absurd hi (Nat.not_lt_zero i)⟩, fun x hx => (by cases hx)⟩
theorem Ox.lq {b : Nat} {w : World} {v : Value} {X : List (List Int)} (h : Ox b w v X) : ∃ a c, v = .slice a X.length c ∧ Lq w a X.length c X := by
  obtain ⟨vs, h1, h2, h3⟩ := h.own
  obtain ⟨a, c, e, hl⟩ := h1.ls
  rw [List.length_map, h2] at e hl
  refine ⟨a, c, e, rfl, ?_, hl.cap, hl.max⟩
  rcases Nat.eq_zero_or_pos X.length with h0 | h0
  · exact .inl h0
  · right
    obtain ⟨p, o, e1, -⟩ := hl.at_ 0 h0
    refine ⟨p, o, e1, fun i hi => ?_⟩
    obtain ⟨p2, o2, e2, hr⟩ := hl.at_ i hi
    rw [e1] at e2
    injection e2 with e2
    injection e2 with e3 e4
    subst e3 e4
    have hx := h.isB (X.getD i []) (mem_of_getD hi)
    obtain ⟨ai, ci, e5, l5⟩ := ob_lb (h3 i hi) hx.1 rfl
    refine ⟨ai, (X.getD i []).length, ci, ?_, l5, hx.2⟩
    have hv : (vs.map fun s => [s]).getD i [] = [vs.getD i undef] := by
      have hiv : i < vs.length := by rw [h2]; exact hi
      simp [List.getD_eq_getElem?_getD, hiv]
    rw [hv, e5] at hr
    have h6 := hr 0 _ rfl
    rw [Nat.one_mul, Nat.add_zero] at h6
    exact h6
theorem cn4_is {b : List Int} (hb : BB b) : (cn4 b : Int) = b.getD 13 0 + 256 * b.getD 14 0 + 65536 * b.getD 15 0 + 16777216 * b.getD 16 0 := by
  have hl := hb.1
  have e : (b.drop 13).take 4 = [b.getD 13 0, b.getD 14 0, b.getD 15 0, b.getD 16 0] := by
    apply List.ext_getElem?
    intro i
    rw [List.getElem?_take]
    rcases i with _ | _ | _ | _ | i
    · simp [List.getD_eq_getElem?_getD, hl]
    · simp [List.getD_eq_getElem?_getD, hl]
    · simp [List.getD_eq_getElem?_getD, hl]
    · simp [List.getD_eq_getElem?_getD, hl]
    · rw [if_neg (by omega)]
      simp
  have hr : ∀ i, i < 64 → 0 ≤ b.getD i 0 ∧ b.getD i 0 < 256 := fun i hi => hb.2 _ (mem_of_getD (by rw [hl]; exact hi))
  have r0 := hr 13 (by omega)
  have r1 := hr 14 (by omega)
  have r2 := hr 15 (by omega)
  have r3 := hr 16 (by omega)
  unfold cn4
  rw [e]
  simp only [lowN]
  omega
theorem usd_ge (X : List (List Int)) : X.length ≤ usd X := by
  induction X with
  | nil => exact Nat.le_refl _
  | cons x r ih => rw [List.length_cons, usd]; unfold ned; omega
theorem istx_to {B : Nat → List Int} {N t k u : Nat} {y : List Int} (hN : N ≤ 100000) (h : IsTx B N t k u y) : cn4 (B u) = y.length ∧ (bod B (u + 1) (ned (cn4 (B u)) - 1)).take (cn4 (B u)) = y ∧ ∀ i, i < ned y.length → B (u + i) = (secs t k y).getD i [] := by
  have e := h.cnt hN
  refine ⟨e, by rw [e]; exact istx_bod h, fun i hi => ?_⟩
  rcases i with _ | i
  · rw [Nat.add_zero, h.mrk]
    rfl
  · rw [show u + (i + 1) = u + 1 + i from by omega, h.da i (by unfold ned at hi; omega)]
    unfold secs secN
    rw [List.getD_eq_getElem?_getD, List.getElem?_cons_succ, List.getElem?_map, List.getElem?_range (by unfold ned at hi; omega)]
    rfl
theorem bod_len {B : Nat → List Int} {o : Nat} : ∀ (k : Nat), (∀ i, i < k → BB (B (o + i))) → (bod B o k).length = 63 * k ∧ IsB (bod B o k)
  | 0, _ => ⟨rfl, fun x hx => (by cases hx)⟩
  | k + 1, h => by
    obtain ⟨h1, h2⟩ := bod_len k (fun i hi => h i (by omega))
    have h3 := h k (by omega)
    rw [bod]
    refine ⟨by rw [List.length_append, h1, List.length_drop, h3.1]; omega, isB_app h2 (isB_drop h3.2 1)⟩
theorem Tryd.infoBs : (Tryd.prog.info? 32).map (fun i => (i.zero, i.size, i.bytes)) = some (some (.slice none 0 0), 1, 24) := by kernel_rfl
theorem lt_s : Lt 33 32 1 24 := by
  obtain ⟨i, h1, h2, h3, h4⟩ := info_parts Tryd.infoBs
  exact ⟨Tryd.underlying33, ⟨i, _, h1, h2, h3, h4, rfl⟩, by decide, by decide⟩
theorem ob_grown {b : Nat} {w w' : World} {s v : Value} {x : List Int} {R : List (List Value)} (ho : Ob b w s x) (hr : Or_ 1 32 b w v R) (g : w.grownBy w' v.ownBlock) : Ob b w' s x := by
  refine ⟨ho.1, ?_⟩
  rcases ho.2 with h | ⟨p, cap, cur, h1, h2, h3, h4⟩
  · exact .inl h
  · refine .inr ⟨p, cap, cur, h1, h2, ?_, h4⟩
    rw [g.block p (lt_of_block h3) ?_]
    · exact h3
    · intro e2
      rcases hr.2.2 with ⟨rfl, _⟩ | ⟨q, cap2, cur2, rfl, _, h6, _⟩
      · simp [Value.ownBlock] at e2
      · have e3 : p = q := by simpa [Value.ownBlock] using e2
        rw [e3, h6] at h3
        have e4 := Option.some.inj h3
        injection e4 with _ h8 _
        exact absurd h8 (by decide)
theorem Ox.snoc {b : Nat} {w w' : World} {v v' s : Value} {X : List (List Int)} {vs : List Value} {x : List Int} (h1 : Or_ 1 32 b w v (vs.map fun s => [s])) (h2 : vs.length = X.length) (h3 : ∀ i, i < X.length → Ob b w (vs.getD i undef) (X.getD i [])) (hB : ∀ x ∈ X, IsB x ∧ x.length ≤ 140737488351232) (hs : Ob b w s x) (hx : IsB x ∧ x.length ≤ 140737488351232) (g : w.grownBy w' v.ownBlock) (h4 : Or_ 1 32 b w' v' ((vs.map fun s => [s]) ++ [[s]])) : Ox b w' v' (X ++ [x]) := by
  refine ⟨⟨vs ++ [s], by rw [List.map_append]; exact h4, by rw [List.length_append, List.length_append, h2]; rfl, fun i hi => ?_⟩, fun y hy => ?_⟩
  · rw [List.length_append] at hi
    by_cases hl : i < X.length
    · rw [List.getD_eq_getElem?_getD, List.getD_eq_getElem?_getD, List.getElem?_append_left (by rw [h2]; exact hl), List.getElem?_append_left hl, ← List.getD_eq_getElem?_getD, ← List.getD_eq_getElem?_getD]
      exact ob_grown (h3 i hl) h1 g
    · have e : i = X.length := by simp at hi; omega
      subst e
      have e1 : (vs ++ [s]).getD X.length undef = s := by rw [← h2]; simp
      have e2 : (X ++ [x]).getD X.length [] = x := by simp
      rw [e1, e2]
      exact ob_grown hs h1 g
  · rcases List.mem_append.1 hy with hy | hy
    · exact hB y hy
    · rw [List.mem_singleton] at hy
      rw [hy]
      exact hx
set_option maxHeartbeats 1000000 in
theorem wneed_ok (n : Int) (h1 : -9223372036854775808 ≤ n) (h2 : n < 9223372036854775808) (w : World) : Calls Tryd.prog 25 #[.int .i64 n] w (Vl (.int .i64 (nedI n)) w) := by
  obtain ⟨T, hT⟩ : ∃ T, T = Vl (.int .i64 (nedI n)) w := ⟨_, rfl⟩
  rw [← hT]
  by_cases h0 : n < 0
  · have e : nedI n = 0 := by unfold nedI; rw [if_pos h0]
    rw [e] at hT
    replace hT := hide hT
    clear e
    have hZ : Hid (Vl (.int .i64 0) w (.returned (.int .i64 0)) w) := ⟨rfl, Gr.refl w⟩
    go_enter Tryd.func25, Tryd.ntmps25
    go_wp2_with fail
    rw [unhide hT]
    exact unhide hZ
  · obtain ⟨q, hq⟩ : ∃ q : Int, q = n / 63 := ⟨_, rfl⟩
    obtain ⟨r, hr⟩ : ∃ r : Int, r = n % 63 := ⟨_, rfl⟩
    have e1 : n.tdiv 63 = q := by rw [Int.tdiv_eq_ediv_of_nonneg (by omega), hq]
    have e2 : n.tmod 63 = r := by rw [Int.tmod_eq_emod_of_nonneg (by omega), hr]
    have e3 : IntKind.i64.wrap q = q := by rw [IntKind.wrap_i64]; omega
    have e4 : IntKind.i64.wrap r = r := by rw [IntKind.wrap_i64]; omega
    have e5 : IntKind.i64.wrap (1 + q) = q + 1 := by rw [IntKind.wrap_i64]; omega
    by_cases hr0 : r < 1
    · have e : nedI n = q + 1 + 0 := by unfold nedI; rw [if_neg h0]; omega
      rw [e] at hT
      replace hT := hide hT
      obtain ⟨s, hs⟩ : ∃ s : Int, s = q + 1 + 0 := ⟨_, rfl⟩
      rw [← hs] at hT
      have e6 : IntKind.i64.wrap (q + 1 + 0) = s := by rw [IntKind.wrap_i64]; omega
      have e7 : IntKind.i64.wrap (q + 1) = s := by rw [IntKind.wrap_i64]; omega
      clear e5
      have e5 : IntKind.i64.wrap (1 + q) = s := by rw [IntKind.wrap_i64]; omega
      replace hs := hide hs
      replace hq := hide hq; replace hr := hide hr
      have hrz : r = 0 := by have := unhide hr; omega
      have e8 : IntKind.i64.wrap s = s := by have := unhide hs; have := unhide hq; rw [IntKind.wrap_i64]; omega
      subst hrz
      clear e
      have hZ : Hid (Vl (.int .i64 s) w (.returned (.int .i64 s)) w) := ⟨rfl, Gr.refl w⟩
      go_enter Tryd.func25, Tryd.ntmps25
      go_upto_region 3 with fail
      refine wp_region_lit ?_
      refine list_val (.int .i64 n) (by kernel_rfl) (by kernel_rfl) ?_
      simp only [nrm]
      refine list_val (.int .i64 q) (by kernel_rfl) (by go_simp) ?_
      simp only [nrm]
      refine list_val (.int .i64 s) (by kernel_rfl) (by go_simp) ?_
      simp only [nrm]
      refine list_val (.int .i64 n) (by kernel_rfl) (by kernel_rfl) ?_
      simp only [nrm]
      refine list_val (.int .i64 0) (by kernel_rfl) (by go_simp) ?_
      simp only [nrm]
      refine list_val (.int .i64 0) (by kernel_rfl) (by kernel_rfl) ?_
      simp only [nrm]
      refine list_val (.int .i64 s) (by kernel_rfl) (by go_simp) ?_
      simp only [nrm]
      (refine wpList_step fun K hK => ?_; replace hK := hide hK; go_simp; refine unhide hK _ _ ?_; clear hK K)
      refine wpList_nil ?_
      go_wp2_with fail
      rw [unhide hT]
      exact unhide hZ
    
    · have e : nedI n = q + 1 + 1 := by unfold nedI; rw [if_neg h0]; omega
      rw [e] at hT
      replace hT := hide hT
      obtain ⟨s, hs⟩ : ∃ s : Int, s = q + 1 + 1 := ⟨_, rfl⟩
      rw [← hs] at hT
      have e6 : IntKind.i64.wrap (q + 1 + 1) = s := by rw [IntKind.wrap_i64]; omega
      skip
      skip
      skip
      replace hs := hide hs
      replace hq := hide hq; replace hr := hide hr
      skip
      skip
      skip
      clear e
      have hZ : Hid (Vl (.int .i64 s) w (.returned (.int .i64 s)) w) := ⟨rfl, Gr.refl w⟩
      go_enter Tryd.func25, Tryd.ntmps25
      go_upto_region 3 with fail
      refine wp_region_lit ?_
      refine list_val (.int .i64 n) (by kernel_rfl) (by kernel_rfl) ?_
      simp only [nrm]
      refine list_val (.int .i64 q) (by kernel_rfl) (by go_simp) ?_
      simp only [nrm]
      refine list_val (.int .i64 (q + 1)) (by kernel_rfl) (by go_simp) ?_
      simp only [nrm]
      refine list_val (.int .i64 n) (by kernel_rfl) (by kernel_rfl) ?_
      simp only [nrm]
      refine list_val (.int .i64 r) (by kernel_rfl) (by go_simp) ?_
      simp only [nrm]
      refine list_val (.int .i64 1) (by kernel_rfl) (by go_simp; omega) ?_
      simp only [nrm]
      refine list_val (.int .i64 s) (by kernel_rfl) (by go_simp) ?_
      simp only [nrm]
      (refine wpList_step fun K hK => ?_; replace hK := hide hK; go_simp; refine unhide hK _ _ ?_; clear hK K)
      refine wpList_nil ?_
      go_wp2_with fail
      rw [unhide hT]
      exact unhide hZ
set_option maxHeartbeats 4000000 in
theorem wfits_ok (n k : Int) (h1 : -9223372036854775808 ≤ n) (h2 : n < 9223372036854775808) (w : World) : Calls Tryd.prog 33 #[.int .i64 n, .int .i64 k] w (Vl (.bool (decide (0 ≤ n ∧ nedI n ≤ k))) w) := by
  obtain ⟨T, hT⟩ : ∃ T, T = Vl (.bool (decide (0 ≤ n ∧ nedI n ≤ k))) w := ⟨_, rfl⟩
  rw [← hT]
  replace hT := hide hT
  by_cases h0 : 0 ≤ n
  · obtain ⟨rr, hrr⟩ : ∃ b, b = decide (nedI n ≤ k) := ⟨_, rfl⟩
    have e : decide (0 ≤ n ∧ nedI n ≤ k) = rr := by rw [hrr]; simp [h0]
    replace hrr := hide hrr
    rw [e] at hT
    clear e
    have hB := Bl.nil w
    go_enter Tryd.func33, Tryd.ntmps33
    go_upto_region 1 with fail
    refine wp_region_lit ?_
    refine list_val (.int .i64 n) (by kernel_rfl) (by kernel_rfl) ?_
    simp only [nrm]
    refine list_val (.bool true) (by kernel_rfl) (by go_simp) ?_
    simp only [nrm]
    refine list_val (.bool true) (by kernel_rfl) (by kernel_rfl) ?_
    simp only [nrm]
    refine list_val (.int .i64 n) (by kernel_rfl) (by kernel_rfl) ?_
    simp only [nrm]
    refine list_call 25 #[.int .i64 n] (by kernel_rfl) (by kernel_rfl) ((wneed_ok n h1 h2 _).mono ?_)
    rintro r u ⟨rfl, hg⟩
    refine ⟨_, rfl, ?_⟩
    replace hB := hB.more hg
    clear hg
    have hq : rr = decide (nedI n ≤ k) := unhide hrr
    clear hrr
    generalize nedI n = q at *
    replace hq := hide hq
    simp only [nrm]
    refine list_val (.int .i64 k) (by kernel_rfl) (by kernel_rfl) ?_
    simp only [nrm]
    refine list_val (.bool rr) (by kernel_rfl) (by rw [unhide hq]; kernel_rfl) ?_
    simp only [nrm]
    refine list_val (.bool rr) (by kernel_rfl) (by kernel_rfl) ?_
    simp only [nrm]
    (refine wpList_step fun K hK => ?_; replace hK := hide hK; go_simp; refine unhide hK _ _ ?_; clear hK K)
    refine wpList_nil ?_
    have hZ : Hid (Vl (.bool rr) w (.returned (.bool rr)) u) := ⟨by rfl, hB.gr⟩
    clear hB
    go_wp2_with fail
    rw [unhide hT]
    exact unhide hZ
  · obtain ⟨rr, hrr⟩ : ∃ b, b = false := ⟨_, rfl⟩
    have e : decide (0 ≤ n ∧ nedI n ≤ k) = rr := by rw [hrr]; simp [h0]
    rw [e] at hT
    clear e
    have hB := Bl.nil w
    go_enter Tryd.func33, Tryd.ntmps33
    go_upto_region 1 with fail
    refine wp_region_lit ?_
    refine list_val (.int .i64 n) (by kernel_rfl) (by kernel_rfl) ?_
    simp only [nrm]
    refine list_val (.bool false) (by kernel_rfl) (by go_simp) ?_
    simp only [nrm]
    refine list_val (.bool false) (by kernel_rfl) (by kernel_rfl) ?_
    simp only [nrm]
    refine wpList_step fun K hK => ?_
    rw [if_neg (ne_true_of_eq_false (by kernel_rfl))]
    refine hK _ _ ?_
    clear hK K
    simp only [nrm]
    refine wpList_step fun K hK => ?_
    rw [if_neg (ne_true_of_eq_false (by kernel_rfl))]
    refine hK _ _ ?_
    clear hK K
    simp only [nrm]
    refine wpList_step fun K hK => ?_
    rw [if_neg (ne_true_of_eq_false (by kernel_rfl))]
    refine hK _ _ ?_
    clear hK K
    simp only [nrm]
    refine wpList_step fun K hK => ?_
    rw [if_neg (ne_true_of_eq_false (by kernel_rfl))]
    refine hK _ _ ?_
    clear hK K
    simp only [nrm]
    refine list_val (.bool false) (by kernel_rfl) (by kernel_rfl) ?_
    simp only [nrm]
    (refine wpList_step fun K hK => ?_; replace hK := hide hK; go_simp; refine unhide hK _ _ ?_; clear hK K)
    refine wpList_nil ?_
    have hZ : Hid (Vl (.bool rr) w (.returned (.bool false)) w) := ⟨by rw [hrr], hB.gr⟩
    clear hB
    go_wp2_with fail
    rw [unhide hT]
    exact unhide hZ
set_option maxHeartbeats 4000000 in
theorem wsector_ok (S : List Int) (a : Option Addr) (n c : Nat) (w : World) (hS : Lb w a n c S) (hn : n ≤ 63) : Calls Tryd.prog 56 #[.slice a n c] w (Vl (.agg (kc (lay ZB 1 S))) w) := by
  obtain ⟨T, hT⟩ : ∃ T, T = Vl (.agg (kc (lay ZB 1 S))) w := ⟨_, rfl⟩
  rw [← hT]
  replace hT := hide hT
  have hSl := hS.len
  replace hS := hide hS
  go_enter Tryd.func56, Tryd.ntmps56
  go_upto_region 1 with fail
  have hB := ((Bl.nil w).new #[.int .u8 0, .int .u8 0, .int .u8 0, .int .u8 0, .int .u8 0, .int .u8 0, .int .u8 0, .int .u8 0, .int .u8 0, .int .u8 0, .int .u8 0, .int .u8 0, .int .u8 0, .int .u8 0, .int .u8 0, .int .u8 0, .int .u8 0, .int .u8 0, .int .u8 0, .int .u8 0, .int .u8 0, .int .u8 0, .int .u8 0, .int .u8 0, .int .u8 0, .int .u8 0, .int .u8 0, .int .u8 0, .int .u8 0, .int .u8 0, .int .u8 0, .int .u8 0, .int .u8 0, .int .u8 0, .int .u8 0, .int .u8 0, .int .u8 0, .int .u8 0, .int .u8 0, .int .u8 0, .int .u8 0, .int .u8 0, .int .u8 0, .int .u8 0, .int .u8 0, .int .u8 0, .int .u8 0, .int .u8 0, .int .u8 0, .int .u8 0, .int .u8 0, .int .u8 0, .int .u8 0, .int .u8 0, .int .u8 0, .int .u8 0, .int .u8 0, .int .u8 0, .int .u8 0, .int .u8 0, .int .u8 0, .int .u8 0, .int .u8 0, .int .u8 0] 50)
  simp only [size_alloc, List.nil_append, List.cons_append] at hB
  generalize World.alloc _ _ = u at *
  replace hB : Bl w [⟨w.heap.size, kc ZB, 50⟩] u := hB
  refine wp_region_lit ?_
  refine list_val (.agg (kc ZB)) (by kernel_rfl) (by kernel_rfl) ?_
  simp only [nrm]
  refine list_valw (.pointer (some ⟨u.heap.size, 0, none⟩)) (u.alloc (.cells (kc ZB) 50 (0, 0))) (by kernel_rfl) (by kernel_rfl) ?_
  replace hB := hB.new (kc ZB) 50
  simp only [List.nil_append, List.cons_append] at hB
  generalize World.alloc _ _ = u1 at *
  generalize u.heap.size = h1 at *
  replace hB : Bl w [⟨w.heap.size, kc ZB, 50⟩, ⟨h1, kc ZB, 50⟩] u1 := hB
  simp only [nrm]
  refine list_store 50 (.tmp 3) (.tmp 4) (h1) (kc ZB) 50 (kc ZB) (by kernel_rfl) rfl (by kernel_rfl) (by kernel_rfl) (hB.get 1 (x := ⟨h1, kc ZB, 50⟩) rfl) (by rw [Tryd.infoB, kc_size, (show ZB.length = 64 from rfl)]) ((show (kc ZB).size = 64 from rfl).trans ((kc_size _).trans (show ZB.length = 64 from rfl)).symm) (kc_one _) ?_
  replace hB := hB.set 1 (x := ⟨h1, kc ZB, 50⟩) rfl (kc ZB)
  simp only [List.set_cons_zero, List.set_cons_succ] at hB
  generalize World.setRow _ _ _ = u2 at *
  replace hB : Bl w [⟨w.heap.size, kc ZB, 50⟩, ⟨h1, kc ZB, 50⟩] u2 := hB
  simp only [nrm]
  refine wpList_nil ?_
  replace hB := hide hB
  go_upto_region 2 with fail
  replace hB := unhide hB
  refine wp_region_lit ?_
  refine list_val (.slice (some ⟨h1, 1, none⟩) 63 63) (by kernel_rfl) (exec_afrom _ (.tmp 3) (.const (.int .i64 1)) rfl h1 1 (by kernel_rfl) (by kernel_rfl) (by omega)) ?_
  simp only [nrm]
  refine list_val (.slice a n c) (by kernel_rfl) (by kernel_rfl) ?_
  simp only [nrm]
  refine wpList_step fun K_ hQ => ?_
  rw [if_pos (by kernel_rfl)]
  refine copy_wp (.tmp 5) (.tmp 6) rfl h1 1 63 63 a n c (by kernel_rfl) (by kernel_rfl) (ZB.map (Value.int .u8)) 50 (hB.get 1 (x := ⟨h1, kc ZB, 50⟩) rfl) S (by rw [hSl]; exact (Nat.min_eq_left hn).symm) ((unhide hS).gr hB.gr).sl (by rw [hSl, List.length_map]; show 1 + n ≤ 64; omega) ?_
  have hcell := laid (S := S) (o := 1) (hB.get 1 (x := ⟨h1, kc ZB, 50⟩) rfl) (by rw [hSl]; show 1 + n ≤ 64; omega)
  have hB2 := hB.but (setCells_bt (S.map (Value.int .u8)) u2 h1 1) 1 (x := ⟨h1, kc ZB, 50⟩) rfl rfl hcell
  simp only [List.set_cons_zero, List.set_cons_succ] at hB2
  generalize World.setCells _ _ _ _ = u3 at *
  rw [hSl]
  have hCl : (lay ZB 1 S).length = 64 := (lay_len _ _ _ (by rw [hSl]; show 1 + n ≤ 64; omega)).trans rfl
  generalize lay ZB 1 S = CL at *
  clear hcell hB
  have hB : Bl w [⟨w.heap.size, kc ZB, 50⟩, ⟨h1, kc CL, 50⟩] u3 := hB2
  clear hB2
  refine hQ _ _ ?_
  clear hQ K_
  simp only [nrm]
  refine wpList_nil ?_
  replace hB := hide hB
  go_upto_region 3 with fail
  replace hB := unhide hB
  refine wp_region_lit ?_
  refine list_val (.agg (kc CL)) (by kernel_rfl) (exec_arr _ 50 (.tmp 3) rfl (h1) (by kernel_rfl) (kc CL) 50 _ (hB.get 1 (x := ⟨h1, kc CL, 50⟩) rfl) Tryd.underlying50 rfl (by rw [Tryd.infoB, kc_size, hCl])) ?_
  simp only [nrm]
  refine list_store 50 (.tmp 2) (.tmp 8) (w.heap.size) (kc CL) 50 (kc ZB) (by kernel_rfl) rfl (by kernel_rfl) (by kernel_rfl) (hB.get 0 (x := ⟨w.heap.size, kc ZB, 50⟩) rfl) (by rw [Tryd.infoB, kc_size, hCl]) ((show (kc ZB).size = 64 from rfl).trans ((kc_size _).trans hCl).symm) (kc_one _) ?_
  replace hB := hB.set 0 (x := ⟨w.heap.size, kc ZB, 50⟩) rfl (kc CL)
  simp only [List.set_cons_zero, List.set_cons_succ] at hB
  generalize World.setRow _ _ _ = u4 at *
  replace hB : Bl w [⟨w.heap.size, kc CL, 50⟩, ⟨h1, kc CL, 50⟩] u4 := hB
  simp only [nrm]
  refine wpList_nil ?_
  replace hB := hide hB
  go_wp2_with fail
  replace hB := unhide hB
  rw [unhide hT]
  exact bodyPost_ret (v := .agg (kc CL)) (results_cell_row Tryd.results56 _ _ (w.heap.size) 50 (kc CL) (0, 0) _ rfl (hB.get 0 (x := ⟨w.heap.size, kc CL, 50⟩) rfl) Tryd.underlying50 rfl (by rw [Tryd.infoB, kc_size, hCl])) rfl (⟨rfl, hB.gr⟩)
theorem Tryd.infoBg : (Tryd.prog.info? 99).map (·.size) = some 16 := by kernel_rfl
theorem Tryd.infoMr : (Tryd.prog.info? 101).map (·.size) = some 19 := by kernel_rfl
set_option maxHeartbeats 4000000 in
theorem wdigest_ok (B : List Int) (a : Option Addr) (n c : Nat) (w : World) (hB0 : Lb w a n c B) (hn : n ≤ 100000000) (hf : Fst w) : Calls Tryd.prog 57 #[.slice a n c] w (Vl (.agg (kc (sh16 B))) w) := by
  obtain ⟨T, hT⟩ : ∃ T, T = Vl (.agg (kc (sh16 B))) w := ⟨_, rfl⟩
  rw [← hT]
  replace hT := hide hT
  replace hB0 := hide hB0; replace hf := hide hf
  go_enter Tryd.func57, Tryd.ntmps57
  go_upto_region 1 with fail
  have hB := ((Bl.nil w).new #[.int .u8 0, .int .u8 0, .int .u8 0, .int .u8 0, .int .u8 0, .int .u8 0, .int .u8 0, .int .u8 0, .int .u8 0, .int .u8 0, .int .u8 0, .int .u8 0, .int .u8 0, .int .u8 0, .int .u8 0, .int .u8 0] 99)
  simp only [size_alloc, List.nil_append, List.cons_append] at hB
  generalize World.alloc _ _ = u at *
  replace hB : Bl w [⟨w.heap.size, kc Z16, 99⟩] u := hB
  refine wp_region_lit ?_
  refine list_val (.slice a n c) (by kernel_rfl) (by kernel_rfl) ?_
  simp only [nrm]
  refine list_call 79 #[.slice a n c] (by kernel_rfl) (by kernel_rfl) ((sum_ok B (unhide hB0).isB n (unhide hB0).len (by omega) a c (unhide hB0).cap (unhide hB0).max u ((unhide hf).gr hB.gr) ((unhide hB0).gr hB.gr).sl).mono ?_)
  rintro r u1 ⟨rfl, hg⟩
  replace hB := hB.more hg
  have kl := sumL_len B
  have kT : Hid (sh16 B = (sumL B).take 16) := rfl
  generalize sumL B = K at *
  generalize hH : sh16 B = H at *
  have hHl : H.length = 16 := by rw [unhide kT, List.length_take, kl]; rfl
  clear hg hH
  refine ⟨_, rfl, ?_⟩
  simp only [nrm]
  refine list_valw (.pointer (some ⟨u1.heap.size, 0, none⟩)) (u1.alloc (.cells (kc (List.replicate 32 0)) 128 (0, 0))) (by kernel_rfl) (by kernel_rfl) ?_
  replace hB := hB.new (kc (List.replicate 32 0)) 128
  simp only [List.nil_append, List.cons_append] at hB
  generalize World.alloc _ _ = u2 at *
  generalize u1.heap.size = h1 at *
  replace hB : Bl w [⟨w.heap.size, kc Z16, 99⟩, ⟨h1, kc (List.replicate 32 0), 128⟩] u2 := hB
  simp only [nrm]
  refine list_store 128 (.tmp 3) (.tmp 5) (h1) (kc K) 128 (kc (List.replicate 32 0)) (by kernel_rfl) rfl (by kernel_rfl) (by kernel_rfl) (hB.get 1 (x := ⟨h1, kc (List.replicate 32 0), 128⟩) rfl) (by rw [Tryd.infoKy, kc_size, kl]) (by rw [kc_size, kc_size, kl, List.length_replicate]) (kc_one _) ?_
  replace hB := hB.set 1 (x := ⟨h1, kc (List.replicate 32 0), 128⟩) rfl (kc K)
  simp only [List.set_cons_zero, List.set_cons_succ] at hB
  generalize World.setRow _ _ _ = u3 at *
  replace hB : Bl w [⟨w.heap.size, kc Z16, 99⟩, ⟨h1, kc K, 128⟩] u3 := hB
  simp only [nrm]
  refine wpList_nil ?_
  replace hB := hide hB
  go_upto_region 2 with fail
  replace hB := unhide hB
  refine wp_region_lit ?_
  refine list_val (.slice (some ⟨h1, 0, none⟩) 16 32) (by kernel_rfl) (by kernel_rfl) ?_
  simp only [nrm]
  refine list_val (.pointer (some ⟨h1, 0, none⟩)) (by kernel_rfl) (by kernel_rfl) ?_
  simp only [nrm]
  refine list_val (.agg (kc H)) (by kernel_rfl) (exec_row _ 99 (.tmp 7) rfl h1 0 (by kernel_rfl) (bv H) _ (by have h := range_sub (hB.get 1 (x := ⟨h1, kc K, 128⟩) rfl) 0 16; rw [List.drop_zero, ← unhide kT] at h; exact h) Tryd.underlying99 rfl (by rw [Tryd.infoBg, bv_len, hHl])) ?_
  simp only [nrm]
  refine list_store 99 (.tmp 2) (.tmp 8) (w.heap.size) (kc H) 99 (kc Z16) (by kernel_rfl) rfl (by kernel_rfl) (by kernel_rfl) (hB.get 0 (x := ⟨w.heap.size, kc Z16, 99⟩) rfl) (by rw [Tryd.infoBg, kc_size, hHl]) (by rw [kc_size, kc_size, hHl]; rfl) (kc_one _) ?_
  replace hB := hB.set 0 (x := ⟨w.heap.size, kc Z16, 99⟩) rfl (kc H)
  simp only [List.set_cons_zero, List.set_cons_succ] at hB
  generalize World.setRow _ _ _ = u4 at *
  replace hB : Bl w [⟨w.heap.size, kc H, 99⟩, ⟨h1, kc K, 128⟩] u4 := hB
  simp only [nrm]
  refine wpList_nil ?_
  replace hB := hide hB
  go_wp2_with fail
  replace hB := unhide hB
  rw [unhide hT]
  exact bodyPost_ret (v := .agg (kc H)) (results_cell_row Tryd.results57 _ _ (w.heap.size) 99 (kc H) (0, 0) _ rfl (hB.get 0 (x := ⟨w.heap.size, kc H, 99⟩) rfl) Tryd.underlying99 rfl (by rw [Tryd.infoBg, kc_size, hHl])) rfl (⟨rfl, hB.gr⟩)
structure Mr where
  t : Nat
  k : Nat
  n : Nat
  h : List Int
structure Mr.Ok (m : Mr) : Prop where
  t : m.t < 18446744073709551616
  k : m.k < 4294967296
  n : m.n < 4294967296
  hl : m.h.length = 16
  hb : IsB m.h
def Mr.b48 (m : Mr) : List Int := 1 :: (lowL (m.t : Int) 8 ++ (lowL (m.k : Int) 4 ++ (lowL (m.n : Int) 4 ++ (m.h ++ List.replicate 15 0))))
def Mr.blk (m : Mr) : List Int := m.b48 ++ sh16 m.b48
theorem Mr.b48_len {m : Mr} (h : m.h.length = 16) : m.b48.length = 48 := by
  unfold Mr.b48
  simp only [List.length_cons, List.length_append, lowL_len, h, List.length_replicate]
theorem Mr.blk_bb {m : Mr} (h : m.Ok) : BB m.blk := by
  have h1 : IsB m.b48 := by
    unfold Mr.b48
    have h : IsB (lowL (m.t : Int) 8 ++ (lowL (m.k : Int) 4 ++ (lowL (m.n : Int) 4 ++ (m.h ++ List.replicate 15 0)))) := isB_app (lowL_isB _ _) (isB_app (lowL_isB _ _) (isB_app (lowL_isB _ _) (isB_app h.hb (isB_rep 15))))
    intro z hz
    rcases List.mem_cons.1 hz with e | e
    · omega
    · exact h z e
  refine ⟨?_, isB_app h1 (sh16_isB _ (sumL_isB _))⟩
  unfold Mr.blk
  rw [List.length_append, Mr.b48_len h.hl, sh16_len]
theorem mkL_mr (t k : Nat) (x : List Int) : mkL t k x = (Mr.mk t k x.length (sh16 x)).blk := by
  have e : mk48 t k x = (Mr.mk t k x.length (sh16 x)).b48 := by
    unfold mk48 Mr.b48
    generalize sh16 x = H
    dsimp only
  unfold mkL Mr.blk
  rw [e]
def mrl (m : Mr) : List Value := .int .u64 (m.t : Int) :: .int .u32 (m.k : Int) :: .int .u32 (m.n : Int) :: bv m.h
def mrv (m : Mr) : Array Value := (mrl m).toArray
def ZMr : Mr := ⟨0, 0, 0, Z16⟩
theorem mrl_len {m : Mr} (h : m.h.length = 16) : (mrl m).length = 19 := by unfold mrl bv; simp [h]
theorem mrv_size {m : Mr} (h : m.h.length = 16) : (mrv m).size = 19 := by unfold mrv mrl bv; simp [h]
theorem mrv_one (m : Mr) : (mrv m).all (·.oneCell') = true := by
  unfold mrv
  rw [List.all_toArray, List.all_eq_true]
  intro x hx
  unfold mrl at hx
  simp only [List.mem_cons] at hx
  rcases hx with rfl | rfl | rfl | hx
  · rfl
  · rfl
  · rfl
  · exact bv_one' _ x hx
theorem mrv_cells {w : World} {g : Nat} {m : Mr} {t : TypeId} (h : w.heap[g]? = some (.cells (mrv m) t (0, 0))) : w.cell? ⟨g, 0, none⟩ = some (.int .u64 (m.t : Int)) ∧ w.cell? ⟨g, 1, none⟩ = some (.int .u32 (m.k : Int)) ∧ w.cell? ⟨g, 2, none⟩ = some (.int .u32 (m.n : Int)) := ⟨cell_of h (i := 0) rfl, cell_of h (i := 1) rfl, cell_of h (i := 2) rfl⟩
theorem mrv_range {w : World} {g : Nat} {m : Mr} {t : TypeId} (h : w.heap[g]? = some (.cells (mrv m) t (0, 0))) : w.rangeAt g 3 (bv m.h) := fun j x hj => by
  refine cell_of h ?_
  unfold mrv mrl
  rw [List.getElem?_toArray, show 3 + j = j + 1 + 1 + 1 from by omega, List.getElem?_cons_succ, List.getElem?_cons_succ, List.getElem?_cons_succ]
  exact hj
theorem mrv_hash {w : World} {g : Nat} {m : Mr} {t : TypeId} (h : w.heap[g]? = some (.cells (mrv m) t (0, 0))) (hl : m.h.length = 16) (hb : IsB m.h) : Lb w (some ⟨g, 3, none⟩) 16 16 m.h := by
  refine ⟨hl, hb, .inr ⟨g, 3, rfl, fun j hj => mrv_range h j _ ?_⟩, Nat.le_refl _, by omega⟩
  unfold bv
  rw [List.getElem?_map, List.getElem?_eq_getElem hj]
  simp [List.getD_eq_getElem?_getD, hj]
theorem sp_mrl (m : Mr) (h : List Int) (hs : m.h.length = h.length) : sp (mrl m) 3 (h.map (Value.int .u8)) = mrl ⟨m.t, m.k, m.n, h⟩ := by
  have e := sp_mid (h.map (Value.int .u8)) [.int .u64 (m.t : Int), .int .u32 (m.k : Int), .int .u32 (m.n : Int)] (bv m.h) [] (by unfold bv; rw [List.length_map, List.length_map, hs])
  rw [List.append_nil, List.append_nil] at e
  exact e
theorem exec_bmr {a : Act} {o : Oper} (w : World) (x y z t : Operand) (ho : o.op = .build 101 #[(0, x), (1, y), (2, z), (3, t)]) (m : Mr) (hb : m.h.length = 16) (hx : a.eval x = .int .u64 (m.t : Int)) (hy : a.eval y = .int .u32 (m.k : Int)) (hz : a.eval z = .int .u32 (m.n : Int)) (ht : a.eval t = .agg (kc m.h)) :
    (execOp a.eval o).run Tryd.prog w = .ok (.value (.agg (mrv m))) w := by
  obtain ⟨pl, tu, sz, hh⟩ := m
  dsimp only at *
  obtain ⟨m0, m1, m2, m3, m4, m5, m6, m7, m8, m9, m10, m11, m12, m13, m14, m15, rfl⟩ := list16 hh hb
  have h := run_build (P := Tryd.prog) w 101 #[(0, .int .u64 (pl : Int)), (1, .int .u32 (tu : Int)), (2, .int .u32 (sz : Int)), (3, .agg (kc [m0, m1, m2, m3, m4, m5, m6, m7, m8, m9, m10, m11, m12, m13, m14, m15]))] (mrv ⟨pl, tu, sz, [m0, m1, m2, m3, m4, m5, m6, m7, m8, m9, m10, m11, m12, m13, m14, m15]⟩) (by kernel_rfl)
  unfold execOp
  simp only [ho, List.map_toArray, List.map_cons, List.map_nil, hx, hy, hz, ht, Sem.run_bind, h, Result.andThen_ok, Sem.run_pure]
set_option maxHeartbeats 4000000 in
theorem wdescribe_ok (t k : Nat) (ht : t < 18446744073709551616) (hk : k < 4294967296) (B : List Int) (a : Option Addr) (n c : Nat) (w : World) (hB0 : Lb w a n c B) (hn : n ≤ 100000000) (hf : Fst w) : Calls Tryd.prog 61 #[.int .u64 (t : Int), .int .i64 (k : Int), .slice a n c] w (Vl (.agg (mrv ⟨t, k, n, sh16 B⟩)) w) := by
  obtain ⟨T, hT⟩ : ∃ T, T = Vl (.agg (mrv ⟨t, k, n, sh16 B⟩)) w := ⟨_, rfl⟩
  rw [← hT]
  replace hT := hide hT
  have hHl := sh16_len B
  have hwn : IntKind.u32.wrap (n : Int) = (n : Int) := by rw [IntKind.wrap_u32]; omega
  have hwk : IntKind.u32.wrap (k : Int) = (k : Int) := by rw [IntKind.wrap_u32]; omega
  replace hB0 := hide hB0; replace hf := hide hf
  go_enter Tryd.func61, Tryd.ntmps61
  go_upto_region 1 with fail
  have hB := ((Bl.nil w).new #[.int .u64 0, .int .u32 0, .int .u32 0, .int .u8 0, .int .u8 0, .int .u8 0, .int .u8 0, .int .u8 0, .int .u8 0, .int .u8 0, .int .u8 0, .int .u8 0, .int .u8 0, .int .u8 0, .int .u8 0, .int .u8 0, .int .u8 0, .int .u8 0, .int .u8 0] 101)
  simp only [size_alloc, List.nil_append, List.cons_append] at hB
  generalize World.alloc _ _ = u at *
  replace hB : Bl w [⟨w.heap.size, mrv ZMr, 101⟩] u := hB
  refine wp_region_lit ?_
  refine list_val (.int .u64 (t : Int)) (by kernel_rfl) (by kernel_rfl) ?_
  simp only [nrm]
  refine list_val (.int .i64 (k : Int)) (by kernel_rfl) (by kernel_rfl) ?_
  simp only [nrm]
  refine list_val (.int .u32 (k : Int)) (by kernel_rfl) (by go_simp) ?_
  simp only [nrm]
  refine list_val (.slice a n c) (by kernel_rfl) (by kernel_rfl) ?_
  simp only [nrm]
  refine list_val (.int .i64 n) (by kernel_rfl) (by kernel_rfl) ?_
  simp only [nrm]
  refine list_val (.int .u32 (n : Int)) (by kernel_rfl) (by go_simp) ?_
  simp only [nrm]
  refine list_val (.slice a n c) (by kernel_rfl) (by kernel_rfl) ?_
  simp only [nrm]
  refine list_call 57 #[.slice a n c] (by kernel_rfl) (by kernel_rfl) ((wdigest_ok B a n c u ((unhide hB0).gr hB.gr) hn ((unhide hf).gr hB.gr)).mono ?_)
  rintro r u1 ⟨rfl, hg⟩
  replace hB := hB.more hg
  clear hg
  generalize sh16 B = H at *
  refine ⟨_, rfl, ?_⟩
  simp only [nrm]
  refine list_val (.agg (mrv ⟨t, k, n, H⟩)) (by kernel_rfl) (exec_bmr _ (.tmp 7) (.tmp 9) (.tmp 12) (.tmp 14) rfl ⟨t, k, n, H⟩ hHl (by kernel_rfl) (by kernel_rfl) (by kernel_rfl) (by kernel_rfl)) ?_
  simp only [nrm]
  refine list_store 101 (.tmp 6) (.tmp 15) (w.heap.size) (mrv ⟨t, k, n, H⟩) 101 (mrv ZMr) (by kernel_rfl) rfl (by kernel_rfl) (by kernel_rfl) (hB.get 0 (x := ⟨w.heap.size, mrv ZMr, 101⟩) rfl) (by rw [Tryd.infoMr, mrv_size hHl]) (by rw [mrv_size (m := ⟨t, k, n, H⟩) hHl]; rfl) (mrv_one _) ?_
  replace hB := hB.set 0 (x := ⟨w.heap.size, mrv ZMr, 101⟩) rfl (mrv ⟨t, k, n, H⟩)
  simp only [List.set_cons_zero, List.set_cons_succ] at hB
  generalize World.setRow _ _ _ = u4 at *
  replace hB : Bl w [⟨w.heap.size, mrv ⟨t, k, n, H⟩, 101⟩] u4 := hB
  simp only [nrm]
  refine wpList_nil ?_
  replace hB := hide hB
  go_wp2_with fail
  replace hB := unhide hB
  rw [unhide hT]
  exact bodyPost_ret (v := .agg (mrv ⟨t, k, n, H⟩)) (results_cell_row Tryd.results61 _ _ (w.heap.size) 101 (mrv ⟨t, k, n, H⟩) (0, 0) _ rfl (hB.get 0 (x := ⟨w.heap.size, mrv ⟨t, k, n, H⟩, 101⟩) rfl) Tryd.underlying101 rfl (by rw [Tryd.infoMr, mrv_size hHl])) rfl ⟨rfl, hB.gr⟩
set_option maxHeartbeats 4000000 in
theorem wput_ok (ga gb k : Nat) (C S : List Int) (hC : C.length = 64) (a : Option Addr) (n c : Nat) (w : World) (h1 : w.heap[ga]? = some (.cells #[.int .i64 (k : Int)] 3 (0, 0))) (h2 : w.heap[gb]? = some (.cells (kc C) 50 (0, 0))) (hS0 : Lb w a n c S) (hn : 0 < n) (hfit : k + n ≤ 64) : Calls Tryd.prog 84 #[.slice a n c, .pointer (some ⟨ga, 0, none⟩), .pointer (some ⟨gb, 0, none⟩)] w (fun r w' => r = .returned (.tuple #[]) ∧ w'.heap[ga]? = some (.cells #[.int .i64 ((k + n : Nat) : Int)] 3 (0, 0)) ∧ w'.heap[gb]? = some (.cells (kc (lay C k S)) 50 (0, 0)) ∧ Chg [ga, gb] [ga, gb] w w') := by
  obtain ⟨T, hT⟩ : ∃ T : Ending → World → Prop, T = fun r w' => r = .returned (.tuple #[]) ∧ w'.heap[ga]? = some (.cells #[.int .i64 ((k + n : Nat) : Int)] 3 (0, 0)) ∧ w'.heap[gb]? = some (.cells (kc (lay C k S)) 50 (0, 0)) ∧ Chg [ga, gb] [ga, gb] w w' := ⟨_, rfl⟩
  rw [← hT]
  replace hT := hide hT
  have hne : gb ≠ ga := ty_ne h2 h1 (by decide)
  obtain ⟨kn, hkn⟩ : ∃ x, x = k + n := ⟨_, rfl⟩
  have hw1 : IntKind.i64.wrap ((k : Int) + (n : Int)) = (kn : Int) := by rw [IntKind.wrap_i64]; omega
  have hB := ((Bc.nil [ga, gb] w).add ⟨ga, #[.int .i64 (k : Int)], 3⟩ h1 (.inl (by simp)) (fun y hy => by cases hy)).add ⟨gb, kc C, 50⟩ h2 (.inl (by simp)) (fun y hy => by simp at hy; subst hy; exact hne.symm)
  replace hB : Bc [ga, gb] w [⟨ga, #[.int .i64 (k : Int)], 3⟩, ⟨gb, kc C, 50⟩] w := hB
  clear h1 h2
  replace hS0 := hide hS0; replace hB := hide hB; replace hkn := hide hkn
  go_enter Tryd.func84, Tryd.ntmps84
  go_upto_region 0 with fail
  replace hB := unhide hB
  refine anyC_start 6 (fun (v : World) => v.heap[ga]? = some (.cells #[.int .i64 (k : Int)] 3 (0, 0))) (by kernel_rfl) ?_
  replace hB := hB.drew
  have hG := (Gr.refl w).drew
  generalize World.drew _ = x0 at *
  have hS : (fun (v : World) => v.heap[ga]? = some (.cells #[.int .i64 (k : Int)] 3 (0, 0))) x0 := (hB.get 0 (x := ⟨ga, #[.int .i64 (k : Int)], 3⟩) rfl)
  simp only [List.size_toArray, List.length_cons, List.length_nil, Array.replicate, List.replicate]
  refine anyC_take (i := 0) (v := (.int .i64 (k : Int))) (fun (v : World) => v.heap[ga]? = some (.cells #[.int .i64 (k : Int)] 3 (0, 0))) (fun _ h_ => h_) (.inr (by kernel_rfl)) rfl (by kernel_rfl) (by kernel_rfl) (by kernel_rfl) (by decide) (by kernel_rfl) (by decide) (fun _ _ _ h => h) (.inl ⟨by kernel_rfl, fun x_ hu => exec_i64 _ (.tmp 1) rfl ga 0 (by kernel_rfl) (k : Int) (cell_of hu (i := 0) rfl)⟩) hS ?_
  simp only [nrm]
  refine anyC_take (i := 1) (v := (.int .i64 (k : Int))) (fun (v : World) => v.heap[ga]? = some (.cells #[.int .i64 (k : Int)] 3 (0, 0))) (fun _ h_ => h_) (.inr (by kernel_rfl)) rfl (by kernel_rfl) (by kernel_rfl) (by kernel_rfl) (by decide) (by kernel_rfl) (by decide) (fun _ _ _ h => h) (.inl ⟨by kernel_rfl, fun x_ hu => exec_i64 _ (.tmp 1) rfl ga 0 (by kernel_rfl) (k : Int) (cell_of hu (i := 0) rfl)⟩) hS ?_
  simp only [nrm]
  refine anyC_take (i := 2) (v := (.slice (some ⟨gb, k, none⟩) (64 - k) (64 - k))) (fun (v : World) => v.heap[ga]? = some (.cells #[.int .i64 (k : Int)] 3 (0, 0))) (fun _ h_ => h_) (.inr (by kernel_rfl)) rfl (by kernel_rfl) (by kernel_rfl) (by kernel_rfl) (by decide) (by kernel_rfl) (by decide) (fun _ _ _ h => h) (.inl ⟨by kernel_rfl, fun x_ hu => exec_afrom _ (.tmp 2) (.tmp 5) rfl gb k (by kernel_rfl) (by kernel_rfl) (by omega)⟩) hS ?_
  simp only [nrm]
  refine anyC_take (i := 3) (v := (.slice a n c)) (fun (v : World) => v.heap[ga]? = some (.cells #[.int .i64 (k : Int)] 3 (0, 0))) (fun _ h_ => h_) (.inr (by kernel_rfl)) rfl (by kernel_rfl) (by kernel_rfl) (by kernel_rfl) (by decide) (by kernel_rfl) (by decide) (fun _ _ _ h => h) (.inl ⟨by kernel_rfl, fun x_ hu => by kernel_rfl⟩) hS ?_
  simp only [nrm]
  refine anyC_one (i := 4) (by kernel_rfl) rfl (fun K_ hQ => ?_)
  rw [if_pos (by kernel_rfl)]
  have hsl := (unhide hS0).len
  refine copy_wp (.tmp 6) (.tmp 7) rfl gb k (64 - k) (64 - k) a n c (by kernel_rfl) (by kernel_rfl) (C.map (Value.int .u8)) 50 (hB.get 1 (x := ⟨gb, kc C, 50⟩) rfl) S (by rw [hsl]; exact (Nat.min_eq_left (by omega)).symm) ((unhide hS0).gr hG).sl (by rw [hsl, List.length_map, hC]; omega) ?_
  have hcell := laid (S := S) (o := k) (hB.get 1 (x := ⟨gb, kc C, 50⟩) rfl) (by rw [hsl, hC]; omega)
  have hB2 := hB.but (setCells_bt (S.map (Value.int .u8)) x0 gb k) 1 (x := ⟨gb, kc C, 50⟩) rfl rfl hcell
  simp only [List.set_cons_zero, List.set_cons_succ] at hB2
  generalize World.setCells _ _ _ _ = x1 at *
  rw [hsl]
  clear hcell hB hS hG
  have hB : Bc [ga, gb] w [⟨ga, #[.int .i64 (k : Int)], 3⟩, ⟨gb, kc (lay C k S), 50⟩] x1 := hB2
  clear hB2
  generalize lay C k S = CL at *
  have hS : (fun (v : World) => v.heap[ga]? = some (.cells #[.int .i64 (k : Int)] 3 (0, 0))) x1 := (hB.get 0 (x := ⟨ga, #[.int .i64 (k : Int)], 3⟩) rfl)
  refine hQ.out _ _ hS (fun _ => ?_)
  clear hQ K_
  simp only [nrm]
  refine anyC_take (i := 5) (v := (.int .i64 (kn : Int))) (fun (v : World) => v.heap[ga]? = some (.cells #[.int .i64 (k : Int)] 3 (0, 0))) (fun _ h_ => h_) (.inr (by kernel_rfl)) rfl (by kernel_rfl) (by kernel_rfl) (by kernel_rfl) (by decide) (by kernel_rfl) (by decide) (fun _ _ _ h => h) (.inl ⟨by kernel_rfl, fun x_ hu => by go_simp⟩) hS ?_
  simp only [nrm]
  refine anyC_last (by kernel_rfl) rfl (fun K_ hQ => ?_)
  have c4 := cell_of (hB.get 0 (x := ⟨ga, #[.int .i64 (k : Int)], 3⟩) rfl) (i := 0) rfl
  have fz := froz_of (i := 0) (hB.get 0 (x := ⟨ga, #[.int .i64 (k : Int)], 3⟩) rfl)
  have hB2 := hB.cell 0 (x := ⟨ga, #[.int .i64 (k : Int)], 3⟩) rfl 0 (.int .i64 (kn : Int))
  simp only [List.set_cons_zero, List.set_cons_succ] at hB2
  replace hB2 : Bc [ga, gb] w [⟨ga, #[.int .i64 (kn : Int)], 3⟩, ⟨gb, kc CL, 50⟩] _ := hB2
  clear hB hS
  replace hB2 := hide hB2
  replace hQ := hide hQ
  dsimp only at c4 fz
  go_simp
  refine (unhide hQ).out _ _ ?_
  clear hQ K_ c4 fz
  have hB := unhide hB2
  clear hB2
  generalize World.setCell _ _ _ = x2 at *
  refine any_done (by kernel_rfl) ?_
  replace hB := hide hB
  go_wp2_with fail
  rw [unhide hT]
  exact bodyPost_end (results_none Tryd.results84 _ _ _) rfl ⟨rfl, by have h := (unhide hB).get 0 (x := ⟨ga, #[.int .i64 (kn : Int)], 3⟩) rfl; rw [← unhide hkn]; exact h, (unhide hB).get 1 (x := ⟨gb, kc CL, 50⟩) rfl, (unhide hB).chg⟩
end Go.Proofs.YtaoiejgjdmakjaaDoor
