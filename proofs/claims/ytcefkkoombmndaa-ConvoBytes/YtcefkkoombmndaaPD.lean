/-
  A text that is held is read.
-/
import Derived.Test.YtcefkkoombmndaaPC
namespace Go.Proofs.Ytcefkkoombmndaa
open Go.RowKit
set_option maxRecDepth 100000
set_option linter.unusedSimpArgs false
set_option linter.unusedVariables false
set_option maxHeartbeats 4000000 in
theorem cone_ok (g p n c k : Nat) (L : List Int) (w : World) (hR : Rdr g p n c k L w) (hkn : k + 1 ≤ n) (hn : n ≤ 100000) : Calls Try.prog 62 #[P0 g] w (fun r w' => r = .returned (.int .i64 (L.getD k 0)) ∧ Rdr g p n c (k + 1) L w' ∧ Bt g w w') := by
  obtain ⟨T, hT⟩ : ∃ T : Ending → World → Prop, T = fun r w' => r = .returned (.int .i64 (L.getD k 0)) ∧ Rdr g p n c (k + 1) L w' ∧ Bt g w w' := ⟨_, rfl⟩
  rw [← hT]
  replace hT := hide hT
  have hx1 : (L.drop k).take 1 = [L.getD k 0] := by
    have hk : k < L.length := by rw [hR.len]; omega
    rw [List.drop_eq_getElem_cons hk, List.take_succ_cons, List.take_zero]
    simp [List.getD, hk]
  have hxb := hR.isB.at_ k
  generalize L.getD k 0 = x at *
  have hw1 : IntKind.i64.wrap x = x := by rw [IntKind.wrap_i64]; omega
  have hxB : IsB [x] := fun y hy => by rw [List.mem_singleton.1 hy]; exact hxb
  replace hR := hide hR; replace hxB := hide hxB
  go_enter Try.func62, Try.ntmps62
  go_upto_region 1 with fail
  refine wp_region_lit ?_
  refine lvk (.pointer (some ⟨g, 0, none⟩)) ?_
  simp only [nrm]
  refine list_call 63 #[P0 g, .int .i64 ((1 : Nat) : Int)] (by kernel_rfl) (by kernel_rfl) ((rraw_ok g p n c k 1 L w (unhide hR) hkn (by omega) hn).mono ?_)
  rintro r u1 ⟨v, rfl, hO, hR1, hb1⟩
  rw [hx1] at hO
  obtain ⟨q, cq, rfl, _, hat, hq1, hq2, _⟩ := ob_at hO (by simp)
  have hlb : Lb u1 (some ⟨q, 0, none⟩) 1 cq [x] := ⟨rfl, unhide hxB, .inr ⟨q, 0, rfl, hat⟩, hq1, hq2⟩
  clear hO hat hq1 hq2
  refine ⟨_, rfl, ?_⟩
  replace hlb := hide hlb; replace hR1 := hide hR1; replace hb1 := hide hb1
  simp only [nrm]
  refine list_call 70 #[.slice (some ⟨q, 0, none⟩) 1 cq] (by kernel_rfl) (by kernel_rfl) ((get1_ok x q 0 cq u1 (unhide hlb)).mono ?_)
  rintro r u2 ⟨rfl, hg2⟩
  have hZ : Hid (T (.returned (.int .i64 x)) u2) := by
    rw [unhide hT]
    exact ⟨rfl, (unhide hR1).gr hg2, (unhide hb1).trans (hg2.bt g)⟩
  clear hg2
  refine ⟨_, rfl, ?_⟩
  simp only [nrm]
  refine list_val (.int .i64 x) (by kernel_rfl) (by go_simp) ?_
  simp only [nrm]
  (refine wpList_step fun K hK => ?_; replace hK := hide hK; go_simp; refine unhide hK _ _ ?_; clear hK K)
  refine wpList_nil ?_
  go_wp2_with fail
  exact unhide hZ
theorem Rdr.base {g p n c k : Nat} {L : List Int} {b v : World} (h : Rdr g p n c k L v) (e : Gr b v) (hg : g < b.heap.size) (hp : p < b.heap.size) : Rdr g p n c k L b :=
  ⟨(e.block g hg).symm.trans h.cel, fun j hj => (cell_heap (e.block p hp)).symm.trans (h.at_ j hj), h.ne, h.len, h.isB, h.cap, h.max⟩
theorem Rdr.plt {g p n c k : Nat} {L : List Int} {v : World} (h : Rdr g p n c k L v) (hn : 0 < n) : p < v.heap.size := lt_of_cell (h.at_ 0 (by rw [h.len]; exact hn))
/-- blocks of one's own while a block that was there before changes -/
theorem Bl.re {w u v : World} {L : List Blk} {g : Nat} (h : Bl w L u) (k : Bt g u v) {C C' : Array Value} {t : TypeId} (hw : w.heap[g]? = some (.cells C t (0, 0))) (hv : v.heap[g]? = some (.cells C' t (0, 0))) : ∃ b, Bl b L v ∧ Bt g w b ∧ b.heap[g]? = some (.cells C' t (0, 0)) ∧ b.heap.size = w.heap.size := by
  have hlt := lt_of_block hw
  have hbt := setRow_bt w g C'
  have hcb := setRow_heap w g _ C' t (0, 0) hw
  have hsz : (w.setRow g C').heap.size = w.heap.size := by simp
  refine ⟨w.setRow g C', ⟨⟨?_, ?_, ?_, ?_, fun i hi => ?_⟩, fun x hx => ?_, h.ne⟩, hbt, hcb, hsz⟩
  · exact (k.os.trans h.gr.os).trans hbt.os.symm
  · exact (k.tape.trans h.gr.tape).trans hbt.tape.symm
  · exact (k.output.trans h.gr.output).trans hbt.output.symm
  · rw [hsz]
    exact Nat.le_trans h.gr.size k.size
  · rw [hsz] at hi
    by_cases e : i = g
    · rw [e, hv, hcb]
    · rw [k.block i (Nat.lt_of_lt_of_le hi h.gr.size) e, h.gr.block i hi, setRow_other w g i C' e]
  · obtain ⟨h1, h2⟩ := h.at_ x hx
    exact ⟨k.blk h1 (by omega), by rw [hsz]; exact h2⟩
theorem exec_tx {a : Act} {o : Oper} (w : World) (x : Operand) (ho : o.op = .convert 53 9 x) (s : Option Addr) (n c : Nat) (L : List Int) (hx : a.eval x = .slice s n c) (hn : L.length = n) (hL : Sl w s L) (t : ByteArray) (ht : t = strOfNums L) :
    (execOp a.eval o).run Try.prog w = .ok (.value (.string t)) w := by
  subst ht
  have h := hL.text n c hn
  unfold execOp
  simp only [ho, hx, Sem.run_bind, h, Result.andThen_ok, Sem.run_pure]
theorem Sl.take {w : World} {s : Option Addr} {L : List Int} (h : Sl w s L) (m : Nat) : Sl w s (L.take m) := by
  rcases h with rfl | ⟨p, o, e, h⟩
  · exact .inl (by simp)
  · exact .inr ⟨p, o, e, fun j hj => by
      rw [List.length_take] at hj
      have h2 := h j (by omega)
      have e2 : (L.take m).getD j 0 = L.getD j 0 := by simp [List.getD, List.getElem?_take, show j < m by omega]
      rw [e2]; exact h2⟩
theorem exec_up8 {a : Act} {o : Oper} (w : World) (x y : Operand) (ho : o.op = .slice 53 x none (some y) none) (s : Option Addr) (len cap n : Nat) (hx : a.eval x = .slice s len cap) (hy : a.eval y = .int .i64 n) (hc : len ≤ cap) (hn : n ≤ len) :
    (execOp a.eval o).run Try.prog w = .ok (.value (.slice s n cap)) w := by
  have h := exec_upto w x y ho s len cap n hx hy hc hn
  have e : (if cap = 0 then s else s.map (·.add 0)) = s := by
    split
    · rfl
    · cases s with
      | none => rfl
      | some b => simp [Addr.add]
  rw [e] at h
  exact h
/-- what is read of a text -/
def inA (L : List Int) (k : Nat) : It := ⟨lowN ((L.drop k).take 4), strOfNums (((L.drop (k + 5)).take 48).take (min (L.getD (k + 4) 0).toNat 48))⟩
theorem low4 {L : List Int} (h : IsB L) (k : Nat) (hk : k + 4 ≤ L.length) : 0 ≤ lowN ((L.drop k).take 4) ∧ lowN ((L.drop k).take 4) < 4294967296 := by
  have h1 := lowN_bd ((L.drop k).take 4) fun x hx => h x (List.mem_of_mem_drop (List.mem_of_mem_take hx))
  rw [show ((L.drop k).take 4).length = 4 from by rw [List.length_take, List.length_drop]; omega, show (256 : Int) ^ 4 = 4294967296 from by decide] at h1
  exact h1
theorem inA_ok {L : List Int} (h : IsB L) (k : Nat) (hk : k + 53 ≤ L.length) : (inA L k).Ok := ⟨low4 h k (by omega), by unfold inA; rw [strOfNums_size, List.length_take, List.length_take]; omega⟩
set_option maxHeartbeats 4000000 in
theorem readin_ok (g p n c k : Nat) (L : List Int) (hkn : k + 53 ≤ n) (hn : n ≤ 100000) (w : World) (hR : Rdr g p n c k L w) : Calls Try.prog 64 #[.pointer (some ⟨g, 0, none⟩)] w (fun r w' => r = .returned (.agg (fl [[.int .u32 (inA L k).n], [.string (inA L k).s]])) ∧ Rdr g p n c (k + 53) L w' ∧ Bt g w w') := by
  obtain ⟨T, hT⟩ : ∃ T : Ending → World → Prop, T = (fun r w' => r = .returned (.agg (fl [[.int .u32 (inA L k).n], [.string (inA L k).s]])) ∧ Rdr g p n c (k + 53) L w' ∧ Bt g w w') := ⟨_, rfl⟩
  rw [← hT]
  replace hT := hide hT
  have hLn := hR.len
  have hLB := hR.isB
  have hgl := lt_of_block hR.cel
  have hpl := hR.plt (by omega)
  have hb4 := hLB.at_ (k + 4)
  replace hR := hide hR; replace hLB := hide hLB
  go_enter Try.func64, Try.ntmps64
  go_upto_region 1 with fail
  have hB := ((Bl.nil w).new (fl [[.int .u32 0], [.string ByteArray.empty]]) 47)
  simp only [size_alloc, List.nil_append, List.cons_append] at hB
  generalize hu_ : World.alloc _ _ = u0
  replace hB : Bl w [⟨w.heap.size, fl [[.int .u32 0], [.string ByteArray.empty]], 47⟩] u0 := by
    rw [← hu_]
    exact hB
  clear hu_
  refine wp_region_lit ?_
  refine list_valw (.pointer (some ⟨u0.heap.size, 0, none⟩)) (u0.alloc (.cells (fl [[.int .u32 0], [.string ByteArray.empty]]) 47 (0, 0))) (by kernel_rfl) (by kernel_rfl) ?_
  replace hB := hB.new (fl [[.int .u32 0], [.string ByteArray.empty]]) 47
  simp only [List.nil_append, List.cons_append] at hB
  generalize World.alloc _ _ = u1 at *
  generalize u0.heap.size = g3 at *
  simp only [nrm]
  refine wpList_nil ?_
  replace hB := hide hB
  go_upto_region 2 with fail
  replace hB := unhide hB
  refine wp_region_lit ?_
  refine lvk (.pointer (some ⟨g, 0, none⟩)) ?_
  simp only [nrm]
  refine list_call 61 #[P0 g] (by kernel_rfl) (by kernel_rfl) ((ru32_ok g p n c k L u1 ((unhide hR).gr hB.gr) (by omega) hn).mono ?_)
  rintro r_ u2 ⟨rfl, hR_, hb_⟩
  refine ⟨_, rfl, ?_⟩
  obtain ⟨b1, hB_, hbt_, hcb_, hsz_⟩ := hB.re hb_ (unhide hR).cel hR_.cel
  clear hB
  have hgl_ : g < b1.heap.size := by rw [hsz_]; exact hgl
  have hpl_ : p < b1.heap.size := by rw [hsz_]; exact hpl
  have hR2_ := hide (hR_.base hB_.gr hgl_ hpl_)
  clear hR hR_ hcb_ hgl hpl
  have hR := hR2_
  have hgl := hgl_
  have hpl := hpl_
  clear hR2_ hgl_ hpl_
  have hbt := hide hbt_
  have hsz := hide hsz_
  have hB := hB_
  clear hbt_ hsz_ hB_ 
  clear hb_
  simp only [nrm]
  refine lvk (.pointer (some ⟨g3, 0, none⟩)) ?_
  simp only [nrm]
  refine list_c32 (.tmp 7) (.tmp 6) (g3) 0 (lowN ((L.drop k).take 4)) (by kernel_rfl) rfl (by kernel_rfl) (by kernel_rfl) hB 1 rfl NI (nI  _ _) 0 _ rfl rfl ?_
  intro u3 hB_ hbt_
  clear hB
  replace hB : Bl b1 [⟨w.heap.size, fl [[.int .u32 0], [.string ByteArray.empty]], 47⟩, ⟨g3, fl [[.int .u32 (lowN ((L.drop k).take 4))], [.string ByteArray.empty]], 47⟩] u3 := hB_
  clear hB_
  clear hbt_
  simp only [nrm]
  refine wpList_nil ?_
  obtain ⟨q, hq⟩ : ∃ q, q = L.getD (k + 4) 0 := ⟨_, rfl⟩
  rw [← hq] at hb4
  obtain ⟨m, hm⟩ : ∃ m, m = min q.toNat 48 := ⟨_, rfl⟩
  have hmI : min q 48 = (m : Int) := by omega
  have hm48 : m ≤ 48 := by omega
  replace hq := hide hq; replace hm := hide hm; replace hmI := hide hmI
  replace hB := hide hB
  go_upto_region 3 with fail
  replace hB := unhide hB
  refine wp_region_lit ?_
  refine lvk (.pointer (some ⟨g, 0, none⟩)) ?_
  simp only [nrm]
  refine list_call 62 #[P0 g] (by kernel_rfl) (by kernel_rfl) ((cone_ok g p n c (k + 4) L u3 ((unhide hR).gr hB.gr) (by omega) hn).mono ?_)
  rintro r_ u4 ⟨rfl, hR_, hb_⟩
  refine ⟨_, rfl, ?_⟩
  obtain ⟨b2, hB_, hbt_, hcb_, hsz_⟩ := hB.re hb_ (unhide hR).cel hR_.cel
  clear hB
  have hgl_ : g < b2.heap.size := by rw [hsz_]; exact hgl
  have hpl_ : p < b2.heap.size := by rw [hsz_]; exact hpl
  have hR2_ := hide (hR_.base hB_.gr hgl_ hpl_)
  clear hR hR_ hcb_ hgl hpl
  have hR := hR2_
  have hgl := hgl_
  have hpl := hpl_
  clear hR2_ hgl_ hpl_
  replace hbt := hide ((unhide hbt).trans hbt_)
  replace hsz := hide (hsz_.trans (unhide hsz))
  have hB := hB_
  clear hbt_ hsz_ hB_ 
  clear hb_
  rw [← unhide hq]
  simp only [nrm]
  refine list_val (.int .i64 (m : Int)) (by kernel_rfl) (min_i _ (.tmp 9) (.const (.int .i64 48)) q 48 rfl (by kernel_rfl) rfl (m : Int) (unhide hmI)) ?_
  simp only [nrm]
  (refine wpList_step fun K hK => ?_; replace hK := hide hK; go_simp; refine unhide hK _ _ ?_; clear hK K)
  refine wpList_nil ?_
  replace hB := hide hB
  go_upto_region 4 with fail
  replace hB := unhide hB
  refine wp_region_lit ?_
  refine lvk (.pointer (some ⟨g, 0, none⟩)) ?_
  simp only [nrm]
  refine list_call 63 #[P0 g, .int .i64 48] (by kernel_rfl) (by kernel_rfl) ((rraw_ok g p n c (k + 4 + 1) 48 L u4 ((unhide hR).gr hB.gr) (by omega) (by omega) hn).mono ?_)
  rintro r_ u5 ⟨v4, rfl, hO_, hR_, hb_⟩
  refine ⟨_, rfl, ?_⟩
  obtain ⟨b3, hB_, hbt_, hcb_, hsz_⟩ := hB.re hb_ (unhide hR).cel hR_.cel
  clear hB
  have hgl_ : g < b3.heap.size := by rw [hsz_]; exact hgl
  have hpl_ : p < b3.heap.size := by rw [hsz_]; exact hpl
  have hR2_ := hide (hR_.base hB_.gr hgl_ hpl_)
  clear hR hR_ hcb_ hgl hpl
  have hR := hR2_
  have hgl := hgl_
  have hpl := hpl_
  clear hR2_ hgl_ hpl_
  replace hbt := hide ((unhide hbt).trans hbt_)
  replace hsz := hide (hsz_.trans (unhide hsz))
  have hB := hB_
  clear hbt_ hsz_ hB_ 
  have hl4 : ((L.drop (k + 4 + 1)).take 48).length = 48 := by rw [List.length_take, List.length_drop]; omega
  obtain ⟨a4, c4, rfl, hlb4⟩ := ob_lb hO_ (fun x hx => (unhide hLB) x (List.mem_of_mem_drop (List.mem_of_mem_take hx))) hl4
  have hcp4 := hlb4.cap
  have hsl4 := hide hlb4.sl
  clear hlb4 hO_
  clear hb_
  simp only [nrm]
  refine lvk (.int .i64 (m : Int)) ?_
  simp only [nrm]
  refine list_val (.slice a4 m c4) (by kernel_rfl) (exec_up8 _ (.tmp 12) (.tmp 13) rfl a4 48 c4 m (by kernel_rfl) (by kernel_rfl) hcp4 hm48) ?_
  simp only [nrm]
  refine list_val (.string (inA L k).s) (by kernel_rfl) (exec_tx _ (.tmp 14) rfl a4 m c4 (((L.drop (k + 4 + 1)).take 48).take m) (by kernel_rfl) (by rw [List.length_take, hl4]; omega) ((unhide hsl4).take m) _ (by unfold inA; rw [unhide hm, unhide hq])) ?_
  simp only [nrm]
  refine lvk (.pointer (some ⟨g3, 1, none⟩)) ?_
  simp only [nrm]
  refine list_cst (.tmp 16) (.tmp 15) (g3) 1 ((inA L k).s) (by kernel_rfl) rfl (by kernel_rfl) (by kernel_rfl) hB 1 rfl NI (nI  _ _) 1 _ rfl rfl ?_
  intro u6 hB_ hbt_
  clear hB
  replace hB : Bl b3 [⟨w.heap.size, fl [[.int .u32 0], [.string ByteArray.empty]], 47⟩, ⟨g3, fl [[.int .u32 (lowN ((L.drop k).take 4))], [.string (inA L k).s]], 47⟩] u6 := hB_
  clear hB_
  clear hbt_
  simp only [nrm]
  refine wpList_nil ?_
  replace hB := hide hB
  go_upto_region 5 with fail
  replace hB := unhide hB
  refine wp_region_lit ?_
  refine list_val (.agg (fl [[.int .u32 (lowN ((L.drop k).take 4))], [.string (inA L k).s]])) (by kernel_rfl) (exec_sw _ 47 (.tmp 3) rfl (g3) (by kernel_rfl) (hB.get 1 (x := ⟨g3, fl [[.int .u32 (lowN ((L.drop k).take 4))], [.string (inA L k).s]], 47⟩) rfl) NI (nI  _ _) Try.underlying47 rfl (by kernel_rfl)) ?_
  simp only [nrm]
  refine list_all 47 (.tmp 2) (.tmp 17) (w.heap.size) (S2 := [[.int .u32 (lowN ((L.drop k).take 4))], [.string (inA L k).s]]) (by kernel_rfl) rfl (by kernel_rfl) (by kernel_rfl) hB 0 rfl NI (nI  _ _) (nI  _ _) (by kernel_rfl) (oI  rfl rfl) ?_
  intro u7 hB_ hbt_
  clear hB
  replace hB : Bl b3 [⟨w.heap.size, fl [[.int .u32 (lowN ((L.drop k).take 4))], [.string (inA L k).s]], 47⟩, ⟨g3, fl [[.int .u32 (lowN ((L.drop k).take 4))], [.string (inA L k).s]], 47⟩] u7 := hB_
  clear hB_
  clear hbt_
  simp only [nrm]
  refine wpList_nil ?_
  replace hB := hide hB
  go_wp2_with fail
  replace hB := unhide hB
  rw [unhide hT]
  exact bodyPost_ret (v := .agg (fl [[.int .u32 (lowN ((L.drop k).take 4))], [.string (inA L k).s]])) (res1 Try.results64 (rv_cell (by kernel_rfl) (hB.get 0 (x := ⟨w.heap.size, fl [[.int .u32 (lowN ((L.drop k).take 4))], [.string (inA L k).s]], 47⟩) rfl) Try.underlying47 rfl (by rw [fl_size (nI  _ _)]; kernel_rfl))) rfl (⟨rfl, (by have h := (unhide hR).gr hB.gr; rwa [show k + 4 + 1 + 48 = k + 53 from by omega] at h), (unhide hbt).trans (hB.gr.bt g)⟩)
end Go.Proofs.Ytcefkkoombmndaa
