/-
  What the proof leans on.
-/
import Derived.Test.YtcefkkoombmndabVO2
namespace Go.Proofs.Ytcefkkoombmndab
open Go.RowKit
set_option maxRecDepth 100000
set_option linter.unusedSimpArgs false
set_option linter.unusedVariables false
attribute [local go_sem] zvOut
section
variable {a:Act} {o:Oper} (w:World) (x y:Operand) (m n:Int)
theorem rem_i (ho:o.op=.binOp .rem 3 x y 3) (hx:a.eval x=.int .i64 m) (hy:a.eval y=.int .i64 n) (hm:0≤m) (hn:0<n) (hb:n<9223372036854775808):(execOp a.eval o).run Try.prog w=.ok (.value (.int .i64 (m % n))) w:=by
 have h0:n≠0:=by omega
 have h1:=Int.emod_nonneg m h0
 have h2:=Int.emod_lt_of_pos m hn
 have ht:Int.tmod m n=m % n:=Int.tmod_eq_emod_of_nonneg hm
 have hw:IntKind.i64.wrap (m % n)=m % n:=by rw [IntKind.wrap_i64]; omega
 unfold execOp
 simp only [ho,hx,hy]
 go_simp
end
def tu (c:Cm):Cm × Ot × Int :=
 if rt c=false then (cz,oZ,281) else if c.O.length=0 then (cz,oZ,4) else ({ c with tn:=(c.tn+1) % (c.O.length:Int) },c.O.getD c.tn.toNat oZ,0)
theorem tu_no {c:Cm} (h:rt c=false):tu c=(cz,oZ,281):=by unfold tu; rw [if_pos h]
theorem tu_none {c:Cm} (h:rt c=true) (h2:c.O.length=0):tu c=(cz,oZ,4):=by unfold tu; rw [if_neg (by rw [h]; decide),if_pos h2]
theorem tu_yes {c:Cm} (h:rt c=true) (h2:¬ c.O.length=0):tu c=({ c with tn:=(c.tn+1) % (c.O.length:Int) },c.O.getD c.tn.toNat oZ,0):=by unfold tu; rw [if_neg (by rw [h]; decide),if_neg h2]
set_option maxHeartbeats 4000000 in
theorem turn_ok (c:Cm) (x:Lc) (w:World) (hc:Cin w c x):Calls Try.prog 9 #[.agg (fl [[.int .u32 c.nx],[.slice x.ao x.no x.co],[.int .i64 c.tn],[.int .u32 c.dl],[.slice x.ah x.nh x.ch]])] w (Rc (tu c).1 [.agg (fl [[.int .u32 (tu c).2.1.n],bw (tu c).2.1.B]),.int .i64 (tu c).2.2] w):=by
 obtain ⟨T,hT⟩:∃ T:Ending→World→Prop,T=(Rc (tu c).1 [.agg (fl [[.int .u32 (tu c).2.1.n],bw (tu c).2.1.B]),.int .i64 (tu c).2.2] w):=⟨_,rfl⟩
 rw [← hT]
 replace hT:=hide hT
 have hn:=hc.o.len
 replace hc:=hide hc
 obtain ⟨A0_,hA0_⟩:∃ S_,S_=fl [[.int .u32 c.nx],[.slice x.ao x.no x.co],[.int .i64 c.tn],[.int .u32 c.dl],[.slice x.ah x.nh x.ch]]:=⟨_,rfl⟩
 rw [← hA0_]
 replace hA0_:=hide hA0_
 go_enter Try.func9,Try.ntmps9
 go_upto_region 1 with fail
 have hB:=((((Bl.nil w).new A0_ 26).new (fl [[.int .u32 0],[.slice none 0 0],[.int .i64 0],[.int .u32 0],[.slice none 0 0]]) 26).new (fl [[.int .u32 0],bw Z105]) 33)
 simp only [size_alloc,List.nil_append,List.cons_append] at hB
 rw [unhide hA0_] at hB
 generalize hu_:World.alloc _ _=u0
 replace hB:Bl w [⟨w.heap.size,fl [[.int .u32 c.nx],[.slice x.ao x.no x.co],[.int .i64 c.tn],[.int .u32 c.dl],[.slice x.ah x.nh x.ch]],26⟩,⟨w.heap.size+1,fl [[.int .u32 0],[.slice none 0 0],[.int .i64 0],[.int .u32 0],[.slice none 0 0]],26⟩,⟨w.heap.size+1+1,fl [[.int .u32 0],bw Z105],33⟩] u0:=by
  rw [← hu_]
  rw [unhide hA0_]
  exact hB
 clear hu_ hA0_
 cases h1:rt c with
 | false =>
  have hk:=chk_f h1
  have hv:=tu_no h1
  refine wp_region_lit ?_
  refine list_val (.agg (fl [[.int .u32 c.nx],[.slice x.ao x.no x.co],[.int .i64 c.tn],[.int .u32 c.dl],[.slice x.ah x.nh x.ch]])) (by kernel_rfl) (exec_sw _ 26 (.tmp 1) rfl (w.heap.size) (by kernel_rfl) (hB.get 0 (x:=⟨w.heap.size,fl [[.int .u32 c.nx],[.slice x.ao x.no x.co],[.int .i64 c.tn],[.int .u32 c.dl],[.slice x.ah x.nh x.ch]],26⟩) rfl) NC (nC  _ _ _ _ _) Try.underlying26 rfl (by kernel_rfl)) ?_
  simp only [nrm]
  refine list_call 8 #[.agg (fl [[.int .u32 c.nx],[.slice x.ao x.no x.co],[.int .i64 c.tn],[.int .u32 c.dl],[.slice x.ah x.nh x.ch]])] (by kernel_rfl) (by kernel_rfl) (((show Calls Try.prog 8 #[.agg (fl [[.int .u32 c.nx],[.slice x.ao x.no x.co],[.int .i64 c.tn],[.int .u32 c.dl],[.slice x.ah x.nh x.ch]])] u0 (Vl (.int .i64 281) u0) from hk ▸ check_ok c x u0 ((unhide hc).gr hB.gr))).mono ?_)
  rintro r_ u1 ⟨rfl,hg⟩
  replace hB:=hB.more hg
  clear hg
  refine ⟨_,rfl,?_⟩
  simp only [nrm]
  (refine wpList_step fun K hK=>?_; replace hK:=hide hK; go_simp; refine unhide hK _ _ ?_; clear hK K)
  refine wpList_nil ?_
  replace hB:=hide hB
  go_upto_region 2 with fail
  replace hB:=unhide hB
  refine wp_region_lit ?_
  refine lvk (.int .i64 281) ?_
  simp only [nrm]
  refine list_val (.bool true) (by kernel_rfl) (neq_e _ (.tmp 9) (.const (.int .i64 0)) 281 0 true rfl (by kernel_rfl) (by kernel_rfl) (by decide)) ?_
  simp only [nrm]
  refine wpList_nil ?_
  replace hB:=hide hB
  go_upto_region 3 with fail
  replace hB:=unhide hB
  refine wp_region_lit ?_
  refine list_val (.agg (fl [[.int .u32 0],[.slice none 0 0],[.int .i64 0],[.int .u32 0],[.slice none 0 0]])) (by kernel_rfl) (bC _ rfl) ?_
  simp only [nrm]
  refine list_val (.agg (fl [[.int .u32 0],bw Z105])) (by kernel_rfl) (bO _ rfl) ?_
  simp only [nrm]
  refine lvk (.int .i64 281) ?_
  simp only [nrm]
  refine list_all 26 (.tmp 2) (.tmp 11) (w.heap.size+1) (S2:=[[.int .u32 0],[.slice none 0 0],[.int .i64 0],[.int .u32 0],[.slice none 0 0]]) (by kernel_rfl) rfl (by kernel_rfl) (by kernel_rfl) hB 1 rfl NC (nC  _ _ _ _ _) (nC  _ _ _ _ _) (by kernel_rfl) (oC  rfl rfl rfl rfl rfl) ?_
  intro u2 hB_ hbt_
  clear hB
  replace hB:Bl w [⟨w.heap.size,fl [[.int .u32 c.nx],[.slice x.ao x.no x.co],[.int .i64 c.tn],[.int .u32 c.dl],[.slice x.ah x.nh x.ch]],26⟩,⟨w.heap.size+1,fl [[.int .u32 0],[.slice none 0 0],[.int .i64 0],[.int .u32 0],[.slice none 0 0]],26⟩,⟨w.heap.size+1+1,fl [[.int .u32 0],bw Z105],33⟩] u2:=hB_
  clear hB_
  clear hbt_
  simp only [nrm]
  refine list_all 33 (.tmp 3) (.tmp 12) (w.heap.size+1+1) (S2:=[[.int .u32 0],bw Z105]) (by kernel_rfl) rfl (by kernel_rfl) (by kernel_rfl) hB 2 rfl NO (nO Z105_len _) (nO Z105_len _) (by kernel_rfl) (oO _ rfl) ?_
  intro u3 hB_ hbt_
  clear hB
  replace hB:Bl w [⟨w.heap.size,fl [[.int .u32 c.nx],[.slice x.ao x.no x.co],[.int .i64 c.tn],[.int .u32 c.dl],[.slice x.ah x.nh x.ch]],26⟩,⟨w.heap.size+1,fl [[.int .u32 0],[.slice none 0 0],[.int .i64 0],[.int .u32 0],[.slice none 0 0]],26⟩,⟨w.heap.size+1+1,fl [[.int .u32 0],bw Z105],33⟩] u3:=hB_
  clear hB_
  clear hbt_
  simp only [nrm]
  (refine wpList_step fun K hK=>?_; replace hK:=hide hK; go_simp; refine unhide hK _ _ ?_; clear hK K)
  refine wpList_nil ?_
  replace hB:=hide hB
  go_wp2_with fail
  replace hB:=unhide hB
  rw [unhide hT]
  rw [hv]
  exact bodyPost_ret (v:=.tuple #[.agg (fl [[.int .u32 0],[.slice none 0 0],[.int .i64 0],[.int .u32 0],[.slice none 0 0]]),.agg (fl [[.int .u32 0],bw Z105]),.int .i64 281]) (res3 Try.results9 (rv_cell (by kernel_rfl) (hB.get 1 (x:=⟨w.heap.size+1,fl [[.int .u32 0],[.slice none 0 0],[.int .i64 0],[.int .u32 0],[.slice none 0 0]],26⟩) rfl) Try.underlying26 rfl (by rw [fl_size (nC  _ _ _ _ _)]; kernel_rfl)) (rv_cell (by kernel_rfl) (hB.get 2 (x:=⟨w.heap.size+1+1,fl [[.int .u32 0],bw Z105],33⟩) rfl) Try.underlying33 rfl (by rw [fl_size (nO Z105_len _)]; kernel_rfl)) (rv_tmp (by kernel_rfl))) rfl (⟨xz,rfl,cin_z _,owx_z _ _,hB.gr⟩)
 | true =>
  have hk:=chk_t h1
  have hle:=rt_le h1
  rw [hn] at hle
  replace h1:=hide h1
  refine wp_region_lit ?_
  refine list_val (.agg (fl [[.int .u32 c.nx],[.slice x.ao x.no x.co],[.int .i64 c.tn],[.int .u32 c.dl],[.slice x.ah x.nh x.ch]])) (by kernel_rfl) (exec_sw _ 26 (.tmp 1) rfl (w.heap.size) (by kernel_rfl) (hB.get 0 (x:=⟨w.heap.size,fl [[.int .u32 c.nx],[.slice x.ao x.no x.co],[.int .i64 c.tn],[.int .u32 c.dl],[.slice x.ah x.nh x.ch]],26⟩) rfl) NC (nC  _ _ _ _ _) Try.underlying26 rfl (by kernel_rfl)) ?_
  simp only [nrm]
  refine list_call 8 #[.agg (fl [[.int .u32 c.nx],[.slice x.ao x.no x.co],[.int .i64 c.tn],[.int .u32 c.dl],[.slice x.ah x.nh x.ch]])] (by kernel_rfl) (by kernel_rfl) (((show Calls Try.prog 8 #[.agg (fl [[.int .u32 c.nx],[.slice x.ao x.no x.co],[.int .i64 c.tn],[.int .u32 c.dl],[.slice x.ah x.nh x.ch]])] u0 (Vl (.int .i64 0) u0) from hk ▸ check_ok c x u0 ((unhide hc).gr hB.gr))).mono ?_)
  rintro r_ u1 ⟨rfl,hg⟩
  replace hB:=hB.more hg
  clear hg
  refine ⟨_,rfl,?_⟩
  simp only [nrm]
  (refine wpList_step fun K hK=>?_; replace hK:=hide hK; go_simp; refine unhide hK _ _ ?_; clear hK K)
  refine wpList_nil ?_
  replace hB:=hide hB
  go_upto_region 2 with fail
  replace hB:=unhide hB
  refine wp_region_lit ?_
  refine lvk (.int .i64 0) ?_
  simp only [nrm]
  refine list_val (.bool false) (by kernel_rfl) (neq_e _ (.tmp 9) (.const (.int .i64 0)) 0 0 false rfl (by kernel_rfl) (by kernel_rfl) (by decide)) ?_
  simp only [nrm]
  refine wpList_nil ?_
  by_cases h2:(x.no:Int)=0
  ·have hv:=tu_none (unhide h1) (by omega)
   replace hB:=hide hB
   go_upto_region 4 with fail
   replace hB:=unhide hB
   refine wp_region_lit ?_
   refine lvk (.pointer (some ⟨w.heap.size,1,none⟩)) ?_
   simp only [nrm]
   refine list_val (.slice x.ao x.no x.co) (by kernel_rfl) (exec_csO _ (.tmp 14) rfl (w.heap.size) 1 (by kernel_rfl) x.ao x.no x.co (seg_cell (nC  _ _ _ _ _) (hB.get 0 (x:=⟨w.heap.size,fl [[.int .u32 c.nx],[.slice x.ao x.no x.co],[.int .i64 c.tn],[.int .u32 c.dl],[.slice x.ah x.nh x.ch]],26⟩) rfl) 1 (v:=.slice x.ao x.no x.co) rfl rfl)) ?_
   simp only [nrm]
   refine lvk (.int .i64 (x.no:Int)) ?_
   simp only [nrm]
   refine list_val (.bool true) (by kernel_rfl) (eql_i _ (.tmp 16) (.const (.int .i64 0)) (x.no:Int) 0 true rfl (by kernel_rfl) (by kernel_rfl) (decide_eq_true h2)) ?_
   simp only [nrm]
   refine wpList_nil ?_
   replace hB:=hide hB
   go_upto_region 5 with fail
   replace hB:=unhide hB
   refine wp_region_lit ?_
   refine list_val (.agg (fl [[.int .u32 0],[.slice none 0 0],[.int .i64 0],[.int .u32 0],[.slice none 0 0]])) (by kernel_rfl) (bC _ rfl) ?_
   simp only [nrm]
   refine list_val (.agg (fl [[.int .u32 0],bw Z105])) (by kernel_rfl) (bO _ rfl) ?_
   simp only [nrm]
   refine list_all 26 (.tmp 2) (.tmp 18) (w.heap.size+1) (S2:=[[.int .u32 0],[.slice none 0 0],[.int .i64 0],[.int .u32 0],[.slice none 0 0]]) (by kernel_rfl) rfl (by kernel_rfl) (by kernel_rfl) hB 1 rfl NC (nC  _ _ _ _ _) (nC  _ _ _ _ _) (by kernel_rfl) (oC  rfl rfl rfl rfl rfl) ?_
   intro u2 hB_ hbt_
   clear hB
   replace hB:Bl w [⟨w.heap.size,fl [[.int .u32 c.nx],[.slice x.ao x.no x.co],[.int .i64 c.tn],[.int .u32 c.dl],[.slice x.ah x.nh x.ch]],26⟩,⟨w.heap.size+1,fl [[.int .u32 0],[.slice none 0 0],[.int .i64 0],[.int .u32 0],[.slice none 0 0]],26⟩,⟨w.heap.size+1+1,fl [[.int .u32 0],bw Z105],33⟩] u2:=hB_
   clear hB_
   clear hbt_
   simp only [nrm]
   refine list_all 33 (.tmp 3) (.tmp 19) (w.heap.size+1+1) (S2:=[[.int .u32 0],bw Z105]) (by kernel_rfl) rfl (by kernel_rfl) (by kernel_rfl) hB 2 rfl NO (nO Z105_len _) (nO Z105_len _) (by kernel_rfl) (oO _ rfl) ?_
   intro u3 hB_ hbt_
   clear hB
   replace hB:Bl w [⟨w.heap.size,fl [[.int .u32 c.nx],[.slice x.ao x.no x.co],[.int .i64 c.tn],[.int .u32 c.dl],[.slice x.ah x.nh x.ch]],26⟩,⟨w.heap.size+1,fl [[.int .u32 0],[.slice none 0 0],[.int .i64 0],[.int .u32 0],[.slice none 0 0]],26⟩,⟨w.heap.size+1+1,fl [[.int .u32 0],bw Z105],33⟩] u3:=hB_
   clear hB_
   clear hbt_
   simp only [nrm]
   (refine wpList_step fun K hK=>?_; replace hK:=hide hK; go_simp; refine unhide hK _ _ ?_; clear hK K)
   refine wpList_nil ?_
   replace hB:=hide hB
   go_wp2_with fail
   replace hB:=unhide hB
   rw [unhide hT]
   rw [hv]
   exact bodyPost_ret (v:=.tuple #[.agg (fl [[.int .u32 0],[.slice none 0 0],[.int .i64 0],[.int .u32 0],[.slice none 0 0]]),.agg (fl [[.int .u32 0],bw Z105]),.int .i64 4]) (res3 Try.results9 (rv_cell (by kernel_rfl) (hB.get 1 (x:=⟨w.heap.size+1,fl [[.int .u32 0],[.slice none 0 0],[.int .i64 0],[.int .u32 0],[.slice none 0 0]],26⟩) rfl) Try.underlying26 rfl (by rw [fl_size (nC  _ _ _ _ _)]; kernel_rfl)) (rv_cell (by kernel_rfl) (hB.get 2 (x:=⟨w.heap.size+1+1,fl [[.int .u32 0],bw Z105],33⟩) rfl) Try.underlying33 rfl (by rw [fl_size (nO Z105_len _)]; kernel_rfl)) (rv_tmp (by kernel_rfl))) rfl (⟨xz,rfl,cin_z _,owx_z _ _,hB.gr⟩)
  have hv:=tu_yes (unhide h1) (by omega)
  obtain ⟨t,ht⟩:∃ t:Nat,c.tn=(t:Int):=⟨c.tn.toNat,by omega⟩
  have htl:t<x.no:=by omega
  obtain ⟨s,hs⟩:∃ s,c.O[t]?=some s:=⟨_,List.getElem?_eq_getElem (by omega)⟩
  have hok:=(unhide hc).o.ok t s hs
  have hok2:=hok.2.1
  have e0:c.O.getD c.tn.toNat oZ=s:=by rw [ht,Int.toNat_natCast]; simp [List.getD,hs]
  rw [e0,hn] at hv
  have htn:=(unhide hc).tn
  have hmod1:0≤(c.tn+1) % (x.no:Int):=Int.emod_nonneg _ (by omega)
  have hmod2:(c.tn+1) % (x.no:Int)<(x.no:Int):=Int.emod_lt_of_pos _ (by omega)
  replace hv:=hide hv; replace ht:=hide ht; replace hok:=hide hok; replace hs:=hide hs; replace hok2:=hide hok2; replace hmod1:=hide hmod1; replace hmod2:=hide hmod2
  replace hB:=hide hB
  go_upto_region 4 with fail
  replace hB:=unhide hB
  refine wp_region_lit ?_
  refine lvk (.pointer (some ⟨w.heap.size,1,none⟩)) ?_
  simp only [nrm]
  refine list_val (.slice x.ao x.no x.co) (by kernel_rfl) (exec_csO _ (.tmp 14) rfl (w.heap.size) 1 (by kernel_rfl) x.ao x.no x.co (seg_cell (nC  _ _ _ _ _) (hB.get 0 (x:=⟨w.heap.size,fl [[.int .u32 c.nx],[.slice x.ao x.no x.co],[.int .i64 c.tn],[.int .u32 c.dl],[.slice x.ah x.nh x.ch]],26⟩) rfl) 1 (v:=.slice x.ao x.no x.co) rfl rfl)) ?_
  simp only [nrm]
  refine lvk (.int .i64 (x.no:Int)) ?_
  simp only [nrm]
  refine list_val (.bool false) (by kernel_rfl) (eql_i _ (.tmp 16) (.const (.int .i64 0)) (x.no:Int) 0 false rfl (by kernel_rfl) (by kernel_rfl) (decide_eq_false h2)) ?_
  simp only [nrm]
  refine wpList_nil ?_
  replace hB:=hide hB
  go_upto_region 6 with fail
  replace hB:=unhide hB
  have hlt2:=lt_of_block (hB.get 2 (x:=⟨w.heap.size+1+1,fl [[.int .u32 0],bw Z105],33⟩) rfl)
  dsimp only at hlt2
  have hb0:w.heap.size≤u1.heap.size:=hB.gr.size
  refine wp_region_lit ?_
  refine list_val (.agg (fl [[.int .u32 c.nx],[.slice x.ao x.no x.co],[.int .i64 c.tn],[.int .u32 c.dl],[.slice x.ah x.nh x.ch]])) (by kernel_rfl) (exec_sw _ 26 (.tmp 1) rfl (w.heap.size) (by kernel_rfl) (hB.get 0 (x:=⟨w.heap.size,fl [[.int .u32 c.nx],[.slice x.ao x.no x.co],[.int .i64 c.tn],[.int .u32 c.dl],[.slice x.ah x.nh x.ch]],26⟩) rfl) NC (nC  _ _ _ _ _) Try.underlying26 rfl (by kernel_rfl)) ?_
  simp only [nrm]
  refine list_call 18 #[.agg (fl [[.int .u32 c.nx],[.slice x.ao x.no x.co],[.int .i64 c.tn],[.int .u32 c.dl],[.slice x.ah x.nh x.ch]])] (by kernel_rfl) (by kernel_rfl) ((copied_ok c x u1 ((unhide hc).gr hB.gr) (by omega) (by rw [← (unhide hc).h.len]; omega)).mono ?_)
  rintro r_ u2 ⟨x1,rfl,hW,hn1,hh1,hg⟩
  replace hB:=hB.more hg
  clear hg
  have hne2:=or_far hW.o hlt2
  replace hW:=hide (show Own w.heap.size u2 c x1 from ⟨or_base hW.o hb0,or_base hW.h hb0⟩)
  refine ⟨_,rfl,?_⟩
  simp only [nrm]
  have hzz_:Hid (u2.heap[w.heap.size]?=some (.cells (fl [[.int .u32 c.nx],[.slice x.ao x.no x.co],[.int .i64 c.tn],[.int .u32 c.dl],[.slice x.ah x.nh x.ch]]) 26 (0,0))):=hide (hB.get 0 (x:=⟨w.heap.size,fl [[.int .u32 c.nx],[.slice x.ao x.no x.co],[.int .i64 c.tn],[.int .u32 c.dl],[.slice x.ah x.nh x.ch]],26⟩) rfl)
  refine list_all 26 (.tmp 1) (.tmp 21) (w.heap.size) (S2:=[[.int .u32 c.nx],[.slice x1.ao x1.no x1.co],[.int .i64 c.tn],[.int .u32 c.dl],[.slice x1.ah x1.nh x1.ch]]) (by kernel_rfl) rfl (by kernel_rfl) (by kernel_rfl) hB 0 rfl NC (nC  _ _ _ _ _) (nC  _ _ _ _ _) (by kernel_rfl) (oC  rfl rfl rfl rfl rfl) ?_
  intro u3 hB_ hbt_
  clear hB
  replace hB:Bl w [⟨w.heap.size,fl [[.int .u32 c.nx],[.slice x1.ao x1.no x1.co],[.int .i64 c.tn],[.int .u32 c.dl],[.slice x1.ah x1.nh x1.ch]],26⟩,⟨w.heap.size+1,fl [[.int .u32 0],[.slice none 0 0],[.int .i64 0],[.int .u32 0],[.slice none 0 0]],26⟩,⟨w.heap.size+1+1,fl [[.int .u32 0],bw Z105],33⟩] u3:=hB_
  clear hB_
  replace hW:=hide ((unhide hW).bz (unhide hzz_) hbt_)
  clear hbt_ hzz_
  simp only [nrm]
  refine wpList_nil ?_
  replace hB:=hide hB
  go_upto_region 7 with fail
  replace hB:=unhide hB
  have hne6:=or_new (unhide hW).o
  obtain ⟨p,o,ha,hr⟩:=((unhide hW).cin (unhide hc).nums).o.at_ t s (unhide hs)
  replace ha:=hide ha; replace hr:=hide hr
  refine wp_region_lit ?_
  refine lvk (.pointer (some ⟨w.heap.size,1,none⟩)) ?_
  simp only [nrm]
  refine list_val (.slice x1.ao x1.no x1.co) (by kernel_rfl) (exec_csO _ (.tmp 22) rfl (w.heap.size) 1 (by kernel_rfl) x1.ao x1.no x1.co (seg_cell (nC  _ _ _ _ _) (hB.get 0 (x:=⟨w.heap.size,fl [[.int .u32 c.nx],[.slice x1.ao x1.no x1.co],[.int .i64 c.tn],[.int .u32 c.dl],[.slice x1.ah x1.nh x1.ch]],26⟩) rfl) 1 (v:=.slice x1.ao x1.no x1.co) rfl rfl)) ?_
  simp only [nrm]
  refine lvk (.pointer (some ⟨w.heap.size,2,none⟩)) ?_
  simp only [nrm]
  refine list_val (.int .i64 c.tn) (by kernel_rfl) (exec_ci _ (.tmp 24) rfl (w.heap.size) 2 (by kernel_rfl) c.tn (seg_cell (nC  _ _ _ _ _) (hB.get 0 (x:=⟨w.heap.size,fl [[.int .u32 c.nx],[.slice x1.ao x1.no x1.co],[.int .i64 c.tn],[.int .u32 c.dl],[.slice x1.ah x1.nh x1.ch]],26⟩) rfl) 2 (v:=.int .i64 c.tn) rfl rfl)) ?_
  simp only [nrm]
  refine list_val (.pointer (some ⟨p,o+106 * t,none⟩)) (by kernel_rfl) (exec_iso _ (.tmp 23) (.tmp 25) rfl p o x1.no x1.co t (by rw [← unhide ha]; kernel_rfl) (by rw [← unhide ht]; kernel_rfl) (by omega)) ?_
  simp only [nrm]
  refine list_val (.agg (fl [[.int .u32 s.n],bw s.B])) (by kernel_rfl) (exec_lo _ (.tmp 26) rfl p (o+106 * t) (by kernel_rfl) s (unhide hok) (unhide hr)) ?_
  simp only [nrm]
  refine list_valw (.pointer (some ⟨u3.heap.size,0,none⟩)) (u3.alloc (.cells (fl [[.int .u32 0],bw Z105]) 33 (0,0))) (by kernel_rfl) (by kernel_rfl) ?_
  replace hB:=hB.new (fl [[.int .u32 0],bw Z105]) 33
  simp only [List.nil_append,List.cons_append] at hB
  have hg:=(Gr.refl u3).alloc (.cells (fl [[.int .u32 0],bw Z105]) 33 (0,0))
  replace hW:=hide ((unhide hW).gr hg)
  clear hg
  generalize World.alloc _ _=u4 at *
  generalize u3.heap.size=g6 at *
  simp only [nrm]
  have hzz_:Hid (u4.heap[g6]?=some (.cells (fl [[.int .u32 0],bw Z105]) 33 (0,0))):=hide (hB.get 3 (x:=⟨g6,fl [[.int .u32 0],bw Z105],33⟩) rfl)
  refine list_all 33 (.tmp 6) (.tmp 27) (g6) (S2:=[[.int .u32 s.n],bw s.B]) (by kernel_rfl) rfl (by kernel_rfl) (by kernel_rfl) hB 3 rfl NO (nO Z105_len _) (nO (unhide hok2) _) (by kernel_rfl) (oO _ rfl) ?_
  intro u5 hB_ hbt_
  clear hB
  replace hB:Bl w [⟨w.heap.size,fl [[.int .u32 c.nx],[.slice x1.ao x1.no x1.co],[.int .i64 c.tn],[.int .u32 c.dl],[.slice x1.ah x1.nh x1.ch]],26⟩,⟨w.heap.size+1,fl [[.int .u32 0],[.slice none 0 0],[.int .i64 0],[.int .u32 0],[.slice none 0 0]],26⟩,⟨w.heap.size+1+1,fl [[.int .u32 0],bw Z105],33⟩,⟨g6,fl [[.int .u32 s.n],bw s.B],33⟩] u5:=hB_
  clear hB_
  replace hW:=hide ((unhide hW).bkO (unhide hzz_) hbt_ hne6)
  clear hbt_ hzz_
  simp only [nrm]
  refine wpList_nil ?_
  clear hr
  replace hB:=hide hB
  go_upto_region 8 with fail
  replace hB:=unhide hB
  refine wp_region_lit ?_
  refine lvk (.pointer (some ⟨w.heap.size,2,none⟩)) ?_
  simp only [nrm]
  refine list_val (.int .i64 c.tn) (by kernel_rfl) (exec_ci _ (.tmp 28) rfl (w.heap.size) 2 (by kernel_rfl) c.tn (seg_cell (nC  _ _ _ _ _) (hB.get 0 (x:=⟨w.heap.size,fl [[.int .u32 c.nx],[.slice x1.ao x1.no x1.co],[.int .i64 c.tn],[.int .u32 c.dl],[.slice x1.ah x1.nh x1.ch]],26⟩) rfl) 2 (v:=.int .i64 c.tn) rfl rfl)) ?_
  simp only [nrm]
  refine list_val (.int .i64 (c.tn+1)) (by kernel_rfl) (add_i _ (.tmp 29) (.const (.int .i64 1)) c.tn 1 rfl (by kernel_rfl) (by kernel_rfl) _ rfl (by omega)) ?_
  simp only [nrm]
  refine lvk (.pointer (some ⟨w.heap.size,2,none⟩)) ?_
  simp only [nrm]
  have hzz_:Hid (u5.heap[w.heap.size]?=some (.cells (fl [[.int .u32 c.nx],[.slice x1.ao x1.no x1.co],[.int .i64 c.tn],[.int .u32 c.dl],[.slice x1.ah x1.nh x1.ch]]) 26 (0,0))):=hide (hB.get 0 (x:=⟨w.heap.size,fl [[.int .u32 c.nx],[.slice x1.ao x1.no x1.co],[.int .i64 c.tn],[.int .u32 c.dl],[.slice x1.ah x1.nh x1.ch]],26⟩) rfl)
  refine list_ci (.tmp 31) (.tmp 30) (w.heap.size) 2 (c.tn+1) (by kernel_rfl) rfl (by kernel_rfl) (by kernel_rfl) hB 0 rfl NC (nC  _ _ _ _ _) 2 _ rfl rfl ?_
  intro u6 hB_ hbt_
  clear hB
  replace hB:Bl w [⟨w.heap.size,fl [[.int .u32 c.nx],[.slice x1.ao x1.no x1.co],[.int .i64 (c.tn+1)],[.int .u32 c.dl],[.slice x1.ah x1.nh x1.ch]],26⟩,⟨w.heap.size+1,fl [[.int .u32 0],[.slice none 0 0],[.int .i64 0],[.int .u32 0],[.slice none 0 0]],26⟩,⟨w.heap.size+1+1,fl [[.int .u32 0],bw Z105],33⟩,⟨g6,fl [[.int .u32 s.n],bw s.B],33⟩] u6:=hB_
  clear hB_
  replace hW:=hide ((unhide hW).bz (unhide hzz_) hbt_)
  clear hbt_ hzz_
  simp only [nrm]
  refine wpList_nil ?_
  replace hB:=hide hB
  go_upto_region 9 with fail
  replace hB:=unhide hB
  refine wp_region_lit ?_
  refine lvk (.pointer (some ⟨w.heap.size,2,none⟩)) ?_
  simp only [nrm]
  refine list_val (.int .i64 (c.tn+1)) (by kernel_rfl) (exec_ci _ (.tmp 32) rfl (w.heap.size) 2 (by kernel_rfl) (c.tn+1) (seg_cell (nC  _ _ _ _ _) (hB.get 0 (x:=⟨w.heap.size,fl [[.int .u32 c.nx],[.slice x1.ao x1.no x1.co],[.int .i64 (c.tn+1)],[.int .u32 c.dl],[.slice x1.ah x1.nh x1.ch]],26⟩) rfl) 2 (v:=.int .i64 (c.tn+1)) rfl rfl)) ?_
  simp only [nrm]
  refine lvk (.pointer (some ⟨w.heap.size,1,none⟩)) ?_
  simp only [nrm]
  refine list_val (.slice x1.ao x1.no x1.co) (by kernel_rfl) (exec_csO _ (.tmp 34) rfl (w.heap.size) 1 (by kernel_rfl) x1.ao x1.no x1.co (seg_cell (nC  _ _ _ _ _) (hB.get 0 (x:=⟨w.heap.size,fl [[.int .u32 c.nx],[.slice x1.ao x1.no x1.co],[.int .i64 (c.tn+1)],[.int .u32 c.dl],[.slice x1.ah x1.nh x1.ch]],26⟩) rfl) 1 (v:=.slice x1.ao x1.no x1.co) rfl rfl)) ?_
  simp only [nrm]
  refine lvk (.int .i64 (x1.no:Int)) ?_
  simp only [nrm]
  refine list_val (.int .i64 ((c.tn+1) % (x.no:Int))) (by kernel_rfl) (hn1 ▸ rem_i _ (.tmp 33) (.tmp 36) (c.tn+1) (x1.no:Int) rfl (by kernel_rfl) (by kernel_rfl) (by omega) (by omega) (by omega)) ?_
  simp only [nrm]
  refine lvk (.pointer (some ⟨w.heap.size,2,none⟩)) ?_
  simp only [nrm]
  have hzz_:Hid (u6.heap[w.heap.size]?=some (.cells (fl [[.int .u32 c.nx],[.slice x1.ao x1.no x1.co],[.int .i64 (c.tn+1)],[.int .u32 c.dl],[.slice x1.ah x1.nh x1.ch]]) 26 (0,0))):=hide (hB.get 0 (x:=⟨w.heap.size,fl [[.int .u32 c.nx],[.slice x1.ao x1.no x1.co],[.int .i64 (c.tn+1)],[.int .u32 c.dl],[.slice x1.ah x1.nh x1.ch]],26⟩) rfl)
  refine list_ci (.tmp 38) (.tmp 37) (w.heap.size) 2 ((c.tn+1) % (x.no:Int)) (by kernel_rfl) rfl (by kernel_rfl) (by kernel_rfl) hB 0 rfl NC (nC  _ _ _ _ _) 2 _ rfl rfl ?_
  intro u7 hB_ hbt_
  clear hB
  replace hB:Bl w [⟨w.heap.size,fl [[.int .u32 c.nx],[.slice x1.ao x1.no x1.co],[.int .i64 ((c.tn+1) % (x.no:Int))],[.int .u32 c.dl],[.slice x1.ah x1.nh x1.ch]],26⟩,⟨w.heap.size+1,fl [[.int .u32 0],[.slice none 0 0],[.int .i64 0],[.int .u32 0],[.slice none 0 0]],26⟩,⟨w.heap.size+1+1,fl [[.int .u32 0],bw Z105],33⟩,⟨g6,fl [[.int .u32 s.n],bw s.B],33⟩] u7:=hB_
  clear hB_
  replace hW:=hide ((unhide hW).bz (unhide hzz_) hbt_)
  clear hbt_ hzz_
  simp only [nrm]
  refine wpList_nil ?_
  replace hW:Hid (Own w.heap.size u7 { c with tn:=(c.tn+1) % (x.no:Int) } x1):=hide ⟨(unhide hW).o,(unhide hW).h⟩
  replace hB:=hide hB
  go_upto_region 10 with fail
  replace hB:=unhide hB
  refine any_start (S:=fun v_=>v_.heap[w.heap.size]?=some (.cells (fl [[.int .u32 c.nx],[.slice x1.ao x1.no x1.co],[.int .i64 ((c.tn+1) % (x.no:Int))],[.int .u32 c.dl],[.slice x1.ah x1.nh x1.ch]]) 26 (0,0))∧v_.heap[g6]?=some (.cells (fl [[.int .u32 s.n],bw s.B]) 33 (0,0))) (by kernel_rfl) ?_
  replace hW:=hide ((unhide hW).gr ((Gr.refl u7).drew))
  replace hB:=hB.drew
  generalize World.drew _=u8 at *
  simp only [List.size_toArray,List.length_cons,List.length_nil,Array.replicate,List.replicate]
  have hS_:=hide (show (fun v_=>v_.heap[w.heap.size]?=some (.cells (fl [[.int .u32 c.nx],[.slice x1.ao x1.no x1.co],[.int .i64 ((c.tn+1) % (x.no:Int))],[.int .u32 c.dl],[.slice x1.ah x1.nh x1.ch]]) 26 (0,0))∧v_.heap[g6]?=some (.cells (fl [[.int .u32 s.n],bw s.B]) 33 (0,0))) u8 from ⟨(hB.get 0 (x:=⟨w.heap.size,fl [[.int .u32 c.nx],[.slice x1.ao x1.no x1.co],[.int .i64 ((c.tn+1) % (x.no:Int))],[.int .u32 c.dl],[.slice x1.ah x1.nh x1.ch]],26⟩) rfl),(hB.get 3 (x:=⟨g6,fl [[.int .u32 s.n],bw s.B],33⟩) rfl)⟩)
  refine any_tk 0 (.agg (fl [[.int .u32 c.nx],[.slice x1.ao x1.no x1.co],[.int .i64 ((c.tn+1) % (x.no:Int))],[.int .u32 c.dl],[.slice x1.ah x1.nh x1.ch]])) (tf 5 0) rfl (fun x_ hu=>exec_sw _ 26 (.tmp 1) rfl (w.heap.size) (by kernel_rfl) hu.1 NC (nC  _ _ _ _ _) Try.underlying26 rfl (by kernel_rfl)) (unhide hS_) ?_
  simp only [nrm]
  refine any_tk 1 (.agg (fl [[.int .u32 s.n],bw s.B])) (tf 5 1) rfl (fun x_ hu=>exec_sw _ 33 (.tmp 6) rfl (g6) (by kernel_rfl) hu.2 NO (nO (unhide hok2) _) Try.underlying33 rfl (by kernel_rfl)) (unhide hS_) ?_
  simp only [nrm]
  refine any_one (i:=2) (by kernel_rfl) rfl (fun K hK=>?_)
  have hzz_:Hid (u8.heap[w.heap.size+1]?=some (.cells (fl [[.int .u32 0],[.slice none 0 0],[.int .i64 0],[.int .u32 0],[.slice none 0 0]]) 26 (0,0))):=hide (hB.get 1 (x:=⟨w.heap.size+1,fl [[.int .u32 0],[.slice none 0 0],[.int .i64 0],[.int .u32 0],[.slice none 0 0]],26⟩) rfl)
  refine step_all 26 (.tmp 2) (.tmp 39) (w.heap.size+1) (S2:=[[.int .u32 c.nx],[.slice x1.ao x1.no x1.co],[.int .i64 ((c.tn+1) % (x.no:Int))],[.int .u32 c.dl],[.slice x1.ah x1.nh x1.ch]]) (by kernel_rfl) rfl (by kernel_rfl) (by kernel_rfl) hB 1 rfl NC (nC  _ _ _ _ _) (nC  _ _ _ _ _) (by kernel_rfl) (oC  rfl rfl rfl rfl rfl) ?_
  intro u9 hB_ hbt_
  clear hB
  replace hB:Bl w [⟨w.heap.size,fl [[.int .u32 c.nx],[.slice x1.ao x1.no x1.co],[.int .i64 ((c.tn+1) % (x.no:Int))],[.int .u32 c.dl],[.slice x1.ah x1.nh x1.ch]],26⟩,⟨w.heap.size+1,fl [[.int .u32 c.nx],[.slice x1.ao x1.no x1.co],[.int .i64 ((c.tn+1) % (x.no:Int))],[.int .u32 c.dl],[.slice x1.ah x1.nh x1.ch]],26⟩,⟨w.heap.size+1+1,fl [[.int .u32 0],bw Z105],33⟩,⟨g6,fl [[.int .u32 s.n],bw s.B],33⟩] u9:=hB_
  clear hB_
  replace hW:=hide ((unhide hW).bz (unhide hzz_) hbt_)
  clear hbt_ hzz_
  clear hS_
  have hS_:=hide (show (fun v_=>v_.heap[w.heap.size]?=some (.cells (fl [[.int .u32 c.nx],[.slice x1.ao x1.no x1.co],[.int .i64 ((c.tn+1) % (x.no:Int))],[.int .u32 c.dl],[.slice x1.ah x1.nh x1.ch]]) 26 (0,0))∧v_.heap[g6]?=some (.cells (fl [[.int .u32 s.n],bw s.B]) 33 (0,0))) u9 from ⟨(hB.get 0 (x:=⟨w.heap.size,fl [[.int .u32 c.nx],[.slice x1.ao x1.no x1.co],[.int .i64 ((c.tn+1) % (x.no:Int))],[.int .u32 c.dl],[.slice x1.ah x1.nh x1.ch]],26⟩) rfl),(hB.get 3 (x:=⟨g6,fl [[.int .u32 s.n],bw s.B],33⟩) rfl)⟩)
  refine hK.out _ _ (unhide hS_) (fun _=>?_)
  clear hK K
  simp only [nrm]
  refine any_one (i:=3) (by kernel_rfl) rfl (fun K hK=>?_)
  have hzz_:Hid (u9.heap[w.heap.size+1+1]?=some (.cells (fl [[.int .u32 0],bw Z105]) 33 (0,0))):=hide (hB.get 2 (x:=⟨w.heap.size+1+1,fl [[.int .u32 0],bw Z105],33⟩) rfl)
  refine step_all 33 (.tmp 3) (.tmp 40) (w.heap.size+1+1) (S2:=[[.int .u32 s.n],bw s.B]) (by kernel_rfl) rfl (by kernel_rfl) (by kernel_rfl) hB 2 rfl NO (nO Z105_len _) (nO (unhide hok2) _) (by kernel_rfl) (oO _ rfl) ?_
  intro u10 hB_ hbt_
  clear hB
  replace hB:Bl w [⟨w.heap.size,fl [[.int .u32 c.nx],[.slice x1.ao x1.no x1.co],[.int .i64 ((c.tn+1) % (x.no:Int))],[.int .u32 c.dl],[.slice x1.ah x1.nh x1.ch]],26⟩,⟨w.heap.size+1,fl [[.int .u32 c.nx],[.slice x1.ao x1.no x1.co],[.int .i64 ((c.tn+1) % (x.no:Int))],[.int .u32 c.dl],[.slice x1.ah x1.nh x1.ch]],26⟩,⟨w.heap.size+1+1,fl [[.int .u32 s.n],bw s.B],33⟩,⟨g6,fl [[.int .u32 s.n],bw s.B],33⟩] u10:=hB_
  clear hB_
  replace hW:=hide ((unhide hW).bkO (unhide hzz_) hbt_ hne2)
  clear hbt_ hzz_
  clear hS_
  have hS_:=hide (show (fun v_=>v_.heap[w.heap.size]?=some (.cells (fl [[.int .u32 c.nx],[.slice x1.ao x1.no x1.co],[.int .i64 ((c.tn+1) % (x.no:Int))],[.int .u32 c.dl],[.slice x1.ah x1.nh x1.ch]]) 26 (0,0))∧v_.heap[g6]?=some (.cells (fl [[.int .u32 s.n],bw s.B]) 33 (0,0))) u10 from ⟨(hB.get 0 (x:=⟨w.heap.size,fl [[.int .u32 c.nx],[.slice x1.ao x1.no x1.co],[.int .i64 ((c.tn+1) % (x.no:Int))],[.int .u32 c.dl],[.slice x1.ah x1.nh x1.ch]],26⟩) rfl),(hB.get 3 (x:=⟨g6,fl [[.int .u32 s.n],bw s.B],33⟩) rfl)⟩)
  refine hK.out _ _ (unhide hS_) (fun _=>?_)
  clear hK K
  simp only [nrm]
  refine any_one (i:=4) (by kernel_rfl) rfl (fun K hK=>?_)
  replace hK:=hide hK
  go_simp
  refine (unhide hK).out _ _ (unhide hS_) (fun _=>?_)
  clear hK K
  simp only [nrm]
  refine any_done (by kernel_rfl) ?_
  clear hS_
  replace hB:=hide hB
  go_wp2_with fail
  replace hB:=unhide hB
  rw [unhide hT]
  rw [unhide hv]
  exact bodyPost_ret (v:=.tuple #[.agg (fl [[.int .u32 c.nx],[.slice x1.ao x1.no x1.co],[.int .i64 ((c.tn+1) % (x.no:Int))],[.int .u32 c.dl],[.slice x1.ah x1.nh x1.ch]]),.agg (fl [[.int .u32 s.n],bw s.B]),.int .i64 0]) (res3 Try.results9 (rv_cell (by kernel_rfl) (hB.get 1 (x:=⟨w.heap.size+1,fl [[.int .u32 c.nx],[.slice x1.ao x1.no x1.co],[.int .i64 ((c.tn+1) % (x.no:Int))],[.int .u32 c.dl],[.slice x1.ah x1.nh x1.ch]],26⟩) rfl) Try.underlying26 rfl (by rw [fl_size (nC  _ _ _ _ _)]; kernel_rfl)) (rv_cell (by kernel_rfl) (hB.get 2 (x:=⟨w.heap.size+1+1,fl [[.int .u32 s.n],bw s.B],33⟩) rfl) Try.underlying33 rfl (by rw [fl_size (nO (unhide hok2) _)]; kernel_rfl)) (rv_tmp (by kernel_rfl))) rfl (⟨x1,rfl,(unhide hW).cin ⟨(unhide hc).o.1,(unhide hc).h.1,(unhide hc).nx,(by have h1:=unhide hmod1; have h2:=unhide hmod2; dsimp only; omega),(unhide hc).dl⟩,(unhide hW).owx,hB.gr⟩)
end Go.Proofs.Ytcefkkoombmndab
namespace Go.Proofs.Ytcefkkoombmndab
open Go.RowKit
set_option maxRecDepth 100000
set_option linter.unusedSimpArgs false
set_option linter.unusedVariables false
theorem Gr.gr {w u v:World} (h:Gr w u) (k:Gr u v):Gr w v:=h.trans k
end Go.Proofs.Ytcefkkoombmndab
namespace Go.Proofs.Ytcefkkoombmndab
open Go.RowKit
set_option maxRecDepth 100000
set_option linter.unusedSimpArgs false
set_option linter.unusedVariables false
def cmpV (m n:Int):Int:=if m<n then -1 else if n<m then 1 else 0
set_option maxHeartbeats 4000000 in
theorem nan_ok (m:Int) (w:World)  : Calls Try.prog 37 #[.int .u32 m] w (Vl (.bool false) w):=by
 obtain ⟨T,hT⟩:∃ T:Ending→World→Prop,T=(Vl (.bool false) w):=⟨_,rfl⟩
 rw [← hT]
 replace hT:=hide hT
 go_enter Try.func37,Try.ntmps37
 go_upto_region 1 with fail
 obtain ⟨u0,hu_⟩:∃ u,u=w:=⟨_,rfl⟩
 rw [← hu_]
 have hB:Bl w [] u0:=hu_ ▸ Bl.nil w
 clear hu_
 refine wp_region_lit ?_
 refine lvk (.int .u32 m) ?_
 simp only [nrm]
 refine lvk (.int .u32 m) ?_
 simp only [nrm]
 refine list_val (.bool false) (by kernel_rfl) (neq_32 _ (.tmp 3) (.tmp 4) m m false rfl (by kernel_rfl) (by kernel_rfl) (by simp)) ?_
 simp only [nrm]
 (refine wpList_step fun K hK=>?_; replace hK:=hide hK; go_simp; refine unhide hK _ _ ?_; clear hK K)
 refine wpList_nil ?_
 replace hB:=hide hB
 go_wp2_with fail
 replace hB:=unhide hB
 rw [unhide hT]
 exact (⟨rfl,hB.gr⟩)
set_option maxHeartbeats 4000000 in
theorem cmp_ok (m n:Int) (w:World)  : Calls Try.prog 33 #[.int .u32 m,.int .u32 n] w (Vl (.int .i64 (cmpV m n)) w):=by
 obtain ⟨T,hT⟩:∃ T:Ending→World→Prop,T=(Vl (.int .i64 (cmpV m n)) w):=⟨_,rfl⟩
 rw [← hT]
 replace hT:=hide hT
 go_enter Try.func33,Try.ntmps33
 go_upto_region 1 with fail
 obtain ⟨u0,hu_⟩:∃ u,u=w:=⟨_,rfl⟩
 rw [← hu_]
 have hB:Bl w [] u0:=hu_ ▸ Bl.nil w
 clear hu_
 refine wp_region_lit ?_
 refine lvk (.int .u32 m) ?_
 simp only [nrm]
 refine list_call 37 #[.int .u32 m] (by kernel_rfl) (by kernel_rfl) ((nan_ok m u0).mono ?_)
 rintro r_ u1 ⟨rfl,hg⟩
 replace hB:=hB.more hg
 clear hg
 refine ⟨_,rfl,?_⟩
 simp only [nrm]
 (refine wpList_step fun K hK=>?_; replace hK:=hide hK; go_simp; refine unhide hK _ _ ?_; clear hK K)
 refine wpList_nil ?_
 replace hB:=hide hB
 go_upto_region 2 with fail
 replace hB:=unhide hB
 refine wp_region_lit ?_
 refine lvk (.int .u32 n) ?_
 simp only [nrm]
 refine list_call 37 #[.int .u32 n] (by kernel_rfl) (by kernel_rfl) ((nan_ok n u1).mono ?_)
 rintro r_ u2 ⟨rfl,hg⟩
 replace hB:=hB.more hg
 clear hg
 refine ⟨_,rfl,?_⟩
 simp only [nrm]
 (refine wpList_step fun K hK=>?_; replace hK:=hide hK; go_simp; refine unhide hK _ _ ?_; clear hK K)
 refine wpList_nil ?_
 replace hB:=hide hB
 go_upto_region 3 with fail
 replace hB:=unhide hB
 refine wp_region_lit ?_
 refine lvk (.bool false) ?_
 simp only [nrm]
 refine wpList_nil ?_
 replace hB:=hide hB
 go_upto_region 7 with fail
 replace hB:=unhide hB
 refine wp_region_lit ?_
 refine lvk (.bool false) ?_
 simp only [nrm]
 refine wpList_nil ?_
 by_cases h1:m<n
 ·have hv:cmpV m n = -1:=by unfold cmpV; rw [if_pos h1]
  replace hB:=hide hB
  go_upto_region 9 with fail
  replace hB:=unhide hB
  refine wp_region_lit ?_
  refine lvk (.int .u32 m) ?_
  simp only [nrm]
  refine lvk (.int .u32 n) ?_
  simp only [nrm]
  refine list_val (.bool true) (by kernel_rfl) (lss_32 _ (.tmp 14) (.tmp 15) m n true rfl (by kernel_rfl) (by kernel_rfl) (decide_eq_true h1)) ?_
  simp only [nrm]
  refine wpList_nil ?_
  replace hB:=hide hB
  go_wp2_with fail
  replace hB:=unhide hB
  rw [unhide hT]
  exact (⟨by rw [hv] <;> rfl,hB.gr⟩)
 replace hB:=hide hB
 go_upto_region 9 with fail
 replace hB:=unhide hB
 refine wp_region_lit ?_
 refine lvk (.int .u32 m) ?_
 simp only [nrm]
 refine lvk (.int .u32 n) ?_
 simp only [nrm]
 refine list_val (.bool false) (by kernel_rfl) (lss_32 _ (.tmp 14) (.tmp 15) m n false rfl (by kernel_rfl) (by kernel_rfl) (decide_eq_false h1)) ?_
 simp only [nrm]
 refine wpList_nil ?_
 by_cases h2:n<m
 ·have hv:cmpV m n=1:=by unfold cmpV; rw [if_neg h1,if_pos h2]
  replace hB:=hide hB
  go_upto_region 11 with fail
  replace hB:=unhide hB
  refine wp_region_lit ?_
  refine lvk (.int .u32 m) ?_
  simp only [nrm]
  refine lvk (.int .u32 n) ?_
  simp only [nrm]
  refine list_val (.bool true) (by kernel_rfl) (gtr_32 _ (.tmp 17) (.tmp 18) m n true rfl (by kernel_rfl) (by kernel_rfl) (decide_eq_true h2)) ?_
  simp only [nrm]
  refine wpList_nil ?_
  replace hB:=hide hB
  go_wp2_with fail
  replace hB:=unhide hB
  rw [unhide hT]
  exact (⟨by rw [hv] <;> rfl,hB.gr⟩)
 ·have hv:cmpV m n=0:=by unfold cmpV; rw [if_neg h1,if_neg h2]
  replace hB:=hide hB
  go_upto_region 11 with fail
  replace hB:=unhide hB
  refine wp_region_lit ?_
  refine lvk (.int .u32 m) ?_
  simp only [nrm]
  refine lvk (.int .u32 n) ?_
  simp only [nrm]
  refine list_val (.bool false) (by kernel_rfl) (gtr_32 _ (.tmp 17) (.tmp 18) m n false rfl (by kernel_rfl) (by kernel_rfl) (decide_eq_false h2)) ?_
  simp only [nrm]
  refine wpList_nil ?_
  replace hB:=hide hB
  go_wp2_with fail
  replace hB:=unhide hB
  rw [unhide hT]
  exact (⟨by rw [hv] <;> rfl,hB.gr⟩)
set_option maxHeartbeats 4000000 in
theorem pl1_ok (i:It) (m:Int) (w:World)  : Calls Try.prog 32 #[.agg (fl [[.int .u32 i.n],[.string i.s]]),.int .u32 m] w (Vl (.int .i64 (cmpV i.n m)) w):=by
 obtain ⟨T,hT⟩:∃ T:Ending→World→Prop,T=(Vl (.int .i64 (cmpV i.n m)) w):=⟨_,rfl⟩
 rw [← hT]
 replace hT:=hide hT
 obtain ⟨A0_,hA0_⟩:∃ S_,S_=fl [[.int .u32 i.n],[.string i.s]]:=⟨_,rfl⟩
 rw [← hA0_]
 replace hA0_:=hide hA0_
 go_enter Try.func32,Try.ntmps32
 go_upto_region 1 with fail
 have hB:=((Bl.nil w).new A0_ 59)
 simp only [size_alloc,List.nil_append,List.cons_append] at hB
 rw [unhide hA0_] at hB
 generalize hu_:World.alloc _ _=u0
 replace hB:Bl w [⟨w.heap.size,fl [[.int .u32 i.n],[.string i.s]],59⟩] u0:=by
  rw [← hu_]
  rw [unhide hA0_]
  exact hB
 clear hu_ hA0_
 refine wp_region_lit ?_
 refine lvk (.pointer (some ⟨w.heap.size,0,none⟩)) ?_
 simp only [nrm]
 refine list_val (.int .u32 i.n) (by kernel_rfl) (exec_c32 _ (.tmp 5) rfl (w.heap.size) 0 (by kernel_rfl) i.n (seg_cell (nI  _ _) (hB.get 0 (x:=⟨w.heap.size,fl [[.int .u32 i.n],[.string i.s]],59⟩) rfl) 0 (v:=.int .u32 i.n) rfl rfl)) ?_
 simp only [nrm]
 refine lvk (.int .u32 m) ?_
 simp only [nrm]
 refine list_call 33 #[.int .u32 i.n,.int .u32 m] (by kernel_rfl) (by kernel_rfl) ((cmp_ok i.n m u0).mono ?_)
 rintro r_ u1 ⟨rfl,hg⟩
 replace hB:=hB.more hg
 clear hg
 refine ⟨_,rfl,?_⟩
 simp only [nrm]
 (refine wpList_step fun K hK=>?_; replace hK:=hide hK; go_simp; refine unhide hK _ _ ?_; clear hK K)
 refine wpList_nil ?_
 replace hB:=hide hB
 go_wp2_with fail
 replace hB:=unhide hB
 rw [unhide hT]
 exact (⟨rfl,hB.gr⟩)
end Go.Proofs.Ytcefkkoombmndab
namespace Go.Proofs.Ytcefkkoombmndab
open Go.RowKit
set_option maxRecDepth 100000
set_option linter.unusedSimpArgs false
set_option linter.unusedVariables false
section
variable {a:Act} {o:Oper} (w:World) (x y:Operand) (m n:Int)
theorem conv_iu (ho:o.op=.convert 3 47 x) (hx:a.eval x=.int .i64 m) (h:0≤m∧m<9223372036854775808):(execOp a.eval o).run Try.prog w=.ok (.value (.int .u64 m)) w:=by
 have hw:IntKind.u64.wrap m=m:=by rw [IntKind.wrap_u64]; omega
 unfold execOp
 simp only [ho,hx]
 go_simp
theorem conv_ui (ho:o.op=.convert 47 3 x) (hx:a.eval x=.int .u64 m) (h:0≤m∧m<9223372036854775808):(execOp a.eval o).run Try.prog w=.ok (.value (.int .i64 m)) w:=by
 have hw:IntKind.i64.wrap m=m:=by rw [IntKind.wrap_i64]; omega
 unfold execOp
 simp only [ho,hx]
 go_simp
theorem half_u (ho:o.op=.binOp .shr 47 x (.const (.int .u64 1)) 47) (hx:a.eval x=.int .u64 m) (h:0≤m∧m<9223372036854775808):(execOp a.eval o).run Try.prog w=.ok (.value (.int .u64 (m / 2))) w:=by
 have hw:IntKind.u64.wrap (m / 2)=m / 2:=by rw [IntKind.wrap_u64]; omega
 unfold execOp
 simp only [ho,hx]
 go_simp
end
def Srt (H:List It):Prop:=∀ (k l:Nat) (s t:It),k<l→H[k]?=some s→H[l]?=some t→s.n<t.n
def pos (H:List It) (m:Int):Nat:=H.findIdx (fun s=>decide (m≤s.n))
def isIn (H:List It) (m:Int):Bool:=H.any (fun s=>decide (s.n=m))
theorem rises_lo:∀ (H:List It) (f e:Int),rises f e H=true→∀ (k:Nat) (s:It),H[k]?=some s→f<s.n∧s.n<e∧szB s.s=true
 | [],_,_,_,k,s,h=>by simp at h
 | i::H,f,e,hr,k,s,h=>by
  unfold rises at hr
  simp only [Bool.and_eq_true,decide_eq_true_eq] at hr
  cases k with
  | zero =>
   simp only [List.getElem?_cons_zero,Option.some.injEq] at h
   subst h
   exact ⟨hr.1.1.1,hr.1.1.2,hr.1.2⟩
  | succ k =>
   rw [List.getElem?_cons_succ] at h
   have:=rises_lo H i.n e hr.2 k s h
   exact ⟨by omega,this.2⟩
theorem rises_srt:∀ (H:List It) (f e:Int),rises f e H=true→Srt H
 | [],_,_,_=>fun k l s t _ h=>by simp at h
 | i::H,f,e,hr=>fun k l s t hkl h1 h2=>by
  unfold rises at hr
  simp only [Bool.and_eq_true,decide_eq_true_eq] at hr
  cases l with
  | zero=>omega
  | succ l =>
   rw [List.getElem?_cons_succ] at h2
   cases k with
   | zero =>
    simp only [List.getElem?_cons_zero,Option.some.injEq] at h1
    subst h1
    exact (rises_lo H i.n e hr.2 l t h2).1
   | succ k =>
    rw [List.getElem?_cons_succ] at h1
    exact rises_srt H i.n e hr.2 k l s t (by omega) h1 h2
theorem rt_rises {c:Cm} (h:rt c=true):rises c.dl (min (c.dl+4) 2147483648) c.H=true:=by
 unfold rt heldB at h
 simp only [Bool.and_eq_true,decide_eq_true_eq] at h
 exact h.2.2.2
theorem rt_srt {c:Cm} (h:rt c=true):Srt c.H:=rises_srt _ _ _ (rt_rises h)
theorem pos_at {H:List It} {m:Int} {i:Nat} (hi:i≤H.length) (h1:∀ k s,k<i→H[k]?=some s→s.n<m) (h2:∀ k s,i≤k→H[k]?=some s→m≤s.n):pos H m=i:=by
 unfold pos
 by_cases hl:i<H.length
 ·refine (List.findIdx_eq hl).2 ⟨decide_eq_true (by have:=h2 i _ (Nat.le_refl _) (List.getElem?_eq_getElem hl); omega),fun k hk=>?_⟩
  exact decide_eq_false (by have:=h1 k _ hk (List.getElem?_eq_getElem (by omega)); omega)
 ·have:i=H.length:=by omega
  subst this
  refine List.findIdx_eq_length.2 fun s hs=>?_
  obtain ⟨k,hk,rfl⟩:=List.getElem_of_mem hs
  exact decide_eq_false (by have:=h1 k _ hk (List.getElem?_eq_getElem hk); omega)
theorem isin_at {H:List It} {m:Int} {i:Nat} (hs:Srt H) (s:It) (hi:H[i]?=some s) (h1:∀ k s,k<i→H[k]?=some s→s.n<m) (h2:∀ k s,i≤k→H[k]?=some s→m≤s.n):isIn H m=decide (s.n=m):=by
 unfold isIn
 rw [Bool.eq_iff_iff,List.any_eq_true,decide_eq_true_iff]
 constructor
 ·rintro ⟨t,ht,he⟩
  simp only [decide_eq_true_eq] at he
  obtain ⟨k,hk,rfl⟩:=List.getElem_of_mem ht
  have hk2:=List.getElem?_eq_getElem hk
  rcases Nat.lt_trichotomy k i with h | h | h
  ·have:=h1 k _ h hk2; omega
  ·subst h
   rw [hk2] at hi
   injection hi with hi
   rw [← hi]; exact he
  ·have h3:=hs i k s _ h hi hk2
   have h4:=h2 i s (Nat.le_refl _) hi
   omega
 ·intro he
  exact ⟨s,List.mem_of_getElem? hi,decide_eq_true he⟩
theorem isin_none {H:List It} {m:Int} (h1:∀ k s,k<H.length→H[k]?=some s→s.n<m):isIn H m=false:=by
 unfold isIn
 rw [List.any_eq_false]
 intro s hs
 obtain ⟨k,hk,rfl⟩:=List.getElem_of_mem hs
 have:=h1 k _ hk (List.getElem?_eq_getElem hk)
 simp only [decide_eq_true_eq]
 omega
set_option maxHeartbeats 4000000 in
theorem bin_ok (H:List It) (m:Int) (a:Option Addr) (n c:Nat) (hn:n≤1000000) (w:World) (h:IL w a n c H) (hs:Srt H):Calls Try.prog 31 #[.slice a n c,.int .u32 m,.func (.func 32) #[] #[]] w (fun r w'=>r=.returned (.tuple #[.int .i64 (pos H m:Int),.bool (isIn H m)])∧Gr w w'):=by
 obtain ⟨T,hT⟩:∃ T:Ending→World→Prop,T=(fun r w'=>r=.returned (.tuple #[.int .i64 (pos H m:Int),.bool (isIn H m)])∧Gr w w'):=⟨_,rfl⟩
 rw [← hT]
 replace hT:=hide hT
 have hl:=h.len
 have hcp:=h.2.cap
 have hmx:=h.2.max
 replace h:=hide h
 replace hs:=hide hs
 obtain ⟨FV,hFV⟩:∃ f,f=Value.func (.func 32) #[] #[]:=⟨_,rfl⟩
 rw [← hFV]
 replace hFV:=hide hFV
 go_enter Try.func31,Try.ntmps31
 go_upto_region 1 with fail
 obtain ⟨u0,hu_⟩:∃ u,u=w:=⟨_,rfl⟩
 rw [← hu_]
 have hB:Bl w [] u0:=hu_ ▸ Bl.nil w
 clear hu_
 refine wp_region_lit ?_
 refine lvk (.slice a n c) ?_
 simp only [nrm]
 refine lvk (.int .i64 (n:Int)) ?_
 simp only [nrm]
 (refine wpList_step fun K hK=>?_; replace hK:=hide hK; go_simp; refine unhide hK _ _ ?_; clear hK K)
 refine wpList_nil ?_
 replace hB:=hide hB
 go_upto_region 2 with fail
 replace hB:=unhide hB
 refine wp_region_lit ?_
 refine lvk (.int .i64 (n:Int)) ?_
 simp only [nrm]
 (refine wpList_step fun K hK=>?_; replace hK:=hide hK; go_simp; refine unhide hK _ _ ?_; clear hK K)
 (refine wpList_step fun K hK=>?_; replace hK:=hide hK; go_simp; refine unhide hK _ _ ?_; clear hK K)
 refine wpList_nil ?_
 have hI:Hid ((∀ k s,k<0→H[k]?=some s→s.n<m)∧(∀ k s,n≤k→H[k]?=some s→m≤s.n)):=hide ⟨fun k s hk=>absurd hk (by omega),fun k s hk hk2=>by
  have:=(List.getElem?_eq_some_iff.1 hk2).1
  omega⟩
 have hG:=hide hB.gr
 clear hB
 go_wp2_with fail
 go_loopw [9,10] (fun u v wr=>∃ i j:Nat,i≤j∧j≤n∧u=.int .i64 (i:Int)∧v=.int .i64 (j:Int)∧Hid ((∀ k s,k<i→H[k]?=some s→s.n<m)∧(∀ k s,j≤k→H[k]?=some s→m≤s.n))∧Hid (Gr w wr)) (fun u v _=>(intOf v).toNat - (intOf u).toNat)
 case atStart=>exact ⟨0,n,by omega,by omega,rfl,rfl,hI,hG⟩
 case round =>
 clear hI hG
 obtain ⟨i,j,hij,hjn,rfl,rfl,hI,hG⟩:=hrel
 by_cases hlt:i<j
 ·have jI:(i:Int)<(j:Int):=by omega
  obtain ⟨q,hq⟩:∃ q:Nat,q=(i+j) / 2:=⟨_,rfl⟩
  have hq1:i≤q∧q<j:=by omega
  have hqI:((i:Int)+(j:Int)) / 2=(q:Int):=by omega
  replace hq:=hide hq; replace hqI:=hide hqI
  obtain ⟨s,hsj⟩:∃ s,H[q]?=some s:=⟨_,List.getElem?_eq_getElem (by omega)⟩
  have hok:=(unhide h).ok q s hsj
  obtain ⟨p,o,ha,hr⟩:=(unhide h).at_ q s hsj
  replace hok:=hide hok; replace hr:=hide hr; replace hsj:=hide hsj; replace ha:=hide ha
  have hB:=Bl.nil wr
  replace hB:=hide hB
  go_upto_region 4 with fail
  replace hB:=unhide hB
  refine wp_region_lit ?_
  refine lvk (.int .i64 (i:Int)) ?_
  simp only [nrm]
  refine lvk (.int .i64 (j:Int)) ?_
  simp only [nrm]
  refine list_val (.int .i64 ((i:Int)+(j:Int))) (by kernel_rfl) (add_i _ (.tmp 18) (.tmp 19) (i:Int) (j:Int) rfl (by kernel_rfl) (by kernel_rfl) _ rfl (by omega)) ?_
  simp only [nrm]
  refine list_val (.int .u64 ((i:Int)+(j:Int))) (by kernel_rfl) (conv_iu _ (.tmp 20) _ rfl (by kernel_rfl) (by omega)) ?_
  simp only [nrm]
  refine list_val (.int .u64 (q:Int)) (by kernel_rfl) (unhide hqI ▸ half_u _ (.tmp 21) ((i:Int)+(j:Int)) rfl (by kernel_rfl) (by omega)) ?_
  simp only [nrm]
  refine list_val (.int .i64 (q:Int)) (by kernel_rfl) (conv_ui _ (.tmp 22) _ rfl (by kernel_rfl) (by omega)) ?_
  simp only [nrm]
  (refine wpList_step fun K hK=>?_; replace hK:=hide hK; go_simp; refine unhide hK _ _ ?_; clear hK K)
  refine wpList_nil ?_
  replace hB:=hide hB
  go_upto_region 5 with fail
  replace hB:=unhide hB
  by_cases hc:s.n<m
  ·have hcv:cmpV s.n m<0:=by unfold cmpV; rw [if_pos hc]; omega
   replace hc:=hide hc; replace hcv:=hide hcv
   refine wp_region_lit ?_
   refine lvk FV ?_
   simp only [nrm]
   refine lvk (.slice a n c) ?_
   simp only [nrm]
   refine lvk (.int .i64 (q:Int)) ?_
   simp only [nrm]
   refine list_val (.pointer (some ⟨p,o+2 * q,none⟩)) (by kernel_rfl) (exec_isi _ (.tmp 25) (.tmp 26) rfl p o n c q (by rw [← unhide ha]; kernel_rfl) (by kernel_rfl) (by omega)) ?_
   simp only [nrm]
   refine list_val (.agg (fl [[.int .u32 s.n],[.string s.s]])) (by kernel_rfl) (exec_li _ (.tmp 27) rfl p (o+2 * q) (by kernel_rfl) s (range_gr (unhide hr) ((unhide hG).trans hB.gr))) ?_
   simp only [nrm]
   refine lvk (.int .u32 m) ?_
   simp only [nrm]
   refine list_call 32 #[.agg (fl [[.int .u32 s.n],[.string s.s]]),.int .u32 m] (by kernel_rfl) (by rw [unhide hFV]; kernel_rfl) ((pl1_ok s m wr).mono ?_)
   rintro r_ u1 ⟨rfl,hg⟩
   replace hB:=hB.more hg
   clear hg
   refine ⟨_,rfl,?_⟩
   simp only [nrm]
   refine list_val (.bool true) (by kernel_rfl) (lss_i _ (.tmp 30) (.const (.int .i64 0)) (cmpV s.n m) 0 true rfl (by kernel_rfl) (by kernel_rfl) (decide_eq_true (unhide hcv))) ?_
   simp only [nrm]
   refine wpList_nil ?_
   have hI2:Hid ((∀ k s,k<q+1→H[k]?=some s→s.n<m)∧(∀ k s,j≤k→H[k]?=some s→m≤s.n)):=hide ⟨fun k t hk hk2=>by
    rcases Nat.lt_or_ge k q with h1 | h1
    ·have h2:=(unhide hs) k q t s h1 hk2 (unhide hsj)
     have:=unhide hc
     omega
    ·have e:k=q:=by omega
     subst e
     have e2:=hk2.symm.trans (unhide hsj)
     injection e2 with e2
     rw [e2]; exact unhide hc,(unhide hI).2⟩
   have hG2:=hide ((unhide hG).trans hB.gr)
   clear hI hG hB hsj ha hr hok hc hcv hq hqI
   have jw:IntKind.i64.wrap ((q:Int)+1)=(q:Int)+1:=by rw [IntKind.wrap_i64]; omega
   go_wp2_with fail
   go_roundw
   case rel=>exact ⟨q+1,j,by omega,by omega,by simp,rfl,hI2,hG2⟩
   case measure=>simp [intOf]; omega
  ·have hcv:¬ cmpV s.n m<0:=by unfold cmpV; rw [if_neg hc]; split <;> omega
   replace hc:=hide hc; replace hcv:=hide hcv
   refine wp_region_lit ?_
   refine lvk FV ?_
   simp only [nrm]
   refine lvk (.slice a n c) ?_
   simp only [nrm]
   refine lvk (.int .i64 (q:Int)) ?_
   simp only [nrm]
   refine list_val (.pointer (some ⟨p,o+2 * q,none⟩)) (by kernel_rfl) (exec_isi _ (.tmp 25) (.tmp 26) rfl p o n c q (by rw [← unhide ha]; kernel_rfl) (by kernel_rfl) (by omega)) ?_
   simp only [nrm]
   refine list_val (.agg (fl [[.int .u32 s.n],[.string s.s]])) (by kernel_rfl) (exec_li _ (.tmp 27) rfl p (o+2 * q) (by kernel_rfl) s (range_gr (unhide hr) ((unhide hG).trans hB.gr))) ?_
   simp only [nrm]
   refine lvk (.int .u32 m) ?_
   simp only [nrm]
   refine list_call 32 #[.agg (fl [[.int .u32 s.n],[.string s.s]]),.int .u32 m] (by kernel_rfl) (by rw [unhide hFV]; kernel_rfl) ((pl1_ok s m wr).mono ?_)
   rintro r_ u1 ⟨rfl,hg⟩
   replace hB:=hB.more hg
   clear hg
   refine ⟨_,rfl,?_⟩
   simp only [nrm]
   refine list_val (.bool false) (by kernel_rfl) (lss_i _ (.tmp 30) (.const (.int .i64 0)) (cmpV s.n m) 0 false rfl (by kernel_rfl) (by kernel_rfl) (decide_eq_false (unhide hcv))) ?_
   simp only [nrm]
   refine wpList_nil ?_
   have hI2:Hid ((∀ k s,k<i→H[k]?=some s→s.n<m)∧(∀ k s,q≤k→H[k]?=some s→m≤s.n)):=hide ⟨(unhide hI).1,fun k t hk hk2=>by
    rcases Nat.lt_or_ge q k with h1 | h1
    ·have h2:=(unhide hs) q k s t h1 (unhide hsj) hk2
     have:=unhide hc
     omega
    ·have e:k=q:=by omega
     subst e
     have e2:=hk2.symm.trans (unhide hsj)
     injection e2 with e2
     rw [e2]; exact Int.not_lt.1 (unhide hc)⟩
   have hG2:=hide ((unhide hG).trans hB.gr)
   clear hI hG hB hsj ha hr hok hc hcv hq hqI
   have jw:IntKind.i64.wrap ((q:Int)+1)=(q:Int)+1:=by rw [IntKind.wrap_i64]; omega
   go_wp2_with fail
   go_roundw
   case rel=>exact ⟨i,q,by omega,by omega,rfl,rfl,hI2,hG2⟩
   case measure=>simp [intOf]; omega
 ·have hij2:i=j:=by omega
  subst hij2
  have jI:¬ (i:Int)<(i:Int):=by omega
  have hp:=pos_at (by omega) (unhide hI).1 (unhide hI).2
  replace hp:=hide hp
  have hB:=Bl.nil wr
  replace hB:=hide hB
  go_upto_region 8 with fail
  replace hB:=unhide hB
  by_cases hin:(i:Int)<(n:Int)
  rotate_left
  ·have hv:=isin_none (fun k s hk=>(unhide hI).1 k s (by omega))
   replace hin:=hide hin
   refine wp_region_lit ?_
   refine wpList_gen fun ops_ hops=>?_
   replace hops:=hide hops
   refine list_val (.int .i64 (i:Int)) (by rw [unhide hops]; kernel_rfl) (by kernel_rfl) ?_
   simp only [nrm]
   refine list_val (.int .i64 (i:Int)) (by rw [unhide hops]; kernel_rfl) (by kernel_rfl) ?_
   simp only [nrm]
   refine list_val (.int .i64 (n:Int)) (by rw [unhide hops]; kernel_rfl) (by kernel_rfl) ?_
   simp only [nrm]
   refine list_val (.bool false) (by rw [unhide hops]; kernel_rfl) (lss_i _ (.tmp 36) (.tmp 37) (i:Int) (n:Int) false rfl (by kernel_rfl) (by kernel_rfl) (decide_eq_false (unhide hin))) ?_
   simp only [nrm]
   refine list_val (.bool false) (by rw [unhide hops]; kernel_rfl) (by kernel_rfl) ?_
   simp only [nrm]
   refine list_off (by rw [unhide hops]; kernel_rfl) ?_
   simp only [nrm]
   refine list_off (by rw [unhide hops]; kernel_rfl) ?_
   simp only [nrm]
   refine list_off (by rw [unhide hops]; kernel_rfl) ?_
   simp only [nrm]
   refine list_off (by rw [unhide hops]; kernel_rfl) ?_
   simp only [nrm]
   refine list_off (by rw [unhide hops]; kernel_rfl) ?_
   simp only [nrm]
   refine list_off (by rw [unhide hops]; kernel_rfl) ?_
   simp only [nrm]
   refine list_off (by rw [unhide hops]; kernel_rfl) ?_
   simp only [nrm]
   refine list_off (by rw [unhide hops]; kernel_rfl) ?_
   simp only [nrm]
   refine list_val (.bool false) (by rw [unhide hops]; kernel_rfl) (by kernel_rfl) ?_
   simp only [nrm]
   (refine wpList_step fun K hK=>?_; replace hK:=hide hK; go_simp; refine unhide hK _ _ ?_; clear hK K)
   (refine wpList_step fun K hK=>?_; replace hK:=hide hK; go_simp; refine unhide hK _ _ ?_; clear hK K)
   refine wpList_nil ?_
   have hG2:=hide ((unhide hG).trans hB.gr)
   replace hB:=hide hB
   go_wp2_with fail
   replace hB:=unhide hB
   rw [unhide hT]
   exact (⟨by rw [unhide hp,hv] <;> rfl,unhide hG2⟩)
  obtain ⟨s,hsj⟩:∃ s,H[i]?=some s:=⟨_,List.getElem?_eq_getElem (by omega)⟩
  have hv:=isin_at (unhide hs) s hsj (unhide hI).1 (unhide hI).2
  obtain ⟨p,o,ha,hr⟩:=(unhide h).at_ i s hsj
  have hcz:decide (cmpV s.n m=0)=decide (s.n=m):=by
   rw [decide_eq_decide]
   unfold cmpV
   split
   ·omega
   ·split <;> omega
  obtain ⟨b,hb⟩:∃ b,b=decide (s.n=m):=⟨_,rfl⟩
  rw [← hb] at hv hcz
  have hin2:i<n:=by omega
  replace hr:=hide hr; replace hsj:=hide hsj; replace ha:=hide ha; replace hv:=hide hv; replace hcz:=hide hcz; replace hb:=hide hb; replace hin:=hide hin
  refine wp_region_lit ?_
  refine wpList_gen fun ops_ hops=>?_
  replace hops:=hide hops
  refine list_val (.int .i64 (i:Int)) (by rw [unhide hops]; kernel_rfl) (by kernel_rfl) ?_
  simp only [nrm]
  refine list_val (.int .i64 (i:Int)) (by rw [unhide hops]; kernel_rfl) (by kernel_rfl) ?_
  simp only [nrm]
  refine list_val (.int .i64 (n:Int)) (by rw [unhide hops]; kernel_rfl) (by kernel_rfl) ?_
  simp only [nrm]
  refine list_val (.bool true) (by rw [unhide hops]; kernel_rfl) (lss_i _ (.tmp 36) (.tmp 37) (i:Int) (n:Int) true rfl (by kernel_rfl) (by kernel_rfl) (decide_eq_true (unhide hin))) ?_
  simp only [nrm]
  refine list_val (.bool true) (by rw [unhide hops]; kernel_rfl) (by kernel_rfl) ?_
  simp only [nrm]
  refine list_val FV (by rw [unhide hops]; kernel_rfl) (by kernel_rfl) ?_
  simp only [nrm]
  refine list_val (.slice a n c) (by rw [unhide hops]; kernel_rfl) (by kernel_rfl) ?_
  simp only [nrm]
  refine list_val (.int .i64 (i:Int)) (by rw [unhide hops]; kernel_rfl) (by kernel_rfl) ?_
  simp only [nrm]
  refine list_val (.pointer (some ⟨p,o+2 * i,none⟩)) (by rw [unhide hops]; kernel_rfl) (exec_isi _ (.tmp 41) (.tmp 42) rfl p o n c i (by rw [← unhide ha]; kernel_rfl) (by kernel_rfl) hin2) ?_
  simp only [nrm]
  refine list_val (.agg (fl [[.int .u32 s.n],[.string s.s]])) (by rw [unhide hops]; kernel_rfl) (exec_li _ (.tmp 43) rfl p (o+2 * i) (by kernel_rfl) s (range_gr (unhide hr) ((unhide hG).trans hB.gr))) ?_
  simp only [nrm]
  refine list_val (.int .u32 m) (by rw [unhide hops]; kernel_rfl) (by kernel_rfl) ?_
  simp only [nrm]
  refine list_call 32 #[.agg (fl [[.int .u32 s.n],[.string s.s]]),.int .u32 m] (by rw [unhide hops]; kernel_rfl) (by rw [unhide hFV]; kernel_rfl) ((pl1_ok s m wr).mono ?_)
  rintro r_ u1 ⟨rfl,hg⟩
  replace hB:=hB.more hg
  clear hg
  refine ⟨_,rfl,?_⟩
  simp only [nrm]
  refine list_val (.bool b) (by rw [unhide hops]; kernel_rfl) (eql_i _ (.tmp 46) (.const (.int .i64 0)) (cmpV s.n m) 0 b rfl (by kernel_rfl) (by kernel_rfl) (unhide hcz)) ?_
  simp only [nrm]
  refine list_val (.bool b) (by rw [unhide hops]; kernel_rfl) (by kernel_rfl) ?_
  simp only [nrm]
  (refine wpList_step fun K hK=>?_; replace hK:=hide hK; go_simp; refine unhide hK _ _ ?_; clear hK K)
  (refine wpList_step fun K hK=>?_; replace hK:=hide hK; go_simp; refine unhide hK _ _ ?_; clear hK K)
  refine wpList_nil ?_
  have hG2:=hide ((unhide hG).trans hB.gr)
  replace hB:=hide hB
  go_wp2_with fail
  replace hB:=unhide hB
  rw [unhide hT]
  exact (⟨by rw [unhide hp,unhide hv] <;> rfl,unhide hG2⟩)
set_option maxHeartbeats 4000000 in
theorem place_ok (H:List It) (m:Int) (a:Option Addr) (n c:Nat) (hn:n≤1000000) (w:World) (h:IL w a n c H) (hs:Srt H):Calls Try.prog 23 #[.slice a n c,.int .u32 m] w (fun r w'=>r=.returned (.tuple #[.int .i64 (pos H m:Int),.bool (isIn H m)])∧Gr w w'):=by
 obtain ⟨T,hT⟩:∃ T:Ending→World→Prop,T=(fun r w'=>r=.returned (.tuple #[.int .i64 (pos H m:Int),.bool (isIn H m)])∧Gr w w'):=⟨_,rfl⟩
 rw [← hT]
 replace hT:=hide hT
 replace h:=hide h
 replace hs:=hide hs
 go_enter Try.func23,Try.ntmps23
 go_upto_region 1 with fail
 obtain ⟨u0,hu_⟩:∃ u,u=w:=⟨_,rfl⟩
 rw [← hu_]
 have hB:Bl w [] u0:=hu_ ▸ Bl.nil w
 clear hu_
 refine wp_region_lit ?_
 refine lvk (.slice a n c) ?_
 simp only [nrm]
 refine lvk (.int .u32 m) ?_
 simp only [nrm]
 refine list_call 31 #[.slice a n c,.int .u32 m,.func (.func 32) #[] #[]] (by kernel_rfl) (by kernel_rfl) ((bin_ok H m a n c hn u0 ((unhide h).gr hB.gr) (unhide hs)).mono ?_)
 rintro r_ u1 ⟨rfl,hg⟩
 replace hB:=hB.more hg
 clear hg
 refine ⟨_,rfl,?_⟩
 simp only [nrm]
 refine lvk (.int .i64 (pos H m:Int)) ?_
 simp only [nrm]
 refine lvk (.bool (isIn H m)) ?_
 simp only [nrm]
 (refine wpList_step fun K hK=>?_; replace hK:=hide hK; go_simp; refine unhide hK _ _ ?_; clear hK K)
 (refine wpList_step fun K hK=>?_; replace hK:=hide hK; go_simp; refine unhide hK _ _ ?_; clear hK K)
 refine wpList_nil ?_
 replace hB:=hide hB
 go_wp2_with fail
 replace hB:=unhide hB
 rw [unhide hT]
 exact (⟨rfl,hB.gr⟩)
end Go.Proofs.Ytcefkkoombmndab
namespace Go.Proofs.Ytcefkkoombmndab
open Go.RowKit
set_option maxRecDepth 100000
set_option linter.unusedSimpArgs false
set_option linter.unusedVariables false
def wt (c:Cm) (m r:Int):Bool:=rt c && (decide (c.dl≤m) && (decide (m<2147483648) && (decide (m - c.dl<min 4 r) && !isIn c.H m)))
set_option maxHeartbeats 4000000 in
theorem wants_ok (c:Cm) (x:Lc) (m r:Int) (hm:0≤m∧m<4294967296) (w:World) (hc:Cin w c x):Calls Try.prog 15 #[.agg (fl [[.int .u32 c.nx],[.slice x.ao x.no x.co],[.int .i64 c.tn],[.int .u32 c.dl],[.slice x.ah x.nh x.ch]]),.int .u32 m,.int .i64 r] w (Vl (.bool (wt c m r)) w):=by
 obtain ⟨T,hT⟩:∃ T:Ending→World→Prop,T=(Vl (.bool (wt c m r)) w):=⟨_,rfl⟩
 rw [← hT]
 replace hT:=hide hT
 have hdl:=hc.dl
 have hhn:=hc.h.len
 replace hc:=hide hc
 obtain ⟨A0_,hA0_⟩:∃ S_,S_=fl [[.int .u32 c.nx],[.slice x.ao x.no x.co],[.int .i64 c.tn],[.int .u32 c.dl],[.slice x.ah x.nh x.ch]]:=⟨_,rfl⟩
 rw [← hA0_]
 replace hA0_:=hide hA0_
 go_enter Try.func15,Try.ntmps15
 go_upto_region 1 with fail
 have hB:=((Bl.nil w).new A0_ 26)
 simp only [size_alloc,List.nil_append,List.cons_append] at hB
 rw [unhide hA0_] at hB
 generalize hu_:World.alloc _ _=u0
 replace hB:Bl w [⟨w.heap.size,fl [[.int .u32 c.nx],[.slice x.ao x.no x.co],[.int .i64 c.tn],[.int .u32 c.dl],[.slice x.ah x.nh x.ch]],26⟩] u0:=by
  rw [← hu_]
  rw [unhide hA0_]
  exact hB
 clear hu_ hA0_
 cases h1:rt c with
 | false =>
  have hk:=chk_f h1
  have hv:wt c m r=false:=by unfold wt; rw [h1]; rfl
  refine wp_region_lit ?_
  refine wpList_gen fun ops_ hops=>?_
  replace hops:=hide hops
  refine list_val (.agg (fl [[.int .u32 c.nx],[.slice x.ao x.no x.co],[.int .i64 c.tn],[.int .u32 c.dl],[.slice x.ah x.nh x.ch]])) (by rw [unhide hops]; kernel_rfl) (exec_sw _ 26 (.tmp 3) rfl (w.heap.size) (by kernel_rfl) (hB.get 0 (x:=⟨w.heap.size,fl [[.int .u32 c.nx],[.slice x.ao x.no x.co],[.int .i64 c.tn],[.int .u32 c.dl],[.slice x.ah x.nh x.ch]],26⟩) rfl) NC (nC  _ _ _ _ _) Try.underlying26 rfl (by kernel_rfl)) ?_
  simp only [nrm]
  refine list_call 8 #[.agg (fl [[.int .u32 c.nx],[.slice x.ao x.no x.co],[.int .i64 c.tn],[.int .u32 c.dl],[.slice x.ah x.nh x.ch]])] (by rw [unhide hops]; kernel_rfl) (by kernel_rfl) (((show Calls Try.prog 8 #[.agg (fl [[.int .u32 c.nx],[.slice x.ao x.no x.co],[.int .i64 c.tn],[.int .u32 c.dl],[.slice x.ah x.nh x.ch]])] u0 (Vl (.int .i64 281) u0) from hk ▸ check_ok c x u0 ((unhide hc).gr hB.gr))).mono ?_)
  rintro r_ u1 ⟨rfl,hg⟩
  replace hB:=hB.more hg
  clear hg
  refine ⟨_,rfl,?_⟩
  simp only [nrm]
  refine list_val (.bool true) (by rw [unhide hops]; kernel_rfl) (neq_e _ (.tmp 11) (.const (.int .i64 0)) 281 0 true rfl (by kernel_rfl) (by kernel_rfl) (by decide)) ?_
  simp only [nrm]
  refine list_val (.bool true) (by rw [unhide hops]; kernel_rfl) (by kernel_rfl) ?_
  simp only [nrm]
  refine list_off (by rw [unhide hops]; kernel_rfl) ?_
  simp only [nrm]
  refine list_off (by rw [unhide hops]; kernel_rfl) ?_
  simp only [nrm]
  refine list_off (by rw [unhide hops]; kernel_rfl) ?_
  simp only [nrm]
  refine list_off (by rw [unhide hops]; kernel_rfl) ?_
  simp only [nrm]
  refine list_val (.bool true) (by rw [unhide hops]; kernel_rfl) (by kernel_rfl) ?_
  simp only [nrm]
  refine list_val (.bool true) (by rw [unhide hops]; kernel_rfl) (by kernel_rfl) ?_
  simp only [nrm]
  refine list_off (by rw [unhide hops]; kernel_rfl) ?_
  simp only [nrm]
  refine list_off (by rw [unhide hops]; kernel_rfl) ?_
  simp only [nrm]
  refine list_val (.bool true) (by rw [unhide hops]; kernel_rfl) (by kernel_rfl) ?_
  simp only [nrm]
  refine wpList_nil ?_
  replace hB:=hide hB
  go_wp2_with fail
  replace hB:=unhide hB
  rw [unhide hT]
  exact (⟨by rw [hv] <;> rfl,hB.gr⟩)
 | true =>
  have hk:=chk_t h1
  have hle:=rt_le h1
  rw [hhn] at hle
  have hw:wt c m r=(decide (c.dl≤m) && (decide (m<2147483648) && (decide (m - c.dl<min 4 r) && !isIn c.H m))):=by unfold wt; rw [h1,Bool.true_and]
  replace h1:=hide h1; replace hw:=hide hw
  by_cases h2:m<c.dl
  ·replace h2:=hide h2
   have hv:wt c m r=false:=by rw [unhide hw,decide_eq_false (by have:=unhide h2; omega),Bool.false_and]
   refine wp_region_lit ?_
   refine wpList_gen fun ops_ hops=>?_
   replace hops:=hide hops
   refine list_val (.agg (fl [[.int .u32 c.nx],[.slice x.ao x.no x.co],[.int .i64 c.tn],[.int .u32 c.dl],[.slice x.ah x.nh x.ch]])) (by rw [unhide hops]; kernel_rfl) (exec_sw _ 26 (.tmp 3) rfl (w.heap.size) (by kernel_rfl) (hB.get 0 (x:=⟨w.heap.size,fl [[.int .u32 c.nx],[.slice x.ao x.no x.co],[.int .i64 c.tn],[.int .u32 c.dl],[.slice x.ah x.nh x.ch]],26⟩) rfl) NC (nC  _ _ _ _ _) Try.underlying26 rfl (by kernel_rfl)) ?_
   simp only [nrm]
   refine list_call 8 #[.agg (fl [[.int .u32 c.nx],[.slice x.ao x.no x.co],[.int .i64 c.tn],[.int .u32 c.dl],[.slice x.ah x.nh x.ch]])] (by rw [unhide hops]; kernel_rfl) (by kernel_rfl) (((show Calls Try.prog 8 #[.agg (fl [[.int .u32 c.nx],[.slice x.ao x.no x.co],[.int .i64 c.tn],[.int .u32 c.dl],[.slice x.ah x.nh x.ch]])] u0 (Vl (.int .i64 0) u0) from hk ▸ check_ok c x u0 ((unhide hc).gr hB.gr))).mono ?_)
   rintro r_ u1 ⟨rfl,hg⟩
   replace hB:=hB.more hg
   clear hg
   refine ⟨_,rfl,?_⟩
   simp only [nrm]
   refine list_val (.bool false) (by rw [unhide hops]; kernel_rfl) (neq_e _ (.tmp 11) (.const (.int .i64 0)) 0 0 false rfl (by kernel_rfl) (by kernel_rfl) (by decide)) ?_
   simp only [nrm]
   refine list_val (.bool false) (by rw [unhide hops]; kernel_rfl) (by kernel_rfl) ?_
   simp only [nrm]
   refine list_val (.int .u32 m) (by rw [unhide hops]; kernel_rfl) (by kernel_rfl) ?_
   simp only [nrm]
   refine list_val (.pointer (some ⟨w.heap.size,3,none⟩)) (by rw [unhide hops]; kernel_rfl) (by kernel_rfl) ?_
   simp only [nrm]
   refine list_val (.int .u32 c.dl) (by rw [unhide hops]; kernel_rfl) (exec_c32 _ (.tmp 15) rfl (w.heap.size) 3 (by kernel_rfl) c.dl (seg_cell (nC  _ _ _ _ _) (hB.get 0 (x:=⟨w.heap.size,fl [[.int .u32 c.nx],[.slice x.ao x.no x.co],[.int .i64 c.tn],[.int .u32 c.dl],[.slice x.ah x.nh x.ch]],26⟩) rfl) 3 (v:=.int .u32 c.dl) rfl rfl)) ?_
   simp only [nrm]
   refine list_val (.bool true) (by rw [unhide hops]; kernel_rfl) (lss_32 _ (.tmp 14) (.tmp 16) m c.dl true rfl (by kernel_rfl) (by kernel_rfl) (decide_eq_true (unhide h2))) ?_
   simp only [nrm]
   refine list_val (.bool true) (by rw [unhide hops]; kernel_rfl) (by kernel_rfl) ?_
   simp only [nrm]
   refine list_val (.bool true) (by rw [unhide hops]; kernel_rfl) (by kernel_rfl) ?_
   simp only [nrm]
   refine list_off (by rw [unhide hops]; kernel_rfl) ?_
   simp only [nrm]
   refine list_off (by rw [unhide hops]; kernel_rfl) ?_
   simp only [nrm]
   refine list_val (.bool true) (by rw [unhide hops]; kernel_rfl) (by kernel_rfl) ?_
   simp only [nrm]
   refine wpList_nil ?_
   replace hB:=hide hB
   go_wp2_with fail
   replace hB:=unhide hB
   rw [unhide hT]
   exact (⟨by rw [hv] <;> rfl,hB.gr⟩)
  by_cases h3:2147483648≤m
  ·replace h3:=hide h3
   have hv:wt c m r=false:=by rw [unhide hw,decide_eq_false (show ¬ m<2147483648 by have:=unhide h3; omega),Bool.false_and,Bool.and_false]
   refine wp_region_lit ?_
   refine wpList_gen fun ops_ hops=>?_
   replace hops:=hide hops
   refine list_val (.agg (fl [[.int .u32 c.nx],[.slice x.ao x.no x.co],[.int .i64 c.tn],[.int .u32 c.dl],[.slice x.ah x.nh x.ch]])) (by rw [unhide hops]; kernel_rfl) (exec_sw _ 26 (.tmp 3) rfl (w.heap.size) (by kernel_rfl) (hB.get 0 (x:=⟨w.heap.size,fl [[.int .u32 c.nx],[.slice x.ao x.no x.co],[.int .i64 c.tn],[.int .u32 c.dl],[.slice x.ah x.nh x.ch]],26⟩) rfl) NC (nC  _ _ _ _ _) Try.underlying26 rfl (by kernel_rfl)) ?_
   simp only [nrm]
   refine list_call 8 #[.agg (fl [[.int .u32 c.nx],[.slice x.ao x.no x.co],[.int .i64 c.tn],[.int .u32 c.dl],[.slice x.ah x.nh x.ch]])] (by rw [unhide hops]; kernel_rfl) (by kernel_rfl) (((show Calls Try.prog 8 #[.agg (fl [[.int .u32 c.nx],[.slice x.ao x.no x.co],[.int .i64 c.tn],[.int .u32 c.dl],[.slice x.ah x.nh x.ch]])] u0 (Vl (.int .i64 0) u0) from hk ▸ check_ok c x u0 ((unhide hc).gr hB.gr))).mono ?_)
   rintro r_ u1 ⟨rfl,hg⟩
   replace hB:=hB.more hg
   clear hg
   refine ⟨_,rfl,?_⟩
   simp only [nrm]
   refine list_val (.bool false) (by rw [unhide hops]; kernel_rfl) (neq_e _ (.tmp 11) (.const (.int .i64 0)) 0 0 false rfl (by kernel_rfl) (by kernel_rfl) (by decide)) ?_
   simp only [nrm]
   refine list_val (.bool false) (by rw [unhide hops]; kernel_rfl) (by kernel_rfl) ?_
   simp only [nrm]
   refine list_val (.int .u32 m) (by rw [unhide hops]; kernel_rfl) (by kernel_rfl) ?_
   simp only [nrm]
   refine list_val (.pointer (some ⟨w.heap.size,3,none⟩)) (by rw [unhide hops]; kernel_rfl) (by kernel_rfl) ?_
   simp only [nrm]
   refine list_val (.int .u32 c.dl) (by rw [unhide hops]; kernel_rfl) (exec_c32 _ (.tmp 15) rfl (w.heap.size) 3 (by kernel_rfl) c.dl (seg_cell (nC  _ _ _ _ _) (hB.get 0 (x:=⟨w.heap.size,fl [[.int .u32 c.nx],[.slice x.ao x.no x.co],[.int .i64 c.tn],[.int .u32 c.dl],[.slice x.ah x.nh x.ch]],26⟩) rfl) 3 (v:=.int .u32 c.dl) rfl rfl)) ?_
   simp only [nrm]
   refine list_val (.bool false) (by rw [unhide hops]; kernel_rfl) (lss_32 _ (.tmp 14) (.tmp 16) m c.dl false rfl (by kernel_rfl) (by kernel_rfl) (decide_eq_false h2)) ?_
   simp only [nrm]
   refine list_val (.bool false) (by rw [unhide hops]; kernel_rfl) (by kernel_rfl) ?_
   simp only [nrm]
   refine list_val (.bool false) (by rw [unhide hops]; kernel_rfl) (by kernel_rfl) ?_
   simp only [nrm]
   refine list_val (.int .u32 m) (by rw [unhide hops]; kernel_rfl) (by kernel_rfl) ?_
   simp only [nrm]
   refine list_val (.bool true) (by rw [unhide hops]; kernel_rfl) (geq_32 _ (.tmp 20) (.const (.int .u32 2147483648)) m 2147483648 true rfl (by kernel_rfl) (by kernel_rfl) (decide_eq_true (unhide h3))) ?_
   simp only [nrm]
   refine list_val (.bool true) (by rw [unhide hops]; kernel_rfl) (by kernel_rfl) ?_
   simp only [nrm]
   refine wpList_nil ?_
   replace hB:=hide hB
   go_wp2_with fail
   replace hB:=unhide hB
   rw [unhide hT]
   exact (⟨by rw [hv] <;> rfl,hB.gr⟩)
  refine wp_region_lit ?_
  refine wpList_gen fun ops_ hops=>?_
  replace hops:=hide hops
  refine list_val (.agg (fl [[.int .u32 c.nx],[.slice x.ao x.no x.co],[.int .i64 c.tn],[.int .u32 c.dl],[.slice x.ah x.nh x.ch]])) (by rw [unhide hops]; kernel_rfl) (exec_sw _ 26 (.tmp 3) rfl (w.heap.size) (by kernel_rfl) (hB.get 0 (x:=⟨w.heap.size,fl [[.int .u32 c.nx],[.slice x.ao x.no x.co],[.int .i64 c.tn],[.int .u32 c.dl],[.slice x.ah x.nh x.ch]],26⟩) rfl) NC (nC  _ _ _ _ _) Try.underlying26 rfl (by kernel_rfl)) ?_
  simp only [nrm]
  refine list_call 8 #[.agg (fl [[.int .u32 c.nx],[.slice x.ao x.no x.co],[.int .i64 c.tn],[.int .u32 c.dl],[.slice x.ah x.nh x.ch]])] (by rw [unhide hops]; kernel_rfl) (by kernel_rfl) (((show Calls Try.prog 8 #[.agg (fl [[.int .u32 c.nx],[.slice x.ao x.no x.co],[.int .i64 c.tn],[.int .u32 c.dl],[.slice x.ah x.nh x.ch]])] u0 (Vl (.int .i64 0) u0) from hk ▸ check_ok c x u0 ((unhide hc).gr hB.gr))).mono ?_)
  rintro r_ u1 ⟨rfl,hg⟩
  replace hB:=hB.more hg
  clear hg
  refine ⟨_,rfl,?_⟩
  simp only [nrm]
  refine list_val (.bool false) (by rw [unhide hops]; kernel_rfl) (neq_e _ (.tmp 11) (.const (.int .i64 0)) 0 0 false rfl (by kernel_rfl) (by kernel_rfl) (by decide)) ?_
  simp only [nrm]
  refine list_val (.bool false) (by rw [unhide hops]; kernel_rfl) (by kernel_rfl) ?_
  simp only [nrm]
  refine list_val (.int .u32 m) (by rw [unhide hops]; kernel_rfl) (by kernel_rfl) ?_
  simp only [nrm]
  refine list_val (.pointer (some ⟨w.heap.size,3,none⟩)) (by rw [unhide hops]; kernel_rfl) (by kernel_rfl) ?_
  simp only [nrm]
  refine list_val (.int .u32 c.dl) (by rw [unhide hops]; kernel_rfl) (exec_c32 _ (.tmp 15) rfl (w.heap.size) 3 (by kernel_rfl) c.dl (seg_cell (nC  _ _ _ _ _) (hB.get 0 (x:=⟨w.heap.size,fl [[.int .u32 c.nx],[.slice x.ao x.no x.co],[.int .i64 c.tn],[.int .u32 c.dl],[.slice x.ah x.nh x.ch]],26⟩) rfl) 3 (v:=.int .u32 c.dl) rfl rfl)) ?_
  simp only [nrm]
  refine list_val (.bool false) (by rw [unhide hops]; kernel_rfl) (lss_32 _ (.tmp 14) (.tmp 16) m c.dl false rfl (by kernel_rfl) (by kernel_rfl) (decide_eq_false h2)) ?_
  simp only [nrm]
  refine list_val (.bool false) (by rw [unhide hops]; kernel_rfl) (by kernel_rfl) ?_
  simp only [nrm]
  refine list_val (.bool false) (by rw [unhide hops]; kernel_rfl) (by kernel_rfl) ?_
  simp only [nrm]
  refine list_val (.int .u32 m) (by rw [unhide hops]; kernel_rfl) (by kernel_rfl) ?_
  simp only [nrm]
  refine list_val (.bool false) (by rw [unhide hops]; kernel_rfl) (geq_32 _ (.tmp 20) (.const (.int .u32 2147483648)) m 2147483648 false rfl (by kernel_rfl) (by kernel_rfl) (decide_eq_false h3)) ?_
  simp only [nrm]
  refine list_val (.bool false) (by rw [unhide hops]; kernel_rfl) (by kernel_rfl) ?_
  simp only [nrm]
  refine wpList_nil ?_
  obtain ⟨d,hd⟩:∃ d,d=m - c.dl:=⟨_,rfl⟩
  have hd1:0≤d∧d<4294967296:=by omega
  rw [← hd] at hw
  rw [decide_eq_true (by omega),decide_eq_true (by omega),Bool.true_and,Bool.true_and] at hw
  replace hd:=hide hd
  replace hB:=hide hB
  go_upto_region 3 with fail
  replace hB:=unhide hB
  refine wp_region_lit ?_
  refine lvk (.int .u32 m) ?_
  simp only [nrm]
  refine lvk (.pointer (some ⟨w.heap.size,3,none⟩)) ?_
  simp only [nrm]
  refine list_val (.int .u32 c.dl) (by kernel_rfl) (exec_c32 _ (.tmp 24) rfl (w.heap.size) 3 (by kernel_rfl) c.dl (seg_cell (nC  _ _ _ _ _) (hB.get 0 (x:=⟨w.heap.size,fl [[.int .u32 c.nx],[.slice x.ao x.no x.co],[.int .i64 c.tn],[.int .u32 c.dl],[.slice x.ah x.nh x.ch]],26⟩) rfl) 3 (v:=.int .u32 c.dl) rfl rfl)) ?_
  simp only [nrm]
  refine list_val (.int .u32 d) (by kernel_rfl) (sub_32 _ (.tmp 23) (.tmp 25) m c.dl rfl (by kernel_rfl) (by kernel_rfl) d (unhide hd).symm (by omega)) ?_
  simp only [nrm]
  refine list_val (.int .i64 d) (by kernel_rfl) (conv_i64 _ (.tmp 26) d rfl (by kernel_rfl) (by omega)) ?_
  simp only [nrm]
  (refine wpList_step fun K hK=>?_; replace hK:=hide hK; go_simp; refine unhide hK _ _ ?_; clear hK K)
  refine wpList_nil ?_
  replace hB:=hide hB
  go_upto_region 4 with fail
  replace hB:=unhide hB
  refine wp_region_lit ?_
  refine lvk (.pointer (some ⟨w.heap.size,4,none⟩)) ?_
  simp only [nrm]
  refine list_val (.slice x.ah x.nh x.ch) (by kernel_rfl) (exec_csI _ (.tmp 29) rfl (w.heap.size) 4 (by kernel_rfl) x.ah x.nh x.ch (seg_cell (nC  _ _ _ _ _) (hB.get 0 (x:=⟨w.heap.size,fl [[.int .u32 c.nx],[.slice x.ao x.no x.co],[.int .i64 c.tn],[.int .u32 c.dl],[.slice x.ah x.nh x.ch]],26⟩) rfl) 4 (v:=.slice x.ah x.nh x.ch) rfl rfl)) ?_
  simp only [nrm]
  refine lvk (.int .u32 m) ?_
  simp only [nrm]
  refine list_call 23 #[.slice x.ah x.nh x.ch,.int .u32 m] (by kernel_rfl) (by kernel_rfl) ((place_ok c.H m x.ah x.nh x.ch (by omega) u1 ((unhide hc).gr hB.gr).h (rt_srt (unhide h1))).mono ?_)
  rintro r_ u2 ⟨rfl,hg⟩
  replace hB:=hB.more hg
  clear hg
  refine ⟨_,rfl,?_⟩
  simp only [nrm]
  refine lvk (.tuple #[.int .i64 (pos c.H m:Int),.bool (isIn c.H m)]) ?_
  simp only [nrm]
  refine lvk (.int .i64 (pos c.H m:Int)) ?_
  simp only [nrm]
  refine lvk (.bool (isIn c.H m)) ?_
  simp only [nrm]
  (refine wpList_step fun K hK=>?_; replace hK:=hide hK; go_simp; refine unhide hK _ _ ?_; clear hK K)
  (refine wpList_step fun K hK=>?_; replace hK:=hide hK; go_simp; refine unhide hK _ _ ?_; clear hK K)
  refine wpList_nil ?_
  obtain ⟨e,he⟩:∃ e,e=min 4 r:=⟨_,rfl⟩
  rw [← he] at hw
  replace he:=hide he
  by_cases h4:d<e
  rotate_left
  ·replace h4:=hide h4
   have hv:wt c m r=false:=by rw [unhide hw,decide_eq_false (unhide h4),Bool.false_and]
   replace hB:=hide hB
   go_upto_region 5 with fail
   replace hB:=unhide hB
   refine wp_region_lit ?_
   refine wpList_gen fun ops_ hops=>?_
   replace hops:=hide hops
   refine list_val (.int .i64 d) (by rw [unhide hops]; kernel_rfl) (by kernel_rfl) ?_
   simp only [nrm]
   refine list_val (.int .i64 r) (by rw [unhide hops]; kernel_rfl) (by kernel_rfl) ?_
   simp only [nrm]
   refine list_val (.int .i64 e) (by rw [unhide hops]; kernel_rfl) (min_i _ (.const (.int .i64 4)) (.tmp 36) 4 r rfl (by kernel_rfl) (by kernel_rfl) e (unhide he).symm) ?_
   simp only [nrm]
   refine list_val (.bool false) (by rw [unhide hops]; kernel_rfl) (lss_i _ (.tmp 35) (.tmp 37) d e false rfl (by kernel_rfl) (by kernel_rfl) (decide_eq_false (unhide h4))) ?_
   simp only [nrm]
   refine list_val (.bool false) (by rw [unhide hops]; kernel_rfl) (by kernel_rfl) ?_
   simp only [nrm]
   refine list_off (by rw [unhide hops]; kernel_rfl) ?_
   simp only [nrm]
   refine list_off (by rw [unhide hops]; kernel_rfl) ?_
   simp only [nrm]
   refine list_val (.bool false) (by rw [unhide hops]; kernel_rfl) (by kernel_rfl) ?_
   simp only [nrm]
   (refine wpList_step fun K hK=>?_; replace hK:=hide hK; go_simp; refine unhide hK _ _ ?_; clear hK K)
   refine wpList_nil ?_
   replace hB:=hide hB
   go_wp2_with fail
   replace hB:=unhide hB
   rw [unhide hT]
   exact (⟨by rw [hv] <;> rfl,hB.gr⟩)
  have hv:wt c m r = !isIn c.H m:=by rw [unhide hw,decide_eq_true h4,Bool.true_and]
  replace h4:=hide h4; replace hv:=hide hv
  replace hB:=hide hB
  go_upto_region 5 with fail
  replace hB:=unhide hB
  refine wp_region_lit ?_
  refine wpList_gen fun ops_ hops=>?_
  replace hops:=hide hops
  refine list_val (.int .i64 d) (by rw [unhide hops]; kernel_rfl) (by kernel_rfl) ?_
  simp only [nrm]
  refine list_val (.int .i64 r) (by rw [unhide hops]; kernel_rfl) (by kernel_rfl) ?_
  simp only [nrm]
  refine list_val (.int .i64 e) (by rw [unhide hops]; kernel_rfl) (min_i _ (.const (.int .i64 4)) (.tmp 36) 4 r rfl (by kernel_rfl) (by kernel_rfl) e (unhide he).symm) ?_
  simp only [nrm]
  refine list_val (.bool true) (by rw [unhide hops]; kernel_rfl) (lss_i _ (.tmp 35) (.tmp 37) d e true rfl (by kernel_rfl) (by kernel_rfl) (decide_eq_true (unhide h4))) ?_
  simp only [nrm]
  refine list_val (.bool true) (by rw [unhide hops]; kernel_rfl) (by kernel_rfl) ?_
  simp only [nrm]
  refine list_val (.bool (isIn c.H m)) (by rw [unhide hops]; kernel_rfl) (by kernel_rfl) ?_
  simp only [nrm]
  refine list_val (.bool (!isIn c.H m)) (by rw [unhide hops]; kernel_rfl) (by kernel_rfl) ?_
  simp only [nrm]
  refine list_val (.bool (!isIn c.H m)) (by rw [unhide hops]; kernel_rfl) (by kernel_rfl) ?_
  simp only [nrm]
  (refine wpList_step fun K hK=>?_; replace hK:=hide hK; go_simp; refine unhide hK _ _ ?_; clear hK K)
  refine wpList_nil ?_
  replace hB:=hide hB
  go_wp2_with fail
  replace hB:=unhide hB
  rw [unhide hT]
  exact (⟨by rw [unhide hv] <;> rfl,hB.gr⟩)
theorem Ow.bz {k:Nat} {e:TypeId} {b g:Nat} {w v:World} {a:Option Addr} {n:Nat} (h:Ow k e b w a n) {C:Array Value} {t:TypeId} (hg:w.heap[g]?=some (.cells C t (0,0))) (m:Bt g w v) (ht:t≠e:=by decide):Ow k e b v a n:=by
 rcases h with h | ⟨q,o,C2,h1,h2,h3,h4⟩
 ·exact .inl h
 ·refine .inr ⟨q,o,C2,h1,h2,m.blk h3 ?_,h4⟩
  rintro rfl
  rw [hg] at h3
  injection h3 with h3
  injection h3 with _ e4 _
  exact ht e4
theorem lz_bz {k:Nat} {e:TypeId} {b g:Nat} {w v:World} {a:Option Addr} {n c:Nat} {R:List (List Value)} (h:Lz k w a n c R) (ho:Ow k e b w a n) {C:Array Value} {t:TypeId} (hg:w.heap[g]?=some (.cells C t (0,0))) (m:Bt g w v) (ht:t≠e:=by decide):Lz k v a n c R:=by
 refine ⟨h.len,h.row,?_,h.cap,h.max⟩
 rcases h.sl with h1 | ⟨p,o,rfl,h2⟩
 ·exact .inl h1
 ·rcases ho with h3 | ⟨q,o2,C2,h3,_,h4,_⟩
  ·exact .inl (List.eq_nil_of_length_eq_zero (by rw [h.len,h3]))
  ·injection h3 with h3
   injection h3 with h3 _
   subst h3
   refine .inr ⟨p,o,rfl,range_bt h2 m ?_⟩
   rintro rfl
   rw [hg] at h4
   injection h4 with h4
   injection h4 with _ e4 _
   exact ht e4
structure Co (b:Nat) (w:World) (c:Cm) (x:Lc):Prop where
 i:Cin w c x
 o:Owx b w x
theorem Co.gr {b:Nat} {w v:World} {c:Cm} {x:Lc} (h:Co b w c x) (g:Gr w v):Co b v c x:=⟨h.i.gr g,h.o.gr g⟩
theorem Co.bz {b g:Nat} {w v:World} {c:Cm} {x:Lc} (h:Co b w c x) {C:Array Value} {t:TypeId} (hg:w.heap[g]?=some (.cells C t (0,0))) (m:Bt g w v) (h1:t≠33:=by decide) (h2:t≠59:=by decide):Co b v c x :=
 ⟨⟨⟨h.i.o.1,lz_bz h.i.o.2 h.o.o hg m h1⟩,⟨h.i.h.1,lz_bz h.i.h.2 h.o.h hg m h2⟩,h.i.nx,h.i.tn,h.i.dl⟩,⟨h.o.o.bz hg m h1,h.o.h.bz hg m h2⟩⟩
def B1:List Int:=1::List.replicate 104 0
def c1:Cm:=⟨1,[⟨0,B1⟩],0,0,[]⟩
theorem B1_ok:B1.length=105∧IsB B1:=by
 refine ⟨rfl,?_⟩
 intro x hx
 unfold B1 at hx
 rcases List.mem_cons.1 hx with rfl | h
 ·decide
 ·rw [List.eq_of_mem_replicate h]; decide
theorem qu_1:qu cz B1=(c1,0,0):=by decide +kernel
theorem tu_1:tu c1=(c1,⟨0,B1⟩,0):=by decide +kernel
theorem wt_1:wt cz 0 1=true:=by decide +kernel
theorem bB1 (w:World) {a:Act} {o:Oper} (ho:o.op=.build 48 #[(0,.const (.int .u8 1))]):(execOp a.eval o).run Try.prog w=.ok (.value (.agg (fl [bw B1]))) w:=by
 refine exec_bld w _ _ [(0,.int .u8 1)] ho (by simp [Act.eval]) _ ?_
 kernel_rfl
set_option maxHeartbeats 4000000 in
theorem wakes_ok  (w:World)  : Calls Try.prog 6 #[] w (Vl (.bool true) w):=by
 obtain ⟨T,hT⟩:∃ T:Ending→World→Prop,T=(Vl (.bool true) w):=⟨_,rfl⟩
 rw [← hT]
 replace hT:=hide hT
 go_enter Try.func6,Try.ntmps6
 go_upto_region 1 with fail
 obtain ⟨u0,hu_⟩:∃ u,u=w:=⟨_,rfl⟩
 rw [← hu_]
 have hB:Bl w [] u0:=hu_ ▸ Bl.nil w
 clear hu_
 refine wp_region_lit ?_
 refine list_val (.agg (fl [[.int .u32 0],[.slice none 0 0],[.int .i64 0],[.int .u32 0],[.slice none 0 0]])) (by kernel_rfl) (bC _ rfl) ?_
 simp only [nrm]
 refine list_val (.agg (fl [bw B1])) (by kernel_rfl) (bB1 _ rfl) ?_
 simp only [nrm]
 refine list_call 11 #[.agg (fl [[.int .u32 0],[.slice none 0 0],[.int .i64 0],[.int .u32 0],[.slice none 0 0]]),.agg (fl [bw B1])] (by kernel_rfl) (by kernel_rfl) (((show Calls Try.prog 11 #[.agg (fl (cvs cz xz)),.agg (fl [bw B1])] u0 (Rc c1 [.int .u32 0,.int .i64 0] u0) from by have h:=queue_ok cz xz B1 B1_ok u0 (cin_z u0); rw [qu_1] at h; exact h)).mono ?_)
 rintro r_ u1 ⟨x1,rfl,hc1,ho1,hg⟩
 replace hB:=hB.more hg
 clear hg
 replace hc1:=hide (Co.mk hc1 ho1)
 clear ho1
 refine ⟨_,rfl,?_⟩
 simp only [nrm]
 refine lvk (.tuple #[.agg (fl [[.int .u32 1],[.slice x1.ao x1.no x1.co],[.int .i64 0],[.int .u32 0],[.slice x1.ah x1.nh x1.ch]]),.int .u32 0,.int .i64 0]) ?_
 simp only [nrm]
 refine lvk (.agg (fl [[.int .u32 1],[.slice x1.ao x1.no x1.co],[.int .i64 0],[.int .u32 0],[.slice x1.ah x1.nh x1.ch]])) ?_
 simp only [nrm]
 refine lvk (.int .u32 0) ?_
 simp only [nrm]
 refine lvk (.int .i64 0) ?_
 simp only [nrm]
 refine list_valw (.pointer (some ⟨u1.heap.size,0,none⟩)) (u1.alloc (.cells (fl [[.int .u32 0],[.slice none 0 0],[.int .i64 0],[.int .u32 0],[.slice none 0 0]]) 26 (0,0))) (by kernel_rfl) (by kernel_rfl) ?_
 replace hB:=hB.new (fl [[.int .u32 0],[.slice none 0 0],[.int .i64 0],[.int .u32 0],[.slice none 0 0]]) 26
 simp only [List.nil_append,List.cons_append] at hB
 have hg:=(Gr.refl u1).alloc (.cells (fl [[.int .u32 0],[.slice none 0 0],[.int .i64 0],[.int .u32 0],[.slice none 0 0]]) 26 (0,0))
 replace hc1:=hide ((unhide hc1).gr hg)
 clear hg
 generalize World.alloc _ _=u2 at *
 generalize u1.heap.size=g1 at *
 simp only [nrm]
 have hzz_:Hid (u2.heap[g1]?=some (.cells (fl [[.int .u32 0],[.slice none 0 0],[.int .i64 0],[.int .u32 0],[.slice none 0 0]]) 26 (0,0))):=hide (hB.get 0 (x:=⟨g1,fl [[.int .u32 0],[.slice none 0 0],[.int .i64 0],[.int .u32 0],[.slice none 0 0]],26⟩) rfl)
 refine list_all 26 (.tmp 1) (.tmp 11) (g1) (S2:=[[.int .u32 1],[.slice x1.ao x1.no x1.co],[.int .i64 0],[.int .u32 0],[.slice x1.ah x1.nh x1.ch]]) (by kernel_rfl) rfl (by kernel_rfl) (by kernel_rfl) hB 0 rfl NC (nC  _ _ _ _ _) (nC  _ _ _ _ _) (by kernel_rfl) (oC  rfl rfl rfl rfl rfl) ?_
 intro u3 hB_ hbt_
 clear hB
 replace hB:Bl w [⟨g1,fl [[.int .u32 1],[.slice x1.ao x1.no x1.co],[.int .i64 0],[.int .u32 0],[.slice x1.ah x1.nh x1.ch]],26⟩] u3:=hB_
 clear hB_
 replace hc1:=hide ((unhide hc1).bz (unhide hzz_) hbt_)
 clear hbt_ hzz_
 simp only [nrm]
 (refine wpList_step fun K hK=>?_; replace hK:=hide hK; go_simp; refine unhide hK _ _ ?_; clear hK K)
 (refine wpList_step fun K hK=>?_; replace hK:=hide hK; go_simp; refine unhide hK _ _ ?_; clear hK K)
 refine wpList_nil ?_
 replace hB:=hide hB
 go_upto_region 2 with fail
 replace hB:=unhide hB
 refine wp_region_lit ?_
 refine list_val (.agg (fl [[.int .u32 1],[.slice x1.ao x1.no x1.co],[.int .i64 0],[.int .u32 0],[.slice x1.ah x1.nh x1.ch]])) (by kernel_rfl) (exec_sw _ 26 (.tmp 1) rfl (g1) (by kernel_rfl) (hB.get 0 (x:=⟨g1,fl [[.int .u32 1],[.slice x1.ao x1.no x1.co],[.int .i64 0],[.int .u32 0],[.slice x1.ah x1.nh x1.ch]],26⟩) rfl) NC (nC  _ _ _ _ _) Try.underlying26 rfl (by kernel_rfl)) ?_
 simp only [nrm]
 refine list_call 9 #[.agg (fl [[.int .u32 1],[.slice x1.ao x1.no x1.co],[.int .i64 0],[.int .u32 0],[.slice x1.ah x1.nh x1.ch]])] (by kernel_rfl) (by kernel_rfl) (((show Calls Try.prog 9 #[.agg (fl (cvs c1 x1))] u3 (Rc c1 [.agg (fl [[.int .u32 0],bw B1]),.int .i64 0] u3) from by have h:=turn_ok c1 x1 u3 (unhide hc1).i; rw [tu_1] at h; exact h)).mono ?_)
 rintro r_ u4 ⟨x2,rfl,hc2,ho2_,hg⟩
 replace hB:=hB.more hg
 clear hg
 have hx2:x2.no=1:=hc2.o.len.symm
 clear hc1 hc2 ho2_
 refine ⟨_,rfl,?_⟩
 simp only [nrm]
 refine lvk (.tuple #[.agg (fl [[.int .u32 1],[.slice x2.ao x2.no x2.co],[.int .i64 0],[.int .u32 0],[.slice x2.ah x2.nh x2.ch]]),.agg (fl [[.int .u32 0],bw B1]),.int .i64 0]) ?_
 simp only [nrm]
 refine lvk (.agg (fl [[.int .u32 1],[.slice x2.ao x2.no x2.co],[.int .i64 0],[.int .u32 0],[.slice x2.ah x2.nh x2.ch]])) ?_
 simp only [nrm]
 refine lvk (.agg (fl [[.int .u32 0],bw B1])) ?_
 simp only [nrm]
 refine lvk (.int .i64 0) ?_
 simp only [nrm]
 refine list_valw (.pointer (some ⟨u4.heap.size,0,none⟩)) (u4.alloc (.cells (fl [[.int .u32 0],[.slice none 0 0],[.int .i64 0],[.int .u32 0],[.slice none 0 0]]) 26 (0,0))) (by kernel_rfl) (by kernel_rfl) ?_
 replace hB:=hB.new (fl [[.int .u32 0],[.slice none 0 0],[.int .i64 0],[.int .u32 0],[.slice none 0 0]]) 26
 simp only [List.nil_append,List.cons_append] at hB
 generalize World.alloc _ _=u5 at *
 generalize u4.heap.size=g4 at *
 simp only [nrm]
 refine list_valw (.pointer (some ⟨u5.heap.size,0,none⟩)) (u5.alloc (.cells (fl [[.int .u32 0],bw Z105]) 33 (0,0))) (by kernel_rfl) (by kernel_rfl) ?_
 replace hB:=hB.new (fl [[.int .u32 0],bw Z105]) 33
 simp only [List.nil_append,List.cons_append] at hB
 generalize World.alloc _ _=u6 at *
 generalize u5.heap.size=g5 at *
 simp only [nrm]
 refine list_all 26 (.tmp 4) (.tmp 17) (g4) (S2:=[[.int .u32 1],[.slice x2.ao x2.no x2.co],[.int .i64 0],[.int .u32 0],[.slice x2.ah x2.nh x2.ch]]) (by kernel_rfl) rfl (by kernel_rfl) (by kernel_rfl) hB 1 rfl NC (nC  _ _ _ _ _) (nC  _ _ _ _ _) (by kernel_rfl) (oC  rfl rfl rfl rfl rfl) ?_
 intro u7 hB_ hbt_
 clear hB
 replace hB:Bl w [⟨g1,fl [[.int .u32 1],[.slice x1.ao x1.no x1.co],[.int .i64 0],[.int .u32 0],[.slice x1.ah x1.nh x1.ch]],26⟩,⟨g4,fl [[.int .u32 1],[.slice x2.ao x2.no x2.co],[.int .i64 0],[.int .u32 0],[.slice x2.ah x2.nh x2.ch]],26⟩,⟨g5,fl [[.int .u32 0],bw Z105],33⟩] u7:=hB_
 clear hB_
 clear hbt_
 simp only [nrm]
 refine list_all 33 (.tmp 5) (.tmp 18) (g5) (S2:=[[.int .u32 0],bw B1]) (by kernel_rfl) rfl (by kernel_rfl) (by kernel_rfl) hB 2 rfl NO (nO Z105_len _) (nO B1_ok.1 _) (by kernel_rfl) (oO _ rfl) ?_
 intro u8 hB_ hbt_
 clear hB
 replace hB:Bl w [⟨g1,fl [[.int .u32 1],[.slice x1.ao x1.no x1.co],[.int .i64 0],[.int .u32 0],[.slice x1.ah x1.nh x1.ch]],26⟩,⟨g4,fl [[.int .u32 1],[.slice x2.ao x2.no x2.co],[.int .i64 0],[.int .u32 0],[.slice x2.ah x2.nh x2.ch]],26⟩,⟨g5,fl [[.int .u32 0],bw B1],33⟩] u8:=hB_
 clear hB_
 clear hbt_
 simp only [nrm]
 (refine wpList_step fun K hK=>?_; replace hK:=hide hK; go_simp; refine unhide hK _ _ ?_; clear hK K)
 refine wpList_nil ?_
 replace hB:=hide hB
 go_upto_region 3 with fail
 replace hB:=unhide hB
 refine wp_region_lit ?_
 refine wpList_gen fun ops_ hops=>?_
 replace hops:=hide hops
 refine list_val (.int .i64 0) (by rw [unhide hops]; kernel_rfl) (by kernel_rfl) ?_
 simp only [nrm]
 refine list_val (.bool true) (by rw [unhide hops]; kernel_rfl) (eql_e _ (.tmp 20) (.const (.int .i64 0)) 0 0 true rfl (by kernel_rfl) (by kernel_rfl) (by decide)) ?_
 simp only [nrm]
 refine list_val (.bool true) (by rw [unhide hops]; kernel_rfl) (by kernel_rfl) ?_
 simp only [nrm]
 refine list_val (.int .i64 0) (by rw [unhide hops]; kernel_rfl) (by kernel_rfl) ?_
 simp only [nrm]
 refine list_val (.bool true) (by rw [unhide hops]; kernel_rfl) (eql_e _ (.tmp 23) (.const (.int .i64 0)) 0 0 true rfl (by kernel_rfl) (by kernel_rfl) (by decide)) ?_
 simp only [nrm]
 refine list_val (.bool true) (by rw [unhide hops]; kernel_rfl) (by kernel_rfl) ?_
 simp only [nrm]
 refine list_val (.bool true) (by rw [unhide hops]; kernel_rfl) (by kernel_rfl) ?_
 simp only [nrm]
 refine list_val (.int .u32 0) (by rw [unhide hops]; kernel_rfl) (by kernel_rfl) ?_
 simp only [nrm]
 refine list_val (.bool true) (by rw [unhide hops]; kernel_rfl) (eql_32 _ (.tmp 27) (.const (.int .u32 0)) 0 0 true rfl (by kernel_rfl) (by kernel_rfl) (by decide)) ?_
 simp only [nrm]
 refine list_val (.bool true) (by rw [unhide hops]; kernel_rfl) (by kernel_rfl) ?_
 simp only [nrm]
 refine list_val (.bool true) (by rw [unhide hops]; kernel_rfl) (by kernel_rfl) ?_
 simp only [nrm]
 refine list_val (.pointer (some ⟨g1,0,none⟩)) (by rw [unhide hops]; kernel_rfl) (by kernel_rfl) ?_
 simp only [nrm]
 refine list_val (.int .u32 1) (by rw [unhide hops]; kernel_rfl) (exec_c32 _ (.tmp 31) rfl (g1) 0 (by kernel_rfl) 1 (seg_cell (nC  _ _ _ _ _) (hB.get 0 (x:=⟨g1,fl [[.int .u32 1],[.slice x1.ao x1.no x1.co],[.int .i64 0],[.int .u32 0],[.slice x1.ah x1.nh x1.ch]],26⟩) rfl) 0 (v:=.int .u32 1) rfl rfl)) ?_
 simp only [nrm]
 refine list_val (.bool true) (by rw [unhide hops]; kernel_rfl) (eql_32 _ (.tmp 32) (.const (.int .u32 1)) 1 1 true rfl (by kernel_rfl) (by kernel_rfl) (by decide)) ?_
 simp only [nrm]
 refine list_val (.bool true) (by rw [unhide hops]; kernel_rfl) (by kernel_rfl) ?_
 simp only [nrm]
 refine list_val (.bool true) (by rw [unhide hops]; kernel_rfl) (by kernel_rfl) ?_
 simp only [nrm]
 refine list_val (.pointer (some ⟨g5,1,none⟩)) (by rw [unhide hops]; kernel_rfl) (by kernel_rfl) ?_
 simp only [nrm]
 refine list_val (.pointer (some ⟨g5,1,none⟩)) (by rw [unhide hops]; kernel_rfl) (by kernel_rfl) ?_
 simp only [nrm]
 refine list_val (.int .u8 1) (by rw [unhide hops]; kernel_rfl) (exec_cu8 _ (.tmp 37) rfl g5 1 (by kernel_rfl) 1 (cell_of (hB.get 2 (x:=⟨g5,fl [[.int .u32 0],bw B1],33⟩) rfl) (by rfl))) ?_
 simp only [nrm]
 refine list_val (.bool true) (by rw [unhide hops]; kernel_rfl) (eql_8 _ (.tmp 38) (.const (.int .u8 1)) 1 1 true rfl (by kernel_rfl) (by kernel_rfl) (by decide)) ?_
 simp only [nrm]
 refine list_val (.bool true) (by rw [unhide hops]; kernel_rfl) (by kernel_rfl) ?_
 simp only [nrm]
 refine list_val (.bool true) (by rw [unhide hops]; kernel_rfl) (by kernel_rfl) ?_
 simp only [nrm]
 refine list_val (.pointer (some ⟨g4,1,none⟩)) (by rw [unhide hops]; kernel_rfl) (by kernel_rfl) ?_
 simp only [nrm]
 refine list_val (.slice x2.ao x2.no x2.co) (by rw [unhide hops]; kernel_rfl) (exec_csO _ (.tmp 42) rfl (g4) 1 (by kernel_rfl) x2.ao x2.no x2.co (seg_cell (nC  _ _ _ _ _) (hB.get 1 (x:=⟨g4,fl [[.int .u32 1],[.slice x2.ao x2.no x2.co],[.int .i64 0],[.int .u32 0],[.slice x2.ah x2.nh x2.ch]],26⟩) rfl) 1 (v:=.slice x2.ao x2.no x2.co) rfl rfl)) ?_
 simp only [nrm]
 refine list_val (.int .i64 (x2.no:Int)) (by rw [unhide hops]; kernel_rfl) (by kernel_rfl) ?_
 simp only [nrm]
 refine list_val (.bool true) (by rw [unhide hops]; kernel_rfl) (eql_i _ (.tmp 44) (.const (.int .i64 1)) (x2.no:Int) 1 true rfl (by kernel_rfl) (by kernel_rfl) (decide_eq_true (by omega))) ?_
 simp only [nrm]
 refine list_val (.bool true) (by rw [unhide hops]; kernel_rfl) (by kernel_rfl) ?_
 simp only [nrm]
 refine list_val (.bool true) (by rw [unhide hops]; kernel_rfl) (by kernel_rfl) ?_
 simp only [nrm]
 refine list_val (.agg (fl [[.int .u32 0],[.slice none 0 0],[.int .i64 0],[.int .u32 0],[.slice none 0 0]])) (by rw [unhide hops]; kernel_rfl) (bC _ rfl) ?_
 simp only [nrm]
 refine list_call 15 #[.agg (fl [[.int .u32 0],[.slice none 0 0],[.int .i64 0],[.int .u32 0],[.slice none 0 0]]),.int .u32 0,.int .i64 1] (by rw [unhide hops]; kernel_rfl) (by kernel_rfl) (((show Calls Try.prog 15 #[.agg (fl (cvs cz xz)),.int .u32 0,.int .i64 1] u8 (Vl (.bool true) u8) from by have h:=wants_ok cz xz 0 1 (by decide) u8 (cin_z u8); rw [wt_1] at h; exact h)).mono ?_)
 rintro r_ u9 ⟨rfl,hg⟩
 replace hB:=hB.more hg
 clear hg
 refine ⟨_,rfl,?_⟩
 simp only [nrm]
 refine list_val (.bool true) (by rw [unhide hops]; kernel_rfl) (by kernel_rfl) ?_
 simp only [nrm]
 (refine wpList_step fun K hK=>?_; replace hK:=hide hK; go_simp; refine unhide hK _ _ ?_; clear hK K)
 refine wpList_nil ?_
 replace hB:=hide hB
 go_wp2_with fail
 replace hB:=unhide hB
 rw [unhide hT]
 exact (⟨rfl,hB.gr⟩)
end Go.Proofs.Ytcefkkoombmndab
namespace Go.Proofs.Ytcefkkoombmndab
open Go.RowKit
set_option maxRecDepth 100000
set_option linter.unusedSimpArgs false
set_option linter.unusedVariables false
theorem exec_upI {a:Act} {o:Oper} (w:World) (x y:Operand) (ho:o.op=.slice 24 x none (some y) none) (s:Option Addr) (len cap n:Nat) (hx:a.eval x=.slice s len cap) (hy:a.eval y=.int .i64 n) (hn:n≤cap) :
  (execOp a.eval o).run Try.prog w=.ok (.value (.slice s n cap)) w:=by
 have h1:(0:Int)≤n:=by omega
 have h2:(n:Int)≤cap:=by omega
 have hu:Try.prog.underlying 24=some (.slice (Try.prog.elem 24)):=by kernel_rfl
 have hz:(sizeOf (Try.prog.elem 24)).run Try.prog w=.ok 2 w:=by kernel_rfl
 have e:(if cap=0 then s else s.map (·.add 0))=s:=by cases s <;> simp [Addr.add]
 simp [execOp,ho,hx,hy,run_sliceAt_slice _ _ _ _ _ _ hu,run_slice_h _ _ _ _ _ hu _ _ h1 h2,hz,sliced,e]
theorem Try.infI3:(Try.prog.info? 59).map (fun i=>(i.zero,i.size,i.bytes))=some (some (.agg (fl [[.int .u32 0],[.string ByteArray.empty]])),2,24):=by kernel_rfl
theorem Lz.take {k:Nat} {w:World} {a:Option Addr} {n c:Nat} {R:List (List Value)} (h:Lz k w a n c R) (m:Nat) (hm:m≤n):Lz k w a m c (R.take m):=by
 refine ⟨by rw [List.length_take,h.len]; omega,fun r hr=>h.row r (List.mem_of_mem_take hr),?_,by have:=h.cap; omega,h.max⟩
 rcases h.sl with h1 | ⟨p,o,h1,h2⟩
 ·exact .inl (by rw [h1]; simp)
 ·refine .inr ⟨p,o,h1,fun j x hj=>h2 j x ?_⟩
  rw [← List.take_append_drop m R,List.flatten_append,List.getElem?_append_left (List.getElem?_eq_some_iff.1 hj).1]
  exact hj
end Go.Proofs.Ytcefkkoombmndab
namespace Go.Proofs.Ytcefkkoombmndab
open Go.RowKit
set_option maxRecDepth 100000
set_option linter.unusedSimpArgs false
set_option linter.unusedVariables false
theorem sp_len:∀ (vs:List Value) (C:List Value) (o:Nat),(sp C o vs).length=C.length
 | [],C,o=>rfl
 | v::r,C,o=>by rw [sp,sp_len r,List.length_set]
theorem lz_bk {k g:Nat} {w v:World} {a:Option Addr} {n c:Nat} {R:List (List Value)} (h:Lz k w a n c R) (m:Bt g w v) (hn:n=0∨blkOf a≠some g):Lz k v a n c R:=by
 refine ⟨h.len,h.row,?_,h.cap,h.max⟩
 rcases h.sl with h1 | ⟨p,o,rfl,h2⟩
 ·exact .inl h1
 ·rcases hn with hn | hn
  ·exact .inl (List.eq_nil_of_length_eq_zero (by rw [h.len,hn]))
  ·exact .inr ⟨p,o,rfl,range_bt h2 m (fun e=>hn (by rw [← e]; rfl))⟩
theorem Ow.bk {k:Nat} {e:TypeId} {b g:Nat} {w v:World} {a:Option Addr} {n:Nat} (h:Ow k e b w a n) (m:Bt g w v) (hn:n=0∨blkOf a≠some g):Ow k e b v a n:=by
 rcases h with h | ⟨q,o,C,rfl,h2,h3,h4⟩
 ·exact .inl h
 ·rcases hn with hn | hn
  ·exact .inl hn
  ·exact .inr ⟨q,o,C,rfl,h2,m.blk h3 (fun e=>hn (by rw [← e]; rfl)),h4⟩
theorem ow_new {k:Nat} {e:TypeId} {b:Nat} {w:World} {a:Option Addr} {n:Nat} (h:Ow k e b w a n):n=0∨blkOf a≠some w.heap.size:=by
 rcases h with h | ⟨q,o,C,rfl,h2,h3,h4⟩
 ·exact .inl h
 ·refine .inr fun e=>?_
  have h5:=lt_of_block h3
  have h6:q=w.heap.size:=Option.some.inj e
  omega
theorem Co.newO {b:Nat} {w:World} {c:Cm} {x:Lc} (h:Co b w c x):x.no=0∨blkOf x.ao≠some w.heap.size:=ow_new h.o.o
theorem Co.bkO {b g:Nat} {w v:World} {c:Cm} {x:Lc} (h:Co b w c x) {C:Array Value} (hg:w.heap[g]?=some (.cells C 33 (0,0))) (m:Bt g w v) (hn:x.no=0∨blkOf x.ao≠some g):Co b v c x :=
 ⟨⟨⟨h.i.o.1,lz_bk h.i.o.2 m hn⟩,⟨h.i.h.1,lz_bz h.i.h.2 h.o.h hg m (by decide)⟩,h.i.nx,h.i.tn,h.i.dl⟩,⟨h.o.o.bk m hn,h.o.h.bz hg m (by decide)⟩⟩
end Go.Proofs.Ytcefkkoombmndab
namespace Go.Proofs.Ytcefkkoombmndab
open Go.RowKit
set_option maxRecDepth 100000
set_option linter.unusedSimpArgs false
set_option linter.unusedVariables false
theorem rt_tn {c:Cm} (h:rt c=true) (t:Int) (ht:0≤t∧t<max (c.O.length:Int) 1):rt { c with tn:=t }=true:=by
 unfold rt outB heldB at h ⊢
 simp only [Bool.and_eq_true,decide_eq_true_eq] at h ⊢
 exact ⟨h.1,⟨⟨h.2.1.1.1,h.2.1.1.2.1,ht⟩,h.2.1.2⟩,h.2.2⟩
end Go.Proofs.Ytcefkkoombmndab
namespace Go.Proofs.Ytcefkkoombmndab
open Go.RowKit
set_option maxRecDepth 100000
set_option linter.unusedSimpArgs false
set_option linter.unusedVariables false
theorem rt_seqs {c:Cm} (h:rt c=true):seqs (c.nx - c.O.length) c.O=true:=by
 unfold rt outB at h
 simp only [Bool.and_eq_true,decide_eq_true_eq] at h
 exact h.2.1.2
theorem rt_mk {c:Cm} (h1:c.nx≤2147483648∧c.dl≤2147483648∧c.O.length≤4∧(c.O.length:Int)≤c.nx∧c.H.length≤3) (h2:0≤c.tn∧c.tn<max (c.O.length:Int) 1) (h3:seqs (c.nx - c.O.length) c.O=true) (h4:rises c.dl (min (c.dl+4) 2147483648) c.H=true):rt c=true:=by
 unfold rt outB heldB
 simp only [Bool.and_eq_true,decide_eq_true_eq]
 exact ⟨⟨h1.1,h1.2.1⟩,⟨⟨h1.2.2.1,h1.2.2.2.1,h2⟩,h3⟩,h1.2.2.2.2,h4⟩
end Go.Proofs.Ytcefkkoombmndab
