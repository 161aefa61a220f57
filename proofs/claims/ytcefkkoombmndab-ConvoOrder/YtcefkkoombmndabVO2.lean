/-
  What the proof leans on.
-/
import Derived.Lib.SliceRun
import Derived.Test.YtcefkkoombmndabVO1
namespace Go.Proofs.Ytcefkkoombmndab
open Go.RowKit
set_option maxRecDepth 100000
set_option linter.unusedSimpArgs false
set_option linter.unusedVariables false
set_option maxHeartbeats 4000000 in
theorem out_ok (c:Cm) (x:Lc) (w:World) (hc:Cin w c x):Calls Try.prog 16 #[.agg (fl [[.int .u32 c.nx],[.slice x.ao x.no x.co],[.int .i64 c.tn],[.int .u32 c.dl],[.slice x.ah x.nh x.ch]])] w (Vl (.bool (outB c)) w):=by
 obtain ⟨T,hT⟩:∃ T:Ending→World→Prop,T=(Vl (.bool (outB c)) w):=⟨_,rfl⟩
 rw [← hT]
 replace hT:=hide hT
 have hn:=hc.o.len
 have hnx:=hc.nx
 have htn:=hc.tn
 have hcap:=hc.o.2.cap
 have hmax:=hc.o.2.max
 replace hc:=hide hc
 obtain ⟨A0_,hA0_⟩:∃ S_,S_=fl [[.int .u32 c.nx],[.slice x.ao x.no x.co],[.int .i64 c.tn],[.int .u32 c.dl],[.slice x.ah x.nh x.ch]]:=⟨_,rfl⟩
 rw [← hA0_]
 replace hA0_:=hide hA0_
 go_enter Try.func16,Try.ntmps16
 go_upto_region 1 with fail
 have hB:=((Bl.nil w).new A0_ 26)
 simp only [size_alloc,List.nil_append,List.cons_append] at hB
 rw [unhide hA0_] at hB
 generalize hu_:World.alloc _ _=u0
 replace hB:Bl w [⟨w.heap.size,fl [[.int .u32 c.nx],[.slice x.ao x.no x.co],[.int .i64 c.tn],[.int .u32 c.dl],[.slice x.ah x.nh x.ch]],26⟩] u0:=by
  rw [← hu_]
  rw [unhide hA0_]
  exact hB
 clear hu_ hA0_
 refine wp_region_lit ?_
 refine lvk (.pointer (some ⟨w.heap.size,1,none⟩)) ?_
 simp only [nrm]
 refine list_val (.slice x.ao x.no x.co) (by kernel_rfl) (exec_csO _ (.tmp 7) rfl (w.heap.size) 1 (by kernel_rfl) x.ao x.no x.co (seg_cell (nC  _ _ _ _ _) (hB.get 0 (x:=⟨w.heap.size,fl [[.int .u32 c.nx],[.slice x.ao x.no x.co],[.int .i64 c.tn],[.int .u32 c.dl],[.slice x.ah x.nh x.ch]],26⟩) rfl) 1 (v:=.slice x.ao x.no x.co) rfl rfl)) ?_
 simp only [nrm]
 refine lvk (.int .i64 (x.no:Int)) ?_
 simp only [nrm]
 (refine wpList_step fun K hK=>?_; replace hK:=hide hK; go_simp; refine unhide hK _ _ ?_; clear hK K)
 refine wpList_nil ?_
 by_cases h1:4<(x.no:Int)
 ·have hv:outB c=false:=by
   unfold outB
   rw [Bool.and_eq_false_iff]
   left
   rw [decide_eq_false_iff_not,hn]
   omega
  clear hc
  replace hB:=hide hB
  go_upto_region 2 with fail
  replace hB:=unhide hB
  refine wp_region_lit ?_
  refine wpList_gen fun ops_ hops=>?_
  replace hops:=hide hops
  refine list_val (.int .i64 (x.no:Int)) (by rw [unhide hops]; kernel_rfl) (by kernel_rfl) ?_
  simp only [nrm]
  refine list_val (.bool true) (by rw [unhide hops]; kernel_rfl) (gtr_i _ (.tmp 10) (.const (.int .i64 4)) (x.no:Int) 4 true rfl (by kernel_rfl) (by kernel_rfl) (decide_eq_true h1)) ?_
  simp only [nrm]
  refine list_val (.bool true) (by rw [unhide hops]; kernel_rfl) (by kernel_rfl) ?_
  simp only [nrm]
  refine list_off (by rw [unhide hops]; kernel_rfl) ?_
  simp only [nrm]
  refine list_off (by rw [unhide hops]; kernel_rfl) ?_
  simp only [nrm]
  refine list_off (by rw [unhide hops]; kernel_rfl) ?_
  simp only [nrm]
  refine list_off (by rw [unhide hops]; kernel_rfl) ?_
  simp only [nrm]
  refine list_off (by rw [unhide hops]; kernel_rfl) ?_
  simp only [nrm]
  refine list_val (.bool true) (by rw [unhide hops]; kernel_rfl) (by kernel_rfl) ?_
  simp only [nrm]
  refine list_val (.bool true) (by rw [unhide hops]; kernel_rfl) (by kernel_rfl) ?_
  simp only [nrm]
  refine list_off (by rw [unhide hops]; kernel_rfl) ?_
  simp only [nrm]
  refine list_off (by rw [unhide hops]; kernel_rfl) ?_
  simp only [nrm]
  refine list_off (by rw [unhide hops]; kernel_rfl) ?_
  simp only [nrm]
  refine list_val (.bool true) (by rw [unhide hops]; kernel_rfl) (by kernel_rfl) ?_
  simp only [nrm]
  refine list_val (.bool true) (by rw [unhide hops]; kernel_rfl) (by kernel_rfl) ?_
  simp only [nrm]
  refine list_off (by rw [unhide hops]; kernel_rfl) ?_
  simp only [nrm]
  refine list_off (by rw [unhide hops]; kernel_rfl) ?_
  simp only [nrm]
  refine list_off (by rw [unhide hops]; kernel_rfl) ?_
  simp only [nrm]
  refine list_off (by rw [unhide hops]; kernel_rfl) ?_
  simp only [nrm]
  refine list_off (by rw [unhide hops]; kernel_rfl) ?_
  simp only [nrm]
  refine list_val (.bool true) (by rw [unhide hops]; kernel_rfl) (by kernel_rfl) ?_
  simp only [nrm]
  refine wpList_nil ?_
  replace hB:=hide hB
  go_wp2_with fail
  replace hB:=unhide hB
  rw [unhide hT]
  exact (⟨by rw [hv] <;> rfl,hB.gr⟩)
 by_cases h2:c.nx<(x.no:Int)
 ·have hv:outB c=false:=by
   unfold outB
   rw [Bool.and_eq_false_iff]
   left
   rw [decide_eq_false_iff_not,hn]
   omega
  clear hc
  replace hB:=hide hB
  go_upto_region 2 with fail
  replace hB:=unhide hB
  refine wp_region_lit ?_
  refine wpList_gen fun ops_ hops=>?_
  replace hops:=hide hops
  refine list_val (.int .i64 (x.no:Int)) (by rw [unhide hops]; kernel_rfl) (by kernel_rfl) ?_
  simp only [nrm]
  refine list_val (.bool false) (by rw [unhide hops]; kernel_rfl) (gtr_i _ (.tmp 10) (.const (.int .i64 4)) (x.no:Int) 4 false rfl (by kernel_rfl) (by kernel_rfl) (decide_eq_false h1)) ?_
  simp only [nrm]
  refine list_val (.bool false) (by rw [unhide hops]; kernel_rfl) (by kernel_rfl) ?_
  simp only [nrm]
  refine list_val (.int .i64 (x.no:Int)) (by rw [unhide hops]; kernel_rfl) (by kernel_rfl) ?_
  simp only [nrm]
  refine list_val (.int .u32 (x.no:Int)) (by rw [unhide hops]; kernel_rfl) (conv_u32 _ (.tmp 13) (x.no:Int) rfl (by kernel_rfl) (by omega)) ?_
  simp only [nrm]
  refine list_val (.pointer (some ⟨w.heap.size,0,none⟩)) (by rw [unhide hops]; kernel_rfl) (by kernel_rfl) ?_
  simp only [nrm]
  refine list_val (.int .u32 c.nx) (by rw [unhide hops]; kernel_rfl) (exec_c32 _ (.tmp 15) rfl (w.heap.size) 0 (by kernel_rfl) c.nx (seg_cell (nC  _ _ _ _ _) (hB.get 0 (x:=⟨w.heap.size,fl [[.int .u32 c.nx],[.slice x.ao x.no x.co],[.int .i64 c.tn],[.int .u32 c.dl],[.slice x.ah x.nh x.ch]],26⟩) rfl) 0 (v:=.int .u32 c.nx) rfl rfl)) ?_
  simp only [nrm]
  refine list_val (.bool true) (by rw [unhide hops]; kernel_rfl) (gtr_32 _ (.tmp 14) (.tmp 16) (x.no:Int) c.nx true rfl (by kernel_rfl) (by kernel_rfl) (decide_eq_true h2)) ?_
  simp only [nrm]
  refine list_val (.bool true) (by rw [unhide hops]; kernel_rfl) (by kernel_rfl) ?_
  simp only [nrm]
  refine list_val (.bool true) (by rw [unhide hops]; kernel_rfl) (by kernel_rfl) ?_
  simp only [nrm]
  refine list_off (by rw [unhide hops]; kernel_rfl) ?_
  simp only [nrm]
  refine list_off (by rw [unhide hops]; kernel_rfl) ?_
  simp only [nrm]
  refine list_off (by rw [unhide hops]; kernel_rfl) ?_
  simp only [nrm]
  refine list_val (.bool true) (by rw [unhide hops]; kernel_rfl) (by kernel_rfl) ?_
  simp only [nrm]
  refine list_val (.bool true) (by rw [unhide hops]; kernel_rfl) (by kernel_rfl) ?_
  simp only [nrm]
  refine list_off (by rw [unhide hops]; kernel_rfl) ?_
  simp only [nrm]
  refine list_off (by rw [unhide hops]; kernel_rfl) ?_
  simp only [nrm]
  refine list_off (by rw [unhide hops]; kernel_rfl) ?_
  simp only [nrm]
  refine list_off (by rw [unhide hops]; kernel_rfl) ?_
  simp only [nrm]
  refine list_off (by rw [unhide hops]; kernel_rfl) ?_
  simp only [nrm]
  refine list_val (.bool true) (by rw [unhide hops]; kernel_rfl) (by kernel_rfl) ?_
  simp only [nrm]
  refine wpList_nil ?_
  replace hB:=hide hB
  go_wp2_with fail
  replace hB:=unhide hB
  rw [unhide hT]
  exact (⟨by rw [hv] <;> rfl,hB.gr⟩)
 by_cases h3:c.tn<0
 ·have hv:outB c=false:=by
   unfold outB
   rw [Bool.and_eq_false_iff]
   left
   rw [decide_eq_false_iff_not,hn]
   omega
  clear hc
  replace hB:=hide hB
  go_upto_region 2 with fail
  replace hB:=unhide hB
  refine wp_region_lit ?_
  refine wpList_gen fun ops_ hops=>?_
  replace hops:=hide hops
  refine list_val (.int .i64 (x.no:Int)) (by rw [unhide hops]; kernel_rfl) (by kernel_rfl) ?_
  simp only [nrm]
  refine list_val (.bool false) (by rw [unhide hops]; kernel_rfl) (gtr_i _ (.tmp 10) (.const (.int .i64 4)) (x.no:Int) 4 false rfl (by kernel_rfl) (by kernel_rfl) (decide_eq_false h1)) ?_
  simp only [nrm]
  refine list_val (.bool false) (by rw [unhide hops]; kernel_rfl) (by kernel_rfl) ?_
  simp only [nrm]
  refine list_val (.int .i64 (x.no:Int)) (by rw [unhide hops]; kernel_rfl) (by kernel_rfl) ?_
  simp only [nrm]
  refine list_val (.int .u32 (x.no:Int)) (by rw [unhide hops]; kernel_rfl) (conv_u32 _ (.tmp 13) (x.no:Int) rfl (by kernel_rfl) (by omega)) ?_
  simp only [nrm]
  refine list_val (.pointer (some ⟨w.heap.size,0,none⟩)) (by rw [unhide hops]; kernel_rfl) (by kernel_rfl) ?_
  simp only [nrm]
  refine list_val (.int .u32 c.nx) (by rw [unhide hops]; kernel_rfl) (exec_c32 _ (.tmp 15) rfl (w.heap.size) 0 (by kernel_rfl) c.nx (seg_cell (nC  _ _ _ _ _) (hB.get 0 (x:=⟨w.heap.size,fl [[.int .u32 c.nx],[.slice x.ao x.no x.co],[.int .i64 c.tn],[.int .u32 c.dl],[.slice x.ah x.nh x.ch]],26⟩) rfl) 0 (v:=.int .u32 c.nx) rfl rfl)) ?_
  simp only [nrm]
  refine list_val (.bool false) (by rw [unhide hops]; kernel_rfl) (gtr_32 _ (.tmp 14) (.tmp 16) (x.no:Int) c.nx false rfl (by kernel_rfl) (by kernel_rfl) (decide_eq_false h2)) ?_
  simp only [nrm]
  refine list_val (.bool false) (by rw [unhide hops]; kernel_rfl) (by kernel_rfl) ?_
  simp only [nrm]
  refine list_val (.bool false) (by rw [unhide hops]; kernel_rfl) (by kernel_rfl) ?_
  simp only [nrm]
  refine list_val (.pointer (some ⟨w.heap.size,2,none⟩)) (by rw [unhide hops]; kernel_rfl) (by kernel_rfl) ?_
  simp only [nrm]
  refine list_val (.int .i64 c.tn) (by rw [unhide hops]; kernel_rfl) (exec_ci _ (.tmp 20) rfl (w.heap.size) 2 (by kernel_rfl) c.tn (seg_cell (nC  _ _ _ _ _) (hB.get 0 (x:=⟨w.heap.size,fl [[.int .u32 c.nx],[.slice x.ao x.no x.co],[.int .i64 c.tn],[.int .u32 c.dl],[.slice x.ah x.nh x.ch]],26⟩) rfl) 2 (v:=.int .i64 c.tn) rfl rfl)) ?_
  simp only [nrm]
  refine list_val (.bool true) (by rw [unhide hops]; kernel_rfl) (lss_i _ (.tmp 21) (.const (.int .i64 0)) c.tn 0 true rfl (by kernel_rfl) (by kernel_rfl) (decide_eq_true h3)) ?_
  simp only [nrm]
  refine list_val (.bool true) (by rw [unhide hops]; kernel_rfl) (by kernel_rfl) ?_
  simp only [nrm]
  refine list_val (.bool true) (by rw [unhide hops]; kernel_rfl) (by kernel_rfl) ?_
  simp only [nrm]
  refine list_off (by rw [unhide hops]; kernel_rfl) ?_
  simp only [nrm]
  refine list_off (by rw [unhide hops]; kernel_rfl) ?_
  simp only [nrm]
  refine list_off (by rw [unhide hops]; kernel_rfl) ?_
  simp only [nrm]
  refine list_off (by rw [unhide hops]; kernel_rfl) ?_
  simp only [nrm]
  refine list_off (by rw [unhide hops]; kernel_rfl) ?_
  simp only [nrm]
  refine list_val (.bool true) (by rw [unhide hops]; kernel_rfl) (by kernel_rfl) ?_
  simp only [nrm]
  refine wpList_nil ?_
  replace hB:=hide hB
  go_wp2_with fail
  replace hB:=unhide hB
  rw [unhide hT]
  exact (⟨by rw [hv] <;> rfl,hB.gr⟩)
 by_cases h4:max (x.no:Int) 1≤c.tn
 ·have hv:outB c=false:=by
   unfold outB
   rw [Bool.and_eq_false_iff]
   left
   rw [decide_eq_false_iff_not,hn]
   omega
  clear hc
  replace hB:=hide hB
  go_upto_region 2 with fail
  replace hB:=unhide hB
  refine wp_region_lit ?_
  refine wpList_gen fun ops_ hops=>?_
  replace hops:=hide hops
  refine list_val (.int .i64 (x.no:Int)) (by rw [unhide hops]; kernel_rfl) (by kernel_rfl) ?_
  simp only [nrm]
  refine list_val (.bool false) (by rw [unhide hops]; kernel_rfl) (gtr_i _ (.tmp 10) (.const (.int .i64 4)) (x.no:Int) 4 false rfl (by kernel_rfl) (by kernel_rfl) (decide_eq_false h1)) ?_
  simp only [nrm]
  refine list_val (.bool false) (by rw [unhide hops]; kernel_rfl) (by kernel_rfl) ?_
  simp only [nrm]
  refine list_val (.int .i64 (x.no:Int)) (by rw [unhide hops]; kernel_rfl) (by kernel_rfl) ?_
  simp only [nrm]
  refine list_val (.int .u32 (x.no:Int)) (by rw [unhide hops]; kernel_rfl) (conv_u32 _ (.tmp 13) (x.no:Int) rfl (by kernel_rfl) (by omega)) ?_
  simp only [nrm]
  refine list_val (.pointer (some ⟨w.heap.size,0,none⟩)) (by rw [unhide hops]; kernel_rfl) (by kernel_rfl) ?_
  simp only [nrm]
  refine list_val (.int .u32 c.nx) (by rw [unhide hops]; kernel_rfl) (exec_c32 _ (.tmp 15) rfl (w.heap.size) 0 (by kernel_rfl) c.nx (seg_cell (nC  _ _ _ _ _) (hB.get 0 (x:=⟨w.heap.size,fl [[.int .u32 c.nx],[.slice x.ao x.no x.co],[.int .i64 c.tn],[.int .u32 c.dl],[.slice x.ah x.nh x.ch]],26⟩) rfl) 0 (v:=.int .u32 c.nx) rfl rfl)) ?_
  simp only [nrm]
  refine list_val (.bool false) (by rw [unhide hops]; kernel_rfl) (gtr_32 _ (.tmp 14) (.tmp 16) (x.no:Int) c.nx false rfl (by kernel_rfl) (by kernel_rfl) (decide_eq_false h2)) ?_
  simp only [nrm]
  refine list_val (.bool false) (by rw [unhide hops]; kernel_rfl) (by kernel_rfl) ?_
  simp only [nrm]
  refine list_val (.bool false) (by rw [unhide hops]; kernel_rfl) (by kernel_rfl) ?_
  simp only [nrm]
  refine list_val (.pointer (some ⟨w.heap.size,2,none⟩)) (by rw [unhide hops]; kernel_rfl) (by kernel_rfl) ?_
  simp only [nrm]
  refine list_val (.int .i64 c.tn) (by rw [unhide hops]; kernel_rfl) (exec_ci _ (.tmp 20) rfl (w.heap.size) 2 (by kernel_rfl) c.tn (seg_cell (nC  _ _ _ _ _) (hB.get 0 (x:=⟨w.heap.size,fl [[.int .u32 c.nx],[.slice x.ao x.no x.co],[.int .i64 c.tn],[.int .u32 c.dl],[.slice x.ah x.nh x.ch]],26⟩) rfl) 2 (v:=.int .i64 c.tn) rfl rfl)) ?_
  simp only [nrm]
  refine list_val (.bool false) (by rw [unhide hops]; kernel_rfl) (lss_i _ (.tmp 21) (.const (.int .i64 0)) c.tn 0 false rfl (by kernel_rfl) (by kernel_rfl) (decide_eq_false h3)) ?_
  simp only [nrm]
  refine list_val (.bool false) (by rw [unhide hops]; kernel_rfl) (by kernel_rfl) ?_
  simp only [nrm]
  refine list_val (.bool false) (by rw [unhide hops]; kernel_rfl) (by kernel_rfl) ?_
  simp only [nrm]
  refine list_val (.pointer (some ⟨w.heap.size,2,none⟩)) (by rw [unhide hops]; kernel_rfl) (by kernel_rfl) ?_
  simp only [nrm]
  refine list_val (.int .i64 c.tn) (by rw [unhide hops]; kernel_rfl) (exec_ci _ (.tmp 25) rfl (w.heap.size) 2 (by kernel_rfl) c.tn (seg_cell (nC  _ _ _ _ _) (hB.get 0 (x:=⟨w.heap.size,fl [[.int .u32 c.nx],[.slice x.ao x.no x.co],[.int .i64 c.tn],[.int .u32 c.dl],[.slice x.ah x.nh x.ch]],26⟩) rfl) 2 (v:=.int .i64 c.tn) rfl rfl)) ?_
  simp only [nrm]
  refine list_val (.int .i64 (x.no:Int)) (by rw [unhide hops]; kernel_rfl) (by kernel_rfl) ?_
  simp only [nrm]
  refine list_val (.int .i64 (max (x.no:Int) 1)) (by rw [unhide hops]; kernel_rfl) (max_i _ (.tmp 27) (.const (.int .i64 1)) (x.no:Int) 1 rfl (by kernel_rfl) (by kernel_rfl) _ rfl) ?_
  simp only [nrm]
  refine list_val (.bool true) (by rw [unhide hops]; kernel_rfl) (geq_i _ (.tmp 26) (.tmp 28) c.tn (max (x.no:Int) 1) true rfl (by kernel_rfl) (by kernel_rfl) (decide_eq_true h4)) ?_
  simp only [nrm]
  refine list_val (.bool true) (by rw [unhide hops]; kernel_rfl) (by kernel_rfl) ?_
  simp only [nrm]
  refine wpList_nil ?_
  replace hB:=hide hB
  go_wp2_with fail
  replace hB:=unhide hB
  rw [unhide hT]
  exact (⟨by rw [hv] <;> rfl,hB.gr⟩)
 replace hB:=hide hB
 go_upto_region 2 with fail
 replace hB:=unhide hB
 refine wp_region_lit ?_
 refine wpList_gen fun ops_ hops=>?_
 replace hops:=hide hops
 refine list_val (.int .i64 (x.no:Int)) (by rw [unhide hops]; kernel_rfl) (by kernel_rfl) ?_
 simp only [nrm]
 refine list_val (.bool false) (by rw [unhide hops]; kernel_rfl) (gtr_i _ (.tmp 10) (.const (.int .i64 4)) (x.no:Int) 4 false rfl (by kernel_rfl) (by kernel_rfl) (decide_eq_false h1)) ?_
 simp only [nrm]
 refine list_val (.bool false) (by rw [unhide hops]; kernel_rfl) (by kernel_rfl) ?_
 simp only [nrm]
 refine list_val (.int .i64 (x.no:Int)) (by rw [unhide hops]; kernel_rfl) (by kernel_rfl) ?_
 simp only [nrm]
 refine list_val (.int .u32 (x.no:Int)) (by rw [unhide hops]; kernel_rfl) (conv_u32 _ (.tmp 13) (x.no:Int) rfl (by kernel_rfl) (by omega)) ?_
 simp only [nrm]
 refine list_val (.pointer (some ⟨w.heap.size,0,none⟩)) (by rw [unhide hops]; kernel_rfl) (by kernel_rfl) ?_
 simp only [nrm]
 refine list_val (.int .u32 c.nx) (by rw [unhide hops]; kernel_rfl) (exec_c32 _ (.tmp 15) rfl (w.heap.size) 0 (by kernel_rfl) c.nx (seg_cell (nC  _ _ _ _ _) (hB.get 0 (x:=⟨w.heap.size,fl [[.int .u32 c.nx],[.slice x.ao x.no x.co],[.int .i64 c.tn],[.int .u32 c.dl],[.slice x.ah x.nh x.ch]],26⟩) rfl) 0 (v:=.int .u32 c.nx) rfl rfl)) ?_
 simp only [nrm]
 refine list_val (.bool false) (by rw [unhide hops]; kernel_rfl) (gtr_32 _ (.tmp 14) (.tmp 16) (x.no:Int) c.nx false rfl (by kernel_rfl) (by kernel_rfl) (decide_eq_false h2)) ?_
 simp only [nrm]
 refine list_val (.bool false) (by rw [unhide hops]; kernel_rfl) (by kernel_rfl) ?_
 simp only [nrm]
 refine list_val (.bool false) (by rw [unhide hops]; kernel_rfl) (by kernel_rfl) ?_
 simp only [nrm]
 refine list_val (.pointer (some ⟨w.heap.size,2,none⟩)) (by rw [unhide hops]; kernel_rfl) (by kernel_rfl) ?_
 simp only [nrm]
 refine list_val (.int .i64 c.tn) (by rw [unhide hops]; kernel_rfl) (exec_ci _ (.tmp 20) rfl (w.heap.size) 2 (by kernel_rfl) c.tn (seg_cell (nC  _ _ _ _ _) (hB.get 0 (x:=⟨w.heap.size,fl [[.int .u32 c.nx],[.slice x.ao x.no x.co],[.int .i64 c.tn],[.int .u32 c.dl],[.slice x.ah x.nh x.ch]],26⟩) rfl) 2 (v:=.int .i64 c.tn) rfl rfl)) ?_
 simp only [nrm]
 refine list_val (.bool false) (by rw [unhide hops]; kernel_rfl) (lss_i _ (.tmp 21) (.const (.int .i64 0)) c.tn 0 false rfl (by kernel_rfl) (by kernel_rfl) (decide_eq_false h3)) ?_
 simp only [nrm]
 refine list_val (.bool false) (by rw [unhide hops]; kernel_rfl) (by kernel_rfl) ?_
 simp only [nrm]
 refine list_val (.bool false) (by rw [unhide hops]; kernel_rfl) (by kernel_rfl) ?_
 simp only [nrm]
 refine list_val (.pointer (some ⟨w.heap.size,2,none⟩)) (by rw [unhide hops]; kernel_rfl) (by kernel_rfl) ?_
 simp only [nrm]
 refine list_val (.int .i64 c.tn) (by rw [unhide hops]; kernel_rfl) (exec_ci _ (.tmp 25) rfl (w.heap.size) 2 (by kernel_rfl) c.tn (seg_cell (nC  _ _ _ _ _) (hB.get 0 (x:=⟨w.heap.size,fl [[.int .u32 c.nx],[.slice x.ao x.no x.co],[.int .i64 c.tn],[.int .u32 c.dl],[.slice x.ah x.nh x.ch]],26⟩) rfl) 2 (v:=.int .i64 c.tn) rfl rfl)) ?_
 simp only [nrm]
 refine list_val (.int .i64 (x.no:Int)) (by rw [unhide hops]; kernel_rfl) (by kernel_rfl) ?_
 simp only [nrm]
 refine list_val (.int .i64 (max (x.no:Int) 1)) (by rw [unhide hops]; kernel_rfl) (max_i _ (.tmp 27) (.const (.int .i64 1)) (x.no:Int) 1 rfl (by kernel_rfl) (by kernel_rfl) _ rfl) ?_
 simp only [nrm]
 refine list_val (.bool false) (by rw [unhide hops]; kernel_rfl) (geq_i _ (.tmp 26) (.tmp 28) c.tn (max (x.no:Int) 1) false rfl (by kernel_rfl) (by kernel_rfl) (decide_eq_false h4)) ?_
 simp only [nrm]
 refine list_val (.bool false) (by rw [unhide hops]; kernel_rfl) (by kernel_rfl) ?_
 simp only [nrm]
 refine wpList_nil ?_
 replace hB:=hide hB
 go_upto_region 4 with fail
 replace hB:=unhide hB
 refine wp_region_lit ?_
 refine list_val (.agg (fl [[.int .u32 c.nx],[.slice x.ao x.no x.co],[.int .i64 c.tn],[.int .u32 c.dl],[.slice x.ah x.nh x.ch]])) (by kernel_rfl) (exec_sw _ 26 (.tmp 1) rfl (w.heap.size) (by kernel_rfl) (hB.get 0 (x:=⟨w.heap.size,fl [[.int .u32 c.nx],[.slice x.ao x.no x.co],[.int .i64 c.tn],[.int .u32 c.dl],[.slice x.ah x.nh x.ch]],26⟩) rfl) NC (nC  _ _ _ _ _) Try.underlying26 rfl (by kernel_rfl)) ?_
 simp only [nrm]
 refine list_call 24 #[.agg (fl [[.int .u32 c.nx],[.slice x.ao x.no x.co],[.int .i64 c.tn],[.int .u32 c.dl],[.slice x.ah x.nh x.ch]])] (by kernel_rfl) (by kernel_rfl) ((acked_ok c x u0 ((unhide hc).gr hB.gr) (by omega)).mono ?_)
 rintro r_ u1 ⟨rfl,hg⟩
 replace hB:=hB.more hg
 clear hg
 refine ⟨_,rfl,?_⟩
 simp only [nrm]
 (refine wpList_step fun K hK=>?_; replace hK:=hide hK; go_simp; refine unhide hK _ _ ?_; clear hK K)
 refine wpList_nil ?_
 replace hB:=hide hB
 go_upto_region 5 with fail
 replace hB:=unhide hB
 refine wp_region_lit ?_
 refine lvk (.pointer (some ⟨w.heap.size,1,none⟩)) ?_
 simp only [nrm]
 refine list_val (.slice x.ao x.no x.co) (by kernel_rfl) (exec_csO _ (.tmp 33) rfl (w.heap.size) 1 (by kernel_rfl) x.ao x.no x.co (seg_cell (nC  _ _ _ _ _) (hB.get 0 (x:=⟨w.heap.size,fl [[.int .u32 c.nx],[.slice x.ao x.no x.co],[.int .i64 c.tn],[.int .u32 c.dl],[.slice x.ah x.nh x.ch]],26⟩) rfl) 1 (v:=.slice x.ao x.no x.co) rfl rfl)) ?_
 simp only [nrm]
 refine lvk (.int .i64 (x.no:Int)) ?_
 simp only [nrm]
 refine lvk (.int .i64 0) ?_
 simp only [nrm]
 refine wpList_nil ?_
 have hs0:Hid (seqs (c.nx - x.no) c.O=seqs (c.nx - x.no+(0:Nat)) (c.O.drop 0)):=hide (by rw [List.drop_zero]; simp)
 obtain ⟨k0,hk0⟩:∃ k,k=c.nx - (x.no:Int):=⟨_,rfl⟩
 have hk1:k0+x.no=c.nx:=by omega
 have hv0:outB c=seqs k0 c.O:=by
  unfold outB
  rw [hn,← hk0,decide_eq_true (by omega),Bool.true_and]
 rw [← hk0] at hs0 ⊢
 replace hk0:=hide hk0
 replace hv0:=hide hv0
 have hB0:=hide hB
 clear hB
 have hkk:Hid (k0=k0+((0:Nat):Int)):=hide (by simp)
 go_wp2_with fail
 go_loopw [4,36] (fun q i wr=>∃ j:Nat,j≤x.no∧i=.int .i64 (j:Int)∧q=.int .u32 (k0+j)∧Hid (seqs k0 c.O=seqs (k0+j) (c.O.drop j))∧Hid (Bl w [⟨w.heap.size,fl [[.int .u32 c.nx],[.slice x.ao x.no x.co],[.int .i64 c.tn],[.int .u32 c.dl],[.slice x.ah x.nh x.ch]],26⟩] wr)) (fun q i _=>x.no - (intOf i).toNat)
 case atStart=>exact ⟨0,by omega,rfl,by rw [← unhide hkk],hs0,hB0⟩
 case round =>
 clear hs0 hB0 hkk
 obtain ⟨j,hj,rfl,rfl,hs,hB0⟩:=hrel
 have hB:=unhide hB0
 clear hB0
 by_cases hlt:j<x.no
 ·have jI:(j:Int)<(x.no:Int):=by omega
  obtain ⟨s,hsj⟩:∃ s,c.O[j]?=some s:=⟨_,List.getElem?_eq_getElem (by omega)⟩
  have hok:=((unhide hc).o).ok j s hsj
  obtain ⟨p,o,ha,hr⟩:=((unhide hc).o.gr hB.gr).at_ j s hsj
  rw [seqs_step _ _ j s hsj] at hs
  have hok2:=hok.2.1
  replace hok:=hide hok
  replace hr:=hide hr; replace hsj:=hide hsj; replace ha:=hide ha; replace hs:=hide hs; replace hok2:=hide hok2
  replace hB:=hide hB
  go_upto_region 7 with fail
  replace hB:=unhide hB
  refine wp_region_lit ?_
  refine list_val (.pointer (some ⟨p,o+106 * j,none⟩)) (by kernel_rfl) (exec_iso _ (.tmp 34) (.tmp 36) rfl p o x.no x.co j (by rw [← unhide ha]; kernel_rfl) (by kernel_rfl) hlt) ?_
  simp only [nrm]
  refine list_val (.agg (fl [[.int .u32 s.n],bw s.B])) (by kernel_rfl) (exec_lo _ (.tmp 38) rfl p (o+106 * j) (by kernel_rfl) s (unhide hok) (unhide hr)) ?_
  simp only [nrm]
  refine list_valw (.pointer (some ⟨wr.heap.size,0,none⟩)) (wr.alloc (.cells (fl [[.int .u32 0],bw Z105]) 33 (0,0))) (by kernel_rfl) (by kernel_rfl) ?_
  replace hB:=hB.new (fl [[.int .u32 0],bw Z105]) 33
  simp only [List.nil_append,List.cons_append] at hB
  generalize World.alloc _ _=u2 at *
  generalize wr.heap.size=g6 at *
  simp only [nrm]
  refine list_all 33 (.tmp 6) (.tmp 39) (g6) (S2:=[[.int .u32 s.n],bw s.B]) (by kernel_rfl) rfl (by kernel_rfl) (by kernel_rfl) hB 1 rfl NO (nO Z105_len _) (nO (unhide hok2) _) (by kernel_rfl) (oO _ rfl) ?_
  intro u3 hB_ hbt_
  clear hB
  replace hB:Bl w [⟨w.heap.size,fl [[.int .u32 c.nx],[.slice x.ao x.no x.co],[.int .i64 c.tn],[.int .u32 c.dl],[.slice x.ah x.nh x.ch]],26⟩,⟨g6,fl [[.int .u32 s.n],bw s.B],33⟩] u3:=hB_
  clear hB_
  clear hbt_
  simp only [nrm]
  refine wpList_nil ?_
  by_cases hne:s.n=k0+j
  ·have hs2:Hid (seqs k0 c.O=seqs (k0+((j+1:Nat):Int)) (c.O.drop (j+1))):=by
    rw [unhide hs,decide_eq_true hne,Bool.true_and,Int.natCast_add,Int.add_assoc]
    rfl
   replace hB:=hide hB
   go_upto_region 8 with fail
   replace hB:=unhide hB
   refine wp_region_lit ?_
   refine lvk (.pointer (some ⟨g6,0,none⟩)) ?_
   simp only [nrm]
   refine list_val (.int .u32 s.n) (by kernel_rfl) (exec_c32 _ (.tmp 40) rfl (g6) 0 (by kernel_rfl) s.n (seg_cell (nO (unhide hok2) _) (hB.get 1 (x:=⟨g6,fl [[.int .u32 s.n],bw s.B],33⟩) rfl) 0 (v:=.int .u32 s.n) rfl rfl)) ?_
   simp only [nrm]
   refine lvk (.int .u32 (k0+j)) ?_
   simp only [nrm]
   refine list_val (.bool false) (by kernel_rfl) (neq_32 _ (.tmp 41) (.tmp 42) s.n (k0+j) false rfl (by kernel_rfl) (by kernel_rfl) (by simp [hne])) ?_
   simp only [nrm]
   refine wpList_nil ?_
   replace hB:=hide hB
   go_upto_region 10 with fail
   replace hB:=unhide hB
   refine wp_region_lit ?_
   refine lvk (.int .u32 (k0+j)) ?_
   simp only [nrm]
   refine list_val (.int .u32 (k0+((j+1:Nat):Int))) (by kernel_rfl) (add_32 _ (.tmp 44) (.const (.int .u32 1)) (k0+j) 1 rfl (by kernel_rfl) (by kernel_rfl) _ (by omega) (by omega)) ?_
   simp only [nrm]
   (refine wpList_step fun K hK=>?_; replace hK:=hide hK; go_simp; refine unhide hK _ _ ?_; clear hK K)
   refine wpList_nil ?_
   replace hB:=Bl.left (L:=[⟨w.heap.size,fl [[.int .u32 c.nx],[.slice x.ao x.no x.co],[.int .i64 c.tn],[.int .u32 c.dl],[.slice x.ah x.nh x.ch]],26⟩]) (M:=[⟨g6,fl [[.int .u32 s.n],bw s.B],33⟩]) hB
   have jw:IntKind.i64.wrap ((j:Int)+1)=(j:Int)+1:=by rw [IntKind.wrap_i64]; omega
   replace hB:=hide hB
   clear hs hr hsj ha hok hne
   go_wp2_with fail
   go_roundw
   case rel=>exact ⟨j+1,by omega,by simp,rfl,hs2,hB⟩
   case measure=>simp [intOf]; omega
  ·have hv:outB c=false:=by
    rw [unhide hv0,unhide hs,decide_eq_false hne,Bool.false_and]
   replace hB:=hide hB
   go_upto_region 8 with fail
   replace hB:=unhide hB
   refine wp_region_lit ?_
   refine lvk (.pointer (some ⟨g6,0,none⟩)) ?_
   simp only [nrm]
   refine list_val (.int .u32 s.n) (by kernel_rfl) (exec_c32 _ (.tmp 40) rfl (g6) 0 (by kernel_rfl) s.n (seg_cell (nO (unhide hok2) _) (hB.get 1 (x:=⟨g6,fl [[.int .u32 s.n],bw s.B],33⟩) rfl) 0 (v:=.int .u32 s.n) rfl rfl)) ?_
   simp only [nrm]
   refine lvk (.int .u32 (k0+j)) ?_
   simp only [nrm]
   refine list_val (.bool true) (by kernel_rfl) (neq_32 _ (.tmp 41) (.tmp 42) s.n (k0+j) true rfl (by kernel_rfl) (by kernel_rfl) (by simp [hne])) ?_
   simp only [nrm]
   refine wpList_nil ?_
   replace hB:=hide hB
   go_wp2_with fail
   replace hB:=unhide hB
   rw [unhide hT]
   exact (⟨by rw [hv] <;> rfl,hB.gr⟩)
 ·have jI:¬ (j:Int)<(x.no:Int):=by omega
  have hv:outB c=true:=by
   rw [unhide hv0,unhide hs,List.drop_eq_nil_of_le (by omega)]
   rfl
  have hg:=hide hB.gr
  clear hB hs
  go_wp2_with fail
  rw [unhide hT]
  exact ⟨by rw [hv] <;> rfl,unhide hg⟩
end Go.Proofs.Ytcefkkoombmndab
namespace Go.Proofs.Ytcefkkoombmndab
open Go.RowKit
set_option maxRecDepth 100000
set_option linter.unusedSimpArgs false
set_option linter.unusedVariables false
set_option maxHeartbeats 4000000 in
theorem held_ok (c:Cm) (x:Lc) (w:World) (hc:Cin w c x) (hdl:c.dl≤2147483648):Calls Try.prog 17 #[.agg (fl [[.int .u32 c.nx],[.slice x.ao x.no x.co],[.int .i64 c.tn],[.int .u32 c.dl],[.slice x.ah x.nh x.ch]])] w (Vl (.bool (heldB c)) w):=by
 obtain ⟨T,hT⟩:∃ T:Ending→World→Prop,T=(Vl (.bool (heldB c)) w):=⟨_,rfl⟩
 rw [← hT]
 replace hT:=hide hT
 have hn:=hc.h.len
 have hd:=hc.dl
 have hcap:=hc.h.2.cap
 have hmax:=hc.h.2.max
 replace hc:=hide hc
 obtain ⟨A0_,hA0_⟩:∃ S_,S_=fl [[.int .u32 c.nx],[.slice x.ao x.no x.co],[.int .i64 c.tn],[.int .u32 c.dl],[.slice x.ah x.nh x.ch]]:=⟨_,rfl⟩
 rw [← hA0_]
 replace hA0_:=hide hA0_
 go_enter Try.func17,Try.ntmps17
 go_upto_region 1 with fail
 have hB:=((Bl.nil w).new A0_ 26)
 simp only [size_alloc,List.nil_append,List.cons_append] at hB
 rw [unhide hA0_] at hB
 generalize hu_:World.alloc _ _=u0
 replace hB:Bl w [⟨w.heap.size,fl [[.int .u32 c.nx],[.slice x.ao x.no x.co],[.int .i64 c.tn],[.int .u32 c.dl],[.slice x.ah x.nh x.ch]],26⟩] u0:=by
  rw [← hu_]
  rw [unhide hA0_]
  exact hB
 clear hu_ hA0_
 by_cases h1:3<(x.nh:Int)
 ·have hv:heldB c=false:=by
   unfold heldB
   rw [decide_eq_false (by omega),Bool.false_and]
  clear hc
  refine wp_region_lit ?_
  refine lvk (.pointer (some ⟨w.heap.size,4,none⟩)) ?_
  simp only [nrm]
  refine list_val (.slice x.ah x.nh x.ch) (by kernel_rfl) (exec_csI _ (.tmp 7) rfl (w.heap.size) 4 (by kernel_rfl) x.ah x.nh x.ch (seg_cell (nC  _ _ _ _ _) (hB.get 0 (x:=⟨w.heap.size,fl [[.int .u32 c.nx],[.slice x.ao x.no x.co],[.int .i64 c.tn],[.int .u32 c.dl],[.slice x.ah x.nh x.ch]],26⟩) rfl) 4 (v:=.slice x.ah x.nh x.ch) rfl rfl)) ?_
  simp only [nrm]
  refine lvk (.int .i64 (x.nh:Int)) ?_
  simp only [nrm]
  refine list_val (.bool true) (by kernel_rfl) (gtr_i _ (.tmp 9) (.const (.int .i64 3)) (x.nh:Int) 3 true rfl (by kernel_rfl) (by kernel_rfl) (decide_eq_true h1)) ?_
  simp only [nrm]
  refine wpList_nil ?_
  replace hB:=hide hB
  go_wp2_with fail
  replace hB:=unhide hB
  rw [unhide hT]
  exact (⟨by rw [hv] <;> rfl,hB.gr⟩)
 refine wp_region_lit ?_
 refine lvk (.pointer (some ⟨w.heap.size,4,none⟩)) ?_
 simp only [nrm]
 refine list_val (.slice x.ah x.nh x.ch) (by kernel_rfl) (exec_csI _ (.tmp 7) rfl (w.heap.size) 4 (by kernel_rfl) x.ah x.nh x.ch (seg_cell (nC  _ _ _ _ _) (hB.get 0 (x:=⟨w.heap.size,fl [[.int .u32 c.nx],[.slice x.ao x.no x.co],[.int .i64 c.tn],[.int .u32 c.dl],[.slice x.ah x.nh x.ch]],26⟩) rfl) 4 (v:=.slice x.ah x.nh x.ch) rfl rfl)) ?_
 simp only [nrm]
 refine lvk (.int .i64 (x.nh:Int)) ?_
 simp only [nrm]
 refine list_val (.bool false) (by kernel_rfl) (gtr_i _ (.tmp 9) (.const (.int .i64 3)) (x.nh:Int) 3 false rfl (by kernel_rfl) (by kernel_rfl) (decide_eq_false h1)) ?_
 simp only [nrm]
 refine wpList_nil ?_
 obtain ⟨e,he⟩:∃ e,e=min (c.dl+4) 2147483648:=⟨_,rfl⟩
 have he1:e≤2147483648:=by omega
 replace he:=hide he
 replace hB:=hide hB
 go_upto_region 3 with fail
 replace hB:=unhide hB
 refine any_start (S:=fun v_=>v_.heap[w.heap.size]?=some (.cells (fl [[.int .u32 c.nx],[.slice x.ao x.no x.co],[.int .i64 c.tn],[.int .u32 c.dl],[.slice x.ah x.nh x.ch]]) 26 (0,0))) (by kernel_rfl) ?_
 replace hB:=hB.drew
 generalize World.drew _=u1 at *
 simp only [List.size_toArray,List.length_cons,List.length_nil,Array.replicate,List.replicate]
 have hS_:=hide (show (fun v_=>v_.heap[w.heap.size]?=some (.cells (fl [[.int .u32 c.nx],[.slice x.ao x.no x.co],[.int .i64 c.tn],[.int .u32 c.dl],[.slice x.ah x.nh x.ch]]) 26 (0,0))) u1 from (hB.get 0 (x:=⟨w.heap.size,fl [[.int .u32 c.nx],[.slice x.ao x.no x.co],[.int .i64 c.tn],[.int .u32 c.dl],[.slice x.ah x.nh x.ch]],26⟩) rfl))
 refine any_tk 0 (.pointer (some ⟨w.heap.size,3,none⟩)) (tf 8 0) rfl (fun x_ hu=>by kernel_rfl) (unhide hS_) ?_
 simp only [nrm]
 refine any_tk 1 (.int .u32 c.dl) (tf 8 1) rfl (fun x_ hu=>exec_c32 _ (.tmp 11) rfl (w.heap.size) 3 (by kernel_rfl) c.dl (seg_cell (nC  _ _ _ _ _) hu 3 (v:=.int .u32 c.dl) rfl rfl)) (unhide hS_) ?_
 simp only [nrm]
 refine any_tk 2 (.pointer (some ⟨w.heap.size,3,none⟩)) (tf 8 2) rfl (fun x_ hu=>by kernel_rfl) (unhide hS_) ?_
 simp only [nrm]
 refine any_tk 3 (.int .u32 c.dl) (tf 8 3) rfl (fun x_ hu=>exec_c32 _ (.tmp 13) rfl (w.heap.size) 3 (by kernel_rfl) c.dl (seg_cell (nC  _ _ _ _ _) hu 3 (v:=.int .u32 c.dl) rfl rfl)) (unhide hS_) ?_
 simp only [nrm]
 refine any_tk 4 (.int .u32 (c.dl+4)) (tf 8 4) rfl (fun x_ hu=>add_32 _ (.tmp 14) (.const (.int .u32 4)) c.dl 4 rfl (by kernel_rfl) (by kernel_rfl) _ rfl (by omega)) (unhide hS_) ?_
 simp only [nrm]
 refine any_tk 5 (.int .u32 e) (tf 8 5) rfl (fun x_ hu=>min_32 _ (.tmp 15) (.const (.int .u32 2147483648)) (c.dl+4) 2147483648 rfl (by kernel_rfl) (by kernel_rfl) _ (unhide he).symm) (unhide hS_) ?_
 simp only [nrm]
 refine any_one (i:=6) (by kernel_rfl) rfl (fun K hK=>?_)
 replace hK:=hide hK
 go_simp
 refine (unhide hK).out _ _ (unhide hS_) (fun _=>?_)
 clear hK K
 simp only [nrm]
 refine any_one (i:=7) (by kernel_rfl) rfl (fun K hK=>?_)
 replace hK:=hide hK
 go_simp
 refine (unhide hK).out _ _ (unhide hS_) (fun _=>?_)
 clear hK K
 simp only [nrm]
 refine any_done (by kernel_rfl) ?_
 clear hS_
 replace hB:=hide hB
 go_upto_region 4 with fail
 replace hB:=unhide hB
 refine wp_region_lit ?_
 refine lvk (.pointer (some ⟨w.heap.size,4,none⟩)) ?_
 simp only [nrm]
 refine list_val (.slice x.ah x.nh x.ch) (by kernel_rfl) (exec_csI _ (.tmp 17) rfl (w.heap.size) 4 (by kernel_rfl) x.ah x.nh x.ch (seg_cell (nC  _ _ _ _ _) (hB.get 0 (x:=⟨w.heap.size,fl [[.int .u32 c.nx],[.slice x.ao x.no x.co],[.int .i64 c.tn],[.int .u32 c.dl],[.slice x.ah x.nh x.ch]],26⟩) rfl) 4 (v:=.slice x.ah x.nh x.ch) rfl rfl)) ?_
 simp only [nrm]
 refine lvk (.int .i64 (x.nh:Int)) ?_
 simp only [nrm]
 refine lvk (.int .i64 0) ?_
 simp only [nrm]
 refine wpList_nil ?_
 have hs0:Hid (rises c.dl e c.H=rises c.dl e (c.H.drop 0)):=hide (by rw [List.drop_zero])
 have hv0:heldB c=rises c.dl e c.H:=by
  unfold heldB
  rw [hn,← unhide he,decide_eq_true (by omega),Bool.true_and]
 replace hv0:=hide hv0; replace hd:=hide hd; replace hdl:=hide hdl
 have hB0:=hide hB
 clear hB
 go_wp2_with fail
 go_loopw [3,20] (fun q i wr=>∃ (j:Nat) (f:Int),j≤x.nh∧i=.int .i64 (j:Int)∧q=.int .u32 f∧Hid (rises c.dl e c.H=rises f e (c.H.drop j))∧Hid (Bl w [⟨w.heap.size,fl [[.int .u32 c.nx],[.slice x.ao x.no x.co],[.int .i64 c.tn],[.int .u32 c.dl],[.slice x.ah x.nh x.ch]],26⟩] wr)) (fun q i _=>x.nh - (intOf i).toNat)
 case atStart=>exact ⟨0,c.dl,by omega,rfl,rfl,hs0,hB0⟩
 case round =>
 clear hs0 hB0
 obtain ⟨j,f,hj,rfl,rfl,hs,hB0⟩:=hrel
 have hB:=unhide hB0
 clear hB0
 by_cases hlt:j<x.nh
 ·have jI:(j:Int)<(x.nh:Int):=by omega
  obtain ⟨s,hsj⟩:∃ s,c.H[j]?=some s:=⟨_,List.getElem?_eq_getElem (by omega)⟩
  have hok:=((unhide hc).h).ok j s hsj
  obtain ⟨p,o,ha,hr⟩:=((unhide hc).h.gr hB.gr).at_ j s hsj
  rw [rises_step _ _ _ j s hsj] at hs
  replace hok:=hide hok
  replace hr:=hide hr; replace hsj:=hide hsj; replace ha:=hide ha; replace hs:=hide hs
  replace hB:=hide hB
  go_upto_region 6 with fail
  replace hB:=unhide hB
  refine wp_region_lit ?_
  refine list_val (.pointer (some ⟨p,o+2 * j,none⟩)) (by kernel_rfl) (exec_isi _ (.tmp 18) (.tmp 20) rfl p o x.nh x.ch j (by rw [← unhide ha]; kernel_rfl) (by kernel_rfl) hlt) ?_
  simp only [nrm]
  refine list_val (.agg (fl [[.int .u32 s.n],[.string s.s]])) (by kernel_rfl) (exec_li _ (.tmp 22) rfl p (o+2 * j) (by kernel_rfl) s (unhide hr)) ?_
  simp only [nrm]
  refine list_valw (.pointer (some ⟨wr.heap.size,0,none⟩)) (wr.alloc (.cells (fl [[.int .u32 0],[.string ByteArray.empty]]) 59 (0,0))) (by kernel_rfl) (by kernel_rfl) ?_
  replace hB:=hB.new (fl [[.int .u32 0],[.string ByteArray.empty]]) 59
  simp only [List.nil_append,List.cons_append] at hB
  generalize World.alloc _ _=u2 at *
  generalize wr.heap.size=g6 at *
  simp only [nrm]
  refine list_all 59 (.tmp 6) (.tmp 23) (g6) (S2:=[[.int .u32 s.n],[.string s.s]]) (by kernel_rfl) rfl (by kernel_rfl) (by kernel_rfl) hB 1 rfl NI (nI  _ _) (nI  _ _) (by kernel_rfl) (oI  rfl rfl) ?_
  intro u3 hB_ hbt_
  clear hB
  replace hB:Bl w [⟨w.heap.size,fl [[.int .u32 c.nx],[.slice x.ao x.no x.co],[.int .i64 c.tn],[.int .u32 c.dl],[.slice x.ah x.nh x.ch]],26⟩,⟨g6,fl [[.int .u32 s.n],[.string s.s]],59⟩] u3:=hB_
  clear hB_
  clear hbt_
  simp only [nrm]
  refine wpList_nil ?_
  by_cases h2:s.n≤f
  ·have hv:heldB c=false:=by
    rw [unhide hv0,unhide hs,decide_eq_false (by omega),Bool.false_and,Bool.false_and,Bool.false_and]
   replace hB:=hide hB
   go_upto_region 7 with fail
   replace hB:=unhide hB
   refine wp_region_lit ?_
   refine wpList_gen fun ops_ hops=>?_
   replace hops:=hide hops
   refine list_val (.pointer (some ⟨g6,0,none⟩)) (by rw [unhide hops]; kernel_rfl) (by kernel_rfl) ?_
   simp only [nrm]
   refine list_val (.int .u32 s.n) (by rw [unhide hops]; kernel_rfl) (exec_c32 _ (.tmp 24) rfl (g6) 0 (by kernel_rfl) s.n (seg_cell (nI  _ _) (hB.get 1 (x:=⟨g6,fl [[.int .u32 s.n],[.string s.s]],59⟩) rfl) 0 (v:=.int .u32 s.n) rfl rfl)) ?_
   simp only [nrm]
   refine list_val (.int .u32 f) (by rw [unhide hops]; kernel_rfl) (by kernel_rfl) ?_
   simp only [nrm]
   refine list_val (.bool true) (by rw [unhide hops]; kernel_rfl) (leq_32 _ (.tmp 25) (.tmp 26) s.n f true rfl (by kernel_rfl) (by kernel_rfl) (decide_eq_true h2)) ?_
   simp only [nrm]
   refine list_val (.bool true) (by rw [unhide hops]; kernel_rfl) (by kernel_rfl) ?_
   simp only [nrm]
   refine list_off (by rw [unhide hops]; kernel_rfl) ?_
   simp only [nrm]
   refine list_off (by rw [unhide hops]; kernel_rfl) ?_
   simp only [nrm]
   refine list_off (by rw [unhide hops]; kernel_rfl) ?_
   simp only [nrm]
   refine list_off (by rw [unhide hops]; kernel_rfl) ?_
   simp only [nrm]
   refine list_val (.bool true) (by rw [unhide hops]; kernel_rfl) (by kernel_rfl) ?_
   simp only [nrm]
   refine list_val (.bool true) (by rw [unhide hops]; kernel_rfl) (by kernel_rfl) ?_
   simp only [nrm]
   refine list_off (by rw [unhide hops]; kernel_rfl) ?_
   simp only [nrm]
   refine list_off (by rw [unhide hops]; kernel_rfl) ?_
   simp only [nrm]
   refine list_off (by rw [unhide hops]; kernel_rfl) ?_
   simp only [nrm]
   refine list_off (by rw [unhide hops]; kernel_rfl) ?_
   simp only [nrm]
   refine list_val (.bool true) (by rw [unhide hops]; kernel_rfl) (by kernel_rfl) ?_
   simp only [nrm]
   refine wpList_nil ?_
   replace hB:=hide hB
   go_wp2_with fail
   replace hB:=unhide hB
   rw [unhide hT]
   exact (⟨by rw [hv] <;> rfl,hB.gr⟩)
  by_cases h3:e≤s.n
  ·have hv:heldB c=false:=by
    rw [unhide hv0,unhide hs,decide_eq_false (show ¬ s.n<e by omega),Bool.and_false,Bool.false_and,Bool.false_and]
   replace hB:=hide hB
   go_upto_region 7 with fail
   replace hB:=unhide hB
   refine wp_region_lit ?_
   refine wpList_gen fun ops_ hops=>?_
   replace hops:=hide hops
   refine list_val (.pointer (some ⟨g6,0,none⟩)) (by rw [unhide hops]; kernel_rfl) (by kernel_rfl) ?_
   simp only [nrm]
   refine list_val (.int .u32 s.n) (by rw [unhide hops]; kernel_rfl) (exec_c32 _ (.tmp 24) rfl (g6) 0 (by kernel_rfl) s.n (seg_cell (nI  _ _) (hB.get 1 (x:=⟨g6,fl [[.int .u32 s.n],[.string s.s]],59⟩) rfl) 0 (v:=.int .u32 s.n) rfl rfl)) ?_
   simp only [nrm]
   refine list_val (.int .u32 f) (by rw [unhide hops]; kernel_rfl) (by kernel_rfl) ?_
   simp only [nrm]
   refine list_val (.bool false) (by rw [unhide hops]; kernel_rfl) (leq_32 _ (.tmp 25) (.tmp 26) s.n f false rfl (by kernel_rfl) (by kernel_rfl) (decide_eq_false h2)) ?_
   simp only [nrm]
   refine list_val (.bool false) (by rw [unhide hops]; kernel_rfl) (by kernel_rfl) ?_
   simp only [nrm]
   refine list_val (.pointer (some ⟨g6,0,none⟩)) (by rw [unhide hops]; kernel_rfl) (by kernel_rfl) ?_
   simp only [nrm]
   refine list_val (.int .u32 s.n) (by rw [unhide hops]; kernel_rfl) (exec_c32 _ (.tmp 29) rfl (g6) 0 (by kernel_rfl) s.n (seg_cell (nI  _ _) (hB.get 1 (x:=⟨g6,fl [[.int .u32 s.n],[.string s.s]],59⟩) rfl) 0 (v:=.int .u32 s.n) rfl rfl)) ?_
   simp only [nrm]
   refine list_val (.int .u32 e) (by rw [unhide hops]; kernel_rfl) (by kernel_rfl) ?_
   simp only [nrm]
   refine list_val (.bool true) (by rw [unhide hops]; kernel_rfl) (geq_32 _ (.tmp 30) (.tmp 31) s.n e true rfl (by kernel_rfl) (by kernel_rfl) (decide_eq_true h3)) ?_
   simp only [nrm]
   refine list_val (.bool true) (by rw [unhide hops]; kernel_rfl) (by kernel_rfl) ?_
   simp only [nrm]
   refine list_val (.bool true) (by rw [unhide hops]; kernel_rfl) (by kernel_rfl) ?_
   simp only [nrm]
   refine list_off (by rw [unhide hops]; kernel_rfl) ?_
   simp only [nrm]
   refine list_off (by rw [unhide hops]; kernel_rfl) ?_
   simp only [nrm]
   refine list_off (by rw [unhide hops]; kernel_rfl) ?_
   simp only [nrm]
   refine list_off (by rw [unhide hops]; kernel_rfl) ?_
   simp only [nrm]
   refine list_val (.bool true) (by rw [unhide hops]; kernel_rfl) (by kernel_rfl) ?_
   simp only [nrm]
   refine wpList_nil ?_
   replace hB:=hide hB
   go_wp2_with fail
   replace hB:=unhide hB
   rw [unhide hT]
   exact (⟨by rw [hv] <;> rfl,hB.gr⟩)
  by_cases h4:szB s.s=true
  ·have hs2:Hid (rises c.dl e c.H=rises s.n e (c.H.drop (j+1))):=by
    rw [unhide hs,decide_eq_true (by omega),decide_eq_true (by omega),h4,Bool.true_and,Bool.true_and,Bool.true_and]
    rfl
   replace hB:=hide hB
   go_upto_region 7 with fail
   replace hB:=unhide hB
   refine wp_region_lit ?_
   refine wpList_gen fun ops_ hops=>?_
   replace hops:=hide hops
   refine list_val (.pointer (some ⟨g6,0,none⟩)) (by rw [unhide hops]; kernel_rfl) (by kernel_rfl) ?_
   simp only [nrm]
   refine list_val (.int .u32 s.n) (by rw [unhide hops]; kernel_rfl) (exec_c32 _ (.tmp 24) rfl (g6) 0 (by kernel_rfl) s.n (seg_cell (nI  _ _) (hB.get 1 (x:=⟨g6,fl [[.int .u32 s.n],[.string s.s]],59⟩) rfl) 0 (v:=.int .u32 s.n) rfl rfl)) ?_
   simp only [nrm]
   refine list_val (.int .u32 f) (by rw [unhide hops]; kernel_rfl) (by kernel_rfl) ?_
   simp only [nrm]
   refine list_val (.bool false) (by rw [unhide hops]; kernel_rfl) (leq_32 _ (.tmp 25) (.tmp 26) s.n f false rfl (by kernel_rfl) (by kernel_rfl) (decide_eq_false h2)) ?_
   simp only [nrm]
   refine list_val (.bool false) (by rw [unhide hops]; kernel_rfl) (by kernel_rfl) ?_
   simp only [nrm]
   refine list_val (.pointer (some ⟨g6,0,none⟩)) (by rw [unhide hops]; kernel_rfl) (by kernel_rfl) ?_
   simp only [nrm]
   refine list_val (.int .u32 s.n) (by rw [unhide hops]; kernel_rfl) (exec_c32 _ (.tmp 29) rfl (g6) 0 (by kernel_rfl) s.n (seg_cell (nI  _ _) (hB.get 1 (x:=⟨g6,fl [[.int .u32 s.n],[.string s.s]],59⟩) rfl) 0 (v:=.int .u32 s.n) rfl rfl)) ?_
   simp only [nrm]
   refine list_val (.int .u32 e) (by rw [unhide hops]; kernel_rfl) (by kernel_rfl) ?_
   simp only [nrm]
   refine list_val (.bool false) (by rw [unhide hops]; kernel_rfl) (geq_32 _ (.tmp 30) (.tmp 31) s.n e false rfl (by kernel_rfl) (by kernel_rfl) (decide_eq_false h3)) ?_
   simp only [nrm]
   refine list_val (.bool false) (by rw [unhide hops]; kernel_rfl) (by kernel_rfl) ?_
   simp only [nrm]
   refine list_val (.bool false) (by rw [unhide hops]; kernel_rfl) (by kernel_rfl) ?_
   simp only [nrm]
   refine list_val (.pointer (some ⟨g6,1,none⟩)) (by rw [unhide hops]; kernel_rfl) (by kernel_rfl) ?_
   simp only [nrm]
   refine list_val (.string s.s) (by rw [unhide hops]; kernel_rfl) (exec_cst _ (.tmp 35) rfl (g6) 1 (by kernel_rfl) s.s (seg_cell (nI  _ _) (hB.get 1 (x:=⟨g6,fl [[.int .u32 s.n],[.string s.s]],59⟩) rfl) 1 (v:=.string s.s) rfl rfl)) ?_
   simp only [nrm]
   refine list_call 25 #[.string s.s] (by rw [unhide hops]; kernel_rfl) (by kernel_rfl) (((show Calls Try.prog 25 #[.string s.s] u3 (Vl (.bool true) u3) from h4 ▸ sized_ok s.s (unhide hok).2 u3)).mono ?_)
   rintro r_ u4 ⟨rfl,hg⟩
   replace hB:=hB.more hg
   clear hg
   refine ⟨_,rfl,?_⟩
   simp only [nrm]
   refine list_val (.bool false) (by rw [unhide hops]; kernel_rfl) (by kernel_rfl) ?_
   simp only [nrm]
   refine list_val (.bool false) (by rw [unhide hops]; kernel_rfl) (by kernel_rfl) ?_
   simp only [nrm]
   refine wpList_nil ?_
   replace hB:=hide hB
   go_upto_region 9 with fail
   replace hB:=unhide hB
   refine wp_region_lit ?_
   refine lvk (.pointer (some ⟨g6,0,none⟩)) ?_
   simp only [nrm]
   refine list_val (.int .u32 s.n) (by kernel_rfl) (exec_c32 _ (.tmp 40) rfl (g6) 0 (by kernel_rfl) s.n (seg_cell (nI  _ _) (hB.get 1 (x:=⟨g6,fl [[.int .u32 s.n],[.string s.s]],59⟩) rfl) 0 (v:=.int .u32 s.n) rfl rfl)) ?_
   simp only [nrm]
   (refine wpList_step fun K hK=>?_; replace hK:=hide hK; go_simp; refine unhide hK _ _ ?_; clear hK K)
   refine wpList_nil ?_
   replace hB:=Bl.left (L:=[⟨w.heap.size,fl [[.int .u32 c.nx],[.slice x.ao x.no x.co],[.int .i64 c.tn],[.int .u32 c.dl],[.slice x.ah x.nh x.ch]],26⟩]) (M:=[⟨g6,fl [[.int .u32 s.n],[.string s.s]],59⟩]) hB
   have jw:IntKind.i64.wrap ((j:Int)+1)=(j:Int)+1:=by rw [IntKind.wrap_i64]; omega
   replace hB:=hide hB
   clear hs hr hsj ha hok h2 h3 h4
   go_wp2_with fail
   go_roundw
   case rel=>exact ⟨j+1,s.n,by omega,by simp,rfl,hs2,hB⟩
   case measure=>simp [intOf]; omega
  ·replace h4:szB s.s=false:=Bool.eq_false_iff.2 h4
   have hv:heldB c=false:=by
    rw [unhide hv0,unhide hs,h4,Bool.and_false,Bool.false_and]
   replace hB:=hide hB
   go_upto_region 7 with fail
   replace hB:=unhide hB
   refine wp_region_lit ?_
   refine wpList_gen fun ops_ hops=>?_
   replace hops:=hide hops
   refine list_val (.pointer (some ⟨g6,0,none⟩)) (by rw [unhide hops]; kernel_rfl) (by kernel_rfl) ?_
   simp only [nrm]
   refine list_val (.int .u32 s.n) (by rw [unhide hops]; kernel_rfl) (exec_c32 _ (.tmp 24) rfl (g6) 0 (by kernel_rfl) s.n (seg_cell (nI  _ _) (hB.get 1 (x:=⟨g6,fl [[.int .u32 s.n],[.string s.s]],59⟩) rfl) 0 (v:=.int .u32 s.n) rfl rfl)) ?_
   simp only [nrm]
   refine list_val (.int .u32 f) (by rw [unhide hops]; kernel_rfl) (by kernel_rfl) ?_
   simp only [nrm]
   refine list_val (.bool false) (by rw [unhide hops]; kernel_rfl) (leq_32 _ (.tmp 25) (.tmp 26) s.n f false rfl (by kernel_rfl) (by kernel_rfl) (decide_eq_false h2)) ?_
   simp only [nrm]
   refine list_val (.bool false) (by rw [unhide hops]; kernel_rfl) (by kernel_rfl) ?_
   simp only [nrm]
   refine list_val (.pointer (some ⟨g6,0,none⟩)) (by rw [unhide hops]; kernel_rfl) (by kernel_rfl) ?_
   simp only [nrm]
   refine list_val (.int .u32 s.n) (by rw [unhide hops]; kernel_rfl) (exec_c32 _ (.tmp 29) rfl (g6) 0 (by kernel_rfl) s.n (seg_cell (nI  _ _) (hB.get 1 (x:=⟨g6,fl [[.int .u32 s.n],[.string s.s]],59⟩) rfl) 0 (v:=.int .u32 s.n) rfl rfl)) ?_
   simp only [nrm]
   refine list_val (.int .u32 e) (by rw [unhide hops]; kernel_rfl) (by kernel_rfl) ?_
   simp only [nrm]
   refine list_val (.bool false) (by rw [unhide hops]; kernel_rfl) (geq_32 _ (.tmp 30) (.tmp 31) s.n e false rfl (by kernel_rfl) (by kernel_rfl) (decide_eq_false h3)) ?_
   simp only [nrm]
   refine list_val (.bool false) (by rw [unhide hops]; kernel_rfl) (by kernel_rfl) ?_
   simp only [nrm]
   refine list_val (.bool false) (by rw [unhide hops]; kernel_rfl) (by kernel_rfl) ?_
   simp only [nrm]
   refine list_val (.pointer (some ⟨g6,1,none⟩)) (by rw [unhide hops]; kernel_rfl) (by kernel_rfl) ?_
   simp only [nrm]
   refine list_val (.string s.s) (by rw [unhide hops]; kernel_rfl) (exec_cst _ (.tmp 35) rfl (g6) 1 (by kernel_rfl) s.s (seg_cell (nI  _ _) (hB.get 1 (x:=⟨g6,fl [[.int .u32 s.n],[.string s.s]],59⟩) rfl) 1 (v:=.string s.s) rfl rfl)) ?_
   simp only [nrm]
   refine list_call 25 #[.string s.s] (by rw [unhide hops]; kernel_rfl) (by kernel_rfl) (((show Calls Try.prog 25 #[.string s.s] u3 (Vl (.bool false) u3) from h4 ▸ sized_ok s.s (unhide hok).2 u3)).mono ?_)
   rintro r_ u4 ⟨rfl,hg⟩
   replace hB:=hB.more hg
   clear hg
   refine ⟨_,rfl,?_⟩
   simp only [nrm]
   refine list_val (.bool true) (by rw [unhide hops]; kernel_rfl) (by kernel_rfl) ?_
   simp only [nrm]
   refine list_val (.bool true) (by rw [unhide hops]; kernel_rfl) (by kernel_rfl) ?_
   simp only [nrm]
   refine wpList_nil ?_
   replace hB:=hide hB
   go_wp2_with fail
   replace hB:=unhide hB
   rw [unhide hT]
   exact (⟨by rw [hv] <;> rfl,hB.gr⟩)
 ·have jI:¬ (j:Int)<(x.nh:Int):=by omega
  have hv:heldB c=true:=by
   rw [unhide hv0,unhide hs,List.drop_eq_nil_of_le (by omega)]
   rfl
  have hg:=hide hB.gr
  clear hB hs
  go_wp2_with fail
  rw [unhide hT]
  exact ⟨by rw [hv] <;> rfl,unhide hg⟩
def chk (c:Cm):Int:=if rt c=true then 0 else 281
set_option maxHeartbeats 4000000 in
theorem check_ok (c:Cm) (x:Lc) (w:World) (hc:Cin w c x):Calls Try.prog 8 #[.agg (fl [[.int .u32 c.nx],[.slice x.ao x.no x.co],[.int .i64 c.tn],[.int .u32 c.dl],[.slice x.ah x.nh x.ch]])] w (Vl (.int .i64 (chk c)) w):=by
 obtain ⟨T,hT⟩:∃ T:Ending→World→Prop,T=(Vl (.int .i64 (chk c)) w):=⟨_,rfl⟩
 rw [← hT]
 replace hT:=hide hT
 replace hc:=hide hc
 obtain ⟨A0_,hA0_⟩:∃ S_,S_=fl [[.int .u32 c.nx],[.slice x.ao x.no x.co],[.int .i64 c.tn],[.int .u32 c.dl],[.slice x.ah x.nh x.ch]]:=⟨_,rfl⟩
 rw [← hA0_]
 replace hA0_:=hide hA0_
 go_enter Try.func8,Try.ntmps8
 go_upto_region 1 with fail
 have hB:=((Bl.nil w).new A0_ 26)
 simp only [size_alloc,List.nil_append,List.cons_append] at hB
 rw [unhide hA0_] at hB
 generalize hu_:World.alloc _ _=u0
 replace hB:Bl w [⟨w.heap.size,fl [[.int .u32 c.nx],[.slice x.ao x.no x.co],[.int .i64 c.tn],[.int .u32 c.dl],[.slice x.ah x.nh x.ch]],26⟩] u0:=by
  rw [← hu_]
  rw [unhide hA0_]
  exact hB
 clear hu_ hA0_
 by_cases h1:2147483648<c.nx
 ·have hv:chk c=281:=by
   unfold chk rt
   rw [decide_eq_false (by omega),Bool.false_and]
   rfl
  refine wp_region_lit ?_
  refine wpList_gen fun ops_ hops=>?_
  replace hops:=hide hops
  refine list_val (.pointer (some ⟨w.heap.size,0,none⟩)) (by rw [unhide hops]; kernel_rfl) (by kernel_rfl) ?_
  simp only [nrm]
  refine list_val (.int .u32 c.nx) (by rw [unhide hops]; kernel_rfl) (exec_c32 _ (.tmp 3) rfl (w.heap.size) 0 (by kernel_rfl) c.nx (seg_cell (nC  _ _ _ _ _) (hB.get 0 (x:=⟨w.heap.size,fl [[.int .u32 c.nx],[.slice x.ao x.no x.co],[.int .i64 c.tn],[.int .u32 c.dl],[.slice x.ah x.nh x.ch]],26⟩) rfl) 0 (v:=.int .u32 c.nx) rfl rfl)) ?_
  simp only [nrm]
  refine list_val (.bool true) (by rw [unhide hops]; kernel_rfl) (gtr_32 _ (.tmp 4) (.const (.int .u32 2147483648)) c.nx 2147483648 true rfl (by kernel_rfl) (by kernel_rfl) (decide_eq_true h1)) ?_
  simp only [nrm]
  refine list_val (.bool true) (by rw [unhide hops]; kernel_rfl) (by kernel_rfl) ?_
  simp only [nrm]
  refine list_off (by rw [unhide hops]; kernel_rfl) ?_
  simp only [nrm]
  refine list_off (by rw [unhide hops]; kernel_rfl) ?_
  simp only [nrm]
  refine list_off (by rw [unhide hops]; kernel_rfl) ?_
  simp only [nrm]
  refine list_val (.bool true) (by rw [unhide hops]; kernel_rfl) (by kernel_rfl) ?_
  simp only [nrm]
  refine list_val (.bool true) (by rw [unhide hops]; kernel_rfl) (by kernel_rfl) ?_
  simp only [nrm]
  refine list_off (by rw [unhide hops]; kernel_rfl) ?_
  simp only [nrm]
  refine list_off (by rw [unhide hops]; kernel_rfl) ?_
  simp only [nrm]
  refine list_off (by rw [unhide hops]; kernel_rfl) ?_
  simp only [nrm]
  refine list_val (.bool true) (by rw [unhide hops]; kernel_rfl) (by kernel_rfl) ?_
  simp only [nrm]
  refine list_val (.bool true) (by rw [unhide hops]; kernel_rfl) (by kernel_rfl) ?_
  simp only [nrm]
  refine list_off (by rw [unhide hops]; kernel_rfl) ?_
  simp only [nrm]
  refine list_off (by rw [unhide hops]; kernel_rfl) ?_
  simp only [nrm]
  refine list_off (by rw [unhide hops]; kernel_rfl) ?_
  simp only [nrm]
  refine list_val (.bool true) (by rw [unhide hops]; kernel_rfl) (by kernel_rfl) ?_
  simp only [nrm]
  refine wpList_nil ?_
  replace hB:=hide hB
  go_wp2_with fail
  replace hB:=unhide hB
  rw [unhide hT]
  exact (⟨by rw [hv] <;> rfl,hB.gr⟩)
 by_cases h2:2147483648<c.dl
 ·have hv:chk c=281:=by
   unfold chk rt
   rw [decide_eq_false (by omega),Bool.false_and]
   rfl
  refine wp_region_lit ?_
  refine wpList_gen fun ops_ hops=>?_
  replace hops:=hide hops
  refine list_val (.pointer (some ⟨w.heap.size,0,none⟩)) (by rw [unhide hops]; kernel_rfl) (by kernel_rfl) ?_
  simp only [nrm]
  refine list_val (.int .u32 c.nx) (by rw [unhide hops]; kernel_rfl) (exec_c32 _ (.tmp 3) rfl (w.heap.size) 0 (by kernel_rfl) c.nx (seg_cell (nC  _ _ _ _ _) (hB.get 0 (x:=⟨w.heap.size,fl [[.int .u32 c.nx],[.slice x.ao x.no x.co],[.int .i64 c.tn],[.int .u32 c.dl],[.slice x.ah x.nh x.ch]],26⟩) rfl) 0 (v:=.int .u32 c.nx) rfl rfl)) ?_
  simp only [nrm]
  refine list_val (.bool false) (by rw [unhide hops]; kernel_rfl) (gtr_32 _ (.tmp 4) (.const (.int .u32 2147483648)) c.nx 2147483648 false rfl (by kernel_rfl) (by kernel_rfl) (decide_eq_false h1)) ?_
  simp only [nrm]
  refine list_val (.bool false) (by rw [unhide hops]; kernel_rfl) (by kernel_rfl) ?_
  simp only [nrm]
  refine list_val (.pointer (some ⟨w.heap.size,3,none⟩)) (by rw [unhide hops]; kernel_rfl) (by kernel_rfl) ?_
  simp only [nrm]
  refine list_val (.int .u32 c.dl) (by rw [unhide hops]; kernel_rfl) (exec_c32 _ (.tmp 7) rfl (w.heap.size) 3 (by kernel_rfl) c.dl (seg_cell (nC  _ _ _ _ _) (hB.get 0 (x:=⟨w.heap.size,fl [[.int .u32 c.nx],[.slice x.ao x.no x.co],[.int .i64 c.tn],[.int .u32 c.dl],[.slice x.ah x.nh x.ch]],26⟩) rfl) 3 (v:=.int .u32 c.dl) rfl rfl)) ?_
  simp only [nrm]
  refine list_val (.bool true) (by rw [unhide hops]; kernel_rfl) (gtr_32 _ (.tmp 8) (.const (.int .u32 2147483648)) c.dl 2147483648 true rfl (by kernel_rfl) (by kernel_rfl) (decide_eq_true h2)) ?_
  simp only [nrm]
  refine list_val (.bool true) (by rw [unhide hops]; kernel_rfl) (by kernel_rfl) ?_
  simp only [nrm]
  refine list_val (.bool true) (by rw [unhide hops]; kernel_rfl) (by kernel_rfl) ?_
  simp only [nrm]
  refine list_off (by rw [unhide hops]; kernel_rfl) ?_
  simp only [nrm]
  refine list_off (by rw [unhide hops]; kernel_rfl) ?_
  simp only [nrm]
  refine list_off (by rw [unhide hops]; kernel_rfl) ?_
  simp only [nrm]
  refine list_val (.bool true) (by rw [unhide hops]; kernel_rfl) (by kernel_rfl) ?_
  simp only [nrm]
  refine list_val (.bool true) (by rw [unhide hops]; kernel_rfl) (by kernel_rfl) ?_
  simp only [nrm]
  refine list_off (by rw [unhide hops]; kernel_rfl) ?_
  simp only [nrm]
  refine list_off (by rw [unhide hops]; kernel_rfl) ?_
  simp only [nrm]
  refine list_off (by rw [unhide hops]; kernel_rfl) ?_
  simp only [nrm]
  refine list_val (.bool true) (by rw [unhide hops]; kernel_rfl) (by kernel_rfl) ?_
  simp only [nrm]
  refine wpList_nil ?_
  replace hB:=hide hB
  go_wp2_with fail
  replace hB:=unhide hB
  rw [unhide hT]
  exact (⟨by rw [hv] <;> rfl,hB.gr⟩)
 have hd2:c.dl≤2147483648:=by omega
 by_cases h3:outB c=true
 ·by_cases h4:heldB c=true
  ·have hv:chk c=0:=by
    unfold chk rt
    rw [decide_eq_true (by omega),h3,h4]
    rfl
   refine wp_region_lit ?_
   refine wpList_gen fun ops_ hops=>?_
   replace hops:=hide hops
   refine list_val (.pointer (some ⟨w.heap.size,0,none⟩)) (by rw [unhide hops]; kernel_rfl) (by kernel_rfl) ?_
   simp only [nrm]
   refine list_val (.int .u32 c.nx) (by rw [unhide hops]; kernel_rfl) (exec_c32 _ (.tmp 3) rfl (w.heap.size) 0 (by kernel_rfl) c.nx (seg_cell (nC  _ _ _ _ _) (hB.get 0 (x:=⟨w.heap.size,fl [[.int .u32 c.nx],[.slice x.ao x.no x.co],[.int .i64 c.tn],[.int .u32 c.dl],[.slice x.ah x.nh x.ch]],26⟩) rfl) 0 (v:=.int .u32 c.nx) rfl rfl)) ?_
   simp only [nrm]
   refine list_val (.bool false) (by rw [unhide hops]; kernel_rfl) (gtr_32 _ (.tmp 4) (.const (.int .u32 2147483648)) c.nx 2147483648 false rfl (by kernel_rfl) (by kernel_rfl) (decide_eq_false h1)) ?_
   simp only [nrm]
   refine list_val (.bool false) (by rw [unhide hops]; kernel_rfl) (by kernel_rfl) ?_
   simp only [nrm]
   refine list_val (.pointer (some ⟨w.heap.size,3,none⟩)) (by rw [unhide hops]; kernel_rfl) (by kernel_rfl) ?_
   simp only [nrm]
   refine list_val (.int .u32 c.dl) (by rw [unhide hops]; kernel_rfl) (exec_c32 _ (.tmp 7) rfl (w.heap.size) 3 (by kernel_rfl) c.dl (seg_cell (nC  _ _ _ _ _) (hB.get 0 (x:=⟨w.heap.size,fl [[.int .u32 c.nx],[.slice x.ao x.no x.co],[.int .i64 c.tn],[.int .u32 c.dl],[.slice x.ah x.nh x.ch]],26⟩) rfl) 3 (v:=.int .u32 c.dl) rfl rfl)) ?_
   simp only [nrm]
   refine list_val (.bool false) (by rw [unhide hops]; kernel_rfl) (gtr_32 _ (.tmp 8) (.const (.int .u32 2147483648)) c.dl 2147483648 false rfl (by kernel_rfl) (by kernel_rfl) (decide_eq_false h2)) ?_
   simp only [nrm]
   refine list_val (.bool false) (by rw [unhide hops]; kernel_rfl) (by kernel_rfl) ?_
   simp only [nrm]
   refine list_val (.bool false) (by rw [unhide hops]; kernel_rfl) (by kernel_rfl) ?_
   simp only [nrm]
   refine list_val (.agg (fl [[.int .u32 c.nx],[.slice x.ao x.no x.co],[.int .i64 c.tn],[.int .u32 c.dl],[.slice x.ah x.nh x.ch]])) (by rw [unhide hops]; kernel_rfl) (exec_sw _ 26 (.tmp 1) rfl (w.heap.size) (by kernel_rfl) (hB.get 0 (x:=⟨w.heap.size,fl [[.int .u32 c.nx],[.slice x.ao x.no x.co],[.int .i64 c.tn],[.int .u32 c.dl],[.slice x.ah x.nh x.ch]],26⟩) rfl) NC (nC  _ _ _ _ _) Try.underlying26 rfl (by kernel_rfl)) ?_
   simp only [nrm]
   refine list_call 16 #[.agg (fl [[.int .u32 c.nx],[.slice x.ao x.no x.co],[.int .i64 c.tn],[.int .u32 c.dl],[.slice x.ah x.nh x.ch]])] (by rw [unhide hops]; kernel_rfl) (by kernel_rfl) (((show Calls Try.prog 16 #[.agg (fl [[.int .u32 c.nx],[.slice x.ao x.no x.co],[.int .i64 c.tn],[.int .u32 c.dl],[.slice x.ah x.nh x.ch]])] u0 (Vl (.bool true) u0) from h3 ▸ out_ok c x u0 ((unhide hc).gr hB.gr))).mono ?_)
   rintro r_ u1 ⟨rfl,hg⟩
   replace hB:=hB.more hg
   clear hg
   refine ⟨_,rfl,?_⟩
   simp only [nrm]
   refine list_val (.bool false) (by rw [unhide hops]; kernel_rfl) (by kernel_rfl) ?_
   simp only [nrm]
   refine list_val (.bool false) (by rw [unhide hops]; kernel_rfl) (by kernel_rfl) ?_
   simp only [nrm]
   refine list_val (.bool false) (by rw [unhide hops]; kernel_rfl) (by kernel_rfl) ?_
   simp only [nrm]
   refine list_val (.agg (fl [[.int .u32 c.nx],[.slice x.ao x.no x.co],[.int .i64 c.tn],[.int .u32 c.dl],[.slice x.ah x.nh x.ch]])) (by rw [unhide hops]; kernel_rfl) (exec_sw _ 26 (.tmp 1) rfl (w.heap.size) (by kernel_rfl) (hB.get 0 (x:=⟨w.heap.size,fl [[.int .u32 c.nx],[.slice x.ao x.no x.co],[.int .i64 c.tn],[.int .u32 c.dl],[.slice x.ah x.nh x.ch]],26⟩) rfl) NC (nC  _ _ _ _ _) Try.underlying26 rfl (by kernel_rfl)) ?_
   simp only [nrm]
   refine list_call 17 #[.agg (fl [[.int .u32 c.nx],[.slice x.ao x.no x.co],[.int .i64 c.tn],[.int .u32 c.dl],[.slice x.ah x.nh x.ch]])] (by rw [unhide hops]; kernel_rfl) (by kernel_rfl) (((show Calls Try.prog 17 #[.agg (fl [[.int .u32 c.nx],[.slice x.ao x.no x.co],[.int .i64 c.tn],[.int .u32 c.dl],[.slice x.ah x.nh x.ch]])] u1 (Vl (.bool true) u1) from h4 ▸ held_ok c x u1 ((unhide hc).gr hB.gr) hd2)).mono ?_)
   rintro r_ u2 ⟨rfl,hg⟩
   replace hB:=hB.more hg
   clear hg
   refine ⟨_,rfl,?_⟩
   simp only [nrm]
   refine list_val (.bool false) (by rw [unhide hops]; kernel_rfl) (by kernel_rfl) ?_
   simp only [nrm]
   refine list_val (.bool false) (by rw [unhide hops]; kernel_rfl) (by kernel_rfl) ?_
   simp only [nrm]
   refine wpList_nil ?_
   replace hB:=hide hB
   go_wp2_with fail
   replace hB:=unhide hB
   rw [unhide hT]
   exact (⟨by rw [hv] <;> rfl,hB.gr⟩)
  ·replace h4:heldB c=false:=Bool.eq_false_iff.2 h4
   have hv:chk c=281:=by
    unfold chk rt
    rw [decide_eq_true (by omega),h3,h4]
    rfl
   refine wp_region_lit ?_
   refine wpList_gen fun ops_ hops=>?_
   replace hops:=hide hops
   refine list_val (.pointer (some ⟨w.heap.size,0,none⟩)) (by rw [unhide hops]; kernel_rfl) (by kernel_rfl) ?_
   simp only [nrm]
   refine list_val (.int .u32 c.nx) (by rw [unhide hops]; kernel_rfl) (exec_c32 _ (.tmp 3) rfl (w.heap.size) 0 (by kernel_rfl) c.nx (seg_cell (nC  _ _ _ _ _) (hB.get 0 (x:=⟨w.heap.size,fl [[.int .u32 c.nx],[.slice x.ao x.no x.co],[.int .i64 c.tn],[.int .u32 c.dl],[.slice x.ah x.nh x.ch]],26⟩) rfl) 0 (v:=.int .u32 c.nx) rfl rfl)) ?_
   simp only [nrm]
   refine list_val (.bool false) (by rw [unhide hops]; kernel_rfl) (gtr_32 _ (.tmp 4) (.const (.int .u32 2147483648)) c.nx 2147483648 false rfl (by kernel_rfl) (by kernel_rfl) (decide_eq_false h1)) ?_
   simp only [nrm]
   refine list_val (.bool false) (by rw [unhide hops]; kernel_rfl) (by kernel_rfl) ?_
   simp only [nrm]
   refine list_val (.pointer (some ⟨w.heap.size,3,none⟩)) (by rw [unhide hops]; kernel_rfl) (by kernel_rfl) ?_
   simp only [nrm]
   refine list_val (.int .u32 c.dl) (by rw [unhide hops]; kernel_rfl) (exec_c32 _ (.tmp 7) rfl (w.heap.size) 3 (by kernel_rfl) c.dl (seg_cell (nC  _ _ _ _ _) (hB.get 0 (x:=⟨w.heap.size,fl [[.int .u32 c.nx],[.slice x.ao x.no x.co],[.int .i64 c.tn],[.int .u32 c.dl],[.slice x.ah x.nh x.ch]],26⟩) rfl) 3 (v:=.int .u32 c.dl) rfl rfl)) ?_
   simp only [nrm]
   refine list_val (.bool false) (by rw [unhide hops]; kernel_rfl) (gtr_32 _ (.tmp 8) (.const (.int .u32 2147483648)) c.dl 2147483648 false rfl (by kernel_rfl) (by kernel_rfl) (decide_eq_false h2)) ?_
   simp only [nrm]
   refine list_val (.bool false) (by rw [unhide hops]; kernel_rfl) (by kernel_rfl) ?_
   simp only [nrm]
   refine list_val (.bool false) (by rw [unhide hops]; kernel_rfl) (by kernel_rfl) ?_
   simp only [nrm]
   refine list_val (.agg (fl [[.int .u32 c.nx],[.slice x.ao x.no x.co],[.int .i64 c.tn],[.int .u32 c.dl],[.slice x.ah x.nh x.ch]])) (by rw [unhide hops]; kernel_rfl) (exec_sw _ 26 (.tmp 1) rfl (w.heap.size) (by kernel_rfl) (hB.get 0 (x:=⟨w.heap.size,fl [[.int .u32 c.nx],[.slice x.ao x.no x.co],[.int .i64 c.tn],[.int .u32 c.dl],[.slice x.ah x.nh x.ch]],26⟩) rfl) NC (nC  _ _ _ _ _) Try.underlying26 rfl (by kernel_rfl)) ?_
   simp only [nrm]
   refine list_call 16 #[.agg (fl [[.int .u32 c.nx],[.slice x.ao x.no x.co],[.int .i64 c.tn],[.int .u32 c.dl],[.slice x.ah x.nh x.ch]])] (by rw [unhide hops]; kernel_rfl) (by kernel_rfl) (((show Calls Try.prog 16 #[.agg (fl [[.int .u32 c.nx],[.slice x.ao x.no x.co],[.int .i64 c.tn],[.int .u32 c.dl],[.slice x.ah x.nh x.ch]])] u0 (Vl (.bool true) u0) from h3 ▸ out_ok c x u0 ((unhide hc).gr hB.gr))).mono ?_)
   rintro r_ u1 ⟨rfl,hg⟩
   replace hB:=hB.more hg
   clear hg
   refine ⟨_,rfl,?_⟩
   simp only [nrm]
   refine list_val (.bool false) (by rw [unhide hops]; kernel_rfl) (by kernel_rfl) ?_
   simp only [nrm]
   refine list_val (.bool false) (by rw [unhide hops]; kernel_rfl) (by kernel_rfl) ?_
   simp only [nrm]
   refine list_val (.bool false) (by rw [unhide hops]; kernel_rfl) (by kernel_rfl) ?_
   simp only [nrm]
   refine list_val (.agg (fl [[.int .u32 c.nx],[.slice x.ao x.no x.co],[.int .i64 c.tn],[.int .u32 c.dl],[.slice x.ah x.nh x.ch]])) (by rw [unhide hops]; kernel_rfl) (exec_sw _ 26 (.tmp 1) rfl (w.heap.size) (by kernel_rfl) (hB.get 0 (x:=⟨w.heap.size,fl [[.int .u32 c.nx],[.slice x.ao x.no x.co],[.int .i64 c.tn],[.int .u32 c.dl],[.slice x.ah x.nh x.ch]],26⟩) rfl) NC (nC  _ _ _ _ _) Try.underlying26 rfl (by kernel_rfl)) ?_
   simp only [nrm]
   refine list_call 17 #[.agg (fl [[.int .u32 c.nx],[.slice x.ao x.no x.co],[.int .i64 c.tn],[.int .u32 c.dl],[.slice x.ah x.nh x.ch]])] (by rw [unhide hops]; kernel_rfl) (by kernel_rfl) (((show Calls Try.prog 17 #[.agg (fl [[.int .u32 c.nx],[.slice x.ao x.no x.co],[.int .i64 c.tn],[.int .u32 c.dl],[.slice x.ah x.nh x.ch]])] u1 (Vl (.bool false) u1) from h4 ▸ held_ok c x u1 ((unhide hc).gr hB.gr) hd2)).mono ?_)
   rintro r_ u2 ⟨rfl,hg⟩
   replace hB:=hB.more hg
   clear hg
   refine ⟨_,rfl,?_⟩
   simp only [nrm]
   refine list_val (.bool true) (by rw [unhide hops]; kernel_rfl) (by kernel_rfl) ?_
   simp only [nrm]
   refine list_val (.bool true) (by rw [unhide hops]; kernel_rfl) (by kernel_rfl) ?_
   simp only [nrm]
   refine wpList_nil ?_
   replace hB:=hide hB
   go_wp2_with fail
   replace hB:=unhide hB
   rw [unhide hT]
   exact (⟨by rw [hv] <;> rfl,hB.gr⟩)
 ·replace h3:outB c=false:=Bool.eq_false_iff.2 h3
  have hv:chk c=281:=by
   unfold chk rt
   rw [decide_eq_true (by omega),h3]
   rfl
  refine wp_region_lit ?_
  refine wpList_gen fun ops_ hops=>?_
  replace hops:=hide hops
  refine list_val (.pointer (some ⟨w.heap.size,0,none⟩)) (by rw [unhide hops]; kernel_rfl) (by kernel_rfl) ?_
  simp only [nrm]
  refine list_val (.int .u32 c.nx) (by rw [unhide hops]; kernel_rfl) (exec_c32 _ (.tmp 3) rfl (w.heap.size) 0 (by kernel_rfl) c.nx (seg_cell (nC  _ _ _ _ _) (hB.get 0 (x:=⟨w.heap.size,fl [[.int .u32 c.nx],[.slice x.ao x.no x.co],[.int .i64 c.tn],[.int .u32 c.dl],[.slice x.ah x.nh x.ch]],26⟩) rfl) 0 (v:=.int .u32 c.nx) rfl rfl)) ?_
  simp only [nrm]
  refine list_val (.bool false) (by rw [unhide hops]; kernel_rfl) (gtr_32 _ (.tmp 4) (.const (.int .u32 2147483648)) c.nx 2147483648 false rfl (by kernel_rfl) (by kernel_rfl) (decide_eq_false h1)) ?_
  simp only [nrm]
  refine list_val (.bool false) (by rw [unhide hops]; kernel_rfl) (by kernel_rfl) ?_
  simp only [nrm]
  refine list_val (.pointer (some ⟨w.heap.size,3,none⟩)) (by rw [unhide hops]; kernel_rfl) (by kernel_rfl) ?_
  simp only [nrm]
  refine list_val (.int .u32 c.dl) (by rw [unhide hops]; kernel_rfl) (exec_c32 _ (.tmp 7) rfl (w.heap.size) 3 (by kernel_rfl) c.dl (seg_cell (nC  _ _ _ _ _) (hB.get 0 (x:=⟨w.heap.size,fl [[.int .u32 c.nx],[.slice x.ao x.no x.co],[.int .i64 c.tn],[.int .u32 c.dl],[.slice x.ah x.nh x.ch]],26⟩) rfl) 3 (v:=.int .u32 c.dl) rfl rfl)) ?_
  simp only [nrm]
  refine list_val (.bool false) (by rw [unhide hops]; kernel_rfl) (gtr_32 _ (.tmp 8) (.const (.int .u32 2147483648)) c.dl 2147483648 false rfl (by kernel_rfl) (by kernel_rfl) (decide_eq_false h2)) ?_
  simp only [nrm]
  refine list_val (.bool false) (by rw [unhide hops]; kernel_rfl) (by kernel_rfl) ?_
  simp only [nrm]
  refine list_val (.bool false) (by rw [unhide hops]; kernel_rfl) (by kernel_rfl) ?_
  simp only [nrm]
  refine list_val (.agg (fl [[.int .u32 c.nx],[.slice x.ao x.no x.co],[.int .i64 c.tn],[.int .u32 c.dl],[.slice x.ah x.nh x.ch]])) (by rw [unhide hops]; kernel_rfl) (exec_sw _ 26 (.tmp 1) rfl (w.heap.size) (by kernel_rfl) (hB.get 0 (x:=⟨w.heap.size,fl [[.int .u32 c.nx],[.slice x.ao x.no x.co],[.int .i64 c.tn],[.int .u32 c.dl],[.slice x.ah x.nh x.ch]],26⟩) rfl) NC (nC  _ _ _ _ _) Try.underlying26 rfl (by kernel_rfl)) ?_
  simp only [nrm]
  refine list_call 16 #[.agg (fl [[.int .u32 c.nx],[.slice x.ao x.no x.co],[.int .i64 c.tn],[.int .u32 c.dl],[.slice x.ah x.nh x.ch]])] (by rw [unhide hops]; kernel_rfl) (by kernel_rfl) (((show Calls Try.prog 16 #[.agg (fl [[.int .u32 c.nx],[.slice x.ao x.no x.co],[.int .i64 c.tn],[.int .u32 c.dl],[.slice x.ah x.nh x.ch]])] u0 (Vl (.bool false) u0) from h3 ▸ out_ok c x u0 ((unhide hc).gr hB.gr))).mono ?_)
  rintro r_ u1 ⟨rfl,hg⟩
  replace hB:=hB.more hg
  clear hg
  refine ⟨_,rfl,?_⟩
  simp only [nrm]
  refine list_val (.bool true) (by rw [unhide hops]; kernel_rfl) (by kernel_rfl) ?_
  simp only [nrm]
  refine list_val (.bool true) (by rw [unhide hops]; kernel_rfl) (by kernel_rfl) ?_
  simp only [nrm]
  refine list_val (.bool true) (by rw [unhide hops]; kernel_rfl) (by kernel_rfl) ?_
  simp only [nrm]
  refine list_off (by rw [unhide hops]; kernel_rfl) ?_
  simp only [nrm]
  refine list_off (by rw [unhide hops]; kernel_rfl) ?_
  simp only [nrm]
  refine list_off (by rw [unhide hops]; kernel_rfl) ?_
  simp only [nrm]
  refine list_val (.bool true) (by rw [unhide hops]; kernel_rfl) (by kernel_rfl) ?_
  simp only [nrm]
  refine wpList_nil ?_
  replace hB:=hide hB
  go_wp2_with fail
  replace hB:=unhide hB
  rw [unhide hT]
  exact (⟨by rw [hv] <;> rfl,hB.gr⟩)
end Go.Proofs.Ytcefkkoombmndab
namespace Go.Proofs.Ytcefkkoombmndab
open Go.RowKit
set_option maxRecDepth 100000
set_option linter.unusedSimpArgs false
set_option linter.unusedVariables false
theorem exec_nil {a:Act} {o:Oper} (w:World) (t e:TypeId) (x:Operand) (ho:o.op=.binOp .eql t x (.const (.slice none 0 0)) t) (hu:Try.prog.underlying t=some (.slice e)) (s:Option Addr) (n c:Nat) (hx:a.eval x=.slice s n c) (hg:(eqGuard .eql t x (.const (.slice none 0 0)) (.slice s n c) (.slice none 0 0)).run Try.prog w=.ok () w):(execOp a.eval o).run Try.prog w=.ok (.value (.bool s.isNone)) w:=by
 have h:(binOp .eql t (.slice s n c) (.slice none 0 0)).run Try.prog w=.ok (.bool s.isNone) w:=Go.Lib.run_eql_slice_nil w t e s n c 0 0 hu
 have hy:a.eval (.const (.slice none 0 0))=.slice none 0 0:=rfl
 unfold execOp
 simp only [ho,hx,hy,Sem.run_bind,hg,Result.andThen_ok,h,Sem.run_pure]
theorem or_none (k:Nat) (e:TypeId) (b:Nat) (w:World):Or_ k e b w (.slice none 0 0) []:=⟨(fun r hr=>by cases hr),by simp,.inl ⟨rfl,rfl⟩⟩
theorem or_mt {k:Nat} {e:TypeId} {b g:Nat} {w:World} (h:w.heap[g]?=some (.cells #[] e (0,0))) (hb:b≤g):Or_ k e b w (.slice (some ⟨g,0,none⟩) 0 0) [] :=
 ⟨(fun r hr=>by cases hr),by simp,.inr ⟨g,0,_,rfl,hb,h,Nat.le_refl _,Nat.zero_le _,by simp,by simp⟩⟩
theorem or_grown {k k2:Nat} {e e2:TypeId} {b b2:Nat} {u u':World} {v:Value} {a:Option Addr} {n c:Nat} {R R2:List (List Value)} (h:Or_ k e b u (.slice a n c) R) (h2:Or_ k2 e2 b2 u v R2) (g:u.grownBy u' v.ownBlock) (hne:e≠e2):Or_ k e b u' (.slice a n c) R:=by
 refine or_keep h fun i hi=>?_
 obtain ⟨cur,hc⟩:=or_blk_lt h hi
 refine g.block i (lt_of_block hc) ?_
 intro e3
 replace e3:=e3.symm
 obtain ⟨a2,c2,rfl,hls⟩:=h2.lz
 cases a2 with
 | none=>cases e3
 | some ad =>
  have hb2:blkOf (some ad)=some i:=by
   have:(some ad.block:Option Nat)=some i:=e3
   exact this
  obtain ⟨cur2,hc2⟩:=or_blk_lt h2 hb2
  rw [hc] at hc2
  injection hc2 with hc2
  injection hc2 with _ e4 _
  exact hne e4
def Ow (k:Nat) (e:TypeId) (b:Nat) (w:World) (a:Option Addr) (n:Nat):Prop:=n=0∨∃ g o C,a=some ⟨g,o,none⟩∧b≤g∧w.heap[g]?=some (.cells (C:List Value).toArray e (0,0))∧o+k * n≤C.length
theorem Ow.gr {k:Nat} {e:TypeId} {b:Nat} {w v:World} {a:Option Addr} {n:Nat} (h:Ow k e b w a n) (g:Gr w v):Ow k e b v a n:=by
 rcases h with h | ⟨q,o,C,h1,h2,h3,h4⟩
 ·exact .inl h
 ·exact .inr ⟨q,o,C,h1,h2,g.blk h3,h4⟩
theorem Ow.base {k:Nat} {e:TypeId} {b c:Nat} {w:World} {a:Option Addr} {n:Nat} (h:Ow k e b w a n) (hc:c≤b):Ow k e c w a n:=by
 rcases h with h | ⟨q,o,C,h1,h2,h3,h4⟩
 ·exact .inl h
 ·exact .inr ⟨q,o,C,h1,Nat.le_trans hc h2,h3,h4⟩
theorem or_slice {k:Nat} {e:TypeId} {b:Nat} {w:World} {a:Option Addr} {n c:Nat} {R:List (List Value)} (h:Or_ k e b w (.slice a n c) R):n=R.length∧Lz k w a n c R:=by
 obtain ⟨a2,c2,e1,h2⟩:=h.lz
 injection e1 with e1 e2 e3
 subst e1 e2 e3
 exact ⟨rfl,h2⟩
theorem Or_.ow {k:Nat} {e:TypeId} {b:Nat} {w:World} {a:Option Addr} {n c:Nat} {R:List (List Value)} (h:Or_ k e b w (.slice a n c) R):Ow k e b w a n:=by
 have hl:=(or_slice h).1
 by_cases hne:R=[]
 ·left; rw [hl,hne]; rfl
 ·obtain ⟨g,c2,C,e1,h1,h2,h3,_,h5,_⟩:=Or_.some h hne
  injection e1 with e1 e2 e3
  subst e1 e3
  exact .inr ⟨g,0,C,rfl,h1,h2,by rw [h5,e2,Nat.zero_add,Nat.mul_comm]; exact Nat.mul_le_mul_right _ h3⟩
structure Owx (b:Nat) (w:World) (x:Lc):Prop where
 o:Ow 106 33 b w x.ao x.no
 h:Ow 2 59 b w x.ah x.nh
theorem Owx.gr {b:Nat} {w v:World} {x:Lc} (h:Owx b w x) (g:Gr w v):Owx b v x:=⟨h.o.gr g,h.h.gr g⟩
theorem Owx.base {b c:Nat} {w:World} {x:Lc} (h:Owx b w x) (hc:c≤b):Owx c w x:=⟨h.o.base hc,h.h.base hc⟩
structure Own (b:Nat) (w:World) (c:Cm) (x:Lc):Prop where
 o:Or_ 106 33 b w (.slice x.ao x.no x.co) (c.O.map otr)
 h:Or_ 2 59 b w (.slice x.ah x.nh x.ch) (c.H.map itr)
theorem Own.gr {b:Nat} {w v:World} {c:Cm} {x:Lc} (h:Own b w c x) (g:Gr w v):Own b v c x:=⟨h.o.gr g,h.h.gr g⟩
theorem Own.bz {b g:Nat} {w v:World} {c:Cm} {x:Lc} (h:Own b w c x) {C:Array Value} {t:TypeId} (hg:w.heap[g]?=some (.cells C t (0,0))) (m:Bt g w v) (h1:t≠33:=by decide) (h2:t≠59:=by decide):Own b v c x:=⟨or_bt h.o hg h1 m,or_bt h.h hg h2 m⟩
theorem Or_.bz {k:Nat} {e:TypeId} {b g:Nat} {w v:World} {y:Value} {R:List (List Value)} (h:Or_ k e b w y R) {C:Array Value} {t:TypeId} (hg:w.heap[g]?=Option.some (Obj.cells C t (0,0))) (m:Bt g w v) (h1:t≠e:=by decide):Or_ k e b v y R:=or_bt h hg h1 m
theorem or_far {k:Nat} {e:TypeId} {b g:Nat} {w:World} {a:Option Addr} {n c:Nat} {R:List (List Value)} (h:Or_ k e b w (.slice a n c) R) (hg:g<b):blkOf a≠some g:=by
 intro e1
 rcases h.2.2 with ⟨h1,_⟩ | ⟨q,cap,cur,h1,h2,_⟩
 ·injection h1 with h1
  rw [h1] at e1
  cases e1
 ·injection h1 with h1
  rw [h1] at e1
  have:some q=some g:=e1
  injection this with this
  omega
theorem or_new {k:Nat} {e:TypeId} {b:Nat} {w:World} {a:Option Addr} {n c:Nat} {R:List (List Value)} (h:Or_ k e b w (.slice a n c) R):blkOf a≠some w.heap.size:=by
 intro e1
 obtain ⟨cur,hc⟩:=or_blk_lt h e1
 have:=lt_of_block hc
 omega
theorem or_bk {k:Nat} {e:TypeId} {b g:Nat} {w v:World} {a:Option Addr} {n c:Nat} {R:List (List Value)} (h:Or_ k e b w (.slice a n c) R) (m:Bt g w v) (hn:blkOf a≠some g):Or_ k e b v (.slice a n c) R :=
 or_keep h fun i hi=>by
  obtain ⟨cur,hc⟩:=or_blk_lt h hi
  exact m.block i (lt_of_block hc) (fun e1=>hn (by rw [hi,e1]))
theorem Own.bkO {b g:Nat} {w v:World} {c:Cm} {x:Lc} (h:Own b w c x) {C:Array Value} (hg:w.heap[g]?=some (.cells C 33 (0,0))) (m:Bt g w v) (hn:blkOf x.ao≠some g):Own b v c x:=⟨or_bk h.o m hn,or_bt h.h hg (by decide) m⟩
theorem Own.bkI {b g:Nat} {w v:World} {c:Cm} {x:Lc} (h:Own b w c x) {C:Array Value} (hg:w.heap[g]?=some (.cells C 59 (0,0))) (m:Bt g w v) (hn:blkOf x.ah≠some g):Own b v c x:=⟨or_bt h.o hg (by decide) m,or_bk h.h m hn⟩
theorem Own.owx {b:Nat} {w:World} {c:Cm} {x:Lc} (h:Own b w c x):Owx b w x:=⟨h.o.ow,h.h.ow⟩
structure Nums (c:Cm):Prop where
 O:∀ s ∈ c.O,s.Ok
 H:∀ s ∈ c.H,s.Ok
 nx:0≤c.nx∧c.nx<4294967296
 tn : -9223372036854775808≤c.tn∧c.tn<9223372036854775808
 dl:0≤c.dl∧c.dl<4294967296
theorem Cin.nums {w:World} {c:Cm} {x:Lc} (h:Cin w c x):Nums c:=⟨h.o.1,h.h.1,h.nx,h.tn,h.dl⟩
theorem Own.cin {b:Nat} {w:World} {c:Cm} {x:Lc} (h:Own b w c x) (n:Nums c):Cin w c x:=⟨⟨n.O,(or_slice h.o).2⟩,⟨n.H,(or_slice h.h).2⟩,n.nx,n.tn,n.dl⟩
set_option maxHeartbeats 4000000 in
theorem clone_o (L:List Ot) (a:Option Addr) (n c:Nat) (hn:n≤1000) (w:World) (h:OL w a n c L):Calls Try.prog 26 #[.slice a n c] w (fun r w'=>∃ a' c',r=.returned (.slice a' n c')∧Or_ 106 33 w.heap.size w' (.slice a' n c') (L.map otr)∧Gr w w'):=by
 obtain ⟨T,hT⟩:∃ T:Ending→World→Prop,T=(fun r w'=>∃ a' c',r=.returned (.slice a' n c')∧Or_ 106 33 w.heap.size w' (.slice a' n c') (L.map otr)∧Gr w w'):=⟨_,rfl⟩
 rw [← hT]
 replace hT:=hide hT
 have hl:=h.len
 have hcp:=h.2.cap
 have hmx:=h.2.max
 replace h:=hide h
 go_enter Try.func26,Try.ntmps26
 go_upto_region 1 with fail
 obtain ⟨u0,hu_⟩:∃ u,u=w:=⟨_,rfl⟩
 rw [← hu_]
 have hB:Bl w [] u0:=hu_ ▸ Bl.nil w
 clear hu_
 cases a with
 | none =>
  have h0:L=[]:=by
   rcases (unhide h).2.sl with e | ⟨p,o,e,_⟩
   ·exact List.map_eq_nil_iff.1 e
   ·cases e
  have hn0:n=0:=by rw [← hl,h0]; rfl
  refine wp_region_lit ?_
  refine lvk (.slice none n c) ?_
  simp only [nrm]
  refine list_val (.bool true) (by kernel_rfl) (exec_nil _ 23 33 (.tmp 3) rfl Try.underlying23 none n c (by kernel_rfl) (by kernel_rfl)) ?_
  simp only [nrm]
  refine wpList_nil ?_
  have hg:=hide hB.gr
  clear hB h
  go_wp2_with fail
  rw [unhide hT]
  refine ⟨none,0,by rw [hn0]; rfl,?_,unhide hg⟩
  rw [h0,hn0]
  exact or_none _ _ _ _
 | some ad =>
  refine wp_region_lit ?_
  refine lvk (.slice (some ad) n c) ?_
  simp only [nrm]
  refine list_val (.bool false) (by kernel_rfl) (exec_nil _ 23 33 (.tmp 3) rfl Try.underlying23 (some ad) n c (by kernel_rfl) (by kernel_rfl)) ?_
  simp only [nrm]
  refine wpList_nil ?_
  replace hB:=hide hB
  go_upto_region 3 with fail
  replace hB:=unhide hB
  refine wp_region_lit ?_
  refine list_valw (.slice (some ⟨u0.heap.size,0,none⟩) 0 0) (u0.alloc (.cells #[] 33 (0,0))) (by kernel_rfl) (exec_b0o _ rfl) ?_
  have hO:=or_mt (k:=106) (b:=w.heap.size) (blk_new u0 (.cells #[] 33 (0,0))) hB.gr.size
  replace hB:=hB.more ((Gr.refl u0).alloc (.cells #[] 33 (0,0)))
  generalize World.alloc _ _=u1 at *
  generalize u0.heap.size=g0 at *
  replace hO:=hide hO
  simp only [nrm]
  refine lvk (.slice (some ad) n c) ?_
  simp only [nrm]
  refine wpList_step fun K hK=>?_
  rw [if_pos (by kernel_rfl)]
  refine app_rowsW ltO (.tmp 5) (.tmp 6) rfl w.heap.size _ [] (by kernel_rfl) (unhide hO) (some ad) n c (L.map otr) (by kernel_rfl) ((unhide h).gr hB.gr).2 (fun r_ hr_ u_ hu_=>by
   obtain ⟨s_,_,rfl⟩:=List.mem_map.1 hr_
   exact otr_one _ u_ hu_) (by rw [List.length_nil]; omega) hB.gr.size ?_
  intro v1 u2 hO1 hgr
  refine hK _ _ ?_
  clear hK K
  replace hB:=hB.grownR (unhide hO) (Nat.le_refl _) hgr (fun y hy=>by cases hy)
  clear hO hgr
  rw [List.nil_append] at hO1
  obtain ⟨a1,c1,rfl,hls1⟩:=hO1.lz
  have e1:(L.map otr).length=n:=by rw [List.length_map,hl]
  rw [e1] at hO1 ⊢
  clear hls1 e1
  replace hO1:=hide hO1
  simp only [nrm]
  (refine wpList_step fun K hK=>?_; replace hK:=hide hK; go_simp; refine unhide hK _ _ ?_; clear hK K)
  refine wpList_nil ?_
  have hg:=hide hB.gr
  clear hB h
  go_wp2_with fail
  rw [unhide hT]
  exact ⟨a1,c1,rfl,unhide hO1,unhide hg⟩
set_option maxHeartbeats 4000000 in
theorem clone_i (L:List It) (a:Option Addr) (n c:Nat) (hn:n≤1000) (w:World) (h:IL w a n c L):Calls Try.prog 27 #[.slice a n c] w (fun r w'=>∃ a' c',r=.returned (.slice a' n c')∧Or_ 2 59 w.heap.size w' (.slice a' n c') (L.map itr)∧Gr w w'):=by
 obtain ⟨T,hT⟩:∃ T:Ending→World→Prop,T=(fun r w'=>∃ a' c',r=.returned (.slice a' n c')∧Or_ 2 59 w.heap.size w' (.slice a' n c') (L.map itr)∧Gr w w'):=⟨_,rfl⟩
 rw [← hT]
 replace hT:=hide hT
 have hl:=h.len
 have hcp:=h.2.cap
 have hmx:=h.2.max
 replace h:=hide h
 go_enter Try.func27,Try.ntmps27
 go_upto_region 1 with fail
 obtain ⟨u0,hu_⟩:∃ u,u=w:=⟨_,rfl⟩
 rw [← hu_]
 have hB:Bl w [] u0:=hu_ ▸ Bl.nil w
 clear hu_
 cases a with
 | none =>
  have h0:L=[]:=by
   rcases (unhide h).2.sl with e | ⟨p,o,e,_⟩
   ·exact List.map_eq_nil_iff.1 e
   ·cases e
  have hn0:n=0:=by rw [← hl,h0]; rfl
  refine wp_region_lit ?_
  refine lvk (.slice none n c) ?_
  simp only [nrm]
  refine list_val (.bool true) (by kernel_rfl) (exec_nil _ 24 59 (.tmp 3) rfl Try.underlying24 none n c (by kernel_rfl) (by kernel_rfl)) ?_
  simp only [nrm]
  refine wpList_nil ?_
  have hg:=hide hB.gr
  clear hB h
  go_wp2_with fail
  rw [unhide hT]
  refine ⟨none,0,by rw [hn0]; rfl,?_,unhide hg⟩
  rw [h0,hn0]
  exact or_none _ _ _ _
 | some ad =>
  refine wp_region_lit ?_
  refine lvk (.slice (some ad) n c) ?_
  simp only [nrm]
  refine list_val (.bool false) (by kernel_rfl) (exec_nil _ 24 59 (.tmp 3) rfl Try.underlying24 (some ad) n c (by kernel_rfl) (by kernel_rfl)) ?_
  simp only [nrm]
  refine wpList_nil ?_
  replace hB:=hide hB
  go_upto_region 3 with fail
  replace hB:=unhide hB
  refine wp_region_lit ?_
  refine list_valw (.slice (some ⟨u0.heap.size,0,none⟩) 0 0) (u0.alloc (.cells #[] 59 (0,0))) (by kernel_rfl) (exec_b0i _ rfl) ?_
  have hO:=or_mt (k:=2) (b:=w.heap.size) (blk_new u0 (.cells #[] 59 (0,0))) hB.gr.size
  replace hB:=hB.more ((Gr.refl u0).alloc (.cells #[] 59 (0,0)))
  generalize World.alloc _ _=u1 at *
  generalize u0.heap.size=g0 at *
  replace hO:=hide hO
  simp only [nrm]
  refine lvk (.slice (some ad) n c) ?_
  simp only [nrm]
  refine wpList_step fun K hK=>?_
  rw [if_pos (by kernel_rfl)]
  refine app_rowsW ltI (.tmp 5) (.tmp 6) rfl w.heap.size _ [] (by kernel_rfl) (unhide hO) (some ad) n c (L.map itr) (by kernel_rfl) ((unhide h).gr hB.gr).2 (fun r_ hr_ u_ hu_=>by
   obtain ⟨s_,_,rfl⟩:=List.mem_map.1 hr_
   exact itr_one _ u_ hu_) (by rw [List.length_nil]; omega) hB.gr.size ?_
  intro v1 u2 hO1 hgr
  refine hK _ _ ?_
  clear hK K
  replace hB:=hB.grownR (unhide hO) (Nat.le_refl _) hgr (fun y hy=>by cases hy)
  clear hO hgr
  rw [List.nil_append] at hO1
  obtain ⟨a1,c1,rfl,hls1⟩:=hO1.lz
  have e1:(L.map itr).length=n:=by rw [List.length_map,hl]
  rw [e1] at hO1 ⊢
  clear hls1 e1
  replace hO1:=hide hO1
  simp only [nrm]
  (refine wpList_step fun K hK=>?_; replace hK:=hide hK; go_simp; refine unhide hK _ _ ?_; clear hK K)
  refine wpList_nil ?_
  have hg:=hide hB.gr
  clear hB h
  go_wp2_with fail
  rw [unhide hT]
  exact ⟨a1,c1,rfl,unhide hO1,unhide hg⟩
set_option maxHeartbeats 4000000 in
theorem copied_ok (c:Cm) (x:Lc) (w:World) (hc:Cin w c x) (hno:x.no≤1000) (hnh:x.nh≤1000):Calls Try.prog 18 #[.agg (fl [[.int .u32 c.nx],[.slice x.ao x.no x.co],[.int .i64 c.tn],[.int .u32 c.dl],[.slice x.ah x.nh x.ch]])] w (fun r w'=>∃ x',r=.returned (.agg (fl (cvs c x')))∧Own w.heap.size w' c x'∧x'.no=x.no∧x'.nh=x.nh∧Gr w w'):=by
 obtain ⟨T,hT⟩:∃ T:Ending→World→Prop,T=(fun r w'=>∃ x',r=.returned (.agg (fl (cvs c x')))∧Own w.heap.size w' c x'∧x'.no=x.no∧x'.nh=x.nh∧Gr w w'):=⟨_,rfl⟩
 rw [← hT]
 replace hT:=hide hT
 replace hc:=hide hc
 obtain ⟨A0_,hA0_⟩:∃ S_,S_=fl [[.int .u32 c.nx],[.slice x.ao x.no x.co],[.int .i64 c.tn],[.int .u32 c.dl],[.slice x.ah x.nh x.ch]]:=⟨_,rfl⟩
 rw [← hA0_]
 replace hA0_:=hide hA0_
 go_enter Try.func18,Try.ntmps18
 go_upto_region 1 with fail
 have hB:=(((Bl.nil w).new A0_ 26).new (fl [[.int .u32 0],[.slice none 0 0],[.int .i64 0],[.int .u32 0],[.slice none 0 0]]) 26)
 simp only [size_alloc,List.nil_append,List.cons_append] at hB
 rw [unhide hA0_] at hB
 generalize hu_:World.alloc _ _=u0
 replace hB:Bl w [⟨w.heap.size,fl [[.int .u32 c.nx],[.slice x.ao x.no x.co],[.int .i64 c.tn],[.int .u32 c.dl],[.slice x.ah x.nh x.ch]],26⟩,⟨w.heap.size+1,fl [[.int .u32 0],[.slice none 0 0],[.int .i64 0],[.int .u32 0],[.slice none 0 0]],26⟩] u0:=by
  rw [← hu_]
  rw [unhide hA0_]
  exact hB
 clear hu_ hA0_
 have hB0:w.heap.size≤u0.heap.size:=hB.gr.size
 refine wp_region_lit ?_
 refine lvk (.pointer (some ⟨w.heap.size,1,none⟩)) ?_
 simp only [nrm]
 refine list_val (.slice x.ao x.no x.co) (by kernel_rfl) (exec_csO _ (.tmp 3) rfl (w.heap.size) 1 (by kernel_rfl) x.ao x.no x.co (seg_cell (nC  _ _ _ _ _) (hB.get 0 (x:=⟨w.heap.size,fl [[.int .u32 c.nx],[.slice x.ao x.no x.co],[.int .i64 c.tn],[.int .u32 c.dl],[.slice x.ah x.nh x.ch]],26⟩) rfl) 1 (v:=.slice x.ao x.no x.co) rfl rfl)) ?_
 simp only [nrm]
 refine list_call 26 #[.slice x.ao x.no x.co] (by kernel_rfl) (by kernel_rfl) ((clone_o c.O x.ao x.no x.co hno u0 ((unhide hc).gr hB.gr).o).mono ?_)
 rintro r_ u1 ⟨a1,c1,rfl,hO,hg⟩
 replace hB:=hB.more hg
 clear hg
 replace hO:=hide (or_base hO hB0)
 refine ⟨_,rfl,?_⟩
 simp only [nrm]
 refine lvk (.pointer (some ⟨w.heap.size,1,none⟩)) ?_
 simp only [nrm]
 have hzz_:Hid (u1.heap[w.heap.size]?=some (.cells (fl [[.int .u32 c.nx],[.slice x.ao x.no x.co],[.int .i64 c.tn],[.int .u32 c.dl],[.slice x.ah x.nh x.ch]]) 26 (0,0))):=hide (hB.get 0 (x:=⟨w.heap.size,fl [[.int .u32 c.nx],[.slice x.ao x.no x.co],[.int .i64 c.tn],[.int .u32 c.dl],[.slice x.ah x.nh x.ch]],26⟩) rfl)
 refine list_csO (.tmp 6) (.tmp 5) (w.heap.size) 1 a1 x.no c1 (by kernel_rfl) rfl (by kernel_rfl) (by kernel_rfl) hB 0 rfl NC (nC  _ _ _ _ _) 1 _ rfl rfl ?_
 intro u2 hB_ hbt_
 clear hB
 replace hB:Bl w [⟨w.heap.size,fl [[.int .u32 c.nx],[.slice a1 x.no c1],[.int .i64 c.tn],[.int .u32 c.dl],[.slice x.ah x.nh x.ch]],26⟩,⟨w.heap.size+1,fl [[.int .u32 0],[.slice none 0 0],[.int .i64 0],[.int .u32 0],[.slice none 0 0]],26⟩] u2:=hB_
 clear hB_
 replace hO:=hide ((unhide hO).bz (unhide hzz_) hbt_)
 clear hbt_ hzz_
 simp only [nrm]
 refine wpList_nil ?_
 replace hB:=hide hB
 go_upto_region 2 with fail
 replace hB:=unhide hB
 have hB1:w.heap.size≤u2.heap.size:=hB.gr.size
 refine wp_region_lit ?_
 refine lvk (.pointer (some ⟨w.heap.size,4,none⟩)) ?_
 simp only [nrm]
 refine list_val (.slice x.ah x.nh x.ch) (by kernel_rfl) (exec_csI _ (.tmp 7) rfl (w.heap.size) 4 (by kernel_rfl) x.ah x.nh x.ch (seg_cell (nC  _ _ _ _ _) (hB.get 0 (x:=⟨w.heap.size,fl [[.int .u32 c.nx],[.slice a1 x.no c1],[.int .i64 c.tn],[.int .u32 c.dl],[.slice x.ah x.nh x.ch]],26⟩) rfl) 4 (v:=.slice x.ah x.nh x.ch) rfl rfl)) ?_
 simp only [nrm]
 refine list_call 27 #[.slice x.ah x.nh x.ch] (by kernel_rfl) (by kernel_rfl) ((clone_i c.H x.ah x.nh x.ch hnh u2 ((unhide hc).gr hB.gr).h).mono ?_)
 rintro r_ u3 ⟨a2,c2,rfl,hH,hg⟩
 replace hO:=hide ((unhide hO).gr hg)
 replace hB:=hB.more hg
 clear hg
 replace hH:=hide (or_base hH hB1)
 refine ⟨_,rfl,?_⟩
 simp only [nrm]
 refine lvk (.pointer (some ⟨w.heap.size,4,none⟩)) ?_
 simp only [nrm]
 have hzz_:Hid (u3.heap[w.heap.size]?=some (.cells (fl [[.int .u32 c.nx],[.slice a1 x.no c1],[.int .i64 c.tn],[.int .u32 c.dl],[.slice x.ah x.nh x.ch]]) 26 (0,0))):=hide (hB.get 0 (x:=⟨w.heap.size,fl [[.int .u32 c.nx],[.slice a1 x.no c1],[.int .i64 c.tn],[.int .u32 c.dl],[.slice x.ah x.nh x.ch]],26⟩) rfl)
 refine list_csI (.tmp 10) (.tmp 9) (w.heap.size) 4 a2 x.nh c2 (by kernel_rfl) rfl (by kernel_rfl) (by kernel_rfl) hB 0 rfl NC (nC  _ _ _ _ _) 4 _ rfl rfl ?_
 intro u4 hB_ hbt_
 clear hB
 replace hB:Bl w [⟨w.heap.size,fl [[.int .u32 c.nx],[.slice a1 x.no c1],[.int .i64 c.tn],[.int .u32 c.dl],[.slice a2 x.nh c2]],26⟩,⟨w.heap.size+1,fl [[.int .u32 0],[.slice none 0 0],[.int .i64 0],[.int .u32 0],[.slice none 0 0]],26⟩] u4:=hB_
 clear hB_
 replace hO:=hide ((unhide hO).bz (unhide hzz_) hbt_)
 replace hH:=hide ((unhide hH).bz (unhide hzz_) hbt_)
 clear hbt_ hzz_
 simp only [nrm]
 refine wpList_nil ?_
 replace hB:=hide hB
 go_upto_region 3 with fail
 replace hB:=unhide hB
 refine wp_region_lit ?_
 refine list_val (.agg (fl [[.int .u32 c.nx],[.slice a1 x.no c1],[.int .i64 c.tn],[.int .u32 c.dl],[.slice a2 x.nh c2]])) (by kernel_rfl) (exec_sw _ 26 (.tmp 1) rfl (w.heap.size) (by kernel_rfl) (hB.get 0 (x:=⟨w.heap.size,fl [[.int .u32 c.nx],[.slice a1 x.no c1],[.int .i64 c.tn],[.int .u32 c.dl],[.slice a2 x.nh c2]],26⟩) rfl) NC (nC  _ _ _ _ _) Try.underlying26 rfl (by kernel_rfl)) ?_
 simp only [nrm]
 have hzz_:Hid (u4.heap[w.heap.size+1]?=some (.cells (fl [[.int .u32 0],[.slice none 0 0],[.int .i64 0],[.int .u32 0],[.slice none 0 0]]) 26 (0,0))):=hide (hB.get 1 (x:=⟨w.heap.size+1,fl [[.int .u32 0],[.slice none 0 0],[.int .i64 0],[.int .u32 0],[.slice none 0 0]],26⟩) rfl)
 refine list_all 26 (.tmp 2) (.tmp 11) (w.heap.size+1) (S2:=[[.int .u32 c.nx],[.slice a1 x.no c1],[.int .i64 c.tn],[.int .u32 c.dl],[.slice a2 x.nh c2]]) (by kernel_rfl) rfl (by kernel_rfl) (by kernel_rfl) hB 1 rfl NC (nC  _ _ _ _ _) (nC  _ _ _ _ _) (by kernel_rfl) (oC  rfl rfl rfl rfl rfl) ?_
 intro u5 hB_ hbt_
 clear hB
 replace hB:Bl w [⟨w.heap.size,fl [[.int .u32 c.nx],[.slice a1 x.no c1],[.int .i64 c.tn],[.int .u32 c.dl],[.slice a2 x.nh c2]],26⟩,⟨w.heap.size+1,fl [[.int .u32 c.nx],[.slice a1 x.no c1],[.int .i64 c.tn],[.int .u32 c.dl],[.slice a2 x.nh c2]],26⟩] u5:=hB_
 clear hB_
 replace hO:=hide ((unhide hO).bz (unhide hzz_) hbt_)
 replace hH:=hide ((unhide hH).bz (unhide hzz_) hbt_)
 clear hbt_ hzz_
 simp only [nrm]
 refine wpList_nil ?_
 replace hB:=hide hB
 go_wp2_with fail
 replace hB:=unhide hB
 rw [unhide hT]
 exact bodyPost_ret (v:=.agg (fl [[.int .u32 c.nx],[.slice a1 x.no c1],[.int .i64 c.tn],[.int .u32 c.dl],[.slice a2 x.nh c2]])) (res1 Try.results18 (rv_cell (by kernel_rfl) (hB.get 1 (x:=⟨w.heap.size+1,fl [[.int .u32 c.nx],[.slice a1 x.no c1],[.int .i64 c.tn],[.int .u32 c.dl],[.slice a2 x.nh c2]],26⟩) rfl) Try.underlying26 rfl (by rw [fl_size (nC  _ _ _ _ _)]; kernel_rfl))) rfl (⟨⟨a1,x.no,c1,a2,x.nh,c2⟩,rfl,⟨unhide hO,unhide hH⟩,rfl,rfl,hB.gr⟩)
end Go.Proofs.Ytcefkkoombmndab
namespace Go.Proofs.Ytcefkkoombmndab
open Go.RowKit
set_option maxRecDepth 100000
set_option linter.unusedSimpArgs false
set_option linter.unusedVariables false
def cz:Cm:=⟨0,[],0,0,[]⟩
def xz:Lc:=⟨none,0,0,none,0,0⟩
theorem lz_none (k:Nat) (w:World):Lz k w none 0 0 []:=⟨rfl,(fun r hr=>by cases hr),.inl rfl,Nat.le_refl _,by omega⟩
theorem cin_z (w:World):Cin w cz xz:=⟨⟨(fun s hs=>by cases hs),lz_none 106 w⟩,⟨(fun s hs=>by cases hs),lz_none 2 w⟩,by decide,by decide,by decide⟩
theorem owx_z (b:Nat) (w:World):Owx b w xz:=⟨.inl rfl,.inl rfl⟩
theorem rt_le {c:Cm} (h:rt c=true):(c.nx≤2147483648∧c.dl≤2147483648)∧(c.O.length≤4∧(c.O.length:Int)≤c.nx∧0≤c.tn∧c.tn<max (c.O.length:Int) 1)∧c.H.length≤3:=by
 unfold rt outB heldB at h
 simp only [Bool.and_eq_true,decide_eq_true_eq] at h
 exact ⟨h.1,h.2.1.1,h.2.2.1⟩
theorem chk_t {c:Cm} (h:rt c=true):chk c=0:=by unfold chk; rw [if_pos h]
theorem chk_f {c:Cm} (h:rt c=false):chk c=281:=by unfold chk; rw [h]; rfl
def Rc (c':Cm) (rest:List Value) (w:World) (r:Ending) (w':World):Prop:=∃ x,r=.returned (.tuple (.agg (fl (cvs c' x))::rest).toArray)∧Cin w' c' x∧Owx w.heap.size w' x∧Gr w w'
def qu (c:Cm) (B:List Int):Cm × Int × Int :=
 if rt c=false then (cz,0,281) else if c.O.length=4∨c.nx=2147483648 then (cz,0,6) else ({ c with nx:=c.nx+1,O:=c.O++[⟨c.nx,B⟩] },c.nx,0)
theorem qu_no {c:Cm} (B:List Int) (h:rt c=false):qu c B=(cz,0,281):=by unfold qu; rw [if_pos h]
theorem qu_full {c:Cm} (B:List Int) (h:rt c=true) (h2:c.O.length=4∨c.nx=2147483648):qu c B=(cz,0,6):=by unfold qu; rw [if_neg (by rw [h]; decide),if_pos h2]
theorem qu_yes {c:Cm} (B:List Int) (h:rt c=true) (h2:¬ (c.O.length=4∨c.nx=2147483648)):qu c B=({ c with nx:=c.nx+1,O:=c.O++[⟨c.nx,B⟩] },c.nx,0):=by unfold qu; rw [if_neg (by rw [h]; decide),if_neg h2]
set_option maxHeartbeats 4000000 in
theorem queue_ok (c:Cm) (x:Lc) (B:List Int) (hY:B.length=105∧IsB B) (w:World) (hc:Cin w c x):Calls Try.prog 11 #[.agg (fl [[.int .u32 c.nx],[.slice x.ao x.no x.co],[.int .i64 c.tn],[.int .u32 c.dl],[.slice x.ah x.nh x.ch]]),.agg (fl [bw B])] w (Rc (qu c B).1 [.int .u32 (qu c B).2.1,.int .i64 (qu c B).2.2] w):=by
 obtain ⟨T,hT⟩:∃ T:Ending→World→Prop,T=(Rc (qu c B).1 [.int .u32 (qu c B).2.1,.int .i64 (qu c B).2.2] w):=⟨_,rfl⟩
 rw [← hT]
 replace hT:=hide hT
 replace hY:=hide hY
 have hn:=hc.o.len
 have hnx:=hc.nx
 replace hc:=hide hc
 obtain ⟨A0_,hA0_⟩:∃ S_,S_=fl [[.int .u32 c.nx],[.slice x.ao x.no x.co],[.int .i64 c.tn],[.int .u32 c.dl],[.slice x.ah x.nh x.ch]]:=⟨_,rfl⟩
 rw [← hA0_]
 replace hA0_:=hide hA0_
 obtain ⟨A1_,hA1_⟩:∃ S_,S_=fl [bw B]:=⟨_,rfl⟩
 rw [← hA1_]
 replace hA1_:=hide hA1_
 go_enter Try.func11,Try.ntmps11
 go_upto_region 1 with fail
 have hB:=((((Bl.nil w).new A0_ 26).new A1_ 31).new (fl [[.int .u32 0],[.slice none 0 0],[.int .i64 0],[.int .u32 0],[.slice none 0 0]]) 26)
 simp only [size_alloc,List.nil_append,List.cons_append] at hB
 rw [unhide hA0_,unhide hA1_] at hB
 generalize hu_:World.alloc _ _=u0
 replace hB:Bl w [⟨w.heap.size,fl [[.int .u32 c.nx],[.slice x.ao x.no x.co],[.int .i64 c.tn],[.int .u32 c.dl],[.slice x.ah x.nh x.ch]],26⟩,⟨w.heap.size+1,fl [bw B],31⟩,⟨w.heap.size+1+1,fl [[.int .u32 0],[.slice none 0 0],[.int .i64 0],[.int .u32 0],[.slice none 0 0]],26⟩] u0:=by
  rw [← hu_]
  rw [unhide hA0_,unhide hA1_]
  exact hB
 clear hu_ hA0_ hA1_
 cases h1:rt c with
 | false =>
  have hk:=chk_f h1
  have hv:=qu_no B h1
  refine wp_region_lit ?_
  refine list_val (.agg (fl [[.int .u32 c.nx],[.slice x.ao x.no x.co],[.int .i64 c.tn],[.int .u32 c.dl],[.slice x.ah x.nh x.ch]])) (by kernel_rfl) (exec_sw _ 26 (.tmp 2) rfl (w.heap.size) (by kernel_rfl) (hB.get 0 (x:=⟨w.heap.size,fl [[.int .u32 c.nx],[.slice x.ao x.no x.co],[.int .i64 c.tn],[.int .u32 c.dl],[.slice x.ah x.nh x.ch]],26⟩) rfl) NC (nC  _ _ _ _ _) Try.underlying26 rfl (by kernel_rfl)) ?_
  simp only [nrm]
  refine list_call 8 #[.agg (fl [[.int .u32 c.nx],[.slice x.ao x.no x.co],[.int .i64 c.tn],[.int .u32 c.dl],[.slice x.ah x.nh x.ch]])] (by kernel_rfl) (by kernel_rfl) (((show Calls Try.prog 8 #[.agg (fl [[.int .u32 c.nx],[.slice x.ao x.no x.co],[.int .i64 c.tn],[.int .u32 c.dl],[.slice x.ah x.nh x.ch]])] u0 (Vl (.int .i64 281) u0) from hk ▸ check_ok c x u0 ((unhide hc).gr hB.gr))).mono ?_)
  rintro r_ u1 ⟨rfl,hg⟩
  replace hB:=hB.more hg
  clear hg
  refine ⟨_,rfl,?_⟩
  simp only [nrm]
  (refine wpList_step fun K hK=>?_; replace hK:=hide hK; go_simp; refine unhide hK _ _ ?_; clear hK K)
  refine wpList_nil ?_
  replace hB:=hide hB
  go_upto_region 2 with fail
  replace hB:=unhide hB
  refine wp_region_lit ?_
  refine lvk (.int .i64 281) ?_
  simp only [nrm]
  refine list_val (.bool true) (by kernel_rfl) (neq_e _ (.tmp 11) (.const (.int .i64 0)) 281 0 true rfl (by kernel_rfl) (by kernel_rfl) (by decide)) ?_
  simp only [nrm]
  refine wpList_nil ?_
  replace hB:=hide hB
  go_upto_region 3 with fail
  replace hB:=unhide hB
  refine wp_region_lit ?_
  refine list_val (.agg (fl [[.int .u32 0],[.slice none 0 0],[.int .i64 0],[.int .u32 0],[.slice none 0 0]])) (by kernel_rfl) (bC _ rfl) ?_
  simp only [nrm]
  refine lvk (.int .i64 281) ?_
  simp only [nrm]
  refine list_all 26 (.tmp 4) (.tmp 13) (w.heap.size+1+1) (S2:=[[.int .u32 0],[.slice none 0 0],[.int .i64 0],[.int .u32 0],[.slice none 0 0]]) (by kernel_rfl) rfl (by kernel_rfl) (by kernel_rfl) hB 2 rfl NC (nC  _ _ _ _ _) (nC  _ _ _ _ _) (by kernel_rfl) (oC  rfl rfl rfl rfl rfl) ?_
  intro u2 hB_ hbt_
  clear hB
  replace hB:Bl w [⟨w.heap.size,fl [[.int .u32 c.nx],[.slice x.ao x.no x.co],[.int .i64 c.tn],[.int .u32 c.dl],[.slice x.ah x.nh x.ch]],26⟩,⟨w.heap.size+1,fl [bw B],31⟩,⟨w.heap.size+1+1,fl [[.int .u32 0],[.slice none 0 0],[.int .i64 0],[.int .u32 0],[.slice none 0 0]],26⟩] u2:=hB_
  clear hB_
  clear hbt_
  simp only [nrm]
  (refine wpList_step fun K hK=>?_; replace hK:=hide hK; go_simp; refine unhide hK _ _ ?_; clear hK K)
  (refine wpList_step fun K hK=>?_; replace hK:=hide hK; go_simp; refine unhide hK _ _ ?_; clear hK K)
  refine wpList_nil ?_
  replace hB:=hide hB
  go_wp2_with fail
  replace hB:=unhide hB
  rw [unhide hT]
  rw [hv]
  exact bodyPost_ret (v:=.tuple #[.agg (fl [[.int .u32 0],[.slice none 0 0],[.int .i64 0],[.int .u32 0],[.slice none 0 0]]),.int .u32 0,.int .i64 281]) (res3 Try.results11 (rv_cell (by kernel_rfl) (hB.get 2 (x:=⟨w.heap.size+1+1,fl [[.int .u32 0],[.slice none 0 0],[.int .i64 0],[.int .u32 0],[.slice none 0 0]],26⟩) rfl) Try.underlying26 rfl (by rw [fl_size (nC  _ _ _ _ _)]; kernel_rfl)) (rv_tmp (by kernel_rfl)) (rv_tmp (by kernel_rfl))) rfl (⟨xz,rfl,cin_z _,owx_z _ _,hB.gr⟩)
 | true =>
  have hk:=chk_t h1
  have hle:=rt_le h1
  rw [hn] at hle
  replace h1:=hide h1
  refine wp_region_lit ?_
  refine list_val (.agg (fl [[.int .u32 c.nx],[.slice x.ao x.no x.co],[.int .i64 c.tn],[.int .u32 c.dl],[.slice x.ah x.nh x.ch]])) (by kernel_rfl) (exec_sw _ 26 (.tmp 2) rfl (w.heap.size) (by kernel_rfl) (hB.get 0 (x:=⟨w.heap.size,fl [[.int .u32 c.nx],[.slice x.ao x.no x.co],[.int .i64 c.tn],[.int .u32 c.dl],[.slice x.ah x.nh x.ch]],26⟩) rfl) NC (nC  _ _ _ _ _) Try.underlying26 rfl (by kernel_rfl)) ?_
  simp only [nrm]
  refine list_call 8 #[.agg (fl [[.int .u32 c.nx],[.slice x.ao x.no x.co],[.int .i64 c.tn],[.int .u32 c.dl],[.slice x.ah x.nh x.ch]])] (by kernel_rfl) (by kernel_rfl) (((show Calls Try.prog 8 #[.agg (fl [[.int .u32 c.nx],[.slice x.ao x.no x.co],[.int .i64 c.tn],[.int .u32 c.dl],[.slice x.ah x.nh x.ch]])] u0 (Vl (.int .i64 0) u0) from hk ▸ check_ok c x u0 ((unhide hc).gr hB.gr))).mono ?_)
  rintro r_ u1 ⟨rfl,hg⟩
  replace hB:=hB.more hg
  clear hg
  refine ⟨_,rfl,?_⟩
  simp only [nrm]
  (refine wpList_step fun K hK=>?_; replace hK:=hide hK; go_simp; refine unhide hK _ _ ?_; clear hK K)
  refine wpList_nil ?_
  replace hB:=hide hB
  go_upto_region 2 with fail
  replace hB:=unhide hB
  refine wp_region_lit ?_
  refine lvk (.int .i64 0) ?_
  simp only [nrm]
  refine list_val (.bool false) (by kernel_rfl) (neq_e _ (.tmp 11) (.const (.int .i64 0)) 0 0 false rfl (by kernel_rfl) (by kernel_rfl) (by decide)) ?_
  simp only [nrm]
  refine wpList_nil ?_
  by_cases h2:(x.no:Int)=4
  ·have hv:=qu_full B (unhide h1) (.inl (by omega))
   replace hB:=hide hB
   go_upto_region 4 with fail
   replace hB:=unhide hB
   refine wp_region_lit ?_
   refine wpList_gen fun ops_ hops=>?_
   replace hops:=hide hops
   refine list_val (.pointer (some ⟨w.heap.size,1,none⟩)) (by rw [unhide hops]; kernel_rfl) (by kernel_rfl) ?_
   simp only [nrm]
   refine list_val (.slice x.ao x.no x.co) (by rw [unhide hops]; kernel_rfl) (exec_csO _ (.tmp 15) rfl (w.heap.size) 1 (by kernel_rfl) x.ao x.no x.co (seg_cell (nC  _ _ _ _ _) (hB.get 0 (x:=⟨w.heap.size,fl [[.int .u32 c.nx],[.slice x.ao x.no x.co],[.int .i64 c.tn],[.int .u32 c.dl],[.slice x.ah x.nh x.ch]],26⟩) rfl) 1 (v:=.slice x.ao x.no x.co) rfl rfl)) ?_
   simp only [nrm]
   refine list_val (.int .i64 (x.no:Int)) (by rw [unhide hops]; kernel_rfl) (by kernel_rfl) ?_
   simp only [nrm]
   refine list_val (.bool true) (by rw [unhide hops]; kernel_rfl) (eql_i _ (.tmp 17) (.const (.int .i64 4)) (x.no:Int) 4 true rfl (by kernel_rfl) (by kernel_rfl) (decide_eq_true h2)) ?_
   simp only [nrm]
   refine list_val (.bool true) (by rw [unhide hops]; kernel_rfl) (by kernel_rfl) ?_
   simp only [nrm]
   refine list_off (by rw [unhide hops]; kernel_rfl) ?_
   simp only [nrm]
   refine list_off (by rw [unhide hops]; kernel_rfl) ?_
   simp only [nrm]
   refine list_off (by rw [unhide hops]; kernel_rfl) ?_
   simp only [nrm]
   refine list_val (.bool true) (by rw [unhide hops]; kernel_rfl) (by kernel_rfl) ?_
   simp only [nrm]
   refine wpList_nil ?_
   replace hB:=hide hB
   go_upto_region 5 with fail
   replace hB:=unhide hB
   refine wp_region_lit ?_
   refine list_val (.agg (fl [[.int .u32 0],[.slice none 0 0],[.int .i64 0],[.int .u32 0],[.slice none 0 0]])) (by kernel_rfl) (bC _ rfl) ?_
   simp only [nrm]
   refine list_all 26 (.tmp 4) (.tmp 24) (w.heap.size+1+1) (S2:=[[.int .u32 0],[.slice none 0 0],[.int .i64 0],[.int .u32 0],[.slice none 0 0]]) (by kernel_rfl) rfl (by kernel_rfl) (by kernel_rfl) hB 2 rfl NC (nC  _ _ _ _ _) (nC  _ _ _ _ _) (by kernel_rfl) (oC  rfl rfl rfl rfl rfl) ?_
   intro u2 hB_ hbt_
   clear hB
   replace hB:Bl w [⟨w.heap.size,fl [[.int .u32 c.nx],[.slice x.ao x.no x.co],[.int .i64 c.tn],[.int .u32 c.dl],[.slice x.ah x.nh x.ch]],26⟩,⟨w.heap.size+1,fl [bw B],31⟩,⟨w.heap.size+1+1,fl [[.int .u32 0],[.slice none 0 0],[.int .i64 0],[.int .u32 0],[.slice none 0 0]],26⟩] u2:=hB_
   clear hB_
   clear hbt_
   simp only [nrm]
   (refine wpList_step fun K hK=>?_; replace hK:=hide hK; go_simp; refine unhide hK _ _ ?_; clear hK K)
   (refine wpList_step fun K hK=>?_; replace hK:=hide hK; go_simp; refine unhide hK _ _ ?_; clear hK K)
   refine wpList_nil ?_
   replace hB:=hide hB
   go_wp2_with fail
   replace hB:=unhide hB
   rw [unhide hT]
   rw [hv]
   exact bodyPost_ret (v:=.tuple #[.agg (fl [[.int .u32 0],[.slice none 0 0],[.int .i64 0],[.int .u32 0],[.slice none 0 0]]),.int .u32 0,.int .i64 6]) (res3 Try.results11 (rv_cell (by kernel_rfl) (hB.get 2 (x:=⟨w.heap.size+1+1,fl [[.int .u32 0],[.slice none 0 0],[.int .i64 0],[.int .u32 0],[.slice none 0 0]],26⟩) rfl) Try.underlying26 rfl (by rw [fl_size (nC  _ _ _ _ _)]; kernel_rfl)) (rv_tmp (by kernel_rfl)) (rv_tmp (by kernel_rfl))) rfl (⟨xz,rfl,cin_z _,owx_z _ _,hB.gr⟩)
  by_cases h3:c.nx=2147483648
  ·have hv:=qu_full B (unhide h1) (.inr h3)
   replace h3:=hide h3
   replace hB:=hide hB
   go_upto_region 4 with fail
   replace hB:=unhide hB
   refine wp_region_lit ?_
   refine wpList_gen fun ops_ hops=>?_
   replace hops:=hide hops
   refine list_val (.pointer (some ⟨w.heap.size,1,none⟩)) (by rw [unhide hops]; kernel_rfl) (by kernel_rfl) ?_
   simp only [nrm]
   refine list_val (.slice x.ao x.no x.co) (by rw [unhide hops]; kernel_rfl) (exec_csO _ (.tmp 15) rfl (w.heap.size) 1 (by kernel_rfl) x.ao x.no x.co (seg_cell (nC  _ _ _ _ _) (hB.get 0 (x:=⟨w.heap.size,fl [[.int .u32 c.nx],[.slice x.ao x.no x.co],[.int .i64 c.tn],[.int .u32 c.dl],[.slice x.ah x.nh x.ch]],26⟩) rfl) 1 (v:=.slice x.ao x.no x.co) rfl rfl)) ?_
   simp only [nrm]
   refine list_val (.int .i64 (x.no:Int)) (by rw [unhide hops]; kernel_rfl) (by kernel_rfl) ?_
   simp only [nrm]
   refine list_val (.bool false) (by rw [unhide hops]; kernel_rfl) (eql_i _ (.tmp 17) (.const (.int .i64 4)) (x.no:Int) 4 false rfl (by kernel_rfl) (by kernel_rfl) (decide_eq_false h2)) ?_
   simp only [nrm]
   refine list_val (.bool false) (by rw [unhide hops]; kernel_rfl) (by kernel_rfl) ?_
   simp only [nrm]
   refine list_val (.pointer (some ⟨w.heap.size,0,none⟩)) (by rw [unhide hops]; kernel_rfl) (by kernel_rfl) ?_
   simp only [nrm]
   refine list_val (.int .u32 c.nx) (by rw [unhide hops]; kernel_rfl) (exec_c32 _ (.tmp 20) rfl (w.heap.size) 0 (by kernel_rfl) c.nx (seg_cell (nC  _ _ _ _ _) (hB.get 0 (x:=⟨w.heap.size,fl [[.int .u32 c.nx],[.slice x.ao x.no x.co],[.int .i64 c.tn],[.int .u32 c.dl],[.slice x.ah x.nh x.ch]],26⟩) rfl) 0 (v:=.int .u32 c.nx) rfl rfl)) ?_
   simp only [nrm]
   refine list_val (.bool true) (by rw [unhide hops]; kernel_rfl) (eql_32 _ (.tmp 21) (.const (.int .u32 2147483648)) c.nx 2147483648 true rfl (by kernel_rfl) (by kernel_rfl) (decide_eq_true (unhide h3))) ?_
   simp only [nrm]
   refine list_val (.bool true) (by rw [unhide hops]; kernel_rfl) (by kernel_rfl) ?_
   simp only [nrm]
   refine wpList_nil ?_
   replace hB:=hide hB
   go_upto_region 5 with fail
   replace hB:=unhide hB
   refine wp_region_lit ?_
   refine list_val (.agg (fl [[.int .u32 0],[.slice none 0 0],[.int .i64 0],[.int .u32 0],[.slice none 0 0]])) (by kernel_rfl) (bC _ rfl) ?_
   simp only [nrm]
   refine list_all 26 (.tmp 4) (.tmp 24) (w.heap.size+1+1) (S2:=[[.int .u32 0],[.slice none 0 0],[.int .i64 0],[.int .u32 0],[.slice none 0 0]]) (by kernel_rfl) rfl (by kernel_rfl) (by kernel_rfl) hB 2 rfl NC (nC  _ _ _ _ _) (nC  _ _ _ _ _) (by kernel_rfl) (oC  rfl rfl rfl rfl rfl) ?_
   intro u2 hB_ hbt_
   clear hB
   replace hB:Bl w [⟨w.heap.size,fl [[.int .u32 c.nx],[.slice x.ao x.no x.co],[.int .i64 c.tn],[.int .u32 c.dl],[.slice x.ah x.nh x.ch]],26⟩,⟨w.heap.size+1,fl [bw B],31⟩,⟨w.heap.size+1+1,fl [[.int .u32 0],[.slice none 0 0],[.int .i64 0],[.int .u32 0],[.slice none 0 0]],26⟩] u2:=hB_
   clear hB_
   clear hbt_
   simp only [nrm]
   (refine wpList_step fun K hK=>?_; replace hK:=hide hK; go_simp; refine unhide hK _ _ ?_; clear hK K)
   (refine wpList_step fun K hK=>?_; replace hK:=hide hK; go_simp; refine unhide hK _ _ ?_; clear hK K)
   refine wpList_nil ?_
   replace hB:=hide hB
   go_wp2_with fail
   replace hB:=unhide hB
   rw [unhide hT]
   rw [hv]
   exact bodyPost_ret (v:=.tuple #[.agg (fl [[.int .u32 0],[.slice none 0 0],[.int .i64 0],[.int .u32 0],[.slice none 0 0]]),.int .u32 0,.int .i64 6]) (res3 Try.results11 (rv_cell (by kernel_rfl) (hB.get 2 (x:=⟨w.heap.size+1+1,fl [[.int .u32 0],[.slice none 0 0],[.int .i64 0],[.int .u32 0],[.slice none 0 0]],26⟩) rfl) Try.underlying26 rfl (by rw [fl_size (nC  _ _ _ _ _)]; kernel_rfl)) (rv_tmp (by kernel_rfl)) (rv_tmp (by kernel_rfl))) rfl (⟨xz,rfl,cin_z _,owx_z _ _,hB.gr⟩)
  have hv:=qu_yes B (unhide h1) (by omega)
  replace hv:=hide hv
  replace hB:=hide hB
  go_upto_region 4 with fail
  replace hB:=unhide hB
  refine wp_region_lit ?_
  refine wpList_gen fun ops_ hops=>?_
  replace hops:=hide hops
  refine list_val (.pointer (some ⟨w.heap.size,1,none⟩)) (by rw [unhide hops]; kernel_rfl) (by kernel_rfl) ?_
  simp only [nrm]
  refine list_val (.slice x.ao x.no x.co) (by rw [unhide hops]; kernel_rfl) (exec_csO _ (.tmp 15) rfl (w.heap.size) 1 (by kernel_rfl) x.ao x.no x.co (seg_cell (nC  _ _ _ _ _) (hB.get 0 (x:=⟨w.heap.size,fl [[.int .u32 c.nx],[.slice x.ao x.no x.co],[.int .i64 c.tn],[.int .u32 c.dl],[.slice x.ah x.nh x.ch]],26⟩) rfl) 1 (v:=.slice x.ao x.no x.co) rfl rfl)) ?_
  simp only [nrm]
  refine list_val (.int .i64 (x.no:Int)) (by rw [unhide hops]; kernel_rfl) (by kernel_rfl) ?_
  simp only [nrm]
  refine list_val (.bool false) (by rw [unhide hops]; kernel_rfl) (eql_i _ (.tmp 17) (.const (.int .i64 4)) (x.no:Int) 4 false rfl (by kernel_rfl) (by kernel_rfl) (decide_eq_false h2)) ?_
  simp only [nrm]
  refine list_val (.bool false) (by rw [unhide hops]; kernel_rfl) (by kernel_rfl) ?_
  simp only [nrm]
  refine list_val (.pointer (some ⟨w.heap.size,0,none⟩)) (by rw [unhide hops]; kernel_rfl) (by kernel_rfl) ?_
  simp only [nrm]
  refine list_val (.int .u32 c.nx) (by rw [unhide hops]; kernel_rfl) (exec_c32 _ (.tmp 20) rfl (w.heap.size) 0 (by kernel_rfl) c.nx (seg_cell (nC  _ _ _ _ _) (hB.get 0 (x:=⟨w.heap.size,fl [[.int .u32 c.nx],[.slice x.ao x.no x.co],[.int .i64 c.tn],[.int .u32 c.dl],[.slice x.ah x.nh x.ch]],26⟩) rfl) 0 (v:=.int .u32 c.nx) rfl rfl)) ?_
  simp only [nrm]
  refine list_val (.bool false) (by rw [unhide hops]; kernel_rfl) (eql_32 _ (.tmp 21) (.const (.int .u32 2147483648)) c.nx 2147483648 false rfl (by kernel_rfl) (by kernel_rfl) (decide_eq_false h3)) ?_
  simp only [nrm]
  refine list_val (.bool false) (by rw [unhide hops]; kernel_rfl) (by kernel_rfl) ?_
  simp only [nrm]
  refine wpList_nil ?_
  replace hB:=hide hB
  go_upto_region 6 with fail
  replace hB:=unhide hB
  refine wp_region_lit ?_
  refine lvk (.pointer (some ⟨w.heap.size,0,none⟩)) ?_
  simp only [nrm]
  refine list_val (.int .u32 c.nx) (by kernel_rfl) (exec_c32 _ (.tmp 25) rfl (w.heap.size) 0 (by kernel_rfl) c.nx (seg_cell (nC  _ _ _ _ _) (hB.get 0 (x:=⟨w.heap.size,fl [[.int .u32 c.nx],[.slice x.ao x.no x.co],[.int .i64 c.tn],[.int .u32 c.dl],[.slice x.ah x.nh x.ch]],26⟩) rfl) 0 (v:=.int .u32 c.nx) rfl rfl)) ?_
  simp only [nrm]
  (refine wpList_step fun K hK=>?_; replace hK:=hide hK; go_simp; refine unhide hK _ _ ?_; clear hK K)
  refine wpList_nil ?_
  replace hB:=hide hB
  go_upto_region 7 with fail
  replace hB:=unhide hB
  have hb0:w.heap.size≤u1.heap.size:=hB.gr.size
  refine wp_region_lit ?_
  refine list_val (.agg (fl [[.int .u32 c.nx],[.slice x.ao x.no x.co],[.int .i64 c.tn],[.int .u32 c.dl],[.slice x.ah x.nh x.ch]])) (by kernel_rfl) (exec_sw _ 26 (.tmp 2) rfl (w.heap.size) (by kernel_rfl) (hB.get 0 (x:=⟨w.heap.size,fl [[.int .u32 c.nx],[.slice x.ao x.no x.co],[.int .i64 c.tn],[.int .u32 c.dl],[.slice x.ah x.nh x.ch]],26⟩) rfl) NC (nC  _ _ _ _ _) Try.underlying26 rfl (by kernel_rfl)) ?_
  simp only [nrm]
  refine list_call 18 #[.agg (fl [[.int .u32 c.nx],[.slice x.ao x.no x.co],[.int .i64 c.tn],[.int .u32 c.dl],[.slice x.ah x.nh x.ch]])] (by kernel_rfl) (by kernel_rfl) ((copied_ok c x u1 ((unhide hc).gr hB.gr) (by omega) (by rw [← (unhide hc).h.len]; omega)).mono ?_)
  rintro r_ u2 ⟨x1,rfl,hW,hn1,hh1,hg⟩
  replace hB:=hB.more hg
  clear hg
  replace hW:=hide (show Own w.heap.size u2 c x1 from ⟨or_base hW.o hb0,or_base hW.h hb0⟩)
  refine ⟨_,rfl,?_⟩
  simp only [nrm]
  have hzz_:Hid (u2.heap[w.heap.size]?=some (.cells (fl [[.int .u32 c.nx],[.slice x.ao x.no x.co],[.int .i64 c.tn],[.int .u32 c.dl],[.slice x.ah x.nh x.ch]]) 26 (0,0))):=hide (hB.get 0 (x:=⟨w.heap.size,fl [[.int .u32 c.nx],[.slice x.ao x.no x.co],[.int .i64 c.tn],[.int .u32 c.dl],[.slice x.ah x.nh x.ch]],26⟩) rfl)
  refine list_all 26 (.tmp 2) (.tmp 28) (w.heap.size) (S2:=[[.int .u32 c.nx],[.slice x1.ao x1.no x1.co],[.int .i64 c.tn],[.int .u32 c.dl],[.slice x1.ah x1.nh x1.ch]]) (by kernel_rfl) rfl (by kernel_rfl) (by kernel_rfl) hB 0 rfl NC (nC  _ _ _ _ _) (nC  _ _ _ _ _) (by kernel_rfl) (oC  rfl rfl rfl rfl rfl) ?_
  intro u3 hB_ hbt_
  clear hB
  replace hB:Bl w [⟨w.heap.size,fl [[.int .u32 c.nx],[.slice x1.ao x1.no x1.co],[.int .i64 c.tn],[.int .u32 c.dl],[.slice x1.ah x1.nh x1.ch]],26⟩,⟨w.heap.size+1,fl [bw B],31⟩,⟨w.heap.size+1+1,fl [[.int .u32 0],[.slice none 0 0],[.int .i64 0],[.int .u32 0],[.slice none 0 0]],26⟩] u3:=hB_
  clear hB_
  replace hW:=hide ((unhide hW).bz (unhide hzz_) hbt_)
  clear hbt_ hzz_
  simp only [nrm]
  refine wpList_nil ?_
  replace hB:=hide hB
  go_upto_region 8 with fail
  replace hB:=unhide hB
  refine wp_region_lit ?_
  refine lvk (.pointer (some ⟨w.heap.size,1,none⟩)) ?_
  simp only [nrm]
  refine list_val (.slice x1.ao x1.no x1.co) (by kernel_rfl) (exec_csO _ (.tmp 29) rfl (w.heap.size) 1 (by kernel_rfl) x1.ao x1.no x1.co (seg_cell (nC  _ _ _ _ _) (hB.get 0 (x:=⟨w.heap.size,fl [[.int .u32 c.nx],[.slice x1.ao x1.no x1.co],[.int .i64 c.tn],[.int .u32 c.dl],[.slice x1.ah x1.nh x1.ch]],26⟩) rfl) 1 (v:=.slice x1.ao x1.no x1.co) rfl rfl)) ?_
  simp only [nrm]
  refine lvk (.int .u32 c.nx) ?_
  simp only [nrm]
  refine list_val (.agg (fl [bw B])) (by kernel_rfl) (exec_sw _ 31 (.tmp 3) rfl (w.heap.size+1) (by kernel_rfl) (hB.get 1 (x:=⟨w.heap.size+1,fl [bw B],31⟩) rfl) NY (nY (unhide hY).1) Try.underlying31 rfl (by kernel_rfl)) ?_
  simp only [nrm]
  refine list_val (.agg (fl [[.int .u32 c.nx],bw B])) (by kernel_rfl) (bO01 _ (.tmp 31) (.tmp 32) rfl (unhide hY).1 (by kernel_rfl) (by kernel_rfl)) ?_
  simp only [nrm]
  refine list_valw (.slice (some ⟨u3.heap.size,0,none⟩) 1 1) (u3.alloc (.cells (fl [[.int .u32 c.nx],bw B]) 33 (0,0))) (by kernel_rfl) (exec_bso _ (.tmp 33) rfl ⟨c.nx,B⟩ (unhide hY).1 (by kernel_rfl)) ?_
  have hn0:=blk_new u3 (.cells (fl [[.int .u32 c.nx],bw B]) 33 (0,0))
  have hg:=(Gr.refl u3).alloc (.cells (fl [[.int .u32 c.nx],bw B]) 33 (0,0))
  replace hW:=hide ((unhide hW).gr hg)
  replace hB:=hB.more hg
  clear hg
  generalize World.alloc _ _=u4 at *
  generalize u3.heap.size=gn at *
  replace hn0:=hide hn0
  simp only [nrm]
  have hra:u4.rangeAt gn 0 (otr ⟨c.nx,B⟩):=fun t_ x_ ht_=>by
   refine cell_of (unhide hn0) ?_
   rw [Nat.zero_add]
   unfold fl
   rw [List.getElem?_toArray]
   exact ht_
  have hls:Lz 106 u4 (some ⟨gn,0,none⟩) 1 1 [otr ⟨c.nx,B⟩]:=⟨rfl,by intro r_ hr_; obtain rfl:=List.mem_singleton.1 hr_; exact otr_len ⟨hnx,unhide hY⟩,.inr ⟨gn,0,rfl,by rw [List.flatten_cons,List.flatten_nil,List.append_nil]; exact hra⟩,by omega,by omega⟩
  refine wpList_step fun K hK=>?_
  rw [if_pos (by kernel_rfl)]
  refine app_rowsW ltO (.tmp 30) (.tmp 34) rfl w.heap.size _ (c.O.map otr) (by kernel_rfl) (unhide hW).o (some ⟨gn,0,none⟩) 1 1 [otr ⟨c.nx,B⟩] (by kernel_rfl) hls (by
   intro r_ hr_ u_ hu_
   obtain rfl:=List.mem_singleton.1 hr_
   exact otr_one _ u_ hu_) (by rw [List.length_map]; omega) hB.gr.size ?_
  intro v1 u5 hO1 hgr
  refine hK _ _ ?_
  clear hK K
  replace hB:=hB.grownR (unhide hW).o (Nat.le_refl _) hgr (by intro y_ hy_; simp only [List.mem_cons,List.not_mem_nil,or_false] at hy_; rcases hy_ with rfl | rfl | rfl <;> (dsimp only; decide))
  have hH1:=or_grown (unhide hW).h (unhide hW).o hgr (by decide)
  have e1:c.O.map otr++[otr ⟨c.nx,B⟩]=(c.O++[(⟨c.nx,B⟩:Ot)]).map otr:=by simp
  have e2:(c.O.map otr++[otr ⟨c.nx,B⟩]).length=x1.no+1:=by rw [List.length_append,List.length_map,List.length_singleton]; omega
  obtain ⟨a9,c9,rfl,hls9⟩:=hO1.lz
  rw [e2] at hO1 ⊢
  rw [e1] at hO1
  clear hls9 hls hra hn0 hgr hW e1 e2
  have hW:Hid (Own w.heap.size u5 { c with nx:=c.nx+1,O:=c.O++[⟨c.nx,B⟩] } ⟨a9,x1.no+1,c9,x1.ah,x1.nh,x1.ch⟩):=⟨hO1,hH1⟩
  clear hO1 hH1
  simp only [nrm]
  refine lvk (.pointer (some ⟨w.heap.size,1,none⟩)) ?_
  simp only [nrm]
  have hzz_:Hid (u5.heap[w.heap.size]?=some (.cells (fl [[.int .u32 c.nx],[.slice x1.ao x1.no x1.co],[.int .i64 c.tn],[.int .u32 c.dl],[.slice x1.ah x1.nh x1.ch]]) 26 (0,0))):=hide (hB.get 0 (x:=⟨w.heap.size,fl [[.int .u32 c.nx],[.slice x1.ao x1.no x1.co],[.int .i64 c.tn],[.int .u32 c.dl],[.slice x1.ah x1.nh x1.ch]],26⟩) rfl)
  refine list_csO (.tmp 36) (.tmp 35) (w.heap.size) 1 a9 (x1.no+1) c9 (by kernel_rfl) rfl (by kernel_rfl) (by kernel_rfl) hB 0 rfl NC (nC  _ _ _ _ _) 1 _ rfl rfl ?_
  intro u6 hB_ hbt_
  clear hB
  replace hB:Bl w [⟨w.heap.size,fl [[.int .u32 c.nx],[.slice a9 (x1.no+1) c9],[.int .i64 c.tn],[.int .u32 c.dl],[.slice x1.ah x1.nh x1.ch]],26⟩,⟨w.heap.size+1,fl [bw B],31⟩,⟨w.heap.size+1+1,fl [[.int .u32 0],[.slice none 0 0],[.int .i64 0],[.int .u32 0],[.slice none 0 0]],26⟩] u6:=hB_
  clear hB_
  replace hW:=hide ((unhide hW).bz (unhide hzz_) hbt_)
  clear hbt_ hzz_
  simp only [nrm]
  refine wpList_nil ?_
  replace hB:=hide hB
  go_upto_region 9 with fail
  replace hB:=unhide hB
  refine wp_region_lit ?_
  refine lvk (.pointer (some ⟨w.heap.size,0,none⟩)) ?_
  simp only [nrm]
  refine list_val (.int .u32 c.nx) (by kernel_rfl) (exec_c32 _ (.tmp 37) rfl (w.heap.size) 0 (by kernel_rfl) c.nx (seg_cell (nC  _ _ _ _ _) (hB.get 0 (x:=⟨w.heap.size,fl [[.int .u32 c.nx],[.slice a9 (x1.no+1) c9],[.int .i64 c.tn],[.int .u32 c.dl],[.slice x1.ah x1.nh x1.ch]],26⟩) rfl) 0 (v:=.int .u32 c.nx) rfl rfl)) ?_
  simp only [nrm]
  refine list_val (.int .u32 (c.nx+1)) (by kernel_rfl) (add_32 _ (.tmp 38) (.const (.int .u32 1)) c.nx 1 rfl (by kernel_rfl) (by kernel_rfl) _ rfl (by omega)) ?_
  simp only [nrm]
  refine lvk (.pointer (some ⟨w.heap.size,0,none⟩)) ?_
  simp only [nrm]
  have hzz_:Hid (u6.heap[w.heap.size]?=some (.cells (fl [[.int .u32 c.nx],[.slice a9 (x1.no+1) c9],[.int .i64 c.tn],[.int .u32 c.dl],[.slice x1.ah x1.nh x1.ch]]) 26 (0,0))):=hide (hB.get 0 (x:=⟨w.heap.size,fl [[.int .u32 c.nx],[.slice a9 (x1.no+1) c9],[.int .i64 c.tn],[.int .u32 c.dl],[.slice x1.ah x1.nh x1.ch]],26⟩) rfl)
  refine list_c32 (.tmp 40) (.tmp 39) (w.heap.size) 0 (c.nx+1) (by kernel_rfl) rfl (by kernel_rfl) (by kernel_rfl) hB 0 rfl NC (nC  _ _ _ _ _) 0 _ rfl rfl ?_
  intro u7 hB_ hbt_
  clear hB
  replace hB:Bl w [⟨w.heap.size,fl [[.int .u32 (c.nx+1)],[.slice a9 (x1.no+1) c9],[.int .i64 c.tn],[.int .u32 c.dl],[.slice x1.ah x1.nh x1.ch]],26⟩,⟨w.heap.size+1,fl [bw B],31⟩,⟨w.heap.size+1+1,fl [[.int .u32 0],[.slice none 0 0],[.int .i64 0],[.int .u32 0],[.slice none 0 0]],26⟩] u7:=hB_
  clear hB_
  replace hW:=hide ((unhide hW).bz (unhide hzz_) hbt_)
  clear hbt_ hzz_
  simp only [nrm]
  refine wpList_nil ?_
  replace hB:=hide hB
  go_upto_region 10 with fail
  replace hB:=unhide hB
  refine wp_region_lit ?_
  refine list_val (.agg (fl [[.int .u32 (c.nx+1)],[.slice a9 (x1.no+1) c9],[.int .i64 c.tn],[.int .u32 c.dl],[.slice x1.ah x1.nh x1.ch]])) (by kernel_rfl) (exec_sw _ 26 (.tmp 2) rfl (w.heap.size) (by kernel_rfl) (hB.get 0 (x:=⟨w.heap.size,fl [[.int .u32 (c.nx+1)],[.slice a9 (x1.no+1) c9],[.int .i64 c.tn],[.int .u32 c.dl],[.slice x1.ah x1.nh x1.ch]],26⟩) rfl) NC (nC  _ _ _ _ _) Try.underlying26 rfl (by kernel_rfl)) ?_
  simp only [nrm]
  refine lvk (.int .u32 c.nx) ?_
  simp only [nrm]
  have hzz_:Hid (u7.heap[w.heap.size+1+1]?=some (.cells (fl [[.int .u32 0],[.slice none 0 0],[.int .i64 0],[.int .u32 0],[.slice none 0 0]]) 26 (0,0))):=hide (hB.get 2 (x:=⟨w.heap.size+1+1,fl [[.int .u32 0],[.slice none 0 0],[.int .i64 0],[.int .u32 0],[.slice none 0 0]],26⟩) rfl)
  refine list_all 26 (.tmp 4) (.tmp 41) (w.heap.size+1+1) (S2:=[[.int .u32 (c.nx+1)],[.slice a9 (x1.no+1) c9],[.int .i64 c.tn],[.int .u32 c.dl],[.slice x1.ah x1.nh x1.ch]]) (by kernel_rfl) rfl (by kernel_rfl) (by kernel_rfl) hB 2 rfl NC (nC  _ _ _ _ _) (nC  _ _ _ _ _) (by kernel_rfl) (oC  rfl rfl rfl rfl rfl) ?_
  intro u8 hB_ hbt_
  clear hB
  replace hB:Bl w [⟨w.heap.size,fl [[.int .u32 (c.nx+1)],[.slice a9 (x1.no+1) c9],[.int .i64 c.tn],[.int .u32 c.dl],[.slice x1.ah x1.nh x1.ch]],26⟩,⟨w.heap.size+1,fl [bw B],31⟩,⟨w.heap.size+1+1,fl [[.int .u32 (c.nx+1)],[.slice a9 (x1.no+1) c9],[.int .i64 c.tn],[.int .u32 c.dl],[.slice x1.ah x1.nh x1.ch]],26⟩] u8:=hB_
  clear hB_
  replace hW:=hide ((unhide hW).bz (unhide hzz_) hbt_)
  clear hbt_ hzz_
  simp only [nrm]
  (refine wpList_step fun K hK=>?_; replace hK:=hide hK; go_simp; refine unhide hK _ _ ?_; clear hK K)
  (refine wpList_step fun K hK=>?_; replace hK:=hide hK; go_simp; refine unhide hK _ _ ?_; clear hK K)
  refine wpList_nil ?_
  replace hB:=hide hB
  go_wp2_with fail
  replace hB:=unhide hB
  rw [unhide hT]
  rw [unhide hv]
  exact bodyPost_ret (v:=.tuple #[.agg (fl [[.int .u32 (c.nx+1)],[.slice a9 (x1.no+1) c9],[.int .i64 c.tn],[.int .u32 c.dl],[.slice x1.ah x1.nh x1.ch]]),.int .u32 c.nx,.int .i64 0]) (res3 Try.results11 (rv_cell (by kernel_rfl) (hB.get 2 (x:=⟨w.heap.size+1+1,fl [[.int .u32 (c.nx+1)],[.slice a9 (x1.no+1) c9],[.int .i64 c.tn],[.int .u32 c.dl],[.slice x1.ah x1.nh x1.ch]],26⟩) rfl) Try.underlying26 rfl (by rw [fl_size (nC  _ _ _ _ _)]; kernel_rfl)) (rv_tmp (by kernel_rfl)) (rv_tmp (by kernel_rfl))) rfl (⟨⟨a9,x1.no+1,c9,x1.ah,x1.nh,x1.ch⟩,rfl,(unhide hW).cin ⟨fun s hs=>(by rcases List.mem_append.1 hs with h | h; exact (unhide hc).o.1 s h; obtain rfl:=List.mem_singleton.1 h; exact ⟨hnx,unhide hY⟩),(unhide hc).h.1,by dsimp only; omega,(unhide hc).tn,(unhide hc).dl⟩,(unhide hW).owx,hB.gr⟩)
end Go.Proofs.Ytcefkkoombmndab
