/-
  What the proof leans on.
-/
import Derived.Test.YthahhglbeafkmaaGreatDoorMK12
namespace Go.Proofs.YthahhglbeafkmaaGreatDoor
open Go.RowKit
set_option maxRecDepth 100000
set_option linter.unusedSimpArgs false
set_option linter.unusedVariables false
theorem evB_isB {k s:Int} (a:Int) {B:List Int} (hr:evR k s B=true) (hb:IsB B):IsB (evB k a s B):=by
 have hk:k=1∨k=0:=by
  unfold evR at hr
  simp only [Bool.or_eq_true,Bool.and_eq_true,beq_iff_eq] at hr
  rcases hr with h | h
  ·exact .inl h
  ·exact .inr h.1
 refine isB_append (isB_append (isB_append ?_ (lowL_isB _ _)) (lowL_isB _ _)) hb
 intro x hx
 rw [List.mem_singleton.1 hx]
 omega
set_option maxHeartbeats 4000000 in
theorem vreal_zero (Ky:List Int) (hKy:Ky.length=32) (hKb:IsB Ky) (f:Bool) (k a s:Int) (B:List Int) (hB0:B.length=105) (hBb:IsB B) (ha:U4 a) (hs:U4 s) (w:World)  : Calls Tryz.prog 7 #[.agg (fl [bw Ky,[.bool f]]),.int .u64 0,.agg (fl [[.int .i64 k],[.int .u32 a],[.int .u32 s],bw B])] w (Vl (.tuple #[.agg (fl [bw Z16,bw Z130]),.int .i64 291]) w):=by
 obtain ⟨T,hT⟩:∃ T:Ending→World→Prop,T=(Vl (.tuple #[.agg (fl [bw Z16,bw Z130]),.int .i64 291]) w):=⟨_,rfl⟩
 rw [← hT]
 replace hT:=hide hT
 obtain ⟨A0_,hA0_⟩:∃ S_,S_=fl [bw Ky,[.bool f]]:=⟨_,rfl⟩
 rw [← hA0_]
 replace hA0_:=hide hA0_
 obtain ⟨A2_,hA2_⟩:∃ S_,S_=fl [[.int .i64 k],[.int .u32 a],[.int .u32 s],bw B]:=⟨_,rfl⟩
 rw [← hA2_]
 replace hA2_:=hide hA2_
 go_enter Tryz.func7,Tryz.ntmps7
 go_upto_region 1 with fail
 have hB:=((((Bl.nil w).new A0_ 25).new A2_ 30).new (fl [bw Z16,bw Z130]) 36)
 simp only [size_alloc,List.nil_append,List.cons_append] at hB
 rw [unhide hA0_,unhide hA2_] at hB
 generalize hu_:World.alloc _ _=u0
 replace hB:Bl w [⟨w.heap.size,fl [bw Ky,[.bool f]],25⟩,⟨w.heap.size+1,fl [[.int .i64 k],[.int .u32 a],[.int .u32 s],bw B],30⟩,⟨w.heap.size+1+1,fl [bw Z16,bw Z130],36⟩] u0:=by
  rw [← hu_]
  rw [unhide hA0_,unhide hA2_]
  exact hB
 clear hu_ hA0_ hA2_
 refine wp_region_lit ?_
 refine lvk (.int .u64 0) ?_
 simp only [nrm]
 refine list_val (.bool true) (by kernel_rfl) (eql_64 _ (.tmp 12) (.const (.int .u64 0)) 0 0 true rfl (by kernel_rfl) (by kernel_rfl) (by decide)) ?_
 simp only [nrm]
 refine wpList_nil ?_
 replace hB:=hide hB
 go_upto_region 2 with fail
 replace hB:=unhide hB
 refine wp_region_lit ?_
 refine list_val (.agg (fl [bw Z16,bw Z130])) (by kernel_rfl) (bX _ rfl) ?_
 simp only [nrm]
 refine list_all 36 (.tmp 6) (.tmp 14) (w.heap.size+1+1) (S2:=[bw Z16,bw Z130]) (by kernel_rfl) rfl (by kernel_rfl) (by kernel_rfl) hB 2 rfl NX (nX (show List.length Z16=16 from rfl) (show List.length Z130=130 from rfl)) (nX (show List.length Z16=16 from rfl) (show List.length Z130=130 from rfl)) (by kernel_rfl) (oX _ _) ?_
 intro u1 hB_ hbt_
 clear hB
 replace hB:Bl w [⟨w.heap.size,fl [bw Ky,[.bool f]],25⟩,⟨w.heap.size+1,fl [[.int .i64 k],[.int .u32 a],[.int .u32 s],bw B],30⟩,⟨w.heap.size+1+1,fl [bw Z16,bw Z130],36⟩] u1:=hB_
 clear hB_
 clear hbt_
 simp only [nrm]
 (refine wpList_step fun K hK=>?_; replace hK:=hide hK; go_simp; refine unhide hK _ _ ?_; clear hK K)
 refine wpList_nil ?_
 replace hB:=hide hB
 go_wp2_with fail
 replace hB:=unhide hB
 rw [unhide hT]
 exact bodyPost_ret (v:=.tuple #[.agg (fl [bw Z16,bw Z130]),.int .i64 291]) (res2 Tryz.results7 (rv_cell (by kernel_rfl) (hB.get 2 (x:=⟨w.heap.size+1+1,fl [bw Z16,bw Z130],36⟩) rfl) Tryz.underlying36 rfl (by rw [fl_size (nX (show List.length Z16=16 from rfl) (show List.length Z130=130 from rfl))]; kernel_rfl)) (rv_tmp (by kernel_rfl))) rfl (⟨rfl,hB.gr⟩)
set_option maxHeartbeats 4000000 in
theorem vreal_bad (Ky:List Int) (hKy:Ky.length=32) (hKb:IsB Ky) (f:Bool) (k a s:Int) (B:List Int) (hB0:B.length=105) (hBb:IsB B) (ha:U4 a) (hs:U4 s) (r:Int) (w:World) (hr0:r≠0) (he:evR k s B=false):Calls Tryz.prog 7 #[.agg (fl [bw Ky,[.bool f]]),.int .u64 r,.agg (fl [[.int .i64 k],[.int .u32 a],[.int .u32 s],bw B])] w (Vl (.tuple #[.agg (fl [bw Z16,bw Z130]),.int .i64 241]) w):=by
 obtain ⟨T,hT⟩:∃ T:Ending→World→Prop,T=(Vl (.tuple #[.agg (fl [bw Z16,bw Z130]),.int .i64 241]) w):=⟨_,rfl⟩
 rw [← hT]
 replace hT:=hide hT
 obtain ⟨A0_,hA0_⟩:∃ S_,S_=fl [bw Ky,[.bool f]]:=⟨_,rfl⟩
 rw [← hA0_]
 replace hA0_:=hide hA0_
 obtain ⟨A2_,hA2_⟩:∃ S_,S_=fl [[.int .i64 k],[.int .u32 a],[.int .u32 s],bw B]:=⟨_,rfl⟩
 rw [← hA2_]
 replace hA2_:=hide hA2_
 replace he:=hide he
 go_enter Tryz.func7,Tryz.ntmps7
 go_upto_region 1 with fail
 have hB:=((((Bl.nil w).new A0_ 25).new A2_ 30).new (fl [bw Z16,bw Z130]) 36)
 simp only [size_alloc,List.nil_append,List.cons_append] at hB
 rw [unhide hA0_,unhide hA2_] at hB
 generalize hu_:World.alloc _ _=u0
 replace hB:Bl w [⟨w.heap.size,fl [bw Ky,[.bool f]],25⟩,⟨w.heap.size+1,fl [[.int .i64 k],[.int .u32 a],[.int .u32 s],bw B],30⟩,⟨w.heap.size+1+1,fl [bw Z16,bw Z130],36⟩] u0:=by
  rw [← hu_]
  rw [unhide hA0_,unhide hA2_]
  exact hB
 clear hu_ hA0_ hA2_
 refine wp_region_lit ?_
 refine lvk (.int .u64 r) ?_
 simp only [nrm]
 refine list_val (.bool false) (by kernel_rfl) (eql_64 _ (.tmp 12) (.const (.int .u64 0)) r 0 false rfl (by kernel_rfl) (by kernel_rfl) (decide_eq_false hr0)) ?_
 simp only [nrm]
 refine wpList_nil ?_
 replace hB:=hide hB
 go_upto_region 3 with fail
 replace hB:=unhide hB
 refine wp_region_lit ?_
 refine list_val (.agg (fl [[.int .i64 k],[.int .u32 a],[.int .u32 s],bw B])) (by kernel_rfl) (exec_sw _ 30 (.tmp 5) rfl (w.heap.size+1) (by kernel_rfl) (hB.get 1 (x:=⟨w.heap.size+1,fl [[.int .i64 k],[.int .u32 a],[.int .u32 s],bw B],30⟩) rfl) NE (nE hB0 _ _ _) Tryz.underlying30 rfl (by kernel_rfl)) ?_
 simp only [nrm]
 refine list_call 21 #[.agg (fl [[.int .i64 k],[.int .u32 a],[.int .u32 s],bw B])] (by kernel_rfl) (by kernel_rfl) ((putef_no k a s B hB0 hBb ha hs (unhide he) u0).mono ?_)
 rintro r_ u1 ⟨rfl,hg⟩
 replace hB:=hB.more hg
 clear hg
 refine ⟨_,rfl,?_⟩
 simp only [nrm]
 refine lvk (.tuple #[.slice none 0 0,.int .i64 241]) ?_
 simp only [nrm]
 refine lvk (.slice none 0 0) ?_
 simp only [nrm]
 refine lvk (.int .i64 241) ?_
 simp only [nrm]
 (refine wpList_step fun K hK=>?_; replace hK:=hide hK; go_simp; refine unhide hK _ _ ?_; clear hK K)
 (refine wpList_step fun K hK=>?_; replace hK:=hide hK; go_simp; refine unhide hK _ _ ?_; clear hK K)
 refine wpList_nil ?_
 replace hB:=hide hB
 go_upto_region 4 with fail
 replace hB:=unhide hB
 refine wp_region_lit ?_
 refine lvk (.int .i64 241) ?_
 simp only [nrm]
 refine list_val (.bool true) (by kernel_rfl) (neq_e _ (.tmp 20) (.const (.int .i64 0)) 241 0 true rfl (by kernel_rfl) (by kernel_rfl) (by decide)) ?_
 simp only [nrm]
 refine wpList_nil ?_
 replace hB:=hide hB
 go_upto_region 5 with fail
 replace hB:=unhide hB
 refine wp_region_lit ?_
 refine list_val (.agg (fl [bw Z16,bw Z130])) (by kernel_rfl) (bX _ rfl) ?_
 simp only [nrm]
 refine lvk (.int .i64 241) ?_
 simp only [nrm]
 refine list_all 36 (.tmp 6) (.tmp 22) (w.heap.size+1+1) (S2:=[bw Z16,bw Z130]) (by kernel_rfl) rfl (by kernel_rfl) (by kernel_rfl) hB 2 rfl NX (nX (show List.length Z16=16 from rfl) (show List.length Z130=130 from rfl)) (nX (show List.length Z16=16 from rfl) (show List.length Z130=130 from rfl)) (by kernel_rfl) (oX _ _) ?_
 intro u2 hB_ hbt_
 clear hB
 replace hB:Bl w [⟨w.heap.size,fl [bw Ky,[.bool f]],25⟩,⟨w.heap.size+1,fl [[.int .i64 k],[.int .u32 a],[.int .u32 s],bw B],30⟩,⟨w.heap.size+1+1,fl [bw Z16,bw Z130],36⟩] u2:=hB_
 clear hB_
 clear hbt_
 simp only [nrm]
 (refine wpList_step fun K hK=>?_; replace hK:=hide hK; go_simp; refine unhide hK _ _ ?_; clear hK K)
 refine wpList_nil ?_
 replace hB:=hide hB
 go_wp2_with fail
 replace hB:=unhide hB
 rw [unhide hT]
 exact bodyPost_ret (v:=.tuple #[.agg (fl [bw Z16,bw Z130]),.int .i64 241]) (res2 Tryz.results7 (rv_cell (by kernel_rfl) (hB.get 2 (x:=⟨w.heap.size+1+1,fl [bw Z16,bw Z130],36⟩) rfl) Tryz.underlying36 rfl (by rw [fl_size (nX (show List.length Z16=16 from rfl) (show List.length Z130=130 from rfl))]; kernel_rfl)) (rv_tmp (by kernel_rfl))) rfl (⟨rfl,hB.gr⟩)
set_option maxHeartbeats 4000000 in
theorem vreal_ok (Ky:List Int) (hKy:Ky.length=32) (hKb:IsB Ky) (f:Bool) (k a s:Int) (B:List Int) (hB0:B.length=105) (hBb:IsB B) (ha:U4 a) (hs:U4 s) (r:Int) (hr:0≤r) (Y N D P C:List Int) (w:World) (hF:Fst w) (hr0:r≠0) (he:evR k s B=true) (hY:Y=rkL r Ky f true) (hN:N=cntL r) (hD:D=drL r Ky) (hP:P=evB k a s B) (hC:C=sealL Y N D P):Calls Tryz.prog 7 #[.agg (fl [bw Ky,[.bool f]]),.int .u64 r,.agg (fl [[.int .i64 k],[.int .u32 a],[.int .u32 s],bw B])] w (Vl (.tuple #[.agg (fl [bw D,bw C]),.int .i64 0]) w):=by
 obtain ⟨T,hT⟩:∃ T:Ending→World→Prop,T=(Vl (.tuple #[.agg (fl [bw D,bw C]),.int .i64 0]) w):=⟨_,rfl⟩
 rw [← hT]
 replace hT:=hide hT
 have hYl:Y.length=32:=by rw [hY]; exact rkL_len _ _ _ _
 have hNl:N.length=12:=by rw [hN]; exact cntL_len _
 have hDl:D.length=16:=by rw [hD]; exact drL_len _ _
 have hYb:IsB Y:=by rw [hY]; exact rkL_isB _ _ _ _
 have hNb:IsB N:=by rw [hN]; exact cntL_isB _
 have hDb:IsB D:=by rw [hD]; exact drL_isB _ _
 have hPl:P.length=114:=by rw [hP]; exact evB_len _ _ _ hB0
 have hPb:IsB P:=by rw [hP]; exact evB_isB a he hBb
 have hCl:C.length=130:=by rw [hC,sealL_len',hPl]
 have hCb:IsB C:=by rw [hC]; exact sealL_isB _ _ _ _
 obtain ⟨A0_,hA0_⟩:∃ S_,S_=fl [bw Ky,[.bool f]]:=⟨_,rfl⟩
 rw [← hA0_]
 replace hA0_:=hide hA0_
 obtain ⟨A2_,hA2_⟩:∃ S_,S_=fl [[.int .i64 k],[.int .u32 a],[.int .u32 s],bw B]:=⟨_,rfl⟩
 rw [← hA2_]
 replace hA2_:=hide hA2_
 replace hY:=hide hY
 replace hN:=hide hN
 replace hD:=hide hD
 replace hF:=hide hF
 replace hKb:=hide hKb
 replace hYb:=hide hYb
 replace hNb:=hide hNb
 replace hDb:=hide hDb
 replace he:=hide he
 replace hP:=hide hP
 replace hC:=hide hC
 replace hPb:=hide hPb
 replace hCb:=hide hCb
 replace hBb:=hide hBb
 go_enter Tryz.func7,Tryz.ntmps7
 go_upto_region 1 with fail
 have hB:=((((Bl.nil w).new A0_ 25).new A2_ 30).new (fl [bw Z16,bw Z130]) 36)
 simp only [size_alloc,List.nil_append,List.cons_append] at hB
 rw [unhide hA0_,unhide hA2_] at hB
 generalize hu_:World.alloc _ _=u0
 replace hB:Bl w [⟨w.heap.size,fl [bw Ky,[.bool f]],25⟩,⟨w.heap.size+1,fl [[.int .i64 k],[.int .u32 a],[.int .u32 s],bw B],30⟩,⟨w.heap.size+1+1,fl [bw Z16,bw Z130],36⟩] u0:=by
  rw [← hu_]
  rw [unhide hA0_,unhide hA2_]
  exact hB
 clear hu_ hA0_ hA2_
 refine wp_region_lit ?_
 refine lvk (.int .u64 r) ?_
 simp only [nrm]
 refine list_val (.bool false) (by kernel_rfl) (eql_64 _ (.tmp 12) (.const (.int .u64 0)) r 0 false rfl (by kernel_rfl) (by kernel_rfl) (decide_eq_false hr0)) ?_
 simp only [nrm]
 refine wpList_nil ?_
 replace hB:=hide hB
 go_upto_region 3 with fail
 replace hB:=unhide hB
 refine wp_region_lit ?_
 refine list_val (.agg (fl [[.int .i64 k],[.int .u32 a],[.int .u32 s],bw B])) (by kernel_rfl) (exec_sw _ 30 (.tmp 5) rfl (w.heap.size+1) (by kernel_rfl) (hB.get 1 (x:=⟨w.heap.size+1,fl [[.int .i64 k],[.int .u32 a],[.int .u32 s],bw B],30⟩) rfl) NE (nE hB0 _ _ _) Tryz.underlying30 rfl (by kernel_rfl)) ?_
 simp only [nrm]
 refine list_call 21 #[.agg (fl [[.int .i64 k],[.int .u32 a],[.int .u32 s],bw B])] (by kernel_rfl) (by kernel_rfl) ((((show Calls Tryz.prog 21 #[.agg (fl [[.int .i64 k],[.int .u32 a],[.int .u32 s],bw B])] u0 (Pok P u0) from by rw [unhide hP]; exact putef_ok k a s B hB0 (unhide hBb) ha hs (unhide he) u0).mono fun _ _ h=>okx_pok h hB.gr.size)).mono ?_)
 rintro r_ u1 ⟨v1,rfl,ho,hg⟩
 replace hB:=hB.more hg
 clear hg
 obtain ⟨a1,c1,rfl,lp⟩:=ho.lb' (unhide hPb) 114 hPl
 clear ho
 replace lp:=hide lp
 have hs1:Hid (Sn u1 u1):=Gr.refl _
 refine ⟨_,rfl,?_⟩
 simp only [nrm]
 refine lvk (.tuple #[.slice a1 114 c1,.int .i64 0]) ?_
 simp only [nrm]
 refine lvk (.slice a1 114 c1) ?_
 simp only [nrm]
 refine lvk (.int .i64 0) ?_
 simp only [nrm]
 (refine wpList_step fun K hK=>?_; replace hK:=hide hK; go_simp; refine unhide hK _ _ ?_; clear hK K)
 (refine wpList_step fun K hK=>?_; replace hK:=hide hK; go_simp; refine unhide hK _ _ ?_; clear hK K)
 refine wpList_nil ?_
 replace hB:=hide hB
 go_upto_region 4 with fail
 replace hB:=unhide hB
 refine wp_region_lit ?_
 refine lvk (.int .i64 0) ?_
 simp only [nrm]
 refine list_val (.bool false) (by kernel_rfl) (neq_e _ (.tmp 20) (.const (.int .i64 0)) 0 0 false rfl (by kernel_rfl) (by kernel_rfl) (by decide)) ?_
 simp only [nrm]
 refine wpList_nil ?_
 replace hB:=hide hB
 go_upto_region 6 with fail
 replace hB:=unhide hB
 refine wp_region_lit ?_
 refine list_val (.agg (fl [bw Ky,[.bool f]])) (by kernel_rfl) (exec_sw _ 25 (.tmp 3) rfl (w.heap.size) (by kernel_rfl) (hB.get 0 (x:=⟨w.heap.size,fl [bw Ky,[.bool f]],25⟩) rfl) NP (nP hKy _) Tryz.underlying25 rfl (by kernel_rfl)) ?_
 simp only [nrm]
 refine lvk (.int .u64 r) ?_
 simp only [nrm]
 refine list_call 22 #[.agg (fl [bw Ky,[.bool f]]),.int .u64 r,.int .i64 0] (by kernel_rfl) (by kernel_rfl) ((terms_peer r hr Ky hKy (unhide hKb) f Y N D u1 ((unhide hF).gr hB.gr) (unhide hY) (unhide hN) (unhide hD)).mono ?_)
 rintro r_ u2 ⟨rfl,hg⟩
 replace hs1:=hide ((unhide hs1).gr hg)
 replace hB:=hB.more hg
 clear hg
 refine ⟨_,rfl,?_⟩
 simp only [nrm]
 have hge_hs1_10:=(unhide hs1).size
 refine list_valw (.pointer (some ⟨u2.heap.size,0,none⟩)) (u2.alloc (.cells (fl [bw Z32,bw ZN,bw Z16]) 66 (0,0))) (by kernel_rfl) (by kernel_rfl) ?_
 replace hB:=hB.new (fl [bw Z32,bw ZN,bw Z16]) 66
 simp only [List.nil_append,List.cons_append] at hB
 have hg:=(Gr.refl u2).alloc (.cells (fl [bw Z32,bw ZN,bw Z16]) 66 (0,0))
 replace hs1:=hide ((unhide hs1).gr hg)
 clear hg
 generalize World.alloc _ _=u3 at *
 generalize u2.heap.size=g10 at *
 replace hB:Bl w [⟨w.heap.size,fl [bw Ky,[.bool f]],25⟩,⟨w.heap.size+1,fl [[.int .i64 k],[.int .u32 a],[.int .u32 s],bw B],30⟩,⟨w.heap.size+1+1,fl [bw Z16,bw Z130],36⟩,⟨g10,fl [bw Z32,bw ZN,bw Z16],66⟩] u3:=hB
 simp only [nrm]
 have hzz_:Hid (u3.heap[g10]?=some (.cells (fl [bw Z32,bw ZN,bw Z16]) 66 (0,0))):=hide (hB.get 3 (x:=⟨g10,fl [bw Z32,bw ZN,bw Z16],66⟩) rfl)
 refine list_all 66 (.tmp 10) (.tmp 26) (g10) (S2:=[bw Y,bw N,bw D]) (by kernel_rfl) rfl (by kernel_rfl) (by kernel_rfl) hB 3 rfl NTm (nT (show List.length Z32=32 from rfl) (show List.length ZN=12 from rfl) (show List.length Z16=16 from rfl)) (nT hYl hNl hDl) (by kernel_rfl) (oT _ _ _) ?_
 intro u4 hB_ hbt_
 clear hB
 replace hB:Bl w [⟨w.heap.size,fl [bw Ky,[.bool f]],25⟩,⟨w.heap.size+1,fl [[.int .i64 k],[.int .u32 a],[.int .u32 s],bw B],30⟩,⟨w.heap.size+1+1,fl [bw Z16,bw Z130],36⟩,⟨g10,fl [bw Y,bw N,bw D],66⟩] u4:=hB_
 clear hB_
 replace hs1:=hide ((unhide hs1).bt hbt_ hge_hs1_10)
 clear hbt_ hzz_
 simp only [nrm]
 refine wpList_nil ?_
 replace hB:=hide hB
 go_upto_region 7 with fail
 replace hB:=unhide hB
 refine wp_region_lit ?_
 refine lvk (.pointer (some ⟨g10,44,none⟩)) ?_
 simp only [nrm]
 refine list_val (.agg (kc D)) (by kernel_rfl) (exec_sa _ 33 (.tmp 27) rfl (g10) 44 (by kernel_rfl) (hB.get 3 (x:=⟨g10,fl [bw Y,bw N,bw D],66⟩) rfl) NTm (nT hYl hNl hDl) 2 D rfl rfl Tryz.underlying33 rfl (n:=16) rfl Tryz.infoDrop) ?_
 simp only [nrm]
 refine list_val (.agg (fl [bw D,bw Z130])) (by kernel_rfl) (bX0 _ (.tmp 28) rfl hDl (by kernel_rfl)) ?_
 simp only [nrm]
 have hge_hs1_11:=(unhide hs1).size
 refine list_valw (.pointer (some ⟨u4.heap.size,0,none⟩)) (u4.alloc (.cells (fl [bw Z16,bw Z130]) 36 (0,0))) (by kernel_rfl) (by kernel_rfl) ?_
 replace hB:=hB.new (fl [bw Z16,bw Z130]) 36
 simp only [List.nil_append,List.cons_append] at hB
 have hg:=(Gr.refl u4).alloc (.cells (fl [bw Z16,bw Z130]) 36 (0,0))
 replace hs1:=hide ((unhide hs1).gr hg)
 clear hg
 generalize World.alloc _ _=u5 at *
 generalize u4.heap.size=g11 at *
 replace hB:Bl w [⟨w.heap.size,fl [bw Ky,[.bool f]],25⟩,⟨w.heap.size+1,fl [[.int .i64 k],[.int .u32 a],[.int .u32 s],bw B],30⟩,⟨w.heap.size+1+1,fl [bw Z16,bw Z130],36⟩,⟨g10,fl [bw Y,bw N,bw D],66⟩,⟨g11,fl [bw Z16,bw Z130],36⟩] u5:=hB
 simp only [nrm]
 have hzz_:Hid (u5.heap[g11]?=some (.cells (fl [bw Z16,bw Z130]) 36 (0,0))):=hide (hB.get 4 (x:=⟨g11,fl [bw Z16,bw Z130],36⟩) rfl)
 refine list_all 36 (.tmp 11) (.tmp 29) (g11) (S2:=[bw D,bw Z130]) (by kernel_rfl) rfl (by kernel_rfl) (by kernel_rfl) hB 4 rfl NX (nX (show List.length Z16=16 from rfl) (show List.length Z130=130 from rfl)) (nX hDl (show List.length Z130=130 from rfl)) (by kernel_rfl) (oX _ _) ?_
 intro u6 hB_ hbt_
 clear hB
 replace hB:Bl w [⟨w.heap.size,fl [bw Ky,[.bool f]],25⟩,⟨w.heap.size+1,fl [[.int .i64 k],[.int .u32 a],[.int .u32 s],bw B],30⟩,⟨w.heap.size+1+1,fl [bw Z16,bw Z130],36⟩,⟨g10,fl [bw Y,bw N,bw D],66⟩,⟨g11,fl [bw D,bw Z130],36⟩] u6:=hB_
 clear hB_
 replace hs1:=hide ((unhide hs1).bt hbt_ hge_hs1_11)
 clear hbt_ hzz_
 simp only [nrm]
 refine wpList_nil ?_
 replace hB:=hide hB
 go_upto_region 8 with fail
 replace hB:=unhide hB
 refine any_start (S:=fun v_=>v_.heap[g10]?=some (.cells (fl [bw Y,bw N,bw D]) 66 (0,0))) (by kernel_rfl) ?_
 replace hs1:=hide ((unhide hs1).gr ((Gr.refl u6).drew))
 replace hB:=hB.drew
 generalize World.drew _=u7 at *
 simp only [List.size_toArray,List.length_cons,List.length_nil,Array.replicate,List.replicate]
 have hS_:=hide (show (fun v_=>v_.heap[g10]?=some (.cells (fl [bw Y,bw N,bw D]) 66 (0,0))) u7 from (hB.get 3 (x:=⟨g10,fl [bw Y,bw N,bw D],66⟩) rfl))
 refine any_tk 0 (.pointer (some ⟨g11,16,none⟩)) (tf 6 0) rfl (fun x_ hu=>by kernel_rfl) (unhide hS_) ?_
 simp only [nrm]
 refine any_tk 1 (.slice (some ⟨g11,16,none⟩) 130 130) (tf 6 1) rfl (fun x_ hu=>by kernel_rfl) (unhide hS_) ?_
 simp only [nrm]
 refine any_tk 2 (.agg (fl [bw Y,bw N,bw D])) (tf 6 2) rfl (fun x_ hu=>exec_sw _ 66 (.tmp 10) rfl (g10) (by kernel_rfl) hu NTm (nT hYl hNl hDl) Tryz.underlying66 rfl (by kernel_rfl)) (unhide hS_) ?_
 simp only [nrm]
 refine any_tk 3 (.slice a1 114 c1) (tf 6 3) rfl (fun x_ hu=>by kernel_rfl) (unhide hS_) ?_
 simp only [nrm]
 refine any_one (i:=4) (by kernel_rfl) rfl (fun K hK=>?_)
 refine step_callw (by kernel_rfl) 23 #[.agg (fl [bw Y,bw N,bw D]),.slice a1 114 c1] (by kernel_rfl) ((((show Calls Tryz.prog 23 #[.agg (fl [bw Y,bw N,bw D]),.slice a1 114 c1] u7 (Obd C u7) from by rw [unhide hC]; exact vseal_ok Y N D hYl hNl hDl (unhide hYb) (unhide hNb) (unhide hDb) P a1 114 c1 (by decide) u7 ((unhide lp).gr (unhide hs1).g)).mono fun _ _ h=>obx_of h hB.gr.size)).mono ?_)
 rintro r_ u8 ⟨v2,rfl,ho,hg⟩
 replace hs1:=hide ((unhide hs1).gr hg)
 replace hB:=hB.more hg
 clear hg
 obtain ⟨a2,c2,rfl,l2⟩:=ho.lb' (unhide hCb) 130 hCl
 clear ho
 replace l2:=hide l2
 refine ⟨_,rfl,?_⟩
 clear hS_
 have hS_:=hide (show (fun v_=>v_.heap[g10]?=some (.cells (fl [bw Y,bw N,bw D]) 66 (0,0))) u8 from (hB.get 3 (x:=⟨g10,fl [bw Y,bw N,bw D],66⟩) rfl))
 refine hK.out _ _ (unhide hS_) (fun _=>?_)
 clear hK K
 simp only [nrm]
 refine any_one (i:=5) (by kernel_rfl) rfl (fun K hK=>?_)
 rw [if_pos (by kernel_rfl)]
 refine copy_wp (.tmp 31) (.tmp 34) rfl (g11) 16 130 130 (a2) 130 c2 (by kernel_rfl) (by kernel_rfl) ([bw D,bw Z130].flatten) 36 (hB.get 4 (x:=⟨g11,fl [bw D,bw Z130],36⟩) rfl) C (by rw [hCl]; rfl) ((unhide l2).sl) (by rw [fl_flat (nX hDl (show List.length Z130=130 from rfl)),hCl]; decide) ?_
 replace hB:=hB.cells 4 (C:=([bw D,bw Z130].flatten)) rfl 16 (bw C)
 rw [show 16=(List.take 1 NX).sum from rfl,seg_set (nX hDl (show List.length Z130=130 from rfl)) 1 (bw C) (by rw [bw_len,hCl]; rfl)] at hB
 simp only [List.set_cons_zero,List.set_cons_succ] at hB
 replace hs1:=hide ((unhide hs1).bt (setCells_bt (List.map (Value.int .u8) C) u8 g11 16) hge_hs1_11)
 replace hB:Bl w [⟨w.heap.size,fl [bw Ky,[.bool f]],25⟩,⟨w.heap.size+1,fl [[.int .i64 k],[.int .u32 a],[.int .u32 s],bw B],30⟩,⟨w.heap.size+1+1,fl [bw Z16,bw Z130],36⟩,⟨g10,fl [bw Y,bw N,bw D],66⟩,⟨g11,fl [bw D,bw C],36⟩] (World.setCells u8 g11 16 (List.map (Value.int .u8) C)):=hB
 generalize World.setCells u8 g11 16 (List.map (Value.int .u8) C)=u9 at *
 clear hS_
 have hS_:=hide (show (fun v_=>v_.heap[g10]?=some (.cells (fl [bw Y,bw N,bw D]) 66 (0,0))) u9 from (hB.get 3 (x:=⟨g10,fl [bw Y,bw N,bw D],66⟩) rfl))
 refine hK.out _ _ (unhide hS_) (fun _=>?_)
 clear hK K
 simp only [nrm]
 refine any_done (by kernel_rfl) ?_
 clear hS_
 replace hB:=hide hB
 go_upto_region 9 with fail
 replace hB:=unhide hB
 refine wp_region_lit ?_
 refine list_val (.agg (fl [bw D,bw C])) (by kernel_rfl) (exec_sw _ 36 (.tmp 11) rfl (g11) (by kernel_rfl) (hB.get 4 (x:=⟨g11,fl [bw D,bw C],36⟩) rfl) NX (nX hDl hCl) Tryz.underlying36 rfl (by kernel_rfl)) ?_
 simp only [nrm]
 refine list_all 36 (.tmp 6) (.tmp 36) (w.heap.size+1+1) (S2:=[bw D,bw C]) (by kernel_rfl) rfl (by kernel_rfl) (by kernel_rfl) hB 2 rfl NX (nX (show List.length Z16=16 from rfl) (show List.length Z130=130 from rfl)) (nX hDl hCl) (by kernel_rfl) (oX _ _) ?_
 intro u10 hB_ hbt_
 clear hB
 replace hB:Bl w [⟨w.heap.size,fl [bw Ky,[.bool f]],25⟩,⟨w.heap.size+1,fl [[.int .i64 k],[.int .u32 a],[.int .u32 s],bw B],30⟩,⟨w.heap.size+1+1,fl [bw D,bw C],36⟩,⟨g10,fl [bw Y,bw N,bw D],66⟩,⟨g11,fl [bw D,bw C],36⟩] u10:=hB_
 clear hB_
 clear hbt_
 simp only [nrm]
 (refine wpList_step fun K hK=>?_; replace hK:=hide hK; go_simp; refine unhide hK _ _ ?_; clear hK K)
 refine wpList_nil ?_
 replace hB:=hide hB
 go_wp2_with fail
 replace hB:=unhide hB
 rw [unhide hT]
 exact bodyPost_ret (v:=.tuple #[.agg (fl [bw D,bw C]),.int .i64 0]) (res2 Tryz.results7 (rv_cell (by kernel_rfl) (hB.get 2 (x:=⟨w.heap.size+1+1,fl [bw D,bw C],36⟩) rfl) Tryz.underlying36 rfl (by rw [fl_size (nX hDl hCl)]; kernel_rfl)) (rv_tmp (by kernel_rfl))) rfl (⟨rfl,hB.gr⟩)
set_option maxHeartbeats 4000000 in
theorem vread_ok (Ky:List Int) (hKy:Ky.length=32) (hKb:IsB Ky) (f:Bool) (r:Int) (hr:0≤r) (s:Option Addr) (n c:Nat) (hn:n≤20000) (Y N D L:List Int) (P:List Int) (ek ea es:Int) (eB:List Int) (w:World) (hF:Fst w) (hu:∀ u,Gr w u→Calls Tryz.prog 29 #[.int .u64 r,.slice s n c] u (Vl (.int .i64 0) u)) (hY:Y=rkL r Ky f false) (hN:N=cntL r) (hD:D=drL r Ky) (lp:Lb w s n c L) (hPl:P.length=114) (hPb:IsB P) (hL:L=sealL Y N D P) (he:evRO P=true) (hev:evS P=[[.int .i64 ek],[.int .u32 ea],[.int .u32 es],bw eB]) (heB:eB.length=105):Calls Tryz.prog 10 #[.agg (fl [bw Ky,[.bool f]]),.int .u64 r,.slice s n c] w (Vl (.tuple #[.agg (fl [[.int .i64 ek],[.int .u32 ea],[.int .u32 es],bw eB]),.int .i64 0]) w):=by
 obtain ⟨T,hT⟩:∃ T:Ending→World→Prop,T=(Vl (.tuple #[.agg (fl [[.int .i64 ek],[.int .u32 ea],[.int .u32 es],bw eB]),.int .i64 0]) w):=⟨_,rfl⟩
 rw [← hT]
 replace hT:=hide hT
 have hYl:Y.length=32:=by rw [hY]; exact rkL_len _ _ _ _
 have hNl:N.length=12:=by rw [hN]; exact cntL_len _
 have hDl:D.length=16:=by rw [hD]; exact drL_len _ _
 have hYb:IsB Y:=by rw [hY]; exact rkL_isB _ _ _ _
 have hNb:IsB N:=by rw [hN]; exact cntL_isB _
 have hDb:IsB D:=by rw [hD]; exact drL_isB _ _
 obtain ⟨A0_,hA0_⟩:∃ S_,S_=fl [bw Ky,[.bool f]]:=⟨_,rfl⟩
 rw [← hA0_]
 replace hA0_:=hide hA0_
 replace hY:=hide hY
 replace hN:=hide hN
 replace hD:=hide hD
 replace hF:=hide hF
 replace hKb:=hide hKb
 replace hYb:=hide hYb
 replace hNb:=hide hNb
 replace hDb:=hide hDb
 replace hu:=hide hu
 replace lp:=hide lp
 replace hPb:=hide hPb
 replace hL:=hide hL
 replace he:=hide he
 replace hev:=hide hev
 go_enter Tryz.func10,Tryz.ntmps10
 go_upto_region 1 with fail
 have hB:=(((Bl.nil w).new A0_ 25).new (fl [[.int .i64 0],[.int .u32 0],[.int .u32 0],bw Z105]) 30)
 simp only [size_alloc,List.nil_append,List.cons_append] at hB
 rw [unhide hA0_] at hB
 generalize hu_:World.alloc _ _=u0
 replace hB:Bl w [⟨w.heap.size,fl [bw Ky,[.bool f]],25⟩,⟨w.heap.size+1,fl [[.int .i64 0],[.int .u32 0],[.int .u32 0],bw Z105],30⟩] u0:=by
  rw [← hu_]
  rw [unhide hA0_]
  exact hB
 clear hu_ hA0_
 refine wp_region_lit ?_
 refine lvk (.int .u64 r) ?_
 simp only [nrm]
 refine lvk (.slice s n c) ?_
 simp only [nrm]
 refine list_call 29 #[.int .u64 r,.slice s n c] (by kernel_rfl) (by kernel_rfl) ((unhide hu u0 hB.gr).mono ?_)
 rintro r_ u1 ⟨rfl,hg⟩
 replace hB:=hB.more hg
 clear hg
 refine ⟨_,rfl,?_⟩
 simp only [nrm]
 (refine wpList_step fun K hK=>?_; replace hK:=hide hK; go_simp; refine unhide hK _ _ ?_; clear hK K)
 refine wpList_nil ?_
 replace hB:=hide hB
 go_upto_region 2 with fail
 replace hB:=unhide hB
 refine wp_region_lit ?_
 refine lvk (.int .i64 0) ?_
 simp only [nrm]
 refine list_val (.bool false) (by kernel_rfl) (neq_e _ (.tmp 14) (.const (.int .i64 0)) 0 0 false rfl (by kernel_rfl) (by kernel_rfl) (by decide)) ?_
 simp only [nrm]
 refine wpList_nil ?_
 replace hB:=hide hB
 go_upto_region 4 with fail
 replace hB:=unhide hB
 refine wp_region_lit ?_
 refine list_val (.agg (fl [bw Ky,[.bool f]])) (by kernel_rfl) (exec_sw _ 25 (.tmp 3) rfl (w.heap.size) (by kernel_rfl) (hB.get 0 (x:=⟨w.heap.size,fl [bw Ky,[.bool f]],25⟩) rfl) NP (nP hKy _) Tryz.underlying25 rfl (by kernel_rfl)) ?_
 simp only [nrm]
 refine lvk (.int .u64 r) ?_
 simp only [nrm]
 refine list_call 22 #[.agg (fl [bw Ky,[.bool f]]),.int .u64 r,.int .i64 1] (by kernel_rfl) (by kernel_rfl) ((terms_me r hr Ky hKy (unhide hKb) f Y N D u1 ((unhide hF).gr hB.gr) (unhide hY) (unhide hN) (unhide hD)).mono ?_)
 rintro r_ u2 ⟨rfl,hg⟩
 replace hB:=hB.more hg
 clear hg
 refine ⟨_,rfl,?_⟩
 simp only [nrm]
 refine lvk (.slice s n c) ?_
 simp only [nrm]
 refine list_call 30 #[.agg (fl [bw Y,bw N,bw D]),.slice s n c] (by kernel_rfl) (by kernel_rfl) ((((vopen_yes Y N D hYl hNl hDl (unhide hYb) (unhide hNb) (unhide hDb) P s n c hn u2 (unhide hPb) (show Lb u2 s n c (sealL Y N D P) from (unhide hL) ▸ (unhide lp).gr hB.gr)).mono fun _ _ h=>okx_pok h hB.gr.size)).mono ?_)
 rintro r_ u3 ⟨v1,rfl,ho,hg⟩
 replace hB:=hB.more hg
 clear hg
 obtain ⟨a1,c1,rfl,l1⟩:=ho.lb' (unhide hPb) 114 hPl
 clear ho
 replace l1:=hide l1
 refine ⟨_,rfl,?_⟩
 simp only [nrm]
 refine lvk (.tuple #[.slice a1 114 c1,.int .i64 0]) ?_
 simp only [nrm]
 refine lvk (.slice a1 114 c1) ?_
 simp only [nrm]
 refine lvk (.int .i64 0) ?_
 simp only [nrm]
 (refine wpList_step fun K hK=>?_; replace hK:=hide hK; go_simp; refine unhide hK _ _ ?_; clear hK K)
 (refine wpList_step fun K hK=>?_; replace hK:=hide hK; go_simp; refine unhide hK _ _ ?_; clear hK K)
 refine wpList_nil ?_
 replace hB:=hide hB
 go_upto_region 5 with fail
 replace hB:=unhide hB
 refine wp_region_lit ?_
 refine lvk (.int .i64 0) ?_
 simp only [nrm]
 refine list_val (.bool false) (by kernel_rfl) (neq_e _ (.tmp 26) (.const (.int .i64 0)) 0 0 false rfl (by kernel_rfl) (by kernel_rfl) (by decide)) ?_
 simp only [nrm]
 refine wpList_nil ?_
 replace hB:=hide hB
 go_upto_region 7 with fail
 replace hB:=unhide hB
 refine wp_region_lit ?_
 refine lvk (.slice a1 114 c1) ?_
 simp only [nrm]
 refine list_call 31 #[.slice a1 114 c1] (by kernel_rfl) (by kernel_rfl) (((show Calls Tryz.prog 31 #[.slice a1 114 c1] u3 (Vl (.tuple #[.agg (fl [[.int .i64 ek],[.int .u32 ea],[.int .u32 es],bw eB]),.int .i64 0]) u3) from by rw [← unhide hev]; exact getef_ok P a1 c1 u3 (unhide l1) (unhide he))).mono ?_)
 rintro r_ u4 ⟨rfl,hg⟩
 replace l1:=hide ((unhide l1).gr hg)
 replace hB:=hB.more hg
 clear hg
 refine ⟨_,rfl,?_⟩
 simp only [nrm]
 refine lvk (.agg (fl [[.int .i64 ek],[.int .u32 ea],[.int .u32 es],bw eB])) ?_
 simp only [nrm]
 refine lvk (.int .i64 0) ?_
 simp only [nrm]
 refine list_all 30 (.tmp 6) (.tmp 32) (w.heap.size+1) (S2:=[[.int .i64 ek],[.int .u32 ea],[.int .u32 es],bw eB]) (by kernel_rfl) rfl (by kernel_rfl) (by kernel_rfl) hB 1 rfl NE (nE (show List.length Z105=105 from rfl) _ _ _) (nE heB _ _ _) (by kernel_rfl) (oE _ rfl rfl rfl) ?_
 intro u5 hB_ hbt_
 clear hB
 replace hB:Bl w [⟨w.heap.size,fl [bw Ky,[.bool f]],25⟩,⟨w.heap.size+1,fl [[.int .i64 ek],[.int .u32 ea],[.int .u32 es],bw eB],30⟩] u5:=hB_
 clear hB_
 clear hbt_
 simp only [nrm]
 (refine wpList_step fun K hK=>?_; replace hK:=hide hK; go_simp; refine unhide hK _ _ ?_; clear hK K)
 refine wpList_nil ?_
 replace hB:=hide hB
 go_wp2_with fail
 replace hB:=unhide hB
 rw [unhide hT]
 exact bodyPost_ret (v:=.tuple #[.agg (fl [[.int .i64 ek],[.int .u32 ea],[.int .u32 es],bw eB]),.int .i64 0]) (res2 Tryz.results10 (rv_cell (by kernel_rfl) (hB.get 1 (x:=⟨w.heap.size+1,fl [[.int .i64 ek],[.int .u32 ea],[.int .u32 es],bw eB],30⟩) rfl) Tryz.underlying30 rfl (by rw [fl_size (nE heB _ _ _)]; kernel_rfl)) (rv_tmp (by kernel_rfl))) rfl (⟨rfl,hB.gr⟩)
end Go.Proofs.YthahhglbeafkmaaGreatDoor
namespace Go.Proofs.YthahhglbeafkmaaGreatDoor
open Go.RowKit
set_option maxRecDepth 100000
set_option linter.unusedSimpArgs false
set_option linter.unusedVariables false
theorem eq_xf {D B:List Int} (hD:D.length=16) (hB:B.length=130) (w:World):(Op.equalIn 10000 36 (.agg (fl [bw D,bw B])) (.agg (fl [bw D,bw B]))).run Tryz.prog w=.ok true w:=by
 rw [← xcl_fl]
 exact eq_xcl hD hB w
theorem eq_ef (k a s:Int) {B:List Int} (hB:B.length=105) (w:World):(Op.equalIn 10000 30 (.agg (fl [[.int .i64 k],[.int .u32 a],[.int .u32 s],bw B])) (.agg (fl [[.int .i64 k],[.int .u32 a],[.int .u32 s],bw B]))).run Tryz.prog w=.ok true w:=by
 rw [← evl_fl]
 exact eq_evl k a s hB w
theorem k1_isB:IsB K1:=fun x hx=>by
 rcases List.mem_cons.1 hx with rfl | h
 ·decide
 ·rw [List.eq_of_mem_replicate h]; decide
theorem z105_isB:IsB Z105:=fun x hx=>by rw [List.eq_of_mem_replicate hx]; decide
theorem wake_num:(bk (okL 3 K1 tFir) (cntL 3) 1).getD 0 0=39:=by decide +kernel
theorem wake_first:(xl (rkL 3 K1 true true) (cntL 3) 1 (evB 0 7 0 Z105)).getD 0 0=39:=by
 have h:(xl (rkL 3 K1 true true) (cntL 3) 1 (evB 0 7 0 Z105)).getD 0 0=xb 0 ((bk (okL 3 K1 tFir) (cntL 3) 1).getD 0 0):=by
  unfold xl
  rw [List.getD_eq_getElem?_getD,List.getElem?_map,List.getElem?_range (by decide)]
  rfl
 rw [h,wake_num]
 decide
theorem wake_ne {C:List Int} (hC:C=sealL (rkL 3 K1 true true) (cntL 3) (drL 3 K1) (evB 0 7 0 Z105)):C≠Z130:=by
 intro h
 have h1:C.getD 0 0=39:=by
  rw [hC]
  unfold sealL
  rw [List.getD_eq_getElem?_getD,List.getElem?_append_left (by rw [xl_len]; decide),← List.getD_eq_getElem?_getD]
  exact wake_first
 rw [h] at h1
 exact absurd h1 (by decide)
set_option maxHeartbeats 4000000 in
theorem other_ok (Ky:List Int) (hKy:Ky.length=32) (f:Bool) (w:World)  : Calls Tryz.prog 20 #[.agg (fl [bw Ky,[.bool f]])] w (Vl (.agg (fl [bw Ky,[.bool (!f)]])) w):=by
 obtain ⟨T,hT⟩:∃ T:Ending→World→Prop,T=(Vl (.agg (fl [bw Ky,[.bool (!f)]])) w):=⟨_,rfl⟩
 rw [← hT]
 replace hT:=hide hT
 obtain ⟨A0_,hA0_⟩:∃ S_,S_=fl [bw Ky,[.bool f]]:=⟨_,rfl⟩
 rw [← hA0_]
 replace hA0_:=hide hA0_
 go_enter Tryz.func20,Tryz.ntmps20
 go_upto_region 1 with fail
 have hB:=(((Bl.nil w).new A0_ 25).new (fl [bw Z32,[.bool false]]) 25)
 simp only [size_alloc,List.nil_append,List.cons_append] at hB
 rw [unhide hA0_] at hB
 generalize hu_:World.alloc _ _=u0
 replace hB:Bl w [⟨w.heap.size,fl [bw Ky,[.bool f]],25⟩,⟨w.heap.size+1,fl [bw Z32,[.bool false]],25⟩] u0:=by
  rw [← hu_]
  rw [unhide hA0_]
  exact hB
 clear hu_ hA0_
 refine wp_region_lit ?_
 refine lvk (.pointer (some ⟨w.heap.size,0,none⟩)) ?_
 simp only [nrm]
 refine list_val (.agg (kc Ky)) (by kernel_rfl) (exec_sa _ 23 (.tmp 3) rfl (w.heap.size) 0 (by kernel_rfl) (hB.get 0 (x:=⟨w.heap.size,fl [bw Ky,[.bool f]],25⟩) rfl) NP (nP hKy _) 0 Ky rfl rfl Tryz.underlying23 rfl (n:=32) rfl Tryz.infoKey) ?_
 simp only [nrm]
 refine lvk (.pointer (some ⟨w.heap.size,32,none⟩)) ?_
 simp only [nrm]
 refine list_val (.bool f) (by kernel_rfl) (exec_cb _ (.tmp 5) rfl (w.heap.size) 32 (by kernel_rfl) f (seg_cell (nP hKy _) (hB.get 0 (x:=⟨w.heap.size,fl [bw Ky,[.bool f]],25⟩) rfl) 1 (v:=.bool f) rfl rfl)) ?_
 simp only [nrm]
 refine lvk (.bool (!f)) ?_
 simp only [nrm]
 refine list_val (.agg (fl [bw Ky,[.bool (!f)]])) (by kernel_rfl) (bP01 _ (.tmp 4) (.tmp 7) rfl hKy (by kernel_rfl) (by kernel_rfl)) ?_
 simp only [nrm]
 refine list_all 25 (.tmp 2) (.tmp 8) (w.heap.size+1) (S2:=[bw Ky,[.bool (!f)]]) (by kernel_rfl) rfl (by kernel_rfl) (by kernel_rfl) hB 1 rfl NP (nP (show List.length Z32=32 from rfl) _) (nP hKy _) (by kernel_rfl) (oP _ rfl) ?_
 intro u1 hB_ hbt_
 clear hB
 replace hB:Bl w [⟨w.heap.size,fl [bw Ky,[.bool f]],25⟩,⟨w.heap.size+1,fl [bw Ky,[.bool (!f)]],25⟩] u1:=hB_
 clear hB_
 clear hbt_
 simp only [nrm]
 refine wpList_nil ?_
 replace hB:=hide hB
 go_wp2_with fail
 replace hB:=unhide hB
 rw [unhide hT]
 exact bodyPost_ret (v:=.agg (fl [bw Ky,[.bool (!f)]])) (res1 Tryz.results20 (rv_cell (by kernel_rfl) (hB.get 1 (x:=⟨w.heap.size+1,fl [bw Ky,[.bool (!f)]],25⟩) rfl) Tryz.underlying25 rfl (by rw [fl_size (nP hKy _)]; kernel_rfl))) rfl (⟨rfl,hB.gr⟩)
set_option maxHeartbeats 4000000 in
theorem wakes0_ok (Y N D P C:List Int) (w:World) (hF:Fst w) (hY:Y=rkL 3 K1 true true) (hN:N=cntL 3) (hD:D=drL 3 K1) (hP:P=evB 0 7 0 Z105) (hC:C=sealL Y N D P):Calls Tryz.prog 6 #[] w (Vl (.bool true) w):=by
 obtain ⟨T,hT⟩:∃ T:Ending→World→Prop,T=(Vl (.bool true) w):=⟨_,rfl⟩
 rw [← hT]
 replace hT:=hide hT
 have hK1:K1.length=32:=rfl
 have hDl:D.length=16:=by rw [hD]; exact drL_len _ _
 have hDb:IsB D:=by rw [hD]; exact drL_isB _ _
 have hPl:P.length=114:=by rw [hP]; rfl
 have hPb:IsB P:=by rw [hP]; exact evB_isB 7 (by decide) z105_isB
 have hCl:C.length=130:=by rw [hC,sealL_len',hPl]
 have hCb:IsB C:=by rw [hC]; exact sealL_isB _ _ _ _
 have hCn:C≠Z130:=wake_ne (by rw [hC,hY,hN,hD,hP])
 have hev:evS P=[[.int .i64 0],[.int .u32 7],[.int .u32 0],bw Z105]:=by rw [hP]; rfl
 have her:evRO P=true:=by rw [hP]; rfl
 have hY2:Y=rkL 3 K1 false false:=by rw [hY]; rfl
 clear hPl
 replace hF:=hide hF
 replace hY:=hide hY
 replace hN:=hide hN
 replace hD:=hide hD
 replace hP:=hide hP
 replace hC:=hide hC
 replace hDb:=hide hDb
 replace hPb:=hide hPb
 replace hCb:=hide hCb
 replace hCn:=hide hCn
 replace hev:=hide hev
 replace her:=hide her
 replace hY2:=hide hY2
 go_enter Tryz.func6,Tryz.ntmps6
 go_upto_region 1 with fail
 obtain ⟨u0,hu_⟩:∃ u,u=w:=⟨_,rfl⟩
 rw [← hu_]
 have hB:Bl w [] u0:=hu_ ▸ Bl.nil w
 clear hu_
 refine wp_region_lit ?_
 refine list_val (.agg (kc K1)) (by kernel_rfl) (bK0 _ rfl) ?_
 simp only [nrm]
 refine list_val (.agg (fl [bw K1,[.bool true]])) (by kernel_rfl) (bP01 _ (.tmp 6) (.const (.bool true)) rfl hK1 (by kernel_rfl) (by kernel_rfl)) ?_
 simp only [nrm]
 refine list_valw (.pointer (some ⟨u0.heap.size,0,none⟩)) (u0.alloc (.cells (fl [bw Z32,[.bool false]]) 25 (0,0))) (by kernel_rfl) (by kernel_rfl) ?_
 replace hB:=hB.new (fl [bw Z32,[.bool false]]) 25
 simp only [List.nil_append,List.cons_append] at hB
 generalize World.alloc _ _=u1 at *
 generalize u0.heap.size=g1 at *
 replace hB:Bl w [⟨g1,fl [bw Z32,[.bool false]],25⟩] u1:=hB
 simp only [nrm]
 refine list_all 25 (.tmp 1) (.tmp 7) (g1) (S2:=[bw K1,[.bool true]]) (by kernel_rfl) rfl (by kernel_rfl) (by kernel_rfl) hB 0 rfl NP (nP (show List.length Z32=32 from rfl) _) (nP hK1 _) (by kernel_rfl) (oP _ rfl) ?_
 intro u2 hB_ hbt_
 clear hB
 replace hB:Bl w [⟨g1,fl [bw K1,[.bool true]],25⟩] u2:=hB_
 clear hB_
 clear hbt_
 simp only [nrm]
 refine wpList_nil ?_
 replace hB:=hide hB
 go_upto_region 2 with fail
 replace hB:=unhide hB
 refine wp_region_lit ?_
 refine list_val (.agg (fl [bw K1,[.bool true]])) (by kernel_rfl) (exec_sw _ 25 (.tmp 1) rfl (g1) (by kernel_rfl) (hB.get 0 (x:=⟨g1,fl [bw K1,[.bool true]],25⟩) rfl) NP (nP hK1 _) Tryz.underlying25 rfl (by kernel_rfl)) ?_
 simp only [nrm]
 refine list_val (.agg (fl [[.int .i64 0],[.int .u32 7],[.int .u32 0],bw Z105])) (by kernel_rfl) (bE1 _ (.const (.int .u32 7)) rfl (by kernel_rfl)) ?_
 simp only [nrm]
 refine list_call 7 #[.agg (fl [bw K1,[.bool true]]),.int .u64 3,.agg (fl [[.int .i64 0],[.int .u32 7],[.int .u32 0],bw Z105])] (by kernel_rfl) (by kernel_rfl) ((vreal_ok K1 hK1 k1_isB true 0 7 0 Z105 rfl z105_isB ⟨by decide,by decide⟩ ⟨by decide,by decide⟩ 3 (by decide) Y N D P C u2 ((unhide hF).gr hB.gr) (by decide) (by decide) (unhide hY) (unhide hN) (unhide hD) (unhide hP) (unhide hC)).mono ?_)
 rintro r_ u3 ⟨rfl,hg⟩
 replace hB:=hB.more hg
 clear hg
 refine ⟨_,rfl,?_⟩
 simp only [nrm]
 refine lvk (.tuple #[.agg (fl [bw D,bw C]),.int .i64 0]) ?_
 simp only [nrm]
 refine lvk (.agg (fl [bw D,bw C])) ?_
 simp only [nrm]
 refine lvk (.int .i64 0) ?_
 simp only [nrm]
 refine list_valw (.pointer (some ⟨u3.heap.size,0,none⟩)) (u3.alloc (.cells (fl [bw Z16,bw Z130]) 36 (0,0))) (by kernel_rfl) (by kernel_rfl) ?_
 replace hB:=hB.new (fl [bw Z16,bw Z130]) 36
 simp only [List.nil_append,List.cons_append] at hB
 generalize World.alloc _ _=u4 at *
 generalize u3.heap.size=g2 at *
 replace hB:Bl w [⟨g1,fl [bw K1,[.bool true]],25⟩,⟨g2,fl [bw Z16,bw Z130],36⟩] u4:=hB
 simp only [nrm]
 refine list_all 36 (.tmp 2) (.tmp 12) (g2) (S2:=[bw D,bw C]) (by kernel_rfl) rfl (by kernel_rfl) (by kernel_rfl) hB 1 rfl NX (nX (show List.length Z16=16 from rfl) (show List.length Z130=130 from rfl)) (nX hDl hCl) (by kernel_rfl) (oX _ _) ?_
 intro u5 hB_ hbt_
 clear hB
 replace hB:Bl w [⟨g1,fl [bw K1,[.bool true]],25⟩,⟨g2,fl [bw D,bw C],36⟩] u5:=hB_
 clear hB_
 clear hbt_
 simp only [nrm]
 (refine wpList_step fun K hK=>?_; replace hK:=hide hK; go_simp; refine unhide hK _ _ ?_; clear hK K)
 refine wpList_nil ?_
 replace hB:=hide hB
 go_upto_region 3 with fail
 replace hB:=unhide hB
 refine any_start (S:=fun v_=>v_.heap[g1]?=some (.cells (fl [bw K1,[.bool true]]) 25 (0,0))) (by kernel_rfl) ?_
 replace hB:=hB.drew
 generalize World.drew _=u6 at *
 have hB0:=hide hB
 have hsz_:Hid (Sz u6.heap.size u6):=Nat.le_refl _
 simp only [List.size_toArray,List.length_cons,List.length_nil,Array.replicate,List.replicate]
 refine any_tk 0 (.agg (fl [bw K1,[.bool true]])) (tf 11 0) rfl (fun x_ hu=>exec_sw _ 25 (.tmp 1) rfl (g1) (by kernel_rfl) hu NP (nP hK1 _) Tryz.underlying25 rfl (by kernel_rfl)) (hB.get 0 (x:=⟨g1,fl [bw K1,[.bool true]],25⟩) rfl) ?_
 simp only [nrm]
 refine any_tk 2 (.pointer (some ⟨g2,16,none⟩)) (tf 11 1) rfl (fun x_ hu=>by kernel_rfl) (hB.get 0 (x:=⟨g1,fl [bw K1,[.bool true]],25⟩) rfl) ?_
 simp only [nrm]
 refine any_tk 3 (.slice (some ⟨g2,16,none⟩) 130 130) #[true,false,true,false,false,false,false,false,false,false,false] rfl (fun x_ hu=>by kernel_rfl) (hB.get 0 (x:=⟨g1,fl [bw K1,[.bool true]],25⟩) rfl) ?_
 simp only [nrm]
 refine float_first (fun q u=>NKf u6.heap.size (fl [[.int .i64 0],[.int .u32 0],[.int .u32 0],bw Z105]) 30 u q) 4 (fun b_=>#[true,false,true,true,false,false,false,false,b_,false,false]) 8 1 false rfl rfl (fun v_ g_=>g_.blk (hB.get 0 (x:=⟨g1,fl [bw K1,[.bool true]],25⟩) rfl)) (by kernel_rfl) (fun b_=>by cases b_ <;> rfl) ?_ ?_
 all_goals simp only [fw1,Act.put,List.setIfInBounds_toArray,List.set_cons_zero,List.set_cons_succ,List.getElem_toArray,List.getElem_cons_zero,List.getElem_cons_succ]
 ·intro q_ x_ hgx K hK
  refine wpOp_step (o:=_) rfl (fun K' hK'=>?_)
  replace hK':=hide hK'
  replace hK:=hide hK
  refine step_val (.pointer (some ⟨x_.heap.size,0,none⟩)) (x_.alloc (.cells (fl [[.int .i64 0],[.int .u32 0],[.int .u32 0],bw Z105]) 30 (0,0))) (by kernel_rfl) (by kernel_rfl) ?_
  exact unhide hK' _ _ (unhide hK _ _ ((Gr.refl _).alloc _) (⟨_,rfl,Nat.le_trans (unhide hsz_) hgx.size,blk_new _ _⟩))
 intro b1_1 q1_1 x1_1 hg hTq hall
 replace hsz_:=hide ((unhide hsz_).gr hg)
 replace hB:=hB.more hg
 clear hg
 clear hall
 refine wpOp_step (o:=_) rfl (fun K hK=>?_)
 replace hK:=hide hK
 refine step_callw (by kernel_rfl) 20 #[.agg (fl [bw K1,[.bool true]])] (by kernel_rfl) ((other_ok K1 hK1 true x1_1).mono ?_)
 rintro r u7 ⟨rfl,hg⟩
 refine ⟨_,rfl,?_⟩
 replace hTq:=fun e=>NKf.gr (hTq e) hg
 replace hsz_:=hide ((unhide hsz_).gr hg)
 replace hB:=hB.more hg
 clear hg
 refine unhide hK _ _ ⟨(hB.get 0 (x:=⟨g1,fl [bw K1,[.bool true]],25⟩) rfl),?_⟩
 clear hK K
 simp only [nrm]
 refine float_again (fun q u=>NKf u6.heap.size (fl [[.int .i64 0],[.int .u32 0],[.int .u32 0],bw Z105]) 30 u q) 4 (fun b_=>#[true,true,true,true,false,false,false,false,b_,false,false]) 8 4 false (b:=b1_1) (q:=q1_1) rfl rfl hTq (fun v_ g_=>g_.blk (hB.get 0 (x:=⟨g1,fl [bw K1,[.bool true]],25⟩) rfl)) (by kernel_rfl) (fun b_=>by cases b_ <;> rfl) ?_ ?_
 all_goals simp only [fw1,Act.put,List.setIfInBounds_toArray,List.set_cons_zero,List.set_cons_succ,List.getElem_toArray,List.getElem_cons_zero,List.getElem_cons_succ]
 ·intro q_ x_ hgx K hK
  refine wpOp_step (o:=_) rfl (fun K' hK'=>?_)
  replace hK':=hide hK'
  replace hK:=hide hK
  refine step_val (.pointer (some ⟨x_.heap.size,0,none⟩)) (x_.alloc (.cells (fl [[.int .i64 0],[.int .u32 0],[.int .u32 0],bw Z105]) 30 (0,0))) (by kernel_rfl) (by kernel_rfl) ?_
  exact unhide hK' _ _ (unhide hK _ _ ((Gr.refl _).alloc _) (⟨_,rfl,Nat.le_trans (unhide hsz_) hgx.size,blk_new _ _⟩))
 clear hTq
 intro b1_4 q1_4 x1_4 hg hTq hall
 replace hsz_:=hide ((unhide hsz_).gr hg)
 replace hB:=hB.more hg
 clear hg
 clear hall
 refine wpOp_step (o:=_) rfl (fun K hK=>?_)
 replace hK:=hide hK
 refine step_callw (by kernel_rfl) 10 #[.agg (fl [bw K1,[.bool false]]),.int .u64 3,.slice (some ⟨g2,16,none⟩) 130 130] (by kernel_rfl) ((vread_ok K1 hK1 k1_isB false 3 (by decide) (some ⟨g2,16,none⟩) 130 130 (by decide) Y N D C P 0 7 0 Z105 x1_4 ((unhide hF).gr hB.gr) (fun u_ g_=>unread_0 3 (by decide) (some ⟨g2,16,none⟩) 130 C u_ ((seg_lb (nX hDl hCl) (hB.get 1 (x:=⟨g2,fl [bw D,bw C],36⟩) rfl) 1 rfl rfl (unhide hCb) hCl (by decide)).gr g_) (unhide hCn)) (unhide hY2) (unhide hN) (unhide hD) (seg_lb (nX hDl hCl) (hB.get 1 (x:=⟨g2,fl [bw D,bw C],36⟩) rfl) 1 rfl rfl (unhide hCb) hCl (by decide)) (by rw [unhide hP]; rfl) (unhide hPb) (unhide hC) (unhide her) (unhide hev) rfl).mono ?_)
 rintro r u8 ⟨rfl,hg⟩
 refine ⟨_,rfl,?_⟩
 replace hTq:=fun e=>NKf.gr (hTq e) hg
 replace hsz_:=hide ((unhide hsz_).gr hg)
 replace hB:=hB.more hg
 clear hg
 refine unhide hK _ _ ⟨(hB.get 0 (x:=⟨g1,fl [bw K1,[.bool true]],25⟩) rfl),?_⟩
 clear hK K
 simp only [nrm]
 refine any_tk 5 (.tuple #[.agg (fl [[.int .i64 0],[.int .u32 7],[.int .u32 0],bw Z105]),.int .i64 0]) (tf 11 5) rfl (fun x_ hu=>by kernel_rfl) (hB.get 0 (x:=⟨g1,fl [bw K1,[.bool true]],25⟩) rfl) ?_
 simp only [nrm]
 refine any_tk 6 (.agg (fl [[.int .i64 0],[.int .u32 7],[.int .u32 0],bw Z105])) (tf 11 6) rfl (fun x_ hu=>by kernel_rfl) (hB.get 0 (x:=⟨g1,fl [bw K1,[.bool true]],25⟩) rfl) ?_
 simp only [nrm]
 refine any_tk 7 (.int .i64 0) (tf 11 7) rfl (fun x_ hu=>by kernel_rfl) (hB.get 0 (x:=⟨g1,fl [bw K1,[.bool true]],25⟩) rfl) ?_
 simp only [nrm]
 refine float_again (fun q u=>NKf u6.heap.size (fl [[.int .i64 0],[.int .u32 0],[.int .u32 0],bw Z105]) 30 u q) 4 (fun b_=>#[true,true,true,true,true,true,true,true,b_,false,false]) 8 9 true (b:=b1_4) (q:=q1_4) rfl rfl hTq (fun v_ g_=>g_.blk (hB.get 0 (x:=⟨g1,fl [bw K1,[.bool true]],25⟩) rfl)) (by kernel_rfl) (fun b_=>by cases b_ <;> rfl) ?_ ?_
 all_goals simp only [fw1,Act.put,List.setIfInBounds_toArray,List.set_cons_zero,List.set_cons_succ,List.getElem_toArray,List.getElem_cons_zero,List.getElem_cons_succ]
 ·intro q_ x_ hgx K hK
  refine wpOp_step (o:=_) rfl (fun K' hK'=>?_)
  replace hK':=hide hK'
  replace hK:=hide hK
  refine step_val (.pointer (some ⟨x_.heap.size,0,none⟩)) (x_.alloc (.cells (fl [[.int .i64 0],[.int .u32 0],[.int .u32 0],bw Z105]) 30 (0,0))) (by kernel_rfl) (by kernel_rfl) ?_
  exact unhide hK' _ _ (unhide hK _ _ ((Gr.refl _).alloc _) (⟨_,rfl,Nat.le_trans (unhide hsz_) hgx.size,blk_new _ _⟩))
 clear hTq
 intro b1_9 q1_9 x1_9 hg hTq hall
 replace hsz_:=hide ((unhide hsz_).gr hg)
 replace hB:=hB.more hg
 clear hg
 obtain rfl:b1_9=true:=hall (by trivial)
 replace hTq:=hTq rfl
 clear hall
 obtain ⟨g4,rfl,hge_,hnew_⟩:=hTq
 replace hB:=Bl.joinz (unhide hB0) hB hge_ hnew_
 simp only [List.cons_append,List.nil_append] at hB
 clear hB0 hge_ hnew_
 refine wpOp_step (o:=_) rfl (fun K hK=>?_)
 replace hK:=hide hK
 refine step_all 30 (.tmp 4) (.tmp 20) (g4) (S2:=[[.int .i64 0],[.int .u32 7],[.int .u32 0],bw Z105]) (by kernel_rfl) rfl (by kernel_rfl) (by kernel_rfl) hB 2 rfl NE (nE (show List.length Z105=105 from rfl) _ _ _) (nE (show List.length Z105=105 from rfl) _ _ _) (by kernel_rfl) (oE _ rfl rfl rfl) ?_
 intro u9 hB_ hbt_
 clear hB
 replace hB:Bl w [⟨g1,fl [bw K1,[.bool true]],25⟩,⟨g2,fl [bw D,bw C],36⟩,⟨g4,fl [[.int .i64 0],[.int .u32 7],[.int .u32 0],bw Z105],30⟩] u9:=hB_
 clear hB_
 clear hbt_
 refine unhide hK _ _ ⟨(hB.get 0 (x:=⟨g1,fl [bw K1,[.bool true]],25⟩) rfl),?_⟩
 clear hK K
 simp only [nrm]
 refine any_one (i:=10) (by kernel_rfl) rfl (fun K hK=>?_)
 replace hK:=hide hK
 go_simp
 refine (unhide hK).out _ _ (hB.get 0 (x:=⟨g1,fl [bw K1,[.bool true]],25⟩) rfl) (fun _=>?_)
 clear hK K
 refine any_done (by kernel_rfl) ?_
 clear hsz_
 replace hB:=hide hB
 go_upto_region 4 with fail
 replace hB:=unhide hB
 refine wp_region_lit ?_
 refine wpList_gen fun ops_ hops=>?_
 replace hops:=hide hops
 refine list_val (.int .i64 0) (by rw [unhide hops]; kernel_rfl) (by kernel_rfl) ?_
 simp only [nrm]
 refine list_val (.bool true) (by rw [unhide hops]; kernel_rfl) (eql_e _ (.tmp 22) (.const (.int .i64 0)) 0 0 true rfl (by kernel_rfl) (by kernel_rfl) (by decide)) ?_
 simp only [nrm]
 refine list_val (.bool true) (by rw [unhide hops]; kernel_rfl) (by kernel_rfl) ?_
 simp only [nrm]
 refine list_val (.int .i64 0) (by rw [unhide hops]; kernel_rfl) (by kernel_rfl) ?_
 simp only [nrm]
 refine list_val (.bool true) (by rw [unhide hops]; kernel_rfl) (eql_e _ (.tmp 25) (.const (.int .i64 0)) 0 0 true rfl (by kernel_rfl) (by kernel_rfl) (by decide)) ?_
 simp only [nrm]
 refine list_val (.bool true) (by rw [unhide hops]; kernel_rfl) (by kernel_rfl) ?_
 simp only [nrm]
 refine list_val (.bool true) (by rw [unhide hops]; kernel_rfl) (by kernel_rfl) ?_
 simp only [nrm]
 refine list_val (.agg (fl [[.int .i64 0],[.int .u32 7],[.int .u32 0],bw Z105])) (by rw [unhide hops]; kernel_rfl) (exec_sw _ 30 (.tmp 4) rfl (g4) (by kernel_rfl) (hB.get 2 (x:=⟨g4,fl [[.int .i64 0],[.int .u32 7],[.int .u32 0],bw Z105],30⟩) rfl) NE (nE (show List.length Z105=105 from rfl) _ _ _) Tryz.underlying30 rfl (by kernel_rfl)) ?_
 simp only [nrm]
 refine list_val (.agg (fl [[.int .i64 0],[.int .u32 7],[.int .u32 0],bw Z105])) (by rw [unhide hops]; kernel_rfl) (bE1 _ (.const (.int .u32 7)) rfl (by kernel_rfl)) ?_
 simp only [nrm]
 refine list_val (.bool true) (by rw [unhide hops]; kernel_rfl) (exec_eql_e _ (.tmp 29) (.tmp 30) rfl (fl [[.int .i64 0],[.int .u32 7],[.int .u32 0],bw Z105]) (by kernel_rfl) (by kernel_rfl) (eq_ef 0 7 0 (show List.length Z105=105 from rfl) _)) ?_
 simp only [nrm]
 refine list_val (.bool true) (by rw [unhide hops]; kernel_rfl) (by kernel_rfl) ?_
 simp only [nrm]
 refine list_val (.bool true) (by rw [unhide hops]; kernel_rfl) (by kernel_rfl) ?_
 simp only [nrm]
 refine list_call 16 #[] (by rw [unhide hops]; kernel_rfl) (by kernel_rfl) ((vempty_ok u9).mono ?_)
 rintro r_ u10 ⟨ge,rfl,hge,hgb,hg⟩
 replace hB:=hB.more hg
 clear hg
 clear hge hgb
 refine ⟨_,rfl,?_⟩
 simp only [nrm]
 refine list_val (.int .i64 130) (by rw [unhide hops]; kernel_rfl) (by kernel_rfl) ?_
 simp only [nrm]
 refine list_val (.bool true) (by rw [unhide hops]; kernel_rfl) (eql_i _ (.tmp 35) (.const (.int .i64 130)) 130 130 true rfl (by kernel_rfl) (by kernel_rfl) (by decide)) ?_
 simp only [nrm]
 refine list_val (.bool true) (by rw [unhide hops]; kernel_rfl) (by kernel_rfl) ?_
 simp only [nrm]
 (refine wpList_step fun K hK=>?_; replace hK:=hide hK; go_simp; refine unhide hK _ _ ?_; clear hK K)
 refine wpList_nil ?_
 replace hB:=hide hB
 go_wp2_with fail
 replace hB:=unhide hB
 rw [unhide hT]
 exact (⟨rfl,hB.gr⟩)
theorem wakes_ok (w:World) (hF:Fst w):Calls Tryz.prog 6 #[] w (Vl (.bool true) w):=wakes0_ok _ _ _ _ _ w hF rfl rfl rfl rfl rfl
end Go.Proofs.YthahhglbeafkmaaGreatDoor
namespace Go.Proofs.YthahhglbeafkmaaGreatDoor
open Go.RowKit
set_option maxRecDepth 100000
set_option linter.unusedSimpArgs false
set_option linter.unusedVariables false
theorem sp_nonce {E:List Int} (h:E.length=8):sp (bw ZN) 4 (bw E)=bw (List.replicate 4 0++E):=by
 have:=sp_mid (bw E) (bw (List.replicate 4 0)) (bw (List.replicate 8 0)) [] (by rw [bw_len,bw_len,h]; rfl)
 rw [show (bw (List.replicate 4 0)).length=4 from rfl] at this
 rw [show bw ZN=bw (List.replicate 4 0)++(bw (List.replicate 8 0)++[]) from rfl,this]
 simp [bw]
theorem conv_u8 {a:Act} {o:Oper} (w:World) (x:Operand) (m:Int) (ho:o.op=.convert 3 5 x) (hx:a.eval x=.int .i64 m) (h:0≤m∧m<256):(execOp a.eval o).run Tryz.prog w=.ok (.value (.int .u8 m)) w:=by
 have e:IntKind.u8.wrap m=m:=by rw [IntKind.wrap_u8]; omega
 unfold execOp
 simp only [ho,hx]
 go_simp
theorem conv_3264 {a:Act} {o:Oper} (w:World) (x:Operand) (m:Int) (ho:o.op=.convert 27 26 x) (hx:a.eval x=.int .u32 m) (h:0≤m∧m<4294967296):(execOp a.eval o).run Tryz.prog w=.ok (.value (.int .u64 m)) w:=by
 have e:IntKind.u64.wrap m=m:=by rw [IntKind.wrap_u64]; omega
 unfold execOp
 simp only [ho,hx]
 go_simp
def Sl81 (k:Int) (u:World) (q:Value):Prop:=∃ g,q=.slice (some ⟨g,0,none⟩) 1 1∧u.heap[g]?=some (.cells (kc [k]) 5 (0,0))
theorem Sl81.gr {k:Int} {u v:World} {q:Value} (h:Sl81 k u q) (e:Gr u v):Sl81 k v q:=by
 obtain ⟨g,h1,h2⟩:=h
 exact ⟨g,h1,e.blk h2⟩
theorem isB_one {k:Int} (h:0≤k∧k<256):IsB [k]:=fun x hx=>by rw [List.mem_singleton.1 hx]; exact h
theorem evR_k {k s:Int} {B:List Int} (hr:evR k s B=true):0≤k∧k<256:=by
 unfold evR at hr
 simp only [Bool.or_eq_true,Bool.and_eq_true,beq_iff_eq] at hr
 omega
theorem rlow4u (r:Int) (h:0≤r∧r<4294967296) (w:World):Calls Tryz.prog 47 #[.int .u64 r,.int .i64 4] w (Obd (lowL r 4) w):=rlow4_ok r ⟨h.1,by omega⟩ w
theorem bothf_ok (A B:List Int) (a b:Option Addr) (n c m d:Nat) (hn:n+m≤1000) (w:World) (hA:Lb w a n c A) (hB:Lb w b m d B):Calls Tryz.prog 19 #[.slice a n c,.slice b m d] w (Obd (A++B) w):=both_ok A B a b n c m d (by omega) w hA hB
theorem exec_eq105b {a:Act} {o:Oper} (w:World) (x y:Operand) (ho:o.op=.binOp .eql 28 x y 28) (k m:List Int) (hk:k.length=105) (hm:m.length=105) (hx:a.eval x=.agg (kc k)) (hy:a.eval y=.agg (kc m)) (b:Bool) (hb:decide (k=m)=b):(execOp a.eval o).run Tryz.prog w=.ok (.value (.bool b)) w:=by
 rw [← hb]
 exact exec_eq105 w x y ho k m hk hm hx hy
set_option maxHeartbeats 4000000 in
theorem ynonce_ok (r:Int) (hr:0≤r∧r<18446744073709551616) (w:World)  : Calls Tryz.prog 27 #[.int .u64 r] w (Vl (.agg (kc (cntL r))) w):=by
 obtain ⟨T,hT⟩:∃ T:Ending→World→Prop,T=(Vl (.agg (kc (cntL r))) w):=⟨_,rfl⟩
 rw [← hT]
 replace hT:=hide hT
 go_enter Tryz.func27,Tryz.ntmps27
 go_upto_region 1 with fail
 have hB:=((Bl.nil w).new (kc ZN) 64)
 simp only [size_alloc,List.nil_append,List.cons_append] at hB
 generalize hu_:World.alloc _ _=u0
 replace hB:Bl w [⟨w.heap.size,kc ZN,64⟩] u0:=by
  rw [← hu_]
  exact hB
 clear hu_
 refine wp_region_lit ?_
 refine list_valw (.pointer (some ⟨u0.heap.size,0,none⟩)) (u0.alloc (.cells (kc ZN) 64 (0,0))) (by kernel_rfl) (by kernel_rfl) ?_
 replace hB:=hB.new (kc ZN) 64
 simp only [List.nil_append,List.cons_append] at hB
 generalize World.alloc _ _=u1 at *
 generalize u0.heap.size=g3 at *
 replace hB:Bl w [⟨w.heap.size,kc ZN,64⟩,⟨g3,kc ZN,64⟩] u1:=hB
 simp only [nrm]
 refine wpList_nil ?_
 replace hB:=hide hB
 go_upto_region 2 with fail
 replace hB:=unhide hB
 refine any_start (S:=fun v_=>True) (by kernel_rfl) ?_
 replace hB:=hB.drew
 generalize World.drew _=u2 at *
 simp only [List.size_toArray,List.length_cons,List.length_nil,Array.replicate,List.replicate]
 refine any_tk 0 (.slice (some ⟨g3,4,none⟩) 8 8) (tf 4 0) rfl (fun x_ hu=>by kernel_rfl) trivial ?_
 simp only [nrm]
 refine any_tk 1 (.int .u64 r) (tf 4 1) rfl (fun x_ hu=>by kernel_rfl) trivial ?_
 simp only [nrm]
 refine any_one (i:=2) (by kernel_rfl) rfl (fun K hK=>?_)
 refine step_callw (by kernel_rfl) 47 #[.int .u64 r,.int .i64 8] (by kernel_rfl) ((rlow8_ok r hr u2).mono ?_)
 rintro r_ u3 ⟨v1,rfl,ho,hg⟩
 replace hB:=hB.more hg
 clear hg
 obtain ⟨E,hE⟩:∃ E,E=lowL r 8:=⟨_,rfl⟩
 have hEl:E.length=8:=by rw [hE]; exact lowL_len _ _
 have hEb:IsB E:=by rw [hE]; exact lowL_isB _ _
 have hRl:(List.replicate 4 0++E).length=12:=by rw [List.length_append,hEl]; rfl
 rw [← hE] at ho
 obtain ⟨a1,c1,rfl,l1⟩:=ho.lb' hEb 8 hEl
 clear ho hEb
 replace l1:=hide l1
 replace hE:=hide hE
 refine ⟨_,rfl,?_⟩
 refine hK.out _ _ trivial (fun _=>?_)
 clear hK K
 simp only [nrm]
 refine any_one (i:=3) (by kernel_rfl) rfl (fun K hK=>?_)
 rw [if_pos (by kernel_rfl)]
 refine copy_wp (.tmp 4) (.tmp 6) rfl (g3) 4 8 8 (a1) 8 c1 (by kernel_rfl) (by kernel_rfl) (bw ZN) 64 (hB.get 1 (x:=⟨g3,kc ZN,64⟩) rfl) E (by rw [hEl]; rfl) ((unhide l1).sl) (by rw [bw_len,(show List.length ZN=12 from rfl),hEl]; decide) ?_
 replace hB:=hB.cells 1 (C:=(bw ZN)) rfl 4 (bw E)
 rw [sp_nonce hEl] at hB
 simp only [List.set_cons_zero,List.set_cons_succ] at hB
 replace hB:Bl w [⟨w.heap.size,kc ZN,64⟩,⟨g3,kc (List.replicate 4 0++E),64⟩] (World.setCells u3 g3 4 (List.map (Value.int .u8) E)):=hB
 generalize World.setCells u3 g3 4 (List.map (Value.int .u8) E)=u4 at *
 refine hK.out _ _ trivial (fun _=>?_)
 clear hK K
 simp only [nrm]
 refine any_done (by kernel_rfl) ?_
 replace hB:=hide hB
 go_upto_region 3 with fail
 replace hB:=unhide hB
 refine wp_region_lit ?_
 refine list_val (.agg (kc (List.replicate 4 0++E))) (by kernel_rfl) (exec_arr _ 64 (.tmp 3) rfl (g3) (by kernel_rfl) (kc (List.replicate 4 0++E)) 64 _ (hB.get 1 (x:=⟨g3,kc (List.replicate 4 0++E),64⟩) rfl) Tryz.underlying64 rfl (by rw [Tryz.infoN,kc_size,hRl])) ?_
 simp only [nrm]
 refine list_store 64 (.tmp 2) (.tmp 8) (w.heap.size) (kc (List.replicate 4 0++E)) 64 (kc ZN) (by kernel_rfl) rfl (by kernel_rfl) (by kernel_rfl) (hB.get 0 (x:=⟨w.heap.size,kc ZN,64⟩) rfl) (by rw [Tryz.infoN,kc_size,hRl]) (by rw [kc_size,kc_size,(show List.length ZN=12 from rfl),hRl]) (kc_one _) ?_
 replace hB:=hB.set 0 (x:=⟨w.heap.size,kc ZN,64⟩) rfl (kc (List.replicate 4 0++E))
 simp only [List.set_cons_zero,List.set_cons_succ] at hB
 generalize World.setRow _ _ _=u5 at *
 replace hB:Bl w [⟨w.heap.size,kc (List.replicate 4 0++E),64⟩,⟨g3,kc (List.replicate 4 0++E),64⟩] u5:=hB
 simp only [nrm]
 refine wpList_nil ?_
 replace hB:=hide hB
 go_wp2_with fail
 replace hB:=unhide hB
 rw [unhide hT]
 exact bodyPost_ret (v:=.agg (kc (List.replicate 4 0++E))) (res1 Tryz.results27 (rv_cell (by kernel_rfl) (hB.get 0 (x:=⟨w.heap.size,kc (List.replicate 4 0++E),64⟩) rfl) Tryz.underlying64 rfl (by rw [Tryz.infoN,kc_size,hRl]))) rfl (⟨by rw [unhide hE]; rfl,hB.gr⟩)
set_option maxHeartbeats 4000000 in
theorem ybytes_ok (k a s:Int) (B:List Int) (hBl:B.length=105) (hBb:IsB B) (ha:U4 a) (hs:U4 s) (hk:0≤k∧k<256) (w:World)  : Calls Tryz.prog 28 #[.agg (fl [[.int .i64 k],[.int .u32 a],[.int .u32 s],bw B])] w (Obd (evB k a s B) w):=by
 obtain ⟨T,hT⟩:∃ T:Ending→World→Prop,T=(Obd (evB k a s B) w):=⟨_,rfl⟩
 rw [← hT]
 replace hT:=hide hT
 obtain ⟨A0_,hA0_⟩:∃ S_,S_=fl [[.int .i64 k],[.int .u32 a],[.int .u32 s],bw B]:=⟨_,rfl⟩
 rw [← hA0_]
 replace hA0_:=hide hA0_
 replace hBb:=hide hBb
 go_enter Tryz.func28,Tryz.ntmps28
 go_upto_region 1 with fail
 have hB:=((Bl.nil w).new A0_ 30)
 simp only [size_alloc,List.nil_append,List.cons_append] at hB
 rw [unhide hA0_] at hB
 generalize hu_:World.alloc _ _=u0
 replace hB:Bl w [⟨w.heap.size,fl [[.int .i64 k],[.int .u32 a],[.int .u32 s],bw B],30⟩] u0:=by
  rw [← hu_]
  rw [unhide hA0_]
  exact hB
 clear hu_ hA0_
 replace hB:=hide hB
 go_upto_region 1 with fail
 replace hB:=unhide hB
 refine any_start (S:=fun v_=>v_.heap[w.heap.size]?=some (.cells (fl [[.int .i64 k],[.int .u32 a],[.int .u32 s],bw B]) 30 (0,0))) (by kernel_rfl) ?_
 replace hB:=hB.drew
 generalize World.drew _=u1 at *
 have hB0:=hide hB
 have hsz_:Hid (Sz u1.heap.size u1):=Nat.le_refl _
 simp only [List.size_toArray,List.length_cons,List.length_nil,Array.replicate,List.replicate]
 refine any_tk 0 (.pointer (some ⟨w.heap.size,0,none⟩)) (tf 10 0) rfl (fun x_ hu=>by kernel_rfl) (hB.get 0 (x:=⟨w.heap.size,fl [[.int .i64 k],[.int .u32 a],[.int .u32 s],bw B],30⟩) rfl) ?_
 simp only [nrm]
 refine any_tk 1 (.int .i64 k) (tf 10 1) rfl (fun x_ hu=>exec_ci _ (.tmp 4) rfl (w.heap.size) 0 (by kernel_rfl) k (seg_cell (nE hBl _ _ _) hu 0 (v:=.int .i64 k) rfl rfl)) (hB.get 0 (x:=⟨w.heap.size,fl [[.int .i64 k],[.int .u32 a],[.int .u32 s],bw B],30⟩) rfl) ?_
 simp only [nrm]
 refine any_tk 2 (.int .u8 k) (tf 10 2) rfl (fun x_ hu=>conv_u8 _ (.tmp 5) k rfl (by kernel_rfl) hk) (hB.get 0 (x:=⟨w.heap.size,fl [[.int .i64 k],[.int .u32 a],[.int .u32 s],bw B],30⟩) rfl) ?_
 simp only [nrm]
 refine any_tk 4 (.pointer (some ⟨w.heap.size,1,none⟩)) (tf 10 3) rfl (fun x_ hu=>by kernel_rfl) (hB.get 0 (x:=⟨w.heap.size,fl [[.int .i64 k],[.int .u32 a],[.int .u32 s],bw B],30⟩) rfl) ?_
 simp only [nrm]
 refine any_tk 5 (.int .u32 a) #[true,true,true,false,true,false,false,false,false,false] rfl (fun x_ hu=>exec_c32 _ (.tmp 8) rfl (w.heap.size) 1 (by kernel_rfl) a (seg_cell (nE hBl _ _ _) hu 1 (v:=.int .u32 a) rfl rfl)) (hB.get 0 (x:=⟨w.heap.size,fl [[.int .i64 k],[.int .u32 a],[.int .u32 s],bw B],30⟩) rfl) ?_
 simp only [nrm]
 refine any_tk 6 (.int .u64 a) #[true,true,true,false,true,true,false,false,false,false] rfl (fun x_ hu=>conv_3264 _ (.tmp 9) a rfl (by kernel_rfl) ha) (hB.get 0 (x:=⟨w.heap.size,fl [[.int .i64 k],[.int .u32 a],[.int .u32 s],bw B],30⟩) rfl) ?_
 simp only [nrm]
 refine float_first (fun q u=>Sl81 k u q) 7 (fun b_=>#[true,true,true,b_,true,true,true,false,false,false]) 3 7 false rfl rfl (fun v_ g_=>g_.blk (hB.get 0 (x:=⟨w.heap.size,fl [[.int .i64 k],[.int .u32 a],[.int .u32 s],bw B],30⟩) rfl)) (by kernel_rfl) (fun b_=>by cases b_ <;> rfl) ?_ ?_
 all_goals simp only [fw1,Act.put,List.setIfInBounds_toArray,List.set_cons_zero,List.set_cons_succ,List.getElem_toArray,List.getElem_cons_zero,List.getElem_cons_succ]
 ·intro q_ x_ hgx K hK
  refine wpOp_step (o:=_) rfl (fun K' hK'=>?_)
  replace hK':=hide hK'
  replace hK:=hide hK
  refine step_val (.slice (some ⟨x_.heap.size,0,none⟩) 1 1) (x_.alloc (.cells (kc [k]) 5 (0,0))) (by kernel_rfl) (by kernel_rfl) ?_
  exact unhide hK' _ _ (unhide hK _ _ ((Gr.refl _).alloc _) (⟨_,rfl,blk_new _ _⟩))
 intro b1_7 q1_7 x1_7 hg hTq hall
 first | replace l1:=hide ((unhide l1).gr hg) | skip
 replace hsz_:=hide ((unhide hsz_).gr hg)
 replace hB:=hB.more hg
 clear hg
 clear hall
 refine wpOp_step (o:=_) rfl (fun K hK=>?_)
 replace hK:=hide hK
 refine step_callw (by kernel_rfl) 47 #[.int .u64 a,.int .i64 4] (by kernel_rfl) ((rlow4u a ha x1_7).mono ?_)
 rintro r u2 ⟨v1,rfl,ho,hg⟩
 refine ⟨_,rfl,?_⟩
 replace hTq:=fun e=>Sl81.gr (hTq e) hg
 replace hsz_:=hide ((unhide hsz_).gr hg)
 replace hB:=hB.more hg
 clear hg
 obtain ⟨a1,c1,rfl,l1⟩:=ho.lb' (lowL_isB a 4) 4 (lowL_len a 4)
 clear ho
 replace l1:=hide l1
 refine unhide hK _ _ ⟨(hB.get 0 (x:=⟨w.heap.size,fl [[.int .i64 k],[.int .u32 a],[.int .u32 s],bw B],30⟩) rfl),?_⟩
 clear hK K
 simp only [nrm]
 refine float_again (fun q u=>Sl81 k u q) 7 (fun b_=>#[true,true,true,b_,true,true,true,true,false,false]) 3 8 true (b:=b1_7) (q:=q1_7) rfl rfl hTq (fun v_ g_=>g_.blk (hB.get 0 (x:=⟨w.heap.size,fl [[.int .i64 k],[.int .u32 a],[.int .u32 s],bw B],30⟩) rfl)) (by kernel_rfl) (fun b_=>by cases b_ <;> rfl) ?_ ?_
 all_goals simp only [fw1,Act.put,List.setIfInBounds_toArray,List.set_cons_zero,List.set_cons_succ,List.getElem_toArray,List.getElem_cons_zero,List.getElem_cons_succ]
 ·intro q_ x_ hgx K hK
  refine wpOp_step (o:=_) rfl (fun K' hK'=>?_)
  replace hK':=hide hK'
  replace hK:=hide hK
  refine step_val (.slice (some ⟨x_.heap.size,0,none⟩) 1 1) (x_.alloc (.cells (kc [k]) 5 (0,0))) (by kernel_rfl) (by kernel_rfl) ?_
  exact unhide hK' _ _ (unhide hK _ _ ((Gr.refl _).alloc _) (⟨_,rfl,blk_new _ _⟩))
 clear hTq
 intro b1_8 q1_8 x1_8 hg hTq hall
 first | replace l1:=hide ((unhide l1).gr hg) | skip
 replace hsz_:=hide ((unhide hsz_).gr hg)
 replace hB:=hB.more hg
 clear hg
 obtain rfl:b1_8=true:=hall (by trivial)
 replace hTq:=hTq rfl
 clear hall
 obtain ⟨h8,rfl,h8b⟩:=hTq
 refine wpOp_step (o:=_) rfl (fun K hK=>?_)
 replace hK:=hide hK
 refine step_callw (by kernel_rfl) 19 #[.slice (some ⟨h8,0,none⟩) 1 1,.slice a1 4 c1] (by kernel_rfl) ((bothf_ok [k] (lowL a 4) (some ⟨h8,0,none⟩) a1 1 1 4 c1 (by decide) x1_8 (kc_lb h8b rfl (isB_one hk) (by decide)) (unhide l1)).mono ?_)
 rintro r u3 ⟨v2,rfl,ho,hg⟩
 refine ⟨_,rfl,?_⟩
 replace hsz_:=hide ((unhide hsz_).gr hg)
 replace hB:=hB.more hg
 clear hg
 obtain ⟨a2,c2,rfl,l2⟩:=ho.lb' (isB_append (isB_one hk) (lowL_isB a 4)) 5 (by rw [List.length_append,lowL_len]; rfl)
 clear ho
 replace l2:=hide l2
 refine unhide hK _ _ ⟨(hB.get 0 (x:=⟨w.heap.size,fl [[.int .i64 k],[.int .u32 a],[.int .u32 s],bw B],30⟩) rfl),?_⟩
 clear hK K
 simp only [nrm]
 refine any_one (i:=9) (by kernel_rfl) rfl (fun K hK=>?_)
 replace hK:=hide hK
 go_simp
 refine (unhide hK).out _ _ (hB.get 0 (x:=⟨w.heap.size,fl [[.int .i64 k],[.int .u32 a],[.int .u32 s],bw B],30⟩) rfl) (fun _=>?_)
 clear hK K
 refine any_done (by kernel_rfl) ?_
 clear hsz_
 replace hB:=hide hB
 go_upto_region 2 with fail
 replace hB:=unhide hB
 refine any_start (S:=fun v_=>v_.heap[w.heap.size]?=some (.cells (fl [[.int .i64 k],[.int .u32 a],[.int .u32 s],bw B]) 30 (0,0))) (by kernel_rfl) ?_
 replace l2:=hide ((unhide l2).gr ((Gr.refl u3).drew))
 replace hB:=hB.drew
 generalize World.drew _=u4 at *
 simp only [List.size_toArray,List.length_cons,List.length_nil,Array.replicate,List.replicate]
 have hS_:=hide (show (fun v_=>v_.heap[w.heap.size]?=some (.cells (fl [[.int .i64 k],[.int .u32 a],[.int .u32 s],bw B]) 30 (0,0))) u4 from (hB.get 0 (x:=⟨w.heap.size,fl [[.int .i64 k],[.int .u32 a],[.int .u32 s],bw B],30⟩) rfl))
 refine any_tk 0 (.slice a2 5 c2) (tf 10 0) rfl (fun x_ hu=>by kernel_rfl) (unhide hS_) ?_
 simp only [nrm]
 refine any_tk 1 (.pointer (some ⟨w.heap.size,2,none⟩)) (tf 10 1) rfl (fun x_ hu=>by kernel_rfl) (unhide hS_) ?_
 simp only [nrm]
 refine any_tk 2 (.int .u32 s) (tf 10 2) rfl (fun x_ hu=>exec_c32 _ (.tmp 14) rfl (w.heap.size) 2 (by kernel_rfl) s (seg_cell (nE hBl _ _ _) hu 2 (v:=.int .u32 s) rfl rfl)) (unhide hS_) ?_
 simp only [nrm]
 refine any_tk 3 (.int .u64 s) (tf 10 3) rfl (fun x_ hu=>conv_3264 _ (.tmp 15) s rfl (by kernel_rfl) hs) (unhide hS_) ?_
 simp only [nrm]
 refine any_tk 6 (.pointer (some ⟨w.heap.size,3,none⟩)) (tf 10 4) rfl (fun x_ hu=>by kernel_rfl) (unhide hS_) ?_
 simp only [nrm]
 refine any_tk 7 (.slice (some ⟨w.heap.size,3,none⟩) 105 105) #[true,true,true,true,false,false,true,false,false,false] rfl (fun x_ hu=>by kernel_rfl) (unhide hS_) ?_
 simp only [nrm]
 refine any_one (i:=4) (by kernel_rfl) rfl (fun K hK=>?_)
 refine step_callw (by kernel_rfl) 47 #[.int .u64 s,.int .i64 4] (by kernel_rfl) ((rlow4u s hs u4).mono ?_)
 rintro r_ u5 ⟨v3,rfl,ho,hg⟩
 replace l2:=hide ((unhide l2).gr hg)
 replace hB:=hB.more hg
 clear hg
 obtain ⟨a3,c3,rfl,l3⟩:=ho.lb' (lowL_isB s 4) 4 (lowL_len s 4)
 clear ho
 replace l3:=hide l3
 refine ⟨_,rfl,?_⟩
 clear hS_
 have hS_:=hide (show (fun v_=>v_.heap[w.heap.size]?=some (.cells (fl [[.int .i64 k],[.int .u32 a],[.int .u32 s],bw B]) 30 (0,0))) u5 from (hB.get 0 (x:=⟨w.heap.size,fl [[.int .i64 k],[.int .u32 a],[.int .u32 s],bw B],30⟩) rfl))
 refine hK.out _ _ (unhide hS_) (fun _=>?_)
 clear hK K
 simp only [nrm]
 refine any_one (i:=5) (by kernel_rfl) rfl (fun K hK=>?_)
 refine step_callw (by kernel_rfl) 19 #[.slice a2 5 c2,.slice a3 4 c3] (by kernel_rfl) ((bothf_ok _ (lowL s 4) a2 a3 5 c2 4 c3 (by decide) u5 (unhide l2) (unhide l3)).mono ?_)
 rintro r_ u6 ⟨v4,rfl,ho,hg⟩
 replace hB:=hB.more hg
 clear hg
 obtain ⟨a4,c4,rfl,l4⟩:=ho.lb' (isB_append (isB_append (isB_one hk) (lowL_isB a 4)) (lowL_isB s 4)) 9 (by rw [List.length_append,List.length_append,lowL_len,lowL_len]; rfl)
 clear ho
 replace l4:=hide l4
 refine ⟨_,rfl,?_⟩
 clear hS_
 have hS_:=hide (show (fun v_=>v_.heap[w.heap.size]?=some (.cells (fl [[.int .i64 k],[.int .u32 a],[.int .u32 s],bw B]) 30 (0,0))) u6 from (hB.get 0 (x:=⟨w.heap.size,fl [[.int .i64 k],[.int .u32 a],[.int .u32 s],bw B],30⟩) rfl))
 refine hK.out _ _ (unhide hS_) (fun _=>?_)
 clear hK K
 simp only [nrm]
 refine any_one (i:=8) (by kernel_rfl) rfl (fun K hK=>?_)
 refine step_callw (by kernel_rfl) 19 #[.slice a4 9 c4,.slice (some ⟨w.heap.size,3,none⟩) 105 105] (by kernel_rfl) ((((bothf_ok _ B a4 (some ⟨w.heap.size,3,none⟩) 9 c4 105 105 (by decide) u6 (unhide l4) (seg_lb (nE hBl _ _ _) (hB.get 0 (x:=⟨w.heap.size,fl [[.int .i64 k],[.int .u32 a],[.int .u32 s],bw B],30⟩) rfl) 3 rfl rfl (unhide hBb) hBl (by decide))).mono fun _ _ h=>obx_of h hB.gr.size)).mono ?_)
 rintro r_ u7 ⟨v5,rfl,ho,hg⟩
 replace hB:=hB.more hg
 clear hg
 replace ho:=hide ho
 refine ⟨_,rfl,?_⟩
 clear hS_
 have hS_:=hide (show (fun v_=>v_.heap[w.heap.size]?=some (.cells (fl [[.int .i64 k],[.int .u32 a],[.int .u32 s],bw B]) 30 (0,0))) u7 from (hB.get 0 (x:=⟨w.heap.size,fl [[.int .i64 k],[.int .u32 a],[.int .u32 s],bw B],30⟩) rfl))
 refine hK.out _ _ (unhide hS_) (fun _=>?_)
 clear hK K
 simp only [nrm]
 refine any_one (i:=9) (by kernel_rfl) rfl (fun K hK=>?_)
 replace hK:=hide hK
 go_simp
 refine (unhide hK).out _ _ (unhide hS_) (fun _=>?_)
 clear hK K
 simp only [nrm]
 refine any_done (by kernel_rfl) ?_
 clear hS_
 replace hB:=hide hB
 go_wp2_with fail
 replace hB:=unhide hB
 rw [unhide hT]
 exact (⟨_,rfl,unhide ho,hB.gr⟩)
set_option maxHeartbeats 4000000 in
theorem yright_1 (k a s:Int) (B:List Int) (hBl:B.length=105) (w:World) (h1:k=1):Calls Tryz.prog 8 #[.agg (fl [[.int .i64 k],[.int .u32 a],[.int .u32 s],bw B])] w (Vl (.bool true) w):=by
 obtain ⟨T,hT⟩:∃ T:Ending→World→Prop,T=(Vl (.bool true) w):=⟨_,rfl⟩
 rw [← hT]
 replace hT:=hide hT
 obtain ⟨A0_,hA0_⟩:∃ S_,S_=fl [[.int .i64 k],[.int .u32 a],[.int .u32 s],bw B]:=⟨_,rfl⟩
 rw [← hA0_]
 replace hA0_:=hide hA0_
 go_enter Tryz.func8,Tryz.ntmps8
 go_upto_region 1 with fail
 have hB:=((Bl.nil w).new A0_ 30)
 simp only [size_alloc,List.nil_append,List.cons_append] at hB
 rw [unhide hA0_] at hB
 generalize hu_:World.alloc _ _=u0
 replace hB:Bl w [⟨w.heap.size,fl [[.int .i64 k],[.int .u32 a],[.int .u32 s],bw B],30⟩] u0:=by
  rw [← hu_]
  rw [unhide hA0_]
  exact hB
 clear hu_ hA0_
 refine wp_region_lit ?_
 refine lvk (.pointer (some ⟨w.heap.size,0,none⟩)) ?_
 simp only [nrm]
 refine list_val (.int .i64 k) (by kernel_rfl) (exec_ci _ (.tmp 3) rfl (w.heap.size) 0 (by kernel_rfl) k (seg_cell (nE hBl _ _ _) (hB.get 0 (x:=⟨w.heap.size,fl [[.int .i64 k],[.int .u32 a],[.int .u32 s],bw B],30⟩) rfl) 0 (v:=.int .i64 k) rfl rfl)) ?_
 simp only [nrm]
 refine list_val (.bool true) (by kernel_rfl) (eql_i _ (.tmp 4) (.const (.int .i64 1)) k 1 true rfl (by kernel_rfl) (by kernel_rfl) (decide_eq_true h1)) ?_
 simp only [nrm]
 refine wpList_nil ?_
 replace hB:=hide hB
 go_upto_region 2 with fail
 replace hB:=unhide hB
 refine wp_region_lit ?_
 (refine wpList_step fun K hK=>?_; replace hK:=hide hK; go_simp; refine unhide hK _ _ ?_; clear hK K)
 refine wpList_nil ?_
 replace hB:=hide hB
 go_wp2_with fail
 replace hB:=unhide hB
 rw [unhide hT]
 exact (⟨rfl,hB.gr⟩)
set_option maxHeartbeats 4000000 in
theorem yright_2 (k a s:Int) (B:List Int) (hBl:B.length=105) (w:World) (h1:k≠1) (h2:k≠0):Calls Tryz.prog 8 #[.agg (fl [[.int .i64 k],[.int .u32 a],[.int .u32 s],bw B])] w (Vl (.bool false) w):=by
 obtain ⟨T,hT⟩:∃ T:Ending→World→Prop,T=(Vl (.bool false) w):=⟨_,rfl⟩
 rw [← hT]
 replace hT:=hide hT
 obtain ⟨A0_,hA0_⟩:∃ S_,S_=fl [[.int .i64 k],[.int .u32 a],[.int .u32 s],bw B]:=⟨_,rfl⟩
 rw [← hA0_]
 replace hA0_:=hide hA0_
 go_enter Tryz.func8,Tryz.ntmps8
 go_upto_region 1 with fail
 have hB:=((Bl.nil w).new A0_ 30)
 simp only [size_alloc,List.nil_append,List.cons_append] at hB
 rw [unhide hA0_] at hB
 generalize hu_:World.alloc _ _=u0
 replace hB:Bl w [⟨w.heap.size,fl [[.int .i64 k],[.int .u32 a],[.int .u32 s],bw B],30⟩] u0:=by
  rw [← hu_]
  rw [unhide hA0_]
  exact hB
 clear hu_ hA0_
 refine wp_region_lit ?_
 refine lvk (.pointer (some ⟨w.heap.size,0,none⟩)) ?_
 simp only [nrm]
 refine list_val (.int .i64 k) (by kernel_rfl) (exec_ci _ (.tmp 3) rfl (w.heap.size) 0 (by kernel_rfl) k (seg_cell (nE hBl _ _ _) (hB.get 0 (x:=⟨w.heap.size,fl [[.int .i64 k],[.int .u32 a],[.int .u32 s],bw B],30⟩) rfl) 0 (v:=.int .i64 k) rfl rfl)) ?_
 simp only [nrm]
 refine list_val (.bool false) (by kernel_rfl) (eql_i _ (.tmp 4) (.const (.int .i64 1)) k 1 false rfl (by kernel_rfl) (by kernel_rfl) (decide_eq_false h1)) ?_
 simp only [nrm]
 refine wpList_nil ?_
 replace hB:=hide hB
 go_upto_region 3 with fail
 replace hB:=unhide hB
 refine wp_region_lit ?_
 refine wpList_gen fun ops_ hops=>?_
 replace hops:=hide hops
 refine list_val (.pointer (some ⟨w.heap.size,0,none⟩)) (by rw [unhide hops]; kernel_rfl) (by kernel_rfl) ?_
 simp only [nrm]
 refine list_val (.int .i64 k) (by rw [unhide hops]; kernel_rfl) (exec_ci _ (.tmp 6) rfl (w.heap.size) 0 (by kernel_rfl) k (seg_cell (nE hBl _ _ _) (hB.get 0 (x:=⟨w.heap.size,fl [[.int .i64 k],[.int .u32 a],[.int .u32 s],bw B],30⟩) rfl) 0 (v:=.int .i64 k) rfl rfl)) ?_
 simp only [nrm]
 refine list_val (.bool false) (by rw [unhide hops]; kernel_rfl) (eql_i _ (.tmp 7) (.const (.int .i64 0)) k 0 false rfl (by kernel_rfl) (by kernel_rfl) (decide_eq_false h2)) ?_
 simp only [nrm]
 refine list_val (.bool false) (by rw [unhide hops]; kernel_rfl) (by kernel_rfl) ?_
 simp only [nrm]
 refine list_off (by rw [unhide hops]; kernel_rfl) ?_
 simp only [nrm]
 refine list_off (by rw [unhide hops]; kernel_rfl) ?_
 simp only [nrm]
 refine list_off (by rw [unhide hops]; kernel_rfl) ?_
 simp only [nrm]
 refine list_val (.bool false) (by rw [unhide hops]; kernel_rfl) (by kernel_rfl) ?_
 simp only [nrm]
 refine list_val (.bool false) (by rw [unhide hops]; kernel_rfl) (by kernel_rfl) ?_
 simp only [nrm]
 refine list_off (by rw [unhide hops]; kernel_rfl) ?_
 simp only [nrm]
 refine list_off (by rw [unhide hops]; kernel_rfl) ?_
 simp only [nrm]
 refine list_off (by rw [unhide hops]; kernel_rfl) ?_
 simp only [nrm]
 refine list_off (by rw [unhide hops]; kernel_rfl) ?_
 simp only [nrm]
 refine list_val (.bool false) (by rw [unhide hops]; kernel_rfl) (by kernel_rfl) ?_
 simp only [nrm]
 (refine wpList_step fun K hK=>?_; replace hK:=hide hK; go_simp; refine unhide hK _ _ ?_; clear hK K)
 refine wpList_nil ?_
 replace hB:=hide hB
 go_wp2_with fail
 replace hB:=unhide hB
 rw [unhide hT]
 exact (⟨rfl,hB.gr⟩)
set_option maxHeartbeats 4000000 in
theorem yright_3 (k a s:Int) (B:List Int) (hBl:B.length=105) (w:World) (h1:k≠1) (h2:k=0) (h3:s≠0):Calls Tryz.prog 8 #[.agg (fl [[.int .i64 k],[.int .u32 a],[.int .u32 s],bw B])] w (Vl (.bool false) w):=by
 obtain ⟨T,hT⟩:∃ T:Ending→World→Prop,T=(Vl (.bool false) w):=⟨_,rfl⟩
 rw [← hT]
 replace hT:=hide hT
 obtain ⟨A0_,hA0_⟩:∃ S_,S_=fl [[.int .i64 k],[.int .u32 a],[.int .u32 s],bw B]:=⟨_,rfl⟩
 rw [← hA0_]
 replace hA0_:=hide hA0_
 go_enter Tryz.func8,Tryz.ntmps8
 go_upto_region 1 with fail
 have hB:=((Bl.nil w).new A0_ 30)
 simp only [size_alloc,List.nil_append,List.cons_append] at hB
 rw [unhide hA0_] at hB
 generalize hu_:World.alloc _ _=u0
 replace hB:Bl w [⟨w.heap.size,fl [[.int .i64 k],[.int .u32 a],[.int .u32 s],bw B],30⟩] u0:=by
  rw [← hu_]
  rw [unhide hA0_]
  exact hB
 clear hu_ hA0_
 refine wp_region_lit ?_
 refine lvk (.pointer (some ⟨w.heap.size,0,none⟩)) ?_
 simp only [nrm]
 refine list_val (.int .i64 k) (by kernel_rfl) (exec_ci _ (.tmp 3) rfl (w.heap.size) 0 (by kernel_rfl) k (seg_cell (nE hBl _ _ _) (hB.get 0 (x:=⟨w.heap.size,fl [[.int .i64 k],[.int .u32 a],[.int .u32 s],bw B],30⟩) rfl) 0 (v:=.int .i64 k) rfl rfl)) ?_
 simp only [nrm]
 refine list_val (.bool false) (by kernel_rfl) (eql_i _ (.tmp 4) (.const (.int .i64 1)) k 1 false rfl (by kernel_rfl) (by kernel_rfl) (decide_eq_false h1)) ?_
 simp only [nrm]
 refine wpList_nil ?_
 replace hB:=hide hB
 go_upto_region 3 with fail
 replace hB:=unhide hB
 refine wp_region_lit ?_
 refine wpList_gen fun ops_ hops=>?_
 replace hops:=hide hops
 refine list_val (.pointer (some ⟨w.heap.size,0,none⟩)) (by rw [unhide hops]; kernel_rfl) (by kernel_rfl) ?_
 simp only [nrm]
 refine list_val (.int .i64 k) (by rw [unhide hops]; kernel_rfl) (exec_ci _ (.tmp 6) rfl (w.heap.size) 0 (by kernel_rfl) k (seg_cell (nE hBl _ _ _) (hB.get 0 (x:=⟨w.heap.size,fl [[.int .i64 k],[.int .u32 a],[.int .u32 s],bw B],30⟩) rfl) 0 (v:=.int .i64 k) rfl rfl)) ?_
 simp only [nrm]
 refine list_val (.bool true) (by rw [unhide hops]; kernel_rfl) (eql_i _ (.tmp 7) (.const (.int .i64 0)) k 0 true rfl (by kernel_rfl) (by kernel_rfl) (decide_eq_true h2)) ?_
 simp only [nrm]
 refine list_val (.bool true) (by rw [unhide hops]; kernel_rfl) (by kernel_rfl) ?_
 simp only [nrm]
 refine list_val (.pointer (some ⟨w.heap.size,2,none⟩)) (by rw [unhide hops]; kernel_rfl) (by kernel_rfl) ?_
 simp only [nrm]
 refine list_val (.int .u32 s) (by rw [unhide hops]; kernel_rfl) (exec_c32 _ (.tmp 10) rfl (w.heap.size) 2 (by kernel_rfl) s (seg_cell (nE hBl _ _ _) (hB.get 0 (x:=⟨w.heap.size,fl [[.int .i64 k],[.int .u32 a],[.int .u32 s],bw B],30⟩) rfl) 2 (v:=.int .u32 s) rfl rfl)) ?_
 simp only [nrm]
 refine list_val (.bool false) (by rw [unhide hops]; kernel_rfl) (eql_32 _ (.tmp 11) (.const (.int .u32 0)) s 0 false rfl (by kernel_rfl) (by kernel_rfl) (decide_eq_false h3)) ?_
 simp only [nrm]
 refine list_val (.bool false) (by rw [unhide hops]; kernel_rfl) (by kernel_rfl) ?_
 simp only [nrm]
 refine list_val (.bool false) (by rw [unhide hops]; kernel_rfl) (by kernel_rfl) ?_
 simp only [nrm]
 refine list_off (by rw [unhide hops]; kernel_rfl) ?_
 simp only [nrm]
 refine list_off (by rw [unhide hops]; kernel_rfl) ?_
 simp only [nrm]
 refine list_off (by rw [unhide hops]; kernel_rfl) ?_
 simp only [nrm]
 refine list_off (by rw [unhide hops]; kernel_rfl) ?_
 simp only [nrm]
 refine list_val (.bool false) (by rw [unhide hops]; kernel_rfl) (by kernel_rfl) ?_
 simp only [nrm]
 (refine wpList_step fun K hK=>?_; replace hK:=hide hK; go_simp; refine unhide hK _ _ ?_; clear hK K)
 refine wpList_nil ?_
 replace hB:=hide hB
 go_wp2_with fail
 replace hB:=unhide hB
 rw [unhide hT]
 exact (⟨rfl,hB.gr⟩)
set_option maxHeartbeats 4000000 in
theorem yright_4 (k a s:Int) (B:List Int) (hBl:B.length=105) (w:World) (h1:k≠1) (h2:k=0) (h3:s=0) (h4:B=Z105):Calls Tryz.prog 8 #[.agg (fl [[.int .i64 k],[.int .u32 a],[.int .u32 s],bw B])] w (Vl (.bool true) w):=by
 obtain ⟨T,hT⟩:∃ T:Ending→World→Prop,T=(Vl (.bool true) w):=⟨_,rfl⟩
 rw [← hT]
 replace hT:=hide hT
 obtain ⟨A0_,hA0_⟩:∃ S_,S_=fl [[.int .i64 k],[.int .u32 a],[.int .u32 s],bw B]:=⟨_,rfl⟩
 rw [← hA0_]
 replace hA0_:=hide hA0_
 go_enter Tryz.func8,Tryz.ntmps8
 go_upto_region 1 with fail
 have hB:=((Bl.nil w).new A0_ 30)
 simp only [size_alloc,List.nil_append,List.cons_append] at hB
 rw [unhide hA0_] at hB
 generalize hu_:World.alloc _ _=u0
 replace hB:Bl w [⟨w.heap.size,fl [[.int .i64 k],[.int .u32 a],[.int .u32 s],bw B],30⟩] u0:=by
  rw [← hu_]
  rw [unhide hA0_]
  exact hB
 clear hu_ hA0_
 refine wp_region_lit ?_
 refine lvk (.pointer (some ⟨w.heap.size,0,none⟩)) ?_
 simp only [nrm]
 refine list_val (.int .i64 k) (by kernel_rfl) (exec_ci _ (.tmp 3) rfl (w.heap.size) 0 (by kernel_rfl) k (seg_cell (nE hBl _ _ _) (hB.get 0 (x:=⟨w.heap.size,fl [[.int .i64 k],[.int .u32 a],[.int .u32 s],bw B],30⟩) rfl) 0 (v:=.int .i64 k) rfl rfl)) ?_
 simp only [nrm]
 refine list_val (.bool false) (by kernel_rfl) (eql_i _ (.tmp 4) (.const (.int .i64 1)) k 1 false rfl (by kernel_rfl) (by kernel_rfl) (decide_eq_false h1)) ?_
 simp only [nrm]
 refine wpList_nil ?_
 replace hB:=hide hB
 go_upto_region 3 with fail
 replace hB:=unhide hB
 refine wp_region_lit ?_
 refine wpList_gen fun ops_ hops=>?_
 replace hops:=hide hops
 refine list_val (.pointer (some ⟨w.heap.size,0,none⟩)) (by rw [unhide hops]; kernel_rfl) (by kernel_rfl) ?_
 simp only [nrm]
 refine list_val (.int .i64 k) (by rw [unhide hops]; kernel_rfl) (exec_ci _ (.tmp 6) rfl (w.heap.size) 0 (by kernel_rfl) k (seg_cell (nE hBl _ _ _) (hB.get 0 (x:=⟨w.heap.size,fl [[.int .i64 k],[.int .u32 a],[.int .u32 s],bw B],30⟩) rfl) 0 (v:=.int .i64 k) rfl rfl)) ?_
 simp only [nrm]
 refine list_val (.bool true) (by rw [unhide hops]; kernel_rfl) (eql_i _ (.tmp 7) (.const (.int .i64 0)) k 0 true rfl (by kernel_rfl) (by kernel_rfl) (decide_eq_true h2)) ?_
 simp only [nrm]
 refine list_val (.bool true) (by rw [unhide hops]; kernel_rfl) (by kernel_rfl) ?_
 simp only [nrm]
 refine list_val (.pointer (some ⟨w.heap.size,2,none⟩)) (by rw [unhide hops]; kernel_rfl) (by kernel_rfl) ?_
 simp only [nrm]
 refine list_val (.int .u32 s) (by rw [unhide hops]; kernel_rfl) (exec_c32 _ (.tmp 10) rfl (w.heap.size) 2 (by kernel_rfl) s (seg_cell (nE hBl _ _ _) (hB.get 0 (x:=⟨w.heap.size,fl [[.int .i64 k],[.int .u32 a],[.int .u32 s],bw B],30⟩) rfl) 2 (v:=.int .u32 s) rfl rfl)) ?_
 simp only [nrm]
 refine list_val (.bool true) (by rw [unhide hops]; kernel_rfl) (eql_32 _ (.tmp 11) (.const (.int .u32 0)) s 0 true rfl (by kernel_rfl) (by kernel_rfl) (decide_eq_true h3)) ?_
 simp only [nrm]
 refine list_val (.bool true) (by rw [unhide hops]; kernel_rfl) (by kernel_rfl) ?_
 simp only [nrm]
 refine list_val (.bool true) (by rw [unhide hops]; kernel_rfl) (by kernel_rfl) ?_
 simp only [nrm]
 refine list_val (.pointer (some ⟨w.heap.size,3,none⟩)) (by rw [unhide hops]; kernel_rfl) (by kernel_rfl) ?_
 simp only [nrm]
 refine list_val (.agg (kc B)) (by rw [unhide hops]; kernel_rfl) (exec_sa _ 28 (.tmp 15) rfl (w.heap.size) 3 (by kernel_rfl) (hB.get 0 (x:=⟨w.heap.size,fl [[.int .i64 k],[.int .u32 a],[.int .u32 s],bw B],30⟩) rfl) NE (nE hBl _ _ _) 3 B rfl rfl Tryz.underlying28 rfl (n:=105) rfl Tryz.info105) ?_
 simp only [nrm]
 refine list_val (.agg (kc Z105)) (by rw [unhide hops]; kernel_rfl) (exec_bld _ _ _ [] rfl (by simp) _ (by kernel_rfl)) ?_
 simp only [nrm]
 refine list_val (.bool true) (by rw [unhide hops]; kernel_rfl) (exec_eq105b _ (.tmp 16) (.tmp 17) rfl B Z105 hBl rfl (by kernel_rfl) (by kernel_rfl) true (decide_eq_true h4)) ?_
 simp only [nrm]
 refine list_val (.bool true) (by rw [unhide hops]; kernel_rfl) (by kernel_rfl) ?_
 simp only [nrm]
 (refine wpList_step fun K hK=>?_; replace hK:=hide hK; go_simp; refine unhide hK _ _ ?_; clear hK K)
 refine wpList_nil ?_
 replace hB:=hide hB
 go_wp2_with fail
 replace hB:=unhide hB
 rw [unhide hT]
 exact (⟨rfl,hB.gr⟩)
set_option maxHeartbeats 4000000 in
theorem yright_5 (k a s:Int) (B:List Int) (hBl:B.length=105) (w:World) (h1:k≠1) (h2:k=0) (h3:s=0) (h4:B≠Z105):Calls Tryz.prog 8 #[.agg (fl [[.int .i64 k],[.int .u32 a],[.int .u32 s],bw B])] w (Vl (.bool false) w):=by
 obtain ⟨T,hT⟩:∃ T:Ending→World→Prop,T=(Vl (.bool false) w):=⟨_,rfl⟩
 rw [← hT]
 replace hT:=hide hT
 obtain ⟨A0_,hA0_⟩:∃ S_,S_=fl [[.int .i64 k],[.int .u32 a],[.int .u32 s],bw B]:=⟨_,rfl⟩
 rw [← hA0_]
 replace hA0_:=hide hA0_
 go_enter Tryz.func8,Tryz.ntmps8
 go_upto_region 1 with fail
 have hB:=((Bl.nil w).new A0_ 30)
 simp only [size_alloc,List.nil_append,List.cons_append] at hB
 rw [unhide hA0_] at hB
 generalize hu_:World.alloc _ _=u0
 replace hB:Bl w [⟨w.heap.size,fl [[.int .i64 k],[.int .u32 a],[.int .u32 s],bw B],30⟩] u0:=by
  rw [← hu_]
  rw [unhide hA0_]
  exact hB
 clear hu_ hA0_
 refine wp_region_lit ?_
 refine lvk (.pointer (some ⟨w.heap.size,0,none⟩)) ?_
 simp only [nrm]
 refine list_val (.int .i64 k) (by kernel_rfl) (exec_ci _ (.tmp 3) rfl (w.heap.size) 0 (by kernel_rfl) k (seg_cell (nE hBl _ _ _) (hB.get 0 (x:=⟨w.heap.size,fl [[.int .i64 k],[.int .u32 a],[.int .u32 s],bw B],30⟩) rfl) 0 (v:=.int .i64 k) rfl rfl)) ?_
 simp only [nrm]
 refine list_val (.bool false) (by kernel_rfl) (eql_i _ (.tmp 4) (.const (.int .i64 1)) k 1 false rfl (by kernel_rfl) (by kernel_rfl) (decide_eq_false h1)) ?_
 simp only [nrm]
 refine wpList_nil ?_
 replace hB:=hide hB
 go_upto_region 3 with fail
 replace hB:=unhide hB
 refine wp_region_lit ?_
 refine wpList_gen fun ops_ hops=>?_
 replace hops:=hide hops
 refine list_val (.pointer (some ⟨w.heap.size,0,none⟩)) (by rw [unhide hops]; kernel_rfl) (by kernel_rfl) ?_
 simp only [nrm]
 refine list_val (.int .i64 k) (by rw [unhide hops]; kernel_rfl) (exec_ci _ (.tmp 6) rfl (w.heap.size) 0 (by kernel_rfl) k (seg_cell (nE hBl _ _ _) (hB.get 0 (x:=⟨w.heap.size,fl [[.int .i64 k],[.int .u32 a],[.int .u32 s],bw B],30⟩) rfl) 0 (v:=.int .i64 k) rfl rfl)) ?_
 simp only [nrm]
 refine list_val (.bool true) (by rw [unhide hops]; kernel_rfl) (eql_i _ (.tmp 7) (.const (.int .i64 0)) k 0 true rfl (by kernel_rfl) (by kernel_rfl) (decide_eq_true h2)) ?_
 simp only [nrm]
 refine list_val (.bool true) (by rw [unhide hops]; kernel_rfl) (by kernel_rfl) ?_
 simp only [nrm]
 refine list_val (.pointer (some ⟨w.heap.size,2,none⟩)) (by rw [unhide hops]; kernel_rfl) (by kernel_rfl) ?_
 simp only [nrm]
 refine list_val (.int .u32 s) (by rw [unhide hops]; kernel_rfl) (exec_c32 _ (.tmp 10) rfl (w.heap.size) 2 (by kernel_rfl) s (seg_cell (nE hBl _ _ _) (hB.get 0 (x:=⟨w.heap.size,fl [[.int .i64 k],[.int .u32 a],[.int .u32 s],bw B],30⟩) rfl) 2 (v:=.int .u32 s) rfl rfl)) ?_
 simp only [nrm]
 refine list_val (.bool true) (by rw [unhide hops]; kernel_rfl) (eql_32 _ (.tmp 11) (.const (.int .u32 0)) s 0 true rfl (by kernel_rfl) (by kernel_rfl) (decide_eq_true h3)) ?_
 simp only [nrm]
 refine list_val (.bool true) (by rw [unhide hops]; kernel_rfl) (by kernel_rfl) ?_
 simp only [nrm]
 refine list_val (.bool true) (by rw [unhide hops]; kernel_rfl) (by kernel_rfl) ?_
 simp only [nrm]
 refine list_val (.pointer (some ⟨w.heap.size,3,none⟩)) (by rw [unhide hops]; kernel_rfl) (by kernel_rfl) ?_
 simp only [nrm]
 refine list_val (.agg (kc B)) (by rw [unhide hops]; kernel_rfl) (exec_sa _ 28 (.tmp 15) rfl (w.heap.size) 3 (by kernel_rfl) (hB.get 0 (x:=⟨w.heap.size,fl [[.int .i64 k],[.int .u32 a],[.int .u32 s],bw B],30⟩) rfl) NE (nE hBl _ _ _) 3 B rfl rfl Tryz.underlying28 rfl (n:=105) rfl Tryz.info105) ?_
 simp only [nrm]
 refine list_val (.agg (kc Z105)) (by rw [unhide hops]; kernel_rfl) (exec_bld _ _ _ [] rfl (by simp) _ (by kernel_rfl)) ?_
 simp only [nrm]
 refine list_val (.bool false) (by rw [unhide hops]; kernel_rfl) (exec_eq105b _ (.tmp 16) (.tmp 17) rfl B Z105 hBl rfl (by kernel_rfl) (by kernel_rfl) false (decide_eq_false h4)) ?_
 simp only [nrm]
 refine list_val (.bool false) (by rw [unhide hops]; kernel_rfl) (by kernel_rfl) ?_
 simp only [nrm]
 (refine wpList_step fun K hK=>?_; replace hK:=hide hK; go_simp; refine unhide hK _ _ ?_; clear hK K)
 refine wpList_nil ?_
 replace hB:=hide hB
 go_wp2_with fail
 replace hB:=unhide hB
 rw [unhide hT]
 exact (⟨rfl,hB.gr⟩)
theorem yright_ok (k a s:Int) (B:List Int) (hBl:B.length=105) (w:World):Calls Tryz.prog 8 #[.agg (fl [[.int .i64 k],[.int .u32 a],[.int .u32 s],bw B])] w (Vl (.bool (evR k s B)) w):=by
 by_cases h1:k=1
 ·rw [show evR k s B=true from by unfold evR; simp [h1]]
  exact yright_1 k a s B hBl w h1
 by_cases h2:k=0
 ·by_cases h3:s=0
  ·by_cases h4:B=Z105
   ·rw [show evR k s B=true from by unfold evR allZ; simp [h2,h3,h4,Z105]]
    exact yright_4 k a s B hBl w h1 h2 h3 h4
   ·rw [show evR k s B=false from by
     have h5:decide (B=List.replicate B.length 0)=false:=by
      rw [hBl]
      exact decide_eq_false h4
     unfold evR allZ
     rw [h5]
     simp [h2]]
    exact yright_5 k a s B hBl w h1 h2 h3 h4
  ·rw [show evR k s B=false from by unfold evR; simp [h2,h3]]
   exact yright_3 k a s B hBl w h1 h2 h3
 ·rw [show evR k s B=false from by unfold evR; simp [h1,h2]]
  exact yright_2 k a s B hBl w h1 h2
end Go.Proofs.YthahhglbeafkmaaGreatDoor
namespace Go.Proofs.YthahhglbeafkmaaGreatDoor
open Go.RowKit
set_option maxRecDepth 100000
set_option linter.unusedSimpArgs false
set_option linter.unusedVariables false
theorem key_t (r:Int) (K:List Int) (f:Bool):okL r K (kyT f)=rkL r K f true:=by cases f <;> rfl
set_option maxHeartbeats 4000000 in
theorem yreal_ok (Ky:List Int) (hKy:Ky.length=32) (hKb:IsB Ky) (f:Bool) (k a s:Int) (B:List Int) (hBl:B.length=105) (hBb:IsB B) (ha:U4 a) (hs:U4 s) (r:Int) (hr:0≤r∧r<18446744073709551616) (Y N D P C:List Int) (w:World) (hF:Fst w) (he:evR k s B=true) (hY:Y=rkL r Ky f true) (hN:N=cntL r) (hD:D=drL r Ky) (hP:P=evB k a s B) (hC:C=sealL Y N D P):Calls Tryz.prog 9 #[.agg (fl [bw Ky,[.bool f]]),.int .u64 r,.agg (fl [[.int .i64 k],[.int .u32 a],[.int .u32 s],bw B])] w (Vl (.agg (fl [bw D,bw C])) w):=by
 obtain ⟨T,hT⟩:∃ T:Ending→World→Prop,T=(Vl (.agg (fl [bw D,bw C])) w):=⟨_,rfl⟩
 rw [← hT]
 replace hT:=hide hT
 have hYl:Y.length=32:=by rw [hY]; exact rkL_len _ _ _ _
 have hNl:N.length=12:=by rw [hN]; exact cntL_len _
 have hDl:D.length=16:=by rw [hD]; exact drL_len _ _
 have hYb:IsB Y:=by rw [hY]; exact rkL_isB _ _ _ _
 have hNb:IsB N:=by rw [hN]; exact cntL_isB _
 have hDb:IsB D:=by rw [hD]; exact drL_isB _ _
 have hPl:P.length=114:=by rw [hP]; exact evB_len _ _ _ hBl
 have hPb:IsB P:=by rw [hP]; exact evB_isB a he hBb
 have hCl:C.length=130:=by rw [hC,sealL_len',hPl]
 have hCb:IsB C:=by rw [hC]; exact sealL_isB _ _ _ _
 have hk:=evR_k he
 obtain ⟨A0_,hA0_⟩:∃ S_,S_=fl [bw Ky,[.bool f]]:=⟨_,rfl⟩
 rw [← hA0_]
 replace hA0_:=hide hA0_
 obtain ⟨A2_,hA2_⟩:∃ S_,S_=fl [[.int .i64 k],[.int .u32 a],[.int .u32 s],bw B]:=⟨_,rfl⟩
 rw [← hA2_]
 replace hA2_:=hide hA2_
 replace hY:=hide hY
 replace hN:=hide hN
 replace hD:=hide hD
 replace hF:=hide hF
 replace hKb:=hide hKb
 replace hYb:=hide hYb
 replace hNb:=hide hNb
 replace hDb:=hide hDb
 replace he:=hide he
 replace hP:=hide hP
 replace hC:=hide hC
 replace hPb:=hide hPb
 replace hCb:=hide hCb
 replace hBb:=hide hBb
 go_enter Tryz.func9,Tryz.ntmps9
 go_upto_region 1 with fail
 have hB:=((((Bl.nil w).new A0_ 25).new A2_ 30).new (fl [bw Z16,bw Z130]) 36)
 simp only [size_alloc,List.nil_append,List.cons_append] at hB
 rw [unhide hA0_,unhide hA2_] at hB
 generalize hu_:World.alloc _ _=u0
 replace hB:Bl w [⟨w.heap.size,fl [bw Ky,[.bool f]],25⟩,⟨w.heap.size+1,fl [[.int .i64 k],[.int .u32 a],[.int .u32 s],bw B],30⟩,⟨w.heap.size+1+1,fl [bw Z16,bw Z130],36⟩] u0:=by
  rw [← hu_]
  rw [unhide hA0_,unhide hA2_]
  exact hB
 clear hu_ hA0_ hA2_
 refine wp_region_lit ?_
 refine list_val (.agg (fl [bw Ky,[.bool f]])) (by kernel_rfl) (exec_sw _ 25 (.tmp 3) rfl (w.heap.size) (by kernel_rfl) (hB.get 0 (x:=⟨w.heap.size,fl [bw Ky,[.bool f]],25⟩) rfl) NP (nP hKy _) Tryz.underlying25 rfl (by kernel_rfl)) ?_
 simp only [nrm]
 refine lvk (.int .u64 r) ?_
 simp only [nrm]
 refine list_call 24 #[.agg (fl [bw Ky,[.bool f]]),.int .u64 r] (by kernel_rfl) (by kernel_rfl) (((show Calls Tryz.prog 24 #[.agg (fl [bw Ky,[.bool f]]),.int .u64 r] u0 (Vl (.agg (kc D)) u0) from by rw [unhide hD]; exact ydropf_ok r hr Ky hKy (unhide hKb) f u0 ((unhide hF).gr hB.gr))).mono ?_)
 rintro r_ u1 ⟨rfl,hg⟩
 replace hB:=hB.more hg
 clear hg
 refine ⟨_,rfl,?_⟩
 simp only [nrm]
 refine list_val (.agg (fl [bw D,bw Z130])) (by kernel_rfl) (bX0 _ (.tmp 10) rfl hDl (by kernel_rfl)) ?_
 simp only [nrm]
 refine list_valw (.pointer (some ⟨u1.heap.size,0,none⟩)) (u1.alloc (.cells (fl [bw Z16,bw Z130]) 36 (0,0))) (by kernel_rfl) (by kernel_rfl) ?_
 replace hB:=hB.new (fl [bw Z16,bw Z130]) 36
 simp only [List.nil_append,List.cons_append] at hB
 generalize World.alloc _ _=u2 at *
 generalize u1.heap.size=g7 at *
 replace hB:Bl w [⟨w.heap.size,fl [bw Ky,[.bool f]],25⟩,⟨w.heap.size+1,fl [[.int .i64 k],[.int .u32 a],[.int .u32 s],bw B],30⟩,⟨w.heap.size+1+1,fl [bw Z16,bw Z130],36⟩,⟨g7,fl [bw Z16,bw Z130],36⟩] u2:=hB
 simp only [nrm]
 refine list_all 36 (.tmp 7) (.tmp 11) (g7) (S2:=[bw D,bw Z130]) (by kernel_rfl) rfl (by kernel_rfl) (by kernel_rfl) hB 3 rfl NX (nX (show List.length Z16=16 from rfl) (show List.length Z130=130 from rfl)) (nX hDl (show List.length Z130=130 from rfl)) (by kernel_rfl) (oX _ _) ?_
 intro u3 hB_ hbt_
 clear hB
 replace hB:Bl w [⟨w.heap.size,fl [bw Ky,[.bool f]],25⟩,⟨w.heap.size+1,fl [[.int .i64 k],[.int .u32 a],[.int .u32 s],bw B],30⟩,⟨w.heap.size+1+1,fl [bw Z16,bw Z130],36⟩,⟨g7,fl [bw D,bw Z130],36⟩] u3:=hB_
 clear hB_
 clear hbt_
 simp only [nrm]
 refine wpList_nil ?_
 replace hB:=hide hB
 go_upto_region 2 with fail
 replace hB:=unhide hB
 refine any_start (S:=fun v_=>v_.heap[w.heap.size]?=some (.cells (fl [bw Ky,[.bool f]]) 25 (0,0))∧v_.heap[w.heap.size+1]?=some (.cells (fl [[.int .i64 k],[.int .u32 a],[.int .u32 s],bw B]) 30 (0,0))) (by kernel_rfl) ?_
 replace hB:=hB.drew
 generalize World.drew _=u4 at *
 simp only [List.size_toArray,List.length_cons,List.length_nil,Array.replicate,List.replicate]
 have hS_:=hide (show (fun v_=>v_.heap[w.heap.size]?=some (.cells (fl [bw Ky,[.bool f]]) 25 (0,0))∧v_.heap[w.heap.size+1]?=some (.cells (fl [[.int .i64 k],[.int .u32 a],[.int .u32 s],bw B]) 30 (0,0))) u4 from ⟨(hB.get 0 (x:=⟨w.heap.size,fl [bw Ky,[.bool f]],25⟩) rfl),(hB.get 1 (x:=⟨w.heap.size+1,fl [[.int .i64 k],[.int .u32 a],[.int .u32 s],bw B],30⟩) rfl)⟩)
 refine any_tk 0 (.pointer (some ⟨g7,16,none⟩)) (tf 15 0) rfl (fun x_ hu=>by kernel_rfl) (unhide hS_) ?_
 simp only [nrm]
 refine any_tk 1 (.slice (some ⟨g7,16,none⟩) 130 130) (tf 15 1) rfl (fun x_ hu=>by kernel_rfl) (unhide hS_) ?_
 simp only [nrm]
 refine any_tk 2 (.agg (fl [bw Ky,[.bool f]])) (tf 15 2) rfl (fun x_ hu=>exec_sw _ 25 (.tmp 3) rfl (w.heap.size) (by kernel_rfl) hu.1 NP (nP hKy _) Tryz.underlying25 rfl (by kernel_rfl)) (unhide hS_) ?_
 simp only [nrm]
 refine any_tk 3 (.int .u64 r) (tf 15 3) rfl (fun x_ hu=>by kernel_rfl) (unhide hS_) ?_
 simp only [nrm]
 refine any_tk 4 (.pointer (some ⟨w.heap.size,32,none⟩)) (tf 15 4) rfl (fun x_ hu=>by kernel_rfl) (unhide hS_) ?_
 simp only [nrm]
 refine any_tk 5 (.bool f) (tf 15 5) rfl (fun x_ hu=>exec_cb _ (.tmp 16) rfl (w.heap.size) 32 (by kernel_rfl) f (seg_cell (nP hKy _) hu.1 1 (v:=.bool f) rfl rfl)) (unhide hS_) ?_
 simp only [nrm]
 refine any_tk 7 (.int .u64 r) (tf 15 6) rfl (fun x_ hu=>by kernel_rfl) (unhide hS_) ?_
 simp only [nrm]
 refine any_tk 9 (.pointer (some ⟨g7,0,none⟩)) #[true,true,true,true,true,true,false,true,false,false,false,false,false,false,false] rfl (fun x_ hu=>by kernel_rfl) (unhide hS_) ?_
 simp only [nrm]
 refine any_tk 10 (.slice (some ⟨g7,0,none⟩) 16 16) #[true,true,true,true,true,true,false,true,false,true,false,false,false,false,false] rfl (fun x_ hu=>by kernel_rfl) (unhide hS_) ?_
 simp only [nrm]
 refine any_tk 11 (.agg (fl [[.int .i64 k],[.int .u32 a],[.int .u32 s],bw B])) #[true,true,true,true,true,true,false,true,false,true,true,false,false,false,false] rfl (fun x_ hu=>exec_sw _ 30 (.tmp 5) rfl (w.heap.size+1) (by kernel_rfl) hu.2 NE (nE hBl _ _ _) Tryz.underlying30 rfl (by kernel_rfl)) (unhide hS_) ?_
 simp only [nrm]
 refine any_one (i:=6) (by kernel_rfl) rfl (fun K hK=>?_)
 refine step_callw (by kernel_rfl) 26 #[.agg (fl [bw Ky,[.bool f]]),.int .u64 r,.bool f] (by kernel_rfl) (((show Calls Tryz.prog 26 #[.agg (fl [bw Ky,[.bool f]]),.int .u64 r,.bool f] u4 (Vl (.agg (kc Y)) u4) from by rw [unhide hY,← key_t]; exact ykeyf_ok f r hr Ky hKy (unhide hKb) f u4 ((unhide hF).gr hB.gr))).mono ?_)
 rintro r_ u5 ⟨rfl,hg⟩
 replace hB:=hB.more hg
 clear hg
 refine ⟨_,rfl,?_⟩
 clear hS_
 have hS_:=hide (show (fun v_=>v_.heap[w.heap.size]?=some (.cells (fl [bw Ky,[.bool f]]) 25 (0,0))∧v_.heap[w.heap.size+1]?=some (.cells (fl [[.int .i64 k],[.int .u32 a],[.int .u32 s],bw B]) 30 (0,0))) u5 from ⟨(hB.get 0 (x:=⟨w.heap.size,fl [bw Ky,[.bool f]],25⟩) rfl),(hB.get 1 (x:=⟨w.heap.size+1,fl [[.int .i64 k],[.int .u32 a],[.int .u32 s],bw B],30⟩) rfl)⟩)
 refine hK.out _ _ (unhide hS_) (fun _=>?_)
 clear hK K
 simp only [nrm]
 refine any_one (i:=8) (by kernel_rfl) rfl (fun K hK=>?_)
 refine step_callw (by kernel_rfl) 27 #[.int .u64 r] (by kernel_rfl) (((show Calls Tryz.prog 27 #[.int .u64 r] u5 (Vl (.agg (kc N)) u5) from by rw [unhide hN]; exact ynonce_ok r hr u5)).mono ?_)
 rintro r_ u6 ⟨rfl,hg⟩
 replace hB:=hB.more hg
 clear hg
 refine ⟨_,rfl,?_⟩
 clear hS_
 have hS_:=hide (show (fun v_=>v_.heap[w.heap.size]?=some (.cells (fl [bw Ky,[.bool f]]) 25 (0,0))∧v_.heap[w.heap.size+1]?=some (.cells (fl [[.int .i64 k],[.int .u32 a],[.int .u32 s],bw B]) 30 (0,0))) u6 from ⟨(hB.get 0 (x:=⟨w.heap.size,fl [bw Ky,[.bool f]],25⟩) rfl),(hB.get 1 (x:=⟨w.heap.size+1,fl [[.int .i64 k],[.int .u32 a],[.int .u32 s],bw B],30⟩) rfl)⟩)
 refine hK.out _ _ (unhide hS_) (fun _=>?_)
 clear hK K
 simp only [nrm]
 refine any_one (i:=12) (by kernel_rfl) rfl (fun K hK=>?_)
 refine step_callw (by kernel_rfl) 28 #[.agg (fl [[.int .i64 k],[.int .u32 a],[.int .u32 s],bw B])] (by kernel_rfl) ((((show Calls Tryz.prog 28 #[.agg (fl [[.int .i64 k],[.int .u32 a],[.int .u32 s],bw B])] u6 (Obd P u6) from by rw [unhide hP]; exact ybytes_ok k a s B hBl (unhide hBb) ha hs hk u6).mono fun _ _ h=>obx_of h hB.gr.size)).mono ?_)
 rintro r_ u7 ⟨v1,rfl,ho,hg⟩
 replace hB:=hB.more hg
 clear hg
 obtain ⟨a1,c1,rfl,lp⟩:=ho.lb' (unhide hPb) 114 hPl
 clear ho
 replace lp:=hide lp
 refine ⟨_,rfl,?_⟩
 clear hS_
 have hS_:=hide (show (fun v_=>v_.heap[w.heap.size]?=some (.cells (fl [bw Ky,[.bool f]]) 25 (0,0))∧v_.heap[w.heap.size+1]?=some (.cells (fl [[.int .i64 k],[.int .u32 a],[.int .u32 s],bw B]) 30 (0,0))) u7 from ⟨(hB.get 0 (x:=⟨w.heap.size,fl [bw Ky,[.bool f]],25⟩) rfl),(hB.get 1 (x:=⟨w.heap.size+1,fl [[.int .i64 k],[.int .u32 a],[.int .u32 s],bw B],30⟩) rfl)⟩)
 refine hK.out _ _ (unhide hS_) (fun _=>?_)
 clear hK K
 simp only [nrm]
 refine any_one (i:=13) (by kernel_rfl) rfl (fun K hK=>?_)
 refine step_callw (by kernel_rfl) 25 #[.agg (kc Y),.agg (kc N),.slice (some ⟨g7,0,none⟩) 16 16,.slice a1 114 c1] (by kernel_rfl) ((((show Calls Tryz.prog 25 #[.agg (kc Y),.agg (kc N),.slice (some ⟨g7,0,none⟩) 16 16,.slice a1 114 c1] u7 (Obd C u7) from by rw [unhide hC]; exact rseal_ok Y N hYl hNl (unhide hYb) (unhide hNb) D P (some ⟨g7,0,none⟩) a1 16 114 16 c1 (by decide) (by decide) u7 (seg_lb (nX hDl (show List.length Z130=130 from rfl)) (hB.get 3 (x:=⟨g7,fl [bw D,bw Z130],36⟩) rfl) 0 rfl rfl (unhide hDb) hDl (by decide)) (unhide lp)).mono fun _ _ h=>obx_of h hB.gr.size)).mono ?_)
 rintro r_ u8 ⟨v2,rfl,ho,hg⟩
 replace hB:=hB.more hg
 clear hg
 obtain ⟨a2,c2,rfl,l2⟩:=ho.lb' (unhide hCb) 130 hCl
 clear ho lp
 replace l2:=hide l2
 refine ⟨_,rfl,?_⟩
 clear hS_
 have hS_:=hide (show (fun v_=>v_.heap[w.heap.size]?=some (.cells (fl [bw Ky,[.bool f]]) 25 (0,0))∧v_.heap[w.heap.size+1]?=some (.cells (fl [[.int .i64 k],[.int .u32 a],[.int .u32 s],bw B]) 30 (0,0))) u8 from ⟨(hB.get 0 (x:=⟨w.heap.size,fl [bw Ky,[.bool f]],25⟩) rfl),(hB.get 1 (x:=⟨w.heap.size+1,fl [[.int .i64 k],[.int .u32 a],[.int .u32 s],bw B],30⟩) rfl)⟩)
 refine hK.out _ _ (unhide hS_) (fun _=>?_)
 clear hK K
 simp only [nrm]
 refine any_one (i:=14) (by kernel_rfl) rfl (fun K hK=>?_)
 rw [if_pos (by kernel_rfl)]
 refine copy_wp (.tmp 13) (.tmp 25) rfl (g7) 16 130 130 (a2) 130 c2 (by kernel_rfl) (by kernel_rfl) (([bw D,bw Z130]:List (List Value)).flatten) 36 (hB.get 3 (x:=⟨g7,fl [bw D,bw Z130],36⟩) rfl) C (by rw [hCl]; rfl) ((unhide l2).sl) (by rw [fl_flat (nX hDl (show List.length Z130=130 from rfl)),hCl]; decide) ?_
 replace hB:=hB.cells 3 (C:=(([bw D,bw Z130]:List (List Value)).flatten)) rfl 16 (bw C)
 rw [show 16=(List.take 1 NX).sum from rfl,seg_set (nX hDl (show List.length Z130=130 from rfl)) 1 (bw C) (by rw [bw_len,hCl]; rfl)] at hB
 simp only [List.set_cons_zero,List.set_cons_succ] at hB
 replace hB:Bl w [⟨w.heap.size,fl [bw Ky,[.bool f]],25⟩,⟨w.heap.size+1,fl [[.int .i64 k],[.int .u32 a],[.int .u32 s],bw B],30⟩,⟨w.heap.size+1+1,fl [bw Z16,bw Z130],36⟩,⟨g7,fl [bw D,bw C],36⟩] (World.setCells u8 g7 16 (List.map (Value.int .u8) C)):=hB
 generalize World.setCells u8 g7 16 (List.map (Value.int .u8) C)=u9 at *
 clear hS_
 have hS_:=hide (show (fun v_=>v_.heap[w.heap.size]?=some (.cells (fl [bw Ky,[.bool f]]) 25 (0,0))∧v_.heap[w.heap.size+1]?=some (.cells (fl [[.int .i64 k],[.int .u32 a],[.int .u32 s],bw B]) 30 (0,0))) u9 from ⟨(hB.get 0 (x:=⟨w.heap.size,fl [bw Ky,[.bool f]],25⟩) rfl),(hB.get 1 (x:=⟨w.heap.size+1,fl [[.int .i64 k],[.int .u32 a],[.int .u32 s],bw B],30⟩) rfl)⟩)
 refine hK.out _ _ (unhide hS_) (fun _=>?_)
 clear hK K
 simp only [nrm]
 refine any_done (by kernel_rfl) ?_
 clear hS_
 replace hB:=hide hB
 go_upto_region 3 with fail
 replace hB:=unhide hB
 refine wp_region_lit ?_
 refine list_val (.agg (fl [bw D,bw C])) (by kernel_rfl) (exec_sw _ 36 (.tmp 7) rfl (g7) (by kernel_rfl) (hB.get 3 (x:=⟨g7,fl [bw D,bw C],36⟩) rfl) NX (nX hDl hCl) Tryz.underlying36 rfl (by kernel_rfl)) ?_
 simp only [nrm]
 refine list_all 36 (.tmp 6) (.tmp 27) (w.heap.size+1+1) (S2:=[bw D,bw C]) (by kernel_rfl) rfl (by kernel_rfl) (by kernel_rfl) hB 2 rfl NX (nX (show List.length Z16=16 from rfl) (show List.length Z130=130 from rfl)) (nX hDl hCl) (by kernel_rfl) (oX _ _) ?_
 intro u10 hB_ hbt_
 clear hB
 replace hB:Bl w [⟨w.heap.size,fl [bw Ky,[.bool f]],25⟩,⟨w.heap.size+1,fl [[.int .i64 k],[.int .u32 a],[.int .u32 s],bw B],30⟩,⟨w.heap.size+1+1,fl [bw D,bw C],36⟩,⟨g7,fl [bw D,bw C],36⟩] u10:=hB_
 clear hB_
 clear hbt_
 simp only [nrm]
 refine wpList_nil ?_
 replace hB:=hide hB
 go_wp2_with fail
 replace hB:=unhide hB
 rw [unhide hT]
 exact bodyPost_ret (v:=.agg (fl [bw D,bw C])) (res1 Tryz.results9 (rv_cell (by kernel_rfl) (hB.get 2 (x:=⟨w.heap.size+1+1,fl [bw D,bw C],36⟩) rfl) Tryz.underlying36 rfl (by rw [fl_size (nX hDl hCl)]; kernel_rfl))) rfl (⟨rfl,hB.gr⟩)
end Go.Proofs.YthahhglbeafkmaaGreatDoor
