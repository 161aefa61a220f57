/-
  SchedCovers, given whatever bytes and exchange, returns true, and its arguments read afterwards as they read before: for every input; the package variable first holds what the program's text lays (the card ties it).
-/
import Derived.Test.YthahhglbeafkmaaGreatDoorRows
import Derived.ProofKit
import Derived.OpenShut
import Derived.ChangeOld
import Derived.ChangeSame
import Derived.SizedLaws
import Derived.Deep.Strs
import Derived.Deep.Grids
import Derived.Lib.SmallJoins
import Derived.Test.YthahhglbeafkmaaGreatDoorTie
import Derived.Test.YthahhglbeafkmaaGreatDoorCards
import Derived.LaidMore
import Derived.Stop.Joined
import Derived.SevenTiedAt
import Derived.Test.YthahhglbeafkmaaGreatDoorCK10
namespace Go.Proofs.YthahhglbeafkmaaGreatDoor
open Go.RowKit
set_option maxRecDepth 100000
set_option linter.unusedSimpArgs false
set_option linter.unusedVariables false
theorem eq_xf {D B:List Int} (hD:D.length=16) (hB:B.length=130) (w:World):(Op.equalIn 10000 36 (.agg (fl [bw D,bw B])) (.agg (fl [bw D,bw B]))).run Tryz.prog w=.ok true w:=by
 rw [← xcl_fl]
 exact eq_xcl hD hB w
theorem eq_ef (k a s:Int) {B:List Int} (hB:B.length=105) (w:World):(Op.equalIn 10000 30 (.agg (fl [[.int .i64 k],[.int .u32 a],[.int .u32 s],bw B])) (.agg (fl [[.int .i64 k],[.int .u32 a],[.int .u32 s],bw B]))).run Tryz.prog w=.ok true w:=by
 rw [← evl_fl]
 exact eq_evl k a s hB w
theorem k1_isB:IsB K1:=fun x hx=>by
 rcases List.mem_cons.1 hx with rfl | h
 ·decide
 ·rw [List.eq_of_mem_replicate h]; decide
theorem z105_isB:IsB Z105:=fun x hx=>by rw [List.eq_of_mem_replicate hx]; decide
theorem wake_num:(bk (okL 3 K1 tFir) (cntL 3) 1).getD 0 0=39:=by decide +kernel
theorem wake_first:(xl (rkL 3 K1 true true) (cntL 3) 1 (evB 0 7 0 Z105)).getD 0 0=39:=by
 have h:(xl (rkL 3 K1 true true) (cntL 3) 1 (evB 0 7 0 Z105)).getD 0 0=xb 0 ((bk (okL 3 K1 tFir) (cntL 3) 1).getD 0 0):=by
  unfold xl
  rw [List.getD_eq_getElem?_getD,List.getElem?_map,List.getElem?_range (by decide)]
  rfl
 rw [h,wake_num]
 decide
theorem wake_ne {C:List Int} (hC:C=sealL (rkL 3 K1 true true) (cntL 3) (drL 3 K1) (evB 0 7 0 Z105)):C≠Z130:=by
 intro h
 have h1:C.getD 0 0=39:=by
  rw [hC]
  unfold sealL
  rw [List.getD_eq_getElem?_getD,List.getElem?_append_left (by rw [xl_len]; decide),← List.getD_eq_getElem?_getD]
  exact wake_first
 rw [h] at h1
 exact absurd h1 (by decide)
set_option maxHeartbeats 4000000 in
theorem other_ok (Ky:List Int) (hKy:Ky.length=32) (f:Bool) (w:World)  : Calls Tryz.prog 20 #[.agg (fl [bw Ky,[.bool f]])] w (Vl (.agg (fl [bw Ky,[.bool (!f)]])) w):=by
 obtain ⟨T,hT⟩:∃ T:Ending→World→Prop,T=(Vl (.agg (fl [bw Ky,[.bool (!f)]])) w):=⟨_,rfl⟩
 rw [← hT]
 replace hT:=hide hT
 obtain ⟨A0_,hA0_⟩:∃ S_,S_=fl [bw Ky,[.bool f]]:=⟨_,rfl⟩
 rw [← hA0_]
 replace hA0_:=hide hA0_
 go_enter Tryz.func20,Tryz.ntmps20
 go_upto_region 1 with fail
 have hB:=(((Bl.nil w).new A0_ 25).new (fl [bw Z32,[.bool false]]) 25)
 simp only [size_alloc,List.nil_append,List.cons_append] at hB
 rw [unhide hA0_] at hB
 generalize hu_:World.alloc _ _=u0
 replace hB:Bl w [⟨w.heap.size,fl [bw Ky,[.bool f]],25⟩,⟨w.heap.size+1,fl [bw Z32,[.bool false]],25⟩] u0:=by
  rw [← hu_]
  rw [unhide hA0_]
  exact hB
 clear hu_ hA0_
 refine wp_region_lit ?_
 refine lvk (.pointer (some ⟨w.heap.size,0,none⟩)) ?_
 simp only [nrm]
 refine list_val (.agg (kc Ky)) (by kernel_rfl) (exec_sa _ 23 (.tmp 3) rfl (w.heap.size) 0 (by kernel_rfl) (hB.get 0 (x:=⟨w.heap.size,fl [bw Ky,[.bool f]],25⟩) rfl) NP (nP hKy _) 0 Ky rfl rfl Tryz.underlying23 rfl (n:=32) rfl Tryz.infoKey) ?_
 simp only [nrm]
 refine lvk (.pointer (some ⟨w.heap.size,32,none⟩)) ?_
 simp only [nrm]
 refine list_val (.bool f) (by kernel_rfl) (exec_cb _ (.tmp 5) rfl (w.heap.size) 32 (by kernel_rfl) f (seg_cell (nP hKy _) (hB.get 0 (x:=⟨w.heap.size,fl [bw Ky,[.bool f]],25⟩) rfl) 1 (v:=.bool f) rfl rfl)) ?_
 simp only [nrm]
 refine lvk (.bool (!f)) ?_
 simp only [nrm]
 refine list_val (.agg (fl [bw Ky,[.bool (!f)]])) (by kernel_rfl) (bP01 _ (.tmp 4) (.tmp 7) rfl hKy (by kernel_rfl) (by kernel_rfl)) ?_
 simp only [nrm]
 refine list_all 25 (.tmp 2) (.tmp 8) (w.heap.size+1) (S2:=[bw Ky,[.bool (!f)]]) (by kernel_rfl) rfl (by kernel_rfl) (by kernel_rfl) hB 1 rfl NP (nP (show List.length Z32=32 from rfl) _) (nP hKy _) (by kernel_rfl) (oP _ rfl) ?_
 intro u1 hB_ hbt_
 clear hB
 replace hB:Bl w [⟨w.heap.size,fl [bw Ky,[.bool f]],25⟩,⟨w.heap.size+1,fl [bw Ky,[.bool (!f)]],25⟩] u1:=hB_
 clear hB_
 clear hbt_
 simp only [nrm]
 refine wpList_nil ?_
 replace hB:=hide hB
 go_wp2_with fail
 replace hB:=unhide hB
 rw [unhide hT]
 exact bodyPost_ret (v:=.agg (fl [bw Ky,[.bool (!f)]])) (res1 Tryz.results20 (rv_cell (by kernel_rfl) (hB.get 1 (x:=⟨w.heap.size+1,fl [bw Ky,[.bool (!f)]],25⟩) rfl) Tryz.underlying25 rfl (by rw [fl_size (nP hKy _)]; kernel_rfl))) rfl (⟨rfl,hB.gr⟩)
set_option maxHeartbeats 4000000 in
theorem wakes0_ok (Y N D P C:List Int) (w:World) (hF:Fst w) (hY:Y=rkL 3 K1 true true) (hN:N=cntL 3) (hD:D=drL 3 K1) (hP:P=evB 0 7 0 Z105) (hC:C=sealL Y N D P):Calls Tryz.prog 6 #[] w (Vl (.bool true) w):=by
 obtain ⟨T,hT⟩:∃ T:Ending→World→Prop,T=(Vl (.bool true) w):=⟨_,rfl⟩
 rw [← hT]
 replace hT:=hide hT
 have hK1:K1.length=32:=rfl
 have hDl:D.length=16:=by rw [hD]; exact drL_len _ _
 have hDb:IsB D:=by rw [hD]; exact drL_isB _ _
 have hPl:P.length=114:=by rw [hP]; rfl
 have hPb:IsB P:=by rw [hP]; exact evB_isB 7 (by decide) z105_isB
 have hCl:C.length=130:=by rw [hC,sealL_len',hPl]
 have hCb:IsB C:=by rw [hC]; exact sealL_isB _ _ _ _
 have hCn:C≠Z130:=wake_ne (by rw [hC,hY,hN,hD,hP])
 have hev:evS P=[[.int .i64 0],[.int .u32 7],[.int .u32 0],bw Z105]:=by rw [hP]; rfl
 have her:evRO P=true:=by rw [hP]; rfl
 have hY2:Y=rkL 3 K1 false false:=by rw [hY]; rfl
 clear hPl
 replace hF:=hide hF
 replace hY:=hide hY
 replace hN:=hide hN
 replace hD:=hide hD
 replace hP:=hide hP
 replace hC:=hide hC
 replace hDb:=hide hDb
 replace hPb:=hide hPb
 replace hCb:=hide hCb
 replace hCn:=hide hCn
 replace hev:=hide hev
 replace her:=hide her
 replace hY2:=hide hY2
 go_enter Tryz.func6,Tryz.ntmps6
 go_upto_region 1 with fail
 obtain ⟨u0,hu_⟩:∃ u,u=w:=⟨_,rfl⟩
 rw [← hu_]
 have hB:Bl w [] u0:=hu_ ▸ Bl.nil w
 clear hu_
 refine wp_region_lit ?_
 refine list_val (.agg (kc K1)) (by kernel_rfl) (bK0 _ rfl) ?_
 simp only [nrm]
 refine list_val (.agg (fl [bw K1,[.bool true]])) (by kernel_rfl) (bP01 _ (.tmp 6) (.const (.bool true)) rfl hK1 (by kernel_rfl) (by kernel_rfl)) ?_
 simp only [nrm]
 refine list_valw (.pointer (some ⟨u0.heap.size,0,none⟩)) (u0.alloc (.cells (fl [bw Z32,[.bool false]]) 25 (0,0))) (by kernel_rfl) (by kernel_rfl) ?_
 replace hB:=hB.new (fl [bw Z32,[.bool false]]) 25
 simp only [List.nil_append,List.cons_append] at hB
 generalize World.alloc _ _=u1 at *
 generalize u0.heap.size=g1 at *
 replace hB:Bl w [⟨g1,fl [bw Z32,[.bool false]],25⟩] u1:=hB
 simp only [nrm]
 refine list_all 25 (.tmp 1) (.tmp 7) (g1) (S2:=[bw K1,[.bool true]]) (by kernel_rfl) rfl (by kernel_rfl) (by kernel_rfl) hB 0 rfl NP (nP (show List.length Z32=32 from rfl) _) (nP hK1 _) (by kernel_rfl) (oP _ rfl) ?_
 intro u2 hB_ hbt_
 clear hB
 replace hB:Bl w [⟨g1,fl [bw K1,[.bool true]],25⟩] u2:=hB_
 clear hB_
 clear hbt_
 simp only [nrm]
 refine wpList_nil ?_
 replace hB:=hide hB
 go_upto_region 2 with fail
 replace hB:=unhide hB
 refine wp_region_lit ?_
 refine list_val (.agg (fl [bw K1,[.bool true]])) (by kernel_rfl) (exec_sw _ 25 (.tmp 1) rfl (g1) (by kernel_rfl) (hB.get 0 (x:=⟨g1,fl [bw K1,[.bool true]],25⟩) rfl) NP (nP hK1 _) Tryz.underlying25 rfl (by kernel_rfl)) ?_
 simp only [nrm]
 refine list_val (.agg (fl [[.int .i64 0],[.int .u32 7],[.int .u32 0],bw Z105])) (by kernel_rfl) (bE1 _ (.const (.int .u32 7)) rfl (by kernel_rfl)) ?_
 simp only [nrm]
 refine list_call 7 #[.agg (fl [bw K1,[.bool true]]),.int .u64 3,.agg (fl [[.int .i64 0],[.int .u32 7],[.int .u32 0],bw Z105])] (by kernel_rfl) (by kernel_rfl) ((vreal_ok K1 hK1 k1_isB true 0 7 0 Z105 rfl z105_isB ⟨by decide,by decide⟩ ⟨by decide,by decide⟩ 3 (by decide) Y N D P C u2 ((unhide hF).gr hB.gr) (by decide) (by decide) (unhide hY) (unhide hN) (unhide hD) (unhide hP) (unhide hC)).mono ?_)
 rintro r_ u3 ⟨rfl,hg⟩
 replace hB:=hB.more hg
 clear hg
 refine ⟨_,rfl,?_⟩
 simp only [nrm]
 refine lvk (.tuple #[.agg (fl [bw D,bw C]),.int .i64 0]) ?_
 simp only [nrm]
 refine lvk (.agg (fl [bw D,bw C])) ?_
 simp only [nrm]
 refine lvk (.int .i64 0) ?_
 simp only [nrm]
 refine list_valw (.pointer (some ⟨u3.heap.size,0,none⟩)) (u3.alloc (.cells (fl [bw Z16,bw Z130]) 36 (0,0))) (by kernel_rfl) (by kernel_rfl) ?_
 replace hB:=hB.new (fl [bw Z16,bw Z130]) 36
 simp only [List.nil_append,List.cons_append] at hB
 generalize World.alloc _ _=u4 at *
 generalize u3.heap.size=g2 at *
 replace hB:Bl w [⟨g1,fl [bw K1,[.bool true]],25⟩,⟨g2,fl [bw Z16,bw Z130],36⟩] u4:=hB
 simp only [nrm]
 refine list_all 36 (.tmp 2) (.tmp 12) (g2) (S2:=[bw D,bw C]) (by kernel_rfl) rfl (by kernel_rfl) (by kernel_rfl) hB 1 rfl NX (nX (show List.length Z16=16 from rfl) (show List.length Z130=130 from rfl)) (nX hDl hCl) (by kernel_rfl) (oX _ _) ?_
 intro u5 hB_ hbt_
 clear hB
 replace hB:Bl w [⟨g1,fl [bw K1,[.bool true]],25⟩,⟨g2,fl [bw D,bw C],36⟩] u5:=hB_
 clear hB_
 clear hbt_
 simp only [nrm]
 (refine wpList_step fun K hK=>?_; replace hK:=hide hK; go_simp; refine unhide hK _ _ ?_; clear hK K)
 refine wpList_nil ?_
 replace hB:=hide hB
 go_upto_region 3 with fail
 replace hB:=unhide hB
 refine any_start (S:=fun v_=>v_.heap[g1]?=some (.cells (fl [bw K1,[.bool true]]) 25 (0,0))) (by kernel_rfl) ?_
 replace hB:=hB.drew
 generalize World.drew _=u6 at *
 have hB0:=hide hB
 have hsz_:Hid (Sz u6.heap.size u6):=Nat.le_refl _
 simp only [List.size_toArray,List.length_cons,List.length_nil,Array.replicate,List.replicate]
 refine any_tk 0 (.agg (fl [bw K1,[.bool true]])) (tf 11 0) rfl (fun x_ hu=>exec_sw _ 25 (.tmp 1) rfl (g1) (by kernel_rfl) hu NP (nP hK1 _) Tryz.underlying25 rfl (by kernel_rfl)) (hB.get 0 (x:=⟨g1,fl [bw K1,[.bool true]],25⟩) rfl) ?_
 simp only [nrm]
 refine any_tk 2 (.pointer (some ⟨g2,16,none⟩)) (tf 11 1) rfl (fun x_ hu=>by kernel_rfl) (hB.get 0 (x:=⟨g1,fl [bw K1,[.bool true]],25⟩) rfl) ?_
 simp only [nrm]
 refine any_tk 3 (.slice (some ⟨g2,16,none⟩) 130 130) #[true,false,true,false,false,false,false,false,false,false,false] rfl (fun x_ hu=>by kernel_rfl) (hB.get 0 (x:=⟨g1,fl [bw K1,[.bool true]],25⟩) rfl) ?_
 simp only [nrm]
 refine float_first (fun q u=>NKf u6.heap.size (fl [[.int .i64 0],[.int .u32 0],[.int .u32 0],bw Z105]) 30 u q) 4 (fun b_=>#[true,false,true,true,false,false,false,false,b_,false,false]) 8 1 false rfl rfl (fun v_ g_=>g_.blk (hB.get 0 (x:=⟨g1,fl [bw K1,[.bool true]],25⟩) rfl)) (by kernel_rfl) (fun b_=>by cases b_ <;> rfl) ?_ ?_
 all_goals simp only [fw1,Act.put,List.setIfInBounds_toArray,List.set_cons_zero,List.set_cons_succ,List.getElem_toArray,List.getElem_cons_zero,List.getElem_cons_succ]
 ·intro q_ x_ hgx K hK
  refine wpOp_step (o:=_) rfl (fun K' hK'=>?_)
  replace hK':=hide hK'
  replace hK:=hide hK
  refine step_val (.pointer (some ⟨x_.heap.size,0,none⟩)) (x_.alloc (.cells (fl [[.int .i64 0],[.int .u32 0],[.int .u32 0],bw Z105]) 30 (0,0))) (by kernel_rfl) (by kernel_rfl) ?_
  exact unhide hK' _ _ (unhide hK _ _ ((Gr.refl _).alloc _) (⟨_,rfl,Nat.le_trans (unhide hsz_) hgx.size,blk_new _ _⟩))
 intro b1_1 q1_1 x1_1 hg hTq hall
 replace hsz_:=hide ((unhide hsz_).gr hg)
 replace hB:=hB.more hg
 clear hg
 clear hall
 refine wpOp_step (o:=_) rfl (fun K hK=>?_)
 replace hK:=hide hK
 refine step_callw (by kernel_rfl) 20 #[.agg (fl [bw K1,[.bool true]])] (by kernel_rfl) ((other_ok K1 hK1 true x1_1).mono ?_)
 rintro r u7 ⟨rfl,hg⟩
 refine ⟨_,rfl,?_⟩
 replace hTq:=fun e=>NKf.gr (hTq e) hg
 replace hsz_:=hide ((unhide hsz_).gr hg)
 replace hB:=hB.more hg
 clear hg
 refine unhide hK _ _ ⟨(hB.get 0 (x:=⟨g1,fl [bw K1,[.bool true]],25⟩) rfl),?_⟩
 clear hK K
 simp only [nrm]
 refine float_again (fun q u=>NKf u6.heap.size (fl [[.int .i64 0],[.int .u32 0],[.int .u32 0],bw Z105]) 30 u q) 4 (fun b_=>#[true,true,true,true,false,false,false,false,b_,false,false]) 8 4 false (b:=b1_1) (q:=q1_1) rfl rfl hTq (fun v_ g_=>g_.blk (hB.get 0 (x:=⟨g1,fl [bw K1,[.bool true]],25⟩) rfl)) (by kernel_rfl) (fun b_=>by cases b_ <;> rfl) ?_ ?_
 all_goals simp only [fw1,Act.put,List.setIfInBounds_toArray,List.set_cons_zero,List.set_cons_succ,List.getElem_toArray,List.getElem_cons_zero,List.getElem_cons_succ]
 ·intro q_ x_ hgx K hK
  refine wpOp_step (o:=_) rfl (fun K' hK'=>?_)
  replace hK':=hide hK'
  replace hK:=hide hK
  refine step_val (.pointer (some ⟨x_.heap.size,0,none⟩)) (x_.alloc (.cells (fl [[.int .i64 0],[.int .u32 0],[.int .u32 0],bw Z105]) 30 (0,0))) (by kernel_rfl) (by kernel_rfl) ?_
  exact unhide hK' _ _ (unhide hK _ _ ((Gr.refl _).alloc _) (⟨_,rfl,Nat.le_trans (unhide hsz_) hgx.size,blk_new _ _⟩))
 clear hTq
 intro b1_4 q1_4 x1_4 hg hTq hall
 replace hsz_:=hide ((unhide hsz_).gr hg)
 replace hB:=hB.more hg
 clear hg
 clear hall
 refine wpOp_step (o:=_) rfl (fun K hK=>?_)
 replace hK:=hide hK
 refine step_callw (by kernel_rfl) 10 #[.agg (fl [bw K1,[.bool false]]),.int .u64 3,.slice (some ⟨g2,16,none⟩) 130 130] (by kernel_rfl) ((vread_ok K1 hK1 k1_isB false 3 (by decide) (some ⟨g2,16,none⟩) 130 130 (by decide) Y N D C P 0 7 0 Z105 x1_4 ((unhide hF).gr hB.gr) (fun u_ g_=>unread_0 3 (by decide) (some ⟨g2,16,none⟩) 130 C u_ ((seg_lb (nX hDl hCl) (hB.get 1 (x:=⟨g2,fl [bw D,bw C],36⟩) rfl) 1 rfl rfl (unhide hCb) hCl (by decide)).gr g_) (unhide hCn)) (unhide hY2) (unhide hN) (unhide hD) (seg_lb (nX hDl hCl) (hB.get 1 (x:=⟨g2,fl [bw D,bw C],36⟩) rfl) 1 rfl rfl (unhide hCb) hCl (by decide)) (by rw [unhide hP]; rfl) (unhide hPb) (unhide hC) (unhide her) (unhide hev) rfl).mono ?_)
 rintro r u8 ⟨rfl,hg⟩
 refine ⟨_,rfl,?_⟩
 replace hTq:=fun e=>NKf.gr (hTq e) hg
 replace hsz_:=hide ((unhide hsz_).gr hg)
 replace hB:=hB.more hg
 clear hg
 refine unhide hK _ _ ⟨(hB.get 0 (x:=⟨g1,fl [bw K1,[.bool true]],25⟩) rfl),?_⟩
 clear hK K
 simp only [nrm]
 refine any_tk 5 (.tuple #[.agg (fl [[.int .i64 0],[.int .u32 7],[.int .u32 0],bw Z105]),.int .i64 0]) (tf 11 5) rfl (fun x_ hu=>by kernel_rfl) (hB.get 0 (x:=⟨g1,fl [bw K1,[.bool true]],25⟩) rfl) ?_
 simp only [nrm]
 refine any_tk 6 (.agg (fl [[.int .i64 0],[.int .u32 7],[.int .u32 0],bw Z105])) (tf 11 6) rfl (fun x_ hu=>by kernel_rfl) (hB.get 0 (x:=⟨g1,fl [bw K1,[.bool true]],25⟩) rfl) ?_
 simp only [nrm]
 refine any_tk 7 (.int .i64 0) (tf 11 7) rfl (fun x_ hu=>by kernel_rfl) (hB.get 0 (x:=⟨g1,fl [bw K1,[.bool true]],25⟩) rfl) ?_
 simp only [nrm]
 refine float_again (fun q u=>NKf u6.heap.size (fl [[.int .i64 0],[.int .u32 0],[.int .u32 0],bw Z105]) 30 u q) 4 (fun b_=>#[true,true,true,true,true,true,true,true,b_,false,false]) 8 9 true (b:=b1_4) (q:=q1_4) rfl rfl hTq (fun v_ g_=>g_.blk (hB.get 0 (x:=⟨g1,fl [bw K1,[.bool true]],25⟩) rfl)) (by kernel_rfl) (fun b_=>by cases b_ <;> rfl) ?_ ?_
 all_goals simp only [fw1,Act.put,List.setIfInBounds_toArray,List.set_cons_zero,List.set_cons_succ,List.getElem_toArray,List.getElem_cons_zero,List.getElem_cons_succ]
 ·intro q_ x_ hgx K hK
  refine wpOp_step (o:=_) rfl (fun K' hK'=>?_)
  replace hK':=hide hK'
  replace hK:=hide hK
  refine step_val (.pointer (some ⟨x_.heap.size,0,none⟩)) (x_.alloc (.cells (fl [[.int .i64 0],[.int .u32 0],[.int .u32 0],bw Z105]) 30 (0,0))) (by kernel_rfl) (by kernel_rfl) ?_
  exact unhide hK' _ _ (unhide hK _ _ ((Gr.refl _).alloc _) (⟨_,rfl,Nat.le_trans (unhide hsz_) hgx.size,blk_new _ _⟩))
 clear hTq
 intro b1_9 q1_9 x1_9 hg hTq hall
 replace hsz_:=hide ((unhide hsz_).gr hg)
 replace hB:=hB.more hg
 clear hg
 obtain rfl:b1_9=true:=hall (by trivial)
 replace hTq:=hTq rfl
 clear hall
 obtain ⟨g4,rfl,hge_,hnew_⟩:=hTq
 replace hB:=Bl.joinz (unhide hB0) hB hge_ hnew_
 simp only [List.cons_append,List.nil_append] at hB
 clear hB0 hge_ hnew_
 refine wpOp_step (o:=_) rfl (fun K hK=>?_)
 replace hK:=hide hK
 refine step_all 30 (.tmp 4) (.tmp 20) (g4) (S2:=[[.int .i64 0],[.int .u32 7],[.int .u32 0],bw Z105]) (by kernel_rfl) rfl (by kernel_rfl) (by kernel_rfl) hB 2 rfl NE (nE (show List.length Z105=105 from rfl) _ _ _) (nE (show List.length Z105=105 from rfl) _ _ _) (by kernel_rfl) (oE _ rfl rfl rfl) ?_
 intro u9 hB_ hbt_
 clear hB
 replace hB:Bl w [⟨g1,fl [bw K1,[.bool true]],25⟩,⟨g2,fl [bw D,bw C],36⟩,⟨g4,fl [[.int .i64 0],[.int .u32 7],[.int .u32 0],bw Z105],30⟩] u9:=hB_
 clear hB_
 clear hbt_
 refine unhide hK _ _ ⟨(hB.get 0 (x:=⟨g1,fl [bw K1,[.bool true]],25⟩) rfl),?_⟩
 clear hK K
 simp only [nrm]
 refine any_one (i:=10) (by kernel_rfl) rfl (fun K hK=>?_)
 replace hK:=hide hK
 go_simp
 refine (unhide hK).out _ _ (hB.get 0 (x:=⟨g1,fl [bw K1,[.bool true]],25⟩) rfl) (fun _=>?_)
 clear hK K
 refine any_done (by kernel_rfl) ?_
 clear hsz_
 replace hB:=hide hB
 go_upto_region 4 with fail
 replace hB:=unhide hB
 refine wp_region_lit ?_
 refine wpList_gen fun ops_ hops=>?_
 replace hops:=hide hops
 refine list_val (.int .i64 0) (by rw [unhide hops]; kernel_rfl) (by kernel_rfl) ?_
 simp only [nrm]
 refine list_val (.bool true) (by rw [unhide hops]; kernel_rfl) (eql_e _ (.tmp 22) (.const (.int .i64 0)) 0 0 true rfl (by kernel_rfl) (by kernel_rfl) (by decide)) ?_
 simp only [nrm]
 refine list_val (.bool true) (by rw [unhide hops]; kernel_rfl) (by kernel_rfl) ?_
 simp only [nrm]
 refine list_val (.int .i64 0) (by rw [unhide hops]; kernel_rfl) (by kernel_rfl) ?_
 simp only [nrm]
 refine list_val (.bool true) (by rw [unhide hops]; kernel_rfl) (eql_e _ (.tmp 25) (.const (.int .i64 0)) 0 0 true rfl (by kernel_rfl) (by kernel_rfl) (by decide)) ?_
 simp only [nrm]
 refine list_val (.bool true) (by rw [unhide hops]; kernel_rfl) (by kernel_rfl) ?_
 simp only [nrm]
 refine list_val (.bool true) (by rw [unhide hops]; kernel_rfl) (by kernel_rfl) ?_
 simp only [nrm]
 refine list_val (.agg (fl [[.int .i64 0],[.int .u32 7],[.int .u32 0],bw Z105])) (by rw [unhide hops]; kernel_rfl) (exec_sw _ 30 (.tmp 4) rfl (g4) (by kernel_rfl) (hB.get 2 (x:=⟨g4,fl [[.int .i64 0],[.int .u32 7],[.int .u32 0],bw Z105],30⟩) rfl) NE (nE (show List.length Z105=105 from rfl) _ _ _) Tryz.underlying30 rfl (by kernel_rfl)) ?_
 simp only [nrm]
 refine list_val (.agg (fl [[.int .i64 0],[.int .u32 7],[.int .u32 0],bw Z105])) (by rw [unhide hops]; kernel_rfl) (bE1 _ (.const (.int .u32 7)) rfl (by kernel_rfl)) ?_
 simp only [nrm]
 refine list_val (.bool true) (by rw [unhide hops]; kernel_rfl) (exec_eql_e _ (.tmp 29) (.tmp 30) rfl (fl [[.int .i64 0],[.int .u32 7],[.int .u32 0],bw Z105]) (by kernel_rfl) (by kernel_rfl) (eq_ef 0 7 0 (show List.length Z105=105 from rfl) _)) ?_
 simp only [nrm]
 refine list_val (.bool true) (by rw [unhide hops]; kernel_rfl) (by kernel_rfl) ?_
 simp only [nrm]
 refine list_val (.bool true) (by rw [unhide hops]; kernel_rfl) (by kernel_rfl) ?_
 simp only [nrm]
 refine list_call 16 #[] (by rw [unhide hops]; kernel_rfl) (by kernel_rfl) ((vempty_ok u9).mono ?_)
 rintro r_ u10 ⟨ge,rfl,hge,hgb,hg⟩
 replace hB:=hB.more hg
 clear hg
 clear hge hgb
 refine ⟨_,rfl,?_⟩
 simp only [nrm]
 refine list_val (.int .i64 130) (by rw [unhide hops]; kernel_rfl) (by kernel_rfl) ?_
 simp only [nrm]
 refine list_val (.bool true) (by rw [unhide hops]; kernel_rfl) (eql_i _ (.tmp 35) (.const (.int .i64 130)) 130 130 true rfl (by kernel_rfl) (by kernel_rfl) (by decide)) ?_
 simp only [nrm]
 refine list_val (.bool true) (by rw [unhide hops]; kernel_rfl) (by kernel_rfl) ?_
 simp only [nrm]
 (refine wpList_step fun K hK=>?_; replace hK:=hide hK; go_simp; refine unhide hK _ _ ?_; clear hK K)
 refine wpList_nil ?_
 replace hB:=hide hB
 go_wp2_with fail
 replace hB:=unhide hB
 rw [unhide hT]
 exact (⟨rfl,hB.gr⟩)
theorem wakes_ok (w:World) (hF:Fst w):Calls Tryz.prog 6 #[] w (Vl (.bool true) w):=wakes0_ok _ _ _ _ _ w hF rfl rfl rfl rfl rfl
end Go.Proofs.YthahhglbeafkmaaGreatDoor
namespace Go.Proofs.YthahhglbeafkmaaGreatDoor
open Go.RowKit
set_option maxRecDepth 100000
set_option linter.unusedSimpArgs false
set_option linter.unusedVariables false
theorem exec_b {op:Oper} {a:Act} (w:World) (x:Operand) (ho:op.op=.load 5 x) (g i:Nat) (hx:a.eval x=.pointer (some ⟨g,i,none⟩)) (v:Int) (hc:w.cell? ⟨g,i,none⟩=some (.int .u8 v)):(execOp a.eval op).run Tryz.prog w=.ok (.value (.int .u8 v)) w:=by
 unfold execOp
 simp only [ho,hx,Instr.loadAt,Instr.sureAddr,Sem.run_bind,Sem.run_pure,Result.andThen_ok]
 go_simp
theorem list32:∀ (M:List Int),M.length=32→∃ x0 x1 x2 x3 x4 x5 x6 x7 x8 x9 x10 x11 x12 x13 x14 x15 x16 x17 x18 x19 x20 x21 x22 x23 x24 x25 x26 x27 x28 x29 x30 x31,M=[x0,x1,x2,x3,x4,x5,x6,x7,x8,x9,x10,x11,x12,x13,x14,x15,x16,x17,x18,x19,x20,x21,x22,x23,x24,x25,x26,x27,x28,x29,x30,x31]
 | [x0,x1,x2,x3,x4,x5,x6,x7,x8,x9,x10,x11,x12,x13,x14,x15,x16,x17,x18,x19,x20,x21,x22,x23,x24,x25,x26,x27,x28,x29,x30,x31],_=>⟨_,_,_,_,_,_,_,_,_,_,_,_,_,_,_,_,_,_,_,_,_,_,_,_,_,_,_,_,_,_,_,_,rfl⟩
theorem ZN_isB:IsB ZN:=fun x hx=>by have:=List.eq_of_mem_replicate hx; omega
def dcl (K:List Int) (t:Nat):Array Value:=(K.map (Value.int .u8)++[Value.int .i64 (t:Int)]).toArray
theorem dcl_size {K:List Int} (hK:K.length=32) (t:Nat):(dcl K t).size=33:=by unfold dcl; simp [hK]
theorem dcl_one (K:List Int) (t:Nat):(dcl K t).all (·.oneCell')=true:=by unfold dcl; simp [Value.oneCell']
theorem dcl_key {w:World} {g:Nat} {K:List Int} {t:Nat} {ty:TypeId} (h:w.heap[g]?=some (.cells (dcl K t) ty (0,0))):w.rangeAt g 0 (K.map (Value.int .u8)):=fun j v hj=>by
 rw [Nat.zero_add]
 refine cell_of h ?_
 have hl:=(List.getElem?_eq_some_iff.1 hj).1
 unfold dcl
 rw [List.getElem?_toArray,List.getElem?_append_left hl]
 exact hj
theorem dcl_get {K:List Int} (hK:K.length=32) (t:Nat):(dcl K t)[32]?=some (.int .i64 (t:Int)):=by
 unfold dcl
 rw [List.getElem?_toArray,List.getElem?_append_right (by rw [List.length_map]; omega),List.length_map,hK]
 rfl
theorem dcl_set {K:List Int} (hK:K.length=32) (t m:Nat):(dcl K t).setIfInBounds 32 (.int .i64 (m:Int))=dcl K m:=by
 unfold dcl
 rw [List.setIfInBounds_toArray,List.set_append_right _ _ (by rw [List.length_map]; omega),List.length_map,hK]
 rfl
theorem Tryz.infoD:(Tryz.prog.info? 51).map (·.size)=some 33:=by kernel_rfl
def Diced (K:List Int) (t:Nat) (w:World) (r:Ending) (w':World):Prop:=r=.returned (.agg (dcl K t))∧Gr w w'
set_option maxHeartbeats 4000000 in
theorem rnew_ok (B:List Int) (a:Option Addr) (n cap:Nat) (hbig:n≤100000) (w:World) (lb:Lb w a n cap B):Calls Tryz.prog 14 #[.slice a n cap] w (Diced (sumL B) 0 w):=by
 obtain ⟨T,hT⟩:∃ T,T=Diced (sumL B) 0 w:=⟨_,rfl⟩
 rw [← hT]
 replace hT:=hide hT
 replace lb:=hide lb
 go_enter Tryz.func14,Tryz.ntmps14
 go_upto_region 1 with fail
 have hB:=(Bl.nil w).new #[.int .u8 0,.int .u8 0,.int .u8 0,.int .u8 0,.int .u8 0,.int .u8 0,.int .u8 0,.int .u8 0,.int .u8 0,.int .u8 0,.int .u8 0,.int .u8 0,.int .u8 0,.int .u8 0,.int .u8 0,.int .u8 0,.int .u8 0,.int .u8 0,.int .u8 0,.int .u8 0,.int .u8 0,.int .u8 0,.int .u8 0,.int .u8 0,.int .u8 0,.int .u8 0,.int .u8 0,.int .u8 0,.int .u8 0,.int .u8 0,.int .u8 0,.int .u8 0,.int .i64 0] 51
 simp only [List.nil_append,List.cons_append] at hB
 generalize World.alloc _ _=u at *
 replace hB:Bl w [⟨w.heap.size,dcl ZK 0,51⟩] u:=hB
 refine wp_region_lit ?_
 refine list_val (.slice a n cap) (by kernel_rfl) (by kernel_rfl) ?_
 simp only [nrm]
 refine list_call 37 #[.slice a n cap] (by kernel_rfl) (by kernel_rfl) ((rsum_ok B (unhide lb).isB n (unhide lb).len (by omega) a cap _ ((unhide lb).gr hB.gr).sl).mono ?_)
 rintro r u1 ⟨rfl,hg⟩
 refine ⟨_,rfl,?_⟩
 replace hB:=hB.more hg
 clear hg
 have hXl:=sumL_len B
 generalize sumL B=X at *
 simp only [nrm]
 obtain ⟨x0,x1,x2,x3,x4,x5,x6,x7,x8,x9,x10,x11,x12,x13,x14,x15,x16,x17,x18,x19,x20,x21,x22,x23,x24,x25,x26,x27,x28,x29,x30,x31,hX⟩:=list32 X hXl
 rw [hX]
 refine list_val (.agg (dcl [x0,x1,x2,x3,x4,x5,x6,x7,x8,x9,x10,x11,x12,x13,x14,x15,x16,x17,x18,x19,x20,x21,x22,x23,x24,x25,x26,x27,x28,x29,x30,x31] 0)) (by kernel_rfl) (by kernel_rfl) ?_
 simp only [nrm]
 rw [← hX]
 clear hX
 refine list_store 51 (.tmp 2) (.tmp 5) w.heap.size (dcl X 0) 51 (dcl ZK 0) (by kernel_rfl) rfl (by kernel_rfl) (by kernel_rfl) (hB.get 0 (x:=⟨w.heap.size,dcl ZK 0,51⟩) rfl) (by rw [Tryz.infoD,dcl_size hXl]) ((show (dcl ZK 0).size=33 from rfl).trans (dcl_size hXl 0).symm) (dcl_one _ _) ?_
 replace hB:=hB.set 0 (x:=⟨w.heap.size,dcl ZK 0,51⟩) rfl (dcl X 0)
 simp only [List.set_cons_zero,List.set_cons_succ] at hB
 generalize World.setRow _ _ _=u2 at *
 simp only [nrm]
 refine wpList_nil ?_
 replace hB:=hide hB
 go_wp2_with fail
 replace hB:=unhide hB
 rw [unhide hT]
 exact bodyPost_ret (v:=.agg (dcl X 0)) (results_cell_row Tryz.results14 _ _ w.heap.size 51 (dcl X 0) (0,0) _ rfl (hB.get 0 (x:=⟨w.heap.size,dcl X 0,51⟩) rfl) Tryz.underlying51 rfl (by rw [Tryz.infoD,dcl_size hXl])) rfl ⟨rfl,hB.gr⟩
def stf (K:List Int) (t i:Nat):Int:=sf K ZN 0 (t+i)
def nxl (K:List Int) (t n:Nat):List Int:=(List.range n).map (stf K t)
theorem nxl_len (K:List Int) (t n:Nat):(nxl K t n).length=n:=by simp [nxl]
theorem stf_of (K:List Int) (t i a:Nat) (ha:a=t+i):stf K t i=(bk K ZN (cn 0 (a / 64))).getD (a % 64) 0:=by rw [ha]; rfl
def Rby (K:List Int) (t n:Nat) (w:World) (r:Ending) (w':World):Prop:=∃ g,r=.returned (.tuple #[.agg (dcl K (t+n)),.slice (some ⟨g,0,none⟩) n n])∧w.heap.size≤g∧w'.heap[g]?=some (.cells (kc (nxl K t n)) 5 (0,0))∧Gr w w'
set_option maxHeartbeats 4000000 in
theorem rbytes_ok (K:List Int) (hK:K.length=32) (hKb:IsB K) (t n:Nat) (ht:t≤1099511627776) (hn:n≤100000) (w:World):Calls Tryz.prog 15 #[.agg (dcl K t),.int .i64 n] w (Rby K t n w):=by
 obtain ⟨T,hT⟩:∃ T,T=Rby K t n w:=⟨_,rfl⟩
 rw [← hT]
 replace hT:=hide hT
 obtain ⟨SD,hSD⟩:∃ S,S=dcl K t:=⟨_,rfl⟩
 rw [← hSD]
 replace hSD:=hide hSD
 replace hKb:=hide hKb
 have n0:(0:Int)≤(n:Int):=by omega
 go_enter Tryz.func15,Tryz.ntmps15
 go_upto_region 1 with fail
 have hB:=((Bl.nil w).new SD 51).new #[.int .u8 0,.int .u8 0,.int .u8 0,.int .u8 0,.int .u8 0,.int .u8 0,.int .u8 0,.int .u8 0,.int .u8 0,.int .u8 0,.int .u8 0,.int .u8 0,.int .u8 0,.int .u8 0,.int .u8 0,.int .u8 0,.int .u8 0,.int .u8 0,.int .u8 0,.int .u8 0,.int .u8 0,.int .u8 0,.int .u8 0,.int .u8 0,.int .u8 0,.int .u8 0,.int .u8 0,.int .u8 0,.int .u8 0,.int .u8 0,.int .u8 0,.int .u8 0,.int .i64 0] 51
 simp only [size_alloc,List.nil_append,List.cons_append] at hB
 generalize World.alloc _ _=u at *
 rw [unhide hSD] at hB
 replace hB:Bl w [⟨w.heap.size,dcl K t,51⟩,⟨w.heap.size+1,dcl ZK 0,51⟩] u:=hB
 refine wp_region_lit ?_
 refine list_val (.int .i64 n) (by kernel_rfl) (by kernel_rfl) ?_
 simp only [nrm]
 refine wpList_make_room u rfl (.tmp 10) (.tmp 10) rfl n n n n rfl rfl rfl rfl (Nat.le_refl _) (by omega) ?_
 simp only [nrm]
 replace hB:=hB.new (kc (List.replicate n 0)) 5
 simp only [List.nil_append,List.cons_append] at hB
 generalize World.alloc _ _=u1 at *
 generalize u.heap.size=g5 at *
 (refine wpList_step fun K hK=>?_; replace hK:=hide hK; go_simp; refine unhide hK _ _ ?_; clear hK K)
 refine wpList_nil ?_
 replace hB:=hide hB
 go_upto_region 2 with fail
 replace hB:=unhide hB
 refine wp_region_lit ?_
 replace hB:=hide hB
 (refine wpList_step fun K hK=>?_; replace hK:=hide hK; go_simp; refine unhide hK _ _ ?_; clear hK K)
 replace hB:=(unhide hB).new #[.int .u8 0,.int .u8 0,.int .u8 0,.int .u8 0,.int .u8 0,.int .u8 0,.int .u8 0,.int .u8 0,.int .u8 0,.int .u8 0,.int .u8 0,.int .u8 0,.int .u8 0,.int .u8 0,.int .u8 0,.int .u8 0,.int .u8 0,.int .u8 0,.int .u8 0,.int .u8 0,.int .u8 0,.int .u8 0,.int .u8 0,.int .u8 0,.int .u8 0,.int .u8 0,.int .u8 0,.int .u8 0,.int .u8 0,.int .u8 0,.int .u8 0,.int .u8 0,.int .u8 0,.int .u8 0,.int .u8 0,.int .u8 0,.int .u8 0,.int .u8 0,.int .u8 0,.int .u8 0,.int .u8 0,.int .u8 0,.int .u8 0,.int .u8 0,.int .u8 0,.int .u8 0,.int .u8 0,.int .u8 0,.int .u8 0,.int .u8 0,.int .u8 0,.int .u8 0,.int .u8 0,.int .u8 0,.int .u8 0,.int .u8 0,.int .u8 0,.int .u8 0,.int .u8 0,.int .u8 0,.int .u8 0,.int .u8 0,.int .u8 0,.int .u8 0] 87
 simp only [List.nil_append,List.cons_append] at hB
 generalize World.alloc _ _=u2 at *
 generalize u1.heap.size=g6 at *
 replace hB:Bl w [⟨w.heap.size,dcl K t,51⟩,⟨w.heap.size+1,dcl ZK 0,51⟩,⟨g5,kc (List.replicate n 0),5⟩,⟨g6,kc Z64,87⟩] u2:=hB
 refine wpList_nil ?_
 replace hB:=hide hB
 go_wp2_with fail
 go_loopw [8] (fun i wr=>∃ k:Nat,∃ D m:List Int,k≤n∧i=.int .i64 k∧Hid (D.length=64)∧Hid (k=0∨D=bk K ZN (cn 0 ((t+k - 1) / 64)))∧Hid (m=fil (stf K t) k (List.replicate n 0))∧Hid (Bl w [⟨w.heap.size,dcl K t,51⟩,⟨w.heap.size+1,dcl ZK 0,51⟩,⟨g5,kc m,5⟩,⟨g6,kc D,87⟩] wr)) (fun i _=>n - (intOf i).toNat)
 case atStart=>exact ⟨0,Z64,List.replicate n 0,by omega,rfl,rfl,.inl rfl,(fil_zero _ _).symm,hB⟩
 case round =>
 clear hB
 obtain ⟨k,D,m,hk,rfl,hDl,hDk,hm,hB⟩:=hrel
 have hml:Hid (m.length=n):=by
  show m.length=n
  rw [unhide hm,fil_len _ _ _ (by rw [List.length_replicate]; omega),List.length_replicate]
 have c0:wr.cell? ⟨w.heap.size,32,none⟩=some (.int .i64 (t:Int)):=cell_of ((unhide hB).get 0 (x:=⟨w.heap.size,dcl K t,51⟩) rfl) (dcl_get hK t)
 by_cases hkl:k<n
 ·have kI:(k:Int)<(n:Int):=by omega
  obtain ⟨a,ha⟩:∃ a,a=t+k:=⟨_,rfl⟩
  have a1:(t:Int)+(k:Int)=(a:Int):=by omega
  have a2:IntKind.i64.wrap (a:Int)=(a:Int):=by rw [IntKind.wrap_i64]; omega
  obtain ⟨r,hr⟩:∃ r,r=a % 64:=⟨_,rfl⟩
  obtain ⟨q,hq⟩:∃ q,q=a / 64:=⟨_,rfl⟩
  have r64:r<64:=by omega
  have r64I:(r:Int)<64:=by omega
  have a3:Int.tmod (a:Int) 64=(r:Int):=by rw [Int.tmod_eq_emod_of_nonneg (by omega)]; omega
  have a4:Int.tdiv (a:Int) 64=(q:Int):=by rw [Int.tdiv_eq_ediv_of_nonneg (by omega)]; omega
  have a5:IntKind.u32.wrap (q:Int)=cn 0 q:=by rw [IntKind.wrap_u32]; unfold cn; omega
  have a6:IntKind.i64.wrap (q:Int)=(q:Int):=by rw [IntKind.wrap_i64]; omega
  have hst:Hid (stf K t k=(bk K ZN (cn 0 q)).getD r 0):=by
   have h:=stf_of K t k a ha
   rw [← hq,← hr] at h
   exact h
  have hm2:Hid (m.set k (stf K t k)=fil (stf K t) (k+1) (List.replicate n 0)):=by
   rw [unhide hm]
   exact fil_set _ _ _ (by rw [List.length_replicate]; exact hkl)
  have hnext:Hid ((t+(k+1) - 1) / 64=q):=by show (t+(k+1) - 1) / 64=q; omega
  replace hq:=hide hq; replace hr:=hide hr; replace ha:=hide ha
  go_upto_region 7 with fail
  by_cases hk0:k=0
  ·replace hk0:=hide hk0
   refine wp_region_lit ?_
   refine list_val (.int .i64 k) (by kernel_rfl) (by kernel_rfl) ?_
   simp only [nrm]
   refine list_val (.bool true) (by kernel_rfl) (by have k0:(k:Int)=0:=(by have h9:=unhide hk0; omega); have k1:=unhide hk0; go_simp) ?_
   simp only [nrm]
   refine list_val (.bool true) (by kernel_rfl) (by kernel_rfl) ?_
   simp only [nrm]
   refine wpList_step fun K hK=>?_
   rw [if_neg (ne_true_of_eq_false (by kernel_rfl))]
   refine hK _ _ ?_
   clear hK K
   simp only [nrm]
   refine wpList_step fun K hK=>?_
   rw [if_neg (ne_true_of_eq_false (by kernel_rfl))]
   refine hK _ _ ?_
   clear hK K
   simp only [nrm]
   refine wpList_step fun K hK=>?_
   rw [if_neg (ne_true_of_eq_false (by kernel_rfl))]
   refine hK _ _ ?_
   clear hK K
   simp only [nrm]
   refine list_val (.bool true) (by kernel_rfl) (by kernel_rfl) ?_
   simp only [nrm]
   refine wpList_nil ?_
   go_upto_region 8 with fail
   replace hB:=unhide hB
   refine wp_region_lit ?_
   refine list_val (.pointer (some ⟨w.heap.size,0,none⟩)) (by kernel_rfl) (by kernel_rfl) ?_
   simp only [nrm]
   refine list_val (.agg (kc K)) (by kernel_rfl) (exec_row _ 23 (.tmp 28) rfl (w.heap.size) 0 (by kernel_rfl) (K.map (Value.int .u8)) _ (dcl_key (hB.get 0 (x:=⟨w.heap.size,dcl K t,51⟩) rfl)) Tryz.underlying23 rfl (by rw [Tryz.infoKey,List.length_map,hK])) ?_
   simp only [nrm]
   refine list_val (.int .i64 a) (by kernel_rfl) (by kernel_rfl) ?_
   simp only [nrm]
   refine list_val (.int .i64 q) (by kernel_rfl) (by go_simp) ?_
   simp only [nrm]
   refine list_val (.int .u32 (cn 0 q)) (by kernel_rfl) (by go_simp) ?_
   simp only [nrm]
   refine list_val (.agg (kc ZN)) (by kernel_rfl) (by kernel_rfl) ?_
   simp only [nrm]
   refine list_call 38 #[.agg (kc K),.int .u32 (cn 0 q),.agg (kc ZN)] (by kernel_rfl) (by kernel_rfl) ((rblock_ok K ZN hK rfl (unhide hKb) ZN_isB (cn 0 q) _).mono ?_)
   rintro r v1 ⟨rfl,hg⟩
   refine ⟨_,rfl,?_⟩
   replace hB:=hB.more hg
   clear hg
   obtain ⟨E,hDq0⟩:∃ E,E=bk K ZN (cn 0 q):=⟨_,rfl⟩
   rw [← hDq0]
   have hEl:Hid (E.length=64):=by rw [hDq0]; exact bk_len _ _ _
   replace hDq0:=hide hDq0
   simp only [nrm]
   refine list_store 87 (.tmp 7) (.tmp 34) (g6) (kc E) 87 (kc D) (by kernel_rfl) rfl (by kernel_rfl) (by kernel_rfl) (hB.get 3 (x:=⟨g6,kc D,87⟩) rfl) (by rw [Tryz.info64,kc_size,(unhide hEl)]) (((kc_size D).trans (unhide hDl)).trans ((kc_size _).trans (unhide hEl)).symm) (kc_one _) ?_
   replace hB:=hB.set 3 (x:=⟨g6,kc D,87⟩) rfl (kc E)
   simp only [List.set_cons_zero,List.set_cons_succ] at hB
   generalize World.setRow _ _ _=v2 at *
   simp only [nrm]
   refine wpList_nil ?_
   have hDq:Hid (E=bk K ZN (cn 0 q)):=hDq0
   have hx:Hid (E.getD r 0=stf K t k):=by
    show E.getD r 0=_
    rw [unhide hst,unhide hDq]
   replace hB:=hide hB
   go_upto_region 9 with fail
   replace hB:=unhide hB
   refine wp_region_lit ?_
   refine list_val (.slice (some ⟨g5,0,none⟩) n n) (by kernel_rfl) (by kernel_rfl) ?_
   simp only [nrm]
   refine list_val (.int .i64 k) (by kernel_rfl) (by kernel_rfl) ?_
   simp only [nrm]
   refine list_val (.int .i64 a) (by kernel_rfl) (by kernel_rfl) ?_
   simp only [nrm]
   refine list_val (.int .i64 r) (by kernel_rfl) (by go_simp) ?_
   simp only [nrm]
   refine list_val (.pointer (some ⟨g6,r,none⟩)) (by kernel_rfl) (by go_simp) ?_
   simp only [nrm]
   refine list_val (.int .u8 (stf K t k)) (by kernel_rfl) (exec_b _ (.tmp 39) rfl g6 r (by kernel_rfl) _ (by have h:=kc_cell (hB.get 3 (x:=⟨g6,kc E,87⟩) rfl) r (by have h9:=unhide hEl; omega); rw [unhide hx] at h; exact h)) ?_
   simp only [nrm]
   refine list_val (.pointer (some ⟨g5,k,none⟩)) (by kernel_rfl) (by go_simp) ?_
   simp only [nrm]
   have c4:=kc_cell (hB.get 2 (x:=⟨g5,kc m,5⟩) rfl) k (by rw [unhide hml]; exact hkl)
   have fz:=froz_of (i:=k) (hB.get 2 (x:=⟨g5,kc m,5⟩) rfl)
   generalize m.getD k 0=z at c4
   have hB2:=hB.cell 2 (x:=⟨g5,kc m,5⟩) rfl k (.int .u8 (stf K t k))
   simp only [List.set_cons_zero,List.set_cons_succ,kc_set] at hB2
   clear hB
   replace hB2:=hide hB2
   generalize stf K t k=y at *
   dsimp only at c4 fz
   (refine wpList_step fun K hK=>?_; replace hK:=hide hK; go_simp; refine unhide hK _ _ ?_; clear hK K)
   clear c4 fz
   refine wpList_nil ?_
   clear a1 a2 a3 a4 a5 a6 c0
   go_wp2_with fail
   go_roundw
   case rel=>exact ⟨k+1,E,_,by omega,by go_num,hEl,.inr (by rw [unhide hnext]; exact unhide hDq),hm2,hB2⟩
   case measure=>simp [intOf]; omega
  ·replace hk0:=hide hk0
   by_cases hr0:r=0
   ·replace hr0:=hide hr0
    refine wp_region_lit ?_
    refine list_val (.int .i64 k) (by kernel_rfl) (by kernel_rfl) ?_
    simp only [nrm]
    refine list_val (.bool false) (by kernel_rfl) (by have k0:¬ (k:Int)=0:=(by have h9:=unhide hk0; omega); have k1:=unhide hk0; go_simp) ?_
    simp only [nrm]
    refine list_val (.bool false) (by kernel_rfl) (by kernel_rfl) ?_
    simp only [nrm]
    refine list_val (.int .i64 a) (by kernel_rfl) (by kernel_rfl) ?_
    simp only [nrm]
    refine list_val (.int .i64 r) (by kernel_rfl) (by go_simp) ?_
    simp only [nrm]
    refine list_val (.bool true) (by kernel_rfl) (by have r0:(r:Int)=0:=(by have h9:=unhide hr0; omega); have r1:=unhide hr0; go_simp) ?_
    simp only [nrm]
    refine list_val (.bool true) (by kernel_rfl) (by kernel_rfl) ?_
    simp only [nrm]
    refine wpList_nil ?_
    go_upto_region 8 with fail
    replace hB:=unhide hB
    refine wp_region_lit ?_
    refine list_val (.pointer (some ⟨w.heap.size,0,none⟩)) (by kernel_rfl) (by kernel_rfl) ?_
    simp only [nrm]
    refine list_val (.agg (kc K)) (by kernel_rfl) (exec_row _ 23 (.tmp 28) rfl (w.heap.size) 0 (by kernel_rfl) (K.map (Value.int .u8)) _ (dcl_key (hB.get 0 (x:=⟨w.heap.size,dcl K t,51⟩) rfl)) Tryz.underlying23 rfl (by rw [Tryz.infoKey,List.length_map,hK])) ?_
    simp only [nrm]
    refine list_val (.int .i64 a) (by kernel_rfl) (by kernel_rfl) ?_
    simp only [nrm]
    refine list_val (.int .i64 q) (by kernel_rfl) (by go_simp) ?_
    simp only [nrm]
    refine list_val (.int .u32 (cn 0 q)) (by kernel_rfl) (by go_simp) ?_
    simp only [nrm]
    refine list_val (.agg (kc ZN)) (by kernel_rfl) (by kernel_rfl) ?_
    simp only [nrm]
    refine list_call 38 #[.agg (kc K),.int .u32 (cn 0 q),.agg (kc ZN)] (by kernel_rfl) (by kernel_rfl) ((rblock_ok K ZN hK rfl (unhide hKb) ZN_isB (cn 0 q) _).mono ?_)
    rintro r v1 ⟨rfl,hg⟩
    refine ⟨_,rfl,?_⟩
    replace hB:=hB.more hg
    clear hg
    obtain ⟨E,hDq0⟩:∃ E,E=bk K ZN (cn 0 q):=⟨_,rfl⟩
    rw [← hDq0]
    have hEl:Hid (E.length=64):=by rw [hDq0]; exact bk_len _ _ _
    replace hDq0:=hide hDq0
    simp only [nrm]
    refine list_store 87 (.tmp 7) (.tmp 34) (g6) (kc E) 87 (kc D) (by kernel_rfl) rfl (by kernel_rfl) (by kernel_rfl) (hB.get 3 (x:=⟨g6,kc D,87⟩) rfl) (by rw [Tryz.info64,kc_size,(unhide hEl)]) (((kc_size D).trans (unhide hDl)).trans ((kc_size _).trans (unhide hEl)).symm) (kc_one _) ?_
    replace hB:=hB.set 3 (x:=⟨g6,kc D,87⟩) rfl (kc E)
    simp only [List.set_cons_zero,List.set_cons_succ] at hB
    generalize World.setRow _ _ _=v2 at *
    simp only [nrm]
    refine wpList_nil ?_
    have hDq:Hid (E=bk K ZN (cn 0 q)):=hDq0
    have hx:Hid (E.getD r 0=stf K t k):=by
     show E.getD r 0=_
     rw [unhide hst,unhide hDq]
    replace hB:=hide hB
    go_upto_region 9 with fail
    replace hB:=unhide hB
    refine wp_region_lit ?_
    refine list_val (.slice (some ⟨g5,0,none⟩) n n) (by kernel_rfl) (by kernel_rfl) ?_
    simp only [nrm]
    refine list_val (.int .i64 k) (by kernel_rfl) (by kernel_rfl) ?_
    simp only [nrm]
    refine list_val (.int .i64 a) (by kernel_rfl) (by kernel_rfl) ?_
    simp only [nrm]
    refine list_val (.int .i64 r) (by kernel_rfl) (by go_simp) ?_
    simp only [nrm]
    refine list_val (.pointer (some ⟨g6,r,none⟩)) (by kernel_rfl) (by go_simp) ?_
    simp only [nrm]
    refine list_val (.int .u8 (stf K t k)) (by kernel_rfl) (exec_b _ (.tmp 39) rfl g6 r (by kernel_rfl) _ (by have h:=kc_cell (hB.get 3 (x:=⟨g6,kc E,87⟩) rfl) r (by have h9:=unhide hEl; omega); rw [unhide hx] at h; exact h)) ?_
    simp only [nrm]
    refine list_val (.pointer (some ⟨g5,k,none⟩)) (by kernel_rfl) (by go_simp) ?_
    simp only [nrm]
    have c4:=kc_cell (hB.get 2 (x:=⟨g5,kc m,5⟩) rfl) k (by rw [unhide hml]; exact hkl)
    have fz:=froz_of (i:=k) (hB.get 2 (x:=⟨g5,kc m,5⟩) rfl)
    generalize m.getD k 0=z at c4
    have hB2:=hB.cell 2 (x:=⟨g5,kc m,5⟩) rfl k (.int .u8 (stf K t k))
    simp only [List.set_cons_zero,List.set_cons_succ,kc_set] at hB2
    clear hB
    replace hB2:=hide hB2
    generalize stf K t k=y at *
    dsimp only at c4 fz
    (refine wpList_step fun K hK=>?_; replace hK:=hide hK; go_simp; refine unhide hK _ _ ?_; clear hK K)
    clear c4 fz
    refine wpList_nil ?_
    clear a1 a2 a3 a4 a5 a6 c0
    go_wp2_with fail
    go_roundw
    case rel=>exact ⟨k+1,E,_,by omega,by go_num,hEl,.inr (by rw [unhide hnext]; exact unhide hDq),hm2,hB2⟩
    case measure=>simp [intOf]; omega
   ·have hDq0:Hid (D=bk K ZN (cn 0 q)):=by
     rcases unhide hDk with h | h
     ·exact absurd h (unhide hk0)
     ·have e:(t+k - 1) / 64=q:=by have h1:=unhide hq; have h2:=unhide hr; have h3:=unhide ha; omega
      rw [e] at h
      exact h
    replace hr0:=hide hr0
    refine wp_region_lit ?_
    refine list_val (.int .i64 k) (by kernel_rfl) (by kernel_rfl) ?_
    simp only [nrm]
    refine list_val (.bool false) (by kernel_rfl) (by have k0:¬ (k:Int)=0:=(by have h9:=unhide hk0; omega); have k1:=unhide hk0; go_simp) ?_
    simp only [nrm]
    refine list_val (.bool false) (by kernel_rfl) (by kernel_rfl) ?_
    simp only [nrm]
    refine list_val (.int .i64 a) (by kernel_rfl) (by kernel_rfl) ?_
    simp only [nrm]
    refine list_val (.int .i64 r) (by kernel_rfl) (by go_simp) ?_
    simp only [nrm]
    refine list_val (.bool false) (by kernel_rfl) (by have r0:¬ (r:Int)=0:=(by have h9:=unhide hr0; omega); have r1:=unhide hr0; go_simp) ?_
    simp only [nrm]
    refine list_val (.bool false) (by kernel_rfl) (by kernel_rfl) ?_
    simp only [nrm]
    refine wpList_nil ?_
    replace hB:=unhide hB
    have hDq:Hid (D=bk K ZN (cn 0 q)):=hDq0
    have hx:Hid (D.getD r 0=stf K t k):=by
     show D.getD r 0=_
     rw [unhide hst,unhide hDq]
    replace hB:=hide hB
    go_upto_region 9 with fail
    replace hB:=unhide hB
    refine wp_region_lit ?_
    refine list_val (.slice (some ⟨g5,0,none⟩) n n) (by kernel_rfl) (by kernel_rfl) ?_
    simp only [nrm]
    refine list_val (.int .i64 k) (by kernel_rfl) (by kernel_rfl) ?_
    simp only [nrm]
    refine list_val (.int .i64 a) (by kernel_rfl) (by kernel_rfl) ?_
    simp only [nrm]
    refine list_val (.int .i64 r) (by kernel_rfl) (by go_simp) ?_
    simp only [nrm]
    refine list_val (.pointer (some ⟨g6,r,none⟩)) (by kernel_rfl) (by go_simp) ?_
    simp only [nrm]
    refine list_val (.int .u8 (stf K t k)) (by kernel_rfl) (exec_b _ (.tmp 39) rfl g6 r (by kernel_rfl) _ (by have h:=kc_cell (hB.get 3 (x:=⟨g6,kc D,87⟩) rfl) r (by have h9:=unhide hDl; omega); rw [unhide hx] at h; exact h)) ?_
    simp only [nrm]
    refine list_val (.pointer (some ⟨g5,k,none⟩)) (by kernel_rfl) (by go_simp) ?_
    simp only [nrm]
    have c4:=kc_cell (hB.get 2 (x:=⟨g5,kc m,5⟩) rfl) k (by rw [unhide hml]; exact hkl)
    have fz:=froz_of (i:=k) (hB.get 2 (x:=⟨g5,kc m,5⟩) rfl)
    generalize m.getD k 0=z at c4
    have hB2:=hB.cell 2 (x:=⟨g5,kc m,5⟩) rfl k (.int .u8 (stf K t k))
    simp only [List.set_cons_zero,List.set_cons_succ,kc_set] at hB2
    clear hB
    replace hB2:=hide hB2
    generalize stf K t k=y at *
    dsimp only at c4 fz
    (refine wpList_step fun K hK=>?_; replace hK:=hide hK; go_simp; refine unhide hK _ _ ?_; clear hK K)
    clear c4 fz
    refine wpList_nil ?_
    clear a1 a2 a3 a4 a5 a6 c0
    go_wp2_with fail
    go_roundw
    case rel=>exact ⟨k+1,D,_,by omega,by go_num,hDl,.inr (by rw [unhide hnext]; exact unhide hDq),hm2,hB2⟩
    case measure=>simp [intOf]; omega
 have kI:¬ (k:Int)<(n:Int):=by omega
 have e:k=n:=by omega
 have hM:Hid (m=nxl K t n):=by
  show m=nxl K t n
  rw [unhide hm,e]
  have h:=fil_all (stf K t) (List.replicate n 0)
  rw [List.length_replicate] at h
  exact h
 obtain ⟨t2,ht2⟩:∃ x,x=t+n:=⟨_,rfl⟩
 have b1:(t:Int)+(n:Int)=(t2:Int):=by omega
 have b2:IntKind.i64.wrap (t2:Int)=(t2:Int):=by rw [IntKind.wrap_i64]; omega
 replace ht2:=hide ht2
 clear hm hDk
 go_upto_region 10 with fail
 replace hB:=unhide hB
 refine wp_region_lit ?_
 refine list_val (.pointer (some ⟨w.heap.size,32,none⟩)) (by kernel_rfl) (by kernel_rfl) ?_
 simp only [nrm]
 refine list_val (.int .i64 t) (by kernel_rfl) (exec_i64 _ (.tmp 42) rfl (w.heap.size) 32 (by kernel_rfl) t c0) ?_
 simp only [nrm]
 refine list_val (.int .i64 n) (by kernel_rfl) (by kernel_rfl) ?_
 simp only [nrm]
 refine list_val (.int .i64 t2) (by kernel_rfl) (by go_simp) ?_
 simp only [nrm]
 refine list_val (.pointer (some ⟨w.heap.size,32,none⟩)) (by kernel_rfl) (by kernel_rfl) ?_
 simp only [nrm]
 have c4:wr.cell? ⟨w.heap.size,32,none⟩=some (.int .i64 (t:Int)):=c0
 have fz:=froz_of (i:=32) (hB.get 0 (x:=⟨w.heap.size,dcl K t,51⟩) rfl)
 have hB2:=hB.cell 0 (x:=⟨w.heap.size,dcl K t,51⟩) rfl 32 (.int .i64 (t2:Int))
 simp only [List.set_cons_zero,List.set_cons_succ,dcl_set hK] at hB2
 clear hB
 replace hB2:=hide hB2
 dsimp only at fz
 (refine wpList_step fun K hK=>?_; replace hK:=hide hK; go_simp; refine unhide hK _ _ ?_; clear hK K)
 clear c4 fz c0
 have hB:=unhide hB2
 clear hB2
 generalize World.setCell _ _ _=u5 at *
 refine wpList_nil ?_
 replace hB:=hide hB
 go_upto_region 11 with fail
 replace hB:=unhide hB
 refine wp_region_lit ?_
 refine list_val (.agg (dcl K t2)) (by kernel_rfl) (exec_arr _ 51 (.tmp 2) rfl (w.heap.size) (by kernel_rfl) (dcl K t2) 51 _ (hB.get 0 (x:=⟨w.heap.size,dcl K t2,51⟩) rfl) Tryz.underlying51 rfl (by rw [Tryz.infoD,dcl_size hK])) ?_
 simp only [nrm]
 refine list_val (.slice (some ⟨g5,0,none⟩) n n) (by kernel_rfl) (by kernel_rfl) ?_
 simp only [nrm]
 refine list_store 51 (.tmp 4) (.tmp 47) (w.heap.size+1) (dcl K t2) 51 (dcl ZK 0) (by kernel_rfl) rfl (by kernel_rfl) (by kernel_rfl) (hB.get 1 (x:=⟨w.heap.size+1,dcl ZK 0,51⟩) rfl) (by rw [Tryz.infoD,dcl_size hK]) ((show (dcl ZK 0).size=33 from rfl).trans (dcl_size hK t2).symm) (dcl_one _ _) ?_
 replace hB:=hB.set 1 (x:=⟨w.heap.size+1,dcl ZK 0,51⟩) rfl (dcl K t2)
 simp only [List.set_cons_zero,List.set_cons_succ] at hB
 generalize World.setRow _ _ _=u6 at *
 simp only [nrm]
 (refine wpList_step fun K hK=>?_; replace hK:=hide hK; go_simp; refine unhide hK _ _ ?_; clear hK K)
 refine wpList_nil ?_
 replace hB:=hide hB
 go_wp2_with fail
 replace hB:=unhide hB
 rw [unhide hT]
 exact bodyPost_ret (v:=.tuple #[.agg (dcl K t2),.slice (some ⟨g5,0,none⟩) n n]) (results_cell_tmp Tryz.results15 _ _ (w.heap.size+1) 51 (dcl K t2) (0,0) _ rfl (.slice (some ⟨g5,0,none⟩) n n) rfl (hB.get 1 (x:=⟨w.heap.size+1,dcl K t2,51⟩) rfl) Tryz.underlying51 rfl (by rw [Tryz.infoD,dcl_size hK])) rfl ⟨g5,by rw [unhide ht2],hB.own 2 (x:=⟨g5,kc m,5⟩) rfl,by rw [← unhide hM]; exact hB.get 2 (x:=⟨g5,kc m,5⟩) rfl,hB.gr⟩
theorem cn_cn (c:Int) (k j:Nat):cn (cn c k) j=cn c (k+j):=by unfold cn; omega
theorem w32_cn (c:Int) (k:Nat):W32 (cn c k):=by unfold W32 cn; omega
theorem xl_zero (K N:List Int) (c:Int) (n i:Nat) (h:i<n):(xl K N c (List.replicate n 0)).getD i 0=sf K N c i:=by
 rw [xl_get _ _ _ _ _ (by simp; exact h)]
 unfold xf
 rw [show (List.replicate n (0:Int)).getD i 0=0 from by simp [h]]
 exact xb_zero _ (sf_rng _ _ _ _)
def ecl (Y:List Int) (t:Nat):Array Value:=(Value.int .i64 (t:Int)::Y.map (Value.int .u8)).toArray
def De (g:Nat) (Y:List Int) (t:Nat) (v:World):Prop:=v.heap[g]?=some (.cells (ecl Y t) 86 (0,0))
theorem De.gr {g:Nat} {Y:List Int} {t:Nat} {w v:World} (h:De g Y t w) (k:Gr w v):De g Y t v:=k.blk h
theorem De.taken {g:Nat} {Y:List Int} {t:Nat} {w:World} (h:De g Y t w):w.cell? ⟨g,0,none⟩=some (.int .i64 (t:Int)):=cell_of h (by unfold ecl; simp)
theorem De.key {g:Nat} {Y:List Int} {t:Nat} {w:World} (h:De g Y t w):w.rangeAt g 1 (Y.map (Value.int .u8)):=fun j v hj=>by
 refine cell_of h ?_
 unfold ecl
 rw [List.getElem?_toArray,Nat.add_comm,List.getElem?_cons_succ]
 exact hj
theorem De.lt {g:Nat} {Y:List Int} {t:Nat} {w:World} (h:De g Y t w):g<w.heap.size:=lt_of_block h
theorem De.froz {g:Nat} {Y:List Int} {t:Nat} {w:World} (h:De g Y t w) (i:Nat):w.frozen? ⟨g,i,none⟩=false:=froz_of h
theorem De.set {g:Nat} {Y:List Int} {t:Nat} {w:World} (h:De g Y t w) (m:Nat):De g Y m (w.setCell ⟨g,0,none⟩ (.int .i64 (m:Int))):=by
 have h2:=setCells_heap [.int .i64 (m:Int)] w g 0 (Value.int .i64 (t:Int)::Y.map (Value.int .u8)) 86 h
 exact h2
def Ned (B:List Int) (w:World) (r:Ending) (w':World):Prop:=∃ g,r=.returned (.pointer (some ⟨g,0,none⟩))∧w.heap.size≤g∧De g (sumL B) 0 w'∧Gr w w'
set_option maxHeartbeats 4000000 in
theorem dnew_ok (B:List Int) (a:Option Addr) (n cap:Nat) (hbig:n≤100000) (w:World) (hF:Fst w) (lb:Lb w a n cap B):Calls Tryz.prog 13 #[.slice a n cap] w (Ned B w):=by
 obtain ⟨T,hT⟩:∃ T,T=Ned B w:=⟨_,rfl⟩
 rw [← hT]
 replace hT:=hide hT
 replace lb:=hide lb
 go_enter Tryz.func13,Tryz.ntmps13
 go_upto_region 1 with fail
 refine wp_region_lit ?_
 refine list_val (.slice a n cap) (by kernel_rfl) (by kernel_rfl) ?_
 simp only [nrm]
 refine list_call 36 #[.slice a n cap] (by kernel_rfl) (by kernel_rfl) ((sum_ok B (unhide lb).isB n (unhide lb).len (by omega) a cap (unhide lb).cap (unhide lb).max _ hF (unhide lb).sl).mono ?_)
 rintro r u1 ⟨rfl,hg⟩
 refine ⟨_,rfl,?_⟩
 have hXl:=sumL_len B
 obtain ⟨X,hX0⟩:∃ X,X=sumL B:=⟨_,rfl⟩
 rw [← hX0] at hXl ⊢
 replace hX0:=hide hX0
 simp only [nrm]
 obtain ⟨x0,x1,x2,x3,x4,x5,x6,x7,x8,x9,x10,x11,x12,x13,x14,x15,x16,x17,x18,x19,x20,x21,x22,x23,x24,x25,x26,x27,x28,x29,x30,x31,hX⟩:=list32 X hXl
 rw [hX]
 refine list_val (.agg (ecl [x0,x1,x2,x3,x4,x5,x6,x7,x8,x9,x10,x11,x12,x13,x14,x15,x16,x17,x18,x19,x20,x21,x22,x23,x24,x25,x26,x27,x28,x29,x30,x31] 0)) (by kernel_rfl) (by kernel_rfl) ?_
 simp only [nrm]
 rw [← hX]
 clear hX
 refine list_valw (.pointer (some ⟨u1.heap.size,0,none⟩)) (u1.alloc (.cells (ecl X 0) 86 (0,0))) (by kernel_rfl) (by kernel_rfl) ?_
 simp only [nrm]
 (refine wpList_step fun K hK=>?_; replace hK:=hide hK; go_simp; refine unhide hK _ _ ?_; clear hK K)
 refine wpList_nil ?_
 have hP:Hid (Ned B w (.returned (.pointer (some ⟨u1.heap.size,0,none⟩))) (u1.alloc (.cells (ecl X 0) 86 (0,0)))):=⟨u1.heap.size,rfl,hg.size,by rw [← unhide hX0]; exact blk_new _ _,hg.alloc _⟩
 go_wp2_with fail
 rw [unhide hT]
 exact unhide hP
theorem nx_drop (Y:List Int) (q r n t:Nat) (ht:t=64 * q+r):(xl Y ZN (cn 0 q) (List.replicate (r+n) 0)).drop r=nxl Y t n:=by
 refine list_ext (by rw [List.length_drop,xl_len,List.length_replicate,nxl_len]; omega) fun i hi=>?_
 rw [List.length_drop,xl_len,List.length_replicate] at hi
 rw [List.getD_eq_getElem?_getD,List.getElem?_drop,← List.getD_eq_getElem?_getD,xl_zero _ _ _ _ _ (by omega)]
 have e:(nxl Y t n).getD i 0=stf Y t i:=by
  unfold nxl
  rw [List.getD_eq_getElem?_getD,List.getElem?_map,List.getElem?_range (by omega)]
  rfl
 rw [e]
 unfold stf sf
 rw [cn_cn,show q+(r+i) / 64=(t+i) / 64 from by omega,show (r+i) % 64=(t+i) % 64 from by omega]
theorem exec_cut {a:Act} {o:Oper} (w:World) (x y:Operand) (ho:o.op=.slice 43 x (some y) none none) (g m r n:Nat) (hx:a.eval x=.slice (some ⟨g,0,none⟩) m m) (hy:a.eval y=.int .i64 r) (hm:m=r+n) :
  (execOp a.eval o).run Tryz.prog w=.ok (.value (.slice (some ⟨g,if n=0 then 0 else r,none⟩) n n)) w:=by
 have h:=exec_from w x y ho (some ⟨g,0,none⟩) m m r hx hy (Nat.le_refl _) (by omega)
 rw [h,show m - r=n from by omega]
 by_cases h0:n=0
 ·rw [if_pos h0,if_pos (by omega)]
 ·rw [if_neg h0,if_neg (by omega),Option.map_some,Addr.add_mid,Nat.zero_add]
def Nxd (g:Nat) (Y:List Int) (t n:Nat) (w:World) (r:Ending) (w':World):Prop:=∃ gx o M,r=.returned (.slice (some ⟨gx,o,none⟩) n n)∧w.heap.size≤gx∧w'.heap[gx]?=some (.cells (kc M) 5 (0,0))∧At w' gx o (nxl Y t n)∧(t=0→o=0∧M=nxl Y 0 n)∧De g Y (t+n) w'∧Bt g w w'
set_option maxHeartbeats 4000000 in
theorem dnext_ok (Y:List Int) (hY:Y.length=32) (hYb:IsB Y) (t n:Nat) (ht:t≤1099511627776) (hn:n≤65536) (g:Nat) (w:World) (hd:De g Y t w):Calls Tryz.prog 56 #[.pointer (some ⟨g,0,none⟩),.int .i64 n] w (Nxd g Y t n w):=by
 obtain ⟨T,hT⟩:∃ T,T=Nxd g Y t n w:=⟨_,rfl⟩
 rw [← hT]
 replace hT:=hide hT
 obtain ⟨r,hr⟩:∃ r,r=t % 64:=⟨_,rfl⟩
 obtain ⟨q,hq⟩:∃ q,q=t / 64:=⟨_,rfl⟩
 have r64:r<64:=by omega
 have htq:Hid (t=64 * q+r):=by show t=64 * q+r; omega
 have a3:Int.tmod (t:Int) 64=(r:Int):=by rw [Int.tmod_eq_emod_of_nonneg (by omega)]; omega
 have a4:Int.tdiv (t:Int) 64=(q:Int):=by rw [Int.tdiv_eq_ediv_of_nonneg (by omega)]; omega
 have a5:IntKind.u32.wrap (q:Int)=cn 0 q:=by rw [IntKind.wrap_u32]; unfold cn; omega
 have a6:IntKind.i64.wrap (q:Int)=(q:Int):=by rw [IntKind.wrap_i64]; omega
 obtain ⟨m,hm⟩:∃ m,m=r+n:=⟨_,rfl⟩
 have b1:(r:Int)+(n:Int)=(m:Int):=by omega
 have b2:IntKind.i64.wrap (m:Int)=(m:Int):=by rw [IntKind.wrap_i64]; omega
 obtain ⟨t2,ht2⟩:∃ x,x=t+n:=⟨_,rfl⟩
 have d1:(t:Int)+(n:Int)=(t2:Int):=by omega
 have d2:IntKind.i64.wrap (t2:Int)=(t2:Int):=by rw [IntKind.wrap_i64]; omega
 have hm2:m≤65600:=by omega
 have hglt:=hd.lt
 replace hr:=hide hr; replace hq:=hide hq; replace hm:=hide hm; replace ht2:=hide ht2
 replace hd:=hide hd; replace hYb:=hide hYb
 go_enter Tryz.func56,Tryz.ntmps56
 go_upto_region 1 with fail
 refine wp_region_lit ?_
 refine list_val (.pointer (some ⟨g,0,none⟩)) (by kernel_rfl) (by kernel_rfl) ?_
 simp only [nrm]
 refine list_val (.pointer (some ⟨g,0,none⟩)) (by kernel_rfl) (by kernel_rfl) ?_
 simp only [nrm]
 refine list_val (.pointer (some ⟨g,0,none⟩)) (by kernel_rfl) (by kernel_rfl) ?_
 simp only [nrm]
 refine list_val (.pointer (some ⟨g,0,none⟩)) (by kernel_rfl) (by kernel_rfl) ?_
 simp only [nrm]
 refine list_val (.int .i64 t) (by kernel_rfl) (exec_i64 _ (.tmp 10) rfl g 0 (by kernel_rfl) t (unhide hd).taken) ?_
 simp only [nrm]
 refine list_val (.int .i64 r) (by kernel_rfl) (by go_simp) ?_
 simp only [nrm]
 (refine wpList_step fun K hK=>?_; replace hK:=hide hK; go_simp; refine unhide hK _ _ ?_; clear hK K)
 refine wpList_nil ?_
 go_upto_region 2 with fail
 have hG:=Gr.refl w
 refine any_start (S:=fun v=>Gr w v) (by kernel_rfl) ?_
 replace hG:=hG.drew
 generalize World.drew _=x0 at *
 simp only [List.size_toArray,List.length_cons,List.length_nil,Array.replicate,List.replicate]
 refine any_take (i:=0) (v:=(.pointer (some ⟨g,0,none⟩))) #[false,false,false,false,false,false,false,false,false,false,false,false,false,false,false,false,false,false] rfl (by kernel_rfl) (by kernel_rfl) (by kernel_rfl) (by kernel_rfl) (fun _ _ _ h=>h) (.inl ⟨by kernel_rfl,fun x_ hu=>by kernel_rfl⟩) hG ?_
 simp only [nrm]
 refine any_take (i:=1) (v:=(.pointer (some ⟨g,0,none⟩))) #[true,false,false,false,false,false,false,false,false,false,false,false,false,false,false,false,false,false] rfl (by kernel_rfl) (by kernel_rfl) (by kernel_rfl) (by kernel_rfl) (fun _ _ _ h=>h) (.inl ⟨by kernel_rfl,fun x_ hu=>by kernel_rfl⟩) hG ?_
 simp only [nrm]
 refine any_take (i:=2) (v:=(.pointer (some ⟨g,1,none⟩))) #[true,true,false,false,false,false,false,false,false,false,false,false,false,false,false,false,false,false] rfl (by kernel_rfl) (by kernel_rfl) (by kernel_rfl) (by kernel_rfl) (fun _ _ _ h=>h) (.inl ⟨by kernel_rfl,fun x_ hu=>by kernel_rfl⟩) hG ?_
 simp only [nrm]
 refine any_take (i:=3) (v:=(.agg (kc Y))) #[true,true,true,false,false,false,false,false,false,false,false,false,false,false,false,false,false,false] rfl (by kernel_rfl) (by kernel_rfl) (by kernel_rfl) (by kernel_rfl) (fun _ _ _ h=>h) (.inl ⟨by kernel_rfl,fun x_ hu=>exec_row _ 23 (.tmp 15) rfl g 1 (by kernel_rfl) (Y.map (Value.int .u8)) _ ((unhide hd).gr hu).key Tryz.underlying23 rfl (by rw [Tryz.infoKey,List.length_map,hY])⟩) hG ?_
 simp only [nrm]
 refine any_take (i:=4) (v:=(.pointer (some ⟨g,0,none⟩))) #[true,true,true,true,false,false,false,false,false,false,false,false,false,false,false,false,false,false] rfl (by kernel_rfl) (by kernel_rfl) (by kernel_rfl) (by kernel_rfl) (fun _ _ _ h=>h) (.inl ⟨by kernel_rfl,fun x_ hu=>by kernel_rfl⟩) hG ?_
 simp only [nrm]
 refine any_take (i:=5) (v:=(.pointer (some ⟨g,0,none⟩))) #[true,true,true,true,true,false,false,false,false,false,false,false,false,false,false,false,false,false] rfl (by kernel_rfl) (by kernel_rfl) (by kernel_rfl) (by kernel_rfl) (fun _ _ _ h=>h) (.inl ⟨by kernel_rfl,fun x_ hu=>by kernel_rfl⟩) hG ?_
 simp only [nrm]
 refine any_take (i:=6) (v:=(.pointer (some ⟨g,0,none⟩))) #[true,true,true,true,true,true,false,false,false,false,false,false,false,false,false,false,false,false] rfl (by kernel_rfl) (by kernel_rfl) (by kernel_rfl) (by kernel_rfl) (fun _ _ _ h=>h) (.inl ⟨by kernel_rfl,fun x_ hu=>by kernel_rfl⟩) hG ?_
 simp only [nrm]
 refine any_take (i:=7) (v:=(.pointer (some ⟨g,0,none⟩))) #[true,true,true,true,true,true,true,false,false,false,false,false,false,false,false,false,false,false] rfl (by kernel_rfl) (by kernel_rfl) (by kernel_rfl) (by kernel_rfl) (fun _ _ _ h=>h) (.inl ⟨by kernel_rfl,fun x_ hu=>by kernel_rfl⟩) hG ?_
 simp only [nrm]
 refine any_take (i:=8) (v:=(.int .i64 t)) #[true,true,true,true,true,true,true,true,false,false,false,false,false,false,false,false,false,false] rfl (by kernel_rfl) (by kernel_rfl) (by kernel_rfl) (by kernel_rfl) (fun _ _ _ h=>h) (.inl ⟨by kernel_rfl,fun x_ hu=>exec_i64 _ (.tmp 20) rfl g 0 (by kernel_rfl) t ((unhide hd).gr hu).taken⟩) hG ?_
 simp only [nrm]
 refine any_take (i:=9) (v:=(.int .i64 q)) #[true,true,true,true,true,true,true,true,true,false,false,false,false,false,false,false,false,false] rfl (by kernel_rfl) (by kernel_rfl) (by kernel_rfl) (by kernel_rfl) (fun _ _ _ h=>h) (.inl ⟨by kernel_rfl,fun x_ hu=>by go_simp⟩) hG ?_
 simp only [nrm]
 refine any_take (i:=10) (v:=(.int .u32 (cn 0 q))) #[true,true,true,true,true,true,true,true,true,true,false,false,false,false,false,false,false,false] rfl (by kernel_rfl) (by kernel_rfl) (by kernel_rfl) (by kernel_rfl) (fun _ _ _ h=>h) (.inl ⟨by kernel_rfl,fun x_ hu=>by go_simp⟩) hG ?_
 simp only [nrm]
 refine any_take (i:=11) (v:=(.agg (kc ZN))) #[true,true,true,true,true,true,true,true,true,true,true,false,false,false,false,false,false,false] rfl (by kernel_rfl) (by kernel_rfl) (by kernel_rfl) (by kernel_rfl) (fun _ _ _ h=>h) (.inl ⟨by kernel_rfl,fun x_ hu=>by kernel_rfl⟩) hG ?_
 simp only [nrm]
 refine any_take (i:=12) (v:=(.int .i64 r)) #[true,true,true,true,true,true,true,true,true,true,true,true,false,false,false,false,false,false] rfl (by kernel_rfl) (by kernel_rfl) (by kernel_rfl) (by kernel_rfl) (fun _ _ _ h=>h) (.inl ⟨by kernel_rfl,fun x_ hu=>by kernel_rfl⟩) hG ?_
 simp only [nrm]
 refine any_take (i:=13) (v:=(.int .i64 n)) #[true,true,true,true,true,true,true,true,true,true,true,true,true,false,false,false,false,false] rfl (by kernel_rfl) (by kernel_rfl) (by kernel_rfl) (by kernel_rfl) (fun _ _ _ h=>h) (.inl ⟨by kernel_rfl,fun x_ hu=>by kernel_rfl⟩) hG ?_
 simp only [nrm]
 refine any_take (i:=14) (v:=(.int .i64 m)) #[true,true,true,true,true,true,true,true,true,true,true,true,true,true,false,false,false,false] rfl (by kernel_rfl) (by kernel_rfl) (by kernel_rfl) (by kernel_rfl) (fun _ _ _ h=>h) (.inl ⟨by kernel_rfl,fun x_ hu=>by go_simp⟩) hG ?_
 simp only [nrm]
 refine any_one (i:=15) (by kernel_rfl) rfl (fun K_ hQ=>?_)
 rw [if_pos (by kernel_rfl)]
 refine make_op (.tmp 27) (.tmp 27) rfl m m rfl rfl (Nat.le_refl _) (by omega) ?_
 have lz:Lb (x0.alloc (.cells (kc (List.replicate m 0)) 5 (0,0))) (some ⟨x0.heap.size,0,none⟩) m m (List.replicate m 0):=kc_lb (blk_new _ _) (by simp) (rep_isB m) (by omega)
 replace hG:=hG.alloc (.cells (kc (List.replicate m 0)) 5 (0,0))
 generalize World.alloc _ _=x1 at *
 generalize x0.heap.size=g9 at *
 refine hQ.out _ _ hG (fun _=>?_)
 clear hQ K_
 simp only [nrm]
 refine any_one (i:=16) (by kernel_rfl) rfl (fun K_ hQ=>?_)
 refine step_callw (by kernel_rfl) 71 #[.agg (kc Y),.int .u32 (cn 0 q),.agg (kc ZN),.slice (some ⟨g9,0,none⟩) m m] (by kernel_rfl) ((xor_ok Y ZN hY rfl (unhide hYb) ZN_isB (cn 0 q) (w32_cn 0 q) (List.replicate m 0) _ m m (by omega) _ lz).mono ?_)
 rintro r x2 ⟨gx,rfl,hgx,hxx,hg⟩
 refine ⟨_,rfl,?_⟩
 rw [List.length_replicate]
 have hgx2:=Nat.le_trans hG.size hgx
 replace hG:=hG.trans hg
 clear hg lz hgx
 refine hQ.out _ _ hG (fun _=>?_)
 clear hQ K_
 simp only [nrm]
 refine any_one (i:=17) (by kernel_rfl) rfl (fun K_ hQ=>?_)
 replace hQ:=hide hQ
 go_simp
 refine (unhide hQ).out _ _ hG (fun _=>?_)
 clear hQ K_
 refine any_done (by kernel_rfl) ?_
 have hd2:=(unhide hd).gr hG
 replace hd2:=hide hd2; replace hG:=hide hG
 go_upto_region 3 with fail
 refine wp_region_lit ?_
 refine list_val (.pointer (some ⟨g,0,none⟩)) (by kernel_rfl) (by kernel_rfl) ?_
 simp only [nrm]
 refine list_val (.pointer (some ⟨g,0,none⟩)) (by kernel_rfl) (by kernel_rfl) ?_
 simp only [nrm]
 refine list_val (.pointer (some ⟨g,0,none⟩)) (by kernel_rfl) (by kernel_rfl) ?_
 simp only [nrm]
 refine list_val (.pointer (some ⟨g,0,none⟩)) (by kernel_rfl) (by kernel_rfl) ?_
 simp only [nrm]
 refine list_val (.int .i64 t) (by kernel_rfl) (exec_i64 _ (.tmp 33) rfl g 0 (by kernel_rfl) t (unhide hd2).taken) ?_
 simp only [nrm]
 refine list_val (.int .i64 n) (by kernel_rfl) (by kernel_rfl) ?_
 simp only [nrm]
 refine list_val (.int .i64 t2) (by kernel_rfl) (by go_simp) ?_
 simp only [nrm]
 refine list_val (.pointer (some ⟨g,0,none⟩)) (by kernel_rfl) (by kernel_rfl) ?_
 simp only [nrm]
 refine list_val (.pointer (some ⟨g,0,none⟩)) (by kernel_rfl) (by kernel_rfl) ?_
 simp only [nrm]
 refine list_val (.pointer (some ⟨g,0,none⟩)) (by kernel_rfl) (by kernel_rfl) ?_
 simp only [nrm]
 have c4:=(unhide hd2).taken
 have fz:=(unhide hd2).froz 0
 have hd3:=hide ((unhide hd2).set t2)
 have hbt:=hide (((unhide hG).bt g).trans (Bt.setCell x2 0 (.int .i64 (t2:Int))))
 have hxx2:=hide ((Bt.setCell x2 0 (.int .i64 (t2:Int))).blk hxx (show gx≠g by omega))
 (refine wpList_step fun K hK=>?_; replace hK:=hide hK; go_simp; refine unhide hK _ _ ?_; clear hK K)
 clear c4 fz
 generalize World.setCell _ _ _=x3 at *
 refine wpList_nil ?_
 clear hd2 hG hxx
 go_upto_region 4 with fail
 refine wp_region_lit ?_
 refine list_val (.slice (some ⟨gx,0,none⟩) m m) (by kernel_rfl) (by kernel_rfl) ?_
 simp only [nrm]
 refine list_val (.int .i64 r) (by kernel_rfl) (by kernel_rfl) ?_
 simp only [nrm]
 refine list_val (.slice (some ⟨gx,if n=0 then 0 else r,none⟩) n n) (by kernel_rfl) (exec_cut _ (.tmp 40) (.tmp 41) rfl gx m r n rfl rfl (unhide hm)) ?_
 simp only [nrm]
 (refine wpList_step fun K hK=>?_; replace hK:=hide hK; go_simp; refine unhide hK _ _ ?_; clear hK K)
 refine wpList_nil ?_
 have hP:Hid (Nxd g Y t n w (.returned (.slice (some ⟨gx,if n=0 then 0 else r,none⟩) n n)) x3):=by
  have e:=nx_drop Y q r n t (unhide htq)
  have hx:=unhide hxx2
  rw [unhide hm] at hx
  refine ⟨gx,_,_,rfl,hgx2,hx,?_,?_,by rw [← unhide ht2]; exact unhide hd3,unhide hbt⟩
  ·by_cases h0:n=0
   ·subst h0
    intro j hj
    rw [nxl_len] at hj
    omega
   ·rw [if_neg h0,← e]
    have h:=(kc_at hx).drop r
    rw [Nat.zero_add] at h
    exact h
  ·rintro rfl
   have h0:r=0:=by have:=unhide hr; omega
   refine ⟨by rw [h0]; exact ite_self _,?_⟩
   rw [← e,h0,List.drop_zero]
 generalize (if n=0 then 0 else r)=o at *
 go_wp2_with fail
 rw [unhide hT]
 exact unhide hP
def Byd (g:Nat) (Y:List Int) (t n:Nat) (w:World) (r:Ending) (w':World):Prop:=∃ gx o M,r=.returned (.tuple #[.slice (some ⟨gx,o,none⟩) n n,.int .i64 0])∧w.heap.size≤gx∧w'.heap[gx]?=some (.cells (kc M) 5 (0,0))∧At w' gx o (nxl Y t n)∧(t=0→o=0∧M=nxl Y 0 n)∧De g Y (t+n) w'∧Bt g w w'
set_option maxHeartbeats 4000000 in
theorem dbytes_ok (Y:List Int) (hY:Y.length=32) (hYb:IsB Y) (t n:Nat) (ht:t≤1099511627776) (hn:n≤65536) (g:Nat) (w:World) (hd:De g Y t w):Calls Tryz.prog 34 #[.pointer (some ⟨g,0,none⟩),.int .i64 n] w (Byd g Y t n w):=by
 obtain ⟨T,hT⟩:∃ T,T=Byd g Y t n w:=⟨_,rfl⟩
 rw [← hT]
 replace hT:=hide hT
 have n0:¬ (n:Int)<0:=by omega
 have n1:¬ (65536:Int)<(n:Int):=by omega
 replace hd:=hide hd; replace hYb:=hide hYb
 go_enter Tryz.func34,Tryz.ntmps34
 go_wp2_with (go_at_call 56; refine (dnext_ok Y hY (unhide hYb) t n ht hn g _ (unhide hd)).mono ?_; rintro e u1 ⟨gx,o,M,rfl,h1,h2,h3,h4,h5,h6⟩; have hP:Hid (Byd g Y t n w (.returned (.tuple #[.slice (some ⟨gx,o,none⟩) n n,.int .i64 0])) u1):=⟨gx,o,M,rfl,h1,h2,h3,h4,h5,h6⟩; clear h1 h2 h3 h4 h5 h6)
 rw [unhide hT]
 exact unhide hP
theorem dbytes_nil (n:Int) (w:World):Calls Tryz.prog 34 #[.pointer none,.int .i64 n] w (fun r w'=>r=.returned (.tuple #[.slice none 0 0,.int .i64 1])∧w'=w):=by
 go_enter Tryz.func34,Tryz.ntmps34
 go_wp2_with fail
 exact bodyPost_ret (v:=.tuple #[.slice none 0 0,.int .i64 1]) (by simp [results,Tryz.results34,go_sem]) rfl ⟨rfl,rfl⟩
end Go.Proofs.YthahhglbeafkmaaGreatDoor
namespace Go.Proofs.YthahhglbeafkmaaGreatDoor
open Go.RowKit
set_option maxRecDepth 100000
set_option linter.unusedSimpArgs false
set_option linter.unusedVariables false
theorem nxl_isB (K:List Int) (t n:Nat):IsB (nxl K t n):=fun x hx=>by
 unfold nxl at hx
 obtain ⟨i,_,rfl⟩:=List.mem_map.1 hx
 exact (bk_isB K ZN _).at_ _
def Sb (g:Nat) (w v:World):Prop:=Bt g w v
theorem Sb.gr {g:Nat} {w u v:World} (h:Sb g w u) (k:Gr u v):Sb g w v :=
 ⟨k.os.trans h.os,k.tape.trans h.tape,k.output.trans h.output,Nat.le_trans h.size k.size,fun i hi hn=>(k.block i (Nat.lt_of_lt_of_le hi h.size)).trans (h.block i hi hn)⟩
theorem Sb.bt {g b:Nat} {w u v:World} (h:Sb g w u) (k:Bt b u v) (hb:w.heap.size≤b):Sb g w v:=Bt.own h k hb
theorem nilb (w:World):Bl (bare w) [] w:=⟨⟨rfl,rfl,rfl,Nat.zero_le _,fun i hi=>absurd hi (Nat.not_lt_zero i)⟩,(fun _ h=>by cases h),List.Pairwise.nil⟩
theorem dbytes_nilv (w:World):Calls Tryz.prog 34 #[.pointer none,.int .i64 146] w (Vl (.tuple #[.slice none 0 0,.int .i64 1]) w) :=
 (dbytes_nil 146 w).mono fun r w' h=>⟨h.1,by rw [h.2]; exact Gr.refl _⟩
def Cvd (g:Nat) (Y:List Int) (w:World) (r:Ending) (w':World):Prop:=r=.returned (.tuple #[.agg (fl [bw ((nxl Y 0 146).take 16),bw (((nxl Y 0 146).drop 16).take 130)]),.int .i64 0])∧w'.heap[g]?=some (.cells (ecl Y 146) 86 (0,0))∧Bt g w w'
set_option maxHeartbeats 4000000 in
theorem vcover_nil  (w:World)  : Calls Tryz.prog 12 #[.pointer none] w (Vl (.tuple #[.agg (fl [bw Z16,bw Z130]),.int .i64 1]) w):=by
 obtain ⟨T,hT⟩:∃ T:Ending→World→Prop,T=(Vl (.tuple #[.agg (fl [bw Z16,bw Z130]),.int .i64 1]) w):=⟨_,rfl⟩
 rw [← hT]
 replace hT:=hide hT
 go_enter Tryz.func12,Tryz.ntmps12
 go_upto_region 1 with fail
 have hB:=((Bl.nil w).new (fl [bw Z16,bw Z130]) 36)
 simp only [size_alloc,List.nil_append,List.cons_append] at hB
 generalize hu_:World.alloc _ _=u0
 replace hB:Bl w [⟨w.heap.size,fl [bw Z16,bw Z130],36⟩] u0:=by
  rw [← hu_]
  exact hB
 clear hu_
 refine wp_region_lit ?_
 refine lvk (.pointer none) ?_
 simp only [nrm]
 refine list_call 34 #[.pointer none,.int .i64 146] (by kernel_rfl) (by kernel_rfl) ((dbytes_nilv u0).mono ?_)
 rintro r_ u1 ⟨rfl,hg⟩
 replace hB:=hB.more hg
 clear hg
 refine ⟨_,rfl,?_⟩
 simp only [nrm]
 refine lvk (.tuple #[.slice none 0 0,.int .i64 1]) ?_
 simp only [nrm]
 refine lvk (.slice none 0 0) ?_
 simp only [nrm]
 refine lvk (.int .i64 1) ?_
 simp only [nrm]
 (refine wpList_step fun K hK=>?_; replace hK:=hide hK; go_simp; refine unhide hK _ _ ?_; clear hK K)
 (refine wpList_step fun K hK=>?_; replace hK:=hide hK; go_simp; refine unhide hK _ _ ?_; clear hK K)
 refine wpList_nil ?_
 replace hB:=hide hB
 go_upto_region 2 with fail
 replace hB:=unhide hB
 refine wp_region_lit ?_
 refine lvk (.int .i64 1) ?_
 simp only [nrm]
 refine list_val (.bool true) (by kernel_rfl) (neq_e _ (.tmp 11) (.const (.int .i64 0)) 1 0 true rfl (by kernel_rfl) (by kernel_rfl) (by decide)) ?_
 simp only [nrm]
 refine wpList_nil ?_
 replace hB:=hide hB
 go_upto_region 3 with fail
 replace hB:=unhide hB
 refine wp_region_lit ?_
 refine list_val (.agg (fl [bw Z16,bw Z130])) (by kernel_rfl) (bX _ rfl) ?_
 simp only [nrm]
 refine lvk (.int .i64 1) ?_
 simp only [nrm]
 refine list_all 36 (.tmp 2) (.tmp 13) (w.heap.size) (S2:=[bw Z16,bw Z130]) (by kernel_rfl) rfl (by kernel_rfl) (by kernel_rfl) hB 0 rfl NX (nX (show List.length Z16=16 from rfl) (show List.length Z130=130 from rfl)) (nX (show List.length Z16=16 from rfl) (show List.length Z130=130 from rfl)) (by kernel_rfl) (oX _ _) ?_
 intro u2 hB_ hbt_
 clear hB
 replace hB:Bl w [⟨w.heap.size,fl [bw Z16,bw Z130],36⟩] u2:=hB_
 clear hB_
 clear hbt_
 simp only [nrm]
 (refine wpList_step fun K hK=>?_; replace hK:=hide hK; go_simp; refine unhide hK _ _ ?_; clear hK K)
 refine wpList_nil ?_
 replace hB:=hide hB
 go_wp2_with fail
 replace hB:=unhide hB
 rw [unhide hT]
 exact bodyPost_ret (v:=.tuple #[.agg (fl [bw Z16,bw Z130]),.int .i64 1]) (res2 Tryz.results12 (rv_cell (by kernel_rfl) (hB.get 0 (x:=⟨w.heap.size,fl [bw Z16,bw Z130],36⟩) rfl) Tryz.underlying36 rfl (by rw [fl_size (nX (show List.length Z16=16 from rfl) (show List.length Z130=130 from rfl))]; kernel_rfl)) (rv_tmp (by kernel_rfl))) rfl (⟨rfl,hB.gr⟩)
set_option maxHeartbeats 4000000 in
theorem vcover_ok (g:Nat) (Y:List Int) (hY:Y.length=32) (hYb:IsB Y) (w:World) (hd:De g Y 0 w):Calls Tryz.prog 12 #[.pointer (some ⟨g,0,none⟩)] w (Cvd g Y w):=by
 obtain ⟨T,hT⟩:∃ T:Ending→World→Prop,T=Cvd g Y w:=⟨_,rfl⟩
 rw [← hT]
 replace hT:=hide hT
 obtain ⟨L,hL⟩:∃ L,L=nxl Y 0 146:=⟨_,rfl⟩
 have hLl:L.length=146:=by rw [hL]; exact nxl_len _ _ _
 have hLb:IsB L:=by rw [hL]; exact nxl_isB _ _ _
 obtain ⟨D,hD⟩:∃ D,D=L.take 16:=⟨_,rfl⟩
 obtain ⟨C,hC⟩:∃ D,D=(L.drop 16).take 130:=⟨_,rfl⟩
 have hDl:D.length=16:=by rw [hD,List.length_take,hLl]; rfl
 have hCl:C.length=130:=by rw [hC]; exact sub_len hLl (by decide)
 replace hL:=hide hL
 replace hLb:=hide hLb
 replace hD:=hide hD
 replace hC:=hide hC
 replace hYb:=hide hYb
 have hdl:=hd.lt
 go_enter Tryz.func12,Tryz.ntmps12
 go_upto_region 1 with fail
 have hB:=((nilb w).add ⟨g,ecl Y 0,86⟩ hd (Nat.zero_le _) (by intro y hy; cases hy)).new (fl [bw Z16,bw Z130]) 36
 have hbt:Hid (Sb g w (w.alloc (.cells (fl [bw Z16,bw Z130]) 36 (0,0)))):=Sb.gr (Bt.refl g w) ((Gr.refl w).alloc _)
 simp only [List.nil_append,List.cons_append] at hB
 have hne:w.heap.size≤w.heap.size:=Nat.le_refl _
 generalize hu_:World.alloc _ _=u0
 replace hB:Bl (bare w) [⟨g,ecl Y 0,86⟩,⟨w.heap.size,fl [bw Z16,bw Z130],36⟩] u0:=by
  rw [← hu_]
  exact hB
 replace hbt:Hid (Sb g w u0):=by
  rw [← hu_]
  exact hbt
 clear hu_
 refine wp_region_lit ?_
 refine lvk (.pointer (some ⟨g,0,none⟩)) ?_
 simp only [nrm]
 refine list_call 34 #[.pointer (some ⟨g,0,none⟩),.int .i64 146] (by kernel_rfl) (by kernel_rfl) ((dbytes_ok Y hY (unhide hYb) 0 146 (by decide) (by decide) g u0 (hB.get 0 (x:=⟨g,ecl Y 0,86⟩) rfl)).mono ?_)
 rintro r_ u1 ⟨gx,o,M,rfl,h1,h2,h3,h4,h5,h6⟩
 obtain ⟨rfl,rfl⟩:=h4 rfl
 replace hB:=hB.but h6 0 (x:=⟨g,ecl Y 0,86⟩) rfl rfl (c:=ecl Y 146) h5
 simp only [List.set_cons_zero,List.set_cons_succ] at hB
 replace hbt:Hid (Sb g w u1):=Bt.trans (unhide hbt) h6
 rw [← unhide hL] at h2
 have l1:=hide (nw_lb h2 (unhide hLb) hLl (by decide))
 clear h1 h2 h3 h4 h5 h6
 refine ⟨_,rfl,?_⟩
 simp only [nrm]
 refine lvk (.tuple #[.slice (some ⟨gx,0,none⟩) 146 146,.int .i64 0]) ?_
 simp only [nrm]
 refine lvk (.slice (some ⟨gx,0,none⟩) 146 146) ?_
 simp only [nrm]
 refine lvk (.int .i64 0) ?_
 simp only [nrm]
 (refine wpList_step fun K hK=>?_; replace hK:=hide hK; go_simp; refine unhide hK _ _ ?_; clear hK K)
 (refine wpList_step fun K hK=>?_; replace hK:=hide hK; go_simp; refine unhide hK _ _ ?_; clear hK K)
 refine wpList_nil ?_
 replace hB:=hide hB
 go_upto_region 2 with fail
 replace hB:=unhide hB
 refine wp_region_lit ?_
 refine lvk (.int .i64 0) ?_
 simp only [nrm]
 refine list_val (.bool false) (by kernel_rfl) (neq_e _ (.tmp 11) (.const (.int .i64 0)) 0 0 false rfl (by kernel_rfl) (by kernel_rfl) (by decide)) ?_
 simp only [nrm]
 refine wpList_nil ?_
 replace hB:=hide hB
 go_upto_region 4 with fail
 replace hB:=unhide hB
 refine wp_region_lit ?_
 refine lvk (.slice (some ⟨gx,0,none⟩) 146 146) ?_
 simp only [nrm]
 refine list_call 35 #[.slice (some ⟨gx,0,none⟩) 146 146] (by kernel_rfl) (by kernel_rfl) (((show Calls Tryz.prog 35 #[.slice (some ⟨gx,0,none⟩) 146 146] u1 (Vl (.tuple #[.agg (fl [bw D,bw C]),.int .i64 0]) u1) from by rw [unhide hD,unhide hC]; exact getxf_ok L _ 146 u1 (unhide l1))).mono ?_)
 rintro r_ u2 ⟨rfl,hg⟩
 replace hbt:=hide ((unhide hbt).gr hg)
 replace hB:=hB.more hg
 clear hg
 refine ⟨_,rfl,?_⟩
 simp only [nrm]
 refine lvk (.agg (fl [bw D,bw C])) ?_
 simp only [nrm]
 refine lvk (.int .i64 0) ?_
 simp only [nrm]
 have hzz_:Hid (u2.heap[w.heap.size]?=some (.cells (fl [bw Z16,bw Z130]) 36 (0,0))):=hide (hB.get 1 (x:=⟨w.heap.size,fl [bw Z16,bw Z130],36⟩) rfl)
 refine list_all 36 (.tmp 2) (.tmp 17) (w.heap.size) (S2:=[bw D,bw C]) (by kernel_rfl) rfl (by kernel_rfl) (by kernel_rfl) hB 1 rfl NX (nX (show List.length Z16=16 from rfl) (show List.length Z130=130 from rfl)) (nX hDl hCl) (by kernel_rfl) (oX _ _) ?_
 intro u3 hB_ hbt_
 clear hB
 replace hB:Bl (bare w) [⟨g,ecl Y 146,86⟩,⟨w.heap.size,fl [bw D,bw C],36⟩] u3:=hB_
 clear hB_
 replace hbt:=hide ((unhide hbt).bt hbt_ hne)
 clear hbt_ hzz_
 simp only [nrm]
 (refine wpList_step fun K hK=>?_; replace hK:=hide hK; go_simp; refine unhide hK _ _ ?_; clear hK K)
 refine wpList_nil ?_
 replace hB:=hide hB
 go_wp2_with fail
 replace hB:=unhide hB
 rw [unhide hT]
 exact bodyPost_ret (v:=.tuple #[.agg (fl [bw D,bw C]),.int .i64 0]) (res2 Tryz.results12 (rv_cell (by kernel_rfl) (hB.get 1 (x:=⟨w.heap.size,fl [bw D,bw C],36⟩) rfl) Tryz.underlying36 rfl (by rw [fl_size (nX hDl hCl)]; kernel_rfl)) (rv_tmp (by kernel_rfl))) rfl (⟨by rw [← unhide hL,← unhide hD,← unhide hC],hB.get 0 (x:=⟨g,ecl Y 146,86⟩) rfl,unhide hbt⟩)
end Go.Proofs.YthahhglbeafkmaaGreatDoor
namespace Go.Proofs.YthahhglbeafkmaaGreatDoor
open Go.RowKit
set_option maxRecDepth 100000
set_option linter.unusedSimpArgs false
set_option linter.unusedVariables false
theorem exec_b0b {a:Act} {o:Oper} (w:World) (ho:o.op=.buildSlice 43 0 #[]) :
  (execOp a.eval o).run Tryz.prog w=.ok (.value (.slice (some ⟨w.heap.size,0,none⟩) 0 0)) (w.alloc (.cells #[] 5 (0,0))):=by
 unfold execOp
 simp only [ho,List.map_toArray,List.map_nil]
 kernel_rfl
theorem ob_mt {b g:Nat} {w:World} (h:w.heap[g]?=some (.cells #[] 5 (0,0))) (hb:b≤g):Ob b w (.slice (some ⟨g,0,none⟩) 0 0) []:=ob_of (X:=[]) h rfl hb (by decide)
theorem z130_at (j:Nat):Z130.getD j 0=0:=by
 rw [List.getD_eq_getElem?_getD]
 by_cases h:j<130
 ·rw [List.getElem?_eq_getElem (by exact h)]
  exact List.eq_of_mem_replicate (List.getElem_mem _)
 ·rw [List.getElem?_eq_none (by exact Nat.le_of_not_lt h)]
  rfl
theorem list_c8 {ops:Array Oper} {Q:Exit→Act→World→Prop} {a:Act} {w w0:World} {o:Oper} {rest:List Oper} {L:List Blk} {t:TypeId} {c:Array Value} (x y:Operand) (g off:Nat) (z:Int) (hw:Region.wanted o (yielded ops a.tmps)=true) (ho:o.op=.store 5 x y)
  (hx:a.eval x=.pointer (some ⟨g,off,none⟩)) (hy:a.eval y=.int .u8 z) (hB:Bl w0 L w) (b:Nat) (hb:L[b]?=some ⟨g,c,t⟩) (q:Value) (hq:c[off]?=some q)
  (h:∀ v,Bl w0 (L.set b ⟨g,c.setIfInBounds off (.int .u8 z),t⟩) v→wpList Tryz.prog ops Q rest (a.put o.dst undef) v):wpList Tryz.prog ops Q (o::rest) a w :=
 wpList_step fun K hK=>by
  have h2:=hK _ _ (h _ (hB.cell b hb off (.int .u8 z)))
  have c4:=cell_of (hB.get b hb) hq
  have fz:=froz_of (i:=off) (hB.get b hb)
  dsimp only at c4 fz
  rw [if_pos hw]
  unfold Oper.wp execOp
  simp only [ho,hx,hy]
  go_simp
  exact h2
theorem sames_ok (L:List Int) (a b:Option Addr) (n c d:Nat) (w:World) (ha:Lb w a n c L) (hb:Lb w b n d L) (hn:n<4611686018427387904):Calls Tryz.prog 17 #[.slice a n c,.slice b n d] w (Vl (.bool true) w):=same_ok L a b n c d w ha hb hn
theorem take_two {L:List Int} (h:L.length=146):L.take 16++(L.drop 16).take 130=L:=by
 rw [List.take_of_length_le (l:=L.drop 16) (by rw [List.length_drop]; omega),List.take_append_drop]
theorem gtr_ix {a:Act} {o:Oper} (w:World) (x y:Operand) (m n:Int) (b:Bool) (ho:o.op=.binOp .gtr 3 x y 3) (hx:a.eval x=.int .i64 m) (hy:a.eval y=.int .i64 n) (hb:decide (n<m)=b):(execOp a.eval o).run Tryz.prog w=.ok (.value (.bool b)) w:=by
 subst hb
 unfold execOp
 simp only [ho,hx,hy]
 go_simp
set_option maxHeartbeats 4000000 in
theorem covers_long (s:Option Addr) (n c:Nat) (l D C:List Int) (hDl:D.length=16) (hDb:IsB D) (hCl:C.length=130) (hCb:IsB C) (w:World) (hF:Fst w) (lp:Lb w s n c l) (hn:4096<n):Calls Tryz.prog 5 #[.slice s n c,.agg (fl [bw D,bw C])] w (Vl (.bool true) w):=by
 obtain ⟨T,hT⟩:∃ T:Ending→World→Prop,T=(Vl (.bool true) w):=⟨_,rfl⟩
 rw [← hT]
 replace hT:=hide hT
 obtain ⟨A1_,hA1_⟩:∃ S_,S_=fl [bw D,bw C]:=⟨_,rfl⟩
 rw [← hA1_]
 replace hA1_:=hide hA1_
 replace hF:=hide hF
 replace lp:=hide lp
 replace hDb:=hide hDb
 replace hCb:=hide hCb
 go_enter Tryz.func5,Tryz.ntmps5
 go_upto_region 1 with fail
 have hB:=((Bl.nil w).new A1_ 36)
 simp only [size_alloc,List.nil_append,List.cons_append] at hB
 rw [unhide hA1_] at hB
 generalize hu_:World.alloc _ _=u0
 replace hB:Bl w [⟨w.heap.size,fl [bw D,bw C],36⟩] u0:=by
  rw [← hu_]
  rw [unhide hA1_]
  exact hB
 clear hu_ hA1_
 refine wp_region_lit ?_
 refine list_call 6 #[] (by kernel_rfl) (by kernel_rfl) ((wakes_ok u0 ((unhide hF).gr hB.gr)).mono ?_)
 rintro r_ u1 ⟨rfl,hg⟩
 replace hB:=hB.more hg
 clear hg
 refine ⟨_,rfl,?_⟩
 simp only [nrm]
 refine lvk (.bool false) ?_
 simp only [nrm]
 refine wpList_nil ?_
 replace hB:=hide hB
 go_upto_region 3 with fail
 replace hB:=unhide hB
 refine wp_region_lit ?_
 refine lvk (.slice s n c) ?_
 simp only [nrm]
 refine lvk (.int .i64 n) ?_
 simp only [nrm]
 refine list_val (.bool true) (by kernel_rfl) (gtr_ix _ (.tmp 17) (.const (.int .i64 4096)) n 4096 true rfl (by kernel_rfl) (by kernel_rfl) (decide_eq_true (by omega))) ?_
 simp only [nrm]
 refine wpList_nil ?_
 replace hB:=hide hB
 go_upto_region 4 with fail
 replace hB:=unhide hB
 refine wp_region_lit ?_
 (refine wpList_step fun K hK=>?_; replace hK:=hide hK; go_simp; refine unhide hK _ _ ?_; clear hK K)
 refine wpList_nil ?_
 replace hB:=hide hB
 go_wp2_with fail
 replace hB:=unhide hB
 rw [unhide hT]
 exact (⟨rfl,hB.gr⟩)
set_option maxHeartbeats 4000000 in
theorem covers_good (s:Option Addr) (n c:Nat) (l D C:List Int) (hDl:D.length=16) (hDb:IsB D) (hCl:C.length=130) (hCb:IsB C) (w:World) (hF:Fst w) (lp:Lb w s n c l) (hn:n≤4096) (Y L E G:List Int) (hY:Y=sumL l) (hL:L=nxl Y 0 146) (hE:E=L.take 16) (hG:G=(L.drop 16).take 130):Calls Tryz.prog 5 #[.slice s n c,.agg (fl [bw D,bw C])] w (Vl (.bool true) w):=by
 obtain ⟨T,hT⟩:∃ T:Ending→World→Prop,T=(Vl (.bool true) w):=⟨_,rfl⟩
 rw [← hT]
 replace hT:=hide hT
 have hll:=lp.len
 have hlb:=hide lp.isB
 have hYl:Y.length=32:=by rw [hY]; exact sumL_len _
 have hYb:IsB Y:=by rw [hY]; exact sumL_isB _
 have hLl:L.length=146:=by rw [hL]; exact nxl_len _ _ _
 have hLb:IsB L:=by rw [hL]; exact nxl_isB _ _ _
 have hEl:E.length=16:=by rw [hE,List.length_take,hLl]; rfl
 have hGl:G.length=130:=by rw [hG]; exact sub_len hLl (by decide)
 have hEb:IsB E:=by rw [hE]; exact fun x hx=>hLb x (List.mem_of_mem_take hx)
 have hGb:IsB G:=by rw [hG]; exact sub_isB hLb 16 130
 have hEG:E++G=L:=by rw [hE,hG]; exact take_two hLl
 replace hY:=hide hY; replace hL:=hide hL; replace hE:=hide hE; replace hG:=hide hG; replace hYb:=hide hYb; replace hLb:=hide hLb; replace hEb:=hide hEb; replace hGb:=hide hGb; replace hEG:=hide hEG
 obtain ⟨A1_,hA1_⟩:∃ S_,S_=fl [bw D,bw C]:=⟨_,rfl⟩
 rw [← hA1_]
 replace hA1_:=hide hA1_
 replace hF:=hide hF
 replace lp:=hide lp
 replace hDb:=hide hDb
 replace hCb:=hide hCb
 go_enter Tryz.func5,Tryz.ntmps5
 go_upto_region 1 with fail
 have hB:=((Bl.nil w).new A1_ 36)
 simp only [size_alloc,List.nil_append,List.cons_append] at hB
 rw [unhide hA1_] at hB
 generalize hu_:World.alloc _ _=u0
 replace hB:Bl w [⟨w.heap.size,fl [bw D,bw C],36⟩] u0:=by
  rw [← hu_]
  rw [unhide hA1_]
  exact hB
 clear hu_ hA1_
 refine wp_region_lit ?_
 refine list_call 6 #[] (by kernel_rfl) (by kernel_rfl) ((wakes_ok u0 ((unhide hF).gr hB.gr)).mono ?_)
 rintro r_ u1 ⟨rfl,hg⟩
 replace hB:=hB.more hg
 clear hg
 refine ⟨_,rfl,?_⟩
 simp only [nrm]
 refine lvk (.bool false) ?_
 simp only [nrm]
 refine wpList_nil ?_
 replace hB:=hide hB
 go_upto_region 3 with fail
 replace hB:=unhide hB
 refine wp_region_lit ?_
 refine lvk (.slice s n c) ?_
 simp only [nrm]
 refine lvk (.int .i64 n) ?_
 simp only [nrm]
 refine list_val (.bool false) (by kernel_rfl) (gtr_ix _ (.tmp 17) (.const (.int .i64 4096)) n 4096 false rfl (by kernel_rfl) (by kernel_rfl) (decide_eq_false (by omega))) ?_
 simp only [nrm]
 refine wpList_nil ?_
 replace hB:=hide hB
 go_upto_region 5 with fail
 replace hB:=unhide hB
 refine wp_region_lit ?_
 refine list_call 12 #[.pointer none] (by kernel_rfl) (by kernel_rfl) ((vcover_nil u1).mono ?_)
 rintro r_ u2 ⟨rfl,hg⟩
 replace hB:=hB.more hg
 clear hg
 refine ⟨_,rfl,?_⟩
 simp only [nrm]
 refine lvk (.tuple #[.agg (fl [bw Z16,bw Z130]),.int .i64 1]) ?_
 simp only [nrm]
 refine lvk (.agg (fl [bw Z16,bw Z130])) ?_
 simp only [nrm]
 refine lvk (.int .i64 1) ?_
 simp only [nrm]
 refine list_valw (.pointer (some ⟨u2.heap.size,0,none⟩)) (u2.alloc (.cells (fl [bw Z16,bw Z130]) 36 (0,0))) (by kernel_rfl) (by kernel_rfl) ?_
 replace hB:=hB.new (fl [bw Z16,bw Z130]) 36
 simp only [List.nil_append,List.cons_append] at hB
 generalize World.alloc _ _=u3 at *
 generalize u2.heap.size=g5 at *
 replace hB:Bl w [⟨w.heap.size,fl [bw D,bw C],36⟩,⟨g5,fl [bw Z16,bw Z130],36⟩] u3:=hB
 simp only [nrm]
 refine list_all 36 (.tmp 5) (.tmp 21) (g5) (S2:=[bw Z16,bw Z130]) (by kernel_rfl) rfl (by kernel_rfl) (by kernel_rfl) hB 1 rfl NX (nX (show List.length Z16=16 from rfl) (show List.length Z130=130 from rfl)) (nX (show List.length Z16=16 from rfl) (show List.length Z130=130 from rfl)) (by kernel_rfl) (oX _ _) ?_
 intro u4 hB_ hbt_
 clear hB
 replace hB:Bl w [⟨w.heap.size,fl [bw D,bw C],36⟩,⟨g5,fl [bw Z16,bw Z130],36⟩] u4:=hB_
 clear hB_
 clear hbt_
 simp only [nrm]
 (refine wpList_step fun K hK=>?_; replace hK:=hide hK; go_simp; refine unhide hK _ _ ?_; clear hK K)
 refine wpList_nil ?_
 replace hB:=hide hB
 go_upto_region 6 with fail
 replace hB:=unhide hB
 refine wp_region_lit ?_
 refine list_valw (.slice (some ⟨u4.heap.size,0,none⟩) 0 0) (u4.alloc (.cells #[] 5 (0,0))) (by kernel_rfl) (exec_b0b _ rfl) ?_
 have hg:=(Gr.refl u4).alloc (.cells #[] 5 (0,0))
 have hmt:=blk_new u4 (.cells #[] 5 (0,0))
 have hgq:w.heap.size≤u4.heap.size:=hB.gr.size
 replace hB:=hB.more hg
 clear hg
 generalize World.alloc _ _=u5 at *
 generalize u4.heap.size=gq at *
 have hmo:=hide (ob_mt hmt hgq)
 clear hmt hgq
 simp only [nrm]
 refine lvk (.slice s n c) ?_
 simp only [nrm]
 refine app_bs (by kernel_rfl) (.tmp 24) (.tmp 25) rfl w.heap.size (.slice (some ⟨gq,0,none⟩) 0 0) [] (by kernel_rfl) (unhide hmo) s n c l (by kernel_rfl) hll ((unhide lp).gr hB.gr).sl (by rw [List.length_nil]; omega) hB.gr.size ?_
 intro v1 u6 ho hgr
 replace hB:=hB.grown (unhide hmo) (Nat.le_refl _) hgr (by intro y_ hy_; simp only [List.mem_cons,List.not_mem_nil,or_false] at hy_; rcases hy_ with rfl | rfl <;> (dsimp only; decide))
 simp only [List.nil_append] at ho
 obtain ⟨a1,c1,rfl,l1⟩:=ho.lb' (unhide hlb) n hll
 clear ho hgr hmo
 replace l1:=hide l1
 simp only [nrm]
 have hB0:=hB
 refine list_call 13 #[.slice a1 n c1] (by kernel_rfl) (by kernel_rfl) (((show Calls Tryz.prog 13 #[.slice a1 n c1] u6 (Ned l u6) from dnew_ok l a1 n c1 (by omega) u6 ((unhide hF).gr hB.gr) (unhide l1))).mono ?_)
 rintro r_ u7 ⟨gd,rfl,hge_,hnew_,hg⟩
 replace hB:=Bl.joinz hB0 (hB.more hg) hge_ hnew_
 simp only [List.cons_append,List.nil_append] at hB
 clear hB0 hge_ hnew_ hg
 rw [← unhide hY] at hB
 clear l1
 refine ⟨_,rfl,?_⟩
 replace hB:Bl w [⟨w.heap.size,fl [bw D,bw C],36⟩,⟨g5,fl [bw Z16,bw Z130],36⟩,⟨gd,ecl Y 0,86⟩] u7:=hB
 simp only [nrm]
 refine list_call 12 #[.pointer (some ⟨gd,0,none⟩)] (by kernel_rfl) (by kernel_rfl) ((vcover_ok gd Y hYl (unhide hYb) u7 (hB.get 2 (x:=⟨gd,ecl Y 0,86⟩) rfl)).mono ?_)
 rintro r_ u8 ⟨rfl,h1,h2⟩
 replace hB:=hB.but h2 2 (x:=⟨gd,ecl Y 0,86⟩) rfl rfl (c:=ecl Y 146) h1
 simp only [List.set_cons_zero,List.set_cons_succ] at hB
 clear h1 h2
 rw [← unhide hL,← unhide hE,← unhide hG]
 refine ⟨_,rfl,?_⟩
 simp only [nrm]
 refine lvk (.tuple #[.agg (fl [bw E,bw G]),.int .i64 0]) ?_
 simp only [nrm]
 refine lvk (.agg (fl [bw E,bw G])) ?_
 simp only [nrm]
 refine lvk (.int .i64 0) ?_
 simp only [nrm]
 refine list_valw (.pointer (some ⟨u8.heap.size,0,none⟩)) (u8.alloc (.cells (fl [bw Z16,bw Z130]) 36 (0,0))) (by kernel_rfl) (by kernel_rfl) ?_
 replace hB:=hB.new (fl [bw Z16,bw Z130]) 36
 simp only [List.nil_append,List.cons_append] at hB
 generalize World.alloc _ _=u9 at *
 generalize u8.heap.size=g7 at *
 replace hB:Bl w [⟨w.heap.size,fl [bw D,bw C],36⟩,⟨g5,fl [bw Z16,bw Z130],36⟩,⟨gd,ecl Y 146,86⟩,⟨g7,fl [bw Z16,bw Z130],36⟩] u9:=hB
 simp only [nrm]
 refine list_all 36 (.tmp 7) (.tmp 29) (g7) (S2:=[bw E,bw G]) (by kernel_rfl) rfl (by kernel_rfl) (by kernel_rfl) hB 3 rfl NX (nX (show List.length Z16=16 from rfl) (show List.length Z130=130 from rfl)) (nX hEl hGl) (by kernel_rfl) (oX _ _) ?_
 intro u10 hB_ hbt_
 clear hB
 replace hB:Bl w [⟨w.heap.size,fl [bw D,bw C],36⟩,⟨g5,fl [bw Z16,bw Z130],36⟩,⟨gd,ecl Y 146,86⟩,⟨g7,fl [bw E,bw G],36⟩] u10:=hB_
 clear hB_
 clear hbt_
 simp only [nrm]
 (refine wpList_step fun K hK=>?_; replace hK:=hide hK; go_simp; refine unhide hK _ _ ?_; clear hK K)
 refine wpList_nil ?_
 replace hB:=hide hB
 go_upto_region 7 with fail
 replace hB:=unhide hB
 refine wp_region_lit ?_
 refine lvk (.slice s n c) ?_
 simp only [nrm]
 refine list_call 14 #[.slice s n c] (by kernel_rfl) (by kernel_rfl) (((show Calls Tryz.prog 14 #[.slice s n c] u10 (Vl (.agg (dcl Y 0)) u10) from by rw [unhide hY]; exact rnew_ok l s n c (by omega) u10 ((unhide lp).gr hB.gr))).mono ?_)
 rintro r_ u11 ⟨rfl,hg⟩
 replace hB:=hB.more hg
 clear hg
 refine ⟨_,rfl,?_⟩
 simp only [nrm]
 have hB0:=hB
 refine list_call 15 #[.agg (dcl Y 0),.int .i64 146] (by kernel_rfl) (by kernel_rfl) ((rbytes_ok Y hYl (unhide hYb) 0 146 (by decide) (by decide) u11).mono ?_)
 rintro r_ u12 ⟨gw,rfl,hge_,hnew_,hg⟩
 replace hB:=Bl.joinz hB0 (hB.more hg) hge_ hnew_
 simp only [List.cons_append,List.nil_append] at hB
 clear hB0 hge_ hnew_ hg
 rw [← unhide hL] at hB
 refine ⟨_,rfl,?_⟩
 replace hB:Bl w [⟨w.heap.size,fl [bw D,bw C],36⟩,⟨g5,fl [bw Z16,bw Z130],36⟩,⟨gd,ecl Y 146,86⟩,⟨g7,fl [bw E,bw G],36⟩,⟨gw,kc L,5⟩] u12:=hB
 simp only [nrm]
 refine lvk (.tuple #[.agg (dcl Y 146),.slice (some ⟨gw,0,none⟩) 146 146]) ?_
 simp only [nrm]
 refine lvk (.agg (dcl Y 146)) ?_
 simp only [nrm]
 refine lvk (.slice (some ⟨gw,0,none⟩) 146 146) ?_
 simp only [nrm]
 refine list_valw (.pointer (some ⟨u12.heap.size,0,none⟩)) (u12.alloc (.cells (dcl Z32 0) 51 (0,0))) (by kernel_rfl) (by kernel_rfl) ?_
 replace hB:=hB.new (dcl Z32 0) 51
 simp only [List.nil_append,List.cons_append] at hB
 generalize World.alloc _ _=u13 at *
 generalize u12.heap.size=g9 at *
 replace hB:Bl w [⟨w.heap.size,fl [bw D,bw C],36⟩,⟨g5,fl [bw Z16,bw Z130],36⟩,⟨gd,ecl Y 146,86⟩,⟨g7,fl [bw E,bw G],36⟩,⟨gw,kc L,5⟩,⟨g9,dcl Z32 0,51⟩] u13:=hB
 simp only [nrm]
 refine list_store 51 (.tmp 9) (.tmp 35) g9 (dcl Y 146) 51 (dcl Z32 0) (by kernel_rfl) rfl (by kernel_rfl) (by kernel_rfl) (hB.get 5 (x:=⟨g9,dcl Z32 0,51⟩) rfl) (by rw [Tryz.infoD,dcl_size hYl]) (by rw [dcl_size hYl,dcl_size (show List.length Z32=32 from rfl)]) (dcl_one _ _) ?_
 replace hB:=hB.set 5 (x:=⟨g9,dcl Z32 0,51⟩) rfl (dcl Y 146)
 simp only [List.set_cons_zero,List.set_cons_succ] at hB
 generalize World.setRow _ _ _=u14 at *
 replace hB:Bl w [⟨w.heap.size,fl [bw D,bw C],36⟩,⟨g5,fl [bw Z16,bw Z130],36⟩,⟨gd,ecl Y 146,86⟩,⟨g7,fl [bw E,bw G],36⟩,⟨gw,kc L,5⟩,⟨g9,dcl Y 146,51⟩] u14:=hB
 simp only [nrm]
 (refine wpList_step fun K hK=>?_; replace hK:=hide hK; go_simp; refine unhide hK _ _ ?_; clear hK K)
 refine wpList_nil ?_
 replace hB:=hide hB
 go_upto_region 8 with fail
 replace hB:=unhide hB
 refine wp_region_lit ?_
 have hB0:=hB
 refine list_call 16 #[] (by kernel_rfl) (by kernel_rfl) ((vempty_ok u14).mono ?_)
 rintro r_ u15 ⟨ge,rfl,hge_,hnew_,hg⟩
 replace hB:=Bl.joinz hB0 (hB.more hg) hge_ hnew_
 simp only [List.cons_append,List.nil_append] at hB
 clear hB0 hge_ hnew_ hg
 refine ⟨_,rfl,?_⟩
 replace hB:Bl w [⟨w.heap.size,fl [bw D,bw C],36⟩,⟨g5,fl [bw Z16,bw Z130],36⟩,⟨gd,ecl Y 146,86⟩,⟨g7,fl [bw E,bw G],36⟩,⟨gw,kc L,5⟩,⟨g9,dcl Y 146,51⟩,⟨ge,kc Z130,5⟩] u15:=hB
 simp only [nrm]
 (refine wpList_step fun K hK=>?_; replace hK:=hide hK; go_simp; refine unhide hK _ _ ?_; clear hK K)
 refine wpList_nil ?_
 replace hB:=hide hB
 go_upto_region 9 with fail
 replace hB:=unhide hB
 refine wp_region_lit ?_
 refine lvk (.slice (some ⟨ge,0,none⟩) 130 130) ?_
 simp only [nrm]
 refine lvk (.int .i64 130) ?_
 simp only [nrm]
 refine lvk (.int .i64 0) ?_
 simp only [nrm]
 refine wpList_nil ?_
 replace hB:=hide hB
 go_wp2_with fail
 go_loopw [13,40] (fun b i wr=>∃ (j:Nat) (b':Value),j≤130∧b=b'∧i=.int .i64 (j:Int)∧Hid (Bl w [⟨w.heap.size,fl [bw D,bw C],36⟩,⟨g5,fl [bw Z16,bw Z130],36⟩,⟨gd,ecl Y 146,86⟩,⟨g7,fl [bw E,bw G],36⟩,⟨gw,kc L,5⟩,⟨g9,dcl Y 146,51⟩,⟨ge,kc Z130,5⟩] wr)) (fun _ i _=>130 - (intOf i).toNat)
 case atStart=>exact ⟨0,_,by omega,rfl,rfl,hB⟩
 case round =>
 clear hB
 obtain ⟨j,b',hj,rfl,rfl,hB⟩:=hrel
 have hB:=unhide hB
 by_cases hlt:j<130
 ·have jI:(j:Int)<130:=by omega
  have jw:IntKind.i64.wrap ((j:Int)+1)=(j:Int)+1:=by rw [IntKind.wrap_i64]; omega
  replace hB:=hide hB
  go_upto_region 11 with fail
  replace hB:=unhide hB
  refine wp_region_lit ?_
  refine list_val (.pointer (some ⟨ge,0+j,none⟩)) (by kernel_rfl) (exec_at _ (.tmp 38) (.tmp 40) rfl ge 0 130 130 j (by kernel_rfl) (by kernel_rfl) hlt) ?_
  simp only [nrm]
  refine list_val (.int .u8 0) (by kernel_rfl) (exec_u8 _ (.tmp 42) rfl ge (0+j) (by kernel_rfl) 0 (by have h:=kc_at (hB.get 6 (x:=⟨ge,kc Z130,5⟩) rfl) j (by exact hlt); rw [z130_at] at h; exact h)) ?_
  simp only [nrm]
  (refine wpList_step fun K hK=>?_; replace hK:=hide hK; go_simp; refine unhide hK _ _ ?_; clear hK K)
  refine wpList_nil ?_
  replace hB:=hide hB
  go_upto_region 12 with fail
  replace hB:=unhide hB
  refine wp_region_lit ?_
  refine lvk (.int .u8 0) ?_
  simp only [nrm]
  refine lvk (.bool false) ?_
  simp only [nrm]
  refine wpList_nil ?_
  replace hB:=hide hB
  go_wp2_with fail
  go_roundw
  case rel=>exact ⟨j+1,_,by omega,rfl,by simp,hB⟩
  case measure=>simp [intOf]; omega
 ·have jI:¬ (j:Int)<130:=by omega
  obtain rfl:j=130:=by omega
  clear hlt
  replace hB:=hide hB
  go_upto_region 15 with fail
  replace hB:=unhide hB
  refine wp_region_lit ?_
  refine lvk (.slice (some ⟨ge,0,none⟩) 130 130) ?_
  simp only [nrm]
  refine lvk (.pointer (some ⟨ge,0,none⟩)) ?_
  simp only [nrm]
  refine list_c8 (.tmp 48) (.const (.int .u8 1)) ge 0 1 (by kernel_rfl) rfl (by kernel_rfl) (by kernel_rfl) hB 6 rfl (.int .u8 0) (by kernel_rfl) ?_
  intro u16 hB_
  replace hB:=hB_
  clear hB_
  simp only [List.set_cons_zero,List.set_cons_succ] at hB
  simp only [nrm]
  refine wpList_nil ?_
  replace hB:=hide hB
  go_upto_region 16 with fail
  replace hB:=unhide hB
  refine any_start (S:=fun v_=>v_.heap[w.heap.size]?=some (.cells (fl [bw D,bw C]) 36 (0,0))∧v_.heap[g5]?=some (.cells (fl [bw Z16,bw Z130]) 36 (0,0))∧v_.heap[g7]?=some (.cells (fl [bw E,bw G]) 36 (0,0))) (by kernel_rfl) ?_
  replace hB:=hB.drew
  generalize World.drew _=u17 at *
  simp only [List.size_toArray,List.length_cons,List.length_nil,Array.replicate,List.replicate]
  have hS_:=hide (show (fun v_=>v_.heap[w.heap.size]?=some (.cells (fl [bw D,bw C]) 36 (0,0))∧v_.heap[g5]?=some (.cells (fl [bw Z16,bw Z130]) 36 (0,0))∧v_.heap[g7]?=some (.cells (fl [bw E,bw G]) 36 (0,0))) u17 from ⟨(hB.get 0 (x:=⟨w.heap.size,fl [bw D,bw C],36⟩) rfl),(hB.get 1 (x:=⟨g5,fl [bw Z16,bw Z130],36⟩) rfl),(hB.get 3 (x:=⟨g7,fl [bw E,bw G],36⟩) rfl)⟩)
  refine any_tk 0 (.agg (fl [bw Z16,bw Z130])) (tf 34 0) rfl (fun x_ hu=>exec_sw _ 36 (.tmp 5) rfl (g5) (by kernel_rfl) hu.2.1 NX (nX (show List.length Z16=16 from rfl) (show List.length Z130=130 from rfl)) Tryz.underlying36 rfl (by kernel_rfl)) (unhide hS_) ?_
  simp only [nrm]
  refine any_tk 1 (.agg (fl [bw Z16,bw Z130])) (tf 34 1) rfl (fun x_ hu=>bX _ rfl) (unhide hS_) ?_
  simp only [nrm]
  refine any_tk 2 (.bool true) (tf 34 2) rfl (fun x_ hu=>exec_eql_x _ (.tmp 49) (.tmp 50) rfl (fl [bw Z16,bw Z130]) (by kernel_rfl) (by kernel_rfl) (eq_xf (show List.length Z16=16 from rfl) (show List.length Z130=130 from rfl) _)) (unhide hS_) ?_
  simp only [nrm]
  refine any_tk 3 (.bool true) (tf 34 3) rfl (fun x_ hu=>by kernel_rfl) (unhide hS_) ?_
  simp only [nrm]
  refine any_tk 4 (.int .i64 1) (tf 34 4) rfl (fun x_ hu=>by kernel_rfl) (unhide hS_) ?_
  simp only [nrm]
  refine any_tk 5 (.bool true) (tf 34 5) rfl (fun x_ hu=>eql_e _ (.tmp 53) (.const (.int .i64 1)) 1 1 true rfl (by kernel_rfl) (by kernel_rfl) (by decide)) (unhide hS_) ?_
  simp only [nrm]
  refine any_tk 6 (.bool true) (tf 34 6) rfl (fun x_ hu=>by kernel_rfl) (unhide hS_) ?_
  simp only [nrm]
  refine any_tk 7 (.bool true) (tf 34 7) rfl (fun x_ hu=>by kernel_rfl) (unhide hS_) ?_
  simp only [nrm]
  refine any_tk 8 (.int .i64 0) (tf 34 8) rfl (fun x_ hu=>by kernel_rfl) (unhide hS_) ?_
  simp only [nrm]
  refine any_tk 9 (.bool true) (tf 34 9) rfl (fun x_ hu=>eql_e _ (.tmp 57) (.const (.int .i64 0)) 0 0 true rfl (by kernel_rfl) (by kernel_rfl) (by decide)) (unhide hS_) ?_
  simp only [nrm]
  refine any_tk 10 (.bool true) (tf 34 10) rfl (fun x_ hu=>by kernel_rfl) (unhide hS_) ?_
  simp only [nrm]
  refine any_tk 11 (.bool true) (tf 34 11) rfl (fun x_ hu=>by kernel_rfl) (unhide hS_) ?_
  simp only [nrm]
  refine any_tk 12 (.agg (fl [bw E,bw G])) (tf 34 12) rfl (fun x_ hu=>exec_sw _ 36 (.tmp 7) rfl (g7) (by kernel_rfl) hu.2.2 NX (nX hEl hGl) Tryz.underlying36 rfl (by kernel_rfl)) (unhide hS_) ?_
  simp only [nrm]
  refine any_tk 14 (.slice (some ⟨gw,0,none⟩) 146 146) (tf 34 13) rfl (fun x_ hu=>by kernel_rfl) (unhide hS_) ?_
  simp only [nrm]
  refine any_one (i:=13) (by kernel_rfl) rfl (fun K hK=>?_)
  refine step_callw (by kernel_rfl) 18 #[.agg (fl [bw E,bw G])] (by kernel_rfl) (((show Calls Tryz.prog 18 #[.agg (fl [bw E,bw G])] u17 (Obd L u17) from by rw [← unhide hEG]; exact vpayload_ok E G hEl (unhide hEb) hGl (unhide hGb) u17)).mono ?_)
  rintro r_ u18 ⟨v1,rfl,ho,hg⟩
  replace hB:=hB.more hg
  clear hg
  obtain ⟨a2,c2,rfl,l2⟩:=ho.lb' (unhide hLb) 146 (hLl)
  clear ho
  replace l2:=hide l2
  refine ⟨_,rfl,?_⟩
  clear hS_
  have hS_:=hide (show (fun v_=>v_.heap[w.heap.size]?=some (.cells (fl [bw D,bw C]) 36 (0,0))∧v_.heap[g5]?=some (.cells (fl [bw Z16,bw Z130]) 36 (0,0))∧v_.heap[g7]?=some (.cells (fl [bw E,bw G]) 36 (0,0))) u18 from ⟨(hB.get 0 (x:=⟨w.heap.size,fl [bw D,bw C],36⟩) rfl),(hB.get 1 (x:=⟨g5,fl [bw Z16,bw Z130],36⟩) rfl),(hB.get 3 (x:=⟨g7,fl [bw E,bw G],36⟩) rfl)⟩)
  refine hK.out _ _ (unhide hS_) (fun _=>?_)
  clear hK K
  simp only [nrm]
  refine any_one (i:=15) (by kernel_rfl) rfl (fun K hK=>?_)
  refine step_callw (by kernel_rfl) 17 #[.slice a2 146 c2,.slice (some ⟨gw,0,none⟩) 146 146] (by kernel_rfl) ((sames_ok L a2 (some ⟨gw,0,none⟩) 146 c2 146 u18 (unhide l2) (nw_lb (hB.get 4 (x:=⟨gw,kc L,5⟩) rfl) (unhide hLb) hLl (by decide)) (by decide)).mono ?_)
  rintro r_ u19 ⟨rfl,hg⟩
  replace hB:=hB.more hg
  clear hg
  refine ⟨_,rfl,?_⟩
  clear hS_
  have hS_:=hide (show (fun v_=>v_.heap[w.heap.size]?=some (.cells (fl [bw D,bw C]) 36 (0,0))∧v_.heap[g5]?=some (.cells (fl [bw Z16,bw Z130]) 36 (0,0))∧v_.heap[g7]?=some (.cells (fl [bw E,bw G]) 36 (0,0))) u19 from ⟨(hB.get 0 (x:=⟨w.heap.size,fl [bw D,bw C],36⟩) rfl),(hB.get 1 (x:=⟨g5,fl [bw Z16,bw Z130],36⟩) rfl),(hB.get 3 (x:=⟨g7,fl [bw E,bw G],36⟩) rfl)⟩)
  refine hK.out _ _ (unhide hS_) (fun _=>?_)
  clear hK K
  simp only [nrm]
  refine any_tk 16 (.bool true) (tf 34 16) rfl (fun x_ hu=>by kernel_rfl) (unhide hS_) ?_
  simp only [nrm]
  refine any_tk 17 (.bool true) (tf 34 17) rfl (fun x_ hu=>by kernel_rfl) (unhide hS_) ?_
  simp only [nrm]
  refine any_tk 18 (.agg (fl [bw D,bw C])) (tf 34 18) rfl (fun x_ hu=>exec_sw _ 36 (.tmp 3) rfl (w.heap.size) (by kernel_rfl) hu.1 NX (nX hDl hCl) Tryz.underlying36 rfl (by kernel_rfl)) (unhide hS_) ?_
  simp only [nrm]
  refine any_tk 20 (.pointer (some ⟨w.heap.size,0,none⟩)) (tf 34 19) rfl (fun x_ hu=>by kernel_rfl) (unhide hS_) ?_
  simp only [nrm]
  refine any_tk 21 (.slice (some ⟨w.heap.size,0,none⟩) 16 16) #[true,true,true,true,true,true,true,true,true,true,true,true,true,true,true,true,true,true,true,false,true,false,false,false,false,false,false,false,false,false,false,false,false,false] rfl (fun x_ hu=>by kernel_rfl) (unhide hS_) ?_
  simp only [nrm]
  refine any_tk 22 (.pointer (some ⟨w.heap.size,16,none⟩)) #[true,true,true,true,true,true,true,true,true,true,true,true,true,true,true,true,true,true,true,false,true,true,false,false,false,false,false,false,false,false,false,false,false,false] rfl (fun x_ hu=>by kernel_rfl) (unhide hS_) ?_
  simp only [nrm]
  refine any_tk 23 (.slice (some ⟨w.heap.size,16,none⟩) 130 130) #[true,true,true,true,true,true,true,true,true,true,true,true,true,true,true,true,true,true,true,false,true,true,true,false,false,false,false,false,false,false,false,false,false,false] rfl (fun x_ hu=>by kernel_rfl) (unhide hS_) ?_
  simp only [nrm]
  refine any_one (i:=19) (by kernel_rfl) rfl (fun K hK=>?_)
  refine step_callw (by kernel_rfl) 18 #[.agg (fl [bw D,bw C])] (by kernel_rfl) ((vpayload_ok D C hDl (unhide hDb) hCl (unhide hCb) u19).mono ?_)
  rintro r_ u20 ⟨v1,rfl,ho,hg⟩
  replace hB:=hB.more hg
  clear hg
  obtain ⟨a3,c3,rfl,l3⟩:=ho.lb' (isB_append (unhide hDb) (unhide hCb)) 146 (by rw [List.length_append,hDl,hCl])
  clear ho
  replace l3:=hide l3
  refine ⟨_,rfl,?_⟩
  clear hS_
  have hS_:=hide (show (fun v_=>v_.heap[w.heap.size]?=some (.cells (fl [bw D,bw C]) 36 (0,0))∧v_.heap[g5]?=some (.cells (fl [bw Z16,bw Z130]) 36 (0,0))∧v_.heap[g7]?=some (.cells (fl [bw E,bw G]) 36 (0,0))) u20 from ⟨(hB.get 0 (x:=⟨w.heap.size,fl [bw D,bw C],36⟩) rfl),(hB.get 1 (x:=⟨g5,fl [bw Z16,bw Z130],36⟩) rfl),(hB.get 3 (x:=⟨g7,fl [bw E,bw G],36⟩) rfl)⟩)
  refine hK.out _ _ (unhide hS_) (fun _=>?_)
  clear hK K
  simp only [nrm]
  refine any_one (i:=24) (by kernel_rfl) rfl (fun K hK=>?_)
  refine step_callw (by kernel_rfl) 19 #[.slice (some ⟨w.heap.size,0,none⟩) 16 16,.slice (some ⟨w.heap.size,16,none⟩) 130 130] (by kernel_rfl) (((show Calls Tryz.prog 19 #[.slice (some ⟨w.heap.size,0,none⟩) 16 16,.slice (some ⟨w.heap.size,16,none⟩) 130 130] u20 (Obd (D++C) u20) from both_ok D C (some ⟨w.heap.size,0,none⟩) (some ⟨w.heap.size,16,none⟩) 16 16 130 130 (by decide) u20 (seg_lb (nX hDl hCl) (hB.get 0 (x:=⟨w.heap.size,fl [bw D,bw C],36⟩) rfl) 0 rfl rfl (unhide hDb) hDl (by decide)) (seg_lb (nX hDl hCl) (hB.get 0 (x:=⟨w.heap.size,fl [bw D,bw C],36⟩) rfl) 1 rfl rfl (unhide hCb) hCl (by decide)))).mono ?_)
  rintro r_ u21 ⟨v1,rfl,ho,hg⟩
  replace l3:=hide ((unhide l3).gr hg)
  replace hB:=hB.more hg
  clear hg
  obtain ⟨a4,c4,rfl,l4⟩:=ho.lb' (isB_append (unhide hDb) (unhide hCb)) 146 (by rw [List.length_append,hDl,hCl])
  clear ho
  replace l4:=hide l4
  refine ⟨_,rfl,?_⟩
  clear hS_
  have hS_:=hide (show (fun v_=>v_.heap[w.heap.size]?=some (.cells (fl [bw D,bw C]) 36 (0,0))∧v_.heap[g5]?=some (.cells (fl [bw Z16,bw Z130]) 36 (0,0))∧v_.heap[g7]?=some (.cells (fl [bw E,bw G]) 36 (0,0))) u21 from ⟨(hB.get 0 (x:=⟨w.heap.size,fl [bw D,bw C],36⟩) rfl),(hB.get 1 (x:=⟨g5,fl [bw Z16,bw Z130],36⟩) rfl),(hB.get 3 (x:=⟨g7,fl [bw E,bw G],36⟩) rfl)⟩)
  refine hK.out _ _ (unhide hS_) (fun _=>?_)
  clear hK K
  simp only [nrm]
  refine any_one (i:=25) (by kernel_rfl) rfl (fun K hK=>?_)
  refine step_callw (by kernel_rfl) 17 #[.slice a3 146 c3,.slice a4 146 c4] (by kernel_rfl) ((sames_ok (D++C) a3 a4 146 c3 c4 u21 (unhide l3) (unhide l4) (by decide)).mono ?_)
  rintro r_ u22 ⟨rfl,hg⟩
  replace hB:=hB.more hg
  clear hg
  refine ⟨_,rfl,?_⟩
  clear hS_
  have hS_:=hide (show (fun v_=>v_.heap[w.heap.size]?=some (.cells (fl [bw D,bw C]) 36 (0,0))∧v_.heap[g5]?=some (.cells (fl [bw Z16,bw Z130]) 36 (0,0))∧v_.heap[g7]?=some (.cells (fl [bw E,bw G]) 36 (0,0))) u22 from ⟨(hB.get 0 (x:=⟨w.heap.size,fl [bw D,bw C],36⟩) rfl),(hB.get 1 (x:=⟨g5,fl [bw Z16,bw Z130],36⟩) rfl),(hB.get 3 (x:=⟨g7,fl [bw E,bw G],36⟩) rfl)⟩)
  refine hK.out _ _ (unhide hS_) (fun _=>?_)
  clear hK K
  simp only [nrm]
  refine any_tk 26 (.bool true) (tf 34 26) rfl (fun x_ hu=>by kernel_rfl) (unhide hS_) ?_
  simp only [nrm]
  refine any_tk 27 (.bool true) (tf 34 27) rfl (fun x_ hu=>by kernel_rfl) (unhide hS_) ?_
  simp only [nrm]
  refine any_one (i:=28) (by kernel_rfl) rfl (fun K hK=>?_)
  refine step_callw (by kernel_rfl) 16 #[] (by kernel_rfl) ((vempty_ok u22).mono ?_)
  rintro r_ u23 ⟨gf,rfl,hge_,hnew_,hg⟩
  replace hB:=hB.more hg
  clear hg
  clear hge_
  refine ⟨_,rfl,?_⟩
  clear hS_
  have hS_:=hide (show (fun v_=>v_.heap[w.heap.size]?=some (.cells (fl [bw D,bw C]) 36 (0,0))∧v_.heap[g5]?=some (.cells (fl [bw Z16,bw Z130]) 36 (0,0))∧v_.heap[g7]?=some (.cells (fl [bw E,bw G]) 36 (0,0))) u23 from ⟨(hB.get 0 (x:=⟨w.heap.size,fl [bw D,bw C],36⟩) rfl),(hB.get 1 (x:=⟨g5,fl [bw Z16,bw Z130],36⟩) rfl),(hB.get 3 (x:=⟨g7,fl [bw E,bw G],36⟩) rfl)⟩)
  refine hK.out _ _ (unhide hS_) (fun _=>?_)
  clear hK K
  simp only [nrm]
  refine any_tk 29 (.pointer (some ⟨gf,0,none⟩)) (tf 34 29) rfl (fun x_ hu=>by kernel_rfl) (unhide hS_) ?_
  simp only [nrm]
  refine any_one (i:=30) (by kernel_rfl) rfl (fun K hK=>?_)
  refine step_val (.int .u8 0) u23 (by kernel_rfl) (exec_u8 _ (.tmp 78) rfl gf 0 (by kernel_rfl) 0 (by have h:=kc_at hnew_ 0 (by decide); rw [z130_at] at h; exact h)) ?_
  refine hK.out _ _ (unhide hS_) (fun _=>?_)
  clear hK K
  simp only [nrm]
  refine any_tk 31 (.bool true) (tf 34 31) rfl (fun x_ hu=>by kernel_rfl) (unhide hS_) ?_
  simp only [nrm]
  refine any_tk 32 (.bool true) (tf 34 32) rfl (fun x_ hu=>by kernel_rfl) (unhide hS_) ?_
  simp only [nrm]
  refine any_one (i:=33) (by kernel_rfl) rfl (fun K hK=>?_)
  replace hK:=hide hK
  go_simp
  refine (unhide hK).out _ _ (unhide hS_) (fun _=>?_)
  clear hK K
  simp only [nrm]
  refine any_done (by kernel_rfl) ?_
  clear hS_
  replace hB:=hide hB
  go_wp2_with fail
  replace hB:=unhide hB
  rw [unhide hT]
  exact (⟨rfl,hB.gr⟩)
theorem covers_ok0 (s:Option Addr) (n c:Nat) (l D C:List Int) (hDl:D.length=16) (hDb:IsB D) (hCl:C.length=130) (hCb:IsB C) (w:World) (hF:Fst w) (lp:Lb w s n c l):Calls Tryz.prog 5 #[.slice s n c,.agg (fl [bw D,bw C])] w (Vl (.bool true) w):=by
 by_cases hn:n≤4096
 ·exact covers_good s n c l D C hDl hDb hCl hCb w hF lp hn _ _ _ _ rfl rfl rfl rfl
 ·exact covers_long s n c l D C hDl hDb hCl hCb w hF lp (by omega)
theorem covers_ok (s:Option Addr) (n c:Nat) (l D C:List Int) (hDl:D.length=16) (hDb:IsB D) (hCl:C.length=130) (hCb:IsB C) (w:World) (hF:Fst w) (lp:Lb w s n c l):Calls Tryz.prog 5 #[.slice s n c,.agg (fl [bw D,bw C])] w (Vl (.bool true) w):=covers_ok0 s n c l D C hDl hDb hCl hCb w hF lp
end Go.Proofs.YthahhglbeafkmaaGreatDoor
namespace Go.Proofs.YthahhglbeafkmaaGreatDoor
open Go.ChangeShapes Go.WideShapes Go.ChangeAt Go.RowKit
set_option maxRecDepth 100000
set_option linter.unusedSimpArgs false
set_option linter.unusedVariables false
def numV:Value→Int
 | .int _ z=>z
 | _=>0
theorem row8 {H:Type} {enc:TypeId × Value→H} {W:World} {t:TypeId} {n fuel:Nat} {cs:List Value} {x:DataW H × List MemPlace} (ht:Tryz.prog.underlying t=some (.array n 5)) (hc:Tryz.prog.cellsOf t=n)
  (h:DataW.trod enc Tryz.prog W 0 (fun _=>true) true fuel t cs=some x):∃ kl:List Int,cs=kl.map (Value.int .u8)∧kl.length=n∧IsB kl:=by
 obtain ⟨xs,m,_,_,hl,hxl,hx⟩:=DataW.trod_array ht h
 rw [hc] at hl
 have hcell:∀ i,i<n→∃ z,cs[i]?=some (.int .u8 z)∧(Lit.int .u8 z).wf=true:=by
  intro i hi
  have h1:=hx i hi
  rw [Tryz.cells_b,Nat.mul_one,List.getElem?_eq_getElem (by omega)] at h1
  obtain ⟨z,e,_,hwf⟩:=DataW.trod_int Tryz.underlying5 h1
  refine ⟨z,?_,hwf⟩
  have h2:((cs.drop i).take 1)[0]?=some (.int .u8 z):=by rw [e]; rfl
  simpa using h2
 refine ⟨cs.map numV,?_,by simp [hl],?_⟩
 ·apply List.ext_getElem (by simp)
  intro i h1 h2
  obtain ⟨z,hz,_⟩:=hcell i (by omega)
  have:cs[i]=.int .u8 z:=by rw [List.getElem?_eq_getElem h1] at hz; simpa using hz
  simp [this,numV]
 ·intro x hx
  obtain ⟨v,hv,rfl⟩:=List.mem_map.1 hx
  obtain ⟨i,hi,rfl⟩:=List.getElem_of_mem hv
  obtain ⟨z,hz,hwf⟩:=hcell i (by omega)
  have:cs[i]=.int .u8 z:=by rw [List.getElem?_eq_getElem hi] at hz; simpa using hz
  rw [this]
  exact wf_byte hwf
theorem take_sp (l:List Value) (o n:Nat):l.drop o=(l.drop o).take n++l.drop (o+n):=by
 have:=List.take_append_drop n (l.drop o)
 rw [List.drop_drop] at this
 exact this.symm
theorem Tryz.cells16:Tryz.prog.cellsOf 33=16:=by kernel_rfl
theorem Tryz.cells130:Tryz.prog.cellsOf 34=130:=by kernel_rfl
theorem Tryz.cellsXc:Tryz.prog.cellsOf 36=146:=by kernel_rfl
theorem open_exc {H:Type} {enc:TypeId × Value→H} {W:World} {base:Nat} {v:Value} {d:DataW H} {p:List MemPlace} (hv:Value.okWide Tryz.prog W .any base 36 v) (h:DataW.Trod enc Tryz.prog W 0 (fun _=>true) true 36 v d p) :
  ∃ D B,v=.agg (xcl D B).toArray∧(D.length=16∧IsB D)∧(B.length=130∧IsB B):=by
 unfold Value.okWide at hv
 rw [Tryz.underlying36] at hv
 obtain ⟨cs,rfl,hsz,_⟩:=hv
 rw [Tryz.cellsXc] at hsz
 obtain ⟨fuel,hf⟩:=h
 obtain ⟨y0,y1,n,hx,hl,h0,h1⟩:=trod_struct2 Tryz.underlying36 hf
 simp only [Tryz.cells16,Tryz.cells130] at h0 h1
 obtain ⟨D,eD,hD,bD⟩:=row8 Tryz.underlying33 Tryz.cells16 h0
 obtain ⟨B,eB,hB,bB⟩:=row8 Tryz.underlying34 Tryz.cells130 h1
 refine ⟨D,B,?_,⟨hD,bD⟩,hB,bB⟩
 congr 1
 apply Array.ext'
 simp only [Value.cells,List.drop_zero] at eD eB
 have hl2:cs.toList.length=146:=by simpa using hsz
 generalize cs.toList=l at *
 have s0:=take_sp l 0 16
 have s1:=take_sp l 16 130
 have s2:l.drop 146=[]:=List.drop_eq_nil_of_le (by omega)
 rw [List.drop_zero] at s0
 rw [s0,eD,s1,eB,s2,List.append_nil]
 rfl
end Go.Proofs.YthahhglbeafkmaaGreatDoor
namespace Go.Proofs.YthahhglbeafkmaaGreatDoor
open Go Go.ChangeShapes Go.WideShapes Go.ChangeAt Go.RowKit
set_option linter.unusedVariables false
set_option linter.unusedSimpArgs false
theorem door_met (os:Go.Os) (args:Array Value):laidMetH Tryz.prog [("hollowtree/sha.first",Rows.laid_hollowtree_sha_first)] ((World.doorLaid Tryz.prog 400 os).forCall (fun _ _=>0) ⟨#[],args,[]⟩).memory :=
 laidMetH_of_parts3 (fuel:=8) (laidMet_of_run' 8 (by kernel_rfl) (by kernel_rfl)) (by kernel_rfl) (by kernel_rfl)
set_option maxRecDepth 100000 in
theorem schedCovers_lifted (os:Go.Os) (started:os.Started) (H:Type) (enc:TypeId × Value→H) :
  ReturnsInHanded {} Tryz.checked os 5 .any (fun w args=>(Rows.schedCoversSpec.pre enc Tryz.prog Tryz.f5 [] false w args∧laidMetH Tryz.prog [("hollowtree/sha.first",Rows.laid_hollowtree_sha_first)] w)∧sizedMet enc Tryz.prog Tryz.f5 (OpenSpec.ofChange Rows.schedCoversSpec) false w args)
   (Rows.schedCoversSpec.post enc Tryz.prog Tryz.f5 false true false false):=by
 refine returnsInHanded_of_change_and (C:=Tryz.checked) (X:=fun w _=>laidMetH Tryz.prog [("hollowtree/sha.first",Rows.laid_hollowtree_sha_first)] w) (fun _ _ _ hh h=>h.of_heap hh) own started (by kernel_rfl) Tryz.func5
  (ChangeSpec.witness_shaped (enc:=enc) (C:=Tryz.checked) (os:=os) (X:=fun w _=>laidMetH Tryz.prog [("hollowtree/sha.first",Rows.laid_hollowtree_sha_first)] w) false (World.doorLaid Tryz.prog 400 os) #[.slice none 0 0,.agg (xcl Z16 Z130).toArray] 8 rfl (World.shaped_of_RefB (by kernel_rfl) (by kernel_rfl)) (by kernel_rfl) (by kernel_rfl) (by kernel_rfl) (door_met os _)) ?_
 intro W base args ds gs before hval0 hW hcnd hsz0 hL _
 have hsz:(DataW.weightsEach Tryz.prog (Tryz.f5.params.toList++Rows.schedCoversSpec.plain.varTypes Tryz.prog) (ds++gs)).all (·≤reachBytes)=true:=hsz0
 have hval:∀ (j:Nat) t v,Tryz.f5.params[j]?=some t→args[j]?=some v→Value.okWide Tryz.prog W .any base t v:=hval0
 have hW':=hW
 obtain ⟨p,q,hA0,hV,rfl,hfz,hnd⟩:=hW
 have hA:DataW.TrodAll enc Tryz.prog W 0 (fun _=>true) true Tryz.f5.params.toList args.toList ds p:=hA0
 rw [Tryz.params5] at hA hval hsz
 obtain ⟨v0,vs0,d0,ds0,p0,q0,hargs,rfl,rfl,h0,r0⟩:=trodAll_cons hA
 obtain ⟨v1,vs1,d1,ds1,p1,q1,rfl,rfl,rfl,h1,r1⟩:=trodAll_cons r0
 obtain ⟨rfl,rfl,rfl⟩:=trodAll_nil r1
 obtain rfl:args=#[v0,v1]:=by cases args; simp_all
 obtain ⟨rfl,rfl⟩:=trodVars_none hV
 have k0:=h0
 have lt0:∀ x ∈ p0,x.block<W.heap.size:=by obtain ⟨m,hm⟩:=k0; exact DataW.trod_lt m _ _ _ hm
 have k1:=h1
 have lt1:∀ x ∈ p1,x.block<W.heap.size:=by obtain ⟨m,hm⟩:=k1; exact DataW.trod_lt m _ _ _ hm
 obtain ⟨s0,len0,cap0,rfl⟩:=okWide_slice Tryz.underlying43 (hval 0 43 v0 rfl rfl)
 obtain ⟨l0,b0,hl0,hs0,hc0,hb0⟩:=open_bytes h0 (fun elems spare hd=>sized_slice hsz (j:=0) (t:=43) (e:=5) rfl (by rw [hd]; rfl) Tryz.underlying43)
 obtain ⟨D1,B1,rfl,hD1,hB1⟩:=open_exc (hval 1 36 v1 rfl rfl) h1
 clear hA0 hval0
 refine ((show Calls Tryz.prog 5 #[.slice s0 len0 cap0,.agg (xcl D1 B1).toArray] W (Vl (.bool true) W) from by rw [xcl_fl]; exact covers_ok s0 len0 cap0 l0 D1 B1 hD1.1 hD1.2 hB1.1 hB1.2 W (first_laid hL) ⟨hl0,b0,hs0,hc0,by omega⟩)).mono fun e W' ⟨he,bel⟩=>?_
 subst he
 exact ⟨_,rfl,_,_,_,[],_,[],hW',trodAll_mk1 (shut_bool Tryz.underlying4 _),(trodAll_cons_mk (Below.trod laidOut (by kernel_rfl) (of_decide_eq_true (by kernel_rfl)) k0 bel lt0) (trodAll_cons_mk (Below.trod laidOut (by kernel_rfl) (of_decide_eq_true (by kernel_rfl)) k1 bel lt1) trodAll_mk0)),rfl,bel.frame _,fun h=>by cases h⟩
theorem schedCovers_holds:Rows.SchedCoversSaid :=
 OpenClaim.holds_of_wide 5 Tryz.f5 rfl rfl rfl rfl rfl rfl rfl ⟨rfl,rfl,rfl,rfl,rfl⟩ rfl rfl rfl rfl rfl (by kernel_rfl) Tryz.func5 (by kernel_rfl)
  (of_decide_eq_true (by kernel_rfl)) (by unfold Func.isWrapper; first | (rw [if_pos (by decide +kernel)]; kernel_rfl) | (rw [if_neg (by decide +kernel)]; exact ⟨rfl,rfl⟩))
  (fun os started H enc _=>schedCovers_lifted os started H enc)
theorem schedCovers_card:Rows.SchedCoversCardSaid :=
 Claim7.holds_tied_plain_at .later [] _ _ _ _
  schedCovers_holds (fun _ h=>by cases h) (by kernel_rfl) (fun _ h=>by cases h) schedCovers_row_tie rfl ⟨rfl,rfl⟩ (by kernel_rfl) rfl
  (fun f fn hf hfn=>by
   obtain rfl:f=5:=Option.some.inj ((show Tryz.prog.funcNamed "hollowtree/hollowtreelaw19.SchedCovers" = some 5 by kernel_rfl).symm.trans hf) |>.symm
   obtain rfl:fn=Tryz.f5:=(Option.some.inj (Tryz.func5.symm.trans hfn)).symm
   exact ⟨by kernel_rfl,fun j t ht=>by
    rw [Tryz.params5] at ht
    have hm:t ∈ [43,36]:=by simpa using Array.mem_of_getElem? ht
    have hall:([43,36].all fun u => !Tryz.prog.wantsStandIn u)=true:=by kernel_rfl
    exact (show Tryz.prog.wantsStandIn t=false by simpa using List.all_eq_true.1 hall t hm)⟩)
  (by kernel_rfl)
end Go.Proofs.YthahhglbeafkmaaGreatDoor
