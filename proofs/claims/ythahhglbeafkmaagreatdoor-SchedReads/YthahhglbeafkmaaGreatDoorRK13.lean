/-
  What the proof leans on.
-/
import Derived.ScopeJumps
import Derived.WalkMore
import Derived.Test.YthahhglbeafkmaaGreatDoorRK12
namespace Go.Proofs.YthahhglbeafkmaaGreatDoor
open Go.RowKit
set_option maxRecDepth 100000
set_option linter.unusedSimpArgs false
set_option linter.unusedVariables false
def Sn (u v:World):Prop:=Gr u v
theorem Sn.gr {u v x:World} (h:Sn u v) (k:Gr v x):Sn u x:=Gr.trans h k
theorem Sn.bt {u v x:World} {g:Nat} (h:Sn u v) (k:Bt g v x) (hg:u.heap.size≤g):Sn u x:=k.gr h hg
theorem Sn.size {u v:World} (h:Sn u v):u.heap.size≤v.heap.size:=(show Gr u v from h).size
theorem Sn.g {u v:World} (h:Sn u v):Gr u v:=h
def Obx (b:Nat) (L:List Int) (w:World) (r:Ending) (w':World):Prop:=∃ v,r=.returned v∧Ob b w' v L∧Gr w w'
theorem Ob.base {b c:Nat} {w:World} {v:Value} {L:List Int} (h:Ob b w v L) (hc:c≤b):Ob c w v L:=by
 rcases h with ⟨h1,h2⟩
 refine ⟨h1,h2.imp id ?_⟩
 rintro ⟨g,cap,cs,h3,h4,h5⟩
 exact ⟨g,cap,cs,h3,Nat.le_trans hc h4,h5⟩
theorem obx_of {b:Nat} {L:List Int} {w:World} {r:Ending} {w':World} (h:Obd L w r w') (hb:b≤w.heap.size):Obx b L w r w':=by
 obtain ⟨v,h1,h2,h3⟩:=h
 exact ⟨v,h1,h2.base hb,h3⟩
def Okx (b:Nat) (L:List Int) (w:World) (r:Ending) (w':World):Prop:=∃ v,r=.returned (.tuple #[v,.int .i64 0])∧Ob b w' v L∧Gr w w'
theorem okx_pok {b:Nat} {L:List Int} {w:World} {r:Ending} {w':World} (h:Pok L w r w') (hb:b≤w.heap.size):Okx b L w r w':=by
 obtain ⟨v,h1,h2,h3⟩:=h
 exact ⟨v,h1,h2.base hb,h3⟩
theorem okx_opd {b:Nat} {P:List Int} (hP:P.length≤100000) {w:World} {r:Ending} {w':World} (h:Opd P w r w') (hb:b≤w.heap.size):Okx b P w r w':=by
 obtain ⟨g,h1,h2,h3,h4⟩:=h
 exact ⟨_,h1,(ob_of h3 rfl h2 (by omega)).base hb,h4⟩
theorem isB_take' {L:List Int} (h:IsB L) (n:Nat):IsB (L.take n):=fun x hx=>h x (List.mem_of_mem_take hx)
theorem drL_isB (r:Int) (K:List Int):IsB (drL r K):=isB_take' (okL_isB _ _ _) _
theorem rkL_isB (r:Int) (K:List Int) (f m:Bool):IsB (rkL r K f m):=okL_isB _ _ _
theorem evB_len (k a s:Int) {B:List Int} (h:B.length=105):(evB k a s B).length=114:=by simp [evB,lowL_len,h]
theorem sealL_len' (K N A P:List Int):(sealL K N A P).length=P.length+16:=sealL_len K N A P
theorem dropf_ok (r:Int) (hr:0≤r) (K:List Int) (hK:K.length=32) (hKb:IsB K) (f:Bool) (w:World) (hF:Fst w):Calls Tryz.prog 43 #[.agg (fl [bw K,[.bool f]]),.int .u64 r] w (Vl (.agg (kc (drL r K))) w):=by
 rw [← pair_fl]
 exact drop_ok r hr K hK hKb f w hF
theorem rkeyf_ok (r:Int) (hr:0≤r) (K:List Int) (hK:K.length=32) (hKb:IsB K) (f m:Bool) (w:World) (hF:Fst w):Calls Tryz.prog 44 #[.agg (fl [bw K,[.bool f]]),.int .u64 r,.bool m] w (Vl (.agg (kc (rkL r K f m))) w):=by
 rw [← pair_fl]
 exact roundkey_ok r hr K hK hKb f m w hF
theorem ydropf_ok (r:Int) (hr:0≤r∧r<18446744073709551616) (K:List Int) (hK:K.length=32) (hKb:IsB K) (f:Bool) (w:World) (hF:Fst w):Calls Tryz.prog 24 #[.agg (fl [bw K,[.bool f]]),.int .u64 r] w (Vl (.agg (kc (drL r K))) w):=by
 rw [← pair_fl]
 exact ydrop_ok r hr K hK hKb f w hF
theorem ykeyf_ok (b:Bool) (r:Int) (hr:0≤r∧r<18446744073709551616) (K:List Int) (hK:K.length=32) (hKb:IsB K) (f:Bool) (w:World) (hF:Fst w):Calls Tryz.prog 26 #[.agg (fl [bw K,[.bool f]]),.int .u64 r,.bool b] w (Vl (.agg (kc (okL r K (kyT b)))) w):=by
 rw [← pair_fl]
 exact ykey_ok b r hr K hK hKb f w hF
theorem putef_ok (k a s:Int) (B:List Int) (hl:B.length=105) (hb:IsB B) (ha:U4 a) (hs:U4 s) (hr:evR k s B=true) (w:World):Calls Tryz.prog 21 #[.agg (fl [[.int .i64 k],[.int .u32 a],[.int .u32 s],bw B])] w (Pok (evB k a s B) w):=by
 rw [← evl_fl]
 exact fpute_ok k a s B hl hb ha hs hr w
def evS (L:List Int):List (List Value):=[[.int .i64 (L.getD 0 0)],[.int .u32 (lowN ((L.drop 1).take 4))],[.int .u32 (lowN ((L.drop 5).take 4))],bw ((L.drop 9).take 105)]
theorem evO_fl (L:List Int):(evO L).toArray=fl (evS L):=evl_fl _ _ _ _
theorem getef_ok (L:List Int) (a:Option Addr) (c0:Nat) (w:World) (hB0:Lb w a 114 c0 L) (hr:evRO L=true):Calls Tryz.prog 31 #[.slice a 114 c0] w (Vl (.tuple #[.agg (fl (evS L)),.int .i64 0]) w):=by
 rw [← evO_fl]
 exact fgete_ok L a c0 w hB0 hr
theorem getef_bad (L:List Int) (a:Option Addr) (c0:Nat) (w:World) (hB0:Lb w a 114 c0 L) (hr:evRO L=false):Calls Tryz.prog 31 #[.slice a 114 c0] w (Vl (.tuple #[.agg (fl [[.int .i64 0],[.int .u32 0],[.int .u32 0],bw Z105]),.int .i64 241]) w):=by
 rw [← evl_fl]
 exact fgete_bad L a c0 w hB0 hr
set_option maxHeartbeats 4000000 in
theorem vempty_ok  (w:World)  : Calls Tryz.prog 16 #[] w (Nwb Z130 130 w):=by
 obtain ⟨T,hT⟩:∃ T:Ending→World→Prop,T=(Nwb Z130 130 w):=⟨_,rfl⟩
 rw [← hT]
 replace hT:=hide hT
 go_enter Tryz.func16,Tryz.ntmps16
 go_upto_region 1 with fail
 obtain ⟨u0,hu_⟩:∃ u,u=w:=⟨_,rfl⟩
 rw [← hu_]
 have hB:Bl w [] u0:=hu_ ▸ Bl.nil w
 clear hu_
 refine wp_region_lit ?_
 refine wpList_make_room u0 rfl (.const (.int .i64 130)) (.const (.int .i64 130)) rfl 130 130 130 130 (by kernel_rfl) (by kernel_rfl) (by omega) (by omega) (by omega) (by omega) ?_
 generalize hal_:World.alloc u0 _=u1
 have hv:u1.heap[u0.heap.size]?=some (.cells (kc Z130) 5 (0,0)):=by
  rw [← hal_]
  exact blk_new u0 (.cells (kc Z130) 5 (0,0))
 have hg:Gr u0 u1:=by
  rw [← hal_]
  exact (Gr.refl u0).alloc _
 have hsz:=hB.gr.size
 clear hal_
 generalize u0.heap.size=g at *
 replace hB:=hB.more hg
 simp only [nrm]
 (refine wpList_step fun K hK=>?_; replace hK:=hide hK; go_simp; refine unhide hK _ _ ?_; clear hK K)
 refine wpList_nil ?_
 replace hv:=hide hv
 replace hB:=hide hB
 go_wp2_with fail
 replace hB:=unhide hB
 rw [unhide hT]
 exact (⟨g,rfl,hsz,unhide hv,hB.gr⟩)
set_option maxHeartbeats 4000000 in
theorem terms_peer (r:Int) (hr:0≤r) (Ky:List Int) (hKy:Ky.length=32) (hKb:IsB Ky) (f:Bool) (Y N D:List Int) (w:World) (hF:Fst w) (hY:Y=rkL r Ky f true) (hN:N=cntL r) (hD:D=drL r Ky):Calls Tryz.prog 22 #[.agg (fl [bw Ky,[.bool f]]),.int .u64 r,.int .i64 0] w (Vl (.agg (fl [bw Y,bw N,bw D])) w):=by
 obtain ⟨T,hT⟩:∃ T:Ending→World→Prop,T=(Vl (.agg (fl [bw Y,bw N,bw D])) w):=⟨_,rfl⟩
 rw [← hT]
 replace hT:=hide hT
 have hYl:Y.length=32:=by rw [hY]; exact rkL_len _ _ _ _
 have hNl:N.length=12:=by rw [hN]; exact cntL_len _
 have hDl:D.length=16:=by rw [hD]; exact drL_len _ _
 obtain ⟨A0_,hA0_⟩:∃ S_,S_=fl [bw Ky,[.bool f]]:=⟨_,rfl⟩
 rw [← hA0_]
 replace hA0_:=hide hA0_
 replace hY:=hide hY
 replace hN:=hide hN
 replace hD:=hide hD
 replace hF:=hide hF
 replace hKb:=hide hKb
 go_enter Tryz.func22,Tryz.ntmps22
 go_upto_region 1 with fail
 have hB:=(((Bl.nil w).new A0_ 25).new (fl [bw Z32,bw ZN,bw Z16]) 66)
 simp only [size_alloc,List.nil_append,List.cons_append] at hB
 rw [unhide hA0_] at hB
 generalize hu_:World.alloc _ _=u0
 replace hB:Bl w [⟨w.heap.size,fl [bw Ky,[.bool f]],25⟩,⟨w.heap.size+1,fl [bw Z32,bw ZN,bw Z16],66⟩] u0:=by
  rw [← hu_]
  rw [unhide hA0_]
  exact hB
 clear hu_ hA0_
 refine any_start (S:=fun v_=>v_.heap[w.heap.size]?=some (.cells (fl [bw Ky,[.bool f]]) 25 (0,0))) (by kernel_rfl) ?_
 replace hB:=hB.drew
 generalize World.drew _=u1 at *
 have hB0:=hide hB
 have hsz_:Hid (Sz u1.heap.size u1):=Nat.le_refl _
 simp only [List.size_toArray,List.length_cons,List.length_nil,Array.replicate,List.replicate]
 refine any_tk 0 (.int .u64 r) (tf 8 0) rfl (fun x_ hu=>by kernel_rfl) (hB.get 0 (x:=⟨w.heap.size,fl [bw Ky,[.bool f]],25⟩) rfl) ?_
 simp only [nrm]
 refine any_tk 2 (.agg (fl [bw Ky,[.bool f]])) (tf 8 1) rfl (fun x_ hu=>exec_sw _ 25 (.tmp 3) rfl (w.heap.size) (by kernel_rfl) hu NP (nP hKy _) Tryz.underlying25 rfl (by kernel_rfl)) (hB.get 0 (x:=⟨w.heap.size,fl [bw Ky,[.bool f]],25⟩) rfl) ?_
 simp only [nrm]
 refine any_tk 3 (.int .u64 r) #[true,false,true,false,false,false,false,false] rfl (fun x_ hu=>by kernel_rfl) (hB.get 0 (x:=⟨w.heap.size,fl [bw Ky,[.bool f]],25⟩) rfl) ?_
 simp only [nrm]
 refine float_first (fun q u=>NKf u1.heap.size (fl [bw Z32,bw ZN,bw Z16]) 66 u q) 7 (fun b_=>#[true,false,true,true,false,false,b_,false]) 6 1 false rfl rfl (fun v_ g_=>g_.blk (hB.get 0 (x:=⟨w.heap.size,fl [bw Ky,[.bool f]],25⟩) rfl)) (by kernel_rfl) (fun b_=>by cases b_ <;> rfl) ?_ ?_
 all_goals simp only [fw1,Act.put,List.setIfInBounds_toArray,List.set_cons_zero,List.set_cons_succ,List.getElem_toArray,List.getElem_cons_zero,List.getElem_cons_succ]
 ·intro q_ x_ hgx K hK
  refine wpOp_step (o:=_) rfl (fun K' hK'=>?_)
  replace hK':=hide hK'
  replace hK:=hide hK
  refine step_val (.pointer (some ⟨x_.heap.size,0,none⟩)) (x_.alloc (.cells (fl [bw Z32,bw ZN,bw Z16]) 66 (0,0))) (by kernel_rfl) (by kernel_rfl) ?_
  exact unhide hK' _ _ (unhide hK _ _ ((Gr.refl _).alloc _) (⟨_,rfl,Nat.le_trans (unhide hsz_) hgx.size,blk_new _ _⟩))
 intro b1_1 q1_1 x1_1 hg hTq hall
 replace hsz_:=hide ((unhide hsz_).gr hg)
 replace hB:=hB.more hg
 clear hg
 clear hall
 refine wpOp_step (o:=_) rfl (fun K hK=>?_)
 replace hK:=hide hK
 refine step_callw (by kernel_rfl) 42 #[.int .u64 r] (by kernel_rfl) (((show Calls Tryz.prog 42 #[.int .u64 r] x1_1 (Vl (.agg (kc N)) x1_1) from by rw [unhide hN]; exact count_ok r hr x1_1)).mono ?_)
 rintro r u2 ⟨rfl,hg⟩
 refine ⟨_,rfl,?_⟩
 replace hTq:=fun e=>NKf.gr (hTq e) hg
 replace hsz_:=hide ((unhide hsz_).gr hg)
 replace hB:=hB.more hg
 clear hg
 refine unhide hK _ _ ⟨(hB.get 0 (x:=⟨w.heap.size,fl [bw Ky,[.bool f]],25⟩) rfl),?_⟩
 clear hK K
 simp only [nrm]
 refine float_again (fun q u=>NKf u1.heap.size (fl [bw Z32,bw ZN,bw Z16]) 66 u q) 7 (fun b_=>#[true,true,true,true,false,false,b_,false]) 6 4 false (b:=b1_1) (q:=q1_1) rfl rfl hTq (fun v_ g_=>g_.blk (hB.get 0 (x:=⟨w.heap.size,fl [bw Ky,[.bool f]],25⟩) rfl)) (by kernel_rfl) (fun b_=>by cases b_ <;> rfl) ?_ ?_
 all_goals simp only [fw1,Act.put,List.setIfInBounds_toArray,List.set_cons_zero,List.set_cons_succ,List.getElem_toArray,List.getElem_cons_zero,List.getElem_cons_succ]
 ·intro q_ x_ hgx K hK
  refine wpOp_step (o:=_) rfl (fun K' hK'=>?_)
  replace hK':=hide hK'
  replace hK:=hide hK
  refine step_val (.pointer (some ⟨x_.heap.size,0,none⟩)) (x_.alloc (.cells (fl [bw Z32,bw ZN,bw Z16]) 66 (0,0))) (by kernel_rfl) (by kernel_rfl) ?_
  exact unhide hK' _ _ (unhide hK _ _ ((Gr.refl _).alloc _) (⟨_,rfl,Nat.le_trans (unhide hsz_) hgx.size,blk_new _ _⟩))
 clear hTq
 intro b1_4 q1_4 x1_4 hg hTq hall
 replace hsz_:=hide ((unhide hsz_).gr hg)
 replace hB:=hB.more hg
 clear hg
 clear hall
 refine wpOp_step (o:=_) rfl (fun K hK=>?_)
 replace hK:=hide hK
 refine step_callw (by kernel_rfl) 43 #[.agg (fl [bw Ky,[.bool f]]),.int .u64 r] (by kernel_rfl) (((show Calls Tryz.prog 43 #[.agg (fl [bw Ky,[.bool f]]),.int .u64 r] x1_4 (Vl (.agg (kc D)) x1_4) from by rw [unhide hD]; exact dropf_ok r hr Ky hKy (unhide hKb) f x1_4 ((unhide hF).gr hB.gr))).mono ?_)
 rintro r u3 ⟨rfl,hg⟩
 refine ⟨_,rfl,?_⟩
 replace hTq:=fun e=>NKf.gr (hTq e) hg
 replace hsz_:=hide ((unhide hsz_).gr hg)
 replace hB:=hB.more hg
 clear hg
 refine unhide hK _ _ ⟨(hB.get 0 (x:=⟨w.heap.size,fl [bw Ky,[.bool f]],25⟩) rfl),?_⟩
 clear hK K
 simp only [nrm]
 refine any_tk 5 (.agg (fl [bw Z32,bw N,bw D])) (tf 8 5) rfl (fun x_ hu=>bT12 _ (.tmp 9) (.tmp 12) rfl hNl hDl (by kernel_rfl) (by kernel_rfl)) (hB.get 0 (x:=⟨w.heap.size,fl [bw Ky,[.bool f]],25⟩) rfl) ?_
 simp only [nrm]
 refine float_again (fun q u=>NKf u1.heap.size (fl [bw Z32,bw ZN,bw Z16]) 66 u q) 7 (fun b_=>#[true,true,true,true,true,true,b_,false]) 6 7 true (b:=b1_4) (q:=q1_4) rfl rfl hTq (fun v_ g_=>g_.blk (hB.get 0 (x:=⟨w.heap.size,fl [bw Ky,[.bool f]],25⟩) rfl)) (by kernel_rfl) (fun b_=>by cases b_ <;> rfl) ?_ ?_
 all_goals simp only [fw1,Act.put,List.setIfInBounds_toArray,List.set_cons_zero,List.set_cons_succ,List.getElem_toArray,List.getElem_cons_zero,List.getElem_cons_succ]
 ·intro q_ x_ hgx K hK
  refine wpOp_step (o:=_) rfl (fun K' hK'=>?_)
  replace hK':=hide hK'
  replace hK:=hide hK
  refine step_val (.pointer (some ⟨x_.heap.size,0,none⟩)) (x_.alloc (.cells (fl [bw Z32,bw ZN,bw Z16]) 66 (0,0))) (by kernel_rfl) (by kernel_rfl) ?_
  exact unhide hK' _ _ (unhide hK _ _ ((Gr.refl _).alloc _) (⟨_,rfl,Nat.le_trans (unhide hsz_) hgx.size,blk_new _ _⟩))
 clear hTq
 intro b1_7 q1_7 x1_7 hg hTq hall
 replace hsz_:=hide ((unhide hsz_).gr hg)
 replace hB:=hB.more hg
 clear hg
 obtain rfl:b1_7=true:=hall (by trivial)
 replace hTq:=hTq rfl
 clear hall
 obtain ⟨g7,rfl,hge_,hnew_⟩:=hTq
 replace hB:=Bl.joinz (unhide hB0) hB hge_ hnew_
 simp only [List.cons_append,List.nil_append] at hB
 clear hB0 hge_ hnew_
 refine wpOp_step (o:=_) rfl (fun K hK=>?_)
 replace hK:=hide hK
 refine step_all 66 (.tmp 7) (.tmp 13) (g7) (S2:=[bw Z32,bw N,bw D]) (by kernel_rfl) rfl (by kernel_rfl) (by kernel_rfl) hB 2 rfl NTm (nT (show List.length Z32=32 from rfl) (show List.length ZN=12 from rfl) (show List.length Z16=16 from rfl)) (nT (show List.length Z32=32 from rfl) hNl hDl) (by kernel_rfl) (oT _ _ _) ?_
 intro u4 hB_ hbt_
 clear hB
 replace hB:Bl w [⟨w.heap.size,fl [bw Ky,[.bool f]],25⟩,⟨w.heap.size+1,fl [bw Z32,bw ZN,bw Z16],66⟩,⟨g7,fl [bw Z32,bw N,bw D],66⟩] u4:=hB_
 clear hB_
 clear hbt_
 refine unhide hK _ _ ⟨(hB.get 0 (x:=⟨w.heap.size,fl [bw Ky,[.bool f]],25⟩) rfl),?_⟩
 clear hK K
 simp only [nrm]
 refine any_done (by kernel_rfl) ?_
 clear hsz_
 replace hB:=hide hB
 go_upto_region 4 with fail
 replace hB:=unhide hB
 refine wp_region_lit ?_
 refine list_val (.agg (fl [bw Ky,[.bool f]])) (by kernel_rfl) (exec_sw _ 25 (.tmp 3) rfl (w.heap.size) (by kernel_rfl) (hB.get 0 (x:=⟨w.heap.size,fl [bw Ky,[.bool f]],25⟩) rfl) NP (nP hKy _) Tryz.underlying25 rfl (by kernel_rfl)) ?_
 simp only [nrm]
 refine lvk (.int .u64 r) ?_
 simp only [nrm]
 refine list_call 44 #[.agg (fl [bw Ky,[.bool f]]),.int .u64 r,.bool true] (by kernel_rfl) (by kernel_rfl) (((show Calls Tryz.prog 44 #[.agg (fl [bw Ky,[.bool f]]),.int .u64 r,.bool true] u4 (Vl (.agg (kc Y)) u4) from by rw [unhide hY]; exact rkeyf_ok r hr Ky hKy (unhide hKb) f true u4 ((unhide hF).gr hB.gr))).mono ?_)
 rintro r_ u5 ⟨rfl,hg⟩
 replace hB:=hB.more hg
 clear hg
 refine ⟨_,rfl,?_⟩
 simp only [nrm]
 refine lvk (.pointer (some ⟨g7,0,none⟩)) ?_
 simp only [nrm]
 refine list_seg 23 (.tmp 20) (.tmp 19) (g7) 0 (bw Y) (by kernel_rfl) rfl (by kernel_rfl) (by kernel_rfl) hB 2 rfl NTm (nT (show List.length Z32=32 from rfl) hNl hDl) 0 (by rw [bw_len,hYl]; rfl) rfl (by rw [bw_len,hYl]; kernel_rfl) (bw_one _) ?_
 intro u6 hB_ hbt_
 clear hB
 replace hB:Bl w [⟨w.heap.size,fl [bw Ky,[.bool f]],25⟩,⟨w.heap.size+1,fl [bw Z32,bw ZN,bw Z16],66⟩,⟨g7,fl [bw Y,bw N,bw D],66⟩] u6:=hB_
 clear hB_
 clear hbt_
 simp only [nrm]
 refine wpList_nil ?_
 replace hB:=hide hB
 go_upto_region 7 with fail
 replace hB:=unhide hB
 refine wp_region_lit ?_
 refine list_val (.agg (fl [bw Y,bw N,bw D])) (by kernel_rfl) (exec_sw _ 66 (.tmp 7) rfl (g7) (by kernel_rfl) (hB.get 2 (x:=⟨g7,fl [bw Y,bw N,bw D],66⟩) rfl) NTm (nT hYl hNl hDl) Tryz.underlying66 rfl (by kernel_rfl)) ?_
 simp only [nrm]
 refine list_all 66 (.tmp 6) (.tmp 27) (w.heap.size+1) (S2:=[bw Y,bw N,bw D]) (by kernel_rfl) rfl (by kernel_rfl) (by kernel_rfl) hB 1 rfl NTm (nT (show List.length Z32=32 from rfl) (show List.length ZN=12 from rfl) (show List.length Z16=16 from rfl)) (nT hYl hNl hDl) (by kernel_rfl) (oT _ _ _) ?_
 intro u7 hB_ hbt_
 clear hB
 replace hB:Bl w [⟨w.heap.size,fl [bw Ky,[.bool f]],25⟩,⟨w.heap.size+1,fl [bw Y,bw N,bw D],66⟩,⟨g7,fl [bw Y,bw N,bw D],66⟩] u7:=hB_
 clear hB_
 clear hbt_
 simp only [nrm]
 refine wpList_nil ?_
 replace hB:=hide hB
 go_wp2_with fail
 replace hB:=unhide hB
 rw [unhide hT]
 exact bodyPost_ret (v:=.agg (fl [bw Y,bw N,bw D])) (res1 Tryz.results22 (rv_cell (by kernel_rfl) (hB.get 1 (x:=⟨w.heap.size+1,fl [bw Y,bw N,bw D],66⟩) rfl) Tryz.underlying66 rfl (by rw [fl_size (nT hYl hNl hDl)]; kernel_rfl))) rfl (⟨rfl,hB.gr⟩)
set_option maxHeartbeats 4000000 in
theorem terms_me (r:Int) (hr:0≤r) (Ky:List Int) (hKy:Ky.length=32) (hKb:IsB Ky) (f:Bool) (Y N D:List Int) (w:World) (hF:Fst w) (hY:Y=rkL r Ky f false) (hN:N=cntL r) (hD:D=drL r Ky):Calls Tryz.prog 22 #[.agg (fl [bw Ky,[.bool f]]),.int .u64 r,.int .i64 1] w (Vl (.agg (fl [bw Y,bw N,bw D])) w):=by
 obtain ⟨T,hT⟩:∃ T:Ending→World→Prop,T=(Vl (.agg (fl [bw Y,bw N,bw D])) w):=⟨_,rfl⟩
 rw [← hT]
 replace hT:=hide hT
 have hYl:Y.length=32:=by rw [hY]; exact rkL_len _ _ _ _
 have hNl:N.length=12:=by rw [hN]; exact cntL_len _
 have hDl:D.length=16:=by rw [hD]; exact drL_len _ _
 obtain ⟨A0_,hA0_⟩:∃ S_,S_=fl [bw Ky,[.bool f]]:=⟨_,rfl⟩
 rw [← hA0_]
 replace hA0_:=hide hA0_
 replace hY:=hide hY
 replace hN:=hide hN
 replace hD:=hide hD
 replace hF:=hide hF
 replace hKb:=hide hKb
 go_enter Tryz.func22,Tryz.ntmps22
 go_upto_region 1 with fail
 have hB:=(((Bl.nil w).new A0_ 25).new (fl [bw Z32,bw ZN,bw Z16]) 66)
 simp only [size_alloc,List.nil_append,List.cons_append] at hB
 rw [unhide hA0_] at hB
 generalize hu_:World.alloc _ _=u0
 replace hB:Bl w [⟨w.heap.size,fl [bw Ky,[.bool f]],25⟩,⟨w.heap.size+1,fl [bw Z32,bw ZN,bw Z16],66⟩] u0:=by
  rw [← hu_]
  rw [unhide hA0_]
  exact hB
 clear hu_ hA0_
 refine any_start (S:=fun v_=>v_.heap[w.heap.size]?=some (.cells (fl [bw Ky,[.bool f]]) 25 (0,0))) (by kernel_rfl) ?_
 replace hB:=hB.drew
 generalize World.drew _=u1 at *
 have hB0:=hide hB
 have hsz_:Hid (Sz u1.heap.size u1):=Nat.le_refl _
 simp only [List.size_toArray,List.length_cons,List.length_nil,Array.replicate,List.replicate]
 refine any_tk 0 (.int .u64 r) (tf 8 0) rfl (fun x_ hu=>by kernel_rfl) (hB.get 0 (x:=⟨w.heap.size,fl [bw Ky,[.bool f]],25⟩) rfl) ?_
 simp only [nrm]
 refine any_tk 2 (.agg (fl [bw Ky,[.bool f]])) (tf 8 1) rfl (fun x_ hu=>exec_sw _ 25 (.tmp 3) rfl (w.heap.size) (by kernel_rfl) hu NP (nP hKy _) Tryz.underlying25 rfl (by kernel_rfl)) (hB.get 0 (x:=⟨w.heap.size,fl [bw Ky,[.bool f]],25⟩) rfl) ?_
 simp only [nrm]
 refine any_tk 3 (.int .u64 r) #[true,false,true,false,false,false,false,false] rfl (fun x_ hu=>by kernel_rfl) (hB.get 0 (x:=⟨w.heap.size,fl [bw Ky,[.bool f]],25⟩) rfl) ?_
 simp only [nrm]
 refine float_first (fun q u=>NKf u1.heap.size (fl [bw Z32,bw ZN,bw Z16]) 66 u q) 7 (fun b_=>#[true,false,true,true,false,false,b_,false]) 6 1 false rfl rfl (fun v_ g_=>g_.blk (hB.get 0 (x:=⟨w.heap.size,fl [bw Ky,[.bool f]],25⟩) rfl)) (by kernel_rfl) (fun b_=>by cases b_ <;> rfl) ?_ ?_
 all_goals simp only [fw1,Act.put,List.setIfInBounds_toArray,List.set_cons_zero,List.set_cons_succ,List.getElem_toArray,List.getElem_cons_zero,List.getElem_cons_succ]
 ·intro q_ x_ hgx K hK
  refine wpOp_step (o:=_) rfl (fun K' hK'=>?_)
  replace hK':=hide hK'
  replace hK:=hide hK
  refine step_val (.pointer (some ⟨x_.heap.size,0,none⟩)) (x_.alloc (.cells (fl [bw Z32,bw ZN,bw Z16]) 66 (0,0))) (by kernel_rfl) (by kernel_rfl) ?_
  exact unhide hK' _ _ (unhide hK _ _ ((Gr.refl _).alloc _) (⟨_,rfl,Nat.le_trans (unhide hsz_) hgx.size,blk_new _ _⟩))
 intro b1_1 q1_1 x1_1 hg hTq hall
 replace hsz_:=hide ((unhide hsz_).gr hg)
 replace hB:=hB.more hg
 clear hg
 clear hall
 refine wpOp_step (o:=_) rfl (fun K hK=>?_)
 replace hK:=hide hK
 refine step_callw (by kernel_rfl) 42 #[.int .u64 r] (by kernel_rfl) (((show Calls Tryz.prog 42 #[.int .u64 r] x1_1 (Vl (.agg (kc N)) x1_1) from by rw [unhide hN]; exact count_ok r hr x1_1)).mono ?_)
 rintro r u2 ⟨rfl,hg⟩
 refine ⟨_,rfl,?_⟩
 replace hTq:=fun e=>NKf.gr (hTq e) hg
 replace hsz_:=hide ((unhide hsz_).gr hg)
 replace hB:=hB.more hg
 clear hg
 refine unhide hK _ _ ⟨(hB.get 0 (x:=⟨w.heap.size,fl [bw Ky,[.bool f]],25⟩) rfl),?_⟩
 clear hK K
 simp only [nrm]
 refine float_again (fun q u=>NKf u1.heap.size (fl [bw Z32,bw ZN,bw Z16]) 66 u q) 7 (fun b_=>#[true,true,true,true,false,false,b_,false]) 6 4 false (b:=b1_1) (q:=q1_1) rfl rfl hTq (fun v_ g_=>g_.blk (hB.get 0 (x:=⟨w.heap.size,fl [bw Ky,[.bool f]],25⟩) rfl)) (by kernel_rfl) (fun b_=>by cases b_ <;> rfl) ?_ ?_
 all_goals simp only [fw1,Act.put,List.setIfInBounds_toArray,List.set_cons_zero,List.set_cons_succ,List.getElem_toArray,List.getElem_cons_zero,List.getElem_cons_succ]
 ·intro q_ x_ hgx K hK
  refine wpOp_step (o:=_) rfl (fun K' hK'=>?_)
  replace hK':=hide hK'
  replace hK:=hide hK
  refine step_val (.pointer (some ⟨x_.heap.size,0,none⟩)) (x_.alloc (.cells (fl [bw Z32,bw ZN,bw Z16]) 66 (0,0))) (by kernel_rfl) (by kernel_rfl) ?_
  exact unhide hK' _ _ (unhide hK _ _ ((Gr.refl _).alloc _) (⟨_,rfl,Nat.le_trans (unhide hsz_) hgx.size,blk_new _ _⟩))
 clear hTq
 intro b1_4 q1_4 x1_4 hg hTq hall
 replace hsz_:=hide ((unhide hsz_).gr hg)
 replace hB:=hB.more hg
 clear hg
 clear hall
 refine wpOp_step (o:=_) rfl (fun K hK=>?_)
 replace hK:=hide hK
 refine step_callw (by kernel_rfl) 43 #[.agg (fl [bw Ky,[.bool f]]),.int .u64 r] (by kernel_rfl) (((show Calls Tryz.prog 43 #[.agg (fl [bw Ky,[.bool f]]),.int .u64 r] x1_4 (Vl (.agg (kc D)) x1_4) from by rw [unhide hD]; exact dropf_ok r hr Ky hKy (unhide hKb) f x1_4 ((unhide hF).gr hB.gr))).mono ?_)
 rintro r u3 ⟨rfl,hg⟩
 refine ⟨_,rfl,?_⟩
 replace hTq:=fun e=>NKf.gr (hTq e) hg
 replace hsz_:=hide ((unhide hsz_).gr hg)
 replace hB:=hB.more hg
 clear hg
 refine unhide hK _ _ ⟨(hB.get 0 (x:=⟨w.heap.size,fl [bw Ky,[.bool f]],25⟩) rfl),?_⟩
 clear hK K
 simp only [nrm]
 refine any_tk 5 (.agg (fl [bw Z32,bw N,bw D])) (tf 8 5) rfl (fun x_ hu=>bT12 _ (.tmp 9) (.tmp 12) rfl hNl hDl (by kernel_rfl) (by kernel_rfl)) (hB.get 0 (x:=⟨w.heap.size,fl [bw Ky,[.bool f]],25⟩) rfl) ?_
 simp only [nrm]
 refine float_again (fun q u=>NKf u1.heap.size (fl [bw Z32,bw ZN,bw Z16]) 66 u q) 7 (fun b_=>#[true,true,true,true,true,true,b_,false]) 6 7 true (b:=b1_4) (q:=q1_4) rfl rfl hTq (fun v_ g_=>g_.blk (hB.get 0 (x:=⟨w.heap.size,fl [bw Ky,[.bool f]],25⟩) rfl)) (by kernel_rfl) (fun b_=>by cases b_ <;> rfl) ?_ ?_
 all_goals simp only [fw1,Act.put,List.setIfInBounds_toArray,List.set_cons_zero,List.set_cons_succ,List.getElem_toArray,List.getElem_cons_zero,List.getElem_cons_succ]
 ·intro q_ x_ hgx K hK
  refine wpOp_step (o:=_) rfl (fun K' hK'=>?_)
  replace hK':=hide hK'
  replace hK:=hide hK
  refine step_val (.pointer (some ⟨x_.heap.size,0,none⟩)) (x_.alloc (.cells (fl [bw Z32,bw ZN,bw Z16]) 66 (0,0))) (by kernel_rfl) (by kernel_rfl) ?_
  exact unhide hK' _ _ (unhide hK _ _ ((Gr.refl _).alloc _) (⟨_,rfl,Nat.le_trans (unhide hsz_) hgx.size,blk_new _ _⟩))
 clear hTq
 intro b1_7 q1_7 x1_7 hg hTq hall
 replace hsz_:=hide ((unhide hsz_).gr hg)
 replace hB:=hB.more hg
 clear hg
 obtain rfl:b1_7=true:=hall (by trivial)
 replace hTq:=hTq rfl
 clear hall
 obtain ⟨g7,rfl,hge_,hnew_⟩:=hTq
 replace hB:=Bl.joinz (unhide hB0) hB hge_ hnew_
 simp only [List.cons_append,List.nil_append] at hB
 clear hB0 hge_ hnew_
 refine wpOp_step (o:=_) rfl (fun K hK=>?_)
 replace hK:=hide hK
 refine step_all 66 (.tmp 7) (.tmp 13) (g7) (S2:=[bw Z32,bw N,bw D]) (by kernel_rfl) rfl (by kernel_rfl) (by kernel_rfl) hB 2 rfl NTm (nT (show List.length Z32=32 from rfl) (show List.length ZN=12 from rfl) (show List.length Z16=16 from rfl)) (nT (show List.length Z32=32 from rfl) hNl hDl) (by kernel_rfl) (oT _ _ _) ?_
 intro u4 hB_ hbt_
 clear hB
 replace hB:Bl w [⟨w.heap.size,fl [bw Ky,[.bool f]],25⟩,⟨w.heap.size+1,fl [bw Z32,bw ZN,bw Z16],66⟩,⟨g7,fl [bw Z32,bw N,bw D],66⟩] u4:=hB_
 clear hB_
 clear hbt_
 refine unhide hK _ _ ⟨(hB.get 0 (x:=⟨w.heap.size,fl [bw Ky,[.bool f]],25⟩) rfl),?_⟩
 clear hK K
 simp only [nrm]
 refine any_done (by kernel_rfl) ?_
 clear hsz_
 replace hB:=hide hB
 go_upto_region 6 with fail
 replace hB:=unhide hB
 refine wp_region_lit ?_
 refine list_val (.agg (fl [bw Ky,[.bool f]])) (by kernel_rfl) (exec_sw _ 25 (.tmp 3) rfl (w.heap.size) (by kernel_rfl) (hB.get 0 (x:=⟨w.heap.size,fl [bw Ky,[.bool f]],25⟩) rfl) NP (nP hKy _) Tryz.underlying25 rfl (by kernel_rfl)) ?_
 simp only [nrm]
 refine lvk (.int .u64 r) ?_
 simp only [nrm]
 refine list_call 44 #[.agg (fl [bw Ky,[.bool f]]),.int .u64 r,.bool false] (by kernel_rfl) (by kernel_rfl) (((show Calls Tryz.prog 44 #[.agg (fl [bw Ky,[.bool f]]),.int .u64 r,.bool false] u4 (Vl (.agg (kc Y)) u4) from by rw [unhide hY]; exact rkeyf_ok r hr Ky hKy (unhide hKb) f false u4 ((unhide hF).gr hB.gr))).mono ?_)
 rintro r_ u5 ⟨rfl,hg⟩
 replace hB:=hB.more hg
 clear hg
 refine ⟨_,rfl,?_⟩
 simp only [nrm]
 refine lvk (.pointer (some ⟨g7,0,none⟩)) ?_
 simp only [nrm]
 refine list_seg 23 (.tmp 26) (.tmp 25) (g7) 0 (bw Y) (by kernel_rfl) rfl (by kernel_rfl) (by kernel_rfl) hB 2 rfl NTm (nT (show List.length Z32=32 from rfl) hNl hDl) 0 (by rw [bw_len,hYl]; rfl) rfl (by rw [bw_len,hYl]; kernel_rfl) (bw_one _) ?_
 intro u6 hB_ hbt_
 clear hB
 replace hB:Bl w [⟨w.heap.size,fl [bw Ky,[.bool f]],25⟩,⟨w.heap.size+1,fl [bw Z32,bw ZN,bw Z16],66⟩,⟨g7,fl [bw Y,bw N,bw D],66⟩] u6:=hB_
 clear hB_
 clear hbt_
 simp only [nrm]
 refine wpList_nil ?_
 replace hB:=hide hB
 go_upto_region 7 with fail
 replace hB:=unhide hB
 refine wp_region_lit ?_
 refine list_val (.agg (fl [bw Y,bw N,bw D])) (by kernel_rfl) (exec_sw _ 66 (.tmp 7) rfl (g7) (by kernel_rfl) (hB.get 2 (x:=⟨g7,fl [bw Y,bw N,bw D],66⟩) rfl) NTm (nT hYl hNl hDl) Tryz.underlying66 rfl (by kernel_rfl)) ?_
 simp only [nrm]
 refine list_all 66 (.tmp 6) (.tmp 27) (w.heap.size+1) (S2:=[bw Y,bw N,bw D]) (by kernel_rfl) rfl (by kernel_rfl) (by kernel_rfl) hB 1 rfl NTm (nT (show List.length Z32=32 from rfl) (show List.length ZN=12 from rfl) (show List.length Z16=16 from rfl)) (nT hYl hNl hDl) (by kernel_rfl) (oT _ _ _) ?_
 intro u7 hB_ hbt_
 clear hB
 replace hB:Bl w [⟨w.heap.size,fl [bw Ky,[.bool f]],25⟩,⟨w.heap.size+1,fl [bw Y,bw N,bw D],66⟩,⟨g7,fl [bw Y,bw N,bw D],66⟩] u7:=hB_
 clear hB_
 clear hbt_
 simp only [nrm]
 refine wpList_nil ?_
 replace hB:=hide hB
 go_wp2_with fail
 replace hB:=unhide hB
 rw [unhide hT]
 exact bodyPost_ret (v:=.agg (fl [bw Y,bw N,bw D])) (res1 Tryz.results22 (rv_cell (by kernel_rfl) (hB.get 1 (x:=⟨w.heap.size+1,fl [bw Y,bw N,bw D],66⟩) rfl) Tryz.underlying66 rfl (by rw [fl_size (nT hYl hNl hDl)]; kernel_rfl))) rfl (⟨rfl,hB.gr⟩)
set_option maxHeartbeats 4000000 in
theorem vseal_ok (Y N D:List Int) (hY:Y.length=32) (hN:N.length=12) (hD:D.length=16) (hYb:IsB Y) (hNb:IsB N) (hDb:IsB D) (P:List Int) (s:Option Addr) (n c:Nat) (hn:n≤20000) (w:World) (lp:Lb w s n c P):Calls Tryz.prog 23 #[.agg (fl [bw Y,bw N,bw D]),.slice s n c] w (Obd (sealL Y N D P) w):=by
 obtain ⟨T,hT⟩:∃ T:Ending→World→Prop,T=(Obd (sealL Y N D P) w):=⟨_,rfl⟩
 rw [← hT]
 replace hT:=hide hT
 obtain ⟨A0_,hA0_⟩:∃ S_,S_=fl [bw Y,bw N,bw D]:=⟨_,rfl⟩
 rw [← hA0_]
 replace hA0_:=hide hA0_
 replace hYb:=hide hYb
 replace hNb:=hide hNb
 replace hDb:=hide hDb
 replace lp:=hide lp
 go_enter Tryz.func23,Tryz.ntmps23
 go_upto_region 1 with fail
 have hB:=((Bl.nil w).new A0_ 66)
 simp only [size_alloc,List.nil_append,List.cons_append] at hB
 rw [unhide hA0_] at hB
 generalize hu_:World.alloc _ _=u0
 replace hB:Bl w [⟨w.heap.size,fl [bw Y,bw N,bw D],66⟩] u0:=by
  rw [← hu_]
  rw [unhide hA0_]
  exact hB
 clear hu_ hA0_
 refine any_start (S:=fun v_=>v_.heap[w.heap.size]?=some (.cells (fl [bw Y,bw N,bw D]) 66 (0,0))) (by kernel_rfl) ?_
 replace hB:=hB.drew
 generalize World.drew _=u1 at *
 simp only [List.size_toArray,List.length_cons,List.length_nil,Array.replicate,List.replicate]
 have hS_:=hide (show (fun v_=>v_.heap[w.heap.size]?=some (.cells (fl [bw Y,bw N,bw D]) 66 (0,0))) u1 from (hB.get 0 (x:=⟨w.heap.size,fl [bw Y,bw N,bw D],66⟩) rfl))
 refine any_tk 0 (.pointer (some ⟨w.heap.size,0,none⟩)) (tf 9 0) rfl (fun x_ hu=>by kernel_rfl) (unhide hS_) ?_
 simp only [nrm]
 refine any_tk 1 (.agg (kc Y)) (tf 9 1) rfl (fun x_ hu=>exec_sa _ 23 (.tmp 5) rfl (w.heap.size) 0 (by kernel_rfl) hu NTm (nT hY hN hD) 0 Y rfl rfl Tryz.underlying23 rfl (n:=32) rfl Tryz.infoKey) (unhide hS_) ?_
 simp only [nrm]
 refine any_tk 2 (.pointer (some ⟨w.heap.size,32,none⟩)) (tf 9 2) rfl (fun x_ hu=>by kernel_rfl) (unhide hS_) ?_
 simp only [nrm]
 refine any_tk 3 (.agg (kc N)) (tf 9 3) rfl (fun x_ hu=>exec_sa _ 64 (.tmp 7) rfl (w.heap.size) 32 (by kernel_rfl) hu NTm (nT hY hN hD) 1 N rfl rfl Tryz.underlying64 rfl (n:=12) rfl Tryz.infoN) (unhide hS_) ?_
 simp only [nrm]
 refine any_tk 4 (.pointer (some ⟨w.heap.size,44,none⟩)) (tf 9 4) rfl (fun x_ hu=>by kernel_rfl) (unhide hS_) ?_
 simp only [nrm]
 refine any_tk 5 (.slice (some ⟨w.heap.size,44,none⟩) 16 16) (tf 9 5) rfl (fun x_ hu=>by kernel_rfl) (unhide hS_) ?_
 simp only [nrm]
 refine any_tk 6 (.slice s n c) (tf 9 6) rfl (fun x_ hu=>by kernel_rfl) (unhide hS_) ?_
 simp only [nrm]
 refine any_one (i:=7) (by kernel_rfl) rfl (fun K hK=>?_)
 refine step_callw (by kernel_rfl) 45 #[.agg (kc Y),.agg (kc N),.slice (some ⟨w.heap.size,44,none⟩) 16 16,.slice s n c] (by kernel_rfl) ((((seal_ok Y N hY hN (unhide hYb) (unhide hNb) D P (some ⟨w.heap.size,44,none⟩) s 16 n 16 c hn u1 (seg_lb (nT hY hN hD) (hB.get 0 (x:=⟨w.heap.size,fl [bw Y,bw N,bw D],66⟩) rfl) 2 rfl rfl (unhide hDb) hD (by decide)) ((unhide lp).gr hB.gr)).mono fun _ _ h=>obx_of h hB.gr.size)).mono ?_)
 rintro r_ u2 ⟨v1,rfl,ho,hg⟩
 replace hB:=hB.more hg
 clear hg
 replace ho:=hide ho
 refine ⟨_,rfl,?_⟩
 clear hS_
 have hS_:=hide (show (fun v_=>v_.heap[w.heap.size]?=some (.cells (fl [bw Y,bw N,bw D]) 66 (0,0))) u2 from (hB.get 0 (x:=⟨w.heap.size,fl [bw Y,bw N,bw D],66⟩) rfl))
 refine hK.out _ _ (unhide hS_) (fun _=>?_)
 clear hK K
 simp only [nrm]
 refine any_one (i:=8) (by kernel_rfl) rfl (fun K hK=>?_)
 replace hK:=hide hK
 go_simp
 refine (unhide hK).out _ _ (unhide hS_) (fun _=>?_)
 clear hK K
 simp only [nrm]
 refine any_done (by kernel_rfl) ?_
 clear hS_
 replace hB:=hide hB
 go_wp2_with fail
 replace hB:=unhide hB
 rw [unhide hT]
 exact (⟨_,rfl,unhide ho,hB.gr⟩)
set_option maxHeartbeats 4000000 in
theorem vopen_yes (Y N D:List Int) (hY:Y.length=32) (hN:N.length=12) (hD:D.length=16) (hYb:IsB Y) (hNb:IsB N) (hDb:IsB D) (P:List Int) (s:Option Addr) (n c:Nat) (hn:n≤20000) (w:World) (hPb:IsB P) (lp:Lb w s n c (sealL Y N D P)):Calls Tryz.prog 30 #[.agg (fl [bw Y,bw N,bw D]),.slice s n c] w (Pok P w):=by
 obtain ⟨T,hT⟩:∃ T:Ending→World→Prop,T=(Pok P w):=⟨_,rfl⟩
 rw [← hT]
 replace hT:=hide hT
 obtain ⟨A0_,hA0_⟩:∃ S_,S_=fl [bw Y,bw N,bw D]:=⟨_,rfl⟩
 rw [← hA0_]
 replace hA0_:=hide hA0_
 replace hYb:=hide hYb
 replace hNb:=hide hNb
 replace hDb:=hide hDb
 replace lp:=hide lp
 go_enter Tryz.func30,Tryz.ntmps30
 go_upto_region 1 with fail
 have hB:=((Bl.nil w).new A0_ 66)
 simp only [size_alloc,List.nil_append,List.cons_append] at hB
 rw [unhide hA0_] at hB
 generalize hu_:World.alloc _ _=u0
 replace hB:Bl w [⟨w.heap.size,fl [bw Y,bw N,bw D],66⟩] u0:=by
  rw [← hu_]
  rw [unhide hA0_]
  exact hB
 clear hu_ hA0_
 refine any_start (S:=fun v_=>v_.heap[w.heap.size]?=some (.cells (fl [bw Y,bw N,bw D]) 66 (0,0))) (by kernel_rfl) ?_
 replace hB:=hB.drew
 generalize World.drew _=u1 at *
 simp only [List.size_toArray,List.length_cons,List.length_nil,Array.replicate,List.replicate]
 have hS_:=hide (show (fun v_=>v_.heap[w.heap.size]?=some (.cells (fl [bw Y,bw N,bw D]) 66 (0,0))) u1 from (hB.get 0 (x:=⟨w.heap.size,fl [bw Y,bw N,bw D],66⟩) rfl))
 refine any_tk 0 (.pointer (some ⟨w.heap.size,0,none⟩)) (tf 12 0) rfl (fun x_ hu=>by kernel_rfl) (unhide hS_) ?_
 simp only [nrm]
 refine any_tk 1 (.agg (kc Y)) (tf 12 1) rfl (fun x_ hu=>exec_sa _ 23 (.tmp 6) rfl (w.heap.size) 0 (by kernel_rfl) hu NTm (nT hY hN hD) 0 Y rfl rfl Tryz.underlying23 rfl (n:=32) rfl Tryz.infoKey) (unhide hS_) ?_
 simp only [nrm]
 refine any_tk 2 (.pointer (some ⟨w.heap.size,32,none⟩)) (tf 12 2) rfl (fun x_ hu=>by kernel_rfl) (unhide hS_) ?_
 simp only [nrm]
 refine any_tk 3 (.agg (kc N)) (tf 12 3) rfl (fun x_ hu=>exec_sa _ 64 (.tmp 8) rfl (w.heap.size) 32 (by kernel_rfl) hu NTm (nT hY hN hD) 1 N rfl rfl Tryz.underlying64 rfl (n:=12) rfl Tryz.infoN) (unhide hS_) ?_
 simp only [nrm]
 refine any_tk 4 (.pointer (some ⟨w.heap.size,44,none⟩)) (tf 12 4) rfl (fun x_ hu=>by kernel_rfl) (unhide hS_) ?_
 simp only [nrm]
 refine any_tk 5 (.slice (some ⟨w.heap.size,44,none⟩) 16 16) (tf 12 5) rfl (fun x_ hu=>by kernel_rfl) (unhide hS_) ?_
 simp only [nrm]
 refine any_tk 6 (.slice s n c) (tf 12 6) rfl (fun x_ hu=>by kernel_rfl) (unhide hS_) ?_
 simp only [nrm]
 refine any_one (i:=7) (by kernel_rfl) rfl (fun K hK=>?_)
 refine step_callw (by kernel_rfl) 51 #[.agg (kc Y),.agg (kc N),.slice (some ⟨w.heap.size,44,none⟩) 16 16,.slice s n c] (by kernel_rfl) ((((open_yes Y N hY hN (unhide hYb) (unhide hNb) D P hPb (some ⟨w.heap.size,44,none⟩) s 16 n 16 c hn u1 (seg_lb (nT hY hN hD) (hB.get 0 (x:=⟨w.heap.size,fl [bw Y,bw N,bw D],66⟩) rfl) 2 rfl rfl (unhide hDb) hD (by decide)) ((unhide lp).gr hB.gr)).mono fun _ _ h=>okx_opd (by have:=(unhide lp).len; rw [sealL_len] at this; omega) h hB.gr.size)).mono ?_)
 rintro r_ u2 ⟨v1,rfl,ho,hg⟩
 replace hB:=hB.more hg
 clear hg
 replace ho:=hide ho
 refine ⟨_,rfl,?_⟩
 clear hS_
 have hS_:=hide (show (fun v_=>v_.heap[w.heap.size]?=some (.cells (fl [bw Y,bw N,bw D]) 66 (0,0))) u2 from (hB.get 0 (x:=⟨w.heap.size,fl [bw Y,bw N,bw D],66⟩) rfl))
 refine hK.out _ _ (unhide hS_) (fun _=>?_)
 clear hK K
 simp only [nrm]
 refine any_tk 8 v1 (tf 12 8) rfl (fun x_ hu=>by kernel_rfl) (unhide hS_) ?_
 simp only [nrm]
 refine any_tk 9 (.int .i64 0) (tf 12 9) rfl (fun x_ hu=>by kernel_rfl) (unhide hS_) ?_
 simp only [nrm]
 refine any_one (i:=10) (by kernel_rfl) rfl (fun K hK=>?_)
 replace hK:=hide hK
 go_simp
 refine (unhide hK).out _ _ (unhide hS_) (fun _=>?_)
 clear hK K
 simp only [nrm]
 refine any_one (i:=11) (by kernel_rfl) rfl (fun K hK=>?_)
 replace hK:=hide hK
 go_simp
 refine (unhide hK).out _ _ (unhide hS_) (fun _=>?_)
 clear hK K
 simp only [nrm]
 refine any_done (by kernel_rfl) ?_
 clear hS_
 replace hB:=hide hB
 go_wp2_with fail
 replace hB:=unhide hB
 rw [unhide hT]
 exact (⟨_,rfl,unhide ho,hB.gr⟩)
set_option maxHeartbeats 4000000 in
theorem vopen_no (Y N D:List Int) (hY:Y.length=32) (hN:N.length=12) (hD:D.length=16) (hYb:IsB Y) (hNb:IsB N) (hDb:IsB D) (P:List Int) (s:Option Addr) (n c:Nat) (hn:n≤20000) (w:World) (lp:Lb w s n c P) (hno:∀ M,IsB M→P≠sealL Y N D M):Calls Tryz.prog 30 #[.agg (fl [bw Y,bw N,bw D]),.slice s n c] w (Shut8 w):=by
 obtain ⟨T,hT⟩:∃ T:Ending→World→Prop,T=(Shut8 w):=⟨_,rfl⟩
 rw [← hT]
 replace hT:=hide hT
 obtain ⟨A0_,hA0_⟩:∃ S_,S_=fl [bw Y,bw N,bw D]:=⟨_,rfl⟩
 rw [← hA0_]
 replace hA0_:=hide hA0_
 replace hYb:=hide hYb
 replace hNb:=hide hNb
 replace hDb:=hide hDb
 replace lp:=hide lp
 go_enter Tryz.func30,Tryz.ntmps30
 go_upto_region 1 with fail
 have hB:=((Bl.nil w).new A0_ 66)
 simp only [size_alloc,List.nil_append,List.cons_append] at hB
 rw [unhide hA0_] at hB
 generalize hu_:World.alloc _ _=u0
 replace hB:Bl w [⟨w.heap.size,fl [bw Y,bw N,bw D],66⟩] u0:=by
  rw [← hu_]
  rw [unhide hA0_]
  exact hB
 clear hu_ hA0_
 refine any_start (S:=fun v_=>v_.heap[w.heap.size]?=some (.cells (fl [bw Y,bw N,bw D]) 66 (0,0))) (by kernel_rfl) ?_
 replace hB:=hB.drew
 generalize World.drew _=u1 at *
 simp only [List.size_toArray,List.length_cons,List.length_nil,Array.replicate,List.replicate]
 have hS_:=hide (show (fun v_=>v_.heap[w.heap.size]?=some (.cells (fl [bw Y,bw N,bw D]) 66 (0,0))) u1 from (hB.get 0 (x:=⟨w.heap.size,fl [bw Y,bw N,bw D],66⟩) rfl))
 refine any_tk 0 (.pointer (some ⟨w.heap.size,0,none⟩)) (tf 12 0) rfl (fun x_ hu=>by kernel_rfl) (unhide hS_) ?_
 simp only [nrm]
 refine any_tk 1 (.agg (kc Y)) (tf 12 1) rfl (fun x_ hu=>exec_sa _ 23 (.tmp 6) rfl (w.heap.size) 0 (by kernel_rfl) hu NTm (nT hY hN hD) 0 Y rfl rfl Tryz.underlying23 rfl (n:=32) rfl Tryz.infoKey) (unhide hS_) ?_
 simp only [nrm]
 refine any_tk 2 (.pointer (some ⟨w.heap.size,32,none⟩)) (tf 12 2) rfl (fun x_ hu=>by kernel_rfl) (unhide hS_) ?_
 simp only [nrm]
 refine any_tk 3 (.agg (kc N)) (tf 12 3) rfl (fun x_ hu=>exec_sa _ 64 (.tmp 8) rfl (w.heap.size) 32 (by kernel_rfl) hu NTm (nT hY hN hD) 1 N rfl rfl Tryz.underlying64 rfl (n:=12) rfl Tryz.infoN) (unhide hS_) ?_
 simp only [nrm]
 refine any_tk 4 (.pointer (some ⟨w.heap.size,44,none⟩)) (tf 12 4) rfl (fun x_ hu=>by kernel_rfl) (unhide hS_) ?_
 simp only [nrm]
 refine any_tk 5 (.slice (some ⟨w.heap.size,44,none⟩) 16 16) (tf 12 5) rfl (fun x_ hu=>by kernel_rfl) (unhide hS_) ?_
 simp only [nrm]
 refine any_tk 6 (.slice s n c) (tf 12 6) rfl (fun x_ hu=>by kernel_rfl) (unhide hS_) ?_
 simp only [nrm]
 refine any_one (i:=7) (by kernel_rfl) rfl (fun K hK=>?_)
 refine step_callw (by kernel_rfl) 51 #[.agg (kc Y),.agg (kc N),.slice (some ⟨w.heap.size,44,none⟩) 16 16,.slice s n c] (by kernel_rfl) ((open_no Y N hY hN (unhide hYb) (unhide hNb) D P (some ⟨w.heap.size,44,none⟩) s 16 n 16 c hn u1 (seg_lb (nT hY hN hD) (hB.get 0 (x:=⟨w.heap.size,fl [bw Y,bw N,bw D],66⟩) rfl) 2 rfl rfl (unhide hDb) hD (by decide)) ((unhide lp).gr hB.gr) hno).mono ?_)
 rintro r_ u2 ⟨rfl,hg⟩
 replace hB:=hB.more hg
 clear hg
 refine ⟨_,rfl,?_⟩
 clear hS_
 have hS_:=hide (show (fun v_=>v_.heap[w.heap.size]?=some (.cells (fl [bw Y,bw N,bw D]) 66 (0,0))) u2 from (hB.get 0 (x:=⟨w.heap.size,fl [bw Y,bw N,bw D],66⟩) rfl))
 refine hK.out _ _ (unhide hS_) (fun _=>?_)
 clear hK K
 simp only [nrm]
 refine any_tk 8 (.slice none 0 0) (tf 12 8) rfl (fun x_ hu=>by kernel_rfl) (unhide hS_) ?_
 simp only [nrm]
 refine any_tk 9 (.int .i64 180) (tf 12 9) rfl (fun x_ hu=>by kernel_rfl) (unhide hS_) ?_
 simp only [nrm]
 refine any_one (i:=10) (by kernel_rfl) rfl (fun K hK=>?_)
 replace hK:=hide hK
 go_simp
 refine (unhide hK).out _ _ (unhide hS_) (fun _=>?_)
 clear hK K
 simp only [nrm]
 refine any_one (i:=11) (by kernel_rfl) rfl (fun K hK=>?_)
 replace hK:=hide hK
 go_simp
 refine (unhide hK).out _ _ (unhide hS_) (fun _=>?_)
 clear hK K
 simp only [nrm]
 refine any_done (by kernel_rfl) ?_
 clear hS_
 replace hB:=hide hB
 go_wp2_with fail
 replace hB:=unhide hB
 rw [unhide hT]
 exact (⟨rfl,hB.gr⟩)
end Go.Proofs.YthahhglbeafkmaaGreatDoor
namespace Go.Proofs.YthahhglbeafkmaaGreatDoor
open Go.RowKit
set_option maxRecDepth 100000
set_option linter.unusedSimpArgs false
set_option linter.unusedVariables false
set_option maxHeartbeats 4000000 in
theorem unread_291 (a:Option Addr) (n c:Nat) (w:World)  : Calls Tryz.prog 29 #[.int .u64 0,.slice a n c] w (Vl (.int .i64 291) w):=by
 obtain ⟨T,hT⟩:∃ T:Ending→World→Prop,T=Vl (.int .i64 291) w:=⟨_,rfl⟩
 rw [← hT]
 replace hT:=hide hT
 go_enter Tryz.func29,Tryz.ntmps29
 refine wp_seq ?_
 go_wp2_with fail
 refine wp_scope_jumps 0 (fun a' w'=>w'=w∧a'=⟨#[.int .u64 0,.slice a n c,undef,undef,.int .i64 0,.int .u64 0,.bool true,undef,undef,undef,undef,undef,undef],[]⟩) (fun _ _=>0) rfl ?first ?pass
 case first =>
  go_wp2_with fail
  refine wp_goto ?_
  exact ⟨rfl,rfl,rfl⟩
 case pass =>
  rintro _ _ ⟨hg,rfl⟩
  go_wp2_with fail
  rw [unhide hT]
  exact ⟨rfl,hg ▸ Gr.refl _⟩
set_option maxHeartbeats 4000000 in
theorem unread_240 (r:Int) (hr0:r≠0) (a:Option Addr) (n c:Nat) (hn:n≠130) (w:World)  : Calls Tryz.prog 29 #[.int .u64 r,.slice a n c] w (Vl (.int .i64 240) w):=by
 obtain ⟨T,hT⟩:∃ T:Ending→World→Prop,T=Vl (.int .i64 240) w:=⟨_,rfl⟩
 rw [← hT]
 replace hT:=hide hT
 have hn1:¬ (n:Int)=130:=by omega
 go_enter Tryz.func29,Tryz.ntmps29
 refine wp_seq ?_
 go_wp2_with fail
 refine wp_scope_jumps 1 (fun a' w'=>w'=w∧a'=⟨#[.int .u64 r,.slice a n c,undef,undef,.int .i64 0,.int .u64 r,.bool (r == 0),.slice a n c,.int .i64 n,.bool ((n:Int) != 130),undef,undef,undef],[]⟩) (fun _ _=>0) rfl ?first ?pass
 case first =>
  go_wp2_with fail
  refine wp_goto ?_
  exact ⟨rfl,rfl,rfl⟩
 case pass =>
  rintro _ _ ⟨hg,rfl⟩
  go_wp2_with fail
  rw [unhide hT]
  exact ⟨rfl,hg ▸ Gr.refl _⟩
set_option maxHeartbeats 4000000 in
theorem unread_290 (r:Int) (hr0:r≠0) (a:Option Addr) (c:Nat) (L:List Int) (w:World) (lp:Lb w a 130 c L) (hL:L=Z130):Calls Tryz.prog 29 #[.int .u64 r,.slice a 130 c] w (Vl (.int .i64 290) w):=by
 obtain ⟨T,hT⟩:∃ T:Ending→World→Prop,T=Vl (.int .i64 290) w:=⟨_,rfl⟩
 rw [← hT]
 replace hT:=hide hT
 go_enter Tryz.func29,Tryz.ntmps29
 refine wp_seq ?_
 go_wp2_with fail
 refine wp_scope_jumps 2 (fun a' w'=>Gr w w'∧∃ g,a'=⟨#[.int .u64 r,.slice a 130 c,undef,undef,.int .i64 0,.int .u64 r,.bool (r == 0),.slice a 130 c,.int .i64 130,.bool false,.slice a 130 c,.slice (some ⟨g,0,none⟩) 130 130,.bool true],[]⟩) (fun _ _=>0) rfl ?first ?pass
 case first =>
  replace lp:=hide lp
  replace hL:=hide hL
  go_upto_region 3 with fail
  refine wp_region_lit ?_
  refine lvk (.slice a 130 c) ?_
  simp only [nrm]
  refine list_call 16 #[] (by kernel_rfl) (by kernel_rfl) ((vempty_ok w).mono ?_)
  rintro r_ u1 ⟨g,rfl,hg1,hg2,hg3⟩
  refine ⟨_,rfl,?_⟩
  simp only [nrm]
  refine list_call 50 #[.slice a 130 c,.slice (some ⟨g,0,none⟩) 130 130] (by kernel_rfl) (by kernel_rfl) ((oequal_ok L Z130 a (some ⟨g,0,none⟩) 130 c 130 (by decide) u1 ((unhide lp).gr hg3) (nw_lb hg2 (isB_rep 130) rfl (by decide))).mono ?_)
  rintro r_ u2 ⟨rfl,rfl⟩
  rw [show decide (L=Z130)=true from decide_eq_true (unhide hL)]
  refine ⟨_,rfl,?_⟩
  simp only [nrm]
  refine wpList_nil ?_
  go_wp2_with fail
  refine wp_goto ?_
  exact ⟨rfl,hg3,g,rfl⟩
 case pass =>
  rintro _ _ ⟨hg,g,rfl⟩
  go_wp2_with fail
  rw [unhide hT]
  exact ⟨rfl,hg⟩
set_option maxHeartbeats 4000000 in
theorem unread_0 (r:Int) (hr0:r≠0) (a:Option Addr) (c:Nat) (L:List Int) (w:World) (lp:Lb w a 130 c L) (hL:L≠Z130):Calls Tryz.prog 29 #[.int .u64 r,.slice a 130 c] w (Vl (.int .i64 0) w):=by
 obtain ⟨T,hT⟩:∃ T:Ending→World→Prop,T=Vl (.int .i64 0) w:=⟨_,rfl⟩
 rw [← hT]
 replace hT:=hide hT
 go_enter Tryz.func29,Tryz.ntmps29
 refine wp_seq ?_
 go_wp2_with fail
 refine wp_scope_straight ?_
 ·replace lp:=hide lp
  replace hL:=hide hL
  go_upto_region 3 with fail
  refine wp_region_lit ?_
  refine lvk (.slice a 130 c) ?_
  simp only [nrm]
  refine list_call 16 #[] (by kernel_rfl) (by kernel_rfl) ((vempty_ok w).mono ?_)
  rintro r_ u1 ⟨g,rfl,hg1,hg2,hg3⟩
  refine ⟨_,rfl,?_⟩
  simp only [nrm]
  refine list_call 50 #[.slice a 130 c,.slice (some ⟨g,0,none⟩) 130 130] (by kernel_rfl) (by kernel_rfl) ((oequal_ok L Z130 a (some ⟨g,0,none⟩) 130 c 130 (by decide) u1 ((unhide lp).gr hg3) (nw_lb hg2 (isB_rep 130) rfl (by decide))).mono ?_)
  rintro r_ u2 ⟨rfl,rfl⟩
  rw [show decide (L=Z130)=false from decide_eq_false (unhide hL)]
  refine ⟨_,rfl,?_⟩
  simp only [nrm]
  refine wpList_nil ?_
  go_wp2_with fail
  rw [unhide hT]
  exact ⟨rfl,hg3⟩
end Go.Proofs.YthahhglbeafkmaaGreatDoor
namespace Go.Proofs.YthahhglbeafkmaaGreatDoor
open Go.RowKit
set_option maxRecDepth 100000
set_option linter.unusedSimpArgs false
set_option linter.unusedVariables false
theorem evB_isB {k s:Int} (a:Int) {B:List Int} (hr:evR k s B=true) (hb:IsB B):IsB (evB k a s B):=by
 have hk:k=1∨k=0:=by
  unfold evR at hr
  simp only [Bool.or_eq_true,Bool.and_eq_true,beq_iff_eq] at hr
  rcases hr with h | h
  ·exact .inl h
  ·exact .inr h.1
 refine isB_append (isB_append (isB_append ?_ (lowL_isB _ _)) (lowL_isB _ _)) hb
 intro x hx
 rw [List.mem_singleton.1 hx]
 omega
set_option maxHeartbeats 4000000 in
theorem vreal_ok (Ky:List Int) (hKy:Ky.length=32) (hKb:IsB Ky) (f:Bool) (k a s:Int) (B:List Int) (hB0:B.length=105) (hBb:IsB B) (ha:U4 a) (hs:U4 s) (r:Int) (hr:0≤r) (Y N D P C:List Int) (w:World) (hF:Fst w) (hr0:r≠0) (he:evR k s B=true) (hY:Y=rkL r Ky f true) (hN:N=cntL r) (hD:D=drL r Ky) (hP:P=evB k a s B) (hC:C=sealL Y N D P):Calls Tryz.prog 7 #[.agg (fl [bw Ky,[.bool f]]),.int .u64 r,.agg (fl [[.int .i64 k],[.int .u32 a],[.int .u32 s],bw B])] w (Vl (.tuple #[.agg (fl [bw D,bw C]),.int .i64 0]) w):=by
 obtain ⟨T,hT⟩:∃ T:Ending→World→Prop,T=(Vl (.tuple #[.agg (fl [bw D,bw C]),.int .i64 0]) w):=⟨_,rfl⟩
 rw [← hT]
 replace hT:=hide hT
 have hYl:Y.length=32:=by rw [hY]; exact rkL_len _ _ _ _
 have hNl:N.length=12:=by rw [hN]; exact cntL_len _
 have hDl:D.length=16:=by rw [hD]; exact drL_len _ _
 have hYb:IsB Y:=by rw [hY]; exact rkL_isB _ _ _ _
 have hNb:IsB N:=by rw [hN]; exact cntL_isB _
 have hDb:IsB D:=by rw [hD]; exact drL_isB _ _
 have hPl:P.length=114:=by rw [hP]; exact evB_len _ _ _ hB0
 have hPb:IsB P:=by rw [hP]; exact evB_isB a he hBb
 have hCl:C.length=130:=by rw [hC,sealL_len',hPl]
 have hCb:IsB C:=by rw [hC]; exact sealL_isB _ _ _ _
 obtain ⟨A0_,hA0_⟩:∃ S_,S_=fl [bw Ky,[.bool f]]:=⟨_,rfl⟩
 rw [← hA0_]
 replace hA0_:=hide hA0_
 obtain ⟨A2_,hA2_⟩:∃ S_,S_=fl [[.int .i64 k],[.int .u32 a],[.int .u32 s],bw B]:=⟨_,rfl⟩
 rw [← hA2_]
 replace hA2_:=hide hA2_
 replace hY:=hide hY
 replace hN:=hide hN
 replace hD:=hide hD
 replace hF:=hide hF
 replace hKb:=hide hKb
 replace hYb:=hide hYb
 replace hNb:=hide hNb
 replace hDb:=hide hDb
 replace he:=hide he
 replace hP:=hide hP
 replace hC:=hide hC
 replace hPb:=hide hPb
 replace hCb:=hide hCb
 replace hBb:=hide hBb
 go_enter Tryz.func7,Tryz.ntmps7
 go_upto_region 1 with fail
 have hB:=((((Bl.nil w).new A0_ 25).new A2_ 30).new (fl [bw Z16,bw Z130]) 36)
 simp only [size_alloc,List.nil_append,List.cons_append] at hB
 rw [unhide hA0_,unhide hA2_] at hB
 generalize hu_:World.alloc _ _=u0
 replace hB:Bl w [⟨w.heap.size,fl [bw Ky,[.bool f]],25⟩,⟨w.heap.size+1,fl [[.int .i64 k],[.int .u32 a],[.int .u32 s],bw B],30⟩,⟨w.heap.size+1+1,fl [bw Z16,bw Z130],36⟩] u0:=by
  rw [← hu_]
  rw [unhide hA0_,unhide hA2_]
  exact hB
 clear hu_ hA0_ hA2_
 refine wp_region_lit ?_
 refine lvk (.int .u64 r) ?_
 simp only [nrm]
 refine list_val (.bool false) (by kernel_rfl) (eql_64 _ (.tmp 12) (.const (.int .u64 0)) r 0 false rfl (by kernel_rfl) (by kernel_rfl) (decide_eq_false hr0)) ?_
 simp only [nrm]
 refine wpList_nil ?_
 replace hB:=hide hB
 go_upto_region 3 with fail
 replace hB:=unhide hB
 refine wp_region_lit ?_
 refine list_val (.agg (fl [[.int .i64 k],[.int .u32 a],[.int .u32 s],bw B])) (by kernel_rfl) (exec_sw _ 30 (.tmp 5) rfl (w.heap.size+1) (by kernel_rfl) (hB.get 1 (x:=⟨w.heap.size+1,fl [[.int .i64 k],[.int .u32 a],[.int .u32 s],bw B],30⟩) rfl) NE (nE hB0 _ _ _) Tryz.underlying30 rfl (by kernel_rfl)) ?_
 simp only [nrm]
 refine list_call 21 #[.agg (fl [[.int .i64 k],[.int .u32 a],[.int .u32 s],bw B])] (by kernel_rfl) (by kernel_rfl) ((((show Calls Tryz.prog 21 #[.agg (fl [[.int .i64 k],[.int .u32 a],[.int .u32 s],bw B])] u0 (Pok P u0) from by rw [unhide hP]; exact putef_ok k a s B hB0 (unhide hBb) ha hs (unhide he) u0).mono fun _ _ h=>okx_pok h hB.gr.size)).mono ?_)
 rintro r_ u1 ⟨v1,rfl,ho,hg⟩
 replace hB:=hB.more hg
 clear hg
 obtain ⟨a1,c1,rfl,lp⟩:=ho.lb' (unhide hPb) 114 hPl
 clear ho
 replace lp:=hide lp
 have hs1:Hid (Sn u1 u1):=Gr.refl _
 refine ⟨_,rfl,?_⟩
 simp only [nrm]
 refine lvk (.tuple #[.slice a1 114 c1,.int .i64 0]) ?_
 simp only [nrm]
 refine lvk (.slice a1 114 c1) ?_
 simp only [nrm]
 refine lvk (.int .i64 0) ?_
 simp only [nrm]
 (refine wpList_step fun K hK=>?_; replace hK:=hide hK; go_simp; refine unhide hK _ _ ?_; clear hK K)
 (refine wpList_step fun K hK=>?_; replace hK:=hide hK; go_simp; refine unhide hK _ _ ?_; clear hK K)
 refine wpList_nil ?_
 replace hB:=hide hB
 go_upto_region 4 with fail
 replace hB:=unhide hB
 refine wp_region_lit ?_
 refine lvk (.int .i64 0) ?_
 simp only [nrm]
 refine list_val (.bool false) (by kernel_rfl) (neq_e _ (.tmp 20) (.const (.int .i64 0)) 0 0 false rfl (by kernel_rfl) (by kernel_rfl) (by decide)) ?_
 simp only [nrm]
 refine wpList_nil ?_
 replace hB:=hide hB
 go_upto_region 6 with fail
 replace hB:=unhide hB
 refine wp_region_lit ?_
 refine list_val (.agg (fl [bw Ky,[.bool f]])) (by kernel_rfl) (exec_sw _ 25 (.tmp 3) rfl (w.heap.size) (by kernel_rfl) (hB.get 0 (x:=⟨w.heap.size,fl [bw Ky,[.bool f]],25⟩) rfl) NP (nP hKy _) Tryz.underlying25 rfl (by kernel_rfl)) ?_
 simp only [nrm]
 refine lvk (.int .u64 r) ?_
 simp only [nrm]
 refine list_call 22 #[.agg (fl [bw Ky,[.bool f]]),.int .u64 r,.int .i64 0] (by kernel_rfl) (by kernel_rfl) ((terms_peer r hr Ky hKy (unhide hKb) f Y N D u1 ((unhide hF).gr hB.gr) (unhide hY) (unhide hN) (unhide hD)).mono ?_)
 rintro r_ u2 ⟨rfl,hg⟩
 replace hs1:=hide ((unhide hs1).gr hg)
 replace hB:=hB.more hg
 clear hg
 refine ⟨_,rfl,?_⟩
 simp only [nrm]
 have hge_hs1_10:=(unhide hs1).size
 refine list_valw (.pointer (some ⟨u2.heap.size,0,none⟩)) (u2.alloc (.cells (fl [bw Z32,bw ZN,bw Z16]) 66 (0,0))) (by kernel_rfl) (by kernel_rfl) ?_
 replace hB:=hB.new (fl [bw Z32,bw ZN,bw Z16]) 66
 simp only [List.nil_append,List.cons_append] at hB
 have hg:=(Gr.refl u2).alloc (.cells (fl [bw Z32,bw ZN,bw Z16]) 66 (0,0))
 replace hs1:=hide ((unhide hs1).gr hg)
 clear hg
 generalize World.alloc _ _=u3 at *
 generalize u2.heap.size=g10 at *
 replace hB:Bl w [⟨w.heap.size,fl [bw Ky,[.bool f]],25⟩,⟨w.heap.size+1,fl [[.int .i64 k],[.int .u32 a],[.int .u32 s],bw B],30⟩,⟨w.heap.size+1+1,fl [bw Z16,bw Z130],36⟩,⟨g10,fl [bw Z32,bw ZN,bw Z16],66⟩] u3:=hB
 simp only [nrm]
 have hzz_:Hid (u3.heap[g10]?=some (.cells (fl [bw Z32,bw ZN,bw Z16]) 66 (0,0))):=hide (hB.get 3 (x:=⟨g10,fl [bw Z32,bw ZN,bw Z16],66⟩) rfl)
 refine list_all 66 (.tmp 10) (.tmp 26) (g10) (S2:=[bw Y,bw N,bw D]) (by kernel_rfl) rfl (by kernel_rfl) (by kernel_rfl) hB 3 rfl NTm (nT (show List.length Z32=32 from rfl) (show List.length ZN=12 from rfl) (show List.length Z16=16 from rfl)) (nT hYl hNl hDl) (by kernel_rfl) (oT _ _ _) ?_
 intro u4 hB_ hbt_
 clear hB
 replace hB:Bl w [⟨w.heap.size,fl [bw Ky,[.bool f]],25⟩,⟨w.heap.size+1,fl [[.int .i64 k],[.int .u32 a],[.int .u32 s],bw B],30⟩,⟨w.heap.size+1+1,fl [bw Z16,bw Z130],36⟩,⟨g10,fl [bw Y,bw N,bw D],66⟩] u4:=hB_
 clear hB_
 replace hs1:=hide ((unhide hs1).bt hbt_ hge_hs1_10)
 clear hbt_ hzz_
 simp only [nrm]
 refine wpList_nil ?_
 replace hB:=hide hB
 go_upto_region 7 with fail
 replace hB:=unhide hB
 refine wp_region_lit ?_
 refine lvk (.pointer (some ⟨g10,44,none⟩)) ?_
 simp only [nrm]
 refine list_val (.agg (kc D)) (by kernel_rfl) (exec_sa _ 33 (.tmp 27) rfl (g10) 44 (by kernel_rfl) (hB.get 3 (x:=⟨g10,fl [bw Y,bw N,bw D],66⟩) rfl) NTm (nT hYl hNl hDl) 2 D rfl rfl Tryz.underlying33 rfl (n:=16) rfl Tryz.infoDrop) ?_
 simp only [nrm]
 refine list_val (.agg (fl [bw D,bw Z130])) (by kernel_rfl) (bX0 _ (.tmp 28) rfl hDl (by kernel_rfl)) ?_
 simp only [nrm]
 have hge_hs1_11:=(unhide hs1).size
 refine list_valw (.pointer (some ⟨u4.heap.size,0,none⟩)) (u4.alloc (.cells (fl [bw Z16,bw Z130]) 36 (0,0))) (by kernel_rfl) (by kernel_rfl) ?_
 replace hB:=hB.new (fl [bw Z16,bw Z130]) 36
 simp only [List.nil_append,List.cons_append] at hB
 have hg:=(Gr.refl u4).alloc (.cells (fl [bw Z16,bw Z130]) 36 (0,0))
 replace hs1:=hide ((unhide hs1).gr hg)
 clear hg
 generalize World.alloc _ _=u5 at *
 generalize u4.heap.size=g11 at *
 replace hB:Bl w [⟨w.heap.size,fl [bw Ky,[.bool f]],25⟩,⟨w.heap.size+1,fl [[.int .i64 k],[.int .u32 a],[.int .u32 s],bw B],30⟩,⟨w.heap.size+1+1,fl [bw Z16,bw Z130],36⟩,⟨g10,fl [bw Y,bw N,bw D],66⟩,⟨g11,fl [bw Z16,bw Z130],36⟩] u5:=hB
 simp only [nrm]
 have hzz_:Hid (u5.heap[g11]?=some (.cells (fl [bw Z16,bw Z130]) 36 (0,0))):=hide (hB.get 4 (x:=⟨g11,fl [bw Z16,bw Z130],36⟩) rfl)
 refine list_all 36 (.tmp 11) (.tmp 29) (g11) (S2:=[bw D,bw Z130]) (by kernel_rfl) rfl (by kernel_rfl) (by kernel_rfl) hB 4 rfl NX (nX (show List.length Z16=16 from rfl) (show List.length Z130=130 from rfl)) (nX hDl (show List.length Z130=130 from rfl)) (by kernel_rfl) (oX _ _) ?_
 intro u6 hB_ hbt_
 clear hB
 replace hB:Bl w [⟨w.heap.size,fl [bw Ky,[.bool f]],25⟩,⟨w.heap.size+1,fl [[.int .i64 k],[.int .u32 a],[.int .u32 s],bw B],30⟩,⟨w.heap.size+1+1,fl [bw Z16,bw Z130],36⟩,⟨g10,fl [bw Y,bw N,bw D],66⟩,⟨g11,fl [bw D,bw Z130],36⟩] u6:=hB_
 clear hB_
 replace hs1:=hide ((unhide hs1).bt hbt_ hge_hs1_11)
 clear hbt_ hzz_
 simp only [nrm]
 refine wpList_nil ?_
 replace hB:=hide hB
 go_upto_region 8 with fail
 replace hB:=unhide hB
 refine any_start (S:=fun v_=>v_.heap[g10]?=some (.cells (fl [bw Y,bw N,bw D]) 66 (0,0))) (by kernel_rfl) ?_
 replace hs1:=hide ((unhide hs1).gr ((Gr.refl u6).drew))
 replace hB:=hB.drew
 generalize World.drew _=u7 at *
 simp only [List.size_toArray,List.length_cons,List.length_nil,Array.replicate,List.replicate]
 have hS_:=hide (show (fun v_=>v_.heap[g10]?=some (.cells (fl [bw Y,bw N,bw D]) 66 (0,0))) u7 from (hB.get 3 (x:=⟨g10,fl [bw Y,bw N,bw D],66⟩) rfl))
 refine any_tk 0 (.pointer (some ⟨g11,16,none⟩)) (tf 6 0) rfl (fun x_ hu=>by kernel_rfl) (unhide hS_) ?_
 simp only [nrm]
 refine any_tk 1 (.slice (some ⟨g11,16,none⟩) 130 130) (tf 6 1) rfl (fun x_ hu=>by kernel_rfl) (unhide hS_) ?_
 simp only [nrm]
 refine any_tk 2 (.agg (fl [bw Y,bw N,bw D])) (tf 6 2) rfl (fun x_ hu=>exec_sw _ 66 (.tmp 10) rfl (g10) (by kernel_rfl) hu NTm (nT hYl hNl hDl) Tryz.underlying66 rfl (by kernel_rfl)) (unhide hS_) ?_
 simp only [nrm]
 refine any_tk 3 (.slice a1 114 c1) (tf 6 3) rfl (fun x_ hu=>by kernel_rfl) (unhide hS_) ?_
 simp only [nrm]
 refine any_one (i:=4) (by kernel_rfl) rfl (fun K hK=>?_)
 refine step_callw (by kernel_rfl) 23 #[.agg (fl [bw Y,bw N,bw D]),.slice a1 114 c1] (by kernel_rfl) ((((show Calls Tryz.prog 23 #[.agg (fl [bw Y,bw N,bw D]),.slice a1 114 c1] u7 (Obd C u7) from by rw [unhide hC]; exact vseal_ok Y N D hYl hNl hDl (unhide hYb) (unhide hNb) (unhide hDb) P a1 114 c1 (by decide) u7 ((unhide lp).gr (unhide hs1).g)).mono fun _ _ h=>obx_of h hB.gr.size)).mono ?_)
 rintro r_ u8 ⟨v2,rfl,ho,hg⟩
 replace hs1:=hide ((unhide hs1).gr hg)
 replace hB:=hB.more hg
 clear hg
 obtain ⟨a2,c2,rfl,l2⟩:=ho.lb' (unhide hCb) 130 hCl
 clear ho
 replace l2:=hide l2
 refine ⟨_,rfl,?_⟩
 clear hS_
 have hS_:=hide (show (fun v_=>v_.heap[g10]?=some (.cells (fl [bw Y,bw N,bw D]) 66 (0,0))) u8 from (hB.get 3 (x:=⟨g10,fl [bw Y,bw N,bw D],66⟩) rfl))
 refine hK.out _ _ (unhide hS_) (fun _=>?_)
 clear hK K
 simp only [nrm]
 refine any_one (i:=5) (by kernel_rfl) rfl (fun K hK=>?_)
 rw [if_pos (by kernel_rfl)]
 refine copy_wp (.tmp 31) (.tmp 34) rfl (g11) 16 130 130 (a2) 130 c2 (by kernel_rfl) (by kernel_rfl) ([bw D,bw Z130].flatten) 36 (hB.get 4 (x:=⟨g11,fl [bw D,bw Z130],36⟩) rfl) C (by rw [hCl]; rfl) ((unhide l2).sl) (by rw [fl_flat (nX hDl (show List.length Z130=130 from rfl)),hCl]; decide) ?_
 replace hB:=hB.cells 4 (C:=([bw D,bw Z130].flatten)) rfl 16 (bw C)
 rw [show 16=(List.take 1 NX).sum from rfl,seg_set (nX hDl (show List.length Z130=130 from rfl)) 1 (bw C) (by rw [bw_len,hCl]; rfl)] at hB
 simp only [List.set_cons_zero,List.set_cons_succ] at hB
 replace hs1:=hide ((unhide hs1).bt (setCells_bt (List.map (Value.int .u8) C) u8 g11 16) hge_hs1_11)
 replace hB:Bl w [⟨w.heap.size,fl [bw Ky,[.bool f]],25⟩,⟨w.heap.size+1,fl [[.int .i64 k],[.int .u32 a],[.int .u32 s],bw B],30⟩,⟨w.heap.size+1+1,fl [bw Z16,bw Z130],36⟩,⟨g10,fl [bw Y,bw N,bw D],66⟩,⟨g11,fl [bw D,bw C],36⟩] (World.setCells u8 g11 16 (List.map (Value.int .u8) C)):=hB
 generalize World.setCells u8 g11 16 (List.map (Value.int .u8) C)=u9 at *
 clear hS_
 have hS_:=hide (show (fun v_=>v_.heap[g10]?=some (.cells (fl [bw Y,bw N,bw D]) 66 (0,0))) u9 from (hB.get 3 (x:=⟨g10,fl [bw Y,bw N,bw D],66⟩) rfl))
 refine hK.out _ _ (unhide hS_) (fun _=>?_)
 clear hK K
 simp only [nrm]
 refine any_done (by kernel_rfl) ?_
 clear hS_
 replace hB:=hide hB
 go_upto_region 9 with fail
 replace hB:=unhide hB
 refine wp_region_lit ?_
 refine list_val (.agg (fl [bw D,bw C])) (by kernel_rfl) (exec_sw _ 36 (.tmp 11) rfl (g11) (by kernel_rfl) (hB.get 4 (x:=⟨g11,fl [bw D,bw C],36⟩) rfl) NX (nX hDl hCl) Tryz.underlying36 rfl (by kernel_rfl)) ?_
 simp only [nrm]
 refine list_all 36 (.tmp 6) (.tmp 36) (w.heap.size+1+1) (S2:=[bw D,bw C]) (by kernel_rfl) rfl (by kernel_rfl) (by kernel_rfl) hB 2 rfl NX (nX (show List.length Z16=16 from rfl) (show List.length Z130=130 from rfl)) (nX hDl hCl) (by kernel_rfl) (oX _ _) ?_
 intro u10 hB_ hbt_
 clear hB
 replace hB:Bl w [⟨w.heap.size,fl [bw Ky,[.bool f]],25⟩,⟨w.heap.size+1,fl [[.int .i64 k],[.int .u32 a],[.int .u32 s],bw B],30⟩,⟨w.heap.size+1+1,fl [bw D,bw C],36⟩,⟨g10,fl [bw Y,bw N,bw D],66⟩,⟨g11,fl [bw D,bw C],36⟩] u10:=hB_
 clear hB_
 clear hbt_
 simp only [nrm]
 (refine wpList_step fun K hK=>?_; replace hK:=hide hK; go_simp; refine unhide hK _ _ ?_; clear hK K)
 refine wpList_nil ?_
 replace hB:=hide hB
 go_wp2_with fail
 replace hB:=unhide hB
 rw [unhide hT]
 exact bodyPost_ret (v:=.tuple #[.agg (fl [bw D,bw C]),.int .i64 0]) (res2 Tryz.results7 (rv_cell (by kernel_rfl) (hB.get 2 (x:=⟨w.heap.size+1+1,fl [bw D,bw C],36⟩) rfl) Tryz.underlying36 rfl (by rw [fl_size (nX hDl hCl)]; kernel_rfl)) (rv_tmp (by kernel_rfl))) rfl (⟨rfl,hB.gr⟩)
set_option maxHeartbeats 4000000 in
theorem vread_291 (Ky:List Int) (hKy:Ky.length=32) (hKb:IsB Ky) (f:Bool) (r:Int) (s:Option Addr) (n c:Nat) (w:World) (hu:∀ u,Gr w u→Calls Tryz.prog 29 #[.int .u64 r,.slice s n c] u (Vl (.int .i64 291) u)):Calls Tryz.prog 10 #[.agg (fl [bw Ky,[.bool f]]),.int .u64 r,.slice s n c] w (Vl (.tuple #[.agg (fl [[.int .i64 0],[.int .u32 0],[.int .u32 0],bw Z105]),.int .i64 291]) w):=by
 obtain ⟨T,hT⟩:∃ T:Ending→World→Prop,T=(Vl (.tuple #[.agg (fl [[.int .i64 0],[.int .u32 0],[.int .u32 0],bw Z105]),.int .i64 291]) w):=⟨_,rfl⟩
 rw [← hT]
 replace hT:=hide hT
 obtain ⟨A0_,hA0_⟩:∃ S_,S_=fl [bw Ky,[.bool f]]:=⟨_,rfl⟩
 rw [← hA0_]
 replace hA0_:=hide hA0_
 replace hu:=hide hu
 go_enter Tryz.func10,Tryz.ntmps10
 go_upto_region 1 with fail
 have hB:=(((Bl.nil w).new A0_ 25).new (fl [[.int .i64 0],[.int .u32 0],[.int .u32 0],bw Z105]) 30)
 simp only [size_alloc,List.nil_append,List.cons_append] at hB
 rw [unhide hA0_] at hB
 generalize hu_:World.alloc _ _=u0
 replace hB:Bl w [⟨w.heap.size,fl [bw Ky,[.bool f]],25⟩,⟨w.heap.size+1,fl [[.int .i64 0],[.int .u32 0],[.int .u32 0],bw Z105],30⟩] u0:=by
  rw [← hu_]
  rw [unhide hA0_]
  exact hB
 clear hu_ hA0_
 refine wp_region_lit ?_
 refine lvk (.int .u64 r) ?_
 simp only [nrm]
 refine lvk (.slice s n c) ?_
 simp only [nrm]
 refine list_call 29 #[.int .u64 r,.slice s n c] (by kernel_rfl) (by kernel_rfl) ((unhide hu u0 hB.gr).mono ?_)
 rintro r_ u1 ⟨rfl,hg⟩
 replace hB:=hB.more hg
 clear hg
 refine ⟨_,rfl,?_⟩
 simp only [nrm]
 (refine wpList_step fun K hK=>?_; replace hK:=hide hK; go_simp; refine unhide hK _ _ ?_; clear hK K)
 refine wpList_nil ?_
 replace hB:=hide hB
 go_upto_region 2 with fail
 replace hB:=unhide hB
 refine wp_region_lit ?_
 refine lvk (.int .i64 291) ?_
 simp only [nrm]
 refine list_val (.bool true) (by kernel_rfl) (neq_e _ (.tmp 14) (.const (.int .i64 0)) 291 0 true rfl (by kernel_rfl) (by kernel_rfl) (by decide)) ?_
 simp only [nrm]
 refine wpList_nil ?_
 replace hB:=hide hB
 go_upto_region 3 with fail
 replace hB:=unhide hB
 refine wp_region_lit ?_
 refine list_val (.agg (fl [[.int .i64 0],[.int .u32 0],[.int .u32 0],bw Z105])) (by kernel_rfl) (bE _ rfl) ?_
 simp only [nrm]
 refine lvk (.int .i64 291) ?_
 simp only [nrm]
 refine list_all 30 (.tmp 6) (.tmp 16) (w.heap.size+1) (S2:=[[.int .i64 0],[.int .u32 0],[.int .u32 0],bw Z105]) (by kernel_rfl) rfl (by kernel_rfl) (by kernel_rfl) hB 1 rfl NE (nE (show List.length Z105=105 from rfl) _ _ _) (nE (show List.length Z105=105 from rfl) _ _ _) (by kernel_rfl) (oE _ rfl rfl rfl) ?_
 intro u2 hB_ hbt_
 clear hB
 replace hB:Bl w [⟨w.heap.size,fl [bw Ky,[.bool f]],25⟩,⟨w.heap.size+1,fl [[.int .i64 0],[.int .u32 0],[.int .u32 0],bw Z105],30⟩] u2:=hB_
 clear hB_
 clear hbt_
 simp only [nrm]
 (refine wpList_step fun K hK=>?_; replace hK:=hide hK; go_simp; refine unhide hK _ _ ?_; clear hK K)
 refine wpList_nil ?_
 replace hB:=hide hB
 go_wp2_with fail
 replace hB:=unhide hB
 rw [unhide hT]
 exact bodyPost_ret (v:=.tuple #[.agg (fl [[.int .i64 0],[.int .u32 0],[.int .u32 0],bw Z105]),.int .i64 291]) (res2 Tryz.results10 (rv_cell (by kernel_rfl) (hB.get 1 (x:=⟨w.heap.size+1,fl [[.int .i64 0],[.int .u32 0],[.int .u32 0],bw Z105],30⟩) rfl) Tryz.underlying30 rfl (by rw [fl_size (nE (show List.length Z105=105 from rfl) _ _ _)]; kernel_rfl)) (rv_tmp (by kernel_rfl))) rfl (⟨rfl,hB.gr⟩)
set_option maxHeartbeats 4000000 in
theorem vread_240 (Ky:List Int) (hKy:Ky.length=32) (hKb:IsB Ky) (f:Bool) (r:Int) (s:Option Addr) (n c:Nat) (w:World) (hu:∀ u,Gr w u→Calls Tryz.prog 29 #[.int .u64 r,.slice s n c] u (Vl (.int .i64 240) u)):Calls Tryz.prog 10 #[.agg (fl [bw Ky,[.bool f]]),.int .u64 r,.slice s n c] w (Vl (.tuple #[.agg (fl [[.int .i64 0],[.int .u32 0],[.int .u32 0],bw Z105]),.int .i64 240]) w):=by
 obtain ⟨T,hT⟩:∃ T:Ending→World→Prop,T=(Vl (.tuple #[.agg (fl [[.int .i64 0],[.int .u32 0],[.int .u32 0],bw Z105]),.int .i64 240]) w):=⟨_,rfl⟩
 rw [← hT]
 replace hT:=hide hT
 obtain ⟨A0_,hA0_⟩:∃ S_,S_=fl [bw Ky,[.bool f]]:=⟨_,rfl⟩
 rw [← hA0_]
 replace hA0_:=hide hA0_
 replace hu:=hide hu
 go_enter Tryz.func10,Tryz.ntmps10
 go_upto_region 1 with fail
 have hB:=(((Bl.nil w).new A0_ 25).new (fl [[.int .i64 0],[.int .u32 0],[.int .u32 0],bw Z105]) 30)
 simp only [size_alloc,List.nil_append,List.cons_append] at hB
 rw [unhide hA0_] at hB
 generalize hu_:World.alloc _ _=u0
 replace hB:Bl w [⟨w.heap.size,fl [bw Ky,[.bool f]],25⟩,⟨w.heap.size+1,fl [[.int .i64 0],[.int .u32 0],[.int .u32 0],bw Z105],30⟩] u0:=by
  rw [← hu_]
  rw [unhide hA0_]
  exact hB
 clear hu_ hA0_
 refine wp_region_lit ?_
 refine lvk (.int .u64 r) ?_
 simp only [nrm]
 refine lvk (.slice s n c) ?_
 simp only [nrm]
 refine list_call 29 #[.int .u64 r,.slice s n c] (by kernel_rfl) (by kernel_rfl) ((unhide hu u0 hB.gr).mono ?_)
 rintro r_ u1 ⟨rfl,hg⟩
 replace hB:=hB.more hg
 clear hg
 refine ⟨_,rfl,?_⟩
 simp only [nrm]
 (refine wpList_step fun K hK=>?_; replace hK:=hide hK; go_simp; refine unhide hK _ _ ?_; clear hK K)
 refine wpList_nil ?_
 replace hB:=hide hB
 go_upto_region 2 with fail
 replace hB:=unhide hB
 refine wp_region_lit ?_
 refine lvk (.int .i64 240) ?_
 simp only [nrm]
 refine list_val (.bool true) (by kernel_rfl) (neq_e _ (.tmp 14) (.const (.int .i64 0)) 240 0 true rfl (by kernel_rfl) (by kernel_rfl) (by decide)) ?_
 simp only [nrm]
 refine wpList_nil ?_
 replace hB:=hide hB
 go_upto_region 3 with fail
 replace hB:=unhide hB
 refine wp_region_lit ?_
 refine list_val (.agg (fl [[.int .i64 0],[.int .u32 0],[.int .u32 0],bw Z105])) (by kernel_rfl) (bE _ rfl) ?_
 simp only [nrm]
 refine lvk (.int .i64 240) ?_
 simp only [nrm]
 refine list_all 30 (.tmp 6) (.tmp 16) (w.heap.size+1) (S2:=[[.int .i64 0],[.int .u32 0],[.int .u32 0],bw Z105]) (by kernel_rfl) rfl (by kernel_rfl) (by kernel_rfl) hB 1 rfl NE (nE (show List.length Z105=105 from rfl) _ _ _) (nE (show List.length Z105=105 from rfl) _ _ _) (by kernel_rfl) (oE _ rfl rfl rfl) ?_
 intro u2 hB_ hbt_
 clear hB
 replace hB:Bl w [⟨w.heap.size,fl [bw Ky,[.bool f]],25⟩,⟨w.heap.size+1,fl [[.int .i64 0],[.int .u32 0],[.int .u32 0],bw Z105],30⟩] u2:=hB_
 clear hB_
 clear hbt_
 simp only [nrm]
 (refine wpList_step fun K hK=>?_; replace hK:=hide hK; go_simp; refine unhide hK _ _ ?_; clear hK K)
 refine wpList_nil ?_
 replace hB:=hide hB
 go_wp2_with fail
 replace hB:=unhide hB
 rw [unhide hT]
 exact bodyPost_ret (v:=.tuple #[.agg (fl [[.int .i64 0],[.int .u32 0],[.int .u32 0],bw Z105]),.int .i64 240]) (res2 Tryz.results10 (rv_cell (by kernel_rfl) (hB.get 1 (x:=⟨w.heap.size+1,fl [[.int .i64 0],[.int .u32 0],[.int .u32 0],bw Z105],30⟩) rfl) Tryz.underlying30 rfl (by rw [fl_size (nE (show List.length Z105=105 from rfl) _ _ _)]; kernel_rfl)) (rv_tmp (by kernel_rfl))) rfl (⟨rfl,hB.gr⟩)
set_option maxHeartbeats 4000000 in
theorem vread_290 (Ky:List Int) (hKy:Ky.length=32) (hKb:IsB Ky) (f:Bool) (r:Int) (s:Option Addr) (n c:Nat) (w:World) (hu:∀ u,Gr w u→Calls Tryz.prog 29 #[.int .u64 r,.slice s n c] u (Vl (.int .i64 290) u)):Calls Tryz.prog 10 #[.agg (fl [bw Ky,[.bool f]]),.int .u64 r,.slice s n c] w (Vl (.tuple #[.agg (fl [[.int .i64 0],[.int .u32 0],[.int .u32 0],bw Z105]),.int .i64 290]) w):=by
 obtain ⟨T,hT⟩:∃ T:Ending→World→Prop,T=(Vl (.tuple #[.agg (fl [[.int .i64 0],[.int .u32 0],[.int .u32 0],bw Z105]),.int .i64 290]) w):=⟨_,rfl⟩
 rw [← hT]
 replace hT:=hide hT
 obtain ⟨A0_,hA0_⟩:∃ S_,S_=fl [bw Ky,[.bool f]]:=⟨_,rfl⟩
 rw [← hA0_]
 replace hA0_:=hide hA0_
 replace hu:=hide hu
 go_enter Tryz.func10,Tryz.ntmps10
 go_upto_region 1 with fail
 have hB:=(((Bl.nil w).new A0_ 25).new (fl [[.int .i64 0],[.int .u32 0],[.int .u32 0],bw Z105]) 30)
 simp only [size_alloc,List.nil_append,List.cons_append] at hB
 rw [unhide hA0_] at hB
 generalize hu_:World.alloc _ _=u0
 replace hB:Bl w [⟨w.heap.size,fl [bw Ky,[.bool f]],25⟩,⟨w.heap.size+1,fl [[.int .i64 0],[.int .u32 0],[.int .u32 0],bw Z105],30⟩] u0:=by
  rw [← hu_]
  rw [unhide hA0_]
  exact hB
 clear hu_ hA0_
 refine wp_region_lit ?_
 refine lvk (.int .u64 r) ?_
 simp only [nrm]
 refine lvk (.slice s n c) ?_
 simp only [nrm]
 refine list_call 29 #[.int .u64 r,.slice s n c] (by kernel_rfl) (by kernel_rfl) ((unhide hu u0 hB.gr).mono ?_)
 rintro r_ u1 ⟨rfl,hg⟩
 replace hB:=hB.more hg
 clear hg
 refine ⟨_,rfl,?_⟩
 simp only [nrm]
 (refine wpList_step fun K hK=>?_; replace hK:=hide hK; go_simp; refine unhide hK _ _ ?_; clear hK K)
 refine wpList_nil ?_
 replace hB:=hide hB
 go_upto_region 2 with fail
 replace hB:=unhide hB
 refine wp_region_lit ?_
 refine lvk (.int .i64 290) ?_
 simp only [nrm]
 refine list_val (.bool true) (by kernel_rfl) (neq_e _ (.tmp 14) (.const (.int .i64 0)) 290 0 true rfl (by kernel_rfl) (by kernel_rfl) (by decide)) ?_
 simp only [nrm]
 refine wpList_nil ?_
 replace hB:=hide hB
 go_upto_region 3 with fail
 replace hB:=unhide hB
 refine wp_region_lit ?_
 refine list_val (.agg (fl [[.int .i64 0],[.int .u32 0],[.int .u32 0],bw Z105])) (by kernel_rfl) (bE _ rfl) ?_
 simp only [nrm]
 refine lvk (.int .i64 290) ?_
 simp only [nrm]
 refine list_all 30 (.tmp 6) (.tmp 16) (w.heap.size+1) (S2:=[[.int .i64 0],[.int .u32 0],[.int .u32 0],bw Z105]) (by kernel_rfl) rfl (by kernel_rfl) (by kernel_rfl) hB 1 rfl NE (nE (show List.length Z105=105 from rfl) _ _ _) (nE (show List.length Z105=105 from rfl) _ _ _) (by kernel_rfl) (oE _ rfl rfl rfl) ?_
 intro u2 hB_ hbt_
 clear hB
 replace hB:Bl w [⟨w.heap.size,fl [bw Ky,[.bool f]],25⟩,⟨w.heap.size+1,fl [[.int .i64 0],[.int .u32 0],[.int .u32 0],bw Z105],30⟩] u2:=hB_
 clear hB_
 clear hbt_
 simp only [nrm]
 (refine wpList_step fun K hK=>?_; replace hK:=hide hK; go_simp; refine unhide hK _ _ ?_; clear hK K)
 refine wpList_nil ?_
 replace hB:=hide hB
 go_wp2_with fail
 replace hB:=unhide hB
 rw [unhide hT]
 exact bodyPost_ret (v:=.tuple #[.agg (fl [[.int .i64 0],[.int .u32 0],[.int .u32 0],bw Z105]),.int .i64 290]) (res2 Tryz.results10 (rv_cell (by kernel_rfl) (hB.get 1 (x:=⟨w.heap.size+1,fl [[.int .i64 0],[.int .u32 0],[.int .u32 0],bw Z105],30⟩) rfl) Tryz.underlying30 rfl (by rw [fl_size (nE (show List.length Z105=105 from rfl) _ _ _)]; kernel_rfl)) (rv_tmp (by kernel_rfl))) rfl (⟨rfl,hB.gr⟩)
set_option maxHeartbeats 4000000 in
theorem vread_shut (Ky:List Int) (hKy:Ky.length=32) (hKb:IsB Ky) (f:Bool) (r:Int) (hr:0≤r) (s:Option Addr) (n c:Nat) (hn:n≤20000) (Y N D L:List Int) (w:World) (hF:Fst w) (hu:∀ u,Gr w u→Calls Tryz.prog 29 #[.int .u64 r,.slice s n c] u (Vl (.int .i64 0) u)) (hY:Y=rkL r Ky f false) (hN:N=cntL r) (hD:D=drL r Ky) (lp:Lb w s n c L) (hno:∀ M,IsB M→L≠sealL Y N D M):Calls Tryz.prog 10 #[.agg (fl [bw Ky,[.bool f]]),.int .u64 r,.slice s n c] w (Vl (.tuple #[.agg (fl [[.int .i64 0],[.int .u32 0],[.int .u32 0],bw Z105]),.int .i64 180]) w):=by
 obtain ⟨T,hT⟩:∃ T:Ending→World→Prop,T=(Vl (.tuple #[.agg (fl [[.int .i64 0],[.int .u32 0],[.int .u32 0],bw Z105]),.int .i64 180]) w):=⟨_,rfl⟩
 rw [← hT]
 replace hT:=hide hT
 have hYl:Y.length=32:=by rw [hY]; exact rkL_len _ _ _ _
 have hNl:N.length=12:=by rw [hN]; exact cntL_len _
 have hDl:D.length=16:=by rw [hD]; exact drL_len _ _
 have hYb:IsB Y:=by rw [hY]; exact rkL_isB _ _ _ _
 have hNb:IsB N:=by rw [hN]; exact cntL_isB _
 have hDb:IsB D:=by rw [hD]; exact drL_isB _ _
 obtain ⟨A0_,hA0_⟩:∃ S_,S_=fl [bw Ky,[.bool f]]:=⟨_,rfl⟩
 rw [← hA0_]
 replace hA0_:=hide hA0_
 replace hY:=hide hY
 replace hN:=hide hN
 replace hD:=hide hD
 replace hF:=hide hF
 replace hKb:=hide hKb
 replace hYb:=hide hYb
 replace hNb:=hide hNb
 replace hDb:=hide hDb
 replace hu:=hide hu
 replace lp:=hide lp
 replace hno:=hide hno
 go_enter Tryz.func10,Tryz.ntmps10
 go_upto_region 1 with fail
 have hB:=(((Bl.nil w).new A0_ 25).new (fl [[.int .i64 0],[.int .u32 0],[.int .u32 0],bw Z105]) 30)
 simp only [size_alloc,List.nil_append,List.cons_append] at hB
 rw [unhide hA0_] at hB
 generalize hu_:World.alloc _ _=u0
 replace hB:Bl w [⟨w.heap.size,fl [bw Ky,[.bool f]],25⟩,⟨w.heap.size+1,fl [[.int .i64 0],[.int .u32 0],[.int .u32 0],bw Z105],30⟩] u0:=by
  rw [← hu_]
  rw [unhide hA0_]
  exact hB
 clear hu_ hA0_
 refine wp_region_lit ?_
 refine lvk (.int .u64 r) ?_
 simp only [nrm]
 refine lvk (.slice s n c) ?_
 simp only [nrm]
 refine list_call 29 #[.int .u64 r,.slice s n c] (by kernel_rfl) (by kernel_rfl) ((unhide hu u0 hB.gr).mono ?_)
 rintro r_ u1 ⟨rfl,hg⟩
 replace hB:=hB.more hg
 clear hg
 refine ⟨_,rfl,?_⟩
 simp only [nrm]
 (refine wpList_step fun K hK=>?_; replace hK:=hide hK; go_simp; refine unhide hK _ _ ?_; clear hK K)
 refine wpList_nil ?_
 replace hB:=hide hB
 go_upto_region 2 with fail
 replace hB:=unhide hB
 refine wp_region_lit ?_
 refine lvk (.int .i64 0) ?_
 simp only [nrm]
 refine list_val (.bool false) (by kernel_rfl) (neq_e _ (.tmp 14) (.const (.int .i64 0)) 0 0 false rfl (by kernel_rfl) (by kernel_rfl) (by decide)) ?_
 simp only [nrm]
 refine wpList_nil ?_
 replace hB:=hide hB
 go_upto_region 4 with fail
 replace hB:=unhide hB
 refine wp_region_lit ?_
 refine list_val (.agg (fl [bw Ky,[.bool f]])) (by kernel_rfl) (exec_sw _ 25 (.tmp 3) rfl (w.heap.size) (by kernel_rfl) (hB.get 0 (x:=⟨w.heap.size,fl [bw Ky,[.bool f]],25⟩) rfl) NP (nP hKy _) Tryz.underlying25 rfl (by kernel_rfl)) ?_
 simp only [nrm]
 refine lvk (.int .u64 r) ?_
 simp only [nrm]
 refine list_call 22 #[.agg (fl [bw Ky,[.bool f]]),.int .u64 r,.int .i64 1] (by kernel_rfl) (by kernel_rfl) ((terms_me r hr Ky hKy (unhide hKb) f Y N D u1 ((unhide hF).gr hB.gr) (unhide hY) (unhide hN) (unhide hD)).mono ?_)
 rintro r_ u2 ⟨rfl,hg⟩
 replace hB:=hB.more hg
 clear hg
 refine ⟨_,rfl,?_⟩
 simp only [nrm]
 refine lvk (.slice s n c) ?_
 simp only [nrm]
 refine list_call 30 #[.agg (fl [bw Y,bw N,bw D]),.slice s n c] (by kernel_rfl) (by kernel_rfl) ((vopen_no Y N D hYl hNl hDl (unhide hYb) (unhide hNb) (unhide hDb) L s n c hn u2 ((unhide lp).gr hB.gr) (unhide hno)).mono ?_)
 rintro r_ u3 ⟨rfl,hg⟩
 replace hB:=hB.more hg
 clear hg
 refine ⟨_,rfl,?_⟩
 simp only [nrm]
 refine lvk (.tuple #[.slice none 0 0,.int .i64 180]) ?_
 simp only [nrm]
 refine lvk (.slice none 0 0) ?_
 simp only [nrm]
 refine lvk (.int .i64 180) ?_
 simp only [nrm]
 (refine wpList_step fun K hK=>?_; replace hK:=hide hK; go_simp; refine unhide hK _ _ ?_; clear hK K)
 (refine wpList_step fun K hK=>?_; replace hK:=hide hK; go_simp; refine unhide hK _ _ ?_; clear hK K)
 refine wpList_nil ?_
 replace hB:=hide hB
 go_upto_region 5 with fail
 replace hB:=unhide hB
 refine wp_region_lit ?_
 refine lvk (.int .i64 180) ?_
 simp only [nrm]
 refine list_val (.bool true) (by kernel_rfl) (neq_e _ (.tmp 26) (.const (.int .i64 0)) 180 0 true rfl (by kernel_rfl) (by kernel_rfl) (by decide)) ?_
 simp only [nrm]
 refine wpList_nil ?_
 replace hB:=hide hB
 go_upto_region 6 with fail
 replace hB:=unhide hB
 refine wp_region_lit ?_
 refine list_val (.agg (fl [[.int .i64 0],[.int .u32 0],[.int .u32 0],bw Z105])) (by kernel_rfl) (bE _ rfl) ?_
 simp only [nrm]
 refine lvk (.int .i64 180) ?_
 simp only [nrm]
 refine list_all 30 (.tmp 6) (.tmp 28) (w.heap.size+1) (S2:=[[.int .i64 0],[.int .u32 0],[.int .u32 0],bw Z105]) (by kernel_rfl) rfl (by kernel_rfl) (by kernel_rfl) hB 1 rfl NE (nE (show List.length Z105=105 from rfl) _ _ _) (nE (show List.length Z105=105 from rfl) _ _ _) (by kernel_rfl) (oE _ rfl rfl rfl) ?_
 intro u4 hB_ hbt_
 clear hB
 replace hB:Bl w [⟨w.heap.size,fl [bw Ky,[.bool f]],25⟩,⟨w.heap.size+1,fl [[.int .i64 0],[.int .u32 0],[.int .u32 0],bw Z105],30⟩] u4:=hB_
 clear hB_
 clear hbt_
 simp only [nrm]
 (refine wpList_step fun K hK=>?_; replace hK:=hide hK; go_simp; refine unhide hK _ _ ?_; clear hK K)
 refine wpList_nil ?_
 replace hB:=hide hB
 go_wp2_with fail
 replace hB:=unhide hB
 rw [unhide hT]
 exact bodyPost_ret (v:=.tuple #[.agg (fl [[.int .i64 0],[.int .u32 0],[.int .u32 0],bw Z105]),.int .i64 180]) (res2 Tryz.results10 (rv_cell (by kernel_rfl) (hB.get 1 (x:=⟨w.heap.size+1,fl [[.int .i64 0],[.int .u32 0],[.int .u32 0],bw Z105],30⟩) rfl) Tryz.underlying30 rfl (by rw [fl_size (nE (show List.length Z105=105 from rfl) _ _ _)]; kernel_rfl)) (rv_tmp (by kernel_rfl))) rfl (⟨rfl,hB.gr⟩)
set_option maxHeartbeats 4000000 in
theorem vread_bad (Ky:List Int) (hKy:Ky.length=32) (hKb:IsB Ky) (f:Bool) (r:Int) (hr:0≤r) (s:Option Addr) (n c:Nat) (hn:n≤20000) (Y N D L:List Int) (P:List Int) (w:World) (hF:Fst w) (hu:∀ u,Gr w u→Calls Tryz.prog 29 #[.int .u64 r,.slice s n c] u (Vl (.int .i64 0) u)) (hY:Y=rkL r Ky f false) (hN:N=cntL r) (hD:D=drL r Ky) (lp:Lb w s n c L) (hPl:P.length=114) (hPb:IsB P) (hL:L=sealL Y N D P) (he:evRO P=false):Calls Tryz.prog 10 #[.agg (fl [bw Ky,[.bool f]]),.int .u64 r,.slice s n c] w (Vl (.tuple #[.agg (fl [[.int .i64 0],[.int .u32 0],[.int .u32 0],bw Z105]),.int .i64 241]) w):=by
 obtain ⟨T,hT⟩:∃ T:Ending→World→Prop,T=(Vl (.tuple #[.agg (fl [[.int .i64 0],[.int .u32 0],[.int .u32 0],bw Z105]),.int .i64 241]) w):=⟨_,rfl⟩
 rw [← hT]
 replace hT:=hide hT
 have hYl:Y.length=32:=by rw [hY]; exact rkL_len _ _ _ _
 have hNl:N.length=12:=by rw [hN]; exact cntL_len _
 have hDl:D.length=16:=by rw [hD]; exact drL_len _ _
 have hYb:IsB Y:=by rw [hY]; exact rkL_isB _ _ _ _
 have hNb:IsB N:=by rw [hN]; exact cntL_isB _
 have hDb:IsB D:=by rw [hD]; exact drL_isB _ _
 obtain ⟨A0_,hA0_⟩:∃ S_,S_=fl [bw Ky,[.bool f]]:=⟨_,rfl⟩
 rw [← hA0_]
 replace hA0_:=hide hA0_
 replace hY:=hide hY
 replace hN:=hide hN
 replace hD:=hide hD
 replace hF:=hide hF
 replace hKb:=hide hKb
 replace hYb:=hide hYb
 replace hNb:=hide hNb
 replace hDb:=hide hDb
 replace hu:=hide hu
 replace lp:=hide lp
 replace hPb:=hide hPb
 replace hL:=hide hL
 replace he:=hide he
 go_enter Tryz.func10,Tryz.ntmps10
 go_upto_region 1 with fail
 have hB:=(((Bl.nil w).new A0_ 25).new (fl [[.int .i64 0],[.int .u32 0],[.int .u32 0],bw Z105]) 30)
 simp only [size_alloc,List.nil_append,List.cons_append] at hB
 rw [unhide hA0_] at hB
 generalize hu_:World.alloc _ _=u0
 replace hB:Bl w [⟨w.heap.size,fl [bw Ky,[.bool f]],25⟩,⟨w.heap.size+1,fl [[.int .i64 0],[.int .u32 0],[.int .u32 0],bw Z105],30⟩] u0:=by
  rw [← hu_]
  rw [unhide hA0_]
  exact hB
 clear hu_ hA0_
 refine wp_region_lit ?_
 refine lvk (.int .u64 r) ?_
 simp only [nrm]
 refine lvk (.slice s n c) ?_
 simp only [nrm]
 refine list_call 29 #[.int .u64 r,.slice s n c] (by kernel_rfl) (by kernel_rfl) ((unhide hu u0 hB.gr).mono ?_)
 rintro r_ u1 ⟨rfl,hg⟩
 replace hB:=hB.more hg
 clear hg
 refine ⟨_,rfl,?_⟩
 simp only [nrm]
 (refine wpList_step fun K hK=>?_; replace hK:=hide hK; go_simp; refine unhide hK _ _ ?_; clear hK K)
 refine wpList_nil ?_
 replace hB:=hide hB
 go_upto_region 2 with fail
 replace hB:=unhide hB
 refine wp_region_lit ?_
 refine lvk (.int .i64 0) ?_
 simp only [nrm]
 refine list_val (.bool false) (by kernel_rfl) (neq_e _ (.tmp 14) (.const (.int .i64 0)) 0 0 false rfl (by kernel_rfl) (by kernel_rfl) (by decide)) ?_
 simp only [nrm]
 refine wpList_nil ?_
 replace hB:=hide hB
 go_upto_region 4 with fail
 replace hB:=unhide hB
 refine wp_region_lit ?_
 refine list_val (.agg (fl [bw Ky,[.bool f]])) (by kernel_rfl) (exec_sw _ 25 (.tmp 3) rfl (w.heap.size) (by kernel_rfl) (hB.get 0 (x:=⟨w.heap.size,fl [bw Ky,[.bool f]],25⟩) rfl) NP (nP hKy _) Tryz.underlying25 rfl (by kernel_rfl)) ?_
 simp only [nrm]
 refine lvk (.int .u64 r) ?_
 simp only [nrm]
 refine list_call 22 #[.agg (fl [bw Ky,[.bool f]]),.int .u64 r,.int .i64 1] (by kernel_rfl) (by kernel_rfl) ((terms_me r hr Ky hKy (unhide hKb) f Y N D u1 ((unhide hF).gr hB.gr) (unhide hY) (unhide hN) (unhide hD)).mono ?_)
 rintro r_ u2 ⟨rfl,hg⟩
 replace hB:=hB.more hg
 clear hg
 refine ⟨_,rfl,?_⟩
 simp only [nrm]
 refine lvk (.slice s n c) ?_
 simp only [nrm]
 refine list_call 30 #[.agg (fl [bw Y,bw N,bw D]),.slice s n c] (by kernel_rfl) (by kernel_rfl) ((((vopen_yes Y N D hYl hNl hDl (unhide hYb) (unhide hNb) (unhide hDb) P s n c hn u2 (unhide hPb) (show Lb u2 s n c (sealL Y N D P) from (unhide hL) ▸ (unhide lp).gr hB.gr)).mono fun _ _ h=>okx_pok h hB.gr.size)).mono ?_)
 rintro r_ u3 ⟨v1,rfl,ho,hg⟩
 replace hB:=hB.more hg
 clear hg
 obtain ⟨a1,c1,rfl,l1⟩:=ho.lb' (unhide hPb) 114 hPl
 clear ho
 replace l1:=hide l1
 refine ⟨_,rfl,?_⟩
 simp only [nrm]
 refine lvk (.tuple #[.slice a1 114 c1,.int .i64 0]) ?_
 simp only [nrm]
 refine lvk (.slice a1 114 c1) ?_
 simp only [nrm]
 refine lvk (.int .i64 0) ?_
 simp only [nrm]
 (refine wpList_step fun K hK=>?_; replace hK:=hide hK; go_simp; refine unhide hK _ _ ?_; clear hK K)
 (refine wpList_step fun K hK=>?_; replace hK:=hide hK; go_simp; refine unhide hK _ _ ?_; clear hK K)
 refine wpList_nil ?_
 replace hB:=hide hB
 go_upto_region 5 with fail
 replace hB:=unhide hB
 refine wp_region_lit ?_
 refine lvk (.int .i64 0) ?_
 simp only [nrm]
 refine list_val (.bool false) (by kernel_rfl) (neq_e _ (.tmp 26) (.const (.int .i64 0)) 0 0 false rfl (by kernel_rfl) (by kernel_rfl) (by decide)) ?_
 simp only [nrm]
 refine wpList_nil ?_
 replace hB:=hide hB
 go_upto_region 7 with fail
 replace hB:=unhide hB
 refine wp_region_lit ?_
 refine lvk (.slice a1 114 c1) ?_
 simp only [nrm]
 refine list_call 31 #[.slice a1 114 c1] (by kernel_rfl) (by kernel_rfl) ((getef_bad P a1 c1 u3 (unhide l1) (unhide he)).mono ?_)
 rintro r_ u4 ⟨rfl,hg⟩
 replace l1:=hide ((unhide l1).gr hg)
 replace hB:=hB.more hg
 clear hg
 refine ⟨_,rfl,?_⟩
 simp only [nrm]
 refine lvk (.agg (fl [[.int .i64 0],[.int .u32 0],[.int .u32 0],bw Z105])) ?_
 simp only [nrm]
 refine lvk (.int .i64 241) ?_
 simp only [nrm]
 refine list_all 30 (.tmp 6) (.tmp 32) (w.heap.size+1) (S2:=[[.int .i64 0],[.int .u32 0],[.int .u32 0],bw Z105]) (by kernel_rfl) rfl (by kernel_rfl) (by kernel_rfl) hB 1 rfl NE (nE (show List.length Z105=105 from rfl) _ _ _) (nE (show List.length Z105=105 from rfl) _ _ _) (by kernel_rfl) (oE _ rfl rfl rfl) ?_
 intro u5 hB_ hbt_
 clear hB
 replace hB:Bl w [⟨w.heap.size,fl [bw Ky,[.bool f]],25⟩,⟨w.heap.size+1,fl [[.int .i64 0],[.int .u32 0],[.int .u32 0],bw Z105],30⟩] u5:=hB_
 clear hB_
 clear hbt_
 simp only [nrm]
 (refine wpList_step fun K hK=>?_; replace hK:=hide hK; go_simp; refine unhide hK _ _ ?_; clear hK K)
 refine wpList_nil ?_
 replace hB:=hide hB
 go_wp2_with fail
 replace hB:=unhide hB
 rw [unhide hT]
 exact bodyPost_ret (v:=.tuple #[.agg (fl [[.int .i64 0],[.int .u32 0],[.int .u32 0],bw Z105]),.int .i64 241]) (res2 Tryz.results10 (rv_cell (by kernel_rfl) (hB.get 1 (x:=⟨w.heap.size+1,fl [[.int .i64 0],[.int .u32 0],[.int .u32 0],bw Z105],30⟩) rfl) Tryz.underlying30 rfl (by rw [fl_size (nE (show List.length Z105=105 from rfl) _ _ _)]; kernel_rfl)) (rv_tmp (by kernel_rfl))) rfl (⟨rfl,hB.gr⟩)
set_option maxHeartbeats 4000000 in
theorem vread_ok (Ky:List Int) (hKy:Ky.length=32) (hKb:IsB Ky) (f:Bool) (r:Int) (hr:0≤r) (s:Option Addr) (n c:Nat) (hn:n≤20000) (Y N D L:List Int) (P:List Int) (ek ea es:Int) (eB:List Int) (w:World) (hF:Fst w) (hu:∀ u,Gr w u→Calls Tryz.prog 29 #[.int .u64 r,.slice s n c] u (Vl (.int .i64 0) u)) (hY:Y=rkL r Ky f false) (hN:N=cntL r) (hD:D=drL r Ky) (lp:Lb w s n c L) (hPl:P.length=114) (hPb:IsB P) (hL:L=sealL Y N D P) (he:evRO P=true) (hev:evS P=[[.int .i64 ek],[.int .u32 ea],[.int .u32 es],bw eB]) (heB:eB.length=105):Calls Tryz.prog 10 #[.agg (fl [bw Ky,[.bool f]]),.int .u64 r,.slice s n c] w (Vl (.tuple #[.agg (fl [[.int .i64 ek],[.int .u32 ea],[.int .u32 es],bw eB]),.int .i64 0]) w):=by
 obtain ⟨T,hT⟩:∃ T:Ending→World→Prop,T=(Vl (.tuple #[.agg (fl [[.int .i64 ek],[.int .u32 ea],[.int .u32 es],bw eB]),.int .i64 0]) w):=⟨_,rfl⟩
 rw [← hT]
 replace hT:=hide hT
 have hYl:Y.length=32:=by rw [hY]; exact rkL_len _ _ _ _
 have hNl:N.length=12:=by rw [hN]; exact cntL_len _
 have hDl:D.length=16:=by rw [hD]; exact drL_len _ _
 have hYb:IsB Y:=by rw [hY]; exact rkL_isB _ _ _ _
 have hNb:IsB N:=by rw [hN]; exact cntL_isB _
 have hDb:IsB D:=by rw [hD]; exact drL_isB _ _
 obtain ⟨A0_,hA0_⟩:∃ S_,S_=fl [bw Ky,[.bool f]]:=⟨_,rfl⟩
 rw [← hA0_]
 replace hA0_:=hide hA0_
 replace hY:=hide hY
 replace hN:=hide hN
 replace hD:=hide hD
 replace hF:=hide hF
 replace hKb:=hide hKb
 replace hYb:=hide hYb
 replace hNb:=hide hNb
 replace hDb:=hide hDb
 replace hu:=hide hu
 replace lp:=hide lp
 replace hPb:=hide hPb
 replace hL:=hide hL
 replace he:=hide he
 replace hev:=hide hev
 go_enter Tryz.func10,Tryz.ntmps10
 go_upto_region 1 with fail
 have hB:=(((Bl.nil w).new A0_ 25).new (fl [[.int .i64 0],[.int .u32 0],[.int .u32 0],bw Z105]) 30)
 simp only [size_alloc,List.nil_append,List.cons_append] at hB
 rw [unhide hA0_] at hB
 generalize hu_:World.alloc _ _=u0
 replace hB:Bl w [⟨w.heap.size,fl [bw Ky,[.bool f]],25⟩,⟨w.heap.size+1,fl [[.int .i64 0],[.int .u32 0],[.int .u32 0],bw Z105],30⟩] u0:=by
  rw [← hu_]
  rw [unhide hA0_]
  exact hB
 clear hu_ hA0_
 refine wp_region_lit ?_
 refine lvk (.int .u64 r) ?_
 simp only [nrm]
 refine lvk (.slice s n c) ?_
 simp only [nrm]
 refine list_call 29 #[.int .u64 r,.slice s n c] (by kernel_rfl) (by kernel_rfl) ((unhide hu u0 hB.gr).mono ?_)
 rintro r_ u1 ⟨rfl,hg⟩
 replace hB:=hB.more hg
 clear hg
 refine ⟨_,rfl,?_⟩
 simp only [nrm]
 (refine wpList_step fun K hK=>?_; replace hK:=hide hK; go_simp; refine unhide hK _ _ ?_; clear hK K)
 refine wpList_nil ?_
 replace hB:=hide hB
 go_upto_region 2 with fail
 replace hB:=unhide hB
 refine wp_region_lit ?_
 refine lvk (.int .i64 0) ?_
 simp only [nrm]
 refine list_val (.bool false) (by kernel_rfl) (neq_e _ (.tmp 14) (.const (.int .i64 0)) 0 0 false rfl (by kernel_rfl) (by kernel_rfl) (by decide)) ?_
 simp only [nrm]
 refine wpList_nil ?_
 replace hB:=hide hB
 go_upto_region 4 with fail
 replace hB:=unhide hB
 refine wp_region_lit ?_
 refine list_val (.agg (fl [bw Ky,[.bool f]])) (by kernel_rfl) (exec_sw _ 25 (.tmp 3) rfl (w.heap.size) (by kernel_rfl) (hB.get 0 (x:=⟨w.heap.size,fl [bw Ky,[.bool f]],25⟩) rfl) NP (nP hKy _) Tryz.underlying25 rfl (by kernel_rfl)) ?_
 simp only [nrm]
 refine lvk (.int .u64 r) ?_
 simp only [nrm]
 refine list_call 22 #[.agg (fl [bw Ky,[.bool f]]),.int .u64 r,.int .i64 1] (by kernel_rfl) (by kernel_rfl) ((terms_me r hr Ky hKy (unhide hKb) f Y N D u1 ((unhide hF).gr hB.gr) (unhide hY) (unhide hN) (unhide hD)).mono ?_)
 rintro r_ u2 ⟨rfl,hg⟩
 replace hB:=hB.more hg
 clear hg
 refine ⟨_,rfl,?_⟩
 simp only [nrm]
 refine lvk (.slice s n c) ?_
 simp only [nrm]
 refine list_call 30 #[.agg (fl [bw Y,bw N,bw D]),.slice s n c] (by kernel_rfl) (by kernel_rfl) ((((vopen_yes Y N D hYl hNl hDl (unhide hYb) (unhide hNb) (unhide hDb) P s n c hn u2 (unhide hPb) (show Lb u2 s n c (sealL Y N D P) from (unhide hL) ▸ (unhide lp).gr hB.gr)).mono fun _ _ h=>okx_pok h hB.gr.size)).mono ?_)
 rintro r_ u3 ⟨v1,rfl,ho,hg⟩
 replace hB:=hB.more hg
 clear hg
 obtain ⟨a1,c1,rfl,l1⟩:=ho.lb' (unhide hPb) 114 hPl
 clear ho
 replace l1:=hide l1
 refine ⟨_,rfl,?_⟩
 simp only [nrm]
 refine lvk (.tuple #[.slice a1 114 c1,.int .i64 0]) ?_
 simp only [nrm]
 refine lvk (.slice a1 114 c1) ?_
 simp only [nrm]
 refine lvk (.int .i64 0) ?_
 simp only [nrm]
 (refine wpList_step fun K hK=>?_; replace hK:=hide hK; go_simp; refine unhide hK _ _ ?_; clear hK K)
 (refine wpList_step fun K hK=>?_; replace hK:=hide hK; go_simp; refine unhide hK _ _ ?_; clear hK K)
 refine wpList_nil ?_
 replace hB:=hide hB
 go_upto_region 5 with fail
 replace hB:=unhide hB
 refine wp_region_lit ?_
 refine lvk (.int .i64 0) ?_
 simp only [nrm]
 refine list_val (.bool false) (by kernel_rfl) (neq_e _ (.tmp 26) (.const (.int .i64 0)) 0 0 false rfl (by kernel_rfl) (by kernel_rfl) (by decide)) ?_
 simp only [nrm]
 refine wpList_nil ?_
 replace hB:=hide hB
 go_upto_region 7 with fail
 replace hB:=unhide hB
 refine wp_region_lit ?_
 refine lvk (.slice a1 114 c1) ?_
 simp only [nrm]
 refine list_call 31 #[.slice a1 114 c1] (by kernel_rfl) (by kernel_rfl) (((show Calls Tryz.prog 31 #[.slice a1 114 c1] u3 (Vl (.tuple #[.agg (fl [[.int .i64 ek],[.int .u32 ea],[.int .u32 es],bw eB]),.int .i64 0]) u3) from by rw [← unhide hev]; exact getef_ok P a1 c1 u3 (unhide l1) (unhide he))).mono ?_)
 rintro r_ u4 ⟨rfl,hg⟩
 replace l1:=hide ((unhide l1).gr hg)
 replace hB:=hB.more hg
 clear hg
 refine ⟨_,rfl,?_⟩
 simp only [nrm]
 refine lvk (.agg (fl [[.int .i64 ek],[.int .u32 ea],[.int .u32 es],bw eB])) ?_
 simp only [nrm]
 refine lvk (.int .i64 0) ?_
 simp only [nrm]
 refine list_all 30 (.tmp 6) (.tmp 32) (w.heap.size+1) (S2:=[[.int .i64 ek],[.int .u32 ea],[.int .u32 es],bw eB]) (by kernel_rfl) rfl (by kernel_rfl) (by kernel_rfl) hB 1 rfl NE (nE (show List.length Z105=105 from rfl) _ _ _) (nE heB _ _ _) (by kernel_rfl) (oE _ rfl rfl rfl) ?_
 intro u5 hB_ hbt_
 clear hB
 replace hB:Bl w [⟨w.heap.size,fl [bw Ky,[.bool f]],25⟩,⟨w.heap.size+1,fl [[.int .i64 ek],[.int .u32 ea],[.int .u32 es],bw eB],30⟩] u5:=hB_
 clear hB_
 clear hbt_
 simp only [nrm]
 (refine wpList_step fun K hK=>?_; replace hK:=hide hK; go_simp; refine unhide hK _ _ ?_; clear hK K)
 refine wpList_nil ?_
 replace hB:=hide hB
 go_wp2_with fail
 replace hB:=unhide hB
 rw [unhide hT]
 exact bodyPost_ret (v:=.tuple #[.agg (fl [[.int .i64 ek],[.int .u32 ea],[.int .u32 es],bw eB]),.int .i64 0]) (res2 Tryz.results10 (rv_cell (by kernel_rfl) (hB.get 1 (x:=⟨w.heap.size+1,fl [[.int .i64 ek],[.int .u32 ea],[.int .u32 es],bw eB],30⟩) rfl) Tryz.underlying30 rfl (by rw [fl_size (nE heB _ _ _)]; kernel_rfl)) (rv_tmp (by kernel_rfl))) rfl (⟨rfl,hB.gr⟩)
end Go.Proofs.YthahhglbeafkmaaGreatDoor
namespace Go.Proofs.YthahhglbeafkmaaGreatDoor
open Go.RowKit
set_option maxRecDepth 100000
set_option linter.unusedSimpArgs false
set_option linter.unusedVariables false
theorem eq_ef (k a s:Int) {B:List Int} (hB:B.length=105) (w:World):(Op.equalIn 10000 30 (.agg (fl [[.int .i64 k],[.int .u32 a],[.int .u32 s],bw B])) (.agg (fl [[.int .i64 k],[.int .u32 a],[.int .u32 s],bw B]))).run Tryz.prog w=.ok true w:=by
 rw [← evl_fl]
 exact eq_evl k a s hB w
theorem k1_isB:IsB K1:=fun x hx=>by
 rcases List.mem_cons.1 hx with rfl | h
 ·decide
 ·rw [List.eq_of_mem_replicate h]; decide
theorem z105_isB:IsB Z105:=fun x hx=>by rw [List.eq_of_mem_replicate hx]; decide
theorem wake_num:(bk (okL 3 K1 tFir) (cntL 3) 1).getD 0 0=39:=by decide +kernel
theorem wake_first:(xl (rkL 3 K1 true true) (cntL 3) 1 (evB 0 7 0 Z105)).getD 0 0=39:=by
 have h:(xl (rkL 3 K1 true true) (cntL 3) 1 (evB 0 7 0 Z105)).getD 0 0=xb 0 ((bk (okL 3 K1 tFir) (cntL 3) 1).getD 0 0):=by
  unfold xl
  rw [List.getD_eq_getElem?_getD,List.getElem?_map,List.getElem?_range (by decide)]
  rfl
 rw [h,wake_num]
 decide
theorem wake_ne {C:List Int} (hC:C=sealL (rkL 3 K1 true true) (cntL 3) (drL 3 K1) (evB 0 7 0 Z105)):C≠Z130:=by
 intro h
 have h1:C.getD 0 0=39:=by
  rw [hC]
  unfold sealL
  rw [List.getD_eq_getElem?_getD,List.getElem?_append_left (by rw [xl_len]; decide),← List.getD_eq_getElem?_getD]
  exact wake_first
 rw [h] at h1
 exact absurd h1 (by decide)
set_option maxHeartbeats 4000000 in
theorem other_ok (Ky:List Int) (hKy:Ky.length=32) (f:Bool) (w:World)  : Calls Tryz.prog 20 #[.agg (fl [bw Ky,[.bool f]])] w (Vl (.agg (fl [bw Ky,[.bool (!f)]])) w):=by
 obtain ⟨T,hT⟩:∃ T:Ending→World→Prop,T=(Vl (.agg (fl [bw Ky,[.bool (!f)]])) w):=⟨_,rfl⟩
 rw [← hT]
 replace hT:=hide hT
 obtain ⟨A0_,hA0_⟩:∃ S_,S_=fl [bw Ky,[.bool f]]:=⟨_,rfl⟩
 rw [← hA0_]
 replace hA0_:=hide hA0_
 go_enter Tryz.func20,Tryz.ntmps20
 go_upto_region 1 with fail
 have hB:=(((Bl.nil w).new A0_ 25).new (fl [bw Z32,[.bool false]]) 25)
 simp only [size_alloc,List.nil_append,List.cons_append] at hB
 rw [unhide hA0_] at hB
 generalize hu_:World.alloc _ _=u0
 replace hB:Bl w [⟨w.heap.size,fl [bw Ky,[.bool f]],25⟩,⟨w.heap.size+1,fl [bw Z32,[.bool false]],25⟩] u0:=by
  rw [← hu_]
  rw [unhide hA0_]
  exact hB
 clear hu_ hA0_
 refine wp_region_lit ?_
 refine lvk (.pointer (some ⟨w.heap.size,0,none⟩)) ?_
 simp only [nrm]
 refine list_val (.agg (kc Ky)) (by kernel_rfl) (exec_sa _ 23 (.tmp 3) rfl (w.heap.size) 0 (by kernel_rfl) (hB.get 0 (x:=⟨w.heap.size,fl [bw Ky,[.bool f]],25⟩) rfl) NP (nP hKy _) 0 Ky rfl rfl Tryz.underlying23 rfl (n:=32) rfl Tryz.infoKey) ?_
 simp only [nrm]
 refine lvk (.pointer (some ⟨w.heap.size,32,none⟩)) ?_
 simp only [nrm]
 refine list_val (.bool f) (by kernel_rfl) (exec_cb _ (.tmp 5) rfl (w.heap.size) 32 (by kernel_rfl) f (seg_cell (nP hKy _) (hB.get 0 (x:=⟨w.heap.size,fl [bw Ky,[.bool f]],25⟩) rfl) 1 (v:=.bool f) rfl rfl)) ?_
 simp only [nrm]
 refine lvk (.bool (!f)) ?_
 simp only [nrm]
 refine list_val (.agg (fl [bw Ky,[.bool (!f)]])) (by kernel_rfl) (bP01 _ (.tmp 4) (.tmp 7) rfl hKy (by kernel_rfl) (by kernel_rfl)) ?_
 simp only [nrm]
 refine list_all 25 (.tmp 2) (.tmp 8) (w.heap.size+1) (S2:=[bw Ky,[.bool (!f)]]) (by kernel_rfl) rfl (by kernel_rfl) (by kernel_rfl) hB 1 rfl NP (nP (show List.length Z32=32 from rfl) _) (nP hKy _) (by kernel_rfl) (oP _ rfl) ?_
 intro u1 hB_ hbt_
 clear hB
 replace hB:Bl w [⟨w.heap.size,fl [bw Ky,[.bool f]],25⟩,⟨w.heap.size+1,fl [bw Ky,[.bool (!f)]],25⟩] u1:=hB_
 clear hB_
 clear hbt_
 simp only [nrm]
 refine wpList_nil ?_
 replace hB:=hide hB
 go_wp2_with fail
 replace hB:=unhide hB
 rw [unhide hT]
 exact bodyPost_ret (v:=.agg (fl [bw Ky,[.bool (!f)]])) (res1 Tryz.results20 (rv_cell (by kernel_rfl) (hB.get 1 (x:=⟨w.heap.size+1,fl [bw Ky,[.bool (!f)]],25⟩) rfl) Tryz.underlying25 rfl (by rw [fl_size (nP hKy _)]; kernel_rfl))) rfl (⟨rfl,hB.gr⟩)
set_option maxHeartbeats 4000000 in
theorem wakes0_ok (Y N D P C:List Int) (w:World) (hF:Fst w) (hY:Y=rkL 3 K1 true true) (hN:N=cntL 3) (hD:D=drL 3 K1) (hP:P=evB 0 7 0 Z105) (hC:C=sealL Y N D P):Calls Tryz.prog 6 #[] w (Vl (.bool true) w):=by
 obtain ⟨T,hT⟩:∃ T:Ending→World→Prop,T=(Vl (.bool true) w):=⟨_,rfl⟩
 rw [← hT]
 replace hT:=hide hT
 have hK1:K1.length=32:=rfl
 have hDl:D.length=16:=by rw [hD]; exact drL_len _ _
 have hDb:IsB D:=by rw [hD]; exact drL_isB _ _
 have hPl:P.length=114:=by rw [hP]; rfl
 have hPb:IsB P:=by rw [hP]; exact evB_isB 7 (by decide) z105_isB
 have hCl:C.length=130:=by rw [hC,sealL_len',hPl]
 have hCb:IsB C:=by rw [hC]; exact sealL_isB _ _ _ _
 have hCn:C≠Z130:=wake_ne (by rw [hC,hY,hN,hD,hP])
 have hev:evS P=[[.int .i64 0],[.int .u32 7],[.int .u32 0],bw Z105]:=by rw [hP]; rfl
 have her:evRO P=true:=by rw [hP]; rfl
 have hY2:Y=rkL 3 K1 false false:=by rw [hY]; rfl
 clear hPl
 replace hF:=hide hF
 replace hY:=hide hY
 replace hN:=hide hN
 replace hD:=hide hD
 replace hP:=hide hP
 replace hC:=hide hC
 replace hDb:=hide hDb
 replace hPb:=hide hPb
 replace hCb:=hide hCb
 replace hCn:=hide hCn
 replace hev:=hide hev
 replace her:=hide her
 replace hY2:=hide hY2
 go_enter Tryz.func6,Tryz.ntmps6
 go_upto_region 1 with fail
 obtain ⟨u0,hu_⟩:∃ u,u=w:=⟨_,rfl⟩
 rw [← hu_]
 have hB:Bl w [] u0:=hu_ ▸ Bl.nil w
 clear hu_
 refine wp_region_lit ?_
 refine list_val (.agg (kc K1)) (by kernel_rfl) (bK0 _ rfl) ?_
 simp only [nrm]
 refine list_val (.agg (fl [bw K1,[.bool true]])) (by kernel_rfl) (bP01 _ (.tmp 6) (.const (.bool true)) rfl hK1 (by kernel_rfl) (by kernel_rfl)) ?_
 simp only [nrm]
 refine list_valw (.pointer (some ⟨u0.heap.size,0,none⟩)) (u0.alloc (.cells (fl [bw Z32,[.bool false]]) 25 (0,0))) (by kernel_rfl) (by kernel_rfl) ?_
 replace hB:=hB.new (fl [bw Z32,[.bool false]]) 25
 simp only [List.nil_append,List.cons_append] at hB
 generalize World.alloc _ _=u1 at *
 generalize u0.heap.size=g1 at *
 replace hB:Bl w [⟨g1,fl [bw Z32,[.bool false]],25⟩] u1:=hB
 simp only [nrm]
 refine list_all 25 (.tmp 1) (.tmp 7) (g1) (S2:=[bw K1,[.bool true]]) (by kernel_rfl) rfl (by kernel_rfl) (by kernel_rfl) hB 0 rfl NP (nP (show List.length Z32=32 from rfl) _) (nP hK1 _) (by kernel_rfl) (oP _ rfl) ?_
 intro u2 hB_ hbt_
 clear hB
 replace hB:Bl w [⟨g1,fl [bw K1,[.bool true]],25⟩] u2:=hB_
 clear hB_
 clear hbt_
 simp only [nrm]
 refine wpList_nil ?_
 replace hB:=hide hB
 go_upto_region 2 with fail
 replace hB:=unhide hB
 refine wp_region_lit ?_
 refine list_val (.agg (fl [bw K1,[.bool true]])) (by kernel_rfl) (exec_sw _ 25 (.tmp 1) rfl (g1) (by kernel_rfl) (hB.get 0 (x:=⟨g1,fl [bw K1,[.bool true]],25⟩) rfl) NP (nP hK1 _) Tryz.underlying25 rfl (by kernel_rfl)) ?_
 simp only [nrm]
 refine list_val (.agg (fl [[.int .i64 0],[.int .u32 7],[.int .u32 0],bw Z105])) (by kernel_rfl) (bE1 _ (.const (.int .u32 7)) rfl (by kernel_rfl)) ?_
 simp only [nrm]
 refine list_call 7 #[.agg (fl [bw K1,[.bool true]]),.int .u64 3,.agg (fl [[.int .i64 0],[.int .u32 7],[.int .u32 0],bw Z105])] (by kernel_rfl) (by kernel_rfl) ((vreal_ok K1 hK1 k1_isB true 0 7 0 Z105 rfl z105_isB ⟨by decide,by decide⟩ ⟨by decide,by decide⟩ 3 (by decide) Y N D P C u2 ((unhide hF).gr hB.gr) (by decide) (by decide) (unhide hY) (unhide hN) (unhide hD) (unhide hP) (unhide hC)).mono ?_)
 rintro r_ u3 ⟨rfl,hg⟩
 replace hB:=hB.more hg
 clear hg
 refine ⟨_,rfl,?_⟩
 simp only [nrm]
 refine lvk (.tuple #[.agg (fl [bw D,bw C]),.int .i64 0]) ?_
 simp only [nrm]
 refine lvk (.agg (fl [bw D,bw C])) ?_
 simp only [nrm]
 refine lvk (.int .i64 0) ?_
 simp only [nrm]
 refine list_valw (.pointer (some ⟨u3.heap.size,0,none⟩)) (u3.alloc (.cells (fl [bw Z16,bw Z130]) 36 (0,0))) (by kernel_rfl) (by kernel_rfl) ?_
 replace hB:=hB.new (fl [bw Z16,bw Z130]) 36
 simp only [List.nil_append,List.cons_append] at hB
 generalize World.alloc _ _=u4 at *
 generalize u3.heap.size=g2 at *
 replace hB:Bl w [⟨g1,fl [bw K1,[.bool true]],25⟩,⟨g2,fl [bw Z16,bw Z130],36⟩] u4:=hB
 simp only [nrm]
 refine list_all 36 (.tmp 2) (.tmp 12) (g2) (S2:=[bw D,bw C]) (by kernel_rfl) rfl (by kernel_rfl) (by kernel_rfl) hB 1 rfl NX (nX (show List.length Z16=16 from rfl) (show List.length Z130=130 from rfl)) (nX hDl hCl) (by kernel_rfl) (oX _ _) ?_
 intro u5 hB_ hbt_
 clear hB
 replace hB:Bl w [⟨g1,fl [bw K1,[.bool true]],25⟩,⟨g2,fl [bw D,bw C],36⟩] u5:=hB_
 clear hB_
 clear hbt_
 simp only [nrm]
 (refine wpList_step fun K hK=>?_; replace hK:=hide hK; go_simp; refine unhide hK _ _ ?_; clear hK K)
 refine wpList_nil ?_
 replace hB:=hide hB
 go_upto_region 3 with fail
 replace hB:=unhide hB
 refine any_start (S:=fun v_=>v_.heap[g1]?=some (.cells (fl [bw K1,[.bool true]]) 25 (0,0))) (by kernel_rfl) ?_
 replace hB:=hB.drew
 generalize World.drew _=u6 at *
 have hB0:=hide hB
 have hsz_:Hid (Sz u6.heap.size u6):=Nat.le_refl _
 simp only [List.size_toArray,List.length_cons,List.length_nil,Array.replicate,List.replicate]
 refine any_tk 0 (.agg (fl [bw K1,[.bool true]])) (tf 11 0) rfl (fun x_ hu=>exec_sw _ 25 (.tmp 1) rfl (g1) (by kernel_rfl) hu NP (nP hK1 _) Tryz.underlying25 rfl (by kernel_rfl)) (hB.get 0 (x:=⟨g1,fl [bw K1,[.bool true]],25⟩) rfl) ?_
 simp only [nrm]
 refine any_tk 2 (.pointer (some ⟨g2,16,none⟩)) (tf 11 1) rfl (fun x_ hu=>by kernel_rfl) (hB.get 0 (x:=⟨g1,fl [bw K1,[.bool true]],25⟩) rfl) ?_
 simp only [nrm]
 refine any_tk 3 (.slice (some ⟨g2,16,none⟩) 130 130) #[true,false,true,false,false,false,false,false,false,false,false] rfl (fun x_ hu=>by kernel_rfl) (hB.get 0 (x:=⟨g1,fl [bw K1,[.bool true]],25⟩) rfl) ?_
 simp only [nrm]
 refine float_first (fun q u=>NKf u6.heap.size (fl [[.int .i64 0],[.int .u32 0],[.int .u32 0],bw Z105]) 30 u q) 4 (fun b_=>#[true,false,true,true,false,false,false,false,b_,false,false]) 8 1 false rfl rfl (fun v_ g_=>g_.blk (hB.get 0 (x:=⟨g1,fl [bw K1,[.bool true]],25⟩) rfl)) (by kernel_rfl) (fun b_=>by cases b_ <;> rfl) ?_ ?_
 all_goals simp only [fw1,Act.put,List.setIfInBounds_toArray,List.set_cons_zero,List.set_cons_succ,List.getElem_toArray,List.getElem_cons_zero,List.getElem_cons_succ]
 ·intro q_ x_ hgx K hK
  refine wpOp_step (o:=_) rfl (fun K' hK'=>?_)
  replace hK':=hide hK'
  replace hK:=hide hK
  refine step_val (.pointer (some ⟨x_.heap.size,0,none⟩)) (x_.alloc (.cells (fl [[.int .i64 0],[.int .u32 0],[.int .u32 0],bw Z105]) 30 (0,0))) (by kernel_rfl) (by kernel_rfl) ?_
  exact unhide hK' _ _ (unhide hK _ _ ((Gr.refl _).alloc _) (⟨_,rfl,Nat.le_trans (unhide hsz_) hgx.size,blk_new _ _⟩))
 intro b1_1 q1_1 x1_1 hg hTq hall
 replace hsz_:=hide ((unhide hsz_).gr hg)
 replace hB:=hB.more hg
 clear hg
 clear hall
 refine wpOp_step (o:=_) rfl (fun K hK=>?_)
 replace hK:=hide hK
 refine step_callw (by kernel_rfl) 20 #[.agg (fl [bw K1,[.bool true]])] (by kernel_rfl) ((other_ok K1 hK1 true x1_1).mono ?_)
 rintro r u7 ⟨rfl,hg⟩
 refine ⟨_,rfl,?_⟩
 replace hTq:=fun e=>NKf.gr (hTq e) hg
 replace hsz_:=hide ((unhide hsz_).gr hg)
 replace hB:=hB.more hg
 clear hg
 refine unhide hK _ _ ⟨(hB.get 0 (x:=⟨g1,fl [bw K1,[.bool true]],25⟩) rfl),?_⟩
 clear hK K
 simp only [nrm]
 refine float_again (fun q u=>NKf u6.heap.size (fl [[.int .i64 0],[.int .u32 0],[.int .u32 0],bw Z105]) 30 u q) 4 (fun b_=>#[true,true,true,true,false,false,false,false,b_,false,false]) 8 4 false (b:=b1_1) (q:=q1_1) rfl rfl hTq (fun v_ g_=>g_.blk (hB.get 0 (x:=⟨g1,fl [bw K1,[.bool true]],25⟩) rfl)) (by kernel_rfl) (fun b_=>by cases b_ <;> rfl) ?_ ?_
 all_goals simp only [fw1,Act.put,List.setIfInBounds_toArray,List.set_cons_zero,List.set_cons_succ,List.getElem_toArray,List.getElem_cons_zero,List.getElem_cons_succ]
 ·intro q_ x_ hgx K hK
  refine wpOp_step (o:=_) rfl (fun K' hK'=>?_)
  replace hK':=hide hK'
  replace hK:=hide hK
  refine step_val (.pointer (some ⟨x_.heap.size,0,none⟩)) (x_.alloc (.cells (fl [[.int .i64 0],[.int .u32 0],[.int .u32 0],bw Z105]) 30 (0,0))) (by kernel_rfl) (by kernel_rfl) ?_
  exact unhide hK' _ _ (unhide hK _ _ ((Gr.refl _).alloc _) (⟨_,rfl,Nat.le_trans (unhide hsz_) hgx.size,blk_new _ _⟩))
 clear hTq
 intro b1_4 q1_4 x1_4 hg hTq hall
 replace hsz_:=hide ((unhide hsz_).gr hg)
 replace hB:=hB.more hg
 clear hg
 clear hall
 refine wpOp_step (o:=_) rfl (fun K hK=>?_)
 replace hK:=hide hK
 refine step_callw (by kernel_rfl) 10 #[.agg (fl [bw K1,[.bool false]]),.int .u64 3,.slice (some ⟨g2,16,none⟩) 130 130] (by kernel_rfl) ((vread_ok K1 hK1 k1_isB false 3 (by decide) (some ⟨g2,16,none⟩) 130 130 (by decide) Y N D C P 0 7 0 Z105 x1_4 ((unhide hF).gr hB.gr) (fun u_ g_=>unread_0 3 (by decide) (some ⟨g2,16,none⟩) 130 C u_ ((seg_lb (nX hDl hCl) (hB.get 1 (x:=⟨g2,fl [bw D,bw C],36⟩) rfl) 1 rfl rfl (unhide hCb) hCl (by decide)).gr g_) (unhide hCn)) (unhide hY2) (unhide hN) (unhide hD) (seg_lb (nX hDl hCl) (hB.get 1 (x:=⟨g2,fl [bw D,bw C],36⟩) rfl) 1 rfl rfl (unhide hCb) hCl (by decide)) (by rw [unhide hP]; rfl) (unhide hPb) (unhide hC) (unhide her) (unhide hev) rfl).mono ?_)
 rintro r u8 ⟨rfl,hg⟩
 refine ⟨_,rfl,?_⟩
 replace hTq:=fun e=>NKf.gr (hTq e) hg
 replace hsz_:=hide ((unhide hsz_).gr hg)
 replace hB:=hB.more hg
 clear hg
 refine unhide hK _ _ ⟨(hB.get 0 (x:=⟨g1,fl [bw K1,[.bool true]],25⟩) rfl),?_⟩
 clear hK K
 simp only [nrm]
 refine any_tk 5 (.tuple #[.agg (fl [[.int .i64 0],[.int .u32 7],[.int .u32 0],bw Z105]),.int .i64 0]) (tf 11 5) rfl (fun x_ hu=>by kernel_rfl) (hB.get 0 (x:=⟨g1,fl [bw K1,[.bool true]],25⟩) rfl) ?_
 simp only [nrm]
 refine any_tk 6 (.agg (fl [[.int .i64 0],[.int .u32 7],[.int .u32 0],bw Z105])) (tf 11 6) rfl (fun x_ hu=>by kernel_rfl) (hB.get 0 (x:=⟨g1,fl [bw K1,[.bool true]],25⟩) rfl) ?_
 simp only [nrm]
 refine any_tk 7 (.int .i64 0) (tf 11 7) rfl (fun x_ hu=>by kernel_rfl) (hB.get 0 (x:=⟨g1,fl [bw K1,[.bool true]],25⟩) rfl) ?_
 simp only [nrm]
 refine float_again (fun q u=>NKf u6.heap.size (fl [[.int .i64 0],[.int .u32 0],[.int .u32 0],bw Z105]) 30 u q) 4 (fun b_=>#[true,true,true,true,true,true,true,true,b_,false,false]) 8 9 true (b:=b1_4) (q:=q1_4) rfl rfl hTq (fun v_ g_=>g_.blk (hB.get 0 (x:=⟨g1,fl [bw K1,[.bool true]],25⟩) rfl)) (by kernel_rfl) (fun b_=>by cases b_ <;> rfl) ?_ ?_
 all_goals simp only [fw1,Act.put,List.setIfInBounds_toArray,List.set_cons_zero,List.set_cons_succ,List.getElem_toArray,List.getElem_cons_zero,List.getElem_cons_succ]
 ·intro q_ x_ hgx K hK
  refine wpOp_step (o:=_) rfl (fun K' hK'=>?_)
  replace hK':=hide hK'
  replace hK:=hide hK
  refine step_val (.pointer (some ⟨x_.heap.size,0,none⟩)) (x_.alloc (.cells (fl [[.int .i64 0],[.int .u32 0],[.int .u32 0],bw Z105]) 30 (0,0))) (by kernel_rfl) (by kernel_rfl) ?_
  exact unhide hK' _ _ (unhide hK _ _ ((Gr.refl _).alloc _) (⟨_,rfl,Nat.le_trans (unhide hsz_) hgx.size,blk_new _ _⟩))
 clear hTq
 intro b1_9 q1_9 x1_9 hg hTq hall
 replace hsz_:=hide ((unhide hsz_).gr hg)
 replace hB:=hB.more hg
 clear hg
 obtain rfl:b1_9=true:=hall (by trivial)
 replace hTq:=hTq rfl
 clear hall
 obtain ⟨g4,rfl,hge_,hnew_⟩:=hTq
 replace hB:=Bl.joinz (unhide hB0) hB hge_ hnew_
 simp only [List.cons_append,List.nil_append] at hB
 clear hB0 hge_ hnew_
 refine wpOp_step (o:=_) rfl (fun K hK=>?_)
 replace hK:=hide hK
 refine step_all 30 (.tmp 4) (.tmp 20) (g4) (S2:=[[.int .i64 0],[.int .u32 7],[.int .u32 0],bw Z105]) (by kernel_rfl) rfl (by kernel_rfl) (by kernel_rfl) hB 2 rfl NE (nE (show List.length Z105=105 from rfl) _ _ _) (nE (show List.length Z105=105 from rfl) _ _ _) (by kernel_rfl) (oE _ rfl rfl rfl) ?_
 intro u9 hB_ hbt_
 clear hB
 replace hB:Bl w [⟨g1,fl [bw K1,[.bool true]],25⟩,⟨g2,fl [bw D,bw C],36⟩,⟨g4,fl [[.int .i64 0],[.int .u32 7],[.int .u32 0],bw Z105],30⟩] u9:=hB_
 clear hB_
 clear hbt_
 refine unhide hK _ _ ⟨(hB.get 0 (x:=⟨g1,fl [bw K1,[.bool true]],25⟩) rfl),?_⟩
 clear hK K
 simp only [nrm]
 refine any_one (i:=10) (by kernel_rfl) rfl (fun K hK=>?_)
 replace hK:=hide hK
 go_simp
 refine (unhide hK).out _ _ (hB.get 0 (x:=⟨g1,fl [bw K1,[.bool true]],25⟩) rfl) (fun _=>?_)
 clear hK K
 refine any_done (by kernel_rfl) ?_
 clear hsz_
 replace hB:=hide hB
 go_upto_region 4 with fail
 replace hB:=unhide hB
 refine wp_region_lit ?_
 refine wpList_gen fun ops_ hops=>?_
 replace hops:=hide hops
 refine list_val (.int .i64 0) (by rw [unhide hops]; kernel_rfl) (by kernel_rfl) ?_
 simp only [nrm]
 refine list_val (.bool true) (by rw [unhide hops]; kernel_rfl) (eql_e _ (.tmp 22) (.const (.int .i64 0)) 0 0 true rfl (by kernel_rfl) (by kernel_rfl) (by decide)) ?_
 simp only [nrm]
 refine list_val (.bool true) (by rw [unhide hops]; kernel_rfl) (by kernel_rfl) ?_
 simp only [nrm]
 refine list_val (.int .i64 0) (by rw [unhide hops]; kernel_rfl) (by kernel_rfl) ?_
 simp only [nrm]
 refine list_val (.bool true) (by rw [unhide hops]; kernel_rfl) (eql_e _ (.tmp 25) (.const (.int .i64 0)) 0 0 true rfl (by kernel_rfl) (by kernel_rfl) (by decide)) ?_
 simp only [nrm]
 refine list_val (.bool true) (by rw [unhide hops]; kernel_rfl) (by kernel_rfl) ?_
 simp only [nrm]
 refine list_val (.bool true) (by rw [unhide hops]; kernel_rfl) (by kernel_rfl) ?_
 simp only [nrm]
 refine list_val (.agg (fl [[.int .i64 0],[.int .u32 7],[.int .u32 0],bw Z105])) (by rw [unhide hops]; kernel_rfl) (exec_sw _ 30 (.tmp 4) rfl (g4) (by kernel_rfl) (hB.get 2 (x:=⟨g4,fl [[.int .i64 0],[.int .u32 7],[.int .u32 0],bw Z105],30⟩) rfl) NE (nE (show List.length Z105=105 from rfl) _ _ _) Tryz.underlying30 rfl (by kernel_rfl)) ?_
 simp only [nrm]
 refine list_val (.agg (fl [[.int .i64 0],[.int .u32 7],[.int .u32 0],bw Z105])) (by rw [unhide hops]; kernel_rfl) (bE1 _ (.const (.int .u32 7)) rfl (by kernel_rfl)) ?_
 simp only [nrm]
 refine list_val (.bool true) (by rw [unhide hops]; kernel_rfl) (exec_eql_e _ (.tmp 29) (.tmp 30) rfl (fl [[.int .i64 0],[.int .u32 7],[.int .u32 0],bw Z105]) (by kernel_rfl) (by kernel_rfl) (eq_ef 0 7 0 (show List.length Z105=105 from rfl) _)) ?_
 simp only [nrm]
 refine list_val (.bool true) (by rw [unhide hops]; kernel_rfl) (by kernel_rfl) ?_
 simp only [nrm]
 refine list_val (.bool true) (by rw [unhide hops]; kernel_rfl) (by kernel_rfl) ?_
 simp only [nrm]
 refine list_call 16 #[] (by rw [unhide hops]; kernel_rfl) (by kernel_rfl) ((vempty_ok u9).mono ?_)
 rintro r_ u10 ⟨ge,rfl,hge,hgb,hg⟩
 replace hB:=hB.more hg
 clear hg
 clear hge hgb
 refine ⟨_,rfl,?_⟩
 simp only [nrm]
 refine list_val (.int .i64 130) (by rw [unhide hops]; kernel_rfl) (by kernel_rfl) ?_
 simp only [nrm]
 refine list_val (.bool true) (by rw [unhide hops]; kernel_rfl) (eql_i _ (.tmp 35) (.const (.int .i64 130)) 130 130 true rfl (by kernel_rfl) (by kernel_rfl) (by decide)) ?_
 simp only [nrm]
 refine list_val (.bool true) (by rw [unhide hops]; kernel_rfl) (by kernel_rfl) ?_
 simp only [nrm]
 (refine wpList_step fun K hK=>?_; replace hK:=hide hK; go_simp; refine unhide hK _ _ ?_; clear hK K)
 refine wpList_nil ?_
 replace hB:=hide hB
 go_wp2_with fail
 replace hB:=unhide hB
 rw [unhide hT]
 exact (⟨rfl,hB.gr⟩)
theorem wakes_ok (w:World) (hF:Fst w):Calls Tryz.prog 6 #[] w (Vl (.bool true) w):=wakes0_ok _ _ _ _ _ w hF rfl rfl rfl rfl rfl
end Go.Proofs.YthahhglbeafkmaaGreatDoor
