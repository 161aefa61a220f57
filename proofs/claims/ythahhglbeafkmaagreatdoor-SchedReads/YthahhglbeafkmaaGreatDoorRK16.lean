/-
  SchedReads, given whatever pair, round and bytes, returns true, and its arguments read afterwards as they read before: for every input; the package variable first holds what the program's text lays (the card ties it).
-/
import Derived.Test.YthahhglbeafkmaaGreatDoorRows
import Derived.ProofKit
import Derived.OpenShut
import Derived.ChangeOld
import Derived.ChangeSame
import Derived.SizedLaws
import Derived.Deep.Strs
import Derived.Deep.Grids
import Derived.Lib.SmallJoins
import Derived.Test.YthahhglbeafkmaaGreatDoorTie
import Derived.Test.YthahhglbeafkmaaGreatDoorCards
import Derived.LaidMore
import Derived.Stop.Joined
import Derived.SevenTiedAt
import Derived.Test.YthahhglbeafkmaaGreatDoorRK15
namespace Go.Proofs.YthahhglbeafkmaaGreatDoor
open Go.RowKit
set_option maxRecDepth 100000
set_option linter.unusedSimpArgs false
set_option linter.unusedVariables false
theorem exec_b0b {a:Act} {o:Oper} (w:World) (ho:o.op=.buildSlice 43 0 #[]) :
  (execOp a.eval o).run Tryz.prog w=.ok (.value (.slice (some ⟨w.heap.size,0,none⟩) 0 0)) (w.alloc (.cells #[] 5 (0,0))):=by
 unfold execOp
 simp only [ho,List.map_toArray,List.map_nil]
 kernel_rfl
theorem ob_mt {b g:Nat} {w:World} (h:w.heap[g]?=some (.cells #[] 5 (0,0))) (hb:b≤g):Ob b w (.slice (some ⟨g,0,none⟩) 0 0) []:=ob_of (X:=[]) h rfl hb (by decide)
def Mt (g:Nat) (u:World):Prop:=u.heap[g]?=some (.cells #[] 5 (0,0))
theorem Mt.gr {g:Nat} {u v:World} (h:Mt g u) (k:Gr u v):Mt g v:=k.blk h
theorem NKf.grown {b gq:Nat} {C:Array Value} {t:TypeId} {u v:World} {q:Value} (h:NKf b C t u q) (k:u.grownBy v (Value.slice (some ⟨gq,0,none⟩) 0 0).ownBlock) (hq:Mt gq u) (ht:t≠5):NKf b C t v q:=by
 obtain ⟨g,h1,h2,h3⟩:=h
 refine ⟨g,h1,h2,?_⟩
 rw [k.block g (lt_of_block h3) ?_]
 ·exact h3
 ·intro e
  have e2:g=gq:=by simpa [Value.ownBlock] using e
  subst e2
  unfold Mt at hq
  rw [h3] at hq
  simp only [Option.some.injEq,Obj.cells.injEq] at hq
  exact ht hq.2.1
set_option maxHeartbeats 4000000 in
theorem reads_any (Ky:List Int) (hKy:Ky.length=32) (f:Bool) (r:Int) (z:Option Addr) (n c:Nat) (L:List Int) (hc:c≤140737488355328) (ek ea es er:Int) (eB:List Int) (heB:eB.length=105) (w:World) (hF:Fst w) (lp:Lb w z n c L) (hv:∀ u a1 c1,Gr w u→Lb u a1 n c1 L→Calls Tryz.prog 10 #[.agg (fl [bw Ky,[.bool f]]),.int .u64 r,.slice a1 n c1] u (Vl (.tuple #[.agg (fl [[.int .i64 ek],[.int .u32 ea],[.int .u32 es],bw eB]),.int .i64 er]) u)) (hy:∀ u,Gr w u→Calls Tryz.prog 11 #[.agg (fl [bw Ky,[.bool f]]),.int .u64 r,.slice z n c] u (Vl (.tuple #[.agg (fl [[.int .i64 ek],[.int .u32 ea],[.int .u32 es],bw eB]),.int .i64 er]) u)):Calls Tryz.prog 4 #[.agg (fl [bw Ky,[.bool f]]),.int .u64 r,.slice z n c] w (Vl (.bool true) w):=by
 obtain ⟨T,hT⟩:∃ T:Ending→World→Prop,T=(Vl (.bool true) w):=⟨_,rfl⟩
 rw [← hT]
 replace hT:=hide hT
 have hLn:=lp.len
 have hLb:=hide lp.isB
 have hnc:=lp.cap
 obtain ⟨A0_,hA0_⟩:∃ S_,S_=fl [bw Ky,[.bool f]]:=⟨_,rfl⟩
 rw [← hA0_]
 replace hA0_:=hide hA0_
 replace hF:=hide hF
 replace lp:=hide lp
 replace hv:=hide hv
 replace hy:=hide hy
 go_enter Tryz.func4,Tryz.ntmps4
 go_upto_region 1 with fail
 have hB:=((Bl.nil w).new A0_ 25)
 simp only [size_alloc,List.nil_append,List.cons_append] at hB
 rw [unhide hA0_] at hB
 generalize hu_:World.alloc _ _=u0
 replace hB:Bl w [⟨w.heap.size,fl [bw Ky,[.bool f]],25⟩] u0:=by
  rw [← hu_]
  rw [unhide hA0_]
  exact hB
 clear hu_ hA0_
 refine wp_region_lit ?_
 refine list_call 6 #[] (by kernel_rfl) (by kernel_rfl) ((wakes_ok u0 ((unhide hF).gr hB.gr)).mono ?_)
 rintro r_ u1 ⟨rfl,hg⟩
 replace hB:=hB.more hg
 clear hg
 refine ⟨_,rfl,?_⟩
 simp only [nrm]
 refine lvk (.bool false) ?_
 simp only [nrm]
 refine wpList_nil ?_
 replace hB:=hide hB
 go_upto_region 3 with fail
 replace hB:=unhide hB
 refine any_start (S:=fun v_=>v_.heap[w.heap.size]?=some (.cells (fl [bw Ky,[.bool f]]) 25 (0,0))) (by kernel_rfl) ?_
 replace hB:=hB.drew
 generalize World.drew _=u2 at *
 have hB0:=hide hB
 have hsz_:Hid (Sz u2.heap.size u2):=Nat.le_refl _
 simp only [List.size_toArray,List.length_cons,List.length_nil,Array.replicate,List.replicate]
 refine any_tk 0 (.agg (fl [bw Ky,[.bool f]])) (tf 12 0) rfl (fun x_ hu=>exec_sw _ 25 (.tmp 3) rfl (w.heap.size) (by kernel_rfl) hu NP (nP hKy _) Tryz.underlying25 rfl (by kernel_rfl)) (hB.get 0 (x:=⟨w.heap.size,fl [bw Ky,[.bool f]],25⟩) rfl) ?_
 simp only [nrm]
 refine any_tk 1 (.int .u64 r) (tf 12 1) rfl (fun x_ hu=>by kernel_rfl) (hB.get 0 (x:=⟨w.heap.size,fl [bw Ky,[.bool f]],25⟩) rfl) ?_
 simp only [nrm]
 refine any_tk 3 (.slice z n c) (tf 12 2) rfl (fun x_ hu=>by kernel_rfl) (hB.get 0 (x:=⟨w.heap.size,fl [bw Ky,[.bool f]],25⟩) rfl) ?_
 simp only [nrm]
 refine float_first (fun q u=>NKf u2.heap.size (fl [[.int .i64 0],[.int .u32 0],[.int .u32 0],bw Z105]) 30 u q) 7 (fun b_=>#[true,true,false,true,false,false,false,false,false,b_,false,false]) 9 2 false rfl rfl (fun v_ g_=>g_.blk (hB.get 0 (x:=⟨w.heap.size,fl [bw Ky,[.bool f]],25⟩) rfl)) (by kernel_rfl) (fun b_=>by cases b_ <;> rfl) ?_ ?_
 all_goals simp only [fw1,Act.put,List.setIfInBounds_toArray,List.set_cons_zero,List.set_cons_succ,List.getElem_toArray,List.getElem_cons_zero,List.getElem_cons_succ]
 ·intro q_ x_ hgx K hK
  refine wpOp_step (o:=_) rfl (fun K' hK'=>?_)
  replace hK':=hide hK'
  replace hK:=hide hK
  refine step_val (.pointer (some ⟨x_.heap.size,0,none⟩)) (x_.alloc (.cells (fl [[.int .i64 0],[.int .u32 0],[.int .u32 0],bw Z105]) 30 (0,0))) (by kernel_rfl) (by kernel_rfl) ?_
  exact unhide hK' _ _ (unhide hK _ _ ((Gr.refl _).alloc _) (⟨_,rfl,Nat.le_trans (unhide hsz_) hgx.size,blk_new _ _⟩))
 intro b1_2 q1_2 x1_2 hg hTq hall
 first | replace hmt:=hide ((unhide hmt).gr hg) | skip
 first | replace l1:=hide ((unhide l1).gr hg) | skip
 replace hsz_:=hide ((unhide hsz_).gr hg)
 replace hB:=hB.more hg
 clear hg
 clear hall
 refine wpOp_step (o:=_) rfl (fun K hK=>?_)
 replace hK:=hide hK
 refine step_val (.slice (some ⟨x1_2.heap.size,0,none⟩) 0 0) (x1_2.alloc (.cells #[] 5 (0,0))) (by kernel_rfl) (exec_b0b _ rfl) ?_
 have hg:=(Gr.refl x1_2).alloc (.cells #[] 5 (0,0))
 have hmt:Hid (Mt x1_2.heap.size _):=blk_new x1_2 (.cells #[] 5 (0,0))
 have hgq:w.heap.size≤x1_2.heap.size:=hB.gr.size
 replace hTq:=fun e=>NKf.gr (hTq e) hg
 replace hsz_:=hide ((unhide hsz_).gr hg)
 replace hB:=hB.more hg
 clear hg
 generalize World.alloc _ _=u3 at *
 generalize x1_2.heap.size=gq at *
 refine unhide hK _ _ ⟨(hB.get 0 (x:=⟨w.heap.size,fl [bw Ky,[.bool f]],25⟩) rfl),?_⟩
 clear hK K
 simp only [nrm]
 refine float_again (fun q u=>NKf u2.heap.size (fl [[.int .i64 0],[.int .u32 0],[.int .u32 0],bw Z105]) 30 u q) 7 (fun b_=>#[true,true,true,true,false,false,false,false,false,b_,false,false]) 9 4 false (b:=b1_2) (q:=q1_2) rfl rfl hTq (fun v_ g_=>g_.blk (hB.get 0 (x:=⟨w.heap.size,fl [bw Ky,[.bool f]],25⟩) rfl)) (by kernel_rfl) (fun b_=>by cases b_ <;> rfl) ?_ ?_
 all_goals simp only [fw1,Act.put,List.setIfInBounds_toArray,List.set_cons_zero,List.set_cons_succ,List.getElem_toArray,List.getElem_cons_zero,List.getElem_cons_succ]
 ·intro q_ x_ hgx K hK
  refine wpOp_step (o:=_) rfl (fun K' hK'=>?_)
  replace hK':=hide hK'
  replace hK:=hide hK
  refine step_val (.pointer (some ⟨x_.heap.size,0,none⟩)) (x_.alloc (.cells (fl [[.int .i64 0],[.int .u32 0],[.int .u32 0],bw Z105]) 30 (0,0))) (by kernel_rfl) (by kernel_rfl) ?_
  exact unhide hK' _ _ (unhide hK _ _ ((Gr.refl _).alloc _) (⟨_,rfl,Nat.le_trans (unhide hsz_) hgx.size,blk_new _ _⟩))
 clear hTq
 intro b1_4 q1_4 x1_4 hg hTq hall
 first | replace hmt:=hide ((unhide hmt).gr hg) | skip
 first | replace l1:=hide ((unhide l1).gr hg) | skip
 replace hsz_:=hide ((unhide hsz_).gr hg)
 replace hB:=hB.more hg
 clear hg
 clear hall
 refine wpOp_step (o:=_) rfl (fun K hK=>?_)
 replace hK:=hide hK
 rw [if_pos (by kernel_rfl)]
 refine app_op (.tmp 16) (.tmp 17) rfl w.heap.size (.slice (some ⟨gq,0,none⟩) 0 0) [] (by kernel_rfl) (ob_mt (unhide hmt) hgq) z n c L (by kernel_rfl) hLn ((unhide lp).gr hB.gr).sl (by rw [List.length_nil]; omega) hB.gr.size ?_
 intro v1 u4 ho hgr
 replace hTq:=fun e=>NKf.grown (hTq e) hgr (unhide hmt) (by decide)
 replace hsz_:Hid (Sz _ u4):=Nat.le_trans (unhide hsz_) hgr.size
 replace hB:=hB.grown (ob_mt (unhide hmt) hgq) (Nat.le_refl _) hgr (by intro y_ hy_; simp only [List.mem_cons,List.not_mem_nil,or_false] at hy_; rcases hy_ with rfl <;> (dsimp only; decide))
 simp only [List.nil_append] at ho
 obtain ⟨a1,c1,rfl,l1⟩:=ho.lb' (unhide hLb) n hLn
 clear ho hgr hmt hgq
 replace l1:=hide l1
 refine unhide hK _ _ ⟨(hB.get 0 (x:=⟨w.heap.size,fl [bw Ky,[.bool f]],25⟩) rfl),?_⟩
 clear hK K
 simp only [nrm]
 refine float_again (fun q u=>NKf u2.heap.size (fl [[.int .i64 0],[.int .u32 0],[.int .u32 0],bw Z105]) 30 u q) 7 (fun b_=>#[true,true,true,true,true,false,false,false,false,b_,false,false]) 9 5 false (b:=b1_4) (q:=q1_4) rfl rfl hTq (fun v_ g_=>g_.blk (hB.get 0 (x:=⟨w.heap.size,fl [bw Ky,[.bool f]],25⟩) rfl)) (by kernel_rfl) (fun b_=>by cases b_ <;> rfl) ?_ ?_
 all_goals simp only [fw1,Act.put,List.setIfInBounds_toArray,List.set_cons_zero,List.set_cons_succ,List.getElem_toArray,List.getElem_cons_zero,List.getElem_cons_succ]
 ·intro q_ x_ hgx K hK
  refine wpOp_step (o:=_) rfl (fun K' hK'=>?_)
  replace hK':=hide hK'
  replace hK:=hide hK
  refine step_val (.pointer (some ⟨x_.heap.size,0,none⟩)) (x_.alloc (.cells (fl [[.int .i64 0],[.int .u32 0],[.int .u32 0],bw Z105]) 30 (0,0))) (by kernel_rfl) (by kernel_rfl) ?_
  exact unhide hK' _ _ (unhide hK _ _ ((Gr.refl _).alloc _) (⟨_,rfl,Nat.le_trans (unhide hsz_) hgx.size,blk_new _ _⟩))
 clear hTq
 intro b1_5 q1_5 x1_5 hg hTq hall
 first | replace hmt:=hide ((unhide hmt).gr hg) | skip
 first | replace l1:=hide ((unhide l1).gr hg) | skip
 replace hsz_:=hide ((unhide hsz_).gr hg)
 replace hB:=hB.more hg
 clear hg
 clear hall
 refine wpOp_step (o:=_) rfl (fun K hK=>?_)
 replace hK:=hide hK
 refine step_callw (by kernel_rfl) 10 #[.agg (fl [bw Ky,[.bool f]]),.int .u64 r,.slice a1 n c1] (by kernel_rfl) ((unhide hv x1_5 a1 c1 hB.gr (unhide l1)).mono ?_)
 rintro r u5 ⟨rfl,hg⟩
 refine ⟨_,rfl,?_⟩
 replace hTq:=fun e=>NKf.gr (hTq e) hg
 replace hsz_:=hide ((unhide hsz_).gr hg)
 replace hB:=hB.more hg
 clear hg
 refine unhide hK _ _ ⟨(hB.get 0 (x:=⟨w.heap.size,fl [bw Ky,[.bool f]],25⟩) rfl),?_⟩
 clear hK K
 simp only [nrm]
 refine any_tk 6 (.tuple #[.agg (fl [[.int .i64 ek],[.int .u32 ea],[.int .u32 es],bw eB]),.int .i64 er]) (tf 12 6) rfl (fun x_ hu=>by kernel_rfl) (hB.get 0 (x:=⟨w.heap.size,fl [bw Ky,[.bool f]],25⟩) rfl) ?_
 simp only [nrm]
 refine any_tk 7 (.agg (fl [[.int .i64 ek],[.int .u32 ea],[.int .u32 es],bw eB])) (tf 12 7) rfl (fun x_ hu=>by kernel_rfl) (hB.get 0 (x:=⟨w.heap.size,fl [bw Ky,[.bool f]],25⟩) rfl) ?_
 simp only [nrm]
 refine any_tk 8 (.int .i64 er) (tf 12 8) rfl (fun x_ hu=>by kernel_rfl) (hB.get 0 (x:=⟨w.heap.size,fl [bw Ky,[.bool f]],25⟩) rfl) ?_
 simp only [nrm]
 refine float_again (fun q u=>NKf u2.heap.size (fl [[.int .i64 0],[.int .u32 0],[.int .u32 0],bw Z105]) 30 u q) 7 (fun b_=>#[true,true,true,true,true,true,true,true,true,b_,false,false]) 9 10 true (b:=b1_5) (q:=q1_5) rfl rfl hTq (fun v_ g_=>g_.blk (hB.get 0 (x:=⟨w.heap.size,fl [bw Ky,[.bool f]],25⟩) rfl)) (by kernel_rfl) (fun b_=>by cases b_ <;> rfl) ?_ ?_
 all_goals simp only [fw1,Act.put,List.setIfInBounds_toArray,List.set_cons_zero,List.set_cons_succ,List.getElem_toArray,List.getElem_cons_zero,List.getElem_cons_succ]
 ·intro q_ x_ hgx K hK
  refine wpOp_step (o:=_) rfl (fun K' hK'=>?_)
  replace hK':=hide hK'
  replace hK:=hide hK
  refine step_val (.pointer (some ⟨x_.heap.size,0,none⟩)) (x_.alloc (.cells (fl [[.int .i64 0],[.int .u32 0],[.int .u32 0],bw Z105]) 30 (0,0))) (by kernel_rfl) (by kernel_rfl) ?_
  exact unhide hK' _ _ (unhide hK _ _ ((Gr.refl _).alloc _) (⟨_,rfl,Nat.le_trans (unhide hsz_) hgx.size,blk_new _ _⟩))
 clear hTq
 intro b1_10 q1_10 x1_10 hg hTq hall
 first | replace hmt:=hide ((unhide hmt).gr hg) | skip
 first | replace l1:=hide ((unhide l1).gr hg) | skip
 replace hsz_:=hide ((unhide hsz_).gr hg)
 replace hB:=hB.more hg
 clear hg
 obtain rfl:b1_10=true:=hall (by trivial)
 replace hTq:=hTq rfl
 clear hall
 obtain ⟨g7,rfl,hge_,hnew_⟩:=hTq
 replace hB:=Bl.joinz (unhide hB0) hB hge_ hnew_
 simp only [List.cons_append,List.nil_append] at hB
 clear hB0 hge_ hnew_
 refine wpOp_step (o:=_) rfl (fun K hK=>?_)
 replace hK:=hide hK
 refine step_all 30 (.tmp 7) (.tmp 20) (g7) (S2:=[[.int .i64 ek],[.int .u32 ea],[.int .u32 es],bw eB]) (by kernel_rfl) rfl (by kernel_rfl) (by kernel_rfl) hB 1 rfl NE (nE (show List.length Z105=105 from rfl) _ _ _) (nE heB _ _ _) (by kernel_rfl) (oE _ rfl rfl rfl) ?_
 intro u6 hB_ hbt_
 clear hB
 replace hB:Bl w [⟨w.heap.size,fl [bw Ky,[.bool f]],25⟩,⟨g7,fl [[.int .i64 ek],[.int .u32 ea],[.int .u32 es],bw eB],30⟩] u6:=hB_
 clear hB_
 clear hbt_
 refine unhide hK _ _ ⟨(hB.get 0 (x:=⟨w.heap.size,fl [bw Ky,[.bool f]],25⟩) rfl),?_⟩
 clear hK K
 simp only [nrm]
 refine any_one (i:=11) (by kernel_rfl) rfl (fun K hK=>?_)
 replace hK:=hide hK
 go_simp
 refine (unhide hK).out _ _ (hB.get 0 (x:=⟨w.heap.size,fl [bw Ky,[.bool f]],25⟩) rfl) (fun _=>?_)
 clear hK K
 refine any_done (by kernel_rfl) ?_
 clear hsz_
 replace hB:=hide hB
 go_upto_region 4 with fail
 replace hB:=unhide hB
 refine wp_region_lit ?_
 refine list_val (.agg (fl [bw Ky,[.bool f]])) (by kernel_rfl) (exec_sw _ 25 (.tmp 3) rfl (w.heap.size) (by kernel_rfl) (hB.get 0 (x:=⟨w.heap.size,fl [bw Ky,[.bool f]],25⟩) rfl) NP (nP hKy _) Tryz.underlying25 rfl (by kernel_rfl)) ?_
 simp only [nrm]
 refine lvk (.int .u64 r) ?_
 simp only [nrm]
 refine lvk (.slice z n c) ?_
 simp only [nrm]
 refine list_call 11 #[.agg (fl [bw Ky,[.bool f]]),.int .u64 r,.slice z n c] (by kernel_rfl) (by kernel_rfl) ((unhide hy u6 hB.gr).mono ?_)
 rintro r_ u7 ⟨rfl,hg⟩
 replace hB:=hB.more hg
 clear hg
 refine ⟨_,rfl,?_⟩
 simp only [nrm]
 refine lvk (.tuple #[.agg (fl [[.int .i64 ek],[.int .u32 ea],[.int .u32 es],bw eB]),.int .i64 er]) ?_
 simp only [nrm]
 refine lvk (.agg (fl [[.int .i64 ek],[.int .u32 ea],[.int .u32 es],bw eB])) ?_
 simp only [nrm]
 refine lvk (.int .i64 er) ?_
 simp only [nrm]
 refine list_valw (.pointer (some ⟨u7.heap.size,0,none⟩)) (u7.alloc (.cells (fl [[.int .i64 0],[.int .u32 0],[.int .u32 0],bw Z105]) 30 (0,0))) (by kernel_rfl) (by kernel_rfl) ?_
 replace hB:=hB.new (fl [[.int .i64 0],[.int .u32 0],[.int .u32 0],bw Z105]) 30
 simp only [List.nil_append,List.cons_append] at hB
 generalize World.alloc _ _=u8 at *
 generalize u7.heap.size=g9 at *
 replace hB:Bl w [⟨w.heap.size,fl [bw Ky,[.bool f]],25⟩,⟨g7,fl [[.int .i64 ek],[.int .u32 ea],[.int .u32 es],bw eB],30⟩,⟨g9,fl [[.int .i64 0],[.int .u32 0],[.int .u32 0],bw Z105],30⟩] u8:=hB
 simp only [nrm]
 refine list_all 30 (.tmp 9) (.tmp 27) (g9) (S2:=[[.int .i64 ek],[.int .u32 ea],[.int .u32 es],bw eB]) (by kernel_rfl) rfl (by kernel_rfl) (by kernel_rfl) hB 2 rfl NE (nE (show List.length Z105=105 from rfl) _ _ _) (nE heB _ _ _) (by kernel_rfl) (oE _ rfl rfl rfl) ?_
 intro u9 hB_ hbt_
 clear hB
 replace hB:Bl w [⟨w.heap.size,fl [bw Ky,[.bool f]],25⟩,⟨g7,fl [[.int .i64 ek],[.int .u32 ea],[.int .u32 es],bw eB],30⟩,⟨g9,fl [[.int .i64 ek],[.int .u32 ea],[.int .u32 es],bw eB],30⟩] u9:=hB_
 clear hB_
 clear hbt_
 simp only [nrm]
 (refine wpList_step fun K hK=>?_; replace hK:=hide hK; go_simp; refine unhide hK _ _ ?_; clear hK K)
 refine wpList_nil ?_
 replace hB:=hide hB
 go_upto_region 5 with fail
 replace hB:=unhide hB
 refine wp_region_lit ?_
 refine wpList_gen fun ops_ hops=>?_
 replace hops:=hide hops
 refine list_val (.agg (fl [[.int .i64 ek],[.int .u32 ea],[.int .u32 es],bw eB])) (by rw [unhide hops]; kernel_rfl) (exec_sw _ 30 (.tmp 7) rfl (g7) (by kernel_rfl) (hB.get 1 (x:=⟨g7,fl [[.int .i64 ek],[.int .u32 ea],[.int .u32 es],bw eB],30⟩) rfl) NE (nE heB _ _ _) Tryz.underlying30 rfl (by kernel_rfl)) ?_
 simp only [nrm]
 refine list_val (.agg (fl [[.int .i64 ek],[.int .u32 ea],[.int .u32 es],bw eB])) (by rw [unhide hops]; kernel_rfl) (exec_sw _ 30 (.tmp 9) rfl (g9) (by kernel_rfl) (hB.get 2 (x:=⟨g9,fl [[.int .i64 ek],[.int .u32 ea],[.int .u32 es],bw eB],30⟩) rfl) NE (nE heB _ _ _) Tryz.underlying30 rfl (by kernel_rfl)) ?_
 simp only [nrm]
 refine list_val (.bool true) (by rw [unhide hops]; kernel_rfl) (exec_eql_e _ (.tmp 29) (.tmp 30) rfl (fl [[.int .i64 ek],[.int .u32 ea],[.int .u32 es],bw eB]) (by kernel_rfl) (by kernel_rfl) (eq_ef ek ea es heB _)) ?_
 simp only [nrm]
 refine list_val (.bool true) (by rw [unhide hops]; kernel_rfl) (by kernel_rfl) ?_
 simp only [nrm]
 refine list_val (.int .i64 er) (by rw [unhide hops]; kernel_rfl) (by kernel_rfl) ?_
 simp only [nrm]
 refine list_val (.int .i64 er) (by rw [unhide hops]; kernel_rfl) (by kernel_rfl) ?_
 simp only [nrm]
 refine list_val (.bool true) (by rw [unhide hops]; kernel_rfl) (eql_e _ (.tmp 33) (.tmp 34) er er true rfl (by kernel_rfl) (by kernel_rfl) (decide_eq_true rfl)) ?_
 simp only [nrm]
 refine list_val (.bool true) (by rw [unhide hops]; kernel_rfl) (by kernel_rfl) ?_
 simp only [nrm]
 (refine wpList_step fun K hK=>?_; replace hK:=hide hK; go_simp; refine unhide hK _ _ ?_; clear hK K)
 refine wpList_nil ?_
 replace hB:=hide hB
 go_wp2_with fail
 replace hB:=unhide hB
 rw [unhide hT]
 exact (⟨rfl,hB.gr⟩)
theorem reads_ok (Ky:List Int) (hKy:Ky.length=32) (hKb:IsB Ky) (f:Bool) (r:Int) (hr:0≤r∧r<18446744073709551616) (z:Option Addr) (n c:Nat) (L:List Int) (hc:c≤140737488355328) (w:World) (hF:Fst w) (lp:Lb w z n c L):Calls Tryz.prog 4 #[.agg (fl [bw Ky,[.bool f]]),.int .u64 r,.slice z n c] w (Vl (.bool true) w):=by
 have Z105l:Z105.length=105:=rfl
 by_cases hr0:r=0
 ·subst hr0
  exact reads_any Ky hKy f 0 z n c L hc 0 0 0 291 Z105 Z105l w hF lp (fun u a1 c1 g l=>vread_291 Ky hKy hKb f 0 a1 n c1 u fun u' g'=>unread_291 a1 n c1 u') (fun u g=>yread_291 Ky hKy hKb f z n c u)
 by_cases hn:n=130
 rotate_left
 ·exact reads_any Ky hKy f r z n c L hc 0 0 0 240 Z105 Z105l w hF lp (fun u a1 c1 g l=>vread_240 Ky hKy hKb f r a1 n c1 u fun u' g'=>unread_240 r hr0 a1 n c1 hn u') (fun u g=>yread_240 Ky hKy hKb f z n c r u hr0 hn)
 subst hn
 obtain ⟨p,o,rfl,lp⟩:=lp.some (by decide)
 by_cases hz:L=Z130
 ·exact reads_any Ky hKy f r _ 130 c L hc 0 0 0 290 Z105 Z105l w hF lp (fun u a1 c1 g l=>vread_290 Ky hKy hKb f r a1 130 c1 u fun u' g'=>unread_290 r hr0 a1 c1 L u' (l.gr g') hz) (fun u g=>yread_290 Ky hKy hKb f p o c r hr L u hr0 (lp.gr g) hz)
 by_cases hs:∃ P,IsB P∧L=sealL (rkL r Ky f false) (cntL r) (drL r Ky) P
 rotate_left
 ·have hno:∀ M,IsB M→L≠sealL (rkL r Ky f false) (cntL r) (drL r Ky) M:=fun M h1 h2=>hs ⟨M,h1,h2⟩
  exact reads_any Ky hKy f r _ 130 c L hc 0 0 0 180 Z105 Z105l w hF lp (fun u a1 c1 g l=>vread_shut Ky hKy hKb f r hr.1 a1 130 c1 (by decide) _ _ _ L u (hF.gr g) (fun u' g'=>unread_0 r hr0 a1 c1 L u' (l.gr g') hz) rfl rfl rfl l hno) (fun u g=>yread_180 Ky hKy hKb f p o c r hr L _ _ _ u hr0 (lp.gr g) (hF.gr g) rfl rfl rfl hz hno)
 obtain ⟨P,hPb,hL⟩:=hs
 have hPl:P.length=114:=by
  have h1:=lp.len
  rw [hL,sealL_len'] at h1
  omega
 cases he:evRO P with
 | false=>exact reads_any Ky hKy f r _ 130 c L hc 0 0 0 241 Z105 Z105l w hF lp (fun u a1 c1 g l=>vread_bad Ky hKy hKb f r hr.1 a1 130 c1 (by decide) _ _ _ L P u (hF.gr g) (fun u' g'=>unread_0 r hr0 a1 c1 L u' (l.gr g') hz) rfl rfl rfl l hPl hPb hL he) (fun u g=>yread_241 Ky hKy hKb f p o c r hr L _ _ _ P _ _ _ _ u hr0 (lp.gr g) (hF.gr g) rfl rfl rfl hz hPl hPb hL rfl rfl rfl rfl he)
 | true=>exact reads_any Ky hKy f r _ 130 c L hc _ _ _ 0 _ (sub_len hPl (by decide)) w hF lp (fun u a1 c1 g l=>vread_ok Ky hKy hKb f r hr.1 a1 130 c1 (by decide) _ _ _ L P _ _ _ _ u (hF.gr g) (fun u' g'=>unread_0 r hr0 a1 c1 L u' (l.gr g') hz) rfl rfl rfl l hPl hPb hL he rfl (sub_len hPl (by decide))) (fun u g=>yread_ok Ky hKy hKb f p o c r hr L _ _ _ P _ _ _ _ u hr0 (lp.gr g) (hF.gr g) rfl rfl rfl hz hPl hPb hL rfl rfl rfl rfl he)
end Go.Proofs.YthahhglbeafkmaaGreatDoor
namespace Go.Proofs.YthahhglbeafkmaaGreatDoor
open Go.ChangeShapes Go.WideShapes Go.ChangeAt Go.RowKit
set_option maxRecDepth 100000
set_option linter.unusedSimpArgs false
set_option linter.unusedVariables false
def numV:Value→Int
 | .int _ z=>z
 | _=>0
theorem row8 {H:Type} {enc:TypeId × Value→H} {W:World} {t:TypeId} {n fuel:Nat} {cs:List Value} {x:DataW H × List MemPlace} (ht:Tryz.prog.underlying t=some (.array n 5)) (hc:Tryz.prog.cellsOf t=n)
  (h:DataW.trod enc Tryz.prog W 0 (fun _=>true) true fuel t cs=some x):∃ kl:List Int,cs=kl.map (Value.int .u8)∧kl.length=n∧IsB kl:=by
 obtain ⟨xs,m,_,_,hl,hxl,hx⟩:=DataW.trod_array ht h
 rw [hc] at hl
 have hcell:∀ i,i<n→∃ z,cs[i]?=some (.int .u8 z)∧(Lit.int .u8 z).wf=true:=by
  intro i hi
  have h1:=hx i hi
  rw [Tryz.cells_b,Nat.mul_one,List.getElem?_eq_getElem (by omega)] at h1
  obtain ⟨z,e,_,hwf⟩:=DataW.trod_int Tryz.underlying5 h1
  refine ⟨z,?_,hwf⟩
  have h2:((cs.drop i).take 1)[0]?=some (.int .u8 z):=by rw [e]; rfl
  simpa using h2
 refine ⟨cs.map numV,?_,by simp [hl],?_⟩
 ·apply List.ext_getElem (by simp)
  intro i h1 h2
  obtain ⟨z,hz,_⟩:=hcell i (by omega)
  have:cs[i]=.int .u8 z:=by rw [List.getElem?_eq_getElem h1] at hz; simpa using hz
  simp [this,numV]
 ·intro x hx
  obtain ⟨v,hv,rfl⟩:=List.mem_map.1 hx
  obtain ⟨i,hi,rfl⟩:=List.getElem_of_mem hv
  obtain ⟨z,hz,hwf⟩:=hcell i (by omega)
  have:cs[i]=.int .u8 z:=by rw [List.getElem?_eq_getElem hi] at hz; simpa using hz
  rw [this]
  exact wf_byte hwf
theorem take_sp (l:List Value) (o n:Nat):l.drop o=(l.drop o).take n++l.drop (o+n):=by
 have:=List.take_append_drop n (l.drop o)
 rw [List.drop_drop] at this
 exact this.symm
theorem Tryz.cellsKy:Tryz.prog.cellsOf 23=32:=by kernel_rfl
theorem Tryz.cellsPa:Tryz.prog.cellsOf 25=33:=by kernel_rfl
theorem Tryz.cellsBo:Tryz.prog.cellsOf 4=1:=by kernel_rfl
theorem open_pair {H:Type} {enc:TypeId × Value→H} {W:World} {base:Nat} {v:Value} {d:DataW H} {p:List MemPlace} (hv:Value.okWide Tryz.prog W .any base 25 v) (h:DataW.Trod enc Tryz.prog W 0 (fun _=>true) true 25 v d p) :
  ∃ D f,v=.agg (pairv D f)∧IsB D∧D.length=32:=by
 unfold Value.okWide at hv
 rw [Tryz.underlying25] at hv
 obtain ⟨cs,rfl,hsz,_⟩:=hv
 rw [Tryz.cellsPa] at hsz
 obtain ⟨fuel,hf⟩:=h
 obtain ⟨y0,y1,n,hx,hl,h0,h1⟩:=trod_struct2 Tryz.underlying25 hf
 simp only [Tryz.cellsKy,Tryz.cellsBo] at h0 h1
 obtain ⟨D,eD,hD,bD⟩:=row8 Tryz.underlying23 Tryz.cellsKy h0
 obtain ⟨f,eB,_⟩:=DataW.trod_bool Tryz.underlying4 h1
 refine ⟨D,f,?_,bD,hD⟩
 congr 1
 apply Array.ext'
 simp only [Value.cells,List.drop_zero] at eD eB
 have hl2:cs.toList.length=33:=by simpa using hsz
 generalize cs.toList=l at *
 have s0:=take_sp l 0 32
 have s1:=take_sp l 32 1
 have s2:l.drop 33=[]:=List.drop_eq_nil_of_le (by omega)
 rw [List.drop_zero] at s0
 rw [s0,eD,s1,eB,s2,List.append_nil]
 rfl
end Go.Proofs.YthahhglbeafkmaaGreatDoor
namespace Go.Proofs.YthahhglbeafkmaaGreatDoor
open Go Go.ChangeShapes Go.WideShapes Go.ChangeAt Go.RowKit
set_option linter.unusedVariables false
set_option linter.unusedSimpArgs false
theorem door_met (os:Go.Os) (args:Array Value):laidMetH Tryz.prog [("hollowtree/sha.first",Rows.laid_hollowtree_sha_first)] ((World.doorLaid Tryz.prog 400 os).forCall (fun _ _=>0) ⟨#[],args,[]⟩).memory :=
 laidMetH_of_parts3 (fuel:=8) (laidMet_of_run' 8 (by kernel_rfl) (by kernel_rfl)) (by kernel_rfl) (by kernel_rfl)
set_option maxRecDepth 100000 in
theorem open_u64 {W:World} {base:Nat} {v:Value} {H:Type} {enc:TypeId × Value→H} {d:DataW H} {p:List MemPlace} (hv:Value.okWide Tryz.prog W .any base 26 v) (h:DataW.Trod enc Tryz.prog W 0 (fun _=>true) true 26 v d p):∃ n,v=.int .u64 n∧0≤n∧n<18446744073709551616:=by
 obtain ⟨n,h1,_,_,h4⟩:=open_int Tryz.underlying26 hv h
 have h5:=bounds_u64 h4
 exact ⟨n,h1,by omega⟩
set_option maxRecDepth 100000 in
theorem schedReads_lifted (os:Go.Os) (started:os.Started) (H:Type) (enc:TypeId × Value→H) :
  ReturnsInHanded {} Tryz.checked os 4 .any (fun w args=>(Rows.schedReadsSpec.pre enc Tryz.prog Tryz.f4 [] false w args∧laidMetH Tryz.prog [("hollowtree/sha.first",Rows.laid_hollowtree_sha_first)] w)∧sizedMet enc Tryz.prog Tryz.f4 (OpenSpec.ofChange Rows.schedReadsSpec) false w args)
   (Rows.schedReadsSpec.post enc Tryz.prog Tryz.f4 false true false false):=by
 refine returnsInHanded_of_change_and (C:=Tryz.checked) (X:=fun w _=>laidMetH Tryz.prog [("hollowtree/sha.first",Rows.laid_hollowtree_sha_first)] w) (fun _ _ _ hh h=>h.of_heap hh) own started (by kernel_rfl) Tryz.func4
  (ChangeSpec.witness_shaped (enc:=enc) (C:=Tryz.checked) (os:=os) (X:=fun w _=>laidMetH Tryz.prog [("hollowtree/sha.first",Rows.laid_hollowtree_sha_first)] w) false (World.doorLaid Tryz.prog 400 os) #[.agg (pairv Z32 false),.int .u64 0,.slice none 0 0] 8 rfl (World.shaped_of_RefB (by kernel_rfl) (by kernel_rfl)) (by kernel_rfl) (by kernel_rfl) (by kernel_rfl) (door_met os _)) ?_
 intro W base args ds gs before hval0 hW hcnd hsz0 hL _
 have hsz:(DataW.weightsEach Tryz.prog (Tryz.f4.params.toList++Rows.schedReadsSpec.plain.varTypes Tryz.prog) (ds++gs)).all (·≤reachBytes)=true:=hsz0
 have hval:∀ (j:Nat) t v,Tryz.f4.params[j]?=some t→args[j]?=some v→Value.okWide Tryz.prog W .any base t v:=hval0
 have hW':=hW
 obtain ⟨p,q,hA0,hV,rfl,hfz,hnd⟩:=hW
 have hA:DataW.TrodAll enc Tryz.prog W 0 (fun _=>true) true Tryz.f4.params.toList args.toList ds p:=hA0
 rw [Tryz.params4] at hA hval hsz
 obtain ⟨v0,vs0,d0,ds0,p0,q0,hargs,rfl,rfl,h0,r0⟩:=trodAll_cons hA
 obtain ⟨v1,vs1,d1,ds1,p1,q1,rfl,rfl,rfl,h1,r1⟩:=trodAll_cons r0
 obtain ⟨v2,vs2,d2,ds2,p2,q2,rfl,rfl,rfl,h2,r2⟩:=trodAll_cons r1
 obtain ⟨rfl,rfl,rfl⟩:=trodAll_nil r2
 obtain rfl:args=#[v0,v1,v2]:=by cases args; simp_all
 obtain ⟨rfl,rfl⟩:=trodVars_none hV
 have k0:=h0
 have lt0:∀ x ∈ p0,x.block<W.heap.size:=by obtain ⟨m,hm⟩:=k0; exact DataW.trod_lt m _ _ _ hm
 have k1:=h1
 have lt1:∀ x ∈ p1,x.block<W.heap.size:=by obtain ⟨m,hm⟩:=k1; exact DataW.trod_lt m _ _ _ hm
 have k2:=h2
 have lt2:∀ x ∈ p2,x.block<W.heap.size:=by obtain ⟨m,hm⟩:=k2; exact DataW.trod_lt m _ _ _ hm
 obtain ⟨l0,f0,rfl,b0,hl0⟩:=open_pair (hval 0 25 v0 rfl rfl) h0
 obtain ⟨n1,rfl,z1⟩:=open_u64 (hval 1 26 v1 rfl rfl) h1
 obtain ⟨s2,len2,cap2,rfl⟩:=okWide_slice Tryz.underlying43 (hval 2 43 v2 rfl rfl)
 obtain ⟨l2,b2,hl2,hs2,hc2,hb2⟩:=open_bytes h2 (fun elems spare hd=>sized_slice hsz (j:=2) (t:=43) (e:=5) rfl (by rw [hd]; rfl) Tryz.underlying43)
 clear hA0 hval0
 refine ((show Calls Tryz.prog 4 #[.agg (pairv l0 f0),.int .u64 n1,.slice s2 len2 cap2] W (Vl (.bool true) W) from by rw [pair_fl]; exact reads_ok l0 hl0 b0 f0 n1 z1 s2 len2 cap2 l2 (by omega) W (first_laid hL) ⟨hl2,b2,hs2,hc2,by omega⟩)).mono fun e W' ⟨he,bel⟩=>?_
 subst he
 exact ⟨_,rfl,_,_,_,[],_,[],hW',trodAll_mk1 (shut_bool Tryz.underlying4 _),(trodAll_cons_mk (Below.trod laidOut (by kernel_rfl) (of_decide_eq_true (by kernel_rfl)) k0 bel lt0) (trodAll_cons_mk (Below.trod laidOut (by kernel_rfl) (of_decide_eq_true (by kernel_rfl)) k1 bel lt1) (trodAll_cons_mk (Below.trod laidOut (by kernel_rfl) (of_decide_eq_true (by kernel_rfl)) k2 bel lt2) trodAll_mk0))),rfl,bel.frame _,fun h=>by cases h⟩
theorem schedReads_holds:Rows.SchedReadsSaid :=
 OpenClaim.holds_of_wide 4 Tryz.f4 rfl rfl rfl rfl rfl rfl rfl ⟨rfl,rfl,rfl,rfl,rfl⟩ rfl rfl rfl rfl rfl (by kernel_rfl) Tryz.func4 (by kernel_rfl)
  (of_decide_eq_true (by kernel_rfl)) (by unfold Func.isWrapper; first | (rw [if_pos (by decide +kernel)]; kernel_rfl) | (rw [if_neg (by decide +kernel)]; exact ⟨rfl,rfl⟩))
  (fun os started H enc _=>schedReads_lifted os started H enc)
theorem schedReads_card:Rows.SchedReadsCardSaid :=
 Claim7.holds_tied_plain_at .later [] _ _ _ _
  schedReads_holds (fun _ h=>by cases h) (by kernel_rfl) (fun _ h=>by cases h) schedReads_row_tie rfl ⟨rfl,rfl⟩ (by kernel_rfl) rfl
  (fun f fn hf hfn=>by
   obtain rfl:f=4:=Option.some.inj ((show Tryz.prog.funcNamed "hollowtree/hollowtreelaw19.SchedReads" = some 4 by kernel_rfl).symm.trans hf) |>.symm
   obtain rfl:fn=Tryz.f4:=(Option.some.inj (Tryz.func4.symm.trans hfn)).symm
   exact ⟨by kernel_rfl,fun j t ht=>by
    rw [Tryz.params4] at ht
    have hm:t ∈ [25,26,43]:=by simpa using Array.mem_of_getElem? ht
    have hall:([25,26,43].all fun u => !Tryz.prog.wantsStandIn u)=true:=by kernel_rfl
    exact (show Tryz.prog.wantsStandIn t=false by simpa using List.all_eq_true.1 hall t hm)⟩)
  (by kernel_rfl)
end Go.Proofs.YthahhglbeafkmaaGreatDoor
