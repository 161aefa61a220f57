/-
  What the proof leans on.
-/
import Derived.Test.YtcefkkoombmndabVO6
namespace Go.Proofs.Ytcefkkoombmndab
open Go.RowKit
set_option maxRecDepth 100000
set_option linter.unusedSimpArgs false
set_option linter.unusedVariables false
set_option maxHeartbeats 4000000 in
theorem shear_idle0 (b g:Nat) (A B:Sd) (n m rm:Int) (X:List Int) (w:World) (hb:b≤w.heap.size) (hbg:b≤g) (hS:St b w g A B) (hI:Inv A B) (hn:0≤n∧n≤B.c.dl) (hm:0≤m∧m<4294967296) (hX:X.length=105):Calls Try.prog 13 #[.pointer (some ⟨g,0,none⟩),.agg (fl [[.int .u32 n],[.int .u32 m],bw (X),[.bool true]]),.int .i64 rm] w (fun r_ w'=>r_=.returned (.bool true)∧St b w' g { A with c:=(ak A.c n).1 } B∧Cg g b w w'):=by
 obtain ⟨T,hT⟩:∃ T:Ending→World→Prop,T=(fun r_ w'=>r_=.returned (.bool true)∧St b w' g { A with c:=(ak A.c n).1 } B∧Cg g b w w'):=⟨_,rfl⟩
 rw [← hT]
 replace hT:=hide hT
 obtain ⟨c1,hc1⟩:∃ c,c=(ak A.c n).1:=⟨_,rfl⟩
 obtain ⟨hak,hgk⟩:=ak_go (hI.swap) hn
 have hIn:=Inv.acked (hI.swap) hn
 obtain ⟨k1,hk1⟩:∃ k,k=gk A.c n:=⟨_,rfl⟩
 rw [← hk1] at hak hgk
 have hak2:ak A.c n=(c1,(k1:Int),0):=by rw [hc1,hak]
 have hO1:c1.O.length+k1=A.c.O.length:=by rw [hc1,hak]; simp only [List.length_drop]; omega
 clear hk1
 rw [← hc1] at hT hIn
 obtain ⟨x,y,qA,dA,vA,qB,dB,vB,hg,hA,hD,hXF,hU,hV⟩:=hS
 have hn9:0≤n∧n<4294967296:=⟨hn.1,Int.lt_of_le_of_lt hn.2 (hD.i.dl).2⟩
 have hXo:=hXF.old
 have hXg:Cgs g b w w:=⟨Cg.refl g b w,hb⟩
 have hnol:=hA.i.o.len
 have nlt:=hA.i.o.2.max
 have nlc:=hA.i.o.2.cap
 have hXL:=hX
 obtain ⟨A1_,hA1_⟩:∃ S_,S_=fl [[.int .u32 n],[.int .u32 m],bw X,[.bool true]]:=⟨_,rfl⟩
 rw [← hA1_]
 replace hA1_:=hide hA1_
 replace hIn:=hide hIn; replace hc1:=hide hc1; replace hak:=hide hak; replace hak2:=hide hak2; replace hO1:=hide hO1; replace hI:=hide hI; replace hgk:=hide hgk
 go_enter Try.func13,Try.ntmps13
 go_upto_region 1 with fail
 have hB:=((nilb w).add ⟨g,sg A.c x qA dA vA B.c y qB dB vB,43⟩ hg (Nat.zero_le _) (by intro y hy; cases hy)).new A1_ 53
 simp only [List.nil_append,List.cons_append] at hB
 have hg1:=(Gr.refl w).alloc (.cells A1_ 53 (0,0))
 replace hA:=hA.gr hg1
 replace hD:=hD.gr hg1
 replace hXF:=hXF.gr hg1
 have hXG:=hXg.gr hg1
 clear hg hg1 hXg
 generalize hu_:World.alloc _ _=u0
 replace hB:Bl (bare w) [⟨g,sg A.c x qA dA vA B.c y qB dB vB,43⟩,⟨w.heap.size,fl [[.int .u32 n],[.int .u32 m],bw X,[.bool true]],53⟩] u0:=by
  rw [← hu_,unhide hA1_]
  rw [unhide hA1_] at hB
  exact hB
 replace hA:Co b u0 A.c x:=by rw [← hu_]; exact hA
 replace hD:Co b u0 B.c y:=by rw [← hu_]; exact hD
 replace hXF:Fam b u0 (fam A B qA dA vA qB dB vB):=by rw [← hu_]; exact hXF
 replace hXG:Cgs g b w u0:=by rw [← hu_]; exact hXG
 clear hu_
 replace hXF:=hide hXF; replace hA:=hide hA; replace hD:=hide hD; replace hU:=hide hU; replace hV:=hide hV; replace hXG:=hide hXG
 refine wp_region_lit ?_
 refine lvk (.pointer (some ⟨g,0,none⟩)) ?_
 simp only [nrm]
 refine lvk (.pointer (some ⟨g,0,none⟩)) ?_
 simp only [nrm]
 refine lvk (.pointer (some ⟨g,0,none⟩)) ?_
 simp only [nrm]
 refine list_val (.agg (cg A.c x)) (by kernel_rfl) (exec_sr _ 26 (.tmp 16) rfl (g) 0 (by kernel_rfl) (hB.get 0 (x:=⟨g,sg A.c x qA dA vA B.c y qB dB vB,43⟩) rfl) 0 5 (show 0+5≤16 by decide) rfl Try.underlying26 rfl (by kernel_rfl)) ?_
 simp only [nrm]
 have hgl7:=(unhide hXG).size
 refine list_valw (.pointer (some ⟨u0.heap.size,0,none⟩)) (u0.alloc (.cells (cg0) 26 (0,0))) (by kernel_rfl) (by kernel_rfl) ?_
 replace hB:=hB.new (cg0) 26
 simp only [List.nil_append,List.cons_append] at hB
 have hg:=(Gr.refl u0).alloc (.cells (cg0) 26 (0,0))
 replace hA:=hide ((unhide hA).gr hg)
 replace hD:=hide ((unhide hD).gr hg)
 replace hXF:=hide ((unhide hXF).gr hg)
 replace hXG:=hide ((unhide hXG).gr hg)
 clear hg
 generalize World.alloc _ _=u1 at *
 generalize u0.heap.size=g7 at *
 simp only [nrm]
 have hzz_:Hid (u1.heap[g7]?=some (.cells (cg0) 26 (0,0))):=hide (hB.get 2 (x:=⟨g7,cg0,26⟩) rfl)
 refine list_all 26 (.tmp 7) (.tmp 17) (g7) (S2:=[[.int .u32 A.c.nx],[.slice x.ao x.no x.co],[.int .i64 A.c.tn],[.int .u32 A.c.dl],[.slice x.ah x.nh x.ch]]) (by kernel_rfl) rfl (by kernel_rfl) (by kernel_rfl) hB 2 rfl NC (nC  _ _ _ _ _) (nC  _ _ _ _ _) (by kernel_rfl) (oC  rfl rfl rfl rfl rfl) ?_
 intro u2 hB_ hbt_
 clear hB
 replace hB:Bl (bare w) [⟨g,sg A.c x qA dA vA B.c y qB dB vB,43⟩,⟨w.heap.size,fl [[.int .u32 n],[.int .u32 m],bw X,[.bool true]],53⟩,⟨g7,cg A.c x,26⟩] u2:=hB_
 clear hB_
 replace hA:=hide ((unhide hA).bz (unhide hzz_) hbt_)
 replace hD:=hide ((unhide hD).bz (unhide hzz_) hbt_)
 replace hXF:=hide ((unhide hXF).bo (unhide hzz_) hbt_ hXo hgl7)
 replace hXG:=hide ((unhide hXG).bl (unhide hzz_) hbt_ hgl7)
 clear hbt_ hzz_
 simp only [nrm]
 refine wpList_nil ?_
 replace hB:=hide hB
 go_upto_region 2 with fail
 replace hB:=unhide hB
 refine any_start (S:=fun v_=>v_.heap[g]?=some (.cells (sg A.c x qA dA vA B.c y qB dB vB) 43 (0,0))∧v_.heap[w.heap.size]?=some (.cells (fl [[.int .u32 n],[.int .u32 m],bw X,[.bool true]]) 53 (0,0))) (by kernel_rfl) ?_
 replace hA:=hide ((unhide hA).gr ((Gr.refl u2).drew))
 replace hD:=hide ((unhide hD).gr ((Gr.refl u2).drew))
 replace hXF:=hide ((unhide hXF).gr ((Gr.refl u2).drew))
 replace hXG:=hide ((unhide hXG).gr ((Gr.refl u2).drew))
 replace hB:=hB.drew
 generalize World.drew _=u3 at *
 have hB0:=hide hB
 have hsz_:Hid (Sz u3.heap.size u3):=Nat.le_refl _
 have hsW_:=(unhide hXG).size
 simp only [List.size_toArray,List.length_cons,List.length_nil,Array.replicate,List.replicate]
 refine any_tk 0 (.pointer (some ⟨g,0,none⟩)) (tf 15 0) rfl (fun x_ hu=>by kernel_rfl) ⟨(hB.get 0 (x:=⟨g,sg A.c x qA dA vA B.c y qB dB vB,43⟩) rfl),(hB.get 1 (x:=⟨w.heap.size,fl [[.int .u32 n],[.int .u32 m],bw X,[.bool true]],53⟩) rfl)⟩ ?_
 simp only [nrm]
 refine any_tk 1 (.pointer (some ⟨g,0,none⟩)) (tf 15 1) rfl (fun x_ hu=>by kernel_rfl) ⟨(hB.get 0 (x:=⟨g,sg A.c x qA dA vA B.c y qB dB vB,43⟩) rfl),(hB.get 1 (x:=⟨w.heap.size,fl [[.int .u32 n],[.int .u32 m],bw X,[.bool true]],53⟩) rfl)⟩ ?_
 simp only [nrm]
 refine any_tk 2 (.pointer (some ⟨g,0,none⟩)) (tf 15 2) rfl (fun x_ hu=>by kernel_rfl) ⟨(hB.get 0 (x:=⟨g,sg A.c x qA dA vA B.c y qB dB vB,43⟩) rfl),(hB.get 1 (x:=⟨w.heap.size,fl [[.int .u32 n],[.int .u32 m],bw X,[.bool true]],53⟩) rfl)⟩ ?_
 simp only [nrm]
 refine any_tk 3 (.agg (cg A.c x)) (tf 15 3) rfl (fun x_ hu=>exec_sr _ 26 (.tmp 21) rfl (g) 0 (by kernel_rfl) hu.1 0 5 (show 0+5≤16 by decide) rfl Try.underlying26 rfl (by kernel_rfl)) ⟨(hB.get 0 (x:=⟨g,sg A.c x qA dA vA B.c y qB dB vB,43⟩) rfl),(hB.get 1 (x:=⟨w.heap.size,fl [[.int .u32 n],[.int .u32 m],bw X,[.bool true]],53⟩) rfl)⟩ ?_
 simp only [nrm]
 refine any_tk 4 (.pointer (some ⟨w.heap.size,0,none⟩)) (tf 15 4) rfl (fun x_ hu=>by kernel_rfl) ⟨(hB.get 0 (x:=⟨g,sg A.c x qA dA vA B.c y qB dB vB,43⟩) rfl),(hB.get 1 (x:=⟨w.heap.size,fl [[.int .u32 n],[.int .u32 m],bw X,[.bool true]],53⟩) rfl)⟩ ?_
 simp only [nrm]
 refine any_tk 5 (.int .u32 n) (tf 15 5) rfl (fun x_ hu=>exec_c32 _ (.tmp 23) rfl (w.heap.size) 0 (by kernel_rfl) n (seg_cell (nD hXL _ _ _) hu.2 0 (v:=.int .u32 n) rfl rfl)) ⟨(hB.get 0 (x:=⟨g,sg A.c x qA dA vA B.c y qB dB vB,43⟩) rfl),(hB.get 1 (x:=⟨w.heap.size,fl [[.int .u32 n],[.int .u32 m],bw X,[.bool true]],53⟩) rfl)⟩ ?_
 simp only [nrm]
 refine float_first (fun q u=>NKf u3.heap.size (cg0) 26 u q) 8 (fun b_=>#[true,true,true,true,true,true,false,false,false,false,false,b_,false,false,false]) 11 6 false rfl rfl (fun v_ g_=>⟨g_.blk (hB.get 0 (x:=⟨g,sg A.c x qA dA vA B.c y qB dB vB,43⟩) rfl),g_.blk (hB.get 1 (x:=⟨w.heap.size,fl [[.int .u32 n],[.int .u32 m],bw X,[.bool true]],53⟩) rfl)⟩) (by kernel_rfl) (fun b_=>by cases b_ <;> rfl) ?_ ?_
 all_goals simp only [fw1,Act.put,List.setIfInBounds_toArray,List.set_cons_zero,List.set_cons_succ,List.getElem_toArray,List.getElem_cons_zero,List.getElem_cons_succ]
 ·intro q_ x_ hgx K hK
  refine wpOp_step (o:=_) rfl (fun K' hK'=>?_)
  replace hK':=hide hK'
  replace hK:=hide hK
  refine step_val (.pointer (some ⟨x_.heap.size,0,none⟩)) (x_.alloc (.cells (cg0) 26 (0,0))) (by kernel_rfl) (by kernel_rfl) ?_
  exact unhide hK' _ _ (unhide hK _ _ ((Gr.refl _).alloc _) (⟨_,rfl,Nat.le_trans (unhide hsz_) hgx.size,blk_new _ _⟩))
 intro b1_6 q1_6 x1_6 hg hTq hall
 replace hA:=hide ((unhide hA).gr hg)
 replace hD:=hide ((unhide hD).gr hg)
 replace hXF:=hide ((unhide hXF).gr hg)
 replace hXG:=hide ((unhide hXG).gr hg)
 replace hsz_:=hide ((unhide hsz_).gr hg)
 replace hB:=hB.more hg
 clear hg
 clear hall
 refine wpOp_step (o:=_) rfl (fun K hK=>?_)
 replace hK:=hide hK
 refine step_callw (by kernel_rfl) 21 #[.agg (cg A.c x),.int .u32 n] (by kernel_rfl) ((((show Calls Try.prog 21 #[.agg (cg A.c x),.int .u32 n] x1_6 (Rc c1 [.int .i64 (k1:Int),.int .i64 0] x1_6) from by have h:=packed_ok A.c x n hn9 x1_6 (unhide hA).i; rw [unhide hak2] at h; exact h).mono fun _ _ h=>rcb_of h (Nat.le_trans hb (unhide hXG).size))).mono ?_)
 rintro r u4 ⟨x2,rfl,hE,hg⟩
 refine ⟨_,rfl,?_⟩
 replace hTq:=fun e=>NKf.gr (hTq e) hg
 replace hsz_:=hide ((unhide hsz_).gr hg)
 replace hA:=hide ((unhide hA).gr hg)
 replace hD:=hide ((unhide hD).gr hg)
 replace hXF:=hide ((unhide hXF).gr hg)
 replace hXG:=hide ((unhide hXG).gr hg)
 replace hB:=hB.more hg
 clear hg
 replace hE:=hide hE
 refine unhide hK _ _ ⟨⟨(hB.get 0 (x:=⟨g,sg A.c x qA dA vA B.c y qB dB vB,43⟩) rfl),(hB.get 1 (x:=⟨w.heap.size,fl [[.int .u32 n],[.int .u32 m],bw X,[.bool true]],53⟩) rfl)⟩,?_⟩
 clear hK K
 simp only [nrm]
 refine any_tk 7 (.tuple #[.agg (cg c1 x2),.int .i64 (k1:Int),.int .i64 0]) (tf 15 7) rfl (fun x_ hu=>by kernel_rfl) ⟨(hB.get 0 (x:=⟨g,sg A.c x qA dA vA B.c y qB dB vB,43⟩) rfl),(hB.get 1 (x:=⟨w.heap.size,fl [[.int .u32 n],[.int .u32 m],bw X,[.bool true]],53⟩) rfl)⟩ ?_
 simp only [nrm]
 refine any_tk 8 (.agg (cg c1 x2)) (tf 15 8) rfl (fun x_ hu=>by kernel_rfl) ⟨(hB.get 0 (x:=⟨g,sg A.c x qA dA vA B.c y qB dB vB,43⟩) rfl),(hB.get 1 (x:=⟨w.heap.size,fl [[.int .u32 n],[.int .u32 m],bw X,[.bool true]],53⟩) rfl)⟩ ?_
 simp only [nrm]
 refine any_tk 9 (.int .i64 (k1:Int)) (tf 15 9) rfl (fun x_ hu=>by kernel_rfl) ⟨(hB.get 0 (x:=⟨g,sg A.c x qA dA vA B.c y qB dB vB,43⟩) rfl),(hB.get 1 (x:=⟨w.heap.size,fl [[.int .u32 n],[.int .u32 m],bw X,[.bool true]],53⟩) rfl)⟩ ?_
 simp only [nrm]
 refine any_tk 10 (.int .i64 0) (tf 15 10) rfl (fun x_ hu=>by kernel_rfl) ⟨(hB.get 0 (x:=⟨g,sg A.c x qA dA vA B.c y qB dB vB,43⟩) rfl),(hB.get 1 (x:=⟨w.heap.size,fl [[.int .u32 n],[.int .u32 m],bw X,[.bool true]],53⟩) rfl)⟩ ?_
 simp only [nrm]
 refine float_again (fun q u=>NKf u3.heap.size (cg0) 26 u q) 8 (fun b_=>#[true,true,true,true,true,true,true,true,true,true,true,b_,false,false,false]) 11 12 true (b:=b1_6) (q:=q1_6) rfl rfl hTq (fun v_ g_=>⟨g_.blk (hB.get 0 (x:=⟨g,sg A.c x qA dA vA B.c y qB dB vB,43⟩) rfl),g_.blk (hB.get 1 (x:=⟨w.heap.size,fl [[.int .u32 n],[.int .u32 m],bw X,[.bool true]],53⟩) rfl)⟩) (by kernel_rfl) (fun b_=>by cases b_ <;> rfl) ?_ ?_
 all_goals simp only [fw1,Act.put,List.setIfInBounds_toArray,List.set_cons_zero,List.set_cons_succ,List.getElem_toArray,List.getElem_cons_zero,List.getElem_cons_succ]
 ·intro q_ x_ hgx K hK
  refine wpOp_step (o:=_) rfl (fun K' hK'=>?_)
  replace hK':=hide hK'
  replace hK:=hide hK
  refine step_val (.pointer (some ⟨x_.heap.size,0,none⟩)) (x_.alloc (.cells (cg0) 26 (0,0))) (by kernel_rfl) (by kernel_rfl) ?_
  exact unhide hK' _ _ (unhide hK _ _ ((Gr.refl _).alloc _) (⟨_,rfl,Nat.le_trans (unhide hsz_) hgx.size,blk_new _ _⟩))
 clear hTq
 intro b1_12 q1_12 x1_12 hg hTq hall
 replace hsz_:=hide ((unhide hsz_).gr hg)
 replace hA:=hide ((unhide hA).gr hg)
 replace hD:=hide ((unhide hD).gr hg)
 replace hXF:=hide ((unhide hXF).gr hg)
 replace hXG:=hide ((unhide hXG).gr hg)
 replace hE:=hide ((unhide hE).gr hg)
 replace hB:=hB.more hg
 clear hg
 obtain rfl:b1_12=true:=hall (by trivial)
 replace hTq:=hTq rfl
 clear hall
 obtain ⟨g8,rfl,hge_,hnew_⟩:=hTq
 have hgl8:=Nat.le_trans hsW_ hge_
 replace hB:=Bl.joinz (unhide hB0) hB hge_ hnew_
 simp only [List.cons_append,List.nil_append] at hB
 clear hB0 hge_ hnew_ hsW_
 refine wpOp_step (o:=_) rfl (fun K hK=>?_)
 replace hK:=hide hK
 have hzz_:Hid (x1_12.heap[g8]?=some (.cells (cg0) 26 (0,0))):=hide (hB.get 3 (x:=⟨g8,cg0,26⟩) rfl)
 refine step_all 26 (.tmp 8) (.tmp 26) (g8) (S2:=[[.int .u32 c1.nx],[.slice x2.ao x2.no x2.co],[.int .i64 c1.tn],[.int .u32 c1.dl],[.slice x2.ah x2.nh x2.ch]]) (by kernel_rfl) rfl (by kernel_rfl) (by kernel_rfl) hB 3 rfl NC (nC  _ _ _ _ _) (nC  _ _ _ _ _) (by kernel_rfl) (oC  rfl rfl rfl rfl rfl) ?_
 intro u5 hB_ hbt_
 clear hB
 replace hB:Bl (bare w) [⟨g,sg A.c x qA dA vA B.c y qB dB vB,43⟩,⟨w.heap.size,fl [[.int .u32 n],[.int .u32 m],bw X,[.bool true]],53⟩,⟨g7,cg A.c x,26⟩,⟨g8,cg c1 x2,26⟩] u5:=hB_
 clear hB_
 replace hA:=hide ((unhide hA).bz (unhide hzz_) hbt_)
 replace hD:=hide ((unhide hD).bz (unhide hzz_) hbt_)
 replace hXF:=hide ((unhide hXF).bo (unhide hzz_) hbt_ hXo hgl8)
 replace hXG:=hide ((unhide hXG).bl (unhide hzz_) hbt_ hgl8)
 replace hE:=hide ((unhide hE).bz (unhide hzz_) hbt_)
 clear hbt_ hzz_
 refine unhide hK _ _ ⟨⟨(hB.get 0 (x:=⟨g,sg A.c x qA dA vA B.c y qB dB vB,43⟩) rfl),(hB.get 1 (x:=⟨w.heap.size,fl [[.int .u32 n],[.int .u32 m],bw X,[.bool true]],53⟩) rfl)⟩,?_⟩
 clear hK K
 simp only [nrm]
 refine any_one (i:=13) (by kernel_rfl) rfl (fun K hK=>?_)
 replace hK:=hide hK
 go_simp
 refine (unhide hK).out _ _ ⟨(hB.get 0 (x:=⟨g,sg A.c x qA dA vA B.c y qB dB vB,43⟩) rfl),(hB.get 1 (x:=⟨w.heap.size,fl [[.int .u32 n],[.int .u32 m],bw X,[.bool true]],53⟩) rfl)⟩ (fun _=>?_)
 clear hK K
 refine any_one (i:=14) (by kernel_rfl) rfl (fun K hK=>?_)
 replace hK:=hide hK
 go_simp
 refine (unhide hK).out _ _ ⟨(hB.get 0 (x:=⟨g,sg A.c x qA dA vA B.c y qB dB vB,43⟩) rfl),(hB.get 1 (x:=⟨w.heap.size,fl [[.int .u32 n],[.int .u32 m],bw X,[.bool true]],53⟩) rfl)⟩ (fun _=>?_)
 clear hK K
 refine any_done (by kernel_rfl) ?_
 clear hsz_
 replace hB:=hide hB
 go_upto_region 3 with fail
 replace hB:=unhide hB
 refine wp_region_lit ?_
 refine wpList_gen fun ops_ hops=>?_
 replace hops:=hide hops
 refine list_val (.int .i64 0) (by rw [unhide hops]; kernel_rfl) (by kernel_rfl) ?_
 simp only [nrm]
 refine list_val (.bool false) (by rw [unhide hops]; kernel_rfl) (neq_e _ (.tmp 29) (.const (.int .i64 0)) 0 0 false rfl (by kernel_rfl) (by kernel_rfl) (by decide)) ?_
 simp only [nrm]
 refine list_val (.bool false) (by rw [unhide hops]; kernel_rfl) (by kernel_rfl) ?_
 simp only [nrm]
 refine list_val (.int .i64 (k1:Int)) (by rw [unhide hops]; kernel_rfl) (by kernel_rfl) ?_
 simp only [nrm]
 refine list_val (.pointer (some ⟨g7,1,none⟩)) (by rw [unhide hops]; kernel_rfl) (by kernel_rfl) ?_
 simp only [nrm]
 refine list_val (.slice x.ao x.no x.co) (by rw [unhide hops]; kernel_rfl) (exec_csO _ (.tmp 33) rfl (g7) 1 (by kernel_rfl) x.ao x.no x.co (seg_cell (nC  _ _ _ _ _) (hB.get 2 (x:=⟨g7,cg A.c x,26⟩) rfl) 1 (v:=.slice x.ao x.no x.co) rfl rfl)) ?_
 simp only [nrm]
 refine list_val (.int .i64 x.no) (by rw [unhide hops]; kernel_rfl) (by kernel_rfl) ?_
 simp only [nrm]
 refine list_val (.pointer (some ⟨g8,1,none⟩)) (by rw [unhide hops]; kernel_rfl) (by kernel_rfl) ?_
 simp only [nrm]
 refine list_val (.slice x2.ao x2.no x2.co) (by rw [unhide hops]; kernel_rfl) (exec_csO _ (.tmp 36) rfl (g8) 1 (by kernel_rfl) x2.ao x2.no x2.co (seg_cell (nC  _ _ _ _ _) (hB.get 3 (x:=⟨g8,cg c1 x2,26⟩) rfl) 1 (v:=.slice x2.ao x2.no x2.co) rfl rfl)) ?_
 simp only [nrm]
 refine list_val (.int .i64 x2.no) (by rw [unhide hops]; kernel_rfl) (by kernel_rfl) ?_
 simp only [nrm]
 refine list_val (.int .i64 (k1:Int)) (by rw [unhide hops]; kernel_rfl) (sub_i _ (.tmp 35) (.tmp 38) ((x.no:Nat):Int) ((x2.no:Nat):Int) rfl (by kernel_rfl) (by kernel_rfl) (k1:Int) (by have h1:=unhide hO1; have h2:=hnol; have h3:=(unhide hE).i.o.len; omega) (by have h1:=unhide hgk; have h2:=unhide hO1; have h3:=nlt; have h4:=nlc; omega)) ?_
 simp only [nrm]
 refine list_val (.bool false) (by rw [unhide hops]; kernel_rfl) (neq_i _ (.tmp 32) (.tmp 39) (k1:Int) (k1:Int) false rfl (by kernel_rfl) (by kernel_rfl) (by simp)) ?_
 simp only [nrm]
 refine list_val (.bool false) (by rw [unhide hops]; kernel_rfl) (by kernel_rfl) ?_
 simp only [nrm]
 refine wpList_nil ?_
 replace hB:=hide hB
 go_upto_region 5 with fail
 replace hB:=unhide hB
 refine wp_region_lit ?_
 refine lvk (.pointer (some ⟨g,0,none⟩)) ?_
 simp only [nrm]
 refine list_val (.agg (cg c1 x2)) (by kernel_rfl) (exec_sw _ 26 (.tmp 8) rfl (g8) (by kernel_rfl) (hB.get 3 (x:=⟨g8,cg c1 x2,26⟩) rfl) NC (nC  _ _ _ _ _) Try.underlying26 rfl (by kernel_rfl)) ?_
 simp only [nrm]
 refine lvk (.pointer (some ⟨g,0,none⟩)) ?_
 simp only [nrm]
 refine lvk (.pointer (some ⟨g,0,none⟩)) ?_
 simp only [nrm]
 have hzz_:Hid (u5.heap[g]?=some (.cells (sg A.c x qA dA vA B.c y qB dB vB) 43 (0,0))):=hide (hB.get 0 (x:=⟨g,sg A.c x qA dA vA B.c y qB dB vB,43⟩) rfl)
 refine list_sr 26 (.tmp 45) (.tmp 43) (g) 0 [[.int .u32 c1.nx],[.slice x2.ao x2.no x2.co],[.int .i64 c1.tn],[.int .u32 c1.dl],[.slice x2.ah x2.nh x2.ch]] (by kernel_rfl) rfl (by kernel_rfl) (by kernel_rfl) hB 0 rfl 0 5 (show 0+5≤16 by decide) rfl rfl rfl (by kernel_rfl) (oC rfl rfl rfl rfl rfl) ?_
 intro u6 hB_ hbt_
 clear hB
 replace hB:Bl (bare w) [⟨g,sg c1 x2 qA dA vA B.c y qB dB vB,43⟩,⟨w.heap.size,fl [[.int .u32 n],[.int .u32 m],bw X,[.bool true]],53⟩,⟨g7,cg A.c x,26⟩,⟨g8,cg c1 x2,26⟩] u6:=hB_
 clear hB_
 replace hA:=hide ((unhide hA).bz (unhide hzz_) hbt_)
 replace hD:=hide ((unhide hD).bz (unhide hzz_) hbt_)
 replace hXF:=hide ((unhide hXF).bz (unhide hzz_) hbt_)
 replace hXG:=hide ((unhide hXG).bg (unhide hzz_) hbt_ hbg)
 replace hE:=hide ((unhide hE).bz (unhide hzz_) hbt_)
 clear hbt_ hzz_
 simp only [nrm]
 refine wpList_nil ?_
 replace hB:=hide hB
 go_upto_region 6 with fail
 replace hB:=unhide hB
 refine any_start (S:=fun v_=>v_.heap[w.heap.size]?=some (.cells (fl [[.int .u32 n],[.int .u32 m],bw X,[.bool true]]) 53 (0,0))) (by kernel_rfl) ?_
 replace hA:=hide ((unhide hA).gr ((Gr.refl u6).drew))
 replace hD:=hide ((unhide hD).gr ((Gr.refl u6).drew))
 replace hXF:=hide ((unhide hXF).gr ((Gr.refl u6).drew))
 replace hXG:=hide ((unhide hXG).gr ((Gr.refl u6).drew))
 replace hE:=hide ((unhide hE).gr ((Gr.refl u6).drew))
 replace hB:=hB.drew
 generalize World.drew _=u7 at *
 simp only [List.size_toArray,List.length_cons,List.length_nil,Array.replicate,List.replicate]
 have hS_:=hide (show (fun v_=>v_.heap[w.heap.size]?=some (.cells (fl [[.int .u32 n],[.int .u32 m],bw X,[.bool true]]) 53 (0,0))) u7 from (hB.get 1 (x:=⟨w.heap.size,fl [[.int .u32 n],[.int .u32 m],bw X,[.bool true]],53⟩) rfl))
 refine any_tk 0 (.pointer (some ⟨w.heap.size,107,none⟩)) (tf 13 0) rfl (fun x_ hu=>by kernel_rfl) (unhide hS_) ?_
 simp only [nrm]
 refine any_tk 1 (.bool true) (tf 13 1) rfl (fun x_ hu=>exec_cb _ (.tmp 46) rfl (w.heap.size) 107 (by kernel_rfl) true (seg_cell (nD hXL _ _ _) hu 3 (v:=.bool true) rfl rfl)) (unhide hS_) ?_
 simp only [nrm]
 refine any_tk 2 (.bool true) (tf 13 2) rfl (fun x_ hu=>by kernel_rfl) (unhide hS_) ?_
 simp only [nrm]
 refine any_to 3 (tf 13 3) rfl (unhide hS_) ?_
 simp only [nrm]
 refine any_to 4 (tf 13 4) rfl (unhide hS_) ?_
 simp only [nrm]
 refine any_to 5 (tf 13 5) rfl (unhide hS_) ?_
 simp only [nrm]
 refine any_to 6 (tf 13 6) rfl (unhide hS_) ?_
 simp only [nrm]
 refine any_to 7 (tf 13 7) rfl (unhide hS_) ?_
 simp only [nrm]
 refine any_to 8 (tf 13 8) rfl (unhide hS_) ?_
 simp only [nrm]
 refine any_to 9 (tf 13 9) rfl (unhide hS_) ?_
 simp only [nrm]
 refine any_to 10 (tf 13 10) rfl (unhide hS_) ?_
 simp only [nrm]
 refine any_to 11 (tf 13 11) rfl (unhide hS_) ?_
 simp only [nrm]
 refine any_tk 12 (.bool true) (tf 13 12) rfl (fun x_ hu=>by kernel_rfl) (unhide hS_) ?_
 simp only [nrm]
 refine any_done (by kernel_rfl) ?_
 clear hS_
 replace hB:=hide hB
 go_upto_region 7 with fail
 replace hB:=unhide hB
 refine wp_region_lit ?_
 (refine wpList_step fun K hK=>?_; replace hK:=hide hK; go_simp; refine unhide hK _ _ ?_; clear hK K)
 refine wpList_nil ?_
 replace hB:=hide hB
 go_wp2_with fail
 replace hB:=unhide hB
 rw [unhide hT]
 exact (⟨rfl,⟨x2,y,qA,dA,vA,qB,dB,vB,hB.get 0 (x:=⟨g,sg c1 x2 qA dA vA B.c y qB dB vB,43⟩) rfl,unhide hE,unhide hD,unhide hXF,unhide hU,unhide hV⟩,(unhide hXG).cg⟩)
set_option maxHeartbeats 4000000 in
theorem shear_unw0 (b g:Nat) (A B:Sd) (n m rm:Int) (X:List Int) (w:World) (hb:b≤w.heap.size) (hbg:b≤g) (hS:St b w g A B) (hI:Inv A B) (hn:0≤n∧n≤B.c.dl) (hm:0≤m∧m<4294967296) (hX:X.length=105) (hwt:wt (ak A.c n).1 m rm=false):Calls Try.prog 13 #[.pointer (some ⟨g,0,none⟩),.agg (fl [[.int .u32 n],[.int .u32 m],bw (X),[.bool false]]),.int .i64 rm] w (fun r_ w'=>r_=.returned (.bool true)∧St b w' g { A with c:=(ak A.c n).1 } B∧Cg g b w w'):=by
 obtain ⟨T,hT⟩:∃ T:Ending→World→Prop,T=(fun r_ w'=>r_=.returned (.bool true)∧St b w' g { A with c:=(ak A.c n).1 } B∧Cg g b w w'):=⟨_,rfl⟩
 rw [← hT]
 replace hT:=hide hT
 obtain ⟨c1,hc1⟩:∃ c,c=(ak A.c n).1:=⟨_,rfl⟩
 obtain ⟨hak,hgk⟩:=ak_go (hI.swap) hn
 have hIn:=Inv.acked (hI.swap) hn
 obtain ⟨k1,hk1⟩:∃ k,k=gk A.c n:=⟨_,rfl⟩
 rw [← hk1] at hak hgk
 have hak2:ak A.c n=(c1,(k1:Int),0):=by rw [hc1,hak]
 have hO1:c1.O.length+k1=A.c.O.length:=by rw [hc1,hak]; simp only [List.length_drop]; omega
 clear hk1
 rw [← hc1] at hT hwt hIn
 obtain ⟨x,y,qA,dA,vA,qB,dB,vB,hg,hA,hD,hXF,hU,hV⟩:=hS
 have hn9:0≤n∧n<4294967296:=⟨hn.1,Int.lt_of_le_of_lt hn.2 (hD.i.dl).2⟩
 have hXo:=hXF.old
 have hXg:Cgs g b w w:=⟨Cg.refl g b w,hb⟩
 have hnol:=hA.i.o.len
 have nlt:=hA.i.o.2.max
 have nlc:=hA.i.o.2.cap
 have hXL:=hX
 obtain ⟨A1_,hA1_⟩:∃ S_,S_=fl [[.int .u32 n],[.int .u32 m],bw X,[.bool false]]:=⟨_,rfl⟩
 rw [← hA1_]
 replace hA1_:=hide hA1_
 replace hIn:=hide hIn; replace hc1:=hide hc1; replace hak:=hide hak; replace hak2:=hide hak2; replace hO1:=hide hO1; replace hI:=hide hI; replace hgk:=hide hgk
 go_enter Try.func13,Try.ntmps13
 go_upto_region 1 with fail
 have hB:=((nilb w).add ⟨g,sg A.c x qA dA vA B.c y qB dB vB,43⟩ hg (Nat.zero_le _) (by intro y hy; cases hy)).new A1_ 53
 simp only [List.nil_append,List.cons_append] at hB
 have hg1:=(Gr.refl w).alloc (.cells A1_ 53 (0,0))
 replace hA:=hA.gr hg1
 replace hD:=hD.gr hg1
 replace hXF:=hXF.gr hg1
 have hXG:=hXg.gr hg1
 clear hg hg1 hXg
 generalize hu_:World.alloc _ _=u0
 replace hB:Bl (bare w) [⟨g,sg A.c x qA dA vA B.c y qB dB vB,43⟩,⟨w.heap.size,fl [[.int .u32 n],[.int .u32 m],bw X,[.bool false]],53⟩] u0:=by
  rw [← hu_,unhide hA1_]
  rw [unhide hA1_] at hB
  exact hB
 replace hA:Co b u0 A.c x:=by rw [← hu_]; exact hA
 replace hD:Co b u0 B.c y:=by rw [← hu_]; exact hD
 replace hXF:Fam b u0 (fam A B qA dA vA qB dB vB):=by rw [← hu_]; exact hXF
 replace hXG:Cgs g b w u0:=by rw [← hu_]; exact hXG
 clear hu_
 replace hXF:=hide hXF; replace hA:=hide hA; replace hD:=hide hD; replace hU:=hide hU; replace hV:=hide hV; replace hXG:=hide hXG
 refine wp_region_lit ?_
 refine lvk (.pointer (some ⟨g,0,none⟩)) ?_
 simp only [nrm]
 refine lvk (.pointer (some ⟨g,0,none⟩)) ?_
 simp only [nrm]
 refine lvk (.pointer (some ⟨g,0,none⟩)) ?_
 simp only [nrm]
 refine list_val (.agg (cg A.c x)) (by kernel_rfl) (exec_sr _ 26 (.tmp 16) rfl (g) 0 (by kernel_rfl) (hB.get 0 (x:=⟨g,sg A.c x qA dA vA B.c y qB dB vB,43⟩) rfl) 0 5 (show 0+5≤16 by decide) rfl Try.underlying26 rfl (by kernel_rfl)) ?_
 simp only [nrm]
 have hgl7:=(unhide hXG).size
 refine list_valw (.pointer (some ⟨u0.heap.size,0,none⟩)) (u0.alloc (.cells (cg0) 26 (0,0))) (by kernel_rfl) (by kernel_rfl) ?_
 replace hB:=hB.new (cg0) 26
 simp only [List.nil_append,List.cons_append] at hB
 have hg:=(Gr.refl u0).alloc (.cells (cg0) 26 (0,0))
 replace hA:=hide ((unhide hA).gr hg)
 replace hD:=hide ((unhide hD).gr hg)
 replace hXF:=hide ((unhide hXF).gr hg)
 replace hXG:=hide ((unhide hXG).gr hg)
 clear hg
 generalize World.alloc _ _=u1 at *
 generalize u0.heap.size=g7 at *
 simp only [nrm]
 have hzz_:Hid (u1.heap[g7]?=some (.cells (cg0) 26 (0,0))):=hide (hB.get 2 (x:=⟨g7,cg0,26⟩) rfl)
 refine list_all 26 (.tmp 7) (.tmp 17) (g7) (S2:=[[.int .u32 A.c.nx],[.slice x.ao x.no x.co],[.int .i64 A.c.tn],[.int .u32 A.c.dl],[.slice x.ah x.nh x.ch]]) (by kernel_rfl) rfl (by kernel_rfl) (by kernel_rfl) hB 2 rfl NC (nC  _ _ _ _ _) (nC  _ _ _ _ _) (by kernel_rfl) (oC  rfl rfl rfl rfl rfl) ?_
 intro u2 hB_ hbt_
 clear hB
 replace hB:Bl (bare w) [⟨g,sg A.c x qA dA vA B.c y qB dB vB,43⟩,⟨w.heap.size,fl [[.int .u32 n],[.int .u32 m],bw X,[.bool false]],53⟩,⟨g7,cg A.c x,26⟩] u2:=hB_
 clear hB_
 replace hA:=hide ((unhide hA).bz (unhide hzz_) hbt_)
 replace hD:=hide ((unhide hD).bz (unhide hzz_) hbt_)
 replace hXF:=hide ((unhide hXF).bo (unhide hzz_) hbt_ hXo hgl7)
 replace hXG:=hide ((unhide hXG).bl (unhide hzz_) hbt_ hgl7)
 clear hbt_ hzz_
 simp only [nrm]
 refine wpList_nil ?_
 replace hB:=hide hB
 go_upto_region 2 with fail
 replace hB:=unhide hB
 refine any_start (S:=fun v_=>v_.heap[g]?=some (.cells (sg A.c x qA dA vA B.c y qB dB vB) 43 (0,0))∧v_.heap[w.heap.size]?=some (.cells (fl [[.int .u32 n],[.int .u32 m],bw X,[.bool false]]) 53 (0,0))) (by kernel_rfl) ?_
 replace hA:=hide ((unhide hA).gr ((Gr.refl u2).drew))
 replace hD:=hide ((unhide hD).gr ((Gr.refl u2).drew))
 replace hXF:=hide ((unhide hXF).gr ((Gr.refl u2).drew))
 replace hXG:=hide ((unhide hXG).gr ((Gr.refl u2).drew))
 replace hB:=hB.drew
 generalize World.drew _=u3 at *
 have hB0:=hide hB
 have hsz_:Hid (Sz u3.heap.size u3):=Nat.le_refl _
 have hsW_:=(unhide hXG).size
 simp only [List.size_toArray,List.length_cons,List.length_nil,Array.replicate,List.replicate]
 refine any_tk 0 (.pointer (some ⟨g,0,none⟩)) (tf 15 0) rfl (fun x_ hu=>by kernel_rfl) ⟨(hB.get 0 (x:=⟨g,sg A.c x qA dA vA B.c y qB dB vB,43⟩) rfl),(hB.get 1 (x:=⟨w.heap.size,fl [[.int .u32 n],[.int .u32 m],bw X,[.bool false]],53⟩) rfl)⟩ ?_
 simp only [nrm]
 refine any_tk 1 (.pointer (some ⟨g,0,none⟩)) (tf 15 1) rfl (fun x_ hu=>by kernel_rfl) ⟨(hB.get 0 (x:=⟨g,sg A.c x qA dA vA B.c y qB dB vB,43⟩) rfl),(hB.get 1 (x:=⟨w.heap.size,fl [[.int .u32 n],[.int .u32 m],bw X,[.bool false]],53⟩) rfl)⟩ ?_
 simp only [nrm]
 refine any_tk 2 (.pointer (some ⟨g,0,none⟩)) (tf 15 2) rfl (fun x_ hu=>by kernel_rfl) ⟨(hB.get 0 (x:=⟨g,sg A.c x qA dA vA B.c y qB dB vB,43⟩) rfl),(hB.get 1 (x:=⟨w.heap.size,fl [[.int .u32 n],[.int .u32 m],bw X,[.bool false]],53⟩) rfl)⟩ ?_
 simp only [nrm]
 refine any_tk 3 (.agg (cg A.c x)) (tf 15 3) rfl (fun x_ hu=>exec_sr _ 26 (.tmp 21) rfl (g) 0 (by kernel_rfl) hu.1 0 5 (show 0+5≤16 by decide) rfl Try.underlying26 rfl (by kernel_rfl)) ⟨(hB.get 0 (x:=⟨g,sg A.c x qA dA vA B.c y qB dB vB,43⟩) rfl),(hB.get 1 (x:=⟨w.heap.size,fl [[.int .u32 n],[.int .u32 m],bw X,[.bool false]],53⟩) rfl)⟩ ?_
 simp only [nrm]
 refine any_tk 4 (.pointer (some ⟨w.heap.size,0,none⟩)) (tf 15 4) rfl (fun x_ hu=>by kernel_rfl) ⟨(hB.get 0 (x:=⟨g,sg A.c x qA dA vA B.c y qB dB vB,43⟩) rfl),(hB.get 1 (x:=⟨w.heap.size,fl [[.int .u32 n],[.int .u32 m],bw X,[.bool false]],53⟩) rfl)⟩ ?_
 simp only [nrm]
 refine any_tk 5 (.int .u32 n) (tf 15 5) rfl (fun x_ hu=>exec_c32 _ (.tmp 23) rfl (w.heap.size) 0 (by kernel_rfl) n (seg_cell (nD hXL _ _ _) hu.2 0 (v:=.int .u32 n) rfl rfl)) ⟨(hB.get 0 (x:=⟨g,sg A.c x qA dA vA B.c y qB dB vB,43⟩) rfl),(hB.get 1 (x:=⟨w.heap.size,fl [[.int .u32 n],[.int .u32 m],bw X,[.bool false]],53⟩) rfl)⟩ ?_
 simp only [nrm]
 refine float_first (fun q u=>NKf u3.heap.size (cg0) 26 u q) 8 (fun b_=>#[true,true,true,true,true,true,false,false,false,false,false,b_,false,false,false]) 11 6 false rfl rfl (fun v_ g_=>⟨g_.blk (hB.get 0 (x:=⟨g,sg A.c x qA dA vA B.c y qB dB vB,43⟩) rfl),g_.blk (hB.get 1 (x:=⟨w.heap.size,fl [[.int .u32 n],[.int .u32 m],bw X,[.bool false]],53⟩) rfl)⟩) (by kernel_rfl) (fun b_=>by cases b_ <;> rfl) ?_ ?_
 all_goals simp only [fw1,Act.put,List.setIfInBounds_toArray,List.set_cons_zero,List.set_cons_succ,List.getElem_toArray,List.getElem_cons_zero,List.getElem_cons_succ]
 ·intro q_ x_ hgx K hK
  refine wpOp_step (o:=_) rfl (fun K' hK'=>?_)
  replace hK':=hide hK'
  replace hK:=hide hK
  refine step_val (.pointer (some ⟨x_.heap.size,0,none⟩)) (x_.alloc (.cells (cg0) 26 (0,0))) (by kernel_rfl) (by kernel_rfl) ?_
  exact unhide hK' _ _ (unhide hK _ _ ((Gr.refl _).alloc _) (⟨_,rfl,Nat.le_trans (unhide hsz_) hgx.size,blk_new _ _⟩))
 intro b1_6 q1_6 x1_6 hg hTq hall
 replace hA:=hide ((unhide hA).gr hg)
 replace hD:=hide ((unhide hD).gr hg)
 replace hXF:=hide ((unhide hXF).gr hg)
 replace hXG:=hide ((unhide hXG).gr hg)
 replace hsz_:=hide ((unhide hsz_).gr hg)
 replace hB:=hB.more hg
 clear hg
 clear hall
 refine wpOp_step (o:=_) rfl (fun K hK=>?_)
 replace hK:=hide hK
 refine step_callw (by kernel_rfl) 21 #[.agg (cg A.c x),.int .u32 n] (by kernel_rfl) ((((show Calls Try.prog 21 #[.agg (cg A.c x),.int .u32 n] x1_6 (Rc c1 [.int .i64 (k1:Int),.int .i64 0] x1_6) from by have h:=packed_ok A.c x n hn9 x1_6 (unhide hA).i; rw [unhide hak2] at h; exact h).mono fun _ _ h=>rcb_of h (Nat.le_trans hb (unhide hXG).size))).mono ?_)
 rintro r u4 ⟨x2,rfl,hE,hg⟩
 refine ⟨_,rfl,?_⟩
 replace hTq:=fun e=>NKf.gr (hTq e) hg
 replace hsz_:=hide ((unhide hsz_).gr hg)
 replace hA:=hide ((unhide hA).gr hg)
 replace hD:=hide ((unhide hD).gr hg)
 replace hXF:=hide ((unhide hXF).gr hg)
 replace hXG:=hide ((unhide hXG).gr hg)
 replace hB:=hB.more hg
 clear hg
 replace hE:=hide hE
 refine unhide hK _ _ ⟨⟨(hB.get 0 (x:=⟨g,sg A.c x qA dA vA B.c y qB dB vB,43⟩) rfl),(hB.get 1 (x:=⟨w.heap.size,fl [[.int .u32 n],[.int .u32 m],bw X,[.bool false]],53⟩) rfl)⟩,?_⟩
 clear hK K
 simp only [nrm]
 refine any_tk 7 (.tuple #[.agg (cg c1 x2),.int .i64 (k1:Int),.int .i64 0]) (tf 15 7) rfl (fun x_ hu=>by kernel_rfl) ⟨(hB.get 0 (x:=⟨g,sg A.c x qA dA vA B.c y qB dB vB,43⟩) rfl),(hB.get 1 (x:=⟨w.heap.size,fl [[.int .u32 n],[.int .u32 m],bw X,[.bool false]],53⟩) rfl)⟩ ?_
 simp only [nrm]
 refine any_tk 8 (.agg (cg c1 x2)) (tf 15 8) rfl (fun x_ hu=>by kernel_rfl) ⟨(hB.get 0 (x:=⟨g,sg A.c x qA dA vA B.c y qB dB vB,43⟩) rfl),(hB.get 1 (x:=⟨w.heap.size,fl [[.int .u32 n],[.int .u32 m],bw X,[.bool false]],53⟩) rfl)⟩ ?_
 simp only [nrm]
 refine any_tk 9 (.int .i64 (k1:Int)) (tf 15 9) rfl (fun x_ hu=>by kernel_rfl) ⟨(hB.get 0 (x:=⟨g,sg A.c x qA dA vA B.c y qB dB vB,43⟩) rfl),(hB.get 1 (x:=⟨w.heap.size,fl [[.int .u32 n],[.int .u32 m],bw X,[.bool false]],53⟩) rfl)⟩ ?_
 simp only [nrm]
 refine any_tk 10 (.int .i64 0) (tf 15 10) rfl (fun x_ hu=>by kernel_rfl) ⟨(hB.get 0 (x:=⟨g,sg A.c x qA dA vA B.c y qB dB vB,43⟩) rfl),(hB.get 1 (x:=⟨w.heap.size,fl [[.int .u32 n],[.int .u32 m],bw X,[.bool false]],53⟩) rfl)⟩ ?_
 simp only [nrm]
 refine float_again (fun q u=>NKf u3.heap.size (cg0) 26 u q) 8 (fun b_=>#[true,true,true,true,true,true,true,true,true,true,true,b_,false,false,false]) 11 12 true (b:=b1_6) (q:=q1_6) rfl rfl hTq (fun v_ g_=>⟨g_.blk (hB.get 0 (x:=⟨g,sg A.c x qA dA vA B.c y qB dB vB,43⟩) rfl),g_.blk (hB.get 1 (x:=⟨w.heap.size,fl [[.int .u32 n],[.int .u32 m],bw X,[.bool false]],53⟩) rfl)⟩) (by kernel_rfl) (fun b_=>by cases b_ <;> rfl) ?_ ?_
 all_goals simp only [fw1,Act.put,List.setIfInBounds_toArray,List.set_cons_zero,List.set_cons_succ,List.getElem_toArray,List.getElem_cons_zero,List.getElem_cons_succ]
 ·intro q_ x_ hgx K hK
  refine wpOp_step (o:=_) rfl (fun K' hK'=>?_)
  replace hK':=hide hK'
  replace hK:=hide hK
  refine step_val (.pointer (some ⟨x_.heap.size,0,none⟩)) (x_.alloc (.cells (cg0) 26 (0,0))) (by kernel_rfl) (by kernel_rfl) ?_
  exact unhide hK' _ _ (unhide hK _ _ ((Gr.refl _).alloc _) (⟨_,rfl,Nat.le_trans (unhide hsz_) hgx.size,blk_new _ _⟩))
 clear hTq
 intro b1_12 q1_12 x1_12 hg hTq hall
 replace hsz_:=hide ((unhide hsz_).gr hg)
 replace hA:=hide ((unhide hA).gr hg)
 replace hD:=hide ((unhide hD).gr hg)
 replace hXF:=hide ((unhide hXF).gr hg)
 replace hXG:=hide ((unhide hXG).gr hg)
 replace hE:=hide ((unhide hE).gr hg)
 replace hB:=hB.more hg
 clear hg
 obtain rfl:b1_12=true:=hall (by trivial)
 replace hTq:=hTq rfl
 clear hall
 obtain ⟨g8,rfl,hge_,hnew_⟩:=hTq
 have hgl8:=Nat.le_trans hsW_ hge_
 replace hB:=Bl.joinz (unhide hB0) hB hge_ hnew_
 simp only [List.cons_append,List.nil_append] at hB
 clear hB0 hge_ hnew_ hsW_
 refine wpOp_step (o:=_) rfl (fun K hK=>?_)
 replace hK:=hide hK
 have hzz_:Hid (x1_12.heap[g8]?=some (.cells (cg0) 26 (0,0))):=hide (hB.get 3 (x:=⟨g8,cg0,26⟩) rfl)
 refine step_all 26 (.tmp 8) (.tmp 26) (g8) (S2:=[[.int .u32 c1.nx],[.slice x2.ao x2.no x2.co],[.int .i64 c1.tn],[.int .u32 c1.dl],[.slice x2.ah x2.nh x2.ch]]) (by kernel_rfl) rfl (by kernel_rfl) (by kernel_rfl) hB 3 rfl NC (nC  _ _ _ _ _) (nC  _ _ _ _ _) (by kernel_rfl) (oC  rfl rfl rfl rfl rfl) ?_
 intro u5 hB_ hbt_
 clear hB
 replace hB:Bl (bare w) [⟨g,sg A.c x qA dA vA B.c y qB dB vB,43⟩,⟨w.heap.size,fl [[.int .u32 n],[.int .u32 m],bw X,[.bool false]],53⟩,⟨g7,cg A.c x,26⟩,⟨g8,cg c1 x2,26⟩] u5:=hB_
 clear hB_
 replace hA:=hide ((unhide hA).bz (unhide hzz_) hbt_)
 replace hD:=hide ((unhide hD).bz (unhide hzz_) hbt_)
 replace hXF:=hide ((unhide hXF).bo (unhide hzz_) hbt_ hXo hgl8)
 replace hXG:=hide ((unhide hXG).bl (unhide hzz_) hbt_ hgl8)
 replace hE:=hide ((unhide hE).bz (unhide hzz_) hbt_)
 clear hbt_ hzz_
 refine unhide hK _ _ ⟨⟨(hB.get 0 (x:=⟨g,sg A.c x qA dA vA B.c y qB dB vB,43⟩) rfl),(hB.get 1 (x:=⟨w.heap.size,fl [[.int .u32 n],[.int .u32 m],bw X,[.bool false]],53⟩) rfl)⟩,?_⟩
 clear hK K
 simp only [nrm]
 refine any_one (i:=13) (by kernel_rfl) rfl (fun K hK=>?_)
 replace hK:=hide hK
 go_simp
 refine (unhide hK).out _ _ ⟨(hB.get 0 (x:=⟨g,sg A.c x qA dA vA B.c y qB dB vB,43⟩) rfl),(hB.get 1 (x:=⟨w.heap.size,fl [[.int .u32 n],[.int .u32 m],bw X,[.bool false]],53⟩) rfl)⟩ (fun _=>?_)
 clear hK K
 refine any_one (i:=14) (by kernel_rfl) rfl (fun K hK=>?_)
 replace hK:=hide hK
 go_simp
 refine (unhide hK).out _ _ ⟨(hB.get 0 (x:=⟨g,sg A.c x qA dA vA B.c y qB dB vB,43⟩) rfl),(hB.get 1 (x:=⟨w.heap.size,fl [[.int .u32 n],[.int .u32 m],bw X,[.bool false]],53⟩) rfl)⟩ (fun _=>?_)
 clear hK K
 refine any_done (by kernel_rfl) ?_
 clear hsz_
 replace hB:=hide hB
 go_upto_region 3 with fail
 replace hB:=unhide hB
 refine wp_region_lit ?_
 refine wpList_gen fun ops_ hops=>?_
 replace hops:=hide hops
 refine list_val (.int .i64 0) (by rw [unhide hops]; kernel_rfl) (by kernel_rfl) ?_
 simp only [nrm]
 refine list_val (.bool false) (by rw [unhide hops]; kernel_rfl) (neq_e _ (.tmp 29) (.const (.int .i64 0)) 0 0 false rfl (by kernel_rfl) (by kernel_rfl) (by decide)) ?_
 simp only [nrm]
 refine list_val (.bool false) (by rw [unhide hops]; kernel_rfl) (by kernel_rfl) ?_
 simp only [nrm]
 refine list_val (.int .i64 (k1:Int)) (by rw [unhide hops]; kernel_rfl) (by kernel_rfl) ?_
 simp only [nrm]
 refine list_val (.pointer (some ⟨g7,1,none⟩)) (by rw [unhide hops]; kernel_rfl) (by kernel_rfl) ?_
 simp only [nrm]
 refine list_val (.slice x.ao x.no x.co) (by rw [unhide hops]; kernel_rfl) (exec_csO _ (.tmp 33) rfl (g7) 1 (by kernel_rfl) x.ao x.no x.co (seg_cell (nC  _ _ _ _ _) (hB.get 2 (x:=⟨g7,cg A.c x,26⟩) rfl) 1 (v:=.slice x.ao x.no x.co) rfl rfl)) ?_
 simp only [nrm]
 refine list_val (.int .i64 x.no) (by rw [unhide hops]; kernel_rfl) (by kernel_rfl) ?_
 simp only [nrm]
 refine list_val (.pointer (some ⟨g8,1,none⟩)) (by rw [unhide hops]; kernel_rfl) (by kernel_rfl) ?_
 simp only [nrm]
 refine list_val (.slice x2.ao x2.no x2.co) (by rw [unhide hops]; kernel_rfl) (exec_csO _ (.tmp 36) rfl (g8) 1 (by kernel_rfl) x2.ao x2.no x2.co (seg_cell (nC  _ _ _ _ _) (hB.get 3 (x:=⟨g8,cg c1 x2,26⟩) rfl) 1 (v:=.slice x2.ao x2.no x2.co) rfl rfl)) ?_
 simp only [nrm]
 refine list_val (.int .i64 x2.no) (by rw [unhide hops]; kernel_rfl) (by kernel_rfl) ?_
 simp only [nrm]
 refine list_val (.int .i64 (k1:Int)) (by rw [unhide hops]; kernel_rfl) (sub_i _ (.tmp 35) (.tmp 38) ((x.no:Nat):Int) ((x2.no:Nat):Int) rfl (by kernel_rfl) (by kernel_rfl) (k1:Int) (by have h1:=unhide hO1; have h2:=hnol; have h3:=(unhide hE).i.o.len; omega) (by have h1:=unhide hgk; have h2:=unhide hO1; have h3:=nlt; have h4:=nlc; omega)) ?_
 simp only [nrm]
 refine list_val (.bool false) (by rw [unhide hops]; kernel_rfl) (neq_i _ (.tmp 32) (.tmp 39) (k1:Int) (k1:Int) false rfl (by kernel_rfl) (by kernel_rfl) (by simp)) ?_
 simp only [nrm]
 refine list_val (.bool false) (by rw [unhide hops]; kernel_rfl) (by kernel_rfl) ?_
 simp only [nrm]
 refine wpList_nil ?_
 replace hB:=hide hB
 go_upto_region 5 with fail
 replace hB:=unhide hB
 refine wp_region_lit ?_
 refine lvk (.pointer (some ⟨g,0,none⟩)) ?_
 simp only [nrm]
 refine list_val (.agg (cg c1 x2)) (by kernel_rfl) (exec_sw _ 26 (.tmp 8) rfl (g8) (by kernel_rfl) (hB.get 3 (x:=⟨g8,cg c1 x2,26⟩) rfl) NC (nC  _ _ _ _ _) Try.underlying26 rfl (by kernel_rfl)) ?_
 simp only [nrm]
 refine lvk (.pointer (some ⟨g,0,none⟩)) ?_
 simp only [nrm]
 refine lvk (.pointer (some ⟨g,0,none⟩)) ?_
 simp only [nrm]
 have hzz_:Hid (u5.heap[g]?=some (.cells (sg A.c x qA dA vA B.c y qB dB vB) 43 (0,0))):=hide (hB.get 0 (x:=⟨g,sg A.c x qA dA vA B.c y qB dB vB,43⟩) rfl)
 refine list_sr 26 (.tmp 45) (.tmp 43) (g) 0 [[.int .u32 c1.nx],[.slice x2.ao x2.no x2.co],[.int .i64 c1.tn],[.int .u32 c1.dl],[.slice x2.ah x2.nh x2.ch]] (by kernel_rfl) rfl (by kernel_rfl) (by kernel_rfl) hB 0 rfl 0 5 (show 0+5≤16 by decide) rfl rfl rfl (by kernel_rfl) (oC rfl rfl rfl rfl rfl) ?_
 intro u6 hB_ hbt_
 clear hB
 replace hB:Bl (bare w) [⟨g,sg c1 x2 qA dA vA B.c y qB dB vB,43⟩,⟨w.heap.size,fl [[.int .u32 n],[.int .u32 m],bw X,[.bool false]],53⟩,⟨g7,cg A.c x,26⟩,⟨g8,cg c1 x2,26⟩] u6:=hB_
 clear hB_
 replace hA:=hide ((unhide hA).bz (unhide hzz_) hbt_)
 replace hD:=hide ((unhide hD).bz (unhide hzz_) hbt_)
 replace hXF:=hide ((unhide hXF).bz (unhide hzz_) hbt_)
 replace hXG:=hide ((unhide hXG).bg (unhide hzz_) hbt_ hbg)
 replace hE:=hide ((unhide hE).bz (unhide hzz_) hbt_)
 clear hbt_ hzz_
 simp only [nrm]
 refine wpList_nil ?_
 replace hB:=hide hB
 go_upto_region 6 with fail
 replace hB:=unhide hB
 refine any_start (S:=fun v_=>v_.heap[g]?=some (.cells (sg c1 x2 qA dA vA B.c y qB dB vB) 43 (0,0))∧v_.heap[w.heap.size]?=some (.cells (fl [[.int .u32 n],[.int .u32 m],bw X,[.bool false]]) 53 (0,0))) (by kernel_rfl) ?_
 replace hA:=hide ((unhide hA).gr ((Gr.refl u6).drew))
 replace hD:=hide ((unhide hD).gr ((Gr.refl u6).drew))
 replace hXF:=hide ((unhide hXF).gr ((Gr.refl u6).drew))
 replace hXG:=hide ((unhide hXG).gr ((Gr.refl u6).drew))
 replace hE:=hide ((unhide hE).gr ((Gr.refl u6).drew))
 replace hB:=hB.drew
 generalize World.drew _=u7 at *
 simp only [List.size_toArray,List.length_cons,List.length_nil,Array.replicate,List.replicate]
 have hS_:=hide (show (fun v_=>v_.heap[g]?=some (.cells (sg c1 x2 qA dA vA B.c y qB dB vB) 43 (0,0))∧v_.heap[w.heap.size]?=some (.cells (fl [[.int .u32 n],[.int .u32 m],bw X,[.bool false]]) 53 (0,0))) u7 from ⟨(hB.get 0 (x:=⟨g,sg c1 x2 qA dA vA B.c y qB dB vB,43⟩) rfl),(hB.get 1 (x:=⟨w.heap.size,fl [[.int .u32 n],[.int .u32 m],bw X,[.bool false]],53⟩) rfl)⟩)
 refine any_tk 0 (.pointer (some ⟨w.heap.size,107,none⟩)) (tf 13 0) rfl (fun x_ hu=>by kernel_rfl) (unhide hS_) ?_
 simp only [nrm]
 refine any_tk 1 (.bool false) (tf 13 1) rfl (fun x_ hu=>exec_cb _ (.tmp 46) rfl (w.heap.size) 107 (by kernel_rfl) false (seg_cell (nD hXL _ _ _) hu.2 3 (v:=.bool false) rfl rfl)) (unhide hS_) ?_
 simp only [nrm]
 refine any_tk 2 (.bool false) (tf 13 2) rfl (fun x_ hu=>by kernel_rfl) (unhide hS_) ?_
 simp only [nrm]
 refine any_tk 3 (.pointer (some ⟨g,0,none⟩)) (tf 13 3) rfl (fun x_ hu=>by kernel_rfl) (unhide hS_) ?_
 simp only [nrm]
 refine any_tk 4 (.pointer (some ⟨g,0,none⟩)) (tf 13 4) rfl (fun x_ hu=>by kernel_rfl) (unhide hS_) ?_
 simp only [nrm]
 refine any_tk 5 (.pointer (some ⟨g,0,none⟩)) (tf 13 5) rfl (fun x_ hu=>by kernel_rfl) (unhide hS_) ?_
 simp only [nrm]
 refine any_tk 6 (.agg (cg c1 x2)) (tf 13 6) rfl (fun x_ hu=>exec_sr _ 26 (.tmp 51) rfl (g) 0 (by kernel_rfl) hu.1 0 5 (show 0+5≤16 by decide) rfl Try.underlying26 rfl (by kernel_rfl)) (unhide hS_) ?_
 simp only [nrm]
 refine any_tk 7 (.pointer (some ⟨w.heap.size,1,none⟩)) (tf 13 7) rfl (fun x_ hu=>by kernel_rfl) (unhide hS_) ?_
 simp only [nrm]
 refine any_tk 8 (.int .u32 m) (tf 13 8) rfl (fun x_ hu=>exec_c32 _ (.tmp 53) rfl (w.heap.size) 1 (by kernel_rfl) m (seg_cell (nD hXL _ _ _) hu.2 1 (v:=.int .u32 m) rfl rfl)) (unhide hS_) ?_
 simp only [nrm]
 refine any_tk 9 (.int .i64 rm) (tf 13 9) rfl (fun x_ hu=>by kernel_rfl) (unhide hS_) ?_
 simp only [nrm]
 refine any_one (i:=10) (by kernel_rfl) rfl (fun K hK=>?_)
 refine step_callw (by kernel_rfl) 15 #[.agg (cg c1 x2),.int .u32 m,.int .i64 rm] (by kernel_rfl) (((show Calls Try.prog 15 #[.agg (cg c1 x2),.int .u32 m,.int .i64 rm] u7 (Vl (.bool false) u7) from by have h:=wants_ok c1 x2 m rm hm u7 (unhide hE).i; rw [hwt] at h; exact h)).mono ?_)
 rintro r_ u8 ⟨rfl,hg⟩
 replace hA:=hide ((unhide hA).gr hg)
 replace hD:=hide ((unhide hD).gr hg)
 replace hXF:=hide ((unhide hXF).gr hg)
 replace hXG:=hide ((unhide hXG).gr hg)
 replace hE:=hide ((unhide hE).gr hg)
 replace hB:=hB.more hg
 clear hg
 refine ⟨_,rfl,?_⟩
 clear hS_
 have hS_:=hide (show (fun v_=>v_.heap[g]?=some (.cells (sg c1 x2 qA dA vA B.c y qB dB vB) 43 (0,0))∧v_.heap[w.heap.size]?=some (.cells (fl [[.int .u32 n],[.int .u32 m],bw X,[.bool false]]) 53 (0,0))) u8 from ⟨(hB.get 0 (x:=⟨g,sg c1 x2 qA dA vA B.c y qB dB vB,43⟩) rfl),(hB.get 1 (x:=⟨w.heap.size,fl [[.int .u32 n],[.int .u32 m],bw X,[.bool false]],53⟩) rfl)⟩)
 refine hK.out _ _ (unhide hS_) (fun _=>?_)
 clear hK K
 simp only [nrm]
 refine any_tk 11 (.bool true) (tf 13 11) rfl (fun x_ hu=>by kernel_rfl) (unhide hS_) ?_
 simp only [nrm]
 refine any_tk 12 (.bool true) (tf 13 12) rfl (fun x_ hu=>by kernel_rfl) (unhide hS_) ?_
 simp only [nrm]
 refine any_done (by kernel_rfl) ?_
 clear hS_
 replace hB:=hide hB
 go_upto_region 7 with fail
 replace hB:=unhide hB
 refine wp_region_lit ?_
 (refine wpList_step fun K hK=>?_; replace hK:=hide hK; go_simp; refine unhide hK _ _ ?_; clear hK K)
 refine wpList_nil ?_
 replace hB:=hide hB
 go_wp2_with fail
 replace hB:=unhide hB
 rw [unhide hT]
 exact (⟨rfl,⟨x2,y,qA,dA,vA,qB,dB,vB,hB.get 0 (x:=⟨g,sg c1 x2 qA dA vA B.c y qB dB vB,43⟩) rfl,unhide hE,unhide hD,unhide hXF,unhide hU,unhide hV⟩,(unhide hXG).cg⟩)
set_option maxHeartbeats 4000000 in
theorem shear_take0 (b g:Nat) (A B:Sd) (n m rm:Int) (w:World) (hb:b≤w.heap.size) (hbg:b≤g) (hS:St b w g A B) (hI:Inv A B) (hn:0≤n∧n≤B.c.dl) (hm:0≤m∧m<4294967296) (t:ByteArray) (hsz:t.size=3) (ht:B.q[m.toNat]?=some t) (hwt:wt (ak A.c n).1 m rm=true):Calls Try.prog 13 #[.pointer (some ⟨g,0,none⟩),.agg (fl [[.int .u32 n],[.int .u32 m],bw (bdy t),[.bool false]]),.int .i64 rm] w (fun r_ w'=>r_=.returned (.bool true)∧St b w' g { A with c:=dvC (tkC (ak A.c n).1 ⟨m,t⟩),d:=A.d++(dvH (ak A.c n).1.dl (insL (ak A.c n).1.H ⟨m,t⟩)).2.2 } B∧Cg g b w w'):=by
 obtain ⟨T,hT⟩:∃ T:Ending→World→Prop,T=(fun r_ w'=>r_=.returned (.bool true)∧St b w' g { A with c:=dvC (tkC (ak A.c n).1 ⟨m,t⟩),d:=A.d++(dvH (ak A.c n).1.dl (insL (ak A.c n).1.H ⟨m,t⟩)).2.2 } B∧Cg g b w w'):=⟨_,rfl⟩
 rw [← hT]
 replace hT:=hide hT
 obtain ⟨c1,hc1⟩:∃ c,c=(ak A.c n).1:=⟨_,rfl⟩
 obtain ⟨hak,hgk⟩:=ak_go (hI.swap) hn
 have hIn:=Inv.acked (hI.swap) hn
 obtain ⟨k1,hk1⟩:∃ k,k=gk A.c n:=⟨_,rfl⟩
 rw [← hk1] at hak hgk
 have hak2:ak A.c n=(c1,(k1:Int),0):=by rw [hc1,hak]
 have hO1:c1.O.length+k1=A.c.O.length:=by rw [hc1,hak]; simp only [List.length_drop]; omega
 clear hk1
 rw [← hc1] at hT hwt hIn
 obtain ⟨x,y,qA,dA,vA,qB,dB,vB,hg,hA,hD,hXF,hU,hV⟩:=hS
 have hn9:0≤n∧n<4294967296:=⟨hn.1,Int.lt_of_le_of_lt hn.2 (hD.i.dl).2⟩
 have hXo:=hXF.old
 have hXg:Cgs g b w w:=⟨Cg.refl g b w,hb⟩
 have hnol:=hA.i.o.len
 have nlt:=hA.i.o.2.max
 have nlc:=hA.i.o.2.cap
 obtain ⟨hunt,hdl2,hI3⟩:=hIn.took hwt ht
 obtain ⟨l2,hl2⟩:∃ l,l=(dvH c1.dl (insL c1.H ⟨m,t⟩)).2.2:=⟨_,rfl⟩
 obtain ⟨c2,hc2⟩:∃ c,c=dvC (tkC c1 ⟨m,t⟩):=⟨_,rfl⟩
 have htk:tk c1 ⟨m,t⟩ rm=(c2,l2,0):=by unfold tk; rw [if_pos hunt,hc2,hl2]
 rw [← hl2,← hc2] at hT hI3
 rw [← hc2,← hl2] at hdl2
 replace hdl2:c2.dl=c1.dl+(l2.length:Int):=hdl2
 have hsok:(⟨m,t⟩:It).Ok:=⟨hm,by show t.size<_; rw [hsz]; decide⟩
 have hd3:=hI3.1.le
 have hd4:=hI3.1.few
 have hd5:=hI3.1.dl
 replace hd3:(A.d++l2).length≤B.q.length:=hd3
 rw [List.length_append] at hd3
 obtain ⟨sa,sc,hda,-⟩:=(hXF.own 1 _ rfl).lz
 dsimp only at hda
 subst hda
 obtain ⟨nd,hnd⟩:∃ n,n=(A.d.map tr1).length:=⟨_,rfl⟩
 rw [← hnd] at hg hXF
 replace hXo:=hXF.old
 have hXL:(bdy t).length=105:=bdy_len hsz
 replace hd5:=hide hd5; replace hd3:=hide hd3; replace hd4:=hide hd4; replace hI3:=hide hI3; replace htk:=hide htk; replace hdl2:=hide hdl2; replace hl2:=hide hl2; replace hc2:=hide hc2; replace hunt:=hide hunt
 obtain ⟨A1_,hA1_⟩:∃ S_,S_=fl [[.int .u32 n],[.int .u32 m],bw (bdy t),[.bool false]]:=⟨_,rfl⟩
 rw [← hA1_]
 replace hA1_:=hide hA1_
 replace hIn:=hide hIn; replace hc1:=hide hc1; replace hak:=hide hak; replace hak2:=hide hak2; replace hO1:=hide hO1; replace hI:=hide hI; replace hgk:=hide hgk
 go_enter Try.func13,Try.ntmps13
 go_upto_region 1 with fail
 have hB:=((nilb w).add ⟨g,sg A.c x qA (.slice sa nd sc) vA B.c y qB dB vB,43⟩ hg (Nat.zero_le _) (by intro y hy; cases hy)).new A1_ 53
 simp only [List.nil_append,List.cons_append] at hB
 have hg1:=(Gr.refl w).alloc (.cells A1_ 53 (0,0))
 replace hA:=hA.gr hg1
 replace hD:=hD.gr hg1
 replace hXF:=hXF.gr hg1
 have hXG:=hXg.gr hg1
 clear hg hg1 hXg
 generalize hu_:World.alloc _ _=u0
 replace hB:Bl (bare w) [⟨g,sg A.c x qA (.slice sa nd sc) vA B.c y qB dB vB,43⟩,⟨w.heap.size,fl [[.int .u32 n],[.int .u32 m],bw (bdy t),[.bool false]],53⟩] u0:=by
  rw [← hu_,unhide hA1_]
  rw [unhide hA1_] at hB
  exact hB
 replace hA:Co b u0 A.c x:=by rw [← hu_]; exact hA
 replace hD:Co b u0 B.c y:=by rw [← hu_]; exact hD
 replace hXF:Fam b u0 (fam A B qA (.slice sa nd sc) vA qB dB vB):=by rw [← hu_]; exact hXF
 replace hXG:Cgs g b w u0:=by rw [← hu_]; exact hXG
 clear hu_
 replace hXF:=hide hXF; replace hA:=hide hA; replace hD:=hide hD; replace hU:=hide hU; replace hV:=hide hV; replace hXG:=hide hXG
 refine wp_region_lit ?_
 refine lvk (.pointer (some ⟨g,0,none⟩)) ?_
 simp only [nrm]
 refine lvk (.pointer (some ⟨g,0,none⟩)) ?_
 simp only [nrm]
 refine lvk (.pointer (some ⟨g,0,none⟩)) ?_
 simp only [nrm]
 refine list_val (.agg (cg A.c x)) (by kernel_rfl) (exec_sr _ 26 (.tmp 16) rfl (g) 0 (by kernel_rfl) (hB.get 0 (x:=⟨g,sg A.c x qA (.slice sa nd sc) vA B.c y qB dB vB,43⟩) rfl) 0 5 (show 0+5≤16 by decide) rfl Try.underlying26 rfl (by kernel_rfl)) ?_
 simp only [nrm]
 have hgl7:=(unhide hXG).size
 refine list_valw (.pointer (some ⟨u0.heap.size,0,none⟩)) (u0.alloc (.cells (cg0) 26 (0,0))) (by kernel_rfl) (by kernel_rfl) ?_
 replace hB:=hB.new (cg0) 26
 simp only [List.nil_append,List.cons_append] at hB
 have hg:=(Gr.refl u0).alloc (.cells (cg0) 26 (0,0))
 replace hA:=hide ((unhide hA).gr hg)
 replace hD:=hide ((unhide hD).gr hg)
 replace hXF:=hide ((unhide hXF).gr hg)
 replace hXG:=hide ((unhide hXG).gr hg)
 clear hg
 generalize World.alloc _ _=u1 at *
 generalize u0.heap.size=g7 at *
 simp only [nrm]
 have hzz_:Hid (u1.heap[g7]?=some (.cells (cg0) 26 (0,0))):=hide (hB.get 2 (x:=⟨g7,cg0,26⟩) rfl)
 refine list_all 26 (.tmp 7) (.tmp 17) (g7) (S2:=[[.int .u32 A.c.nx],[.slice x.ao x.no x.co],[.int .i64 A.c.tn],[.int .u32 A.c.dl],[.slice x.ah x.nh x.ch]]) (by kernel_rfl) rfl (by kernel_rfl) (by kernel_rfl) hB 2 rfl NC (nC  _ _ _ _ _) (nC  _ _ _ _ _) (by kernel_rfl) (oC  rfl rfl rfl rfl rfl) ?_
 intro u2 hB_ hbt_
 clear hB
 replace hB:Bl (bare w) [⟨g,sg A.c x qA (.slice sa nd sc) vA B.c y qB dB vB,43⟩,⟨w.heap.size,fl [[.int .u32 n],[.int .u32 m],bw (bdy t),[.bool false]],53⟩,⟨g7,cg A.c x,26⟩] u2:=hB_
 clear hB_
 replace hA:=hide ((unhide hA).bz (unhide hzz_) hbt_)
 replace hD:=hide ((unhide hD).bz (unhide hzz_) hbt_)
 replace hXF:=hide ((unhide hXF).bo (unhide hzz_) hbt_ hXo hgl7)
 replace hXG:=hide ((unhide hXG).bl (unhide hzz_) hbt_ hgl7)
 clear hbt_ hzz_
 simp only [nrm]
 refine wpList_nil ?_
 replace hB:=hide hB
 go_upto_region 2 with fail
 replace hB:=unhide hB
 refine any_start (S:=fun v_=>v_.heap[g]?=some (.cells (sg A.c x qA (.slice sa nd sc) vA B.c y qB dB vB) 43 (0,0))∧v_.heap[w.heap.size]?=some (.cells (fl [[.int .u32 n],[.int .u32 m],bw (bdy t),[.bool false]]) 53 (0,0))) (by kernel_rfl) ?_
 replace hA:=hide ((unhide hA).gr ((Gr.refl u2).drew))
 replace hD:=hide ((unhide hD).gr ((Gr.refl u2).drew))
 replace hXF:=hide ((unhide hXF).gr ((Gr.refl u2).drew))
 replace hXG:=hide ((unhide hXG).gr ((Gr.refl u2).drew))
 replace hB:=hB.drew
 generalize World.drew _=u3 at *
 have hB0:=hide hB
 have hsz_:Hid (Sz u3.heap.size u3):=Nat.le_refl _
 have hsW_:=(unhide hXG).size
 simp only [List.size_toArray,List.length_cons,List.length_nil,Array.replicate,List.replicate]
 refine any_tk 0 (.pointer (some ⟨g,0,none⟩)) (tf 15 0) rfl (fun x_ hu=>by kernel_rfl) ⟨(hB.get 0 (x:=⟨g,sg A.c x qA (.slice sa nd sc) vA B.c y qB dB vB,43⟩) rfl),(hB.get 1 (x:=⟨w.heap.size,fl [[.int .u32 n],[.int .u32 m],bw (bdy t),[.bool false]],53⟩) rfl)⟩ ?_
 simp only [nrm]
 refine any_tk 1 (.pointer (some ⟨g,0,none⟩)) (tf 15 1) rfl (fun x_ hu=>by kernel_rfl) ⟨(hB.get 0 (x:=⟨g,sg A.c x qA (.slice sa nd sc) vA B.c y qB dB vB,43⟩) rfl),(hB.get 1 (x:=⟨w.heap.size,fl [[.int .u32 n],[.int .u32 m],bw (bdy t),[.bool false]],53⟩) rfl)⟩ ?_
 simp only [nrm]
 refine any_tk 2 (.pointer (some ⟨g,0,none⟩)) (tf 15 2) rfl (fun x_ hu=>by kernel_rfl) ⟨(hB.get 0 (x:=⟨g,sg A.c x qA (.slice sa nd sc) vA B.c y qB dB vB,43⟩) rfl),(hB.get 1 (x:=⟨w.heap.size,fl [[.int .u32 n],[.int .u32 m],bw (bdy t),[.bool false]],53⟩) rfl)⟩ ?_
 simp only [nrm]
 refine any_tk 3 (.agg (cg A.c x)) (tf 15 3) rfl (fun x_ hu=>exec_sr _ 26 (.tmp 21) rfl (g) 0 (by kernel_rfl) hu.1 0 5 (show 0+5≤16 by decide) rfl Try.underlying26 rfl (by kernel_rfl)) ⟨(hB.get 0 (x:=⟨g,sg A.c x qA (.slice sa nd sc) vA B.c y qB dB vB,43⟩) rfl),(hB.get 1 (x:=⟨w.heap.size,fl [[.int .u32 n],[.int .u32 m],bw (bdy t),[.bool false]],53⟩) rfl)⟩ ?_
 simp only [nrm]
 refine any_tk 4 (.pointer (some ⟨w.heap.size,0,none⟩)) (tf 15 4) rfl (fun x_ hu=>by kernel_rfl) ⟨(hB.get 0 (x:=⟨g,sg A.c x qA (.slice sa nd sc) vA B.c y qB dB vB,43⟩) rfl),(hB.get 1 (x:=⟨w.heap.size,fl [[.int .u32 n],[.int .u32 m],bw (bdy t),[.bool false]],53⟩) rfl)⟩ ?_
 simp only [nrm]
 refine any_tk 5 (.int .u32 n) (tf 15 5) rfl (fun x_ hu=>exec_c32 _ (.tmp 23) rfl (w.heap.size) 0 (by kernel_rfl) n (seg_cell (nD hXL _ _ _) hu.2 0 (v:=.int .u32 n) rfl rfl)) ⟨(hB.get 0 (x:=⟨g,sg A.c x qA (.slice sa nd sc) vA B.c y qB dB vB,43⟩) rfl),(hB.get 1 (x:=⟨w.heap.size,fl [[.int .u32 n],[.int .u32 m],bw (bdy t),[.bool false]],53⟩) rfl)⟩ ?_
 simp only [nrm]
 refine float_first (fun q u=>NKf u3.heap.size (cg0) 26 u q) 8 (fun b_=>#[true,true,true,true,true,true,false,false,false,false,false,b_,false,false,false]) 11 6 false rfl rfl (fun v_ g_=>⟨g_.blk (hB.get 0 (x:=⟨g,sg A.c x qA (.slice sa nd sc) vA B.c y qB dB vB,43⟩) rfl),g_.blk (hB.get 1 (x:=⟨w.heap.size,fl [[.int .u32 n],[.int .u32 m],bw (bdy t),[.bool false]],53⟩) rfl)⟩) (by kernel_rfl) (fun b_=>by cases b_ <;> rfl) ?_ ?_
 all_goals simp only [fw1,Act.put,List.setIfInBounds_toArray,List.set_cons_zero,List.set_cons_succ,List.getElem_toArray,List.getElem_cons_zero,List.getElem_cons_succ]
 ·intro q_ x_ hgx K hK
  refine wpOp_step (o:=_) rfl (fun K' hK'=>?_)
  replace hK':=hide hK'
  replace hK:=hide hK
  refine step_val (.pointer (some ⟨x_.heap.size,0,none⟩)) (x_.alloc (.cells (cg0) 26 (0,0))) (by kernel_rfl) (by kernel_rfl) ?_
  exact unhide hK' _ _ (unhide hK _ _ ((Gr.refl _).alloc _) (⟨_,rfl,Nat.le_trans (unhide hsz_) hgx.size,blk_new _ _⟩))
 intro b1_6 q1_6 x1_6 hg hTq hall
 replace hA:=hide ((unhide hA).gr hg)
 replace hD:=hide ((unhide hD).gr hg)
 replace hXF:=hide ((unhide hXF).gr hg)
 replace hXG:=hide ((unhide hXG).gr hg)
 replace hsz_:=hide ((unhide hsz_).gr hg)
 replace hB:=hB.more hg
 clear hg
 clear hall
 refine wpOp_step (o:=_) rfl (fun K hK=>?_)
 replace hK:=hide hK
 refine step_callw (by kernel_rfl) 21 #[.agg (cg A.c x),.int .u32 n] (by kernel_rfl) ((((show Calls Try.prog 21 #[.agg (cg A.c x),.int .u32 n] x1_6 (Rc c1 [.int .i64 (k1:Int),.int .i64 0] x1_6) from by have h:=packed_ok A.c x n hn9 x1_6 (unhide hA).i; rw [unhide hak2] at h; exact h).mono fun _ _ h=>rcb_of h (Nat.le_trans hb (unhide hXG).size))).mono ?_)
 rintro r u4 ⟨x2,rfl,hE,hg⟩
 refine ⟨_,rfl,?_⟩
 replace hTq:=fun e=>NKf.gr (hTq e) hg
 replace hsz_:=hide ((unhide hsz_).gr hg)
 replace hA:=hide ((unhide hA).gr hg)
 replace hD:=hide ((unhide hD).gr hg)
 replace hXF:=hide ((unhide hXF).gr hg)
 replace hXG:=hide ((unhide hXG).gr hg)
 replace hB:=hB.more hg
 clear hg
 replace hE:=hide hE
 refine unhide hK _ _ ⟨⟨(hB.get 0 (x:=⟨g,sg A.c x qA (.slice sa nd sc) vA B.c y qB dB vB,43⟩) rfl),(hB.get 1 (x:=⟨w.heap.size,fl [[.int .u32 n],[.int .u32 m],bw (bdy t),[.bool false]],53⟩) rfl)⟩,?_⟩
 clear hK K
 simp only [nrm]
 refine any_tk 7 (.tuple #[.agg (cg c1 x2),.int .i64 (k1:Int),.int .i64 0]) (tf 15 7) rfl (fun x_ hu=>by kernel_rfl) ⟨(hB.get 0 (x:=⟨g,sg A.c x qA (.slice sa nd sc) vA B.c y qB dB vB,43⟩) rfl),(hB.get 1 (x:=⟨w.heap.size,fl [[.int .u32 n],[.int .u32 m],bw (bdy t),[.bool false]],53⟩) rfl)⟩ ?_
 simp only [nrm]
 refine any_tk 8 (.agg (cg c1 x2)) (tf 15 8) rfl (fun x_ hu=>by kernel_rfl) ⟨(hB.get 0 (x:=⟨g,sg A.c x qA (.slice sa nd sc) vA B.c y qB dB vB,43⟩) rfl),(hB.get 1 (x:=⟨w.heap.size,fl [[.int .u32 n],[.int .u32 m],bw (bdy t),[.bool false]],53⟩) rfl)⟩ ?_
 simp only [nrm]
 refine any_tk 9 (.int .i64 (k1:Int)) (tf 15 9) rfl (fun x_ hu=>by kernel_rfl) ⟨(hB.get 0 (x:=⟨g,sg A.c x qA (.slice sa nd sc) vA B.c y qB dB vB,43⟩) rfl),(hB.get 1 (x:=⟨w.heap.size,fl [[.int .u32 n],[.int .u32 m],bw (bdy t),[.bool false]],53⟩) rfl)⟩ ?_
 simp only [nrm]
 refine any_tk 10 (.int .i64 0) (tf 15 10) rfl (fun x_ hu=>by kernel_rfl) ⟨(hB.get 0 (x:=⟨g,sg A.c x qA (.slice sa nd sc) vA B.c y qB dB vB,43⟩) rfl),(hB.get 1 (x:=⟨w.heap.size,fl [[.int .u32 n],[.int .u32 m],bw (bdy t),[.bool false]],53⟩) rfl)⟩ ?_
 simp only [nrm]
 refine float_again (fun q u=>NKf u3.heap.size (cg0) 26 u q) 8 (fun b_=>#[true,true,true,true,true,true,true,true,true,true,true,b_,false,false,false]) 11 12 true (b:=b1_6) (q:=q1_6) rfl rfl hTq (fun v_ g_=>⟨g_.blk (hB.get 0 (x:=⟨g,sg A.c x qA (.slice sa nd sc) vA B.c y qB dB vB,43⟩) rfl),g_.blk (hB.get 1 (x:=⟨w.heap.size,fl [[.int .u32 n],[.int .u32 m],bw (bdy t),[.bool false]],53⟩) rfl)⟩) (by kernel_rfl) (fun b_=>by cases b_ <;> rfl) ?_ ?_
 all_goals simp only [fw1,Act.put,List.setIfInBounds_toArray,List.set_cons_zero,List.set_cons_succ,List.getElem_toArray,List.getElem_cons_zero,List.getElem_cons_succ]
 ·intro q_ x_ hgx K hK
  refine wpOp_step (o:=_) rfl (fun K' hK'=>?_)
  replace hK':=hide hK'
  replace hK:=hide hK
  refine step_val (.pointer (some ⟨x_.heap.size,0,none⟩)) (x_.alloc (.cells (cg0) 26 (0,0))) (by kernel_rfl) (by kernel_rfl) ?_
  exact unhide hK' _ _ (unhide hK _ _ ((Gr.refl _).alloc _) (⟨_,rfl,Nat.le_trans (unhide hsz_) hgx.size,blk_new _ _⟩))
 clear hTq
 intro b1_12 q1_12 x1_12 hg hTq hall
 replace hsz_:=hide ((unhide hsz_).gr hg)
 replace hA:=hide ((unhide hA).gr hg)
 replace hD:=hide ((unhide hD).gr hg)
 replace hXF:=hide ((unhide hXF).gr hg)
 replace hXG:=hide ((unhide hXG).gr hg)
 replace hE:=hide ((unhide hE).gr hg)
 replace hB:=hB.more hg
 clear hg
 obtain rfl:b1_12=true:=hall (by trivial)
 replace hTq:=hTq rfl
 clear hall
 obtain ⟨g8,rfl,hge_,hnew_⟩:=hTq
 have hgl8:=Nat.le_trans hsW_ hge_
 replace hB:=Bl.joinz (unhide hB0) hB hge_ hnew_
 simp only [List.cons_append,List.nil_append] at hB
 clear hB0 hge_ hnew_ hsW_
 refine wpOp_step (o:=_) rfl (fun K hK=>?_)
 replace hK:=hide hK
 have hzz_:Hid (x1_12.heap[g8]?=some (.cells (cg0) 26 (0,0))):=hide (hB.get 3 (x:=⟨g8,cg0,26⟩) rfl)
 refine step_all 26 (.tmp 8) (.tmp 26) (g8) (S2:=[[.int .u32 c1.nx],[.slice x2.ao x2.no x2.co],[.int .i64 c1.tn],[.int .u32 c1.dl],[.slice x2.ah x2.nh x2.ch]]) (by kernel_rfl) rfl (by kernel_rfl) (by kernel_rfl) hB 3 rfl NC (nC  _ _ _ _ _) (nC  _ _ _ _ _) (by kernel_rfl) (oC  rfl rfl rfl rfl rfl) ?_
 intro u5 hB_ hbt_
 clear hB
 replace hB:Bl (bare w) [⟨g,sg A.c x qA (.slice sa nd sc) vA B.c y qB dB vB,43⟩,⟨w.heap.size,fl [[.int .u32 n],[.int .u32 m],bw (bdy t),[.bool false]],53⟩,⟨g7,cg A.c x,26⟩,⟨g8,cg c1 x2,26⟩] u5:=hB_
 clear hB_
 replace hA:=hide ((unhide hA).bz (unhide hzz_) hbt_)
 replace hD:=hide ((unhide hD).bz (unhide hzz_) hbt_)
 replace hXF:=hide ((unhide hXF).bo (unhide hzz_) hbt_ hXo hgl8)
 replace hXG:=hide ((unhide hXG).bl (unhide hzz_) hbt_ hgl8)
 replace hE:=hide ((unhide hE).bz (unhide hzz_) hbt_)
 clear hbt_ hzz_
 refine unhide hK _ _ ⟨⟨(hB.get 0 (x:=⟨g,sg A.c x qA (.slice sa nd sc) vA B.c y qB dB vB,43⟩) rfl),(hB.get 1 (x:=⟨w.heap.size,fl [[.int .u32 n],[.int .u32 m],bw (bdy t),[.bool false]],53⟩) rfl)⟩,?_⟩
 clear hK K
 simp only [nrm]
 refine any_one (i:=13) (by kernel_rfl) rfl (fun K hK=>?_)
 replace hK:=hide hK
 go_simp
 refine (unhide hK).out _ _ ⟨(hB.get 0 (x:=⟨g,sg A.c x qA (.slice sa nd sc) vA B.c y qB dB vB,43⟩) rfl),(hB.get 1 (x:=⟨w.heap.size,fl [[.int .u32 n],[.int .u32 m],bw (bdy t),[.bool false]],53⟩) rfl)⟩ (fun _=>?_)
 clear hK K
 refine any_one (i:=14) (by kernel_rfl) rfl (fun K hK=>?_)
 replace hK:=hide hK
 go_simp
 refine (unhide hK).out _ _ ⟨(hB.get 0 (x:=⟨g,sg A.c x qA (.slice sa nd sc) vA B.c y qB dB vB,43⟩) rfl),(hB.get 1 (x:=⟨w.heap.size,fl [[.int .u32 n],[.int .u32 m],bw (bdy t),[.bool false]],53⟩) rfl)⟩ (fun _=>?_)
 clear hK K
 refine any_done (by kernel_rfl) ?_
 clear hsz_
 replace hB:=hide hB
 go_upto_region 3 with fail
 replace hB:=unhide hB
 refine wp_region_lit ?_
 refine wpList_gen fun ops_ hops=>?_
 replace hops:=hide hops
 refine list_val (.int .i64 0) (by rw [unhide hops]; kernel_rfl) (by kernel_rfl) ?_
 simp only [nrm]
 refine list_val (.bool false) (by rw [unhide hops]; kernel_rfl) (neq_e _ (.tmp 29) (.const (.int .i64 0)) 0 0 false rfl (by kernel_rfl) (by kernel_rfl) (by decide)) ?_
 simp only [nrm]
 refine list_val (.bool false) (by rw [unhide hops]; kernel_rfl) (by kernel_rfl) ?_
 simp only [nrm]
 refine list_val (.int .i64 (k1:Int)) (by rw [unhide hops]; kernel_rfl) (by kernel_rfl) ?_
 simp only [nrm]
 refine list_val (.pointer (some ⟨g7,1,none⟩)) (by rw [unhide hops]; kernel_rfl) (by kernel_rfl) ?_
 simp only [nrm]
 refine list_val (.slice x.ao x.no x.co) (by rw [unhide hops]; kernel_rfl) (exec_csO _ (.tmp 33) rfl (g7) 1 (by kernel_rfl) x.ao x.no x.co (seg_cell (nC  _ _ _ _ _) (hB.get 2 (x:=⟨g7,cg A.c x,26⟩) rfl) 1 (v:=.slice x.ao x.no x.co) rfl rfl)) ?_
 simp only [nrm]
 refine list_val (.int .i64 x.no) (by rw [unhide hops]; kernel_rfl) (by kernel_rfl) ?_
 simp only [nrm]
 refine list_val (.pointer (some ⟨g8,1,none⟩)) (by rw [unhide hops]; kernel_rfl) (by kernel_rfl) ?_
 simp only [nrm]
 refine list_val (.slice x2.ao x2.no x2.co) (by rw [unhide hops]; kernel_rfl) (exec_csO _ (.tmp 36) rfl (g8) 1 (by kernel_rfl) x2.ao x2.no x2.co (seg_cell (nC  _ _ _ _ _) (hB.get 3 (x:=⟨g8,cg c1 x2,26⟩) rfl) 1 (v:=.slice x2.ao x2.no x2.co) rfl rfl)) ?_
 simp only [nrm]
 refine list_val (.int .i64 x2.no) (by rw [unhide hops]; kernel_rfl) (by kernel_rfl) ?_
 simp only [nrm]
 refine list_val (.int .i64 (k1:Int)) (by rw [unhide hops]; kernel_rfl) (sub_i _ (.tmp 35) (.tmp 38) ((x.no:Nat):Int) ((x2.no:Nat):Int) rfl (by kernel_rfl) (by kernel_rfl) (k1:Int) (by have h1:=unhide hO1; have h2:=hnol; have h3:=(unhide hE).i.o.len; omega) (by have h1:=unhide hgk; have h2:=unhide hO1; have h3:=nlt; have h4:=nlc; omega)) ?_
 simp only [nrm]
 refine list_val (.bool false) (by rw [unhide hops]; kernel_rfl) (neq_i _ (.tmp 32) (.tmp 39) (k1:Int) (k1:Int) false rfl (by kernel_rfl) (by kernel_rfl) (by simp)) ?_
 simp only [nrm]
 refine list_val (.bool false) (by rw [unhide hops]; kernel_rfl) (by kernel_rfl) ?_
 simp only [nrm]
 refine wpList_nil ?_
 replace hB:=hide hB
 go_upto_region 5 with fail
 replace hB:=unhide hB
 refine wp_region_lit ?_
 refine lvk (.pointer (some ⟨g,0,none⟩)) ?_
 simp only [nrm]
 refine list_val (.agg (cg c1 x2)) (by kernel_rfl) (exec_sw _ 26 (.tmp 8) rfl (g8) (by kernel_rfl) (hB.get 3 (x:=⟨g8,cg c1 x2,26⟩) rfl) NC (nC  _ _ _ _ _) Try.underlying26 rfl (by kernel_rfl)) ?_
 simp only [nrm]
 refine lvk (.pointer (some ⟨g,0,none⟩)) ?_
 simp only [nrm]
 refine lvk (.pointer (some ⟨g,0,none⟩)) ?_
 simp only [nrm]
 have hzz_:Hid (u5.heap[g]?=some (.cells (sg A.c x qA (.slice sa nd sc) vA B.c y qB dB vB) 43 (0,0))):=hide (hB.get 0 (x:=⟨g,sg A.c x qA (.slice sa nd sc) vA B.c y qB dB vB,43⟩) rfl)
 refine list_sr 26 (.tmp 45) (.tmp 43) (g) 0 [[.int .u32 c1.nx],[.slice x2.ao x2.no x2.co],[.int .i64 c1.tn],[.int .u32 c1.dl],[.slice x2.ah x2.nh x2.ch]] (by kernel_rfl) rfl (by kernel_rfl) (by kernel_rfl) hB 0 rfl 0 5 (show 0+5≤16 by decide) rfl rfl rfl (by kernel_rfl) (oC rfl rfl rfl rfl rfl) ?_
 intro u6 hB_ hbt_
 clear hB
 replace hB:Bl (bare w) [⟨g,sg c1 x2 qA (.slice sa nd sc) vA B.c y qB dB vB,43⟩,⟨w.heap.size,fl [[.int .u32 n],[.int .u32 m],bw (bdy t),[.bool false]],53⟩,⟨g7,cg A.c x,26⟩,⟨g8,cg c1 x2,26⟩] u6:=hB_
 clear hB_
 replace hA:=hide ((unhide hA).bz (unhide hzz_) hbt_)
 replace hD:=hide ((unhide hD).bz (unhide hzz_) hbt_)
 replace hXF:=hide ((unhide hXF).bz (unhide hzz_) hbt_)
 replace hXG:=hide ((unhide hXG).bg (unhide hzz_) hbt_ hbg)
 replace hE:=hide ((unhide hE).bz (unhide hzz_) hbt_)
 clear hbt_ hzz_
 simp only [nrm]
 refine wpList_nil ?_
 replace hB:=hide hB
 go_upto_region 6 with fail
 replace hB:=unhide hB
 refine any_start (S:=fun v_=>v_.heap[g]?=some (.cells (sg c1 x2 qA (.slice sa nd sc) vA B.c y qB dB vB) 43 (0,0))∧v_.heap[w.heap.size]?=some (.cells (fl [[.int .u32 n],[.int .u32 m],bw (bdy t),[.bool false]]) 53 (0,0))) (by kernel_rfl) ?_
 replace hA:=hide ((unhide hA).gr ((Gr.refl u6).drew))
 replace hD:=hide ((unhide hD).gr ((Gr.refl u6).drew))
 replace hXF:=hide ((unhide hXF).gr ((Gr.refl u6).drew))
 replace hXG:=hide ((unhide hXG).gr ((Gr.refl u6).drew))
 replace hE:=hide ((unhide hE).gr ((Gr.refl u6).drew))
 replace hB:=hB.drew
 generalize World.drew _=u7 at *
 simp only [List.size_toArray,List.length_cons,List.length_nil,Array.replicate,List.replicate]
 have hS_:=hide (show (fun v_=>v_.heap[g]?=some (.cells (sg c1 x2 qA (.slice sa nd sc) vA B.c y qB dB vB) 43 (0,0))∧v_.heap[w.heap.size]?=some (.cells (fl [[.int .u32 n],[.int .u32 m],bw (bdy t),[.bool false]]) 53 (0,0))) u7 from ⟨(hB.get 0 (x:=⟨g,sg c1 x2 qA (.slice sa nd sc) vA B.c y qB dB vB,43⟩) rfl),(hB.get 1 (x:=⟨w.heap.size,fl [[.int .u32 n],[.int .u32 m],bw (bdy t),[.bool false]],53⟩) rfl)⟩)
 refine any_tk 0 (.pointer (some ⟨w.heap.size,107,none⟩)) (tf 13 0) rfl (fun x_ hu=>by kernel_rfl) (unhide hS_) ?_
 simp only [nrm]
 refine any_tk 1 (.bool false) (tf 13 1) rfl (fun x_ hu=>exec_cb _ (.tmp 46) rfl (w.heap.size) 107 (by kernel_rfl) false (seg_cell (nD hXL _ _ _) hu.2 3 (v:=.bool false) rfl rfl)) (unhide hS_) ?_
 simp only [nrm]
 refine any_tk 2 (.bool false) (tf 13 2) rfl (fun x_ hu=>by kernel_rfl) (unhide hS_) ?_
 simp only [nrm]
 refine any_tk 3 (.pointer (some ⟨g,0,none⟩)) (tf 13 3) rfl (fun x_ hu=>by kernel_rfl) (unhide hS_) ?_
 simp only [nrm]
 refine any_tk 4 (.pointer (some ⟨g,0,none⟩)) (tf 13 4) rfl (fun x_ hu=>by kernel_rfl) (unhide hS_) ?_
 simp only [nrm]
 refine any_tk 5 (.pointer (some ⟨g,0,none⟩)) (tf 13 5) rfl (fun x_ hu=>by kernel_rfl) (unhide hS_) ?_
 simp only [nrm]
 refine any_tk 6 (.agg (cg c1 x2)) (tf 13 6) rfl (fun x_ hu=>exec_sr _ 26 (.tmp 51) rfl (g) 0 (by kernel_rfl) hu.1 0 5 (show 0+5≤16 by decide) rfl Try.underlying26 rfl (by kernel_rfl)) (unhide hS_) ?_
 simp only [nrm]
 refine any_tk 7 (.pointer (some ⟨w.heap.size,1,none⟩)) (tf 13 7) rfl (fun x_ hu=>by kernel_rfl) (unhide hS_) ?_
 simp only [nrm]
 refine any_tk 8 (.int .u32 m) (tf 13 8) rfl (fun x_ hu=>exec_c32 _ (.tmp 53) rfl (w.heap.size) 1 (by kernel_rfl) m (seg_cell (nD hXL _ _ _) hu.2 1 (v:=.int .u32 m) rfl rfl)) (unhide hS_) ?_
 simp only [nrm]
 refine any_tk 9 (.int .i64 rm) (tf 13 9) rfl (fun x_ hu=>by kernel_rfl) (unhide hS_) ?_
 simp only [nrm]
 refine any_one (i:=10) (by kernel_rfl) rfl (fun K hK=>?_)
 refine step_callw (by kernel_rfl) 15 #[.agg (cg c1 x2),.int .u32 m,.int .i64 rm] (by kernel_rfl) (((show Calls Try.prog 15 #[.agg (cg c1 x2),.int .u32 m,.int .i64 rm] u7 (Vl (.bool true) u7) from by have h:=wants_ok c1 x2 m rm hm u7 (unhide hE).i; rw [hwt] at h; exact h)).mono ?_)
 rintro r_ u8 ⟨rfl,hg⟩
 replace hA:=hide ((unhide hA).gr hg)
 replace hD:=hide ((unhide hD).gr hg)
 replace hXF:=hide ((unhide hXF).gr hg)
 replace hXG:=hide ((unhide hXG).gr hg)
 replace hE:=hide ((unhide hE).gr hg)
 replace hB:=hB.more hg
 clear hg
 refine ⟨_,rfl,?_⟩
 clear hS_
 have hS_:=hide (show (fun v_=>v_.heap[g]?=some (.cells (sg c1 x2 qA (.slice sa nd sc) vA B.c y qB dB vB) 43 (0,0))∧v_.heap[w.heap.size]?=some (.cells (fl [[.int .u32 n],[.int .u32 m],bw (bdy t),[.bool false]]) 53 (0,0))) u8 from ⟨(hB.get 0 (x:=⟨g,sg c1 x2 qA (.slice sa nd sc) vA B.c y qB dB vB,43⟩) rfl),(hB.get 1 (x:=⟨w.heap.size,fl [[.int .u32 n],[.int .u32 m],bw (bdy t),[.bool false]],53⟩) rfl)⟩)
 refine hK.out _ _ (unhide hS_) (fun _=>?_)
 clear hK K
 simp only [nrm]
 refine any_tk 11 (.bool false) (tf 13 11) rfl (fun x_ hu=>by kernel_rfl) (unhide hS_) ?_
 simp only [nrm]
 refine any_tk 12 (.bool false) (tf 13 12) rfl (fun x_ hu=>by kernel_rfl) (unhide hS_) ?_
 simp only [nrm]
 refine any_done (by kernel_rfl) ?_
 clear hS_
 have hcl:=und_cells hsz (hB.get 1 (x:=⟨w.heap.size,fl [[.int .u32 n],[.int .u32 m],bw (bdy t),[.bool false]],53⟩) rfl)
 replace hB:=hide hB
 go_upto_region 8 with fail
 replace hB:=unhide hB
 refine wp_region_lit ?_
 refine lvk (.pointer (some ⟨w.heap.size,2,none⟩)) ?_
 simp only [nrm]
 refine lvk (.pointer (some ⟨w.heap.size,2,none⟩)) ?_
 simp only [nrm]
 refine lvk (.pointer (some ⟨w.heap.size,2,none⟩)) ?_
 simp only [nrm]
 refine list_val (.int .u8 3) (by kernel_rfl) (exec_ub _ (.tmp 61) rfl (w.heap.size) 2 (by kernel_rfl) 3 hcl.1) ?_
 simp only [nrm]
 refine lvk (.int .u8 4) ?_
 simp only [nrm]
 refine lvk (.slice (some ⟨w.heap.size,3,none⟩) 3 104) ?_
 simp only [nrm]
 refine list_val (.string t) (by kernel_rfl) (exec_tx _ (.tmp 64) rfl (some ⟨w.heap.size,3,none⟩) 3 104 (tbo t) (by kernel_rfl) (by rw [tbo_len,hsz]) hcl.2 t (str_tbo t).symm) ?_
 simp only [nrm]
 (refine wpList_step fun K hK=>?_; replace hK:=hide hK; go_simp; refine unhide hK _ _ ?_; clear hK K)
 refine wpList_nil ?_
 clear hcl
 replace hB:=hide hB
 go_upto_region 9 with fail
 replace hB:=unhide hB
 refine any_start (S:=fun v_=>v_.heap[g]?=some (.cells (sg c1 x2 qA (.slice sa nd sc) vA B.c y qB dB vB) 43 (0,0))∧v_.heap[w.heap.size]?=some (.cells (fl [[.int .u32 n],[.int .u32 m],bw (bdy t),[.bool false]]) 53 (0,0))) (by kernel_rfl) ?_
 replace hA:=hide ((unhide hA).gr ((Gr.refl u8).drew))
 replace hD:=hide ((unhide hD).gr ((Gr.refl u8).drew))
 replace hXF:=hide ((unhide hXF).gr ((Gr.refl u8).drew))
 replace hXG:=hide ((unhide hXG).gr ((Gr.refl u8).drew))
 replace hE:=hide ((unhide hE).gr ((Gr.refl u8).drew))
 replace hB:=hB.drew
 generalize World.drew _=u9 at *
 have hB0:=hide hB
 have hsz_:Hid (Sz u9.heap.size u9):=Nat.le_refl _
 have hsW_:=(unhide hXG).size
 simp only [List.size_toArray,List.length_cons,List.length_nil,Array.replicate,List.replicate]
 refine any_tk 0 (.pointer (some ⟨g,0,none⟩)) (tf 18 0) rfl (fun x_ hu=>by kernel_rfl) ⟨(hB.get 0 (x:=⟨g,sg c1 x2 qA (.slice sa nd sc) vA B.c y qB dB vB,43⟩) rfl),(hB.get 1 (x:=⟨w.heap.size,fl [[.int .u32 n],[.int .u32 m],bw (bdy t),[.bool false]],53⟩) rfl)⟩ ?_
 simp only [nrm]
 refine any_tk 1 (.pointer (some ⟨g,0,none⟩)) (tf 18 1) rfl (fun x_ hu=>by kernel_rfl) ⟨(hB.get 0 (x:=⟨g,sg c1 x2 qA (.slice sa nd sc) vA B.c y qB dB vB,43⟩) rfl),(hB.get 1 (x:=⟨w.heap.size,fl [[.int .u32 n],[.int .u32 m],bw (bdy t),[.bool false]],53⟩) rfl)⟩ ?_
 simp only [nrm]
 refine any_tk 2 (.pointer (some ⟨g,0,none⟩)) (tf 18 2) rfl (fun x_ hu=>by kernel_rfl) ⟨(hB.get 0 (x:=⟨g,sg c1 x2 qA (.slice sa nd sc) vA B.c y qB dB vB,43⟩) rfl),(hB.get 1 (x:=⟨w.heap.size,fl [[.int .u32 n],[.int .u32 m],bw (bdy t),[.bool false]],53⟩) rfl)⟩ ?_
 simp only [nrm]
 refine any_tk 3 (.agg (cg c1 x2)) (tf 18 3) rfl (fun x_ hu=>exec_sr _ 26 (.tmp 69) rfl (g) 0 (by kernel_rfl) hu.1 0 5 (show 0+5≤16 by decide) rfl Try.underlying26 rfl (by kernel_rfl)) ⟨(hB.get 0 (x:=⟨g,sg c1 x2 qA (.slice sa nd sc) vA B.c y qB dB vB,43⟩) rfl),(hB.get 1 (x:=⟨w.heap.size,fl [[.int .u32 n],[.int .u32 m],bw (bdy t),[.bool false]],53⟩) rfl)⟩ ?_
 simp only [nrm]
 refine any_tk 4 (.pointer (some ⟨w.heap.size,1,none⟩)) (tf 18 4) rfl (fun x_ hu=>by kernel_rfl) ⟨(hB.get 0 (x:=⟨g,sg c1 x2 qA (.slice sa nd sc) vA B.c y qB dB vB,43⟩) rfl),(hB.get 1 (x:=⟨w.heap.size,fl [[.int .u32 n],[.int .u32 m],bw (bdy t),[.bool false]],53⟩) rfl)⟩ ?_
 simp only [nrm]
 refine any_tk 5 (.int .u32 m) (tf 18 5) rfl (fun x_ hu=>exec_c32 _ (.tmp 71) rfl (w.heap.size) 1 (by kernel_rfl) m (seg_cell (nD hXL _ _ _) hu.2 1 (v:=.int .u32 m) rfl rfl)) ⟨(hB.get 0 (x:=⟨g,sg c1 x2 qA (.slice sa nd sc) vA B.c y qB dB vB,43⟩) rfl),(hB.get 1 (x:=⟨w.heap.size,fl [[.int .u32 n],[.int .u32 m],bw (bdy t),[.bool false]],53⟩) rfl)⟩ ?_
 simp only [nrm]
 refine any_tk 6 (.string t) (tf 18 6) rfl (fun x_ hu=>by kernel_rfl) ⟨(hB.get 0 (x:=⟨g,sg c1 x2 qA (.slice sa nd sc) vA B.c y qB dB vB,43⟩) rfl),(hB.get 1 (x:=⟨w.heap.size,fl [[.int .u32 n],[.int .u32 m],bw (bdy t),[.bool false]],53⟩) rfl)⟩ ?_
 simp only [nrm]
 refine any_tk 7 (.agg (fl [[.int .u32 m],[.string t]])) (tf 18 7) rfl (fun x_ hu=>bI01 _ (.tmp 72) (.tmp 73) rfl (by kernel_rfl) (by kernel_rfl)) ⟨(hB.get 0 (x:=⟨g,sg c1 x2 qA (.slice sa nd sc) vA B.c y qB dB vB,43⟩) rfl),(hB.get 1 (x:=⟨w.heap.size,fl [[.int .u32 n],[.int .u32 m],bw (bdy t),[.bool false]],53⟩) rfl)⟩ ?_
 simp only [nrm]
 refine any_tk 8 (.int .i64 rm) (tf 18 8) rfl (fun x_ hu=>by kernel_rfl) ⟨(hB.get 0 (x:=⟨g,sg c1 x2 qA (.slice sa nd sc) vA B.c y qB dB vB,43⟩) rfl),(hB.get 1 (x:=⟨w.heap.size,fl [[.int .u32 n],[.int .u32 m],bw (bdy t),[.bool false]],53⟩) rfl)⟩ ?_
 simp only [nrm]
 refine float_first (fun q u=>NKf u9.heap.size (cg0) 26 u q) 12 (fun b_=>#[true,true,true,true,true,true,true,true,true,false,false,false,false,false,b_,false,false,false]) 14 9 false rfl rfl (fun v_ g_=>⟨g_.blk (hB.get 0 (x:=⟨g,sg c1 x2 qA (.slice sa nd sc) vA B.c y qB dB vB,43⟩) rfl),g_.blk (hB.get 1 (x:=⟨w.heap.size,fl [[.int .u32 n],[.int .u32 m],bw (bdy t),[.bool false]],53⟩) rfl)⟩) (by kernel_rfl) (fun b_=>by cases b_ <;> rfl) ?_ ?_
 all_goals simp only [fw1,Act.put,List.setIfInBounds_toArray,List.set_cons_zero,List.set_cons_succ,List.getElem_toArray,List.getElem_cons_zero,List.getElem_cons_succ]
 ·intro q_ x_ hgx K hK
  refine wpOp_step (o:=_) rfl (fun K' hK'=>?_)
  replace hK':=hide hK'
  replace hK:=hide hK
  refine step_val (.pointer (some ⟨x_.heap.size,0,none⟩)) (x_.alloc (.cells (cg0) 26 (0,0))) (by kernel_rfl) (by kernel_rfl) ?_
  exact unhide hK' _ _ (unhide hK _ _ ((Gr.refl _).alloc _) (⟨_,rfl,Nat.le_trans (unhide hsz_) hgx.size,blk_new _ _⟩))
 intro b1_9 q1_9 x1_9 hg hTq hall
 replace hA:=hide ((unhide hA).gr hg)
 replace hD:=hide ((unhide hD).gr hg)
 replace hXF:=hide ((unhide hXF).gr hg)
 replace hXG:=hide ((unhide hXG).gr hg)
 replace hE:=hide ((unhide hE).gr hg)
 replace hsz_:=hide ((unhide hsz_).gr hg)
 replace hB:=hB.more hg
 clear hg
 clear hall
 refine wpOp_step (o:=_) rfl (fun K hK=>?_)
 replace hK:=hide hK
 refine step_callw (by kernel_rfl) 22 #[.agg (cg c1 x2),.agg (fl [[.int .u32 m],[.string t]]),.int .i64 rm] (by kernel_rfl) (((taken_ok b c1 c2 l2 x2 ⟨m,t⟩ rm x1_9 (unhide hE) hsok (Nat.le_trans hb (unhide hXG).size) (unhide htk))).mono ?_)
 rintro r u10 ⟨x3,a3,n3,e3,rfl,hH,hn3,hY,hg⟩
 refine ⟨_,rfl,?_⟩
 replace hTq:=fun e=>NKf.gr (hTq e) hg
 replace hsz_:=hide ((unhide hsz_).gr hg)
 replace hA:=hide ((unhide hA).gr hg)
 replace hD:=hide ((unhide hD).gr hg)
 replace hXF:=hide ((unhide hXF).gr hg)
 replace hXG:=hide ((unhide hXG).gr hg)
 replace hE:=hide ((unhide hE).gr hg)
 replace hB:=hB.more hg
 clear hg
 replace hH:=hide hH
 replace hY:=hide hY
 replace hn3:=hide hn3
 refine unhide hK _ _ ⟨⟨(hB.get 0 (x:=⟨g,sg c1 x2 qA (.slice sa nd sc) vA B.c y qB dB vB,43⟩) rfl),(hB.get 1 (x:=⟨w.heap.size,fl [[.int .u32 n],[.int .u32 m],bw (bdy t),[.bool false]],53⟩) rfl)⟩,?_⟩
 clear hK K
 simp only [nrm]
 refine any_tk 10 (.tuple #[.agg (cg c2 x3),.slice a3 n3 e3,.int .i64 0]) (tf 18 10) rfl (fun x_ hu=>by kernel_rfl) ⟨(hB.get 0 (x:=⟨g,sg c1 x2 qA (.slice sa nd sc) vA B.c y qB dB vB,43⟩) rfl),(hB.get 1 (x:=⟨w.heap.size,fl [[.int .u32 n],[.int .u32 m],bw (bdy t),[.bool false]],53⟩) rfl)⟩ ?_
 simp only [nrm]
 refine any_tk 11 (.agg (cg c2 x3)) (tf 18 11) rfl (fun x_ hu=>by kernel_rfl) ⟨(hB.get 0 (x:=⟨g,sg c1 x2 qA (.slice sa nd sc) vA B.c y qB dB vB,43⟩) rfl),(hB.get 1 (x:=⟨w.heap.size,fl [[.int .u32 n],[.int .u32 m],bw (bdy t),[.bool false]],53⟩) rfl)⟩ ?_
 simp only [nrm]
 refine any_tk 12 (.slice a3 n3 e3) (tf 18 12) rfl (fun x_ hu=>by kernel_rfl) ⟨(hB.get 0 (x:=⟨g,sg c1 x2 qA (.slice sa nd sc) vA B.c y qB dB vB,43⟩) rfl),(hB.get 1 (x:=⟨w.heap.size,fl [[.int .u32 n],[.int .u32 m],bw (bdy t),[.bool false]],53⟩) rfl)⟩ ?_
 simp only [nrm]
 refine any_tk 13 (.int .i64 0) (tf 18 13) rfl (fun x_ hu=>by kernel_rfl) ⟨(hB.get 0 (x:=⟨g,sg c1 x2 qA (.slice sa nd sc) vA B.c y qB dB vB,43⟩) rfl),(hB.get 1 (x:=⟨w.heap.size,fl [[.int .u32 n],[.int .u32 m],bw (bdy t),[.bool false]],53⟩) rfl)⟩ ?_
 simp only [nrm]
 refine float_again (fun q u=>NKf u9.heap.size (cg0) 26 u q) 12 (fun b_=>#[true,true,true,true,true,true,true,true,true,true,true,true,true,true,b_,false,false,false]) 14 15 true (b:=b1_9) (q:=q1_9) rfl rfl hTq (fun v_ g_=>⟨g_.blk (hB.get 0 (x:=⟨g,sg c1 x2 qA (.slice sa nd sc) vA B.c y qB dB vB,43⟩) rfl),g_.blk (hB.get 1 (x:=⟨w.heap.size,fl [[.int .u32 n],[.int .u32 m],bw (bdy t),[.bool false]],53⟩) rfl)⟩) (by kernel_rfl) (fun b_=>by cases b_ <;> rfl) ?_ ?_
 all_goals simp only [fw1,Act.put,List.setIfInBounds_toArray,List.set_cons_zero,List.set_cons_succ,List.getElem_toArray,List.getElem_cons_zero,List.getElem_cons_succ]
 ·intro q_ x_ hgx K hK
  refine wpOp_step (o:=_) rfl (fun K' hK'=>?_)
  replace hK':=hide hK'
  replace hK:=hide hK
  refine step_val (.pointer (some ⟨x_.heap.size,0,none⟩)) (x_.alloc (.cells (cg0) 26 (0,0))) (by kernel_rfl) (by kernel_rfl) ?_
  exact unhide hK' _ _ (unhide hK _ _ ((Gr.refl _).alloc _) (⟨_,rfl,Nat.le_trans (unhide hsz_) hgx.size,blk_new _ _⟩))
 clear hTq
 intro b1_15 q1_15 x1_15 hg hTq hall
 replace hsz_:=hide ((unhide hsz_).gr hg)
 replace hA:=hide ((unhide hA).gr hg)
 replace hD:=hide ((unhide hD).gr hg)
 replace hXF:=hide ((unhide hXF).gr hg)
 replace hXG:=hide ((unhide hXG).gr hg)
 replace hE:=hide ((unhide hE).gr hg)
 replace hH:=hide ((unhide hH).gr hg)
 replace hY:=hide ((unhide hY).gr hg)
 replace hB:=hB.more hg
 clear hg
 obtain rfl:b1_15=true:=hall (by trivial)
 replace hTq:=hTq rfl
 clear hall
 obtain ⟨g12,rfl,hge_,hnew_⟩:=hTq
 have hgl12:=Nat.le_trans hsW_ hge_
 replace hB:=Bl.joinz (unhide hB0) hB hge_ hnew_
 simp only [List.cons_append,List.nil_append] at hB
 clear hB0 hge_ hnew_ hsW_
 refine wpOp_step (o:=_) rfl (fun K hK=>?_)
 replace hK:=hide hK
 have hzz_:Hid (x1_15.heap[g12]?=some (.cells (cg0) 26 (0,0))):=hide (hB.get 4 (x:=⟨g12,cg0,26⟩) rfl)
 refine step_all 26 (.tmp 12) (.tmp 77) (g12) (S2:=[[.int .u32 c2.nx],[.slice x3.ao x3.no x3.co],[.int .i64 c2.tn],[.int .u32 c2.dl],[.slice x3.ah x3.nh x3.ch]]) (by kernel_rfl) rfl (by kernel_rfl) (by kernel_rfl) hB 4 rfl NC (nC  _ _ _ _ _) (nC  _ _ _ _ _) (by kernel_rfl) (oC  rfl rfl rfl rfl rfl) ?_
 intro u11 hB_ hbt_
 clear hB
 replace hB:Bl (bare w) [⟨g,sg c1 x2 qA (.slice sa nd sc) vA B.c y qB dB vB,43⟩,⟨w.heap.size,fl [[.int .u32 n],[.int .u32 m],bw (bdy t),[.bool false]],53⟩,⟨g7,cg A.c x,26⟩,⟨g8,cg c1 x2,26⟩,⟨g12,cg c2 x3,26⟩] u11:=hB_
 clear hB_
 replace hA:=hide ((unhide hA).bz (unhide hzz_) hbt_)
 replace hD:=hide ((unhide hD).bz (unhide hzz_) hbt_)
 replace hXF:=hide ((unhide hXF).bo (unhide hzz_) hbt_ hXo hgl12)
 replace hXG:=hide ((unhide hXG).bl (unhide hzz_) hbt_ hgl12)
 replace hE:=hide ((unhide hE).bz (unhide hzz_) hbt_)
 replace hH:=hide ((unhide hH).bz (unhide hzz_) hbt_)
 replace hY:=hide ((unhide hY).bz (unhide hzz_) hbt_)
 clear hbt_ hzz_
 refine unhide hK _ _ ⟨⟨(hB.get 0 (x:=⟨g,sg c1 x2 qA (.slice sa nd sc) vA B.c y qB dB vB,43⟩) rfl),(hB.get 1 (x:=⟨w.heap.size,fl [[.int .u32 n],[.int .u32 m],bw (bdy t),[.bool false]],53⟩) rfl)⟩,?_⟩
 clear hK K
 simp only [nrm]
 refine any_one (i:=16) (by kernel_rfl) rfl (fun K hK=>?_)
 replace hK:=hide hK
 go_simp
 refine (unhide hK).out _ _ ⟨(hB.get 0 (x:=⟨g,sg c1 x2 qA (.slice sa nd sc) vA B.c y qB dB vB,43⟩) rfl),(hB.get 1 (x:=⟨w.heap.size,fl [[.int .u32 n],[.int .u32 m],bw (bdy t),[.bool false]],53⟩) rfl)⟩ (fun _=>?_)
 clear hK K
 refine any_one (i:=17) (by kernel_rfl) rfl (fun K hK=>?_)
 replace hK:=hide hK
 go_simp
 refine (unhide hK).out _ _ ⟨(hB.get 0 (x:=⟨g,sg c1 x2 qA (.slice sa nd sc) vA B.c y qB dB vB,43⟩) rfl),(hB.get 1 (x:=⟨w.heap.size,fl [[.int .u32 n],[.int .u32 m],bw (bdy t),[.bool false]],53⟩) rfl)⟩ (fun _=>?_)
 clear hK K
 refine any_done (by kernel_rfl) ?_
 clear hsz_
 replace hB:=hide hB
 go_upto_region 10 with fail
 replace hB:=unhide hB
 refine any_start (S:=fun v_=>v_.heap[g]?=some (.cells (sg c1 x2 qA (.slice sa nd sc) vA B.c y qB dB vB) 43 (0,0))∧v_.heap[g12]?=some (.cells (cg c2 x3) 26 (0,0))) (by kernel_rfl) ?_
 replace hA:=hide ((unhide hA).gr ((Gr.refl u11).drew))
 replace hD:=hide ((unhide hD).gr ((Gr.refl u11).drew))
 replace hXF:=hide ((unhide hXF).gr ((Gr.refl u11).drew))
 replace hXG:=hide ((unhide hXG).gr ((Gr.refl u11).drew))
 replace hE:=hide ((unhide hE).gr ((Gr.refl u11).drew))
 replace hH:=hide ((unhide hH).gr ((Gr.refl u11).drew))
 replace hY:=hide ((unhide hY).gr ((Gr.refl u11).drew))
 replace hB:=hB.drew
 generalize World.drew _=u12 at *
 simp only [List.size_toArray,List.length_cons,List.length_nil,Array.replicate,List.replicate]
 have hS_:=hide (show (fun v_=>v_.heap[g]?=some (.cells (sg c1 x2 qA (.slice sa nd sc) vA B.c y qB dB vB) 43 (0,0))∧v_.heap[g12]?=some (.cells (cg c2 x3) 26 (0,0))) u12 from ⟨(hB.get 0 (x:=⟨g,sg c1 x2 qA (.slice sa nd sc) vA B.c y qB dB vB,43⟩) rfl),(hB.get 4 (x:=⟨g12,cg c2 x3,26⟩) rfl)⟩)
 refine any_tk 0 (.int .i64 0) (tf 16 0) rfl (fun x_ hu=>by kernel_rfl) (unhide hS_) ?_
 simp only [nrm]
 refine any_tk 1 (.bool false) (tf 16 1) rfl (fun x_ hu=>neq_e _ (.tmp 80) (.const (.int .i64 0)) 0 0 false rfl (by kernel_rfl) (by kernel_rfl) (by decide)) (unhide hS_) ?_
 simp only [nrm]
 refine any_tk 2 (.bool false) (tf 16 2) rfl (fun x_ hu=>by kernel_rfl) (unhide hS_) ?_
 simp only [nrm]
 refine any_tk 3 (.pointer (some ⟨g12,3,none⟩)) (tf 16 3) rfl (fun x_ hu=>by kernel_rfl) (unhide hS_) ?_
 simp only [nrm]
 refine any_tk 4 (.int .u32 c2.dl) (tf 16 4) rfl (fun x_ hu=>exec_c32 _ (.tmp 83) rfl (g12) 3 (by kernel_rfl) c2.dl (seg_cell (nC  _ _ _ _ _) hu.2 3 (v:=.int .u32 c2.dl) rfl rfl)) (unhide hS_) ?_
 simp only [nrm]
 refine any_tk 5 (.pointer (some ⟨g,0,none⟩)) (tf 16 5) rfl (fun x_ hu=>by kernel_rfl) (unhide hS_) ?_
 simp only [nrm]
 refine any_tk 6 (.pointer (some ⟨g,0,none⟩)) (tf 16 6) rfl (fun x_ hu=>by kernel_rfl) (unhide hS_) ?_
 simp only [nrm]
 refine any_tk 7 (.pointer (some ⟨g,0,none⟩)) (tf 16 7) rfl (fun x_ hu=>by kernel_rfl) (unhide hS_) ?_
 simp only [nrm]
 refine any_tk 8 (.pointer (some ⟨g,3,none⟩)) (tf 16 8) rfl (fun x_ hu=>by kernel_rfl) (unhide hS_) ?_
 simp only [nrm]
 refine any_tk 9 (.int .u32 c1.dl) (tf 16 9) rfl (fun x_ hu=>exec_c32 _ (.tmp 88) rfl (g) 3 (by kernel_rfl) c1.dl (seg_cell (nS2  _ _ _ _ _ _ _ _ _ _ _ _ _ _ _ _) hu.1 3 (v:=.int .u32 c1.dl) rfl rfl)) (unhide hS_) ?_
 simp only [nrm]
 refine any_tk 10 (.slice a3 n3 e3) (tf 16 10) rfl (fun x_ hu=>by kernel_rfl) (unhide hS_) ?_
 simp only [nrm]
 refine any_tk 11 (.int .i64 n3) (tf 16 11) rfl (fun x_ hu=>by kernel_rfl) (unhide hS_) ?_
 simp only [nrm]
 refine any_tk 12 (.int .u32 ((l2.length:Nat):Int)) (tf 16 12) rfl (fun x_ hu=>conv_u32 _ (.tmp 91) ((l2.length:Nat):Int) rfl (by rw [← unhide hn3]; kernel_rfl) (by have h1:=unhide hd3; have h2:=unhide hd4; omega)) (unhide hS_) ?_
 simp only [nrm]
 refine any_tk 13 (.int .u32 c2.dl) (tf 16 13) rfl (fun x_ hu=>add_32 _ (.tmp 89) (.tmp 92) c1.dl ((l2.length:Nat):Int) rfl (by kernel_rfl) (by kernel_rfl) c2.dl (unhide hdl2).symm (unhide hH).i.dl) (unhide hS_) ?_
 simp only [nrm]
 refine any_tk 14 (.bool false) (tf 16 14) rfl (fun x_ hu=>neq_32 _ (.tmp 84) (.tmp 93) c2.dl c2.dl false rfl (by kernel_rfl) (by kernel_rfl) (by simp)) (unhide hS_) ?_
 simp only [nrm]
 refine any_tk 15 (.bool false) (tf 16 15) rfl (fun x_ hu=>by kernel_rfl) (unhide hS_) ?_
 simp only [nrm]
 refine any_done (by kernel_rfl) ?_
 clear hS_
 replace hB:=hide hB
 go_upto_region 12 with fail
 replace hB:=unhide hB
 refine wp_region_lit ?_
 refine lvk (.pointer (some ⟨g,0,none⟩)) ?_
 simp only [nrm]
 refine list_val (.agg (cg c2 x3)) (by kernel_rfl) (exec_sw _ 26 (.tmp 12) rfl (g12) (by kernel_rfl) (hB.get 4 (x:=⟨g12,cg c2 x3,26⟩) rfl) NC (nC  _ _ _ _ _) Try.underlying26 rfl (by kernel_rfl)) ?_
 simp only [nrm]
 refine lvk (.pointer (some ⟨g,0,none⟩)) ?_
 simp only [nrm]
 refine lvk (.pointer (some ⟨g,0,none⟩)) ?_
 simp only [nrm]
 have hzz_:Hid (u12.heap[g]?=some (.cells (sg c1 x2 qA (.slice sa nd sc) vA B.c y qB dB vB) 43 (0,0))):=hide (hB.get 0 (x:=⟨g,sg c1 x2 qA (.slice sa nd sc) vA B.c y qB dB vB,43⟩) rfl)
 refine list_sr 26 (.tmp 99) (.tmp 97) (g) 0 [[.int .u32 c2.nx],[.slice x3.ao x3.no x3.co],[.int .i64 c2.tn],[.int .u32 c2.dl],[.slice x3.ah x3.nh x3.ch]] (by kernel_rfl) rfl (by kernel_rfl) (by kernel_rfl) hB 0 rfl 0 5 (show 0+5≤16 by decide) rfl rfl rfl (by kernel_rfl) (oC rfl rfl rfl rfl rfl) ?_
 intro u13 hB_ hbt_
 clear hB
 replace hB:Bl (bare w) [⟨g,sg c2 x3 qA (.slice sa nd sc) vA B.c y qB dB vB,43⟩,⟨w.heap.size,fl [[.int .u32 n],[.int .u32 m],bw (bdy t),[.bool false]],53⟩,⟨g7,cg A.c x,26⟩,⟨g8,cg c1 x2,26⟩,⟨g12,cg c2 x3,26⟩] u13:=hB_
 clear hB_
 replace hA:=hide ((unhide hA).bz (unhide hzz_) hbt_)
 replace hD:=hide ((unhide hD).bz (unhide hzz_) hbt_)
 replace hXF:=hide ((unhide hXF).bz (unhide hzz_) hbt_)
 replace hXG:=hide ((unhide hXG).bg (unhide hzz_) hbt_ hbg)
 replace hE:=hide ((unhide hE).bz (unhide hzz_) hbt_)
 replace hH:=hide ((unhide hH).bz (unhide hzz_) hbt_)
 replace hY:=hide ((unhide hY).bz (unhide hzz_) hbt_)
 clear hbt_ hzz_
 simp only [nrm]
 refine wpList_nil ?_
 replace hB:=hide hB
 go_upto_region 13 with fail
 replace hB:=unhide hB
 refine wp_region_lit ?_
 refine lvk (.pointer (some ⟨g,0,none⟩)) ?_
 simp only [nrm]
 refine lvk (.pointer (some ⟨g,0,none⟩)) ?_
 simp only [nrm]
 refine lvk (.pointer (some ⟨g,0,none⟩)) ?_
 simp only [nrm]
 refine lvk (.pointer (some ⟨g,6,none⟩)) ?_
 simp only [nrm]
 refine list_val (.slice sa nd sc) (by kernel_rfl) (exec_csS _ (.tmp 103) rfl (g) 6 (by kernel_rfl) sa nd sc (seg_cell (nS2  _ _ _ _ _ _ _ _ _ _ _ _ _ _ _ _) (hB.get 0 (x:=⟨g,sg c2 x3 qA (.slice sa nd sc) vA B.c y qB dB vB,43⟩) rfl) 6 (v:=.slice sa nd sc) rfl rfl)) ?_
 simp only [nrm]
 refine lvk (.slice a3 n3 e3) ?_
 simp only [nrm]
 refine wpList_step fun K hK=>?_
 rw [if_pos (by kernel_rfl)]
 have hOr:=(unhide hXF).own 1 _ rfl
 dsimp only at hOr
 obtain ⟨a4,e4,h4,hlz⟩:=(unhide hY).lz
 cases h4
 refine app_rowsB ltS (.tmp 104) (.tmp 105) rfl b (Nat.le_trans hb (unhide hXG).size) (.slice sa nd sc) (A.d.map tr1) (by kernel_rfl) hOr a3 _ e3 (l2.map tr1) (by kernel_rfl) hlz (by intro r hr u hu; obtain ⟨z_,-,rfl⟩:=List.mem_map.1 hr; rw [List.mem_singleton.1 hu]; rfl) (by have h1:=unhide hd3; have h2:=unhide hd4; simp only [List.length_map]; omega) ?_
 intro v2 u14 hO2 hgr hsn
 rw [← List.map_append] at hO2
 replace hXF:Hid (Fam b u14 (fam { A with d:=A.d++l2 } B qA v2 vA qB dB vB)):=hide ((unhide hXF).put 1 rfl hO2 hgr (fun q hq=>by rcases hsn with h | h <;> rw [h] at hq <;> first | exact .inl hq | (right; cases hq; exact Nat.le_refl _)))
 replace hA:=hide ((unhide hA).grown hOr hgr)
 replace hD:=hide ((unhide hD).grown hOr hgr)
 replace hE:=hide ((unhide hE).grown hOr hgr)
 replace hH:=hide ((unhide hH).grown hOr hgr)
 replace hXG:Hid (Cgs g b w u14):=⟨(unhide hXG).cg.grown hOr (Nat.le_refl _) hb hgr (.inl rfl),hb⟩
 have hne_:∀ y_ ∈ ([⟨g,sg c2 x3 qA (.slice sa nd sc) vA B.c y qB dB vB,43⟩,⟨w.heap.size,fl [[.int .u32 n],[.int .u32 m],bw (bdy t),[.bool false]],53⟩,⟨g7,cg A.c x,26⟩,⟨g8,cg c1 x2,26⟩,⟨g12,cg c2 x3,26⟩]:List Blk),(Value.slice sa nd sc).ownBlock≠some y_.g:=by
  intro y_ hy_
  simp only [List.mem_cons,List.not_mem_nil,or_false] at hy_
  rcases hy_ with rfl | rfl | rfl | rfl | rfl
  ·exact own_ne_ty hOr (hB.get 0 (x:=⟨g,sg c2 x3 qA (.slice sa nd sc) vA B.c y qB dB vB,43⟩) rfl) (show 43≠9 by decide)
  ·exact own_ne_ty hOr (hB.get 1 (x:=⟨w.heap.size,fl [[.int .u32 n],[.int .u32 m],bw (bdy t),[.bool false]],53⟩) rfl) (show 53≠9 by decide)
  ·exact own_ne_ty hOr (hB.get 2 (x:=⟨g7,cg A.c x,26⟩) rfl) (show 26≠9 by decide)
  ·exact own_ne_ty hOr (hB.get 3 (x:=⟨g8,cg c1 x2,26⟩) rfl) (show 26≠9 by decide)
  ·exact own_ne_ty hOr (hB.get 4 (x:=⟨g12,cg c2 x3,26⟩) rfl) (show 26≠9 by decide)
 replace hB:=Bl.grownN hB hgr hne_
 clear hne_ hY hlz
 obtain ⟨sa2,sc2,rfl,-⟩:=hO2.lz
 obtain ⟨n2,hn2⟩:∃ m,m=((A.d++l2).map tr1).length:=⟨_,rfl⟩
 rw [← hn2] at hXF ⊢
 clear hOr hO2 hgr hsn
 refine hK _ _ ?_
 clear hK K
 simp only [nrm]
 refine lvk (.pointer (some ⟨g,0,none⟩)) ?_
 simp only [nrm]
 refine lvk (.pointer (some ⟨g,6,none⟩)) ?_
 simp only [nrm]
 have hzz_:Hid (u14.heap[g]?=some (.cells (sg c2 x3 qA (.slice sa nd sc) vA B.c y qB dB vB) 43 (0,0))):=hide (hB.get 0 (x:=⟨g,sg c2 x3 qA (.slice sa nd sc) vA B.c y qB dB vB,43⟩) rfl)
 refine list_csS (.tmp 108) (.tmp 106) (g) 6 sa2 n2 sc2 (by kernel_rfl) rfl (by kernel_rfl) (by kernel_rfl) hB 0 rfl NS2 (nS2  _ _ _ _ _ _ _ _ _ _ _ _ _ _ _ _) 6 _ rfl rfl ?_
 intro u15 hB_ hbt_
 clear hB
 replace hB:Bl (bare w) [⟨g,sg c2 x3 qA (.slice sa2 n2 sc2) vA B.c y qB dB vB,43⟩,⟨w.heap.size,fl [[.int .u32 n],[.int .u32 m],bw (bdy t),[.bool false]],53⟩,⟨g7,cg A.c x,26⟩,⟨g8,cg c1 x2,26⟩,⟨g12,cg c2 x3,26⟩] u15:=hB_
 clear hB_
 replace hA:=hide ((unhide hA).bz (unhide hzz_) hbt_)
 replace hD:=hide ((unhide hD).bz (unhide hzz_) hbt_)
 replace hXF:=hide ((unhide hXF).bz (unhide hzz_) hbt_)
 replace hXG:=hide ((unhide hXG).bg (unhide hzz_) hbt_ hbg)
 replace hE:=hide ((unhide hE).bz (unhide hzz_) hbt_)
 replace hH:=hide ((unhide hH).bz (unhide hzz_) hbt_)
 clear hbt_ hzz_
 simp only [nrm]
 refine wpList_nil ?_
 replace hB:=hide hB
 go_upto_region 14 with fail
 replace hB:=unhide hB
 refine wp_region_lit ?_
 (refine wpList_step fun K hK=>?_; replace hK:=hide hK; go_simp; refine unhide hK _ _ ?_; clear hK K)
 refine wpList_nil ?_
 replace hB:=hide hB
 go_wp2_with fail
 replace hB:=unhide hB
 rw [unhide hT]
 exact (⟨rfl,⟨x3,y,qA,(.slice sa2 n2 sc2),vA,qB,dB,vB,hB.get 0 (x:=⟨g,sg c2 x3 qA (.slice sa2 n2 sc2) vA B.c y qB dB vB,43⟩) rfl,unhide hH,unhide hD,unhide hXF,unhide hU,unhide hV⟩,(unhide hXG).cg⟩)
set_option maxHeartbeats 4000000 in
theorem shear_idle1 (b g:Nat) (A B:Sd) (n m rm:Int) (X:List Int) (w:World) (hb:b≤w.heap.size) (hbg:b≤g) (hS:St b w g A B) (hI:Inv A B) (hn:0≤n∧n≤A.c.dl) (hm:0≤m∧m<4294967296) (hX:X.length=105):Calls Try.prog 13 #[.pointer (some ⟨g,8,none⟩),.agg (fl [[.int .u32 n],[.int .u32 m],bw (X),[.bool true]]),.int .i64 rm] w (fun r_ w'=>r_=.returned (.bool true)∧St b w' g A { B with c:=(ak B.c n).1 }∧Cg g b w w'):=by
 obtain ⟨T,hT⟩:∃ T:Ending→World→Prop,T=(fun r_ w'=>r_=.returned (.bool true)∧St b w' g A { B with c:=(ak B.c n).1 }∧Cg g b w w'):=⟨_,rfl⟩
 rw [← hT]
 replace hT:=hide hT
 obtain ⟨c1,hc1⟩:∃ c,c=(ak B.c n).1:=⟨_,rfl⟩
 obtain ⟨hak,hgk⟩:=ak_go (hI) hn
 have hIn:=Inv.acked (hI) hn
 obtain ⟨k1,hk1⟩:∃ k,k=gk B.c n:=⟨_,rfl⟩
 rw [← hk1] at hak hgk
 have hak2:ak B.c n=(c1,(k1:Int),0):=by rw [hc1,hak]
 have hO1:c1.O.length+k1=B.c.O.length:=by rw [hc1,hak]; simp only [List.length_drop]; omega
 clear hk1
 rw [← hc1] at hT hIn
 obtain ⟨x,y,qA,dA,vA,qB,dB,vB,hg,hA,hD,hXF,hU,hV⟩:=hS
 have hn9:0≤n∧n<4294967296:=⟨hn.1,Int.lt_of_le_of_lt hn.2 (hA.i.dl).2⟩
 have hXo:=hXF.old
 have hXg:Cgs g b w w:=⟨Cg.refl g b w,hb⟩
 have hnol:=hD.i.o.len
 have nlt:=hD.i.o.2.max
 have nlc:=hD.i.o.2.cap
 have hXL:=hX
 obtain ⟨A1_,hA1_⟩:∃ S_,S_=fl [[.int .u32 n],[.int .u32 m],bw X,[.bool true]]:=⟨_,rfl⟩
 rw [← hA1_]
 replace hA1_:=hide hA1_
 replace hIn:=hide hIn; replace hc1:=hide hc1; replace hak:=hide hak; replace hak2:=hide hak2; replace hO1:=hide hO1; replace hI:=hide hI; replace hgk:=hide hgk
 go_enter Try.func13,Try.ntmps13
 go_upto_region 1 with fail
 have hB:=((nilb w).add ⟨g,sg A.c x qA dA vA B.c y qB dB vB,43⟩ hg (Nat.zero_le _) (by intro y hy; cases hy)).new A1_ 53
 simp only [List.nil_append,List.cons_append] at hB
 have hg1:=(Gr.refl w).alloc (.cells A1_ 53 (0,0))
 replace hA:=hA.gr hg1
 replace hD:=hD.gr hg1
 replace hXF:=hXF.gr hg1
 have hXG:=hXg.gr hg1
 clear hg hg1 hXg
 generalize hu_:World.alloc _ _=u0
 replace hB:Bl (bare w) [⟨g,sg A.c x qA dA vA B.c y qB dB vB,43⟩,⟨w.heap.size,fl [[.int .u32 n],[.int .u32 m],bw X,[.bool true]],53⟩] u0:=by
  rw [← hu_,unhide hA1_]
  rw [unhide hA1_] at hB
  exact hB
 replace hA:Co b u0 A.c x:=by rw [← hu_]; exact hA
 replace hD:Co b u0 B.c y:=by rw [← hu_]; exact hD
 replace hXF:Fam b u0 (fam A B qA dA vA qB dB vB):=by rw [← hu_]; exact hXF
 replace hXG:Cgs g b w u0:=by rw [← hu_]; exact hXG
 clear hu_
 replace hXF:=hide hXF; replace hA:=hide hA; replace hD:=hide hD; replace hU:=hide hU; replace hV:=hide hV; replace hXG:=hide hXG
 refine wp_region_lit ?_
 refine lvk (.pointer (some ⟨g,8,none⟩)) ?_
 simp only [nrm]
 refine lvk (.pointer (some ⟨g,8,none⟩)) ?_
 simp only [nrm]
 refine lvk (.pointer (some ⟨g,8,none⟩)) ?_
 simp only [nrm]
 refine list_val (.agg (cg B.c y)) (by kernel_rfl) (exec_sr _ 26 (.tmp 16) rfl (g) 8 (by kernel_rfl) (hB.get 0 (x:=⟨g,sg A.c x qA dA vA B.c y qB dB vB,43⟩) rfl) 8 5 (show 8+5≤16 by decide) rfl Try.underlying26 rfl (by kernel_rfl)) ?_
 simp only [nrm]
 have hgl7:=(unhide hXG).size
 refine list_valw (.pointer (some ⟨u0.heap.size,0,none⟩)) (u0.alloc (.cells (cg0) 26 (0,0))) (by kernel_rfl) (by kernel_rfl) ?_
 replace hB:=hB.new (cg0) 26
 simp only [List.nil_append,List.cons_append] at hB
 have hg:=(Gr.refl u0).alloc (.cells (cg0) 26 (0,0))
 replace hA:=hide ((unhide hA).gr hg)
 replace hD:=hide ((unhide hD).gr hg)
 replace hXF:=hide ((unhide hXF).gr hg)
 replace hXG:=hide ((unhide hXG).gr hg)
 clear hg
 generalize World.alloc _ _=u1 at *
 generalize u0.heap.size=g7 at *
 simp only [nrm]
 have hzz_:Hid (u1.heap[g7]?=some (.cells (cg0) 26 (0,0))):=hide (hB.get 2 (x:=⟨g7,cg0,26⟩) rfl)
 refine list_all 26 (.tmp 7) (.tmp 17) (g7) (S2:=[[.int .u32 B.c.nx],[.slice y.ao y.no y.co],[.int .i64 B.c.tn],[.int .u32 B.c.dl],[.slice y.ah y.nh y.ch]]) (by kernel_rfl) rfl (by kernel_rfl) (by kernel_rfl) hB 2 rfl NC (nC  _ _ _ _ _) (nC  _ _ _ _ _) (by kernel_rfl) (oC  rfl rfl rfl rfl rfl) ?_
 intro u2 hB_ hbt_
 clear hB
 replace hB:Bl (bare w) [⟨g,sg A.c x qA dA vA B.c y qB dB vB,43⟩,⟨w.heap.size,fl [[.int .u32 n],[.int .u32 m],bw X,[.bool true]],53⟩,⟨g7,cg B.c y,26⟩] u2:=hB_
 clear hB_
 replace hA:=hide ((unhide hA).bz (unhide hzz_) hbt_)
 replace hD:=hide ((unhide hD).bz (unhide hzz_) hbt_)
 replace hXF:=hide ((unhide hXF).bo (unhide hzz_) hbt_ hXo hgl7)
 replace hXG:=hide ((unhide hXG).bl (unhide hzz_) hbt_ hgl7)
 clear hbt_ hzz_
 simp only [nrm]
 refine wpList_nil ?_
 replace hB:=hide hB
 go_upto_region 2 with fail
 replace hB:=unhide hB
 refine any_start (S:=fun v_=>v_.heap[g]?=some (.cells (sg A.c x qA dA vA B.c y qB dB vB) 43 (0,0))∧v_.heap[w.heap.size]?=some (.cells (fl [[.int .u32 n],[.int .u32 m],bw X,[.bool true]]) 53 (0,0))) (by kernel_rfl) ?_
 replace hA:=hide ((unhide hA).gr ((Gr.refl u2).drew))
 replace hD:=hide ((unhide hD).gr ((Gr.refl u2).drew))
 replace hXF:=hide ((unhide hXF).gr ((Gr.refl u2).drew))
 replace hXG:=hide ((unhide hXG).gr ((Gr.refl u2).drew))
 replace hB:=hB.drew
 generalize World.drew _=u3 at *
 have hB0:=hide hB
 have hsz_:Hid (Sz u3.heap.size u3):=Nat.le_refl _
 have hsW_:=(unhide hXG).size
 simp only [List.size_toArray,List.length_cons,List.length_nil,Array.replicate,List.replicate]
 refine any_tk 0 (.pointer (some ⟨g,8,none⟩)) (tf 15 0) rfl (fun x_ hu=>by kernel_rfl) ⟨(hB.get 0 (x:=⟨g,sg A.c x qA dA vA B.c y qB dB vB,43⟩) rfl),(hB.get 1 (x:=⟨w.heap.size,fl [[.int .u32 n],[.int .u32 m],bw X,[.bool true]],53⟩) rfl)⟩ ?_
 simp only [nrm]
 refine any_tk 1 (.pointer (some ⟨g,8,none⟩)) (tf 15 1) rfl (fun x_ hu=>by kernel_rfl) ⟨(hB.get 0 (x:=⟨g,sg A.c x qA dA vA B.c y qB dB vB,43⟩) rfl),(hB.get 1 (x:=⟨w.heap.size,fl [[.int .u32 n],[.int .u32 m],bw X,[.bool true]],53⟩) rfl)⟩ ?_
 simp only [nrm]
 refine any_tk 2 (.pointer (some ⟨g,8,none⟩)) (tf 15 2) rfl (fun x_ hu=>by kernel_rfl) ⟨(hB.get 0 (x:=⟨g,sg A.c x qA dA vA B.c y qB dB vB,43⟩) rfl),(hB.get 1 (x:=⟨w.heap.size,fl [[.int .u32 n],[.int .u32 m],bw X,[.bool true]],53⟩) rfl)⟩ ?_
 simp only [nrm]
 refine any_tk 3 (.agg (cg B.c y)) (tf 15 3) rfl (fun x_ hu=>exec_sr _ 26 (.tmp 21) rfl (g) 8 (by kernel_rfl) hu.1 8 5 (show 8+5≤16 by decide) rfl Try.underlying26 rfl (by kernel_rfl)) ⟨(hB.get 0 (x:=⟨g,sg A.c x qA dA vA B.c y qB dB vB,43⟩) rfl),(hB.get 1 (x:=⟨w.heap.size,fl [[.int .u32 n],[.int .u32 m],bw X,[.bool true]],53⟩) rfl)⟩ ?_
 simp only [nrm]
 refine any_tk 4 (.pointer (some ⟨w.heap.size,0,none⟩)) (tf 15 4) rfl (fun x_ hu=>by kernel_rfl) ⟨(hB.get 0 (x:=⟨g,sg A.c x qA dA vA B.c y qB dB vB,43⟩) rfl),(hB.get 1 (x:=⟨w.heap.size,fl [[.int .u32 n],[.int .u32 m],bw X,[.bool true]],53⟩) rfl)⟩ ?_
 simp only [nrm]
 refine any_tk 5 (.int .u32 n) (tf 15 5) rfl (fun x_ hu=>exec_c32 _ (.tmp 23) rfl (w.heap.size) 0 (by kernel_rfl) n (seg_cell (nD hXL _ _ _) hu.2 0 (v:=.int .u32 n) rfl rfl)) ⟨(hB.get 0 (x:=⟨g,sg A.c x qA dA vA B.c y qB dB vB,43⟩) rfl),(hB.get 1 (x:=⟨w.heap.size,fl [[.int .u32 n],[.int .u32 m],bw X,[.bool true]],53⟩) rfl)⟩ ?_
 simp only [nrm]
 refine float_first (fun q u=>NKf u3.heap.size (cg0) 26 u q) 8 (fun b_=>#[true,true,true,true,true,true,false,false,false,false,false,b_,false,false,false]) 11 6 false rfl rfl (fun v_ g_=>⟨g_.blk (hB.get 0 (x:=⟨g,sg A.c x qA dA vA B.c y qB dB vB,43⟩) rfl),g_.blk (hB.get 1 (x:=⟨w.heap.size,fl [[.int .u32 n],[.int .u32 m],bw X,[.bool true]],53⟩) rfl)⟩) (by kernel_rfl) (fun b_=>by cases b_ <;> rfl) ?_ ?_
 all_goals simp only [fw1,Act.put,List.setIfInBounds_toArray,List.set_cons_zero,List.set_cons_succ,List.getElem_toArray,List.getElem_cons_zero,List.getElem_cons_succ]
 ·intro q_ x_ hgx K hK
  refine wpOp_step (o:=_) rfl (fun K' hK'=>?_)
  replace hK':=hide hK'
  replace hK:=hide hK
  refine step_val (.pointer (some ⟨x_.heap.size,0,none⟩)) (x_.alloc (.cells (cg0) 26 (0,0))) (by kernel_rfl) (by kernel_rfl) ?_
  exact unhide hK' _ _ (unhide hK _ _ ((Gr.refl _).alloc _) (⟨_,rfl,Nat.le_trans (unhide hsz_) hgx.size,blk_new _ _⟩))
 intro b1_6 q1_6 x1_6 hg hTq hall
 replace hA:=hide ((unhide hA).gr hg)
 replace hD:=hide ((unhide hD).gr hg)
 replace hXF:=hide ((unhide hXF).gr hg)
 replace hXG:=hide ((unhide hXG).gr hg)
 replace hsz_:=hide ((unhide hsz_).gr hg)
 replace hB:=hB.more hg
 clear hg
 clear hall
 refine wpOp_step (o:=_) rfl (fun K hK=>?_)
 replace hK:=hide hK
 refine step_callw (by kernel_rfl) 21 #[.agg (cg B.c y),.int .u32 n] (by kernel_rfl) ((((show Calls Try.prog 21 #[.agg (cg B.c y),.int .u32 n] x1_6 (Rc c1 [.int .i64 (k1:Int),.int .i64 0] x1_6) from by have h:=packed_ok B.c y n hn9 x1_6 (unhide hD).i; rw [unhide hak2] at h; exact h).mono fun _ _ h=>rcb_of h (Nat.le_trans hb (unhide hXG).size))).mono ?_)
 rintro r u4 ⟨x2,rfl,hE,hg⟩
 refine ⟨_,rfl,?_⟩
 replace hTq:=fun e=>NKf.gr (hTq e) hg
 replace hsz_:=hide ((unhide hsz_).gr hg)
 replace hA:=hide ((unhide hA).gr hg)
 replace hD:=hide ((unhide hD).gr hg)
 replace hXF:=hide ((unhide hXF).gr hg)
 replace hXG:=hide ((unhide hXG).gr hg)
 replace hB:=hB.more hg
 clear hg
 replace hE:=hide hE
 refine unhide hK _ _ ⟨⟨(hB.get 0 (x:=⟨g,sg A.c x qA dA vA B.c y qB dB vB,43⟩) rfl),(hB.get 1 (x:=⟨w.heap.size,fl [[.int .u32 n],[.int .u32 m],bw X,[.bool true]],53⟩) rfl)⟩,?_⟩
 clear hK K
 simp only [nrm]
 refine any_tk 7 (.tuple #[.agg (cg c1 x2),.int .i64 (k1:Int),.int .i64 0]) (tf 15 7) rfl (fun x_ hu=>by kernel_rfl) ⟨(hB.get 0 (x:=⟨g,sg A.c x qA dA vA B.c y qB dB vB,43⟩) rfl),(hB.get 1 (x:=⟨w.heap.size,fl [[.int .u32 n],[.int .u32 m],bw X,[.bool true]],53⟩) rfl)⟩ ?_
 simp only [nrm]
 refine any_tk 8 (.agg (cg c1 x2)) (tf 15 8) rfl (fun x_ hu=>by kernel_rfl) ⟨(hB.get 0 (x:=⟨g,sg A.c x qA dA vA B.c y qB dB vB,43⟩) rfl),(hB.get 1 (x:=⟨w.heap.size,fl [[.int .u32 n],[.int .u32 m],bw X,[.bool true]],53⟩) rfl)⟩ ?_
 simp only [nrm]
 refine any_tk 9 (.int .i64 (k1:Int)) (tf 15 9) rfl (fun x_ hu=>by kernel_rfl) ⟨(hB.get 0 (x:=⟨g,sg A.c x qA dA vA B.c y qB dB vB,43⟩) rfl),(hB.get 1 (x:=⟨w.heap.size,fl [[.int .u32 n],[.int .u32 m],bw X,[.bool true]],53⟩) rfl)⟩ ?_
 simp only [nrm]
 refine any_tk 10 (.int .i64 0) (tf 15 10) rfl (fun x_ hu=>by kernel_rfl) ⟨(hB.get 0 (x:=⟨g,sg A.c x qA dA vA B.c y qB dB vB,43⟩) rfl),(hB.get 1 (x:=⟨w.heap.size,fl [[.int .u32 n],[.int .u32 m],bw X,[.bool true]],53⟩) rfl)⟩ ?_
 simp only [nrm]
 refine float_again (fun q u=>NKf u3.heap.size (cg0) 26 u q) 8 (fun b_=>#[true,true,true,true,true,true,true,true,true,true,true,b_,false,false,false]) 11 12 true (b:=b1_6) (q:=q1_6) rfl rfl hTq (fun v_ g_=>⟨g_.blk (hB.get 0 (x:=⟨g,sg A.c x qA dA vA B.c y qB dB vB,43⟩) rfl),g_.blk (hB.get 1 (x:=⟨w.heap.size,fl [[.int .u32 n],[.int .u32 m],bw X,[.bool true]],53⟩) rfl)⟩) (by kernel_rfl) (fun b_=>by cases b_ <;> rfl) ?_ ?_
 all_goals simp only [fw1,Act.put,List.setIfInBounds_toArray,List.set_cons_zero,List.set_cons_succ,List.getElem_toArray,List.getElem_cons_zero,List.getElem_cons_succ]
 ·intro q_ x_ hgx K hK
  refine wpOp_step (o:=_) rfl (fun K' hK'=>?_)
  replace hK':=hide hK'
  replace hK:=hide hK
  refine step_val (.pointer (some ⟨x_.heap.size,0,none⟩)) (x_.alloc (.cells (cg0) 26 (0,0))) (by kernel_rfl) (by kernel_rfl) ?_
  exact unhide hK' _ _ (unhide hK _ _ ((Gr.refl _).alloc _) (⟨_,rfl,Nat.le_trans (unhide hsz_) hgx.size,blk_new _ _⟩))
 clear hTq
 intro b1_12 q1_12 x1_12 hg hTq hall
 replace hsz_:=hide ((unhide hsz_).gr hg)
 replace hA:=hide ((unhide hA).gr hg)
 replace hD:=hide ((unhide hD).gr hg)
 replace hXF:=hide ((unhide hXF).gr hg)
 replace hXG:=hide ((unhide hXG).gr hg)
 replace hE:=hide ((unhide hE).gr hg)
 replace hB:=hB.more hg
 clear hg
 obtain rfl:b1_12=true:=hall (by trivial)
 replace hTq:=hTq rfl
 clear hall
 obtain ⟨g8,rfl,hge_,hnew_⟩:=hTq
 have hgl8:=Nat.le_trans hsW_ hge_
 replace hB:=Bl.joinz (unhide hB0) hB hge_ hnew_
 simp only [List.cons_append,List.nil_append] at hB
 clear hB0 hge_ hnew_ hsW_
 refine wpOp_step (o:=_) rfl (fun K hK=>?_)
 replace hK:=hide hK
 have hzz_:Hid (x1_12.heap[g8]?=some (.cells (cg0) 26 (0,0))):=hide (hB.get 3 (x:=⟨g8,cg0,26⟩) rfl)
 refine step_all 26 (.tmp 8) (.tmp 26) (g8) (S2:=[[.int .u32 c1.nx],[.slice x2.ao x2.no x2.co],[.int .i64 c1.tn],[.int .u32 c1.dl],[.slice x2.ah x2.nh x2.ch]]) (by kernel_rfl) rfl (by kernel_rfl) (by kernel_rfl) hB 3 rfl NC (nC  _ _ _ _ _) (nC  _ _ _ _ _) (by kernel_rfl) (oC  rfl rfl rfl rfl rfl) ?_
 intro u5 hB_ hbt_
 clear hB
 replace hB:Bl (bare w) [⟨g,sg A.c x qA dA vA B.c y qB dB vB,43⟩,⟨w.heap.size,fl [[.int .u32 n],[.int .u32 m],bw X,[.bool true]],53⟩,⟨g7,cg B.c y,26⟩,⟨g8,cg c1 x2,26⟩] u5:=hB_
 clear hB_
 replace hA:=hide ((unhide hA).bz (unhide hzz_) hbt_)
 replace hD:=hide ((unhide hD).bz (unhide hzz_) hbt_)
 replace hXF:=hide ((unhide hXF).bo (unhide hzz_) hbt_ hXo hgl8)
 replace hXG:=hide ((unhide hXG).bl (unhide hzz_) hbt_ hgl8)
 replace hE:=hide ((unhide hE).bz (unhide hzz_) hbt_)
 clear hbt_ hzz_
 refine unhide hK _ _ ⟨⟨(hB.get 0 (x:=⟨g,sg A.c x qA dA vA B.c y qB dB vB,43⟩) rfl),(hB.get 1 (x:=⟨w.heap.size,fl [[.int .u32 n],[.int .u32 m],bw X,[.bool true]],53⟩) rfl)⟩,?_⟩
 clear hK K
 simp only [nrm]
 refine any_one (i:=13) (by kernel_rfl) rfl (fun K hK=>?_)
 replace hK:=hide hK
 go_simp
 refine (unhide hK).out _ _ ⟨(hB.get 0 (x:=⟨g,sg A.c x qA dA vA B.c y qB dB vB,43⟩) rfl),(hB.get 1 (x:=⟨w.heap.size,fl [[.int .u32 n],[.int .u32 m],bw X,[.bool true]],53⟩) rfl)⟩ (fun _=>?_)
 clear hK K
 refine any_one (i:=14) (by kernel_rfl) rfl (fun K hK=>?_)
 replace hK:=hide hK
 go_simp
 refine (unhide hK).out _ _ ⟨(hB.get 0 (x:=⟨g,sg A.c x qA dA vA B.c y qB dB vB,43⟩) rfl),(hB.get 1 (x:=⟨w.heap.size,fl [[.int .u32 n],[.int .u32 m],bw X,[.bool true]],53⟩) rfl)⟩ (fun _=>?_)
 clear hK K
 refine any_done (by kernel_rfl) ?_
 clear hsz_
 replace hB:=hide hB
 go_upto_region 3 with fail
 replace hB:=unhide hB
 refine wp_region_lit ?_
 refine wpList_gen fun ops_ hops=>?_
 replace hops:=hide hops
 refine list_val (.int .i64 0) (by rw [unhide hops]; kernel_rfl) (by kernel_rfl) ?_
 simp only [nrm]
 refine list_val (.bool false) (by rw [unhide hops]; kernel_rfl) (neq_e _ (.tmp 29) (.const (.int .i64 0)) 0 0 false rfl (by kernel_rfl) (by kernel_rfl) (by decide)) ?_
 simp only [nrm]
 refine list_val (.bool false) (by rw [unhide hops]; kernel_rfl) (by kernel_rfl) ?_
 simp only [nrm]
 refine list_val (.int .i64 (k1:Int)) (by rw [unhide hops]; kernel_rfl) (by kernel_rfl) ?_
 simp only [nrm]
 refine list_val (.pointer (some ⟨g7,1,none⟩)) (by rw [unhide hops]; kernel_rfl) (by kernel_rfl) ?_
 simp only [nrm]
 refine list_val (.slice y.ao y.no y.co) (by rw [unhide hops]; kernel_rfl) (exec_csO _ (.tmp 33) rfl (g7) 1 (by kernel_rfl) y.ao y.no y.co (seg_cell (nC  _ _ _ _ _) (hB.get 2 (x:=⟨g7,cg B.c y,26⟩) rfl) 1 (v:=.slice y.ao y.no y.co) rfl rfl)) ?_
 simp only [nrm]
 refine list_val (.int .i64 y.no) (by rw [unhide hops]; kernel_rfl) (by kernel_rfl) ?_
 simp only [nrm]
 refine list_val (.pointer (some ⟨g8,1,none⟩)) (by rw [unhide hops]; kernel_rfl) (by kernel_rfl) ?_
 simp only [nrm]
 refine list_val (.slice x2.ao x2.no x2.co) (by rw [unhide hops]; kernel_rfl) (exec_csO _ (.tmp 36) rfl (g8) 1 (by kernel_rfl) x2.ao x2.no x2.co (seg_cell (nC  _ _ _ _ _) (hB.get 3 (x:=⟨g8,cg c1 x2,26⟩) rfl) 1 (v:=.slice x2.ao x2.no x2.co) rfl rfl)) ?_
 simp only [nrm]
 refine list_val (.int .i64 x2.no) (by rw [unhide hops]; kernel_rfl) (by kernel_rfl) ?_
 simp only [nrm]
 refine list_val (.int .i64 (k1:Int)) (by rw [unhide hops]; kernel_rfl) (sub_i _ (.tmp 35) (.tmp 38) ((y.no:Nat):Int) ((x2.no:Nat):Int) rfl (by kernel_rfl) (by kernel_rfl) (k1:Int) (by have h1:=unhide hO1; have h2:=hnol; have h3:=(unhide hE).i.o.len; omega) (by have h1:=unhide hgk; have h2:=unhide hO1; have h3:=nlt; have h4:=nlc; omega)) ?_
 simp only [nrm]
 refine list_val (.bool false) (by rw [unhide hops]; kernel_rfl) (neq_i _ (.tmp 32) (.tmp 39) (k1:Int) (k1:Int) false rfl (by kernel_rfl) (by kernel_rfl) (by simp)) ?_
 simp only [nrm]
 refine list_val (.bool false) (by rw [unhide hops]; kernel_rfl) (by kernel_rfl) ?_
 simp only [nrm]
 refine wpList_nil ?_
 replace hB:=hide hB
 go_upto_region 5 with fail
 replace hB:=unhide hB
 refine wp_region_lit ?_
 refine lvk (.pointer (some ⟨g,8,none⟩)) ?_
 simp only [nrm]
 refine list_val (.agg (cg c1 x2)) (by kernel_rfl) (exec_sw _ 26 (.tmp 8) rfl (g8) (by kernel_rfl) (hB.get 3 (x:=⟨g8,cg c1 x2,26⟩) rfl) NC (nC  _ _ _ _ _) Try.underlying26 rfl (by kernel_rfl)) ?_
 simp only [nrm]
 refine lvk (.pointer (some ⟨g,8,none⟩)) ?_
 simp only [nrm]
 refine lvk (.pointer (some ⟨g,8,none⟩)) ?_
 simp only [nrm]
 have hzz_:Hid (u5.heap[g]?=some (.cells (sg A.c x qA dA vA B.c y qB dB vB) 43 (0,0))):=hide (hB.get 0 (x:=⟨g,sg A.c x qA dA vA B.c y qB dB vB,43⟩) rfl)
 refine list_sr 26 (.tmp 45) (.tmp 43) (g) 8 [[.int .u32 c1.nx],[.slice x2.ao x2.no x2.co],[.int .i64 c1.tn],[.int .u32 c1.dl],[.slice x2.ah x2.nh x2.ch]] (by kernel_rfl) rfl (by kernel_rfl) (by kernel_rfl) hB 0 rfl 8 5 (show 8+5≤16 by decide) rfl rfl rfl (by kernel_rfl) (oC rfl rfl rfl rfl rfl) ?_
 intro u6 hB_ hbt_
 clear hB
 replace hB:Bl (bare w) [⟨g,sg A.c x qA dA vA c1 x2 qB dB vB,43⟩,⟨w.heap.size,fl [[.int .u32 n],[.int .u32 m],bw X,[.bool true]],53⟩,⟨g7,cg B.c y,26⟩,⟨g8,cg c1 x2,26⟩] u6:=hB_
 clear hB_
 replace hA:=hide ((unhide hA).bz (unhide hzz_) hbt_)
 replace hD:=hide ((unhide hD).bz (unhide hzz_) hbt_)
 replace hXF:=hide ((unhide hXF).bz (unhide hzz_) hbt_)
 replace hXG:=hide ((unhide hXG).bg (unhide hzz_) hbt_ hbg)
 replace hE:=hide ((unhide hE).bz (unhide hzz_) hbt_)
 clear hbt_ hzz_
 simp only [nrm]
 refine wpList_nil ?_
 replace hB:=hide hB
 go_upto_region 6 with fail
 replace hB:=unhide hB
 refine any_start (S:=fun v_=>v_.heap[w.heap.size]?=some (.cells (fl [[.int .u32 n],[.int .u32 m],bw X,[.bool true]]) 53 (0,0))) (by kernel_rfl) ?_
 replace hA:=hide ((unhide hA).gr ((Gr.refl u6).drew))
 replace hD:=hide ((unhide hD).gr ((Gr.refl u6).drew))
 replace hXF:=hide ((unhide hXF).gr ((Gr.refl u6).drew))
 replace hXG:=hide ((unhide hXG).gr ((Gr.refl u6).drew))
 replace hE:=hide ((unhide hE).gr ((Gr.refl u6).drew))
 replace hB:=hB.drew
 generalize World.drew _=u7 at *
 simp only [List.size_toArray,List.length_cons,List.length_nil,Array.replicate,List.replicate]
 have hS_:=hide (show (fun v_=>v_.heap[w.heap.size]?=some (.cells (fl [[.int .u32 n],[.int .u32 m],bw X,[.bool true]]) 53 (0,0))) u7 from (hB.get 1 (x:=⟨w.heap.size,fl [[.int .u32 n],[.int .u32 m],bw X,[.bool true]],53⟩) rfl))
 refine any_tk 0 (.pointer (some ⟨w.heap.size,107,none⟩)) (tf 13 0) rfl (fun x_ hu=>by kernel_rfl) (unhide hS_) ?_
 simp only [nrm]
 refine any_tk 1 (.bool true) (tf 13 1) rfl (fun x_ hu=>exec_cb _ (.tmp 46) rfl (w.heap.size) 107 (by kernel_rfl) true (seg_cell (nD hXL _ _ _) hu 3 (v:=.bool true) rfl rfl)) (unhide hS_) ?_
 simp only [nrm]
 refine any_tk 2 (.bool true) (tf 13 2) rfl (fun x_ hu=>by kernel_rfl) (unhide hS_) ?_
 simp only [nrm]
 refine any_to 3 (tf 13 3) rfl (unhide hS_) ?_
 simp only [nrm]
 refine any_to 4 (tf 13 4) rfl (unhide hS_) ?_
 simp only [nrm]
 refine any_to 5 (tf 13 5) rfl (unhide hS_) ?_
 simp only [nrm]
 refine any_to 6 (tf 13 6) rfl (unhide hS_) ?_
 simp only [nrm]
 refine any_to 7 (tf 13 7) rfl (unhide hS_) ?_
 simp only [nrm]
 refine any_to 8 (tf 13 8) rfl (unhide hS_) ?_
 simp only [nrm]
 refine any_to 9 (tf 13 9) rfl (unhide hS_) ?_
 simp only [nrm]
 refine any_to 10 (tf 13 10) rfl (unhide hS_) ?_
 simp only [nrm]
 refine any_to 11 (tf 13 11) rfl (unhide hS_) ?_
 simp only [nrm]
 refine any_tk 12 (.bool true) (tf 13 12) rfl (fun x_ hu=>by kernel_rfl) (unhide hS_) ?_
 simp only [nrm]
 refine any_done (by kernel_rfl) ?_
 clear hS_
 replace hB:=hide hB
 go_upto_region 7 with fail
 replace hB:=unhide hB
 refine wp_region_lit ?_
 (refine wpList_step fun K hK=>?_; replace hK:=hide hK; go_simp; refine unhide hK _ _ ?_; clear hK K)
 refine wpList_nil ?_
 replace hB:=hide hB
 go_wp2_with fail
 replace hB:=unhide hB
 rw [unhide hT]
 exact (⟨rfl,⟨x,x2,qA,dA,vA,qB,dB,vB,hB.get 0 (x:=⟨g,sg A.c x qA dA vA c1 x2 qB dB vB,43⟩) rfl,unhide hA,unhide hE,unhide hXF,unhide hU,unhide hV⟩,(unhide hXG).cg⟩)
set_option maxHeartbeats 4000000 in
theorem shear_unw1 (b g:Nat) (A B:Sd) (n m rm:Int) (X:List Int) (w:World) (hb:b≤w.heap.size) (hbg:b≤g) (hS:St b w g A B) (hI:Inv A B) (hn:0≤n∧n≤A.c.dl) (hm:0≤m∧m<4294967296) (hX:X.length=105) (hwt:wt (ak B.c n).1 m rm=false):Calls Try.prog 13 #[.pointer (some ⟨g,8,none⟩),.agg (fl [[.int .u32 n],[.int .u32 m],bw (X),[.bool false]]),.int .i64 rm] w (fun r_ w'=>r_=.returned (.bool true)∧St b w' g A { B with c:=(ak B.c n).1 }∧Cg g b w w'):=by
 obtain ⟨T,hT⟩:∃ T:Ending→World→Prop,T=(fun r_ w'=>r_=.returned (.bool true)∧St b w' g A { B with c:=(ak B.c n).1 }∧Cg g b w w'):=⟨_,rfl⟩
 rw [← hT]
 replace hT:=hide hT
 obtain ⟨c1,hc1⟩:∃ c,c=(ak B.c n).1:=⟨_,rfl⟩
 obtain ⟨hak,hgk⟩:=ak_go (hI) hn
 have hIn:=Inv.acked (hI) hn
 obtain ⟨k1,hk1⟩:∃ k,k=gk B.c n:=⟨_,rfl⟩
 rw [← hk1] at hak hgk
 have hak2:ak B.c n=(c1,(k1:Int),0):=by rw [hc1,hak]
 have hO1:c1.O.length+k1=B.c.O.length:=by rw [hc1,hak]; simp only [List.length_drop]; omega
 clear hk1
 rw [← hc1] at hT hwt hIn
 obtain ⟨x,y,qA,dA,vA,qB,dB,vB,hg,hA,hD,hXF,hU,hV⟩:=hS
 have hn9:0≤n∧n<4294967296:=⟨hn.1,Int.lt_of_le_of_lt hn.2 (hA.i.dl).2⟩
 have hXo:=hXF.old
 have hXg:Cgs g b w w:=⟨Cg.refl g b w,hb⟩
 have hnol:=hD.i.o.len
 have nlt:=hD.i.o.2.max
 have nlc:=hD.i.o.2.cap
 have hXL:=hX
 obtain ⟨A1_,hA1_⟩:∃ S_,S_=fl [[.int .u32 n],[.int .u32 m],bw X,[.bool false]]:=⟨_,rfl⟩
 rw [← hA1_]
 replace hA1_:=hide hA1_
 replace hIn:=hide hIn; replace hc1:=hide hc1; replace hak:=hide hak; replace hak2:=hide hak2; replace hO1:=hide hO1; replace hI:=hide hI; replace hgk:=hide hgk
 go_enter Try.func13,Try.ntmps13
 go_upto_region 1 with fail
 have hB:=((nilb w).add ⟨g,sg A.c x qA dA vA B.c y qB dB vB,43⟩ hg (Nat.zero_le _) (by intro y hy; cases hy)).new A1_ 53
 simp only [List.nil_append,List.cons_append] at hB
 have hg1:=(Gr.refl w).alloc (.cells A1_ 53 (0,0))
 replace hA:=hA.gr hg1
 replace hD:=hD.gr hg1
 replace hXF:=hXF.gr hg1
 have hXG:=hXg.gr hg1
 clear hg hg1 hXg
 generalize hu_:World.alloc _ _=u0
 replace hB:Bl (bare w) [⟨g,sg A.c x qA dA vA B.c y qB dB vB,43⟩,⟨w.heap.size,fl [[.int .u32 n],[.int .u32 m],bw X,[.bool false]],53⟩] u0:=by
  rw [← hu_,unhide hA1_]
  rw [unhide hA1_] at hB
  exact hB
 replace hA:Co b u0 A.c x:=by rw [← hu_]; exact hA
 replace hD:Co b u0 B.c y:=by rw [← hu_]; exact hD
 replace hXF:Fam b u0 (fam A B qA dA vA qB dB vB):=by rw [← hu_]; exact hXF
 replace hXG:Cgs g b w u0:=by rw [← hu_]; exact hXG
 clear hu_
 replace hXF:=hide hXF; replace hA:=hide hA; replace hD:=hide hD; replace hU:=hide hU; replace hV:=hide hV; replace hXG:=hide hXG
 refine wp_region_lit ?_
 refine lvk (.pointer (some ⟨g,8,none⟩)) ?_
 simp only [nrm]
 refine lvk (.pointer (some ⟨g,8,none⟩)) ?_
 simp only [nrm]
 refine lvk (.pointer (some ⟨g,8,none⟩)) ?_
 simp only [nrm]
 refine list_val (.agg (cg B.c y)) (by kernel_rfl) (exec_sr _ 26 (.tmp 16) rfl (g) 8 (by kernel_rfl) (hB.get 0 (x:=⟨g,sg A.c x qA dA vA B.c y qB dB vB,43⟩) rfl) 8 5 (show 8+5≤16 by decide) rfl Try.underlying26 rfl (by kernel_rfl)) ?_
 simp only [nrm]
 have hgl7:=(unhide hXG).size
 refine list_valw (.pointer (some ⟨u0.heap.size,0,none⟩)) (u0.alloc (.cells (cg0) 26 (0,0))) (by kernel_rfl) (by kernel_rfl) ?_
 replace hB:=hB.new (cg0) 26
 simp only [List.nil_append,List.cons_append] at hB
 have hg:=(Gr.refl u0).alloc (.cells (cg0) 26 (0,0))
 replace hA:=hide ((unhide hA).gr hg)
 replace hD:=hide ((unhide hD).gr hg)
 replace hXF:=hide ((unhide hXF).gr hg)
 replace hXG:=hide ((unhide hXG).gr hg)
 clear hg
 generalize World.alloc _ _=u1 at *
 generalize u0.heap.size=g7 at *
 simp only [nrm]
 have hzz_:Hid (u1.heap[g7]?=some (.cells (cg0) 26 (0,0))):=hide (hB.get 2 (x:=⟨g7,cg0,26⟩) rfl)
 refine list_all 26 (.tmp 7) (.tmp 17) (g7) (S2:=[[.int .u32 B.c.nx],[.slice y.ao y.no y.co],[.int .i64 B.c.tn],[.int .u32 B.c.dl],[.slice y.ah y.nh y.ch]]) (by kernel_rfl) rfl (by kernel_rfl) (by kernel_rfl) hB 2 rfl NC (nC  _ _ _ _ _) (nC  _ _ _ _ _) (by kernel_rfl) (oC  rfl rfl rfl rfl rfl) ?_
 intro u2 hB_ hbt_
 clear hB
 replace hB:Bl (bare w) [⟨g,sg A.c x qA dA vA B.c y qB dB vB,43⟩,⟨w.heap.size,fl [[.int .u32 n],[.int .u32 m],bw X,[.bool false]],53⟩,⟨g7,cg B.c y,26⟩] u2:=hB_
 clear hB_
 replace hA:=hide ((unhide hA).bz (unhide hzz_) hbt_)
 replace hD:=hide ((unhide hD).bz (unhide hzz_) hbt_)
 replace hXF:=hide ((unhide hXF).bo (unhide hzz_) hbt_ hXo hgl7)
 replace hXG:=hide ((unhide hXG).bl (unhide hzz_) hbt_ hgl7)
 clear hbt_ hzz_
 simp only [nrm]
 refine wpList_nil ?_
 replace hB:=hide hB
 go_upto_region 2 with fail
 replace hB:=unhide hB
 refine any_start (S:=fun v_=>v_.heap[g]?=some (.cells (sg A.c x qA dA vA B.c y qB dB vB) 43 (0,0))∧v_.heap[w.heap.size]?=some (.cells (fl [[.int .u32 n],[.int .u32 m],bw X,[.bool false]]) 53 (0,0))) (by kernel_rfl) ?_
 replace hA:=hide ((unhide hA).gr ((Gr.refl u2).drew))
 replace hD:=hide ((unhide hD).gr ((Gr.refl u2).drew))
 replace hXF:=hide ((unhide hXF).gr ((Gr.refl u2).drew))
 replace hXG:=hide ((unhide hXG).gr ((Gr.refl u2).drew))
 replace hB:=hB.drew
 generalize World.drew _=u3 at *
 have hB0:=hide hB
 have hsz_:Hid (Sz u3.heap.size u3):=Nat.le_refl _
 have hsW_:=(unhide hXG).size
 simp only [List.size_toArray,List.length_cons,List.length_nil,Array.replicate,List.replicate]
 refine any_tk 0 (.pointer (some ⟨g,8,none⟩)) (tf 15 0) rfl (fun x_ hu=>by kernel_rfl) ⟨(hB.get 0 (x:=⟨g,sg A.c x qA dA vA B.c y qB dB vB,43⟩) rfl),(hB.get 1 (x:=⟨w.heap.size,fl [[.int .u32 n],[.int .u32 m],bw X,[.bool false]],53⟩) rfl)⟩ ?_
 simp only [nrm]
 refine any_tk 1 (.pointer (some ⟨g,8,none⟩)) (tf 15 1) rfl (fun x_ hu=>by kernel_rfl) ⟨(hB.get 0 (x:=⟨g,sg A.c x qA dA vA B.c y qB dB vB,43⟩) rfl),(hB.get 1 (x:=⟨w.heap.size,fl [[.int .u32 n],[.int .u32 m],bw X,[.bool false]],53⟩) rfl)⟩ ?_
 simp only [nrm]
 refine any_tk 2 (.pointer (some ⟨g,8,none⟩)) (tf 15 2) rfl (fun x_ hu=>by kernel_rfl) ⟨(hB.get 0 (x:=⟨g,sg A.c x qA dA vA B.c y qB dB vB,43⟩) rfl),(hB.get 1 (x:=⟨w.heap.size,fl [[.int .u32 n],[.int .u32 m],bw X,[.bool false]],53⟩) rfl)⟩ ?_
 simp only [nrm]
 refine any_tk 3 (.agg (cg B.c y)) (tf 15 3) rfl (fun x_ hu=>exec_sr _ 26 (.tmp 21) rfl (g) 8 (by kernel_rfl) hu.1 8 5 (show 8+5≤16 by decide) rfl Try.underlying26 rfl (by kernel_rfl)) ⟨(hB.get 0 (x:=⟨g,sg A.c x qA dA vA B.c y qB dB vB,43⟩) rfl),(hB.get 1 (x:=⟨w.heap.size,fl [[.int .u32 n],[.int .u32 m],bw X,[.bool false]],53⟩) rfl)⟩ ?_
 simp only [nrm]
 refine any_tk 4 (.pointer (some ⟨w.heap.size,0,none⟩)) (tf 15 4) rfl (fun x_ hu=>by kernel_rfl) ⟨(hB.get 0 (x:=⟨g,sg A.c x qA dA vA B.c y qB dB vB,43⟩) rfl),(hB.get 1 (x:=⟨w.heap.size,fl [[.int .u32 n],[.int .u32 m],bw X,[.bool false]],53⟩) rfl)⟩ ?_
 simp only [nrm]
 refine any_tk 5 (.int .u32 n) (tf 15 5) rfl (fun x_ hu=>exec_c32 _ (.tmp 23) rfl (w.heap.size) 0 (by kernel_rfl) n (seg_cell (nD hXL _ _ _) hu.2 0 (v:=.int .u32 n) rfl rfl)) ⟨(hB.get 0 (x:=⟨g,sg A.c x qA dA vA B.c y qB dB vB,43⟩) rfl),(hB.get 1 (x:=⟨w.heap.size,fl [[.int .u32 n],[.int .u32 m],bw X,[.bool false]],53⟩) rfl)⟩ ?_
 simp only [nrm]
 refine float_first (fun q u=>NKf u3.heap.size (cg0) 26 u q) 8 (fun b_=>#[true,true,true,true,true,true,false,false,false,false,false,b_,false,false,false]) 11 6 false rfl rfl (fun v_ g_=>⟨g_.blk (hB.get 0 (x:=⟨g,sg A.c x qA dA vA B.c y qB dB vB,43⟩) rfl),g_.blk (hB.get 1 (x:=⟨w.heap.size,fl [[.int .u32 n],[.int .u32 m],bw X,[.bool false]],53⟩) rfl)⟩) (by kernel_rfl) (fun b_=>by cases b_ <;> rfl) ?_ ?_
 all_goals simp only [fw1,Act.put,List.setIfInBounds_toArray,List.set_cons_zero,List.set_cons_succ,List.getElem_toArray,List.getElem_cons_zero,List.getElem_cons_succ]
 ·intro q_ x_ hgx K hK
  refine wpOp_step (o:=_) rfl (fun K' hK'=>?_)
  replace hK':=hide hK'
  replace hK:=hide hK
  refine step_val (.pointer (some ⟨x_.heap.size,0,none⟩)) (x_.alloc (.cells (cg0) 26 (0,0))) (by kernel_rfl) (by kernel_rfl) ?_
  exact unhide hK' _ _ (unhide hK _ _ ((Gr.refl _).alloc _) (⟨_,rfl,Nat.le_trans (unhide hsz_) hgx.size,blk_new _ _⟩))
 intro b1_6 q1_6 x1_6 hg hTq hall
 replace hA:=hide ((unhide hA).gr hg)
 replace hD:=hide ((unhide hD).gr hg)
 replace hXF:=hide ((unhide hXF).gr hg)
 replace hXG:=hide ((unhide hXG).gr hg)
 replace hsz_:=hide ((unhide hsz_).gr hg)
 replace hB:=hB.more hg
 clear hg
 clear hall
 refine wpOp_step (o:=_) rfl (fun K hK=>?_)
 replace hK:=hide hK
 refine step_callw (by kernel_rfl) 21 #[.agg (cg B.c y),.int .u32 n] (by kernel_rfl) ((((show Calls Try.prog 21 #[.agg (cg B.c y),.int .u32 n] x1_6 (Rc c1 [.int .i64 (k1:Int),.int .i64 0] x1_6) from by have h:=packed_ok B.c y n hn9 x1_6 (unhide hD).i; rw [unhide hak2] at h; exact h).mono fun _ _ h=>rcb_of h (Nat.le_trans hb (unhide hXG).size))).mono ?_)
 rintro r u4 ⟨x2,rfl,hE,hg⟩
 refine ⟨_,rfl,?_⟩
 replace hTq:=fun e=>NKf.gr (hTq e) hg
 replace hsz_:=hide ((unhide hsz_).gr hg)
 replace hA:=hide ((unhide hA).gr hg)
 replace hD:=hide ((unhide hD).gr hg)
 replace hXF:=hide ((unhide hXF).gr hg)
 replace hXG:=hide ((unhide hXG).gr hg)
 replace hB:=hB.more hg
 clear hg
 replace hE:=hide hE
 refine unhide hK _ _ ⟨⟨(hB.get 0 (x:=⟨g,sg A.c x qA dA vA B.c y qB dB vB,43⟩) rfl),(hB.get 1 (x:=⟨w.heap.size,fl [[.int .u32 n],[.int .u32 m],bw X,[.bool false]],53⟩) rfl)⟩,?_⟩
 clear hK K
 simp only [nrm]
 refine any_tk 7 (.tuple #[.agg (cg c1 x2),.int .i64 (k1:Int),.int .i64 0]) (tf 15 7) rfl (fun x_ hu=>by kernel_rfl) ⟨(hB.get 0 (x:=⟨g,sg A.c x qA dA vA B.c y qB dB vB,43⟩) rfl),(hB.get 1 (x:=⟨w.heap.size,fl [[.int .u32 n],[.int .u32 m],bw X,[.bool false]],53⟩) rfl)⟩ ?_
 simp only [nrm]
 refine any_tk 8 (.agg (cg c1 x2)) (tf 15 8) rfl (fun x_ hu=>by kernel_rfl) ⟨(hB.get 0 (x:=⟨g,sg A.c x qA dA vA B.c y qB dB vB,43⟩) rfl),(hB.get 1 (x:=⟨w.heap.size,fl [[.int .u32 n],[.int .u32 m],bw X,[.bool false]],53⟩) rfl)⟩ ?_
 simp only [nrm]
 refine any_tk 9 (.int .i64 (k1:Int)) (tf 15 9) rfl (fun x_ hu=>by kernel_rfl) ⟨(hB.get 0 (x:=⟨g,sg A.c x qA dA vA B.c y qB dB vB,43⟩) rfl),(hB.get 1 (x:=⟨w.heap.size,fl [[.int .u32 n],[.int .u32 m],bw X,[.bool false]],53⟩) rfl)⟩ ?_
 simp only [nrm]
 refine any_tk 10 (.int .i64 0) (tf 15 10) rfl (fun x_ hu=>by kernel_rfl) ⟨(hB.get 0 (x:=⟨g,sg A.c x qA dA vA B.c y qB dB vB,43⟩) rfl),(hB.get 1 (x:=⟨w.heap.size,fl [[.int .u32 n],[.int .u32 m],bw X,[.bool false]],53⟩) rfl)⟩ ?_
 simp only [nrm]
 refine float_again (fun q u=>NKf u3.heap.size (cg0) 26 u q) 8 (fun b_=>#[true,true,true,true,true,true,true,true,true,true,true,b_,false,false,false]) 11 12 true (b:=b1_6) (q:=q1_6) rfl rfl hTq (fun v_ g_=>⟨g_.blk (hB.get 0 (x:=⟨g,sg A.c x qA dA vA B.c y qB dB vB,43⟩) rfl),g_.blk (hB.get 1 (x:=⟨w.heap.size,fl [[.int .u32 n],[.int .u32 m],bw X,[.bool false]],53⟩) rfl)⟩) (by kernel_rfl) (fun b_=>by cases b_ <;> rfl) ?_ ?_
 all_goals simp only [fw1,Act.put,List.setIfInBounds_toArray,List.set_cons_zero,List.set_cons_succ,List.getElem_toArray,List.getElem_cons_zero,List.getElem_cons_succ]
 ·intro q_ x_ hgx K hK
  refine wpOp_step (o:=_) rfl (fun K' hK'=>?_)
  replace hK':=hide hK'
  replace hK:=hide hK
  refine step_val (.pointer (some ⟨x_.heap.size,0,none⟩)) (x_.alloc (.cells (cg0) 26 (0,0))) (by kernel_rfl) (by kernel_rfl) ?_
  exact unhide hK' _ _ (unhide hK _ _ ((Gr.refl _).alloc _) (⟨_,rfl,Nat.le_trans (unhide hsz_) hgx.size,blk_new _ _⟩))
 clear hTq
 intro b1_12 q1_12 x1_12 hg hTq hall
 replace hsz_:=hide ((unhide hsz_).gr hg)
 replace hA:=hide ((unhide hA).gr hg)
 replace hD:=hide ((unhide hD).gr hg)
 replace hXF:=hide ((unhide hXF).gr hg)
 replace hXG:=hide ((unhide hXG).gr hg)
 replace hE:=hide ((unhide hE).gr hg)
 replace hB:=hB.more hg
 clear hg
 obtain rfl:b1_12=true:=hall (by trivial)
 replace hTq:=hTq rfl
 clear hall
 obtain ⟨g8,rfl,hge_,hnew_⟩:=hTq
 have hgl8:=Nat.le_trans hsW_ hge_
 replace hB:=Bl.joinz (unhide hB0) hB hge_ hnew_
 simp only [List.cons_append,List.nil_append] at hB
 clear hB0 hge_ hnew_ hsW_
 refine wpOp_step (o:=_) rfl (fun K hK=>?_)
 replace hK:=hide hK
 have hzz_:Hid (x1_12.heap[g8]?=some (.cells (cg0) 26 (0,0))):=hide (hB.get 3 (x:=⟨g8,cg0,26⟩) rfl)
 refine step_all 26 (.tmp 8) (.tmp 26) (g8) (S2:=[[.int .u32 c1.nx],[.slice x2.ao x2.no x2.co],[.int .i64 c1.tn],[.int .u32 c1.dl],[.slice x2.ah x2.nh x2.ch]]) (by kernel_rfl) rfl (by kernel_rfl) (by kernel_rfl) hB 3 rfl NC (nC  _ _ _ _ _) (nC  _ _ _ _ _) (by kernel_rfl) (oC  rfl rfl rfl rfl rfl) ?_
 intro u5 hB_ hbt_
 clear hB
 replace hB:Bl (bare w) [⟨g,sg A.c x qA dA vA B.c y qB dB vB,43⟩,⟨w.heap.size,fl [[.int .u32 n],[.int .u32 m],bw X,[.bool false]],53⟩,⟨g7,cg B.c y,26⟩,⟨g8,cg c1 x2,26⟩] u5:=hB_
 clear hB_
 replace hA:=hide ((unhide hA).bz (unhide hzz_) hbt_)
 replace hD:=hide ((unhide hD).bz (unhide hzz_) hbt_)
 replace hXF:=hide ((unhide hXF).bo (unhide hzz_) hbt_ hXo hgl8)
 replace hXG:=hide ((unhide hXG).bl (unhide hzz_) hbt_ hgl8)
 replace hE:=hide ((unhide hE).bz (unhide hzz_) hbt_)
 clear hbt_ hzz_
 refine unhide hK _ _ ⟨⟨(hB.get 0 (x:=⟨g,sg A.c x qA dA vA B.c y qB dB vB,43⟩) rfl),(hB.get 1 (x:=⟨w.heap.size,fl [[.int .u32 n],[.int .u32 m],bw X,[.bool false]],53⟩) rfl)⟩,?_⟩
 clear hK K
 simp only [nrm]
 refine any_one (i:=13) (by kernel_rfl) rfl (fun K hK=>?_)
 replace hK:=hide hK
 go_simp
 refine (unhide hK).out _ _ ⟨(hB.get 0 (x:=⟨g,sg A.c x qA dA vA B.c y qB dB vB,43⟩) rfl),(hB.get 1 (x:=⟨w.heap.size,fl [[.int .u32 n],[.int .u32 m],bw X,[.bool false]],53⟩) rfl)⟩ (fun _=>?_)
 clear hK K
 refine any_one (i:=14) (by kernel_rfl) rfl (fun K hK=>?_)
 replace hK:=hide hK
 go_simp
 refine (unhide hK).out _ _ ⟨(hB.get 0 (x:=⟨g,sg A.c x qA dA vA B.c y qB dB vB,43⟩) rfl),(hB.get 1 (x:=⟨w.heap.size,fl [[.int .u32 n],[.int .u32 m],bw X,[.bool false]],53⟩) rfl)⟩ (fun _=>?_)
 clear hK K
 refine any_done (by kernel_rfl) ?_
 clear hsz_
 replace hB:=hide hB
 go_upto_region 3 with fail
 replace hB:=unhide hB
 refine wp_region_lit ?_
 refine wpList_gen fun ops_ hops=>?_
 replace hops:=hide hops
 refine list_val (.int .i64 0) (by rw [unhide hops]; kernel_rfl) (by kernel_rfl) ?_
 simp only [nrm]
 refine list_val (.bool false) (by rw [unhide hops]; kernel_rfl) (neq_e _ (.tmp 29) (.const (.int .i64 0)) 0 0 false rfl (by kernel_rfl) (by kernel_rfl) (by decide)) ?_
 simp only [nrm]
 refine list_val (.bool false) (by rw [unhide hops]; kernel_rfl) (by kernel_rfl) ?_
 simp only [nrm]
 refine list_val (.int .i64 (k1:Int)) (by rw [unhide hops]; kernel_rfl) (by kernel_rfl) ?_
 simp only [nrm]
 refine list_val (.pointer (some ⟨g7,1,none⟩)) (by rw [unhide hops]; kernel_rfl) (by kernel_rfl) ?_
 simp only [nrm]
 refine list_val (.slice y.ao y.no y.co) (by rw [unhide hops]; kernel_rfl) (exec_csO _ (.tmp 33) rfl (g7) 1 (by kernel_rfl) y.ao y.no y.co (seg_cell (nC  _ _ _ _ _) (hB.get 2 (x:=⟨g7,cg B.c y,26⟩) rfl) 1 (v:=.slice y.ao y.no y.co) rfl rfl)) ?_
 simp only [nrm]
 refine list_val (.int .i64 y.no) (by rw [unhide hops]; kernel_rfl) (by kernel_rfl) ?_
 simp only [nrm]
 refine list_val (.pointer (some ⟨g8,1,none⟩)) (by rw [unhide hops]; kernel_rfl) (by kernel_rfl) ?_
 simp only [nrm]
 refine list_val (.slice x2.ao x2.no x2.co) (by rw [unhide hops]; kernel_rfl) (exec_csO _ (.tmp 36) rfl (g8) 1 (by kernel_rfl) x2.ao x2.no x2.co (seg_cell (nC  _ _ _ _ _) (hB.get 3 (x:=⟨g8,cg c1 x2,26⟩) rfl) 1 (v:=.slice x2.ao x2.no x2.co) rfl rfl)) ?_
 simp only [nrm]
 refine list_val (.int .i64 x2.no) (by rw [unhide hops]; kernel_rfl) (by kernel_rfl) ?_
 simp only [nrm]
 refine list_val (.int .i64 (k1:Int)) (by rw [unhide hops]; kernel_rfl) (sub_i _ (.tmp 35) (.tmp 38) ((y.no:Nat):Int) ((x2.no:Nat):Int) rfl (by kernel_rfl) (by kernel_rfl) (k1:Int) (by have h1:=unhide hO1; have h2:=hnol; have h3:=(unhide hE).i.o.len; omega) (by have h1:=unhide hgk; have h2:=unhide hO1; have h3:=nlt; have h4:=nlc; omega)) ?_
 simp only [nrm]
 refine list_val (.bool false) (by rw [unhide hops]; kernel_rfl) (neq_i _ (.tmp 32) (.tmp 39) (k1:Int) (k1:Int) false rfl (by kernel_rfl) (by kernel_rfl) (by simp)) ?_
 simp only [nrm]
 refine list_val (.bool false) (by rw [unhide hops]; kernel_rfl) (by kernel_rfl) ?_
 simp only [nrm]
 refine wpList_nil ?_
 replace hB:=hide hB
 go_upto_region 5 with fail
 replace hB:=unhide hB
 refine wp_region_lit ?_
 refine lvk (.pointer (some ⟨g,8,none⟩)) ?_
 simp only [nrm]
 refine list_val (.agg (cg c1 x2)) (by kernel_rfl) (exec_sw _ 26 (.tmp 8) rfl (g8) (by kernel_rfl) (hB.get 3 (x:=⟨g8,cg c1 x2,26⟩) rfl) NC (nC  _ _ _ _ _) Try.underlying26 rfl (by kernel_rfl)) ?_
 simp only [nrm]
 refine lvk (.pointer (some ⟨g,8,none⟩)) ?_
 simp only [nrm]
 refine lvk (.pointer (some ⟨g,8,none⟩)) ?_
 simp only [nrm]
 have hzz_:Hid (u5.heap[g]?=some (.cells (sg A.c x qA dA vA B.c y qB dB vB) 43 (0,0))):=hide (hB.get 0 (x:=⟨g,sg A.c x qA dA vA B.c y qB dB vB,43⟩) rfl)
 refine list_sr 26 (.tmp 45) (.tmp 43) (g) 8 [[.int .u32 c1.nx],[.slice x2.ao x2.no x2.co],[.int .i64 c1.tn],[.int .u32 c1.dl],[.slice x2.ah x2.nh x2.ch]] (by kernel_rfl) rfl (by kernel_rfl) (by kernel_rfl) hB 0 rfl 8 5 (show 8+5≤16 by decide) rfl rfl rfl (by kernel_rfl) (oC rfl rfl rfl rfl rfl) ?_
 intro u6 hB_ hbt_
 clear hB
 replace hB:Bl (bare w) [⟨g,sg A.c x qA dA vA c1 x2 qB dB vB,43⟩,⟨w.heap.size,fl [[.int .u32 n],[.int .u32 m],bw X,[.bool false]],53⟩,⟨g7,cg B.c y,26⟩,⟨g8,cg c1 x2,26⟩] u6:=hB_
 clear hB_
 replace hA:=hide ((unhide hA).bz (unhide hzz_) hbt_)
 replace hD:=hide ((unhide hD).bz (unhide hzz_) hbt_)
 replace hXF:=hide ((unhide hXF).bz (unhide hzz_) hbt_)
 replace hXG:=hide ((unhide hXG).bg (unhide hzz_) hbt_ hbg)
 replace hE:=hide ((unhide hE).bz (unhide hzz_) hbt_)
 clear hbt_ hzz_
 simp only [nrm]
 refine wpList_nil ?_
 replace hB:=hide hB
 go_upto_region 6 with fail
 replace hB:=unhide hB
 refine any_start (S:=fun v_=>v_.heap[g]?=some (.cells (sg A.c x qA dA vA c1 x2 qB dB vB) 43 (0,0))∧v_.heap[w.heap.size]?=some (.cells (fl [[.int .u32 n],[.int .u32 m],bw X,[.bool false]]) 53 (0,0))) (by kernel_rfl) ?_
 replace hA:=hide ((unhide hA).gr ((Gr.refl u6).drew))
 replace hD:=hide ((unhide hD).gr ((Gr.refl u6).drew))
 replace hXF:=hide ((unhide hXF).gr ((Gr.refl u6).drew))
 replace hXG:=hide ((unhide hXG).gr ((Gr.refl u6).drew))
 replace hE:=hide ((unhide hE).gr ((Gr.refl u6).drew))
 replace hB:=hB.drew
 generalize World.drew _=u7 at *
 simp only [List.size_toArray,List.length_cons,List.length_nil,Array.replicate,List.replicate]
 have hS_:=hide (show (fun v_=>v_.heap[g]?=some (.cells (sg A.c x qA dA vA c1 x2 qB dB vB) 43 (0,0))∧v_.heap[w.heap.size]?=some (.cells (fl [[.int .u32 n],[.int .u32 m],bw X,[.bool false]]) 53 (0,0))) u7 from ⟨(hB.get 0 (x:=⟨g,sg A.c x qA dA vA c1 x2 qB dB vB,43⟩) rfl),(hB.get 1 (x:=⟨w.heap.size,fl [[.int .u32 n],[.int .u32 m],bw X,[.bool false]],53⟩) rfl)⟩)
 refine any_tk 0 (.pointer (some ⟨w.heap.size,107,none⟩)) (tf 13 0) rfl (fun x_ hu=>by kernel_rfl) (unhide hS_) ?_
 simp only [nrm]
 refine any_tk 1 (.bool false) (tf 13 1) rfl (fun x_ hu=>exec_cb _ (.tmp 46) rfl (w.heap.size) 107 (by kernel_rfl) false (seg_cell (nD hXL _ _ _) hu.2 3 (v:=.bool false) rfl rfl)) (unhide hS_) ?_
 simp only [nrm]
 refine any_tk 2 (.bool false) (tf 13 2) rfl (fun x_ hu=>by kernel_rfl) (unhide hS_) ?_
 simp only [nrm]
 refine any_tk 3 (.pointer (some ⟨g,8,none⟩)) (tf 13 3) rfl (fun x_ hu=>by kernel_rfl) (unhide hS_) ?_
 simp only [nrm]
 refine any_tk 4 (.pointer (some ⟨g,8,none⟩)) (tf 13 4) rfl (fun x_ hu=>by kernel_rfl) (unhide hS_) ?_
 simp only [nrm]
 refine any_tk 5 (.pointer (some ⟨g,8,none⟩)) (tf 13 5) rfl (fun x_ hu=>by kernel_rfl) (unhide hS_) ?_
 simp only [nrm]
 refine any_tk 6 (.agg (cg c1 x2)) (tf 13 6) rfl (fun x_ hu=>exec_sr _ 26 (.tmp 51) rfl (g) 8 (by kernel_rfl) hu.1 8 5 (show 8+5≤16 by decide) rfl Try.underlying26 rfl (by kernel_rfl)) (unhide hS_) ?_
 simp only [nrm]
 refine any_tk 7 (.pointer (some ⟨w.heap.size,1,none⟩)) (tf 13 7) rfl (fun x_ hu=>by kernel_rfl) (unhide hS_) ?_
 simp only [nrm]
 refine any_tk 8 (.int .u32 m) (tf 13 8) rfl (fun x_ hu=>exec_c32 _ (.tmp 53) rfl (w.heap.size) 1 (by kernel_rfl) m (seg_cell (nD hXL _ _ _) hu.2 1 (v:=.int .u32 m) rfl rfl)) (unhide hS_) ?_
 simp only [nrm]
 refine any_tk 9 (.int .i64 rm) (tf 13 9) rfl (fun x_ hu=>by kernel_rfl) (unhide hS_) ?_
 simp only [nrm]
 refine any_one (i:=10) (by kernel_rfl) rfl (fun K hK=>?_)
 refine step_callw (by kernel_rfl) 15 #[.agg (cg c1 x2),.int .u32 m,.int .i64 rm] (by kernel_rfl) (((show Calls Try.prog 15 #[.agg (cg c1 x2),.int .u32 m,.int .i64 rm] u7 (Vl (.bool false) u7) from by have h:=wants_ok c1 x2 m rm hm u7 (unhide hE).i; rw [hwt] at h; exact h)).mono ?_)
 rintro r_ u8 ⟨rfl,hg⟩
 replace hA:=hide ((unhide hA).gr hg)
 replace hD:=hide ((unhide hD).gr hg)
 replace hXF:=hide ((unhide hXF).gr hg)
 replace hXG:=hide ((unhide hXG).gr hg)
 replace hE:=hide ((unhide hE).gr hg)
 replace hB:=hB.more hg
 clear hg
 refine ⟨_,rfl,?_⟩
 clear hS_
 have hS_:=hide (show (fun v_=>v_.heap[g]?=some (.cells (sg A.c x qA dA vA c1 x2 qB dB vB) 43 (0,0))∧v_.heap[w.heap.size]?=some (.cells (fl [[.int .u32 n],[.int .u32 m],bw X,[.bool false]]) 53 (0,0))) u8 from ⟨(hB.get 0 (x:=⟨g,sg A.c x qA dA vA c1 x2 qB dB vB,43⟩) rfl),(hB.get 1 (x:=⟨w.heap.size,fl [[.int .u32 n],[.int .u32 m],bw X,[.bool false]],53⟩) rfl)⟩)
 refine hK.out _ _ (unhide hS_) (fun _=>?_)
 clear hK K
 simp only [nrm]
 refine any_tk 11 (.bool true) (tf 13 11) rfl (fun x_ hu=>by kernel_rfl) (unhide hS_) ?_
 simp only [nrm]
 refine any_tk 12 (.bool true) (tf 13 12) rfl (fun x_ hu=>by kernel_rfl) (unhide hS_) ?_
 simp only [nrm]
 refine any_done (by kernel_rfl) ?_
 clear hS_
 replace hB:=hide hB
 go_upto_region 7 with fail
 replace hB:=unhide hB
 refine wp_region_lit ?_
 (refine wpList_step fun K hK=>?_; replace hK:=hide hK; go_simp; refine unhide hK _ _ ?_; clear hK K)
 refine wpList_nil ?_
 replace hB:=hide hB
 go_wp2_with fail
 replace hB:=unhide hB
 rw [unhide hT]
 exact (⟨rfl,⟨x,x2,qA,dA,vA,qB,dB,vB,hB.get 0 (x:=⟨g,sg A.c x qA dA vA c1 x2 qB dB vB,43⟩) rfl,unhide hA,unhide hE,unhide hXF,unhide hU,unhide hV⟩,(unhide hXG).cg⟩)
set_option maxHeartbeats 4000000 in
theorem shear_take1 (b g:Nat) (A B:Sd) (n m rm:Int) (w:World) (hb:b≤w.heap.size) (hbg:b≤g) (hS:St b w g A B) (hI:Inv A B) (hn:0≤n∧n≤A.c.dl) (hm:0≤m∧m<4294967296) (t:ByteArray) (hsz:t.size=3) (ht:A.q[m.toNat]?=some t) (hwt:wt (ak B.c n).1 m rm=true):Calls Try.prog 13 #[.pointer (some ⟨g,8,none⟩),.agg (fl [[.int .u32 n],[.int .u32 m],bw (bdy t),[.bool false]]),.int .i64 rm] w (fun r_ w'=>r_=.returned (.bool true)∧St b w' g A { B with c:=dvC (tkC (ak B.c n).1 ⟨m,t⟩),d:=B.d++(dvH (ak B.c n).1.dl (insL (ak B.c n).1.H ⟨m,t⟩)).2.2 }∧Cg g b w w'):=by
 obtain ⟨T,hT⟩:∃ T:Ending→World→Prop,T=(fun r_ w'=>r_=.returned (.bool true)∧St b w' g A { B with c:=dvC (tkC (ak B.c n).1 ⟨m,t⟩),d:=B.d++(dvH (ak B.c n).1.dl (insL (ak B.c n).1.H ⟨m,t⟩)).2.2 }∧Cg g b w w'):=⟨_,rfl⟩
 rw [← hT]
 replace hT:=hide hT
 obtain ⟨c1,hc1⟩:∃ c,c=(ak B.c n).1:=⟨_,rfl⟩
 obtain ⟨hak,hgk⟩:=ak_go (hI) hn
 have hIn:=Inv.acked (hI) hn
 obtain ⟨k1,hk1⟩:∃ k,k=gk B.c n:=⟨_,rfl⟩
 rw [← hk1] at hak hgk
 have hak2:ak B.c n=(c1,(k1:Int),0):=by rw [hc1,hak]
 have hO1:c1.O.length+k1=B.c.O.length:=by rw [hc1,hak]; simp only [List.length_drop]; omega
 clear hk1
 rw [← hc1] at hT hwt hIn
 obtain ⟨x,y,qA,dA,vA,qB,dB,vB,hg,hA,hD,hXF,hU,hV⟩:=hS
 have hn9:0≤n∧n<4294967296:=⟨hn.1,Int.lt_of_le_of_lt hn.2 (hA.i.dl).2⟩
 have hXo:=hXF.old
 have hXg:Cgs g b w w:=⟨Cg.refl g b w,hb⟩
 have hnol:=hD.i.o.len
 have nlt:=hD.i.o.2.max
 have nlc:=hD.i.o.2.cap
 obtain ⟨hunt,hdl2,hI3⟩:=hIn.took hwt ht
 obtain ⟨l2,hl2⟩:∃ l,l=(dvH c1.dl (insL c1.H ⟨m,t⟩)).2.2:=⟨_,rfl⟩
 obtain ⟨c2,hc2⟩:∃ c,c=dvC (tkC c1 ⟨m,t⟩):=⟨_,rfl⟩
 have htk:tk c1 ⟨m,t⟩ rm=(c2,l2,0):=by unfold tk; rw [if_pos hunt,hc2,hl2]
 rw [← hl2,← hc2] at hT hI3
 rw [← hc2,← hl2] at hdl2
 replace hdl2:c2.dl=c1.dl+(l2.length:Int):=hdl2
 have hsok:(⟨m,t⟩:It).Ok:=⟨hm,by show t.size<_; rw [hsz]; decide⟩
 have hd3:=hI3.1.le
 have hd4:=hI3.1.few
 have hd5:=hI3.1.dl
 replace hd3:(B.d++l2).length≤A.q.length:=hd3
 rw [List.length_append] at hd3
 obtain ⟨sa,sc,hda,-⟩:=(hXF.own 4 _ rfl).lz
 dsimp only at hda
 subst hda
 obtain ⟨nd,hnd⟩:∃ n,n=(B.d.map tr1).length:=⟨_,rfl⟩
 rw [← hnd] at hg hXF
 replace hXo:=hXF.old
 have hXL:(bdy t).length=105:=bdy_len hsz
 replace hd5:=hide hd5; replace hd3:=hide hd3; replace hd4:=hide hd4; replace hI3:=hide hI3; replace htk:=hide htk; replace hdl2:=hide hdl2; replace hl2:=hide hl2; replace hc2:=hide hc2; replace hunt:=hide hunt
 obtain ⟨A1_,hA1_⟩:∃ S_,S_=fl [[.int .u32 n],[.int .u32 m],bw (bdy t),[.bool false]]:=⟨_,rfl⟩
 rw [← hA1_]
 replace hA1_:=hide hA1_
 replace hIn:=hide hIn; replace hc1:=hide hc1; replace hak:=hide hak; replace hak2:=hide hak2; replace hO1:=hide hO1; replace hI:=hide hI; replace hgk:=hide hgk
 go_enter Try.func13,Try.ntmps13
 go_upto_region 1 with fail
 have hB:=((nilb w).add ⟨g,sg A.c x qA dA vA B.c y qB (.slice sa nd sc) vB,43⟩ hg (Nat.zero_le _) (by intro y hy; cases hy)).new A1_ 53
 simp only [List.nil_append,List.cons_append] at hB
 have hg1:=(Gr.refl w).alloc (.cells A1_ 53 (0,0))
 replace hA:=hA.gr hg1
 replace hD:=hD.gr hg1
 replace hXF:=hXF.gr hg1
 have hXG:=hXg.gr hg1
 clear hg hg1 hXg
 generalize hu_:World.alloc _ _=u0
 replace hB:Bl (bare w) [⟨g,sg A.c x qA dA vA B.c y qB (.slice sa nd sc) vB,43⟩,⟨w.heap.size,fl [[.int .u32 n],[.int .u32 m],bw (bdy t),[.bool false]],53⟩] u0:=by
  rw [← hu_,unhide hA1_]
  rw [unhide hA1_] at hB
  exact hB
 replace hA:Co b u0 A.c x:=by rw [← hu_]; exact hA
 replace hD:Co b u0 B.c y:=by rw [← hu_]; exact hD
 replace hXF:Fam b u0 (fam A B qA dA vA qB (.slice sa nd sc) vB):=by rw [← hu_]; exact hXF
 replace hXG:Cgs g b w u0:=by rw [← hu_]; exact hXG
 clear hu_
 replace hXF:=hide hXF; replace hA:=hide hA; replace hD:=hide hD; replace hU:=hide hU; replace hV:=hide hV; replace hXG:=hide hXG
 refine wp_region_lit ?_
 refine lvk (.pointer (some ⟨g,8,none⟩)) ?_
 simp only [nrm]
 refine lvk (.pointer (some ⟨g,8,none⟩)) ?_
 simp only [nrm]
 refine lvk (.pointer (some ⟨g,8,none⟩)) ?_
 simp only [nrm]
 refine list_val (.agg (cg B.c y)) (by kernel_rfl) (exec_sr _ 26 (.tmp 16) rfl (g) 8 (by kernel_rfl) (hB.get 0 (x:=⟨g,sg A.c x qA dA vA B.c y qB (.slice sa nd sc) vB,43⟩) rfl) 8 5 (show 8+5≤16 by decide) rfl Try.underlying26 rfl (by kernel_rfl)) ?_
 simp only [nrm]
 have hgl7:=(unhide hXG).size
 refine list_valw (.pointer (some ⟨u0.heap.size,0,none⟩)) (u0.alloc (.cells (cg0) 26 (0,0))) (by kernel_rfl) (by kernel_rfl) ?_
 replace hB:=hB.new (cg0) 26
 simp only [List.nil_append,List.cons_append] at hB
 have hg:=(Gr.refl u0).alloc (.cells (cg0) 26 (0,0))
 replace hA:=hide ((unhide hA).gr hg)
 replace hD:=hide ((unhide hD).gr hg)
 replace hXF:=hide ((unhide hXF).gr hg)
 replace hXG:=hide ((unhide hXG).gr hg)
 clear hg
 generalize World.alloc _ _=u1 at *
 generalize u0.heap.size=g7 at *
 simp only [nrm]
 have hzz_:Hid (u1.heap[g7]?=some (.cells (cg0) 26 (0,0))):=hide (hB.get 2 (x:=⟨g7,cg0,26⟩) rfl)
 refine list_all 26 (.tmp 7) (.tmp 17) (g7) (S2:=[[.int .u32 B.c.nx],[.slice y.ao y.no y.co],[.int .i64 B.c.tn],[.int .u32 B.c.dl],[.slice y.ah y.nh y.ch]]) (by kernel_rfl) rfl (by kernel_rfl) (by kernel_rfl) hB 2 rfl NC (nC  _ _ _ _ _) (nC  _ _ _ _ _) (by kernel_rfl) (oC  rfl rfl rfl rfl rfl) ?_
 intro u2 hB_ hbt_
 clear hB
 replace hB:Bl (bare w) [⟨g,sg A.c x qA dA vA B.c y qB (.slice sa nd sc) vB,43⟩,⟨w.heap.size,fl [[.int .u32 n],[.int .u32 m],bw (bdy t),[.bool false]],53⟩,⟨g7,cg B.c y,26⟩] u2:=hB_
 clear hB_
 replace hA:=hide ((unhide hA).bz (unhide hzz_) hbt_)
 replace hD:=hide ((unhide hD).bz (unhide hzz_) hbt_)
 replace hXF:=hide ((unhide hXF).bo (unhide hzz_) hbt_ hXo hgl7)
 replace hXG:=hide ((unhide hXG).bl (unhide hzz_) hbt_ hgl7)
 clear hbt_ hzz_
 simp only [nrm]
 refine wpList_nil ?_
 replace hB:=hide hB
 go_upto_region 2 with fail
 replace hB:=unhide hB
 refine any_start (S:=fun v_=>v_.heap[g]?=some (.cells (sg A.c x qA dA vA B.c y qB (.slice sa nd sc) vB) 43 (0,0))∧v_.heap[w.heap.size]?=some (.cells (fl [[.int .u32 n],[.int .u32 m],bw (bdy t),[.bool false]]) 53 (0,0))) (by kernel_rfl) ?_
 replace hA:=hide ((unhide hA).gr ((Gr.refl u2).drew))
 replace hD:=hide ((unhide hD).gr ((Gr.refl u2).drew))
 replace hXF:=hide ((unhide hXF).gr ((Gr.refl u2).drew))
 replace hXG:=hide ((unhide hXG).gr ((Gr.refl u2).drew))
 replace hB:=hB.drew
 generalize World.drew _=u3 at *
 have hB0:=hide hB
 have hsz_:Hid (Sz u3.heap.size u3):=Nat.le_refl _
 have hsW_:=(unhide hXG).size
 simp only [List.size_toArray,List.length_cons,List.length_nil,Array.replicate,List.replicate]
 refine any_tk 0 (.pointer (some ⟨g,8,none⟩)) (tf 15 0) rfl (fun x_ hu=>by kernel_rfl) ⟨(hB.get 0 (x:=⟨g,sg A.c x qA dA vA B.c y qB (.slice sa nd sc) vB,43⟩) rfl),(hB.get 1 (x:=⟨w.heap.size,fl [[.int .u32 n],[.int .u32 m],bw (bdy t),[.bool false]],53⟩) rfl)⟩ ?_
 simp only [nrm]
 refine any_tk 1 (.pointer (some ⟨g,8,none⟩)) (tf 15 1) rfl (fun x_ hu=>by kernel_rfl) ⟨(hB.get 0 (x:=⟨g,sg A.c x qA dA vA B.c y qB (.slice sa nd sc) vB,43⟩) rfl),(hB.get 1 (x:=⟨w.heap.size,fl [[.int .u32 n],[.int .u32 m],bw (bdy t),[.bool false]],53⟩) rfl)⟩ ?_
 simp only [nrm]
 refine any_tk 2 (.pointer (some ⟨g,8,none⟩)) (tf 15 2) rfl (fun x_ hu=>by kernel_rfl) ⟨(hB.get 0 (x:=⟨g,sg A.c x qA dA vA B.c y qB (.slice sa nd sc) vB,43⟩) rfl),(hB.get 1 (x:=⟨w.heap.size,fl [[.int .u32 n],[.int .u32 m],bw (bdy t),[.bool false]],53⟩) rfl)⟩ ?_
 simp only [nrm]
 refine any_tk 3 (.agg (cg B.c y)) (tf 15 3) rfl (fun x_ hu=>exec_sr _ 26 (.tmp 21) rfl (g) 8 (by kernel_rfl) hu.1 8 5 (show 8+5≤16 by decide) rfl Try.underlying26 rfl (by kernel_rfl)) ⟨(hB.get 0 (x:=⟨g,sg A.c x qA dA vA B.c y qB (.slice sa nd sc) vB,43⟩) rfl),(hB.get 1 (x:=⟨w.heap.size,fl [[.int .u32 n],[.int .u32 m],bw (bdy t),[.bool false]],53⟩) rfl)⟩ ?_
 simp only [nrm]
 refine any_tk 4 (.pointer (some ⟨w.heap.size,0,none⟩)) (tf 15 4) rfl (fun x_ hu=>by kernel_rfl) ⟨(hB.get 0 (x:=⟨g,sg A.c x qA dA vA B.c y qB (.slice sa nd sc) vB,43⟩) rfl),(hB.get 1 (x:=⟨w.heap.size,fl [[.int .u32 n],[.int .u32 m],bw (bdy t),[.bool false]],53⟩) rfl)⟩ ?_
 simp only [nrm]
 refine any_tk 5 (.int .u32 n) (tf 15 5) rfl (fun x_ hu=>exec_c32 _ (.tmp 23) rfl (w.heap.size) 0 (by kernel_rfl) n (seg_cell (nD hXL _ _ _) hu.2 0 (v:=.int .u32 n) rfl rfl)) ⟨(hB.get 0 (x:=⟨g,sg A.c x qA dA vA B.c y qB (.slice sa nd sc) vB,43⟩) rfl),(hB.get 1 (x:=⟨w.heap.size,fl [[.int .u32 n],[.int .u32 m],bw (bdy t),[.bool false]],53⟩) rfl)⟩ ?_
 simp only [nrm]
 refine float_first (fun q u=>NKf u3.heap.size (cg0) 26 u q) 8 (fun b_=>#[true,true,true,true,true,true,false,false,false,false,false,b_,false,false,false]) 11 6 false rfl rfl (fun v_ g_=>⟨g_.blk (hB.get 0 (x:=⟨g,sg A.c x qA dA vA B.c y qB (.slice sa nd sc) vB,43⟩) rfl),g_.blk (hB.get 1 (x:=⟨w.heap.size,fl [[.int .u32 n],[.int .u32 m],bw (bdy t),[.bool false]],53⟩) rfl)⟩) (by kernel_rfl) (fun b_=>by cases b_ <;> rfl) ?_ ?_
 all_goals simp only [fw1,Act.put,List.setIfInBounds_toArray,List.set_cons_zero,List.set_cons_succ,List.getElem_toArray,List.getElem_cons_zero,List.getElem_cons_succ]
 ·intro q_ x_ hgx K hK
  refine wpOp_step (o:=_) rfl (fun K' hK'=>?_)
  replace hK':=hide hK'
  replace hK:=hide hK
  refine step_val (.pointer (some ⟨x_.heap.size,0,none⟩)) (x_.alloc (.cells (cg0) 26 (0,0))) (by kernel_rfl) (by kernel_rfl) ?_
  exact unhide hK' _ _ (unhide hK _ _ ((Gr.refl _).alloc _) (⟨_,rfl,Nat.le_trans (unhide hsz_) hgx.size,blk_new _ _⟩))
 intro b1_6 q1_6 x1_6 hg hTq hall
 replace hA:=hide ((unhide hA).gr hg)
 replace hD:=hide ((unhide hD).gr hg)
 replace hXF:=hide ((unhide hXF).gr hg)
 replace hXG:=hide ((unhide hXG).gr hg)
 replace hsz_:=hide ((unhide hsz_).gr hg)
 replace hB:=hB.more hg
 clear hg
 clear hall
 refine wpOp_step (o:=_) rfl (fun K hK=>?_)
 replace hK:=hide hK
 refine step_callw (by kernel_rfl) 21 #[.agg (cg B.c y),.int .u32 n] (by kernel_rfl) ((((show Calls Try.prog 21 #[.agg (cg B.c y),.int .u32 n] x1_6 (Rc c1 [.int .i64 (k1:Int),.int .i64 0] x1_6) from by have h:=packed_ok B.c y n hn9 x1_6 (unhide hD).i; rw [unhide hak2] at h; exact h).mono fun _ _ h=>rcb_of h (Nat.le_trans hb (unhide hXG).size))).mono ?_)
 rintro r u4 ⟨x2,rfl,hE,hg⟩
 refine ⟨_,rfl,?_⟩
 replace hTq:=fun e=>NKf.gr (hTq e) hg
 replace hsz_:=hide ((unhide hsz_).gr hg)
 replace hA:=hide ((unhide hA).gr hg)
 replace hD:=hide ((unhide hD).gr hg)
 replace hXF:=hide ((unhide hXF).gr hg)
 replace hXG:=hide ((unhide hXG).gr hg)
 replace hB:=hB.more hg
 clear hg
 replace hE:=hide hE
 refine unhide hK _ _ ⟨⟨(hB.get 0 (x:=⟨g,sg A.c x qA dA vA B.c y qB (.slice sa nd sc) vB,43⟩) rfl),(hB.get 1 (x:=⟨w.heap.size,fl [[.int .u32 n],[.int .u32 m],bw (bdy t),[.bool false]],53⟩) rfl)⟩,?_⟩
 clear hK K
 simp only [nrm]
 refine any_tk 7 (.tuple #[.agg (cg c1 x2),.int .i64 (k1:Int),.int .i64 0]) (tf 15 7) rfl (fun x_ hu=>by kernel_rfl) ⟨(hB.get 0 (x:=⟨g,sg A.c x qA dA vA B.c y qB (.slice sa nd sc) vB,43⟩) rfl),(hB.get 1 (x:=⟨w.heap.size,fl [[.int .u32 n],[.int .u32 m],bw (bdy t),[.bool false]],53⟩) rfl)⟩ ?_
 simp only [nrm]
 refine any_tk 8 (.agg (cg c1 x2)) (tf 15 8) rfl (fun x_ hu=>by kernel_rfl) ⟨(hB.get 0 (x:=⟨g,sg A.c x qA dA vA B.c y qB (.slice sa nd sc) vB,43⟩) rfl),(hB.get 1 (x:=⟨w.heap.size,fl [[.int .u32 n],[.int .u32 m],bw (bdy t),[.bool false]],53⟩) rfl)⟩ ?_
 simp only [nrm]
 refine any_tk 9 (.int .i64 (k1:Int)) (tf 15 9) rfl (fun x_ hu=>by kernel_rfl) ⟨(hB.get 0 (x:=⟨g,sg A.c x qA dA vA B.c y qB (.slice sa nd sc) vB,43⟩) rfl),(hB.get 1 (x:=⟨w.heap.size,fl [[.int .u32 n],[.int .u32 m],bw (bdy t),[.bool false]],53⟩) rfl)⟩ ?_
 simp only [nrm]
 refine any_tk 10 (.int .i64 0) (tf 15 10) rfl (fun x_ hu=>by kernel_rfl) ⟨(hB.get 0 (x:=⟨g,sg A.c x qA dA vA B.c y qB (.slice sa nd sc) vB,43⟩) rfl),(hB.get 1 (x:=⟨w.heap.size,fl [[.int .u32 n],[.int .u32 m],bw (bdy t),[.bool false]],53⟩) rfl)⟩ ?_
 simp only [nrm]
 refine float_again (fun q u=>NKf u3.heap.size (cg0) 26 u q) 8 (fun b_=>#[true,true,true,true,true,true,true,true,true,true,true,b_,false,false,false]) 11 12 true (b:=b1_6) (q:=q1_6) rfl rfl hTq (fun v_ g_=>⟨g_.blk (hB.get 0 (x:=⟨g,sg A.c x qA dA vA B.c y qB (.slice sa nd sc) vB,43⟩) rfl),g_.blk (hB.get 1 (x:=⟨w.heap.size,fl [[.int .u32 n],[.int .u32 m],bw (bdy t),[.bool false]],53⟩) rfl)⟩) (by kernel_rfl) (fun b_=>by cases b_ <;> rfl) ?_ ?_
 all_goals simp only [fw1,Act.put,List.setIfInBounds_toArray,List.set_cons_zero,List.set_cons_succ,List.getElem_toArray,List.getElem_cons_zero,List.getElem_cons_succ]
 ·intro q_ x_ hgx K hK
  refine wpOp_step (o:=_) rfl (fun K' hK'=>?_)
  replace hK':=hide hK'
  replace hK:=hide hK
  refine step_val (.pointer (some ⟨x_.heap.size,0,none⟩)) (x_.alloc (.cells (cg0) 26 (0,0))) (by kernel_rfl) (by kernel_rfl) ?_
  exact unhide hK' _ _ (unhide hK _ _ ((Gr.refl _).alloc _) (⟨_,rfl,Nat.le_trans (unhide hsz_) hgx.size,blk_new _ _⟩))
 clear hTq
 intro b1_12 q1_12 x1_12 hg hTq hall
 replace hsz_:=hide ((unhide hsz_).gr hg)
 replace hA:=hide ((unhide hA).gr hg)
 replace hD:=hide ((unhide hD).gr hg)
 replace hXF:=hide ((unhide hXF).gr hg)
 replace hXG:=hide ((unhide hXG).gr hg)
 replace hE:=hide ((unhide hE).gr hg)
 replace hB:=hB.more hg
 clear hg
 obtain rfl:b1_12=true:=hall (by trivial)
 replace hTq:=hTq rfl
 clear hall
 obtain ⟨g8,rfl,hge_,hnew_⟩:=hTq
 have hgl8:=Nat.le_trans hsW_ hge_
 replace hB:=Bl.joinz (unhide hB0) hB hge_ hnew_
 simp only [List.cons_append,List.nil_append] at hB
 clear hB0 hge_ hnew_ hsW_
 refine wpOp_step (o:=_) rfl (fun K hK=>?_)
 replace hK:=hide hK
 have hzz_:Hid (x1_12.heap[g8]?=some (.cells (cg0) 26 (0,0))):=hide (hB.get 3 (x:=⟨g8,cg0,26⟩) rfl)
 refine step_all 26 (.tmp 8) (.tmp 26) (g8) (S2:=[[.int .u32 c1.nx],[.slice x2.ao x2.no x2.co],[.int .i64 c1.tn],[.int .u32 c1.dl],[.slice x2.ah x2.nh x2.ch]]) (by kernel_rfl) rfl (by kernel_rfl) (by kernel_rfl) hB 3 rfl NC (nC  _ _ _ _ _) (nC  _ _ _ _ _) (by kernel_rfl) (oC  rfl rfl rfl rfl rfl) ?_
 intro u5 hB_ hbt_
 clear hB
 replace hB:Bl (bare w) [⟨g,sg A.c x qA dA vA B.c y qB (.slice sa nd sc) vB,43⟩,⟨w.heap.size,fl [[.int .u32 n],[.int .u32 m],bw (bdy t),[.bool false]],53⟩,⟨g7,cg B.c y,26⟩,⟨g8,cg c1 x2,26⟩] u5:=hB_
 clear hB_
 replace hA:=hide ((unhide hA).bz (unhide hzz_) hbt_)
 replace hD:=hide ((unhide hD).bz (unhide hzz_) hbt_)
 replace hXF:=hide ((unhide hXF).bo (unhide hzz_) hbt_ hXo hgl8)
 replace hXG:=hide ((unhide hXG).bl (unhide hzz_) hbt_ hgl8)
 replace hE:=hide ((unhide hE).bz (unhide hzz_) hbt_)
 clear hbt_ hzz_
 refine unhide hK _ _ ⟨⟨(hB.get 0 (x:=⟨g,sg A.c x qA dA vA B.c y qB (.slice sa nd sc) vB,43⟩) rfl),(hB.get 1 (x:=⟨w.heap.size,fl [[.int .u32 n],[.int .u32 m],bw (bdy t),[.bool false]],53⟩) rfl)⟩,?_⟩
 clear hK K
 simp only [nrm]
 refine any_one (i:=13) (by kernel_rfl) rfl (fun K hK=>?_)
 replace hK:=hide hK
 go_simp
 refine (unhide hK).out _ _ ⟨(hB.get 0 (x:=⟨g,sg A.c x qA dA vA B.c y qB (.slice sa nd sc) vB,43⟩) rfl),(hB.get 1 (x:=⟨w.heap.size,fl [[.int .u32 n],[.int .u32 m],bw (bdy t),[.bool false]],53⟩) rfl)⟩ (fun _=>?_)
 clear hK K
 refine any_one (i:=14) (by kernel_rfl) rfl (fun K hK=>?_)
 replace hK:=hide hK
 go_simp
 refine (unhide hK).out _ _ ⟨(hB.get 0 (x:=⟨g,sg A.c x qA dA vA B.c y qB (.slice sa nd sc) vB,43⟩) rfl),(hB.get 1 (x:=⟨w.heap.size,fl [[.int .u32 n],[.int .u32 m],bw (bdy t),[.bool false]],53⟩) rfl)⟩ (fun _=>?_)
 clear hK K
 refine any_done (by kernel_rfl) ?_
 clear hsz_
 replace hB:=hide hB
 go_upto_region 3 with fail
 replace hB:=unhide hB
 refine wp_region_lit ?_
 refine wpList_gen fun ops_ hops=>?_
 replace hops:=hide hops
 refine list_val (.int .i64 0) (by rw [unhide hops]; kernel_rfl) (by kernel_rfl) ?_
 simp only [nrm]
 refine list_val (.bool false) (by rw [unhide hops]; kernel_rfl) (neq_e _ (.tmp 29) (.const (.int .i64 0)) 0 0 false rfl (by kernel_rfl) (by kernel_rfl) (by decide)) ?_
 simp only [nrm]
 refine list_val (.bool false) (by rw [unhide hops]; kernel_rfl) (by kernel_rfl) ?_
 simp only [nrm]
 refine list_val (.int .i64 (k1:Int)) (by rw [unhide hops]; kernel_rfl) (by kernel_rfl) ?_
 simp only [nrm]
 refine list_val (.pointer (some ⟨g7,1,none⟩)) (by rw [unhide hops]; kernel_rfl) (by kernel_rfl) ?_
 simp only [nrm]
 refine list_val (.slice y.ao y.no y.co) (by rw [unhide hops]; kernel_rfl) (exec_csO _ (.tmp 33) rfl (g7) 1 (by kernel_rfl) y.ao y.no y.co (seg_cell (nC  _ _ _ _ _) (hB.get 2 (x:=⟨g7,cg B.c y,26⟩) rfl) 1 (v:=.slice y.ao y.no y.co) rfl rfl)) ?_
 simp only [nrm]
 refine list_val (.int .i64 y.no) (by rw [unhide hops]; kernel_rfl) (by kernel_rfl) ?_
 simp only [nrm]
 refine list_val (.pointer (some ⟨g8,1,none⟩)) (by rw [unhide hops]; kernel_rfl) (by kernel_rfl) ?_
 simp only [nrm]
 refine list_val (.slice x2.ao x2.no x2.co) (by rw [unhide hops]; kernel_rfl) (exec_csO _ (.tmp 36) rfl (g8) 1 (by kernel_rfl) x2.ao x2.no x2.co (seg_cell (nC  _ _ _ _ _) (hB.get 3 (x:=⟨g8,cg c1 x2,26⟩) rfl) 1 (v:=.slice x2.ao x2.no x2.co) rfl rfl)) ?_
 simp only [nrm]
 refine list_val (.int .i64 x2.no) (by rw [unhide hops]; kernel_rfl) (by kernel_rfl) ?_
 simp only [nrm]
 refine list_val (.int .i64 (k1:Int)) (by rw [unhide hops]; kernel_rfl) (sub_i _ (.tmp 35) (.tmp 38) ((y.no:Nat):Int) ((x2.no:Nat):Int) rfl (by kernel_rfl) (by kernel_rfl) (k1:Int) (by have h1:=unhide hO1; have h2:=hnol; have h3:=(unhide hE).i.o.len; omega) (by have h1:=unhide hgk; have h2:=unhide hO1; have h3:=nlt; have h4:=nlc; omega)) ?_
 simp only [nrm]
 refine list_val (.bool false) (by rw [unhide hops]; kernel_rfl) (neq_i _ (.tmp 32) (.tmp 39) (k1:Int) (k1:Int) false rfl (by kernel_rfl) (by kernel_rfl) (by simp)) ?_
 simp only [nrm]
 refine list_val (.bool false) (by rw [unhide hops]; kernel_rfl) (by kernel_rfl) ?_
 simp only [nrm]
 refine wpList_nil ?_
 replace hB:=hide hB
 go_upto_region 5 with fail
 replace hB:=unhide hB
 refine wp_region_lit ?_
 refine lvk (.pointer (some ⟨g,8,none⟩)) ?_
 simp only [nrm]
 refine list_val (.agg (cg c1 x2)) (by kernel_rfl) (exec_sw _ 26 (.tmp 8) rfl (g8) (by kernel_rfl) (hB.get 3 (x:=⟨g8,cg c1 x2,26⟩) rfl) NC (nC  _ _ _ _ _) Try.underlying26 rfl (by kernel_rfl)) ?_
 simp only [nrm]
 refine lvk (.pointer (some ⟨g,8,none⟩)) ?_
 simp only [nrm]
 refine lvk (.pointer (some ⟨g,8,none⟩)) ?_
 simp only [nrm]
 have hzz_:Hid (u5.heap[g]?=some (.cells (sg A.c x qA dA vA B.c y qB (.slice sa nd sc) vB) 43 (0,0))):=hide (hB.get 0 (x:=⟨g,sg A.c x qA dA vA B.c y qB (.slice sa nd sc) vB,43⟩) rfl)
 refine list_sr 26 (.tmp 45) (.tmp 43) (g) 8 [[.int .u32 c1.nx],[.slice x2.ao x2.no x2.co],[.int .i64 c1.tn],[.int .u32 c1.dl],[.slice x2.ah x2.nh x2.ch]] (by kernel_rfl) rfl (by kernel_rfl) (by kernel_rfl) hB 0 rfl 8 5 (show 8+5≤16 by decide) rfl rfl rfl (by kernel_rfl) (oC rfl rfl rfl rfl rfl) ?_
 intro u6 hB_ hbt_
 clear hB
 replace hB:Bl (bare w) [⟨g,sg A.c x qA dA vA c1 x2 qB (.slice sa nd sc) vB,43⟩,⟨w.heap.size,fl [[.int .u32 n],[.int .u32 m],bw (bdy t),[.bool false]],53⟩,⟨g7,cg B.c y,26⟩,⟨g8,cg c1 x2,26⟩] u6:=hB_
 clear hB_
 replace hA:=hide ((unhide hA).bz (unhide hzz_) hbt_)
 replace hD:=hide ((unhide hD).bz (unhide hzz_) hbt_)
 replace hXF:=hide ((unhide hXF).bz (unhide hzz_) hbt_)
 replace hXG:=hide ((unhide hXG).bg (unhide hzz_) hbt_ hbg)
 replace hE:=hide ((unhide hE).bz (unhide hzz_) hbt_)
 clear hbt_ hzz_
 simp only [nrm]
 refine wpList_nil ?_
 replace hB:=hide hB
 go_upto_region 6 with fail
 replace hB:=unhide hB
 refine any_start (S:=fun v_=>v_.heap[g]?=some (.cells (sg A.c x qA dA vA c1 x2 qB (.slice sa nd sc) vB) 43 (0,0))∧v_.heap[w.heap.size]?=some (.cells (fl [[.int .u32 n],[.int .u32 m],bw (bdy t),[.bool false]]) 53 (0,0))) (by kernel_rfl) ?_
 replace hA:=hide ((unhide hA).gr ((Gr.refl u6).drew))
 replace hD:=hide ((unhide hD).gr ((Gr.refl u6).drew))
 replace hXF:=hide ((unhide hXF).gr ((Gr.refl u6).drew))
 replace hXG:=hide ((unhide hXG).gr ((Gr.refl u6).drew))
 replace hE:=hide ((unhide hE).gr ((Gr.refl u6).drew))
 replace hB:=hB.drew
 generalize World.drew _=u7 at *
 simp only [List.size_toArray,List.length_cons,List.length_nil,Array.replicate,List.replicate]
 have hS_:=hide (show (fun v_=>v_.heap[g]?=some (.cells (sg A.c x qA dA vA c1 x2 qB (.slice sa nd sc) vB) 43 (0,0))∧v_.heap[w.heap.size]?=some (.cells (fl [[.int .u32 n],[.int .u32 m],bw (bdy t),[.bool false]]) 53 (0,0))) u7 from ⟨(hB.get 0 (x:=⟨g,sg A.c x qA dA vA c1 x2 qB (.slice sa nd sc) vB,43⟩) rfl),(hB.get 1 (x:=⟨w.heap.size,fl [[.int .u32 n],[.int .u32 m],bw (bdy t),[.bool false]],53⟩) rfl)⟩)
 refine any_tk 0 (.pointer (some ⟨w.heap.size,107,none⟩)) (tf 13 0) rfl (fun x_ hu=>by kernel_rfl) (unhide hS_) ?_
 simp only [nrm]
 refine any_tk 1 (.bool false) (tf 13 1) rfl (fun x_ hu=>exec_cb _ (.tmp 46) rfl (w.heap.size) 107 (by kernel_rfl) false (seg_cell (nD hXL _ _ _) hu.2 3 (v:=.bool false) rfl rfl)) (unhide hS_) ?_
 simp only [nrm]
 refine any_tk 2 (.bool false) (tf 13 2) rfl (fun x_ hu=>by kernel_rfl) (unhide hS_) ?_
 simp only [nrm]
 refine any_tk 3 (.pointer (some ⟨g,8,none⟩)) (tf 13 3) rfl (fun x_ hu=>by kernel_rfl) (unhide hS_) ?_
 simp only [nrm]
 refine any_tk 4 (.pointer (some ⟨g,8,none⟩)) (tf 13 4) rfl (fun x_ hu=>by kernel_rfl) (unhide hS_) ?_
 simp only [nrm]
 refine any_tk 5 (.pointer (some ⟨g,8,none⟩)) (tf 13 5) rfl (fun x_ hu=>by kernel_rfl) (unhide hS_) ?_
 simp only [nrm]
 refine any_tk 6 (.agg (cg c1 x2)) (tf 13 6) rfl (fun x_ hu=>exec_sr _ 26 (.tmp 51) rfl (g) 8 (by kernel_rfl) hu.1 8 5 (show 8+5≤16 by decide) rfl Try.underlying26 rfl (by kernel_rfl)) (unhide hS_) ?_
 simp only [nrm]
 refine any_tk 7 (.pointer (some ⟨w.heap.size,1,none⟩)) (tf 13 7) rfl (fun x_ hu=>by kernel_rfl) (unhide hS_) ?_
 simp only [nrm]
 refine any_tk 8 (.int .u32 m) (tf 13 8) rfl (fun x_ hu=>exec_c32 _ (.tmp 53) rfl (w.heap.size) 1 (by kernel_rfl) m (seg_cell (nD hXL _ _ _) hu.2 1 (v:=.int .u32 m) rfl rfl)) (unhide hS_) ?_
 simp only [nrm]
 refine any_tk 9 (.int .i64 rm) (tf 13 9) rfl (fun x_ hu=>by kernel_rfl) (unhide hS_) ?_
 simp only [nrm]
 refine any_one (i:=10) (by kernel_rfl) rfl (fun K hK=>?_)
 refine step_callw (by kernel_rfl) 15 #[.agg (cg c1 x2),.int .u32 m,.int .i64 rm] (by kernel_rfl) (((show Calls Try.prog 15 #[.agg (cg c1 x2),.int .u32 m,.int .i64 rm] u7 (Vl (.bool true) u7) from by have h:=wants_ok c1 x2 m rm hm u7 (unhide hE).i; rw [hwt] at h; exact h)).mono ?_)
 rintro r_ u8 ⟨rfl,hg⟩
 replace hA:=hide ((unhide hA).gr hg)
 replace hD:=hide ((unhide hD).gr hg)
 replace hXF:=hide ((unhide hXF).gr hg)
 replace hXG:=hide ((unhide hXG).gr hg)
 replace hE:=hide ((unhide hE).gr hg)
 replace hB:=hB.more hg
 clear hg
 refine ⟨_,rfl,?_⟩
 clear hS_
 have hS_:=hide (show (fun v_=>v_.heap[g]?=some (.cells (sg A.c x qA dA vA c1 x2 qB (.slice sa nd sc) vB) 43 (0,0))∧v_.heap[w.heap.size]?=some (.cells (fl [[.int .u32 n],[.int .u32 m],bw (bdy t),[.bool false]]) 53 (0,0))) u8 from ⟨(hB.get 0 (x:=⟨g,sg A.c x qA dA vA c1 x2 qB (.slice sa nd sc) vB,43⟩) rfl),(hB.get 1 (x:=⟨w.heap.size,fl [[.int .u32 n],[.int .u32 m],bw (bdy t),[.bool false]],53⟩) rfl)⟩)
 refine hK.out _ _ (unhide hS_) (fun _=>?_)
 clear hK K
 simp only [nrm]
 refine any_tk 11 (.bool false) (tf 13 11) rfl (fun x_ hu=>by kernel_rfl) (unhide hS_) ?_
 simp only [nrm]
 refine any_tk 12 (.bool false) (tf 13 12) rfl (fun x_ hu=>by kernel_rfl) (unhide hS_) ?_
 simp only [nrm]
 refine any_done (by kernel_rfl) ?_
 clear hS_
 have hcl:=und_cells hsz (hB.get 1 (x:=⟨w.heap.size,fl [[.int .u32 n],[.int .u32 m],bw (bdy t),[.bool false]],53⟩) rfl)
 replace hB:=hide hB
 go_upto_region 8 with fail
 replace hB:=unhide hB
 refine wp_region_lit ?_
 refine lvk (.pointer (some ⟨w.heap.size,2,none⟩)) ?_
 simp only [nrm]
 refine lvk (.pointer (some ⟨w.heap.size,2,none⟩)) ?_
 simp only [nrm]
 refine lvk (.pointer (some ⟨w.heap.size,2,none⟩)) ?_
 simp only [nrm]
 refine list_val (.int .u8 3) (by kernel_rfl) (exec_ub _ (.tmp 61) rfl (w.heap.size) 2 (by kernel_rfl) 3 hcl.1) ?_
 simp only [nrm]
 refine lvk (.int .u8 4) ?_
 simp only [nrm]
 refine lvk (.slice (some ⟨w.heap.size,3,none⟩) 3 104) ?_
 simp only [nrm]
 refine list_val (.string t) (by kernel_rfl) (exec_tx _ (.tmp 64) rfl (some ⟨w.heap.size,3,none⟩) 3 104 (tbo t) (by kernel_rfl) (by rw [tbo_len,hsz]) hcl.2 t (str_tbo t).symm) ?_
 simp only [nrm]
 (refine wpList_step fun K hK=>?_; replace hK:=hide hK; go_simp; refine unhide hK _ _ ?_; clear hK K)
 refine wpList_nil ?_
 clear hcl
 replace hB:=hide hB
 go_upto_region 9 with fail
 replace hB:=unhide hB
 refine any_start (S:=fun v_=>v_.heap[g]?=some (.cells (sg A.c x qA dA vA c1 x2 qB (.slice sa nd sc) vB) 43 (0,0))∧v_.heap[w.heap.size]?=some (.cells (fl [[.int .u32 n],[.int .u32 m],bw (bdy t),[.bool false]]) 53 (0,0))) (by kernel_rfl) ?_
 replace hA:=hide ((unhide hA).gr ((Gr.refl u8).drew))
 replace hD:=hide ((unhide hD).gr ((Gr.refl u8).drew))
 replace hXF:=hide ((unhide hXF).gr ((Gr.refl u8).drew))
 replace hXG:=hide ((unhide hXG).gr ((Gr.refl u8).drew))
 replace hE:=hide ((unhide hE).gr ((Gr.refl u8).drew))
 replace hB:=hB.drew
 generalize World.drew _=u9 at *
 have hB0:=hide hB
 have hsz_:Hid (Sz u9.heap.size u9):=Nat.le_refl _
 have hsW_:=(unhide hXG).size
 simp only [List.size_toArray,List.length_cons,List.length_nil,Array.replicate,List.replicate]
 refine any_tk 0 (.pointer (some ⟨g,8,none⟩)) (tf 18 0) rfl (fun x_ hu=>by kernel_rfl) ⟨(hB.get 0 (x:=⟨g,sg A.c x qA dA vA c1 x2 qB (.slice sa nd sc) vB,43⟩) rfl),(hB.get 1 (x:=⟨w.heap.size,fl [[.int .u32 n],[.int .u32 m],bw (bdy t),[.bool false]],53⟩) rfl)⟩ ?_
 simp only [nrm]
 refine any_tk 1 (.pointer (some ⟨g,8,none⟩)) (tf 18 1) rfl (fun x_ hu=>by kernel_rfl) ⟨(hB.get 0 (x:=⟨g,sg A.c x qA dA vA c1 x2 qB (.slice sa nd sc) vB,43⟩) rfl),(hB.get 1 (x:=⟨w.heap.size,fl [[.int .u32 n],[.int .u32 m],bw (bdy t),[.bool false]],53⟩) rfl)⟩ ?_
 simp only [nrm]
 refine any_tk 2 (.pointer (some ⟨g,8,none⟩)) (tf 18 2) rfl (fun x_ hu=>by kernel_rfl) ⟨(hB.get 0 (x:=⟨g,sg A.c x qA dA vA c1 x2 qB (.slice sa nd sc) vB,43⟩) rfl),(hB.get 1 (x:=⟨w.heap.size,fl [[.int .u32 n],[.int .u32 m],bw (bdy t),[.bool false]],53⟩) rfl)⟩ ?_
 simp only [nrm]
 refine any_tk 3 (.agg (cg c1 x2)) (tf 18 3) rfl (fun x_ hu=>exec_sr _ 26 (.tmp 69) rfl (g) 8 (by kernel_rfl) hu.1 8 5 (show 8+5≤16 by decide) rfl Try.underlying26 rfl (by kernel_rfl)) ⟨(hB.get 0 (x:=⟨g,sg A.c x qA dA vA c1 x2 qB (.slice sa nd sc) vB,43⟩) rfl),(hB.get 1 (x:=⟨w.heap.size,fl [[.int .u32 n],[.int .u32 m],bw (bdy t),[.bool false]],53⟩) rfl)⟩ ?_
 simp only [nrm]
 refine any_tk 4 (.pointer (some ⟨w.heap.size,1,none⟩)) (tf 18 4) rfl (fun x_ hu=>by kernel_rfl) ⟨(hB.get 0 (x:=⟨g,sg A.c x qA dA vA c1 x2 qB (.slice sa nd sc) vB,43⟩) rfl),(hB.get 1 (x:=⟨w.heap.size,fl [[.int .u32 n],[.int .u32 m],bw (bdy t),[.bool false]],53⟩) rfl)⟩ ?_
 simp only [nrm]
 refine any_tk 5 (.int .u32 m) (tf 18 5) rfl (fun x_ hu=>exec_c32 _ (.tmp 71) rfl (w.heap.size) 1 (by kernel_rfl) m (seg_cell (nD hXL _ _ _) hu.2 1 (v:=.int .u32 m) rfl rfl)) ⟨(hB.get 0 (x:=⟨g,sg A.c x qA dA vA c1 x2 qB (.slice sa nd sc) vB,43⟩) rfl),(hB.get 1 (x:=⟨w.heap.size,fl [[.int .u32 n],[.int .u32 m],bw (bdy t),[.bool false]],53⟩) rfl)⟩ ?_
 simp only [nrm]
 refine any_tk 6 (.string t) (tf 18 6) rfl (fun x_ hu=>by kernel_rfl) ⟨(hB.get 0 (x:=⟨g,sg A.c x qA dA vA c1 x2 qB (.slice sa nd sc) vB,43⟩) rfl),(hB.get 1 (x:=⟨w.heap.size,fl [[.int .u32 n],[.int .u32 m],bw (bdy t),[.bool false]],53⟩) rfl)⟩ ?_
 simp only [nrm]
 refine any_tk 7 (.agg (fl [[.int .u32 m],[.string t]])) (tf 18 7) rfl (fun x_ hu=>bI01 _ (.tmp 72) (.tmp 73) rfl (by kernel_rfl) (by kernel_rfl)) ⟨(hB.get 0 (x:=⟨g,sg A.c x qA dA vA c1 x2 qB (.slice sa nd sc) vB,43⟩) rfl),(hB.get 1 (x:=⟨w.heap.size,fl [[.int .u32 n],[.int .u32 m],bw (bdy t),[.bool false]],53⟩) rfl)⟩ ?_
 simp only [nrm]
 refine any_tk 8 (.int .i64 rm) (tf 18 8) rfl (fun x_ hu=>by kernel_rfl) ⟨(hB.get 0 (x:=⟨g,sg A.c x qA dA vA c1 x2 qB (.slice sa nd sc) vB,43⟩) rfl),(hB.get 1 (x:=⟨w.heap.size,fl [[.int .u32 n],[.int .u32 m],bw (bdy t),[.bool false]],53⟩) rfl)⟩ ?_
 simp only [nrm]
 refine float_first (fun q u=>NKf u9.heap.size (cg0) 26 u q) 12 (fun b_=>#[true,true,true,true,true,true,true,true,true,false,false,false,false,false,b_,false,false,false]) 14 9 false rfl rfl (fun v_ g_=>⟨g_.blk (hB.get 0 (x:=⟨g,sg A.c x qA dA vA c1 x2 qB (.slice sa nd sc) vB,43⟩) rfl),g_.blk (hB.get 1 (x:=⟨w.heap.size,fl [[.int .u32 n],[.int .u32 m],bw (bdy t),[.bool false]],53⟩) rfl)⟩) (by kernel_rfl) (fun b_=>by cases b_ <;> rfl) ?_ ?_
 all_goals simp only [fw1,Act.put,List.setIfInBounds_toArray,List.set_cons_zero,List.set_cons_succ,List.getElem_toArray,List.getElem_cons_zero,List.getElem_cons_succ]
 ·intro q_ x_ hgx K hK
  refine wpOp_step (o:=_) rfl (fun K' hK'=>?_)
  replace hK':=hide hK'
  replace hK:=hide hK
  refine step_val (.pointer (some ⟨x_.heap.size,0,none⟩)) (x_.alloc (.cells (cg0) 26 (0,0))) (by kernel_rfl) (by kernel_rfl) ?_
  exact unhide hK' _ _ (unhide hK _ _ ((Gr.refl _).alloc _) (⟨_,rfl,Nat.le_trans (unhide hsz_) hgx.size,blk_new _ _⟩))
 intro b1_9 q1_9 x1_9 hg hTq hall
 replace hA:=hide ((unhide hA).gr hg)
 replace hD:=hide ((unhide hD).gr hg)
 replace hXF:=hide ((unhide hXF).gr hg)
 replace hXG:=hide ((unhide hXG).gr hg)
 replace hE:=hide ((unhide hE).gr hg)
 replace hsz_:=hide ((unhide hsz_).gr hg)
 replace hB:=hB.more hg
 clear hg
 clear hall
 refine wpOp_step (o:=_) rfl (fun K hK=>?_)
 replace hK:=hide hK
 refine step_callw (by kernel_rfl) 22 #[.agg (cg c1 x2),.agg (fl [[.int .u32 m],[.string t]]),.int .i64 rm] (by kernel_rfl) (((taken_ok b c1 c2 l2 x2 ⟨m,t⟩ rm x1_9 (unhide hE) hsok (Nat.le_trans hb (unhide hXG).size) (unhide htk))).mono ?_)
 rintro r u10 ⟨x3,a3,n3,e3,rfl,hH,hn3,hY,hg⟩
 refine ⟨_,rfl,?_⟩
 replace hTq:=fun e=>NKf.gr (hTq e) hg
 replace hsz_:=hide ((unhide hsz_).gr hg)
 replace hA:=hide ((unhide hA).gr hg)
 replace hD:=hide ((unhide hD).gr hg)
 replace hXF:=hide ((unhide hXF).gr hg)
 replace hXG:=hide ((unhide hXG).gr hg)
 replace hE:=hide ((unhide hE).gr hg)
 replace hB:=hB.more hg
 clear hg
 replace hH:=hide hH
 replace hY:=hide hY
 replace hn3:=hide hn3
 refine unhide hK _ _ ⟨⟨(hB.get 0 (x:=⟨g,sg A.c x qA dA vA c1 x2 qB (.slice sa nd sc) vB,43⟩) rfl),(hB.get 1 (x:=⟨w.heap.size,fl [[.int .u32 n],[.int .u32 m],bw (bdy t),[.bool false]],53⟩) rfl)⟩,?_⟩
 clear hK K
 simp only [nrm]
 refine any_tk 10 (.tuple #[.agg (cg c2 x3),.slice a3 n3 e3,.int .i64 0]) (tf 18 10) rfl (fun x_ hu=>by kernel_rfl) ⟨(hB.get 0 (x:=⟨g,sg A.c x qA dA vA c1 x2 qB (.slice sa nd sc) vB,43⟩) rfl),(hB.get 1 (x:=⟨w.heap.size,fl [[.int .u32 n],[.int .u32 m],bw (bdy t),[.bool false]],53⟩) rfl)⟩ ?_
 simp only [nrm]
 refine any_tk 11 (.agg (cg c2 x3)) (tf 18 11) rfl (fun x_ hu=>by kernel_rfl) ⟨(hB.get 0 (x:=⟨g,sg A.c x qA dA vA c1 x2 qB (.slice sa nd sc) vB,43⟩) rfl),(hB.get 1 (x:=⟨w.heap.size,fl [[.int .u32 n],[.int .u32 m],bw (bdy t),[.bool false]],53⟩) rfl)⟩ ?_
 simp only [nrm]
 refine any_tk 12 (.slice a3 n3 e3) (tf 18 12) rfl (fun x_ hu=>by kernel_rfl) ⟨(hB.get 0 (x:=⟨g,sg A.c x qA dA vA c1 x2 qB (.slice sa nd sc) vB,43⟩) rfl),(hB.get 1 (x:=⟨w.heap.size,fl [[.int .u32 n],[.int .u32 m],bw (bdy t),[.bool false]],53⟩) rfl)⟩ ?_
 simp only [nrm]
 refine any_tk 13 (.int .i64 0) (tf 18 13) rfl (fun x_ hu=>by kernel_rfl) ⟨(hB.get 0 (x:=⟨g,sg A.c x qA dA vA c1 x2 qB (.slice sa nd sc) vB,43⟩) rfl),(hB.get 1 (x:=⟨w.heap.size,fl [[.int .u32 n],[.int .u32 m],bw (bdy t),[.bool false]],53⟩) rfl)⟩ ?_
 simp only [nrm]
 refine float_again (fun q u=>NKf u9.heap.size (cg0) 26 u q) 12 (fun b_=>#[true,true,true,true,true,true,true,true,true,true,true,true,true,true,b_,false,false,false]) 14 15 true (b:=b1_9) (q:=q1_9) rfl rfl hTq (fun v_ g_=>⟨g_.blk (hB.get 0 (x:=⟨g,sg A.c x qA dA vA c1 x2 qB (.slice sa nd sc) vB,43⟩) rfl),g_.blk (hB.get 1 (x:=⟨w.heap.size,fl [[.int .u32 n],[.int .u32 m],bw (bdy t),[.bool false]],53⟩) rfl)⟩) (by kernel_rfl) (fun b_=>by cases b_ <;> rfl) ?_ ?_
 all_goals simp only [fw1,Act.put,List.setIfInBounds_toArray,List.set_cons_zero,List.set_cons_succ,List.getElem_toArray,List.getElem_cons_zero,List.getElem_cons_succ]
 ·intro q_ x_ hgx K hK
  refine wpOp_step (o:=_) rfl (fun K' hK'=>?_)
  replace hK':=hide hK'
  replace hK:=hide hK
  refine step_val (.pointer (some ⟨x_.heap.size,0,none⟩)) (x_.alloc (.cells (cg0) 26 (0,0))) (by kernel_rfl) (by kernel_rfl) ?_
  exact unhide hK' _ _ (unhide hK _ _ ((Gr.refl _).alloc _) (⟨_,rfl,Nat.le_trans (unhide hsz_) hgx.size,blk_new _ _⟩))
 clear hTq
 intro b1_15 q1_15 x1_15 hg hTq hall
 replace hsz_:=hide ((unhide hsz_).gr hg)
 replace hA:=hide ((unhide hA).gr hg)
 replace hD:=hide ((unhide hD).gr hg)
 replace hXF:=hide ((unhide hXF).gr hg)
 replace hXG:=hide ((unhide hXG).gr hg)
 replace hE:=hide ((unhide hE).gr hg)
 replace hH:=hide ((unhide hH).gr hg)
 replace hY:=hide ((unhide hY).gr hg)
 replace hB:=hB.more hg
 clear hg
 obtain rfl:b1_15=true:=hall (by trivial)
 replace hTq:=hTq rfl
 clear hall
 obtain ⟨g12,rfl,hge_,hnew_⟩:=hTq
 have hgl12:=Nat.le_trans hsW_ hge_
 replace hB:=Bl.joinz (unhide hB0) hB hge_ hnew_
 simp only [List.cons_append,List.nil_append] at hB
 clear hB0 hge_ hnew_ hsW_
 refine wpOp_step (o:=_) rfl (fun K hK=>?_)
 replace hK:=hide hK
 have hzz_:Hid (x1_15.heap[g12]?=some (.cells (cg0) 26 (0,0))):=hide (hB.get 4 (x:=⟨g12,cg0,26⟩) rfl)
 refine step_all 26 (.tmp 12) (.tmp 77) (g12) (S2:=[[.int .u32 c2.nx],[.slice x3.ao x3.no x3.co],[.int .i64 c2.tn],[.int .u32 c2.dl],[.slice x3.ah x3.nh x3.ch]]) (by kernel_rfl) rfl (by kernel_rfl) (by kernel_rfl) hB 4 rfl NC (nC  _ _ _ _ _) (nC  _ _ _ _ _) (by kernel_rfl) (oC  rfl rfl rfl rfl rfl) ?_
 intro u11 hB_ hbt_
 clear hB
 replace hB:Bl (bare w) [⟨g,sg A.c x qA dA vA c1 x2 qB (.slice sa nd sc) vB,43⟩,⟨w.heap.size,fl [[.int .u32 n],[.int .u32 m],bw (bdy t),[.bool false]],53⟩,⟨g7,cg B.c y,26⟩,⟨g8,cg c1 x2,26⟩,⟨g12,cg c2 x3,26⟩] u11:=hB_
 clear hB_
 replace hA:=hide ((unhide hA).bz (unhide hzz_) hbt_)
 replace hD:=hide ((unhide hD).bz (unhide hzz_) hbt_)
 replace hXF:=hide ((unhide hXF).bo (unhide hzz_) hbt_ hXo hgl12)
 replace hXG:=hide ((unhide hXG).bl (unhide hzz_) hbt_ hgl12)
 replace hE:=hide ((unhide hE).bz (unhide hzz_) hbt_)
 replace hH:=hide ((unhide hH).bz (unhide hzz_) hbt_)
 replace hY:=hide ((unhide hY).bz (unhide hzz_) hbt_)
 clear hbt_ hzz_
 refine unhide hK _ _ ⟨⟨(hB.get 0 (x:=⟨g,sg A.c x qA dA vA c1 x2 qB (.slice sa nd sc) vB,43⟩) rfl),(hB.get 1 (x:=⟨w.heap.size,fl [[.int .u32 n],[.int .u32 m],bw (bdy t),[.bool false]],53⟩) rfl)⟩,?_⟩
 clear hK K
 simp only [nrm]
 refine any_one (i:=16) (by kernel_rfl) rfl (fun K hK=>?_)
 replace hK:=hide hK
 go_simp
 refine (unhide hK).out _ _ ⟨(hB.get 0 (x:=⟨g,sg A.c x qA dA vA c1 x2 qB (.slice sa nd sc) vB,43⟩) rfl),(hB.get 1 (x:=⟨w.heap.size,fl [[.int .u32 n],[.int .u32 m],bw (bdy t),[.bool false]],53⟩) rfl)⟩ (fun _=>?_)
 clear hK K
 refine any_one (i:=17) (by kernel_rfl) rfl (fun K hK=>?_)
 replace hK:=hide hK
 go_simp
 refine (unhide hK).out _ _ ⟨(hB.get 0 (x:=⟨g,sg A.c x qA dA vA c1 x2 qB (.slice sa nd sc) vB,43⟩) rfl),(hB.get 1 (x:=⟨w.heap.size,fl [[.int .u32 n],[.int .u32 m],bw (bdy t),[.bool false]],53⟩) rfl)⟩ (fun _=>?_)
 clear hK K
 refine any_done (by kernel_rfl) ?_
 clear hsz_
 replace hB:=hide hB
 go_upto_region 10 with fail
 replace hB:=unhide hB
 refine any_start (S:=fun v_=>v_.heap[g]?=some (.cells (sg A.c x qA dA vA c1 x2 qB (.slice sa nd sc) vB) 43 (0,0))∧v_.heap[g12]?=some (.cells (cg c2 x3) 26 (0,0))) (by kernel_rfl) ?_
 replace hA:=hide ((unhide hA).gr ((Gr.refl u11).drew))
 replace hD:=hide ((unhide hD).gr ((Gr.refl u11).drew))
 replace hXF:=hide ((unhide hXF).gr ((Gr.refl u11).drew))
 replace hXG:=hide ((unhide hXG).gr ((Gr.refl u11).drew))
 replace hE:=hide ((unhide hE).gr ((Gr.refl u11).drew))
 replace hH:=hide ((unhide hH).gr ((Gr.refl u11).drew))
 replace hY:=hide ((unhide hY).gr ((Gr.refl u11).drew))
 replace hB:=hB.drew
 generalize World.drew _=u12 at *
 simp only [List.size_toArray,List.length_cons,List.length_nil,Array.replicate,List.replicate]
 have hS_:=hide (show (fun v_=>v_.heap[g]?=some (.cells (sg A.c x qA dA vA c1 x2 qB (.slice sa nd sc) vB) 43 (0,0))∧v_.heap[g12]?=some (.cells (cg c2 x3) 26 (0,0))) u12 from ⟨(hB.get 0 (x:=⟨g,sg A.c x qA dA vA c1 x2 qB (.slice sa nd sc) vB,43⟩) rfl),(hB.get 4 (x:=⟨g12,cg c2 x3,26⟩) rfl)⟩)
 refine any_tk 0 (.int .i64 0) (tf 16 0) rfl (fun x_ hu=>by kernel_rfl) (unhide hS_) ?_
 simp only [nrm]
 refine any_tk 1 (.bool false) (tf 16 1) rfl (fun x_ hu=>neq_e _ (.tmp 80) (.const (.int .i64 0)) 0 0 false rfl (by kernel_rfl) (by kernel_rfl) (by decide)) (unhide hS_) ?_
 simp only [nrm]
 refine any_tk 2 (.bool false) (tf 16 2) rfl (fun x_ hu=>by kernel_rfl) (unhide hS_) ?_
 simp only [nrm]
 refine any_tk 3 (.pointer (some ⟨g12,3,none⟩)) (tf 16 3) rfl (fun x_ hu=>by kernel_rfl) (unhide hS_) ?_
 simp only [nrm]
 refine any_tk 4 (.int .u32 c2.dl) (tf 16 4) rfl (fun x_ hu=>exec_c32 _ (.tmp 83) rfl (g12) 3 (by kernel_rfl) c2.dl (seg_cell (nC  _ _ _ _ _) hu.2 3 (v:=.int .u32 c2.dl) rfl rfl)) (unhide hS_) ?_
 simp only [nrm]
 refine any_tk 5 (.pointer (some ⟨g,8,none⟩)) (tf 16 5) rfl (fun x_ hu=>by kernel_rfl) (unhide hS_) ?_
 simp only [nrm]
 refine any_tk 6 (.pointer (some ⟨g,8,none⟩)) (tf 16 6) rfl (fun x_ hu=>by kernel_rfl) (unhide hS_) ?_
 simp only [nrm]
 refine any_tk 7 (.pointer (some ⟨g,8,none⟩)) (tf 16 7) rfl (fun x_ hu=>by kernel_rfl) (unhide hS_) ?_
 simp only [nrm]
 refine any_tk 8 (.pointer (some ⟨g,11,none⟩)) (tf 16 8) rfl (fun x_ hu=>by kernel_rfl) (unhide hS_) ?_
 simp only [nrm]
 refine any_tk 9 (.int .u32 c1.dl) (tf 16 9) rfl (fun x_ hu=>exec_c32 _ (.tmp 88) rfl (g) 11 (by kernel_rfl) c1.dl (seg_cell (nS2  _ _ _ _ _ _ _ _ _ _ _ _ _ _ _ _) hu.1 11 (v:=.int .u32 c1.dl) rfl rfl)) (unhide hS_) ?_
 simp only [nrm]
 refine any_tk 10 (.slice a3 n3 e3) (tf 16 10) rfl (fun x_ hu=>by kernel_rfl) (unhide hS_) ?_
 simp only [nrm]
 refine any_tk 11 (.int .i64 n3) (tf 16 11) rfl (fun x_ hu=>by kernel_rfl) (unhide hS_) ?_
 simp only [nrm]
 refine any_tk 12 (.int .u32 ((l2.length:Nat):Int)) (tf 16 12) rfl (fun x_ hu=>conv_u32 _ (.tmp 91) ((l2.length:Nat):Int) rfl (by rw [← unhide hn3]; kernel_rfl) (by have h1:=unhide hd3; have h2:=unhide hd4; omega)) (unhide hS_) ?_
 simp only [nrm]
 refine any_tk 13 (.int .u32 c2.dl) (tf 16 13) rfl (fun x_ hu=>add_32 _ (.tmp 89) (.tmp 92) c1.dl ((l2.length:Nat):Int) rfl (by kernel_rfl) (by kernel_rfl) c2.dl (unhide hdl2).symm (unhide hH).i.dl) (unhide hS_) ?_
 simp only [nrm]
 refine any_tk 14 (.bool false) (tf 16 14) rfl (fun x_ hu=>neq_32 _ (.tmp 84) (.tmp 93) c2.dl c2.dl false rfl (by kernel_rfl) (by kernel_rfl) (by simp)) (unhide hS_) ?_
 simp only [nrm]
 refine any_tk 15 (.bool false) (tf 16 15) rfl (fun x_ hu=>by kernel_rfl) (unhide hS_) ?_
 simp only [nrm]
 refine any_done (by kernel_rfl) ?_
 clear hS_
 replace hB:=hide hB
 go_upto_region 12 with fail
 replace hB:=unhide hB
 refine wp_region_lit ?_
 refine lvk (.pointer (some ⟨g,8,none⟩)) ?_
 simp only [nrm]
 refine list_val (.agg (cg c2 x3)) (by kernel_rfl) (exec_sw _ 26 (.tmp 12) rfl (g12) (by kernel_rfl) (hB.get 4 (x:=⟨g12,cg c2 x3,26⟩) rfl) NC (nC  _ _ _ _ _) Try.underlying26 rfl (by kernel_rfl)) ?_
 simp only [nrm]
 refine lvk (.pointer (some ⟨g,8,none⟩)) ?_
 simp only [nrm]
 refine lvk (.pointer (some ⟨g,8,none⟩)) ?_
 simp only [nrm]
 have hzz_:Hid (u12.heap[g]?=some (.cells (sg A.c x qA dA vA c1 x2 qB (.slice sa nd sc) vB) 43 (0,0))):=hide (hB.get 0 (x:=⟨g,sg A.c x qA dA vA c1 x2 qB (.slice sa nd sc) vB,43⟩) rfl)
 refine list_sr 26 (.tmp 99) (.tmp 97) (g) 8 [[.int .u32 c2.nx],[.slice x3.ao x3.no x3.co],[.int .i64 c2.tn],[.int .u32 c2.dl],[.slice x3.ah x3.nh x3.ch]] (by kernel_rfl) rfl (by kernel_rfl) (by kernel_rfl) hB 0 rfl 8 5 (show 8+5≤16 by decide) rfl rfl rfl (by kernel_rfl) (oC rfl rfl rfl rfl rfl) ?_
 intro u13 hB_ hbt_
 clear hB
 replace hB:Bl (bare w) [⟨g,sg A.c x qA dA vA c2 x3 qB (.slice sa nd sc) vB,43⟩,⟨w.heap.size,fl [[.int .u32 n],[.int .u32 m],bw (bdy t),[.bool false]],53⟩,⟨g7,cg B.c y,26⟩,⟨g8,cg c1 x2,26⟩,⟨g12,cg c2 x3,26⟩] u13:=hB_
 clear hB_
 replace hA:=hide ((unhide hA).bz (unhide hzz_) hbt_)
 replace hD:=hide ((unhide hD).bz (unhide hzz_) hbt_)
 replace hXF:=hide ((unhide hXF).bz (unhide hzz_) hbt_)
 replace hXG:=hide ((unhide hXG).bg (unhide hzz_) hbt_ hbg)
 replace hE:=hide ((unhide hE).bz (unhide hzz_) hbt_)
 replace hH:=hide ((unhide hH).bz (unhide hzz_) hbt_)
 replace hY:=hide ((unhide hY).bz (unhide hzz_) hbt_)
 clear hbt_ hzz_
 simp only [nrm]
 refine wpList_nil ?_
 replace hB:=hide hB
 go_upto_region 13 with fail
 replace hB:=unhide hB
 refine wp_region_lit ?_
 refine lvk (.pointer (some ⟨g,8,none⟩)) ?_
 simp only [nrm]
 refine lvk (.pointer (some ⟨g,8,none⟩)) ?_
 simp only [nrm]
 refine lvk (.pointer (some ⟨g,8,none⟩)) ?_
 simp only [nrm]
 refine lvk (.pointer (some ⟨g,14,none⟩)) ?_
 simp only [nrm]
 refine list_val (.slice sa nd sc) (by kernel_rfl) (exec_csS _ (.tmp 103) rfl (g) 14 (by kernel_rfl) sa nd sc (seg_cell (nS2  _ _ _ _ _ _ _ _ _ _ _ _ _ _ _ _) (hB.get 0 (x:=⟨g,sg A.c x qA dA vA c2 x3 qB (.slice sa nd sc) vB,43⟩) rfl) 14 (v:=.slice sa nd sc) rfl rfl)) ?_
 simp only [nrm]
 refine lvk (.slice a3 n3 e3) ?_
 simp only [nrm]
 refine wpList_step fun K hK=>?_
 rw [if_pos (by kernel_rfl)]
 have hOr:=(unhide hXF).own 4 _ rfl
 dsimp only at hOr
 obtain ⟨a4,e4,h4,hlz⟩:=(unhide hY).lz
 cases h4
 refine app_rowsB ltS (.tmp 104) (.tmp 105) rfl b (Nat.le_trans hb (unhide hXG).size) (.slice sa nd sc) (B.d.map tr1) (by kernel_rfl) hOr a3 _ e3 (l2.map tr1) (by kernel_rfl) hlz (by intro r hr u hu; obtain ⟨z_,-,rfl⟩:=List.mem_map.1 hr; rw [List.mem_singleton.1 hu]; rfl) (by have h1:=unhide hd3; have h2:=unhide hd4; simp only [List.length_map]; omega) ?_
 intro v2 u14 hO2 hgr hsn
 rw [← List.map_append] at hO2
 replace hXF:Hid (Fam b u14 (fam A { B with d:=B.d++l2 } qA dA vA qB v2 vB)):=hide ((unhide hXF).put 4 rfl hO2 hgr (fun q hq=>by rcases hsn with h | h <;> rw [h] at hq <;> first | exact .inl hq | (right; cases hq; exact Nat.le_refl _)))
 replace hA:=hide ((unhide hA).grown hOr hgr)
 replace hD:=hide ((unhide hD).grown hOr hgr)
 replace hE:=hide ((unhide hE).grown hOr hgr)
 replace hH:=hide ((unhide hH).grown hOr hgr)
 replace hXG:Hid (Cgs g b w u14):=⟨(unhide hXG).cg.grown hOr (Nat.le_refl _) hb hgr (.inl rfl),hb⟩
 have hne_:∀ y_ ∈ ([⟨g,sg A.c x qA dA vA c2 x3 qB (.slice sa nd sc) vB,43⟩,⟨w.heap.size,fl [[.int .u32 n],[.int .u32 m],bw (bdy t),[.bool false]],53⟩,⟨g7,cg B.c y,26⟩,⟨g8,cg c1 x2,26⟩,⟨g12,cg c2 x3,26⟩]:List Blk),(Value.slice sa nd sc).ownBlock≠some y_.g:=by
  intro y_ hy_
  simp only [List.mem_cons,List.not_mem_nil,or_false] at hy_
  rcases hy_ with rfl | rfl | rfl | rfl | rfl
  ·exact own_ne_ty hOr (hB.get 0 (x:=⟨g,sg A.c x qA dA vA c2 x3 qB (.slice sa nd sc) vB,43⟩) rfl) (show 43≠9 by decide)
  ·exact own_ne_ty hOr (hB.get 1 (x:=⟨w.heap.size,fl [[.int .u32 n],[.int .u32 m],bw (bdy t),[.bool false]],53⟩) rfl) (show 53≠9 by decide)
  ·exact own_ne_ty hOr (hB.get 2 (x:=⟨g7,cg B.c y,26⟩) rfl) (show 26≠9 by decide)
  ·exact own_ne_ty hOr (hB.get 3 (x:=⟨g8,cg c1 x2,26⟩) rfl) (show 26≠9 by decide)
  ·exact own_ne_ty hOr (hB.get 4 (x:=⟨g12,cg c2 x3,26⟩) rfl) (show 26≠9 by decide)
 replace hB:=Bl.grownN hB hgr hne_
 clear hne_ hY hlz
 obtain ⟨sa2,sc2,rfl,-⟩:=hO2.lz
 obtain ⟨n2,hn2⟩:∃ m,m=((B.d++l2).map tr1).length:=⟨_,rfl⟩
 rw [← hn2] at hXF ⊢
 clear hOr hO2 hgr hsn
 refine hK _ _ ?_
 clear hK K
 simp only [nrm]
 refine lvk (.pointer (some ⟨g,8,none⟩)) ?_
 simp only [nrm]
 refine lvk (.pointer (some ⟨g,14,none⟩)) ?_
 simp only [nrm]
 have hzz_:Hid (u14.heap[g]?=some (.cells (sg A.c x qA dA vA c2 x3 qB (.slice sa nd sc) vB) 43 (0,0))):=hide (hB.get 0 (x:=⟨g,sg A.c x qA dA vA c2 x3 qB (.slice sa nd sc) vB,43⟩) rfl)
 refine list_csS (.tmp 108) (.tmp 106) (g) 14 sa2 n2 sc2 (by kernel_rfl) rfl (by kernel_rfl) (by kernel_rfl) hB 0 rfl NS2 (nS2  _ _ _ _ _ _ _ _ _ _ _ _ _ _ _ _) 14 _ rfl rfl ?_
 intro u15 hB_ hbt_
 clear hB
 replace hB:Bl (bare w) [⟨g,sg A.c x qA dA vA c2 x3 qB (.slice sa2 n2 sc2) vB,43⟩,⟨w.heap.size,fl [[.int .u32 n],[.int .u32 m],bw (bdy t),[.bool false]],53⟩,⟨g7,cg B.c y,26⟩,⟨g8,cg c1 x2,26⟩,⟨g12,cg c2 x3,26⟩] u15:=hB_
 clear hB_
 replace hA:=hide ((unhide hA).bz (unhide hzz_) hbt_)
 replace hD:=hide ((unhide hD).bz (unhide hzz_) hbt_)
 replace hXF:=hide ((unhide hXF).bz (unhide hzz_) hbt_)
 replace hXG:=hide ((unhide hXG).bg (unhide hzz_) hbt_ hbg)
 replace hE:=hide ((unhide hE).bz (unhide hzz_) hbt_)
 replace hH:=hide ((unhide hH).bz (unhide hzz_) hbt_)
 clear hbt_ hzz_
 simp only [nrm]
 refine wpList_nil ?_
 replace hB:=hide hB
 go_upto_region 14 with fail
 replace hB:=unhide hB
 refine wp_region_lit ?_
 (refine wpList_step fun K hK=>?_; replace hK:=hide hK; go_simp; refine unhide hK _ _ ?_; clear hK K)
 refine wpList_nil ?_
 replace hB:=hide hB
 go_wp2_with fail
 replace hB:=unhide hB
 rw [unhide hT]
 exact (⟨rfl,⟨x,x3,qA,dA,vA,qB,(.slice sa2 n2 sc2),vB,hB.get 0 (x:=⟨g,sg A.c x qA dA vA c2 x3 qB (.slice sa2 n2 sc2) vB,43⟩) rfl,unhide hA,unhide hH,unhide hXF,unhide hU,unhide hV⟩,(unhide hXG).cg⟩)
end Go.Proofs.Ytcefkkoombmndab
