/-
  What the proof leans on.
-/
import Derived.Test.YthahhglbeafkmaaGreatDoorRK13
namespace Go.Proofs.YthahhglbeafkmaaGreatDoor
open Go.RowKit
set_option maxRecDepth 100000
set_option linter.unusedSimpArgs false
set_option linter.unusedVariables false
theorem sp_nonce {E:List Int} (h:E.length=8):sp (bw ZN) 4 (bw E)=bw (List.replicate 4 0++E):=by
 have:=sp_mid (bw E) (bw (List.replicate 4 0)) (bw (List.replicate 8 0)) [] (by rw [bw_len,bw_len,h]; rfl)
 rw [show (bw (List.replicate 4 0)).length=4 from rfl] at this
 rw [show bw ZN=bw (List.replicate 4 0)++(bw (List.replicate 8 0)++[]) from rfl,this]
 simp [bw]
theorem exec_eq105b {a:Act} {o:Oper} (w:World) (x y:Operand) (ho:o.op=.binOp .eql 28 x y 28) (k m:List Int) (hk:k.length=105) (hm:m.length=105) (hx:a.eval x=.agg (kc k)) (hy:a.eval y=.agg (kc m)) (b:Bool) (hb:decide (k=m)=b):(execOp a.eval o).run Tryz.prog w=.ok (.value (.bool b)) w:=by
 rw [← hb]
 exact exec_eq105 w x y ho k m hk hm hx hy
set_option maxHeartbeats 4000000 in
theorem ynonce_ok (r:Int) (hr:0≤r∧r<18446744073709551616) (w:World)  : Calls Tryz.prog 27 #[.int .u64 r] w (Vl (.agg (kc (cntL r))) w):=by
 obtain ⟨T,hT⟩:∃ T:Ending→World→Prop,T=(Vl (.agg (kc (cntL r))) w):=⟨_,rfl⟩
 rw [← hT]
 replace hT:=hide hT
 go_enter Tryz.func27,Tryz.ntmps27
 go_upto_region 1 with fail
 have hB:=((Bl.nil w).new (kc ZN) 64)
 simp only [size_alloc,List.nil_append,List.cons_append] at hB
 generalize hu_:World.alloc _ _=u0
 replace hB:Bl w [⟨w.heap.size,kc ZN,64⟩] u0:=by
  rw [← hu_]
  exact hB
 clear hu_
 refine wp_region_lit ?_
 refine list_valw (.pointer (some ⟨u0.heap.size,0,none⟩)) (u0.alloc (.cells (kc ZN) 64 (0,0))) (by kernel_rfl) (by kernel_rfl) ?_
 replace hB:=hB.new (kc ZN) 64
 simp only [List.nil_append,List.cons_append] at hB
 generalize World.alloc _ _=u1 at *
 generalize u0.heap.size=g3 at *
 replace hB:Bl w [⟨w.heap.size,kc ZN,64⟩,⟨g3,kc ZN,64⟩] u1:=hB
 simp only [nrm]
 refine wpList_nil ?_
 replace hB:=hide hB
 go_upto_region 2 with fail
 replace hB:=unhide hB
 refine any_start (S:=fun v_=>True) (by kernel_rfl) ?_
 replace hB:=hB.drew
 generalize World.drew _=u2 at *
 simp only [List.size_toArray,List.length_cons,List.length_nil,Array.replicate,List.replicate]
 refine any_tk 0 (.slice (some ⟨g3,4,none⟩) 8 8) (tf 4 0) rfl (fun x_ hu=>by kernel_rfl) trivial ?_
 simp only [nrm]
 refine any_tk 1 (.int .u64 r) (tf 4 1) rfl (fun x_ hu=>by kernel_rfl) trivial ?_
 simp only [nrm]
 refine any_one (i:=2) (by kernel_rfl) rfl (fun K hK=>?_)
 refine step_callw (by kernel_rfl) 47 #[.int .u64 r,.int .i64 8] (by kernel_rfl) ((rlow8_ok r hr u2).mono ?_)
 rintro r_ u3 ⟨v1,rfl,ho,hg⟩
 replace hB:=hB.more hg
 clear hg
 obtain ⟨E,hE⟩:∃ E,E=lowL r 8:=⟨_,rfl⟩
 have hEl:E.length=8:=by rw [hE]; exact lowL_len _ _
 have hEb:IsB E:=by rw [hE]; exact lowL_isB _ _
 have hRl:(List.replicate 4 0++E).length=12:=by rw [List.length_append,hEl]; rfl
 rw [← hE] at ho
 obtain ⟨a1,c1,rfl,l1⟩:=ho.lb' hEb 8 hEl
 clear ho hEb
 replace l1:=hide l1
 replace hE:=hide hE
 refine ⟨_,rfl,?_⟩
 refine hK.out _ _ trivial (fun _=>?_)
 clear hK K
 simp only [nrm]
 refine any_one (i:=3) (by kernel_rfl) rfl (fun K hK=>?_)
 rw [if_pos (by kernel_rfl)]
 refine copy_wp (.tmp 4) (.tmp 6) rfl (g3) 4 8 8 (a1) 8 c1 (by kernel_rfl) (by kernel_rfl) (bw ZN) 64 (hB.get 1 (x:=⟨g3,kc ZN,64⟩) rfl) E (by rw [hEl]; rfl) ((unhide l1).sl) (by rw [bw_len,(show List.length ZN=12 from rfl),hEl]; decide) ?_
 replace hB:=hB.cells 1 (C:=(bw ZN)) rfl 4 (bw E)
 rw [sp_nonce hEl] at hB
 simp only [List.set_cons_zero,List.set_cons_succ] at hB
 replace hB:Bl w [⟨w.heap.size,kc ZN,64⟩,⟨g3,kc (List.replicate 4 0++E),64⟩] (World.setCells u3 g3 4 (List.map (Value.int .u8) E)):=hB
 generalize World.setCells u3 g3 4 (List.map (Value.int .u8) E)=u4 at *
 refine hK.out _ _ trivial (fun _=>?_)
 clear hK K
 simp only [nrm]
 refine any_done (by kernel_rfl) ?_
 replace hB:=hide hB
 go_upto_region 3 with fail
 replace hB:=unhide hB
 refine wp_region_lit ?_
 refine list_val (.agg (kc (List.replicate 4 0++E))) (by kernel_rfl) (exec_arr _ 64 (.tmp 3) rfl (g3) (by kernel_rfl) (kc (List.replicate 4 0++E)) 64 _ (hB.get 1 (x:=⟨g3,kc (List.replicate 4 0++E),64⟩) rfl) Tryz.underlying64 rfl (by rw [Tryz.infoN,kc_size,hRl])) ?_
 simp only [nrm]
 refine list_store 64 (.tmp 2) (.tmp 8) (w.heap.size) (kc (List.replicate 4 0++E)) 64 (kc ZN) (by kernel_rfl) rfl (by kernel_rfl) (by kernel_rfl) (hB.get 0 (x:=⟨w.heap.size,kc ZN,64⟩) rfl) (by rw [Tryz.infoN,kc_size,hRl]) (by rw [kc_size,kc_size,(show List.length ZN=12 from rfl),hRl]) (kc_one _) ?_
 replace hB:=hB.set 0 (x:=⟨w.heap.size,kc ZN,64⟩) rfl (kc (List.replicate 4 0++E))
 simp only [List.set_cons_zero,List.set_cons_succ] at hB
 generalize World.setRow _ _ _=u5 at *
 replace hB:Bl w [⟨w.heap.size,kc (List.replicate 4 0++E),64⟩,⟨g3,kc (List.replicate 4 0++E),64⟩] u5:=hB
 simp only [nrm]
 refine wpList_nil ?_
 replace hB:=hide hB
 go_wp2_with fail
 replace hB:=unhide hB
 rw [unhide hT]
 exact bodyPost_ret (v:=.agg (kc (List.replicate 4 0++E))) (res1 Tryz.results27 (rv_cell (by kernel_rfl) (hB.get 0 (x:=⟨w.heap.size,kc (List.replicate 4 0++E),64⟩) rfl) Tryz.underlying64 rfl (by rw [Tryz.infoN,kc_size,hRl]))) rfl (⟨by rw [unhide hE]; rfl,hB.gr⟩)
set_option maxHeartbeats 4000000 in
theorem yright_1 (k a s:Int) (B:List Int) (hBl:B.length=105) (w:World) (h1:k=1):Calls Tryz.prog 8 #[.agg (fl [[.int .i64 k],[.int .u32 a],[.int .u32 s],bw B])] w (Vl (.bool true) w):=by
 obtain ⟨T,hT⟩:∃ T:Ending→World→Prop,T=(Vl (.bool true) w):=⟨_,rfl⟩
 rw [← hT]
 replace hT:=hide hT
 obtain ⟨A0_,hA0_⟩:∃ S_,S_=fl [[.int .i64 k],[.int .u32 a],[.int .u32 s],bw B]:=⟨_,rfl⟩
 rw [← hA0_]
 replace hA0_:=hide hA0_
 go_enter Tryz.func8,Tryz.ntmps8
 go_upto_region 1 with fail
 have hB:=((Bl.nil w).new A0_ 30)
 simp only [size_alloc,List.nil_append,List.cons_append] at hB
 rw [unhide hA0_] at hB
 generalize hu_:World.alloc _ _=u0
 replace hB:Bl w [⟨w.heap.size,fl [[.int .i64 k],[.int .u32 a],[.int .u32 s],bw B],30⟩] u0:=by
  rw [← hu_]
  rw [unhide hA0_]
  exact hB
 clear hu_ hA0_
 refine wp_region_lit ?_
 refine lvk (.pointer (some ⟨w.heap.size,0,none⟩)) ?_
 simp only [nrm]
 refine list_val (.int .i64 k) (by kernel_rfl) (exec_ci _ (.tmp 3) rfl (w.heap.size) 0 (by kernel_rfl) k (seg_cell (nE hBl _ _ _) (hB.get 0 (x:=⟨w.heap.size,fl [[.int .i64 k],[.int .u32 a],[.int .u32 s],bw B],30⟩) rfl) 0 (v:=.int .i64 k) rfl rfl)) ?_
 simp only [nrm]
 refine list_val (.bool true) (by kernel_rfl) (eql_i _ (.tmp 4) (.const (.int .i64 1)) k 1 true rfl (by kernel_rfl) (by kernel_rfl) (decide_eq_true h1)) ?_
 simp only [nrm]
 refine wpList_nil ?_
 replace hB:=hide hB
 go_upto_region 2 with fail
 replace hB:=unhide hB
 refine wp_region_lit ?_
 (refine wpList_step fun K hK=>?_; replace hK:=hide hK; go_simp; refine unhide hK _ _ ?_; clear hK K)
 refine wpList_nil ?_
 replace hB:=hide hB
 go_wp2_with fail
 replace hB:=unhide hB
 rw [unhide hT]
 exact (⟨rfl,hB.gr⟩)
set_option maxHeartbeats 4000000 in
theorem yright_2 (k a s:Int) (B:List Int) (hBl:B.length=105) (w:World) (h1:k≠1) (h2:k≠0):Calls Tryz.prog 8 #[.agg (fl [[.int .i64 k],[.int .u32 a],[.int .u32 s],bw B])] w (Vl (.bool false) w):=by
 obtain ⟨T,hT⟩:∃ T:Ending→World→Prop,T=(Vl (.bool false) w):=⟨_,rfl⟩
 rw [← hT]
 replace hT:=hide hT
 obtain ⟨A0_,hA0_⟩:∃ S_,S_=fl [[.int .i64 k],[.int .u32 a],[.int .u32 s],bw B]:=⟨_,rfl⟩
 rw [← hA0_]
 replace hA0_:=hide hA0_
 go_enter Tryz.func8,Tryz.ntmps8
 go_upto_region 1 with fail
 have hB:=((Bl.nil w).new A0_ 30)
 simp only [size_alloc,List.nil_append,List.cons_append] at hB
 rw [unhide hA0_] at hB
 generalize hu_:World.alloc _ _=u0
 replace hB:Bl w [⟨w.heap.size,fl [[.int .i64 k],[.int .u32 a],[.int .u32 s],bw B],30⟩] u0:=by
  rw [← hu_]
  rw [unhide hA0_]
  exact hB
 clear hu_ hA0_
 refine wp_region_lit ?_
 refine lvk (.pointer (some ⟨w.heap.size,0,none⟩)) ?_
 simp only [nrm]
 refine list_val (.int .i64 k) (by kernel_rfl) (exec_ci _ (.tmp 3) rfl (w.heap.size) 0 (by kernel_rfl) k (seg_cell (nE hBl _ _ _) (hB.get 0 (x:=⟨w.heap.size,fl [[.int .i64 k],[.int .u32 a],[.int .u32 s],bw B],30⟩) rfl) 0 (v:=.int .i64 k) rfl rfl)) ?_
 simp only [nrm]
 refine list_val (.bool false) (by kernel_rfl) (eql_i _ (.tmp 4) (.const (.int .i64 1)) k 1 false rfl (by kernel_rfl) (by kernel_rfl) (decide_eq_false h1)) ?_
 simp only [nrm]
 refine wpList_nil ?_
 replace hB:=hide hB
 go_upto_region 3 with fail
 replace hB:=unhide hB
 refine wp_region_lit ?_
 refine wpList_gen fun ops_ hops=>?_
 replace hops:=hide hops
 refine list_val (.pointer (some ⟨w.heap.size,0,none⟩)) (by rw [unhide hops]; kernel_rfl) (by kernel_rfl) ?_
 simp only [nrm]
 refine list_val (.int .i64 k) (by rw [unhide hops]; kernel_rfl) (exec_ci _ (.tmp 6) rfl (w.heap.size) 0 (by kernel_rfl) k (seg_cell (nE hBl _ _ _) (hB.get 0 (x:=⟨w.heap.size,fl [[.int .i64 k],[.int .u32 a],[.int .u32 s],bw B],30⟩) rfl) 0 (v:=.int .i64 k) rfl rfl)) ?_
 simp only [nrm]
 refine list_val (.bool false) (by rw [unhide hops]; kernel_rfl) (eql_i _ (.tmp 7) (.const (.int .i64 0)) k 0 false rfl (by kernel_rfl) (by kernel_rfl) (decide_eq_false h2)) ?_
 simp only [nrm]
 refine list_val (.bool false) (by rw [unhide hops]; kernel_rfl) (by kernel_rfl) ?_
 simp only [nrm]
 refine list_off (by rw [unhide hops]; kernel_rfl) ?_
 simp only [nrm]
 refine list_off (by rw [unhide hops]; kernel_rfl) ?_
 simp only [nrm]
 refine list_off (by rw [unhide hops]; kernel_rfl) ?_
 simp only [nrm]
 refine list_val (.bool false) (by rw [unhide hops]; kernel_rfl) (by kernel_rfl) ?_
 simp only [nrm]
 refine list_val (.bool false) (by rw [unhide hops]; kernel_rfl) (by kernel_rfl) ?_
 simp only [nrm]
 refine list_off (by rw [unhide hops]; kernel_rfl) ?_
 simp only [nrm]
 refine list_off (by rw [unhide hops]; kernel_rfl) ?_
 simp only [nrm]
 refine list_off (by rw [unhide hops]; kernel_rfl) ?_
 simp only [nrm]
 refine list_off (by rw [unhide hops]; kernel_rfl) ?_
 simp only [nrm]
 refine list_val (.bool false) (by rw [unhide hops]; kernel_rfl) (by kernel_rfl) ?_
 simp only [nrm]
 (refine wpList_step fun K hK=>?_; replace hK:=hide hK; go_simp; refine unhide hK _ _ ?_; clear hK K)
 refine wpList_nil ?_
 replace hB:=hide hB
 go_wp2_with fail
 replace hB:=unhide hB
 rw [unhide hT]
 exact (⟨rfl,hB.gr⟩)
set_option maxHeartbeats 4000000 in
theorem yright_3 (k a s:Int) (B:List Int) (hBl:B.length=105) (w:World) (h1:k≠1) (h2:k=0) (h3:s≠0):Calls Tryz.prog 8 #[.agg (fl [[.int .i64 k],[.int .u32 a],[.int .u32 s],bw B])] w (Vl (.bool false) w):=by
 obtain ⟨T,hT⟩:∃ T:Ending→World→Prop,T=(Vl (.bool false) w):=⟨_,rfl⟩
 rw [← hT]
 replace hT:=hide hT
 obtain ⟨A0_,hA0_⟩:∃ S_,S_=fl [[.int .i64 k],[.int .u32 a],[.int .u32 s],bw B]:=⟨_,rfl⟩
 rw [← hA0_]
 replace hA0_:=hide hA0_
 go_enter Tryz.func8,Tryz.ntmps8
 go_upto_region 1 with fail
 have hB:=((Bl.nil w).new A0_ 30)
 simp only [size_alloc,List.nil_append,List.cons_append] at hB
 rw [unhide hA0_] at hB
 generalize hu_:World.alloc _ _=u0
 replace hB:Bl w [⟨w.heap.size,fl [[.int .i64 k],[.int .u32 a],[.int .u32 s],bw B],30⟩] u0:=by
  rw [← hu_]
  rw [unhide hA0_]
  exact hB
 clear hu_ hA0_
 refine wp_region_lit ?_
 refine lvk (.pointer (some ⟨w.heap.size,0,none⟩)) ?_
 simp only [nrm]
 refine list_val (.int .i64 k) (by kernel_rfl) (exec_ci _ (.tmp 3) rfl (w.heap.size) 0 (by kernel_rfl) k (seg_cell (nE hBl _ _ _) (hB.get 0 (x:=⟨w.heap.size,fl [[.int .i64 k],[.int .u32 a],[.int .u32 s],bw B],30⟩) rfl) 0 (v:=.int .i64 k) rfl rfl)) ?_
 simp only [nrm]
 refine list_val (.bool false) (by kernel_rfl) (eql_i _ (.tmp 4) (.const (.int .i64 1)) k 1 false rfl (by kernel_rfl) (by kernel_rfl) (decide_eq_false h1)) ?_
 simp only [nrm]
 refine wpList_nil ?_
 replace hB:=hide hB
 go_upto_region 3 with fail
 replace hB:=unhide hB
 refine wp_region_lit ?_
 refine wpList_gen fun ops_ hops=>?_
 replace hops:=hide hops
 refine list_val (.pointer (some ⟨w.heap.size,0,none⟩)) (by rw [unhide hops]; kernel_rfl) (by kernel_rfl) ?_
 simp only [nrm]
 refine list_val (.int .i64 k) (by rw [unhide hops]; kernel_rfl) (exec_ci _ (.tmp 6) rfl (w.heap.size) 0 (by kernel_rfl) k (seg_cell (nE hBl _ _ _) (hB.get 0 (x:=⟨w.heap.size,fl [[.int .i64 k],[.int .u32 a],[.int .u32 s],bw B],30⟩) rfl) 0 (v:=.int .i64 k) rfl rfl)) ?_
 simp only [nrm]
 refine list_val (.bool true) (by rw [unhide hops]; kernel_rfl) (eql_i _ (.tmp 7) (.const (.int .i64 0)) k 0 true rfl (by kernel_rfl) (by kernel_rfl) (decide_eq_true h2)) ?_
 simp only [nrm]
 refine list_val (.bool true) (by rw [unhide hops]; kernel_rfl) (by kernel_rfl) ?_
 simp only [nrm]
 refine list_val (.pointer (some ⟨w.heap.size,2,none⟩)) (by rw [unhide hops]; kernel_rfl) (by kernel_rfl) ?_
 simp only [nrm]
 refine list_val (.int .u32 s) (by rw [unhide hops]; kernel_rfl) (exec_c32 _ (.tmp 10) rfl (w.heap.size) 2 (by kernel_rfl) s (seg_cell (nE hBl _ _ _) (hB.get 0 (x:=⟨w.heap.size,fl [[.int .i64 k],[.int .u32 a],[.int .u32 s],bw B],30⟩) rfl) 2 (v:=.int .u32 s) rfl rfl)) ?_
 simp only [nrm]
 refine list_val (.bool false) (by rw [unhide hops]; kernel_rfl) (eql_32 _ (.tmp 11) (.const (.int .u32 0)) s 0 false rfl (by kernel_rfl) (by kernel_rfl) (decide_eq_false h3)) ?_
 simp only [nrm]
 refine list_val (.bool false) (by rw [unhide hops]; kernel_rfl) (by kernel_rfl) ?_
 simp only [nrm]
 refine list_val (.bool false) (by rw [unhide hops]; kernel_rfl) (by kernel_rfl) ?_
 simp only [nrm]
 refine list_off (by rw [unhide hops]; kernel_rfl) ?_
 simp only [nrm]
 refine list_off (by rw [unhide hops]; kernel_rfl) ?_
 simp only [nrm]
 refine list_off (by rw [unhide hops]; kernel_rfl) ?_
 simp only [nrm]
 refine list_off (by rw [unhide hops]; kernel_rfl) ?_
 simp only [nrm]
 refine list_val (.bool false) (by rw [unhide hops]; kernel_rfl) (by kernel_rfl) ?_
 simp only [nrm]
 (refine wpList_step fun K hK=>?_; replace hK:=hide hK; go_simp; refine unhide hK _ _ ?_; clear hK K)
 refine wpList_nil ?_
 replace hB:=hide hB
 go_wp2_with fail
 replace hB:=unhide hB
 rw [unhide hT]
 exact (⟨rfl,hB.gr⟩)
set_option maxHeartbeats 4000000 in
theorem yright_4 (k a s:Int) (B:List Int) (hBl:B.length=105) (w:World) (h1:k≠1) (h2:k=0) (h3:s=0) (h4:B=Z105):Calls Tryz.prog 8 #[.agg (fl [[.int .i64 k],[.int .u32 a],[.int .u32 s],bw B])] w (Vl (.bool true) w):=by
 obtain ⟨T,hT⟩:∃ T:Ending→World→Prop,T=(Vl (.bool true) w):=⟨_,rfl⟩
 rw [← hT]
 replace hT:=hide hT
 obtain ⟨A0_,hA0_⟩:∃ S_,S_=fl [[.int .i64 k],[.int .u32 a],[.int .u32 s],bw B]:=⟨_,rfl⟩
 rw [← hA0_]
 replace hA0_:=hide hA0_
 go_enter Tryz.func8,Tryz.ntmps8
 go_upto_region 1 with fail
 have hB:=((Bl.nil w).new A0_ 30)
 simp only [size_alloc,List.nil_append,List.cons_append] at hB
 rw [unhide hA0_] at hB
 generalize hu_:World.alloc _ _=u0
 replace hB:Bl w [⟨w.heap.size,fl [[.int .i64 k],[.int .u32 a],[.int .u32 s],bw B],30⟩] u0:=by
  rw [← hu_]
  rw [unhide hA0_]
  exact hB
 clear hu_ hA0_
 refine wp_region_lit ?_
 refine lvk (.pointer (some ⟨w.heap.size,0,none⟩)) ?_
 simp only [nrm]
 refine list_val (.int .i64 k) (by kernel_rfl) (exec_ci _ (.tmp 3) rfl (w.heap.size) 0 (by kernel_rfl) k (seg_cell (nE hBl _ _ _) (hB.get 0 (x:=⟨w.heap.size,fl [[.int .i64 k],[.int .u32 a],[.int .u32 s],bw B],30⟩) rfl) 0 (v:=.int .i64 k) rfl rfl)) ?_
 simp only [nrm]
 refine list_val (.bool false) (by kernel_rfl) (eql_i _ (.tmp 4) (.const (.int .i64 1)) k 1 false rfl (by kernel_rfl) (by kernel_rfl) (decide_eq_false h1)) ?_
 simp only [nrm]
 refine wpList_nil ?_
 replace hB:=hide hB
 go_upto_region 3 with fail
 replace hB:=unhide hB
 refine wp_region_lit ?_
 refine wpList_gen fun ops_ hops=>?_
 replace hops:=hide hops
 refine list_val (.pointer (some ⟨w.heap.size,0,none⟩)) (by rw [unhide hops]; kernel_rfl) (by kernel_rfl) ?_
 simp only [nrm]
 refine list_val (.int .i64 k) (by rw [unhide hops]; kernel_rfl) (exec_ci _ (.tmp 6) rfl (w.heap.size) 0 (by kernel_rfl) k (seg_cell (nE hBl _ _ _) (hB.get 0 (x:=⟨w.heap.size,fl [[.int .i64 k],[.int .u32 a],[.int .u32 s],bw B],30⟩) rfl) 0 (v:=.int .i64 k) rfl rfl)) ?_
 simp only [nrm]
 refine list_val (.bool true) (by rw [unhide hops]; kernel_rfl) (eql_i _ (.tmp 7) (.const (.int .i64 0)) k 0 true rfl (by kernel_rfl) (by kernel_rfl) (decide_eq_true h2)) ?_
 simp only [nrm]
 refine list_val (.bool true) (by rw [unhide hops]; kernel_rfl) (by kernel_rfl) ?_
 simp only [nrm]
 refine list_val (.pointer (some ⟨w.heap.size,2,none⟩)) (by rw [unhide hops]; kernel_rfl) (by kernel_rfl) ?_
 simp only [nrm]
 refine list_val (.int .u32 s) (by rw [unhide hops]; kernel_rfl) (exec_c32 _ (.tmp 10) rfl (w.heap.size) 2 (by kernel_rfl) s (seg_cell (nE hBl _ _ _) (hB.get 0 (x:=⟨w.heap.size,fl [[.int .i64 k],[.int .u32 a],[.int .u32 s],bw B],30⟩) rfl) 2 (v:=.int .u32 s) rfl rfl)) ?_
 simp only [nrm]
 refine list_val (.bool true) (by rw [unhide hops]; kernel_rfl) (eql_32 _ (.tmp 11) (.const (.int .u32 0)) s 0 true rfl (by kernel_rfl) (by kernel_rfl) (decide_eq_true h3)) ?_
 simp only [nrm]
 refine list_val (.bool true) (by rw [unhide hops]; kernel_rfl) (by kernel_rfl) ?_
 simp only [nrm]
 refine list_val (.bool true) (by rw [unhide hops]; kernel_rfl) (by kernel_rfl) ?_
 simp only [nrm]
 refine list_val (.pointer (some ⟨w.heap.size,3,none⟩)) (by rw [unhide hops]; kernel_rfl) (by kernel_rfl) ?_
 simp only [nrm]
 refine list_val (.agg (kc B)) (by rw [unhide hops]; kernel_rfl) (exec_sa _ 28 (.tmp 15) rfl (w.heap.size) 3 (by kernel_rfl) (hB.get 0 (x:=⟨w.heap.size,fl [[.int .i64 k],[.int .u32 a],[.int .u32 s],bw B],30⟩) rfl) NE (nE hBl _ _ _) 3 B rfl rfl Tryz.underlying28 rfl (n:=105) rfl Tryz.info105) ?_
 simp only [nrm]
 refine list_val (.agg (kc Z105)) (by rw [unhide hops]; kernel_rfl) (exec_bld _ _ _ [] rfl (by simp) _ (by kernel_rfl)) ?_
 simp only [nrm]
 refine list_val (.bool true) (by rw [unhide hops]; kernel_rfl) (exec_eq105b _ (.tmp 16) (.tmp 17) rfl B Z105 hBl rfl (by kernel_rfl) (by kernel_rfl) true (decide_eq_true h4)) ?_
 simp only [nrm]
 refine list_val (.bool true) (by rw [unhide hops]; kernel_rfl) (by kernel_rfl) ?_
 simp only [nrm]
 (refine wpList_step fun K hK=>?_; replace hK:=hide hK; go_simp; refine unhide hK _ _ ?_; clear hK K)
 refine wpList_nil ?_
 replace hB:=hide hB
 go_wp2_with fail
 replace hB:=unhide hB
 rw [unhide hT]
 exact (⟨rfl,hB.gr⟩)
set_option maxHeartbeats 4000000 in
theorem yright_5 (k a s:Int) (B:List Int) (hBl:B.length=105) (w:World) (h1:k≠1) (h2:k=0) (h3:s=0) (h4:B≠Z105):Calls Tryz.prog 8 #[.agg (fl [[.int .i64 k],[.int .u32 a],[.int .u32 s],bw B])] w (Vl (.bool false) w):=by
 obtain ⟨T,hT⟩:∃ T:Ending→World→Prop,T=(Vl (.bool false) w):=⟨_,rfl⟩
 rw [← hT]
 replace hT:=hide hT
 obtain ⟨A0_,hA0_⟩:∃ S_,S_=fl [[.int .i64 k],[.int .u32 a],[.int .u32 s],bw B]:=⟨_,rfl⟩
 rw [← hA0_]
 replace hA0_:=hide hA0_
 go_enter Tryz.func8,Tryz.ntmps8
 go_upto_region 1 with fail
 have hB:=((Bl.nil w).new A0_ 30)
 simp only [size_alloc,List.nil_append,List.cons_append] at hB
 rw [unhide hA0_] at hB
 generalize hu_:World.alloc _ _=u0
 replace hB:Bl w [⟨w.heap.size,fl [[.int .i64 k],[.int .u32 a],[.int .u32 s],bw B],30⟩] u0:=by
  rw [← hu_]
  rw [unhide hA0_]
  exact hB
 clear hu_ hA0_
 refine wp_region_lit ?_
 refine lvk (.pointer (some ⟨w.heap.size,0,none⟩)) ?_
 simp only [nrm]
 refine list_val (.int .i64 k) (by kernel_rfl) (exec_ci _ (.tmp 3) rfl (w.heap.size) 0 (by kernel_rfl) k (seg_cell (nE hBl _ _ _) (hB.get 0 (x:=⟨w.heap.size,fl [[.int .i64 k],[.int .u32 a],[.int .u32 s],bw B],30⟩) rfl) 0 (v:=.int .i64 k) rfl rfl)) ?_
 simp only [nrm]
 refine list_val (.bool false) (by kernel_rfl) (eql_i _ (.tmp 4) (.const (.int .i64 1)) k 1 false rfl (by kernel_rfl) (by kernel_rfl) (decide_eq_false h1)) ?_
 simp only [nrm]
 refine wpList_nil ?_
 replace hB:=hide hB
 go_upto_region 3 with fail
 replace hB:=unhide hB
 refine wp_region_lit ?_
 refine wpList_gen fun ops_ hops=>?_
 replace hops:=hide hops
 refine list_val (.pointer (some ⟨w.heap.size,0,none⟩)) (by rw [unhide hops]; kernel_rfl) (by kernel_rfl) ?_
 simp only [nrm]
 refine list_val (.int .i64 k) (by rw [unhide hops]; kernel_rfl) (exec_ci _ (.tmp 6) rfl (w.heap.size) 0 (by kernel_rfl) k (seg_cell (nE hBl _ _ _) (hB.get 0 (x:=⟨w.heap.size,fl [[.int .i64 k],[.int .u32 a],[.int .u32 s],bw B],30⟩) rfl) 0 (v:=.int .i64 k) rfl rfl)) ?_
 simp only [nrm]
 refine list_val (.bool true) (by rw [unhide hops]; kernel_rfl) (eql_i _ (.tmp 7) (.const (.int .i64 0)) k 0 true rfl (by kernel_rfl) (by kernel_rfl) (decide_eq_true h2)) ?_
 simp only [nrm]
 refine list_val (.bool true) (by rw [unhide hops]; kernel_rfl) (by kernel_rfl) ?_
 simp only [nrm]
 refine list_val (.pointer (some ⟨w.heap.size,2,none⟩)) (by rw [unhide hops]; kernel_rfl) (by kernel_rfl) ?_
 simp only [nrm]
 refine list_val (.int .u32 s) (by rw [unhide hops]; kernel_rfl) (exec_c32 _ (.tmp 10) rfl (w.heap.size) 2 (by kernel_rfl) s (seg_cell (nE hBl _ _ _) (hB.get 0 (x:=⟨w.heap.size,fl [[.int .i64 k],[.int .u32 a],[.int .u32 s],bw B],30⟩) rfl) 2 (v:=.int .u32 s) rfl rfl)) ?_
 simp only [nrm]
 refine list_val (.bool true) (by rw [unhide hops]; kernel_rfl) (eql_32 _ (.tmp 11) (.const (.int .u32 0)) s 0 true rfl (by kernel_rfl) (by kernel_rfl) (decide_eq_true h3)) ?_
 simp only [nrm]
 refine list_val (.bool true) (by rw [unhide hops]; kernel_rfl) (by kernel_rfl) ?_
 simp only [nrm]
 refine list_val (.bool true) (by rw [unhide hops]; kernel_rfl) (by kernel_rfl) ?_
 simp only [nrm]
 refine list_val (.pointer (some ⟨w.heap.size,3,none⟩)) (by rw [unhide hops]; kernel_rfl) (by kernel_rfl) ?_
 simp only [nrm]
 refine list_val (.agg (kc B)) (by rw [unhide hops]; kernel_rfl) (exec_sa _ 28 (.tmp 15) rfl (w.heap.size) 3 (by kernel_rfl) (hB.get 0 (x:=⟨w.heap.size,fl [[.int .i64 k],[.int .u32 a],[.int .u32 s],bw B],30⟩) rfl) NE (nE hBl _ _ _) 3 B rfl rfl Tryz.underlying28 rfl (n:=105) rfl Tryz.info105) ?_
 simp only [nrm]
 refine list_val (.agg (kc Z105)) (by rw [unhide hops]; kernel_rfl) (exec_bld _ _ _ [] rfl (by simp) _ (by kernel_rfl)) ?_
 simp only [nrm]
 refine list_val (.bool false) (by rw [unhide hops]; kernel_rfl) (exec_eq105b _ (.tmp 16) (.tmp 17) rfl B Z105 hBl rfl (by kernel_rfl) (by kernel_rfl) false (decide_eq_false h4)) ?_
 simp only [nrm]
 refine list_val (.bool false) (by rw [unhide hops]; kernel_rfl) (by kernel_rfl) ?_
 simp only [nrm]
 (refine wpList_step fun K hK=>?_; replace hK:=hide hK; go_simp; refine unhide hK _ _ ?_; clear hK K)
 refine wpList_nil ?_
 replace hB:=hide hB
 go_wp2_with fail
 replace hB:=unhide hB
 rw [unhide hT]
 exact (⟨rfl,hB.gr⟩)
theorem yright_ok (k a s:Int) (B:List Int) (hBl:B.length=105) (w:World):Calls Tryz.prog 8 #[.agg (fl [[.int .i64 k],[.int .u32 a],[.int .u32 s],bw B])] w (Vl (.bool (evR k s B)) w):=by
 by_cases h1:k=1
 ·rw [show evR k s B=true from by unfold evR; simp [h1]]
  exact yright_1 k a s B hBl w h1
 by_cases h2:k=0
 ·by_cases h3:s=0
  ·by_cases h4:B=Z105
   ·rw [show evR k s B=true from by unfold evR allZ; simp [h2,h3,h4,Z105]]
    exact yright_4 k a s B hBl w h1 h2 h3 h4
   ·rw [show evR k s B=false from by
     have h5:decide (B=List.replicate B.length 0)=false:=by
      rw [hBl]
      exact decide_eq_false h4
     unfold evR allZ
     rw [h5]
     simp [h2]]
    exact yright_5 k a s B hBl w h1 h2 h3 h4
  ·rw [show evR k s B=false from by unfold evR; simp [h2,h3]]
   exact yright_3 k a s B hBl w h1 h2 h3
 ·rw [show evR k s B=false from by unfold evR; simp [h1,h2]]
  exact yright_2 k a s B hBl w h1 h2
end Go.Proofs.YthahhglbeafkmaaGreatDoor
namespace Go.Proofs.YthahhglbeafkmaaGreatDoor
open Go.RowKit
set_option maxRecDepth 100000
set_option linter.unusedSimpArgs false
set_option linter.unusedVariables false
theorem key_f (r:Int) (K:List Int) (f:Bool):okL r K (kyT (!f))=rkL r K f false:=by cases f <;> rfl
end Go.Proofs.YthahhglbeafkmaaGreatDoor
