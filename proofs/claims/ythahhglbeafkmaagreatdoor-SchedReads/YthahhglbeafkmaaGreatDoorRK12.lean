/-
  What the proof leans on.
-/
import Derived.Laws.StructEq
import Derived.Great.BuildSlice
import Derived.Test.YthahhglbeafkmaaGreatDoorRK11
namespace Go.Proofs.YthahhglbeafkmaaGreatDoor
open Go.RowKit
set_option maxRecDepth 100000
set_option linter.unusedSimpArgs false
set_option linter.unusedVariables false
def hx (n:Int):Int:=if n<10 then 48+n else 87+n
def okL (r:Int) (K:List Int) (t:ByteArray):List Int:=spL K (infoL (tb t) [lowL r 8]) 32
theorem okL_len (r:Int) (K:List Int) (t:ByteArray):(okL r K t).length=32:=spL_len _ _ _
theorem okL_isB (r:Int) (K:List Int) (t:ByteArray):IsB (okL r K t):=spL_isB _ _ _
theorem step_storew {P:Program} {ops:Array Oper} {Q:Exit→Act→World→Prop} {a:Act} {w:World} {o:Oper} {K:Act→World→Prop} (ty:TypeId) (x y:Operand) (g:Nat) (c:Array Value) (t:TypeId) (old:Array Value) (hw:Region.wanted o (yielded ops a.tmps)=true) (ho:o.op=.store ty x y)
  (hx:a.eval x=.pointer (some ⟨g,0,none⟩)) (hy:a.eval y=.agg c) (hg:w.heap[g]?=some (.cells old t (0,0))) (hi:(P.info? ty).map (·.size)=some c.size) (hold:old.size=c.size) (h1:c.all (·.oneCell')=true)
  (h:K (a.put o.dst undef) (w.setRow g c)):if Region.wanted o (yielded ops a.tmps)=true then Oper.wp P o a w K Q else K (a.put o.dst undef) w:=by
 rw [if_pos hw]
 exact wp_store_row ty x y ho g c hx hy t old hg hi hold h1 h
theorem small_low (r:Int):small4 [lowL r 8]:=⟨by simp,fun p hp=>by rw [List.mem_singleton.1 hp,lowL_len]; omega⟩
def pairv (K:List Int) (f:Bool):Array Value:=(K.map (Value.int .u8)++[Value.bool f]).toArray
theorem pairv_size (K:List Int) (f:Bool):(pairv K f).size=K.length+1:=by unfold pairv; simp
theorem Tryz.infoPair:(Tryz.prog.info? 25).map (·.size)=some 33:=by kernel_rfl
theorem Tryz.infoDrop:(Tryz.prog.info? 33).map (·.size)=some 16:=by kernel_rfl
theorem pairv_key {K:List Int} {f:Bool} {w:World} {g:Nat} (h:w.heap[g]?=some (.cells (pairv K f) 25 (0,0))):w.rangeAt g 0 (K.map (Value.int .u8)):=fun j x hj=>by
 rw [Nat.zero_add]
 refine cell_of h ?_
 unfold pairv
 rw [List.getElem?_toArray,List.getElem?_append_left (by have:=(List.getElem?_eq_some_iff.1 hj).1; exact this)]
 exact hj
theorem pairv_flag {K:List Int} (hK:K.length=32) {f:Bool} {w:World} {g:Nat} (h:w.heap[g]?=some (.cells (pairv K f) 25 (0,0))):w.cell? ⟨g,32,none⟩=some (.bool f):=by
 refine cell_of h ?_
 unfold pairv
 rw [List.getElem?_toArray,List.getElem?_append_right (by rw [List.length_map]; omega),List.length_map,hK]
 rfl
theorem exec_pk {op:Oper} {a:Act} (w:World) (x:Operand) (ho:op.op=.load 23 x) (g:Nat) (hx:a.eval x=.pointer (some ⟨g,0,none⟩)) (K:List Int) (hK:K.length=32) (f:Bool) (h:w.heap[g]?=some (.cells (pairv K f) 25 (0,0))) :
  (execOp a.eval op).run Tryz.prog w=.ok (.value (.agg (kc K))) w :=
 exec_row (P:=Tryz.prog) w 23 x ho g 0 hx (K.map (Value.int .u8)) _ (pairv_key h) Tryz.underlying23 rfl (by rw [Tryz.infoKey,List.length_map,hK])
theorem exec_pf {op:Oper} {a:Act} (w:World) (x:Operand) (ho:op.op=.load 4 x) (g:Nat) (hx:a.eval x=.pointer (some ⟨g,32,none⟩)) (K:List Int) (hK:K.length=32) (f:Bool) (h:w.heap[g]?=some (.cells (pairv K f) 25 (0,0))) :
  (execOp a.eval op).run Tryz.prog w=.ok (.value (.bool f)) w:=by
 have hc:=pairv_flag hK h
 unfold execOp
 simp only [ho,hx,Instr.loadAt,Instr.sureAddr,Sem.run_bind,Sem.run_pure,Result.andThen_ok]
 go_simp
theorem exec_pp {op:Oper} {a:Act} (w:World) (x:Operand) (ho:op.op=.load 25 x) (g:Nat) (hx:a.eval x=.pointer (some ⟨g,0,none⟩)) (K:List Int) (hK:K.length=32) (f:Bool) (h:w.heap[g]?=some (.cells (pairv K f) 25 (0,0))) :
  (execOp a.eval op).run Tryz.prog w=.ok (.value (.agg (pairv K f))) w :=
 exec_arr w 25 x ho g hx (pairv K f) 25 _ h Tryz.underlying25 rfl (by rw [Tryz.infoPair,pairv_size,hK])
set_option maxHeartbeats 4000000 in
theorem inround_ok (r:Int) (hr:0≤r) (K:List Int) (hK:K.length=32) (hKb:IsB K) (f:Bool) (t:ByteArray) (ht:t.size≤1000) (w:World) (hF:Fst w):Calls Tryz.prog 70 #[.agg (pairv K f),.string t,.int .u64 r] w (Derd (okL r K t) w):=by
 obtain ⟨T,hT⟩:∃ T,T=Derd (okL r K t) w:=⟨_,rfl⟩
 rw [← hT]
 replace hT:=hide hT
 obtain ⟨SK,hSK⟩:∃ S,S=pairv K f:=⟨_,rfl⟩
 rw [← hSK]
 replace hSK:=hide hSK
 replace hKb:=hide hKb
 replace hF:=hide hF
 go_enter Tryz.func70,Tryz.ntmps70
 go_upto_region 1 with fail
 have hB:=(((Bl.nil w).new SK 25).new #[.int .u8 0,.int .u8 0,.int .u8 0,.int .u8 0,.int .u8 0,.int .u8 0,.int .u8 0,.int .u8 0,.int .u8 0,.int .u8 0,.int .u8 0,.int .u8 0,.int .u8 0,.int .u8 0,.int .u8 0,.int .u8 0,.int .u8 0,.int .u8 0,.int .u8 0,.int .u8 0,.int .u8 0,.int .u8 0,.int .u8 0,.int .u8 0,.int .u8 0,.int .u8 0,.int .u8 0,.int .u8 0,.int .u8 0,.int .u8 0,.int .u8 0,.int .u8 0] 23)
 simp only [size_alloc,List.nil_append,List.cons_append] at hB
 generalize World.alloc _ _=u at *
 rw [unhide hSK] at hB
 replace hB:Bl w [⟨w.heap.size,pairv K f,25⟩,⟨w.heap.size+1,kc Z32,23⟩] u:=hB
 refine any_start (S:=fun v=>v.heap[w.heap.size]?=some (.cells (pairv K f) 25 (0,0))) (by kernel_rfl) ?_
 replace hB:=hB.drew
 generalize World.drew _=x0 at *
 simp only [List.size_toArray,List.length_cons,List.length_nil,Array.replicate,List.replicate]
 refine any_take (i:=0) (v:=(.pointer (some ⟨w.heap.size,0,none⟩))) #[false,false,false,false,false,false,false,false] rfl (by kernel_rfl) (by kernel_rfl) (by kernel_rfl) (by kernel_rfl) (fun _ _ _ h=>h) (.inl ⟨by kernel_rfl,fun x_ hu=>by kernel_rfl⟩) (hB.get 0 (x:=⟨w.heap.size,pairv K f,25⟩) rfl) ?_
 simp only [nrm]
 refine any_take (i:=1) (v:=(.agg (kc K))) #[true,false,false,false,false,false,false,false] rfl (by kernel_rfl) (by kernel_rfl) (by kernel_rfl) (by kernel_rfl) (fun _ _ _ h=>h) (.inl ⟨by kernel_rfl,fun x_ hu=>exec_pk _ (.tmp 7) rfl (w.heap.size) (by kernel_rfl) K hK f hu⟩) (hB.get 0 (x:=⟨w.heap.size,pairv K f,25⟩) rfl) ?_
 simp only [nrm]
 refine any_take (i:=2) (v:=(.string t)) #[true,true,false,false,false,false,false,false] rfl (by kernel_rfl) (by kernel_rfl) (by kernel_rfl) (by kernel_rfl) (fun _ _ _ h=>h) (.inl ⟨by kernel_rfl,fun x_ hu=>by kernel_rfl⟩) (hB.get 0 (x:=⟨w.heap.size,pairv K f,25⟩) rfl) ?_
 simp only [nrm]
 refine any_take (i:=3) (v:=(.int .u64 r)) #[true,true,true,false,false,false,false,false] rfl (by kernel_rfl) (by kernel_rfl) (by kernel_rfl) (by kernel_rfl) (fun _ _ _ h=>h) (.inl ⟨by kernel_rfl,fun x_ hu=>by kernel_rfl⟩) (hB.get 0 (x:=⟨w.heap.size,pairv K f,25⟩) rfl) ?_
 simp only [nrm]
 refine any_one (i:=4) (by kernel_rfl) rfl (fun K_ hQ=>?_)
 refine step_callw (by kernel_rfl) 69 #[.slice none 0 0,.int .u64 r] (by kernel_rfl) ((put64_ok [] none 0 0 r hr (by omega) x0 (Lb.nil x0)).mono ?_)
 rintro r x1 ⟨gp,rfl,hgp,hpb,hg⟩
 refine ⟨_,rfl,?_⟩
 simp only [List.nil_append] at hpb ⊢
 rw [lowL_len]
 replace hB:=hB.more hg
 have lp:=hide (kc_lb (n:=8) hpb (lowL_len r 8) (lowL_isB r 8) (by omega))
 clear hg hgp hpb
 refine hQ.out _ _ (hB.get 0 (x:=⟨w.heap.size,pairv K f,25⟩) rfl) (fun _=>?_)
 clear hQ K_
 simp only [nrm]
 refine any_one (i:=5) (by kernel_rfl) rfl (fun K_ hQ=>?_)
 replace hB:=hide hB
 replace hQ:=hide hQ
 go_simp
 refine (unhide hQ).out _ _ ?_ (fun _=>?_)
 ·exact ((Gr.refl x1).alloc (.cells #[.slice (some ⟨gp,0,none⟩) 8 8] 43)).blk ((unhide hB).get 0 (x:=⟨w.heap.size,pairv K f,25⟩) rfl)
 clear hQ K_
 have hg:=(Gr.refl x1).alloc (.cells #[.slice (some ⟨gp,0,none⟩) 8 8] 43 (0,0))
 have hnew:=blk_new x1 (.cells #[.slice (some ⟨gp,0,none⟩) 8 8] 43 (0,0))
 replace hB:=(unhide hB).more hg
 replace lp:=hide ((unhide lp).gr hg)
 generalize World.alloc _ _=x2 at *
 generalize x1.heap.size=gq at *
 clear hg
 simp only [nrm]
 refine any_one (i:=6) (by kernel_rfl) rfl (fun K_ hQ=>?_)
 refine step_callw (by kernel_rfl) 85 #[.agg (kc K),.string t,.slice (some ⟨gq,0,none⟩) 1 1] (by kernel_rfl) ((derive_ok K hK (unhide hKb) t ht [lowL r 8] (some ⟨gq,0,none⟩) 1 1 rfl (small_low r) x2 ((unhide hF).gr hB.gr) (Pr.one hnew (unhide lp))).mono ?_)
 rintro r x3 ⟨rfl,hg⟩
 refine ⟨_,rfl,?_⟩
 replace hB:=hB.more hg
 clear hg lp hnew
 obtain ⟨D,hD⟩:∃ D,D=okL r K t:=⟨_,rfl⟩
 rw [show spL K (infoL (tb t) [lowL r 8]) 32=D from hD.symm]
 have hDl:D.length=32:=by rw [hD,okL_len]
 replace hD:=hide hD
 refine hQ.out _ _ (hB.get 0 (x:=⟨w.heap.size,pairv K f,25⟩) rfl) (fun _=>?_)
 clear hQ K_
 simp only [nrm]
 refine any_one (i:=7) (by kernel_rfl) rfl (fun K_ hQ=>?_)
 refine step_storew 23 (.tmp 6) (.tmp 13) (w.heap.size+1) (kc D) 23 (kc Z32) (by kernel_rfl) rfl (by kernel_rfl) (by kernel_rfl) (hB.get 1 (x:=⟨w.heap.size+1,kc Z32,23⟩) rfl) (by rw [Tryz.infoKey,kc_size,hDl]) ((show (kc Z32).size=32 from rfl).trans ((kc_size _).trans hDl).symm) (kc_one _) ?_
 replace hB:=hB.set 1 (x:=⟨w.heap.size+1,kc Z32,23⟩) rfl (kc D)
 simp only [List.set_cons_zero,List.set_cons_succ] at hB
 generalize World.setRow _ _ _=x4 at *
 refine hQ.out _ _ (hB.get 0 (x:=⟨w.heap.size,pairv K f,25⟩) rfl) (fun _=>?_)
 clear hQ K_
 simp only [nrm]
 refine any_done (by kernel_rfl) ?_
 replace hB:=hide hB
 go_wp2_with fail
 replace hB:=unhide hB
 rw [unhide hT]
 exact bodyPost_ret (v:=.agg (kc D)) (results_cell_row Tryz.results70 _ _ (w.heap.size+1) 23 (kc D) (0,0) _ rfl (hB.get 1 (x:=⟨w.heap.size+1,kc D,23⟩) rfl) Tryz.underlying23 rfl (by rw [Tryz.infoKey,kc_size,hDl])) rfl (⟨by rw [unhide hD],hB.gr⟩)
def tFir:ByteArray:=⟨#[102,105,114,115,116]⟩
def tSec:ByteArray:=⟨#[115,101,99,111,110,100]⟩
def tDro:ByteArray:=⟨#[100,114,111,112]⟩
def rkL (r:Int) (K:List Int) (f mine:Bool):List Int:=okL r K (if mine=f then tFir else tSec)
theorem rkL_len (r:Int) (K:List Int) (f mine:Bool):(rkL r K f mine).length=32:=okL_len _ _ _
set_option maxHeartbeats 4000000 in
theorem roundkey_ok (r:Int) (hr:0≤r) (K:List Int) (hK:K.length=32) (hKb:IsB K) (f mine:Bool) (w:World) (hF:Fst w):Calls Tryz.prog 44 #[.agg (pairv K f),.int .u64 r,.bool mine] w (Derd (rkL r K f mine) w):=by
 obtain ⟨T,hT⟩:∃ T,T=Derd (rkL r K f mine) w:=⟨_,rfl⟩
 rw [← hT]
 replace hT:=hide hT
 obtain ⟨SK,hSK⟩:∃ S,S=pairv K f:=⟨_,rfl⟩
 rw [← hSK]
 replace hSK:=hide hSK
 replace hKb:=hide hKb
 replace hF:=hide hF
 go_enter Tryz.func44,Tryz.ntmps44
 go_upto_region 1 with fail
 have hB:=(((Bl.nil w).new SK 25).new #[.int .u8 0,.int .u8 0,.int .u8 0,.int .u8 0,.int .u8 0,.int .u8 0,.int .u8 0,.int .u8 0,.int .u8 0,.int .u8 0,.int .u8 0,.int .u8 0,.int .u8 0,.int .u8 0,.int .u8 0,.int .u8 0,.int .u8 0,.int .u8 0,.int .u8 0,.int .u8 0,.int .u8 0,.int .u8 0,.int .u8 0,.int .u8 0,.int .u8 0,.int .u8 0,.int .u8 0,.int .u8 0,.int .u8 0,.int .u8 0,.int .u8 0,.int .u8 0] 23)
 simp only [size_alloc,List.nil_append,List.cons_append] at hB
 generalize World.alloc _ _=u at *
 rw [unhide hSK] at hB
 replace hB:Bl w [⟨w.heap.size,pairv K f,25⟩,⟨w.heap.size+1,kc Z32,23⟩] u:=hB
 by_cases hmf:mine=f
 ·have hmh:=hide hmf
  clear hmf
  refine wp_region_lit ?_
  refine list_val (.bool mine) (by kernel_rfl) (by kernel_rfl) ?_
  simp only [nrm]
  refine list_val (.pointer (some ⟨w.heap.size,32,none⟩)) (by kernel_rfl) (by kernel_rfl) ?_
  simp only [nrm]
  refine list_val (.bool f) (by kernel_rfl) (exec_pf _ (.tmp 8) rfl (w.heap.size) (by kernel_rfl) K hK f (hB.get 0 (x:=⟨w.heap.size,pairv K f,25⟩) rfl)) ?_
  simp only [nrm]
  refine list_val (.bool true) (by kernel_rfl) (by have h:=unhide hmh; go_simp; try simpa using h) ?_
  simp only [nrm]
  refine wpList_nil ?_
  replace hB:=hide hB
  go_upto_region 2 with fail
  replace hB:=unhide hB
  refine wp_region_lit ?_
  refine list_val (.agg (pairv K f)) (by kernel_rfl) (exec_pp _ (.tmp 3) rfl (w.heap.size) (by kernel_rfl) K hK f (hB.get 0 (x:=⟨w.heap.size,pairv K f,25⟩) rfl)) ?_
  simp only [nrm]
  refine list_val (.int .u64 r) (by kernel_rfl) (by kernel_rfl) ?_
  simp only [nrm]
  refine list_call 70 #[.agg (pairv K f),.string tFir,.int .u64 r] (by kernel_rfl) (by kernel_rfl) ((inround_ok r hr K hK (unhide hKb) f tFir (by decide) u ((unhide hF).gr hB.gr)).mono ?_)
  rintro r_ u1 ⟨rfl,hg⟩
  replace hB:=hB.more hg
  clear hg
  obtain ⟨D,hD⟩:∃ D,D=okL r K tFir:=⟨_,rfl⟩
  have hDl:D.length=32:=by rw [hD,okL_len]
  rw [← hD]
  replace hD:=hide hD
  refine ⟨_,rfl,?_⟩
  simp only [nrm]
  refine list_store 23 (.tmp 6) (.tmp 13) (w.heap.size+1) (kc D) 23 (kc Z32) (by kernel_rfl) rfl (by kernel_rfl) (by kernel_rfl) (hB.get 1 (x:=⟨w.heap.size+1,kc Z32,23⟩) rfl) (by rw [Tryz.infoKey,kc_size,hDl]) (by rw [kc_size,kc_size,hDl]; rfl) (kc_one _) ?_
  replace hB:=hB.set 1 (x:=⟨w.heap.size+1,kc Z32,23⟩) rfl (kc D)
  simp only [List.set_cons_zero,List.set_cons_succ] at hB
  generalize World.setRow _ _ _=u2 at *
  simp only [nrm]
  refine wpList_nil ?_
  have hDr:D=rkL r K f mine:=by
   rw [unhide hD]
   unfold rkL
   rw [if_pos (unhide hmh)]
  replace hDr:=hide hDr
  replace hB:=hide hB
  go_wp2_with fail
  replace hB:=unhide hB
  rw [unhide hT]
  exact bodyPost_ret (v:=.agg (kc D)) (results_cell_row Tryz.results44 _ _ (w.heap.size+1) 23 (kc D) (0,0) _ rfl (hB.get 1 (x:=⟨w.heap.size+1,kc D,23⟩) rfl) Tryz.underlying23 rfl (by rw [Tryz.infoKey,kc_size,hDl])) rfl (⟨by rw [unhide hDr],hB.gr⟩)
 ·have hmh:=hide hmf
  clear hmf
  refine wp_region_lit ?_
  refine list_val (.bool mine) (by kernel_rfl) (by kernel_rfl) ?_
  simp only [nrm]
  refine list_val (.pointer (some ⟨w.heap.size,32,none⟩)) (by kernel_rfl) (by kernel_rfl) ?_
  simp only [nrm]
  refine list_val (.bool f) (by kernel_rfl) (exec_pf _ (.tmp 8) rfl (w.heap.size) (by kernel_rfl) K hK f (hB.get 0 (x:=⟨w.heap.size,pairv K f,25⟩) rfl)) ?_
  simp only [nrm]
  refine list_val (.bool false) (by kernel_rfl) (by have h:=unhide hmh; go_simp; try simpa using h) ?_
  simp only [nrm]
  refine wpList_nil ?_
  replace hB:=hide hB
  go_upto_region 3 with fail
  replace hB:=unhide hB
  refine wp_region_lit ?_
  refine list_val (.agg (pairv K f)) (by kernel_rfl) (exec_pp _ (.tmp 3) rfl (w.heap.size) (by kernel_rfl) K hK f (hB.get 0 (x:=⟨w.heap.size,pairv K f,25⟩) rfl)) ?_
  simp only [nrm]
  refine list_val (.int .u64 r) (by kernel_rfl) (by kernel_rfl) ?_
  simp only [nrm]
  refine list_call 70 #[.agg (pairv K f),.string tSec,.int .u64 r] (by kernel_rfl) (by kernel_rfl) ((inround_ok r hr K hK (unhide hKb) f tSec (by decide) u ((unhide hF).gr hB.gr)).mono ?_)
  rintro r_ u1 ⟨rfl,hg⟩
  replace hB:=hB.more hg
  clear hg
  obtain ⟨D,hD⟩:∃ D,D=okL r K tSec:=⟨_,rfl⟩
  have hDl:D.length=32:=by rw [hD,okL_len]
  rw [← hD]
  replace hD:=hide hD
  refine ⟨_,rfl,?_⟩
  simp only [nrm]
  refine list_store 23 (.tmp 6) (.tmp 16) (w.heap.size+1) (kc D) 23 (kc Z32) (by kernel_rfl) rfl (by kernel_rfl) (by kernel_rfl) (hB.get 1 (x:=⟨w.heap.size+1,kc Z32,23⟩) rfl) (by rw [Tryz.infoKey,kc_size,hDl]) (by rw [kc_size,kc_size,hDl]; rfl) (kc_one _) ?_
  replace hB:=hB.set 1 (x:=⟨w.heap.size+1,kc Z32,23⟩) rfl (kc D)
  simp only [List.set_cons_zero,List.set_cons_succ] at hB
  generalize World.setRow _ _ _=u2 at *
  simp only [nrm]
  refine wpList_nil ?_
  have hDr:D=rkL r K f mine:=by
   rw [unhide hD]
   unfold rkL
   rw [if_neg (unhide hmh)]
  replace hDr:=hide hDr
  replace hB:=hide hB
  go_wp2_with fail
  replace hB:=unhide hB
  rw [unhide hT]
  exact bodyPost_ret (v:=.agg (kc D)) (results_cell_row Tryz.results44 _ _ (w.heap.size+1) 23 (kc D) (0,0) _ rfl (hB.get 1 (x:=⟨w.heap.size+1,kc D,23⟩) rfl) Tryz.underlying23 rfl (by rw [Tryz.infoKey,kc_size,hDl])) rfl (⟨by rw [unhide hDr],hB.gr⟩)
def drL (r:Int) (K:List Int):List Int:=(okL r K tDro).take 16
theorem drL_len (r:Int) (K:List Int):(drL r K).length=16:=by unfold drL; rw [List.length_take,okL_len]; rfl
def Drd (D:List Int) (w:World) (r:Ending) (w':World):Prop:=r=.returned (.agg (kc D))∧Gr w w'
def ZD16:List Int:=List.replicate 16 0
theorem Bl.copy16 {w v:World} {L:List Blk} (h:Bl w L v) (k:Nat) {g:Nat} {Z D:List Int} (hk:L[k]?=some ⟨g,kc Z,33⟩) (hZ:Z.length=16) (hD:D.length=16):Bl w (L.set k ⟨g,kc D,33⟩) (v.setCells g 0 (D.map (Value.int .u8))):=by
 have hv:=setCells_heap (D.map (Value.int .u8)) v g 0 (Z.map (Value.int .u8)) 33 (h.get k hk)
 rw [sp_kc D Z (by omega),List.drop_eq_nil_of_le (by omega),List.append_nil] at hv
 exact h.but (setCells_bt (D.map (Value.int .u8)) v g 0) k hk rfl hv
set_option maxHeartbeats 4000000 in
theorem drop_ok (r:Int) (hr:0≤r) (K:List Int) (hK:K.length=32) (hKb:IsB K) (f:Bool) (w:World) (hF:Fst w):Calls Tryz.prog 43 #[.agg (pairv K f),.int .u64 r] w (Drd (drL r K) w):=by
 obtain ⟨T,hT⟩:∃ T,T=Drd (drL r K) w:=⟨_,rfl⟩
 rw [← hT]
 replace hT:=hide hT
 obtain ⟨SK,hSK⟩:∃ S,S=pairv K f:=⟨_,rfl⟩
 rw [← hSK]
 replace hSK:=hide hSK
 replace hKb:=hide hKb
 replace hF:=hide hF
 go_enter Tryz.func43,Tryz.ntmps43
 go_upto_region 2 with fail
 have hB:=((((Bl.nil w).new SK 25).new #[.int .u8 0,.int .u8 0,.int .u8 0,.int .u8 0,.int .u8 0,.int .u8 0,.int .u8 0,.int .u8 0,.int .u8 0,.int .u8 0,.int .u8 0,.int .u8 0,.int .u8 0,.int .u8 0,.int .u8 0,.int .u8 0] 33).new #[.int .u8 0,.int .u8 0,.int .u8 0,.int .u8 0,.int .u8 0,.int .u8 0,.int .u8 0,.int .u8 0,.int .u8 0,.int .u8 0,.int .u8 0,.int .u8 0,.int .u8 0,.int .u8 0,.int .u8 0,.int .u8 0] 33)
 simp only [size_alloc,List.nil_append,List.cons_append] at hB
 generalize World.alloc _ _=u at *
 rw [unhide hSK] at hB
 replace hB:Bl w [⟨w.heap.size,pairv K f,25⟩,⟨w.heap.size+1,kc ZD16,33⟩,⟨w.heap.size+1+1,kc ZD16,33⟩] u:=hB
 refine wp_region_lit ?_
 refine list_val (.agg (pairv K f)) (by kernel_rfl) (exec_pp _ (.tmp 2) rfl (w.heap.size) (by kernel_rfl) K hK f (hB.get 0 (x:=⟨w.heap.size,pairv K f,25⟩) rfl)) ?_
 simp only [nrm]
 refine list_val (.int .u64 r) (by kernel_rfl) (by kernel_rfl) ?_
 simp only [nrm]
 refine list_call 70 #[.agg (pairv K f),.string tDro,.int .u64 r] (by kernel_rfl) (by kernel_rfl) ((inround_ok r hr K hK (unhide hKb) f tDro (by decide) u ((unhide hF).gr hB.gr)).mono ?_)
 rintro r_ u1 ⟨rfl,hg⟩
 replace hB:=hB.more hg
 clear hg
 have hDD:drL r K=(okL r K tDro).take 16:=rfl
 obtain ⟨D,hD⟩:∃ D,D=okL r K tDro:=⟨_,rfl⟩
 have hDl:D.length=32:=by rw [hD,okL_len]
 rw [← hD] at hDD ⊢
 clear hD
 replace hDD:=hide hDD
 refine ⟨_,rfl,?_⟩
 simp only [nrm]
 refine list_valw (.pointer (some ⟨u1.heap.size,0,none⟩)) (u1.alloc (.cells (kc Z32) 23 (0,0))) (by kernel_rfl) (by kernel_rfl) ?_
 replace hB:=hB.new (kc Z32) 23
 simp only [List.nil_append,List.cons_append] at hB
 generalize World.alloc _ _=u2 at *
 generalize u1.heap.size=gs at *
 replace hB:Bl w [⟨w.heap.size,pairv K f,25⟩,⟨w.heap.size+1,kc ZD16,33⟩,⟨w.heap.size+1+1,kc ZD16,33⟩,⟨gs,kc Z32,23⟩] u2:=hB
 simp only [nrm]
 refine list_store 23 (.tmp 6) (.tmp 9) gs (kc D) 23 (kc Z32) (by kernel_rfl) rfl (by kernel_rfl) (by kernel_rfl) (hB.get 3 (x:=⟨gs,kc Z32,23⟩) rfl) (by rw [Tryz.infoKey,kc_size,hDl]) (by rw [kc_size,kc_size,hDl]; rfl) (kc_one _) ?_
 replace hB:=hB.set 3 (x:=⟨gs,kc Z32,23⟩) rfl (kc D)
 simp only [List.set_cons_zero,List.set_cons_succ] at hB
 generalize World.setRow _ _ _=u3 at *
 simp only [nrm]
 refine wpList_nil ?_
 replace hB:=hide hB
 go_upto_region 3 with fail
 replace hB:=unhide hB
 refine any_start (S:=fun (_:World)=>True) (by kernel_rfl) ?_
 replace hB:=hB.drew
 generalize World.drew _=x0 at *
 simp only [List.size_toArray,List.length_cons,List.length_nil,Array.replicate,List.replicate]
 refine any_take (i:=0) (v:=(.slice (some ⟨w.heap.size+1+1,0,none⟩) 16 16)) #[false,false,false] rfl (by kernel_rfl) (by kernel_rfl) (by kernel_rfl) (by kernel_rfl) (fun _ _ _ h=>h) (.inl ⟨by kernel_rfl,fun x_ hu=>by kernel_rfl⟩) trivial ?_
 simp only [nrm]
 refine any_take (i:=1) (v:=(.slice (some ⟨gs,0,none⟩) 32 32)) #[true,false,false] rfl (by kernel_rfl) (by kernel_rfl) (by kernel_rfl) (by kernel_rfl) (fun _ _ _ h=>h) (.inl ⟨by kernel_rfl,fun x_ hu=>by kernel_rfl⟩) trivial ?_
 simp only [nrm]
 refine any_one (i:=2) (by kernel_rfl) rfl (fun K_ hQ=>?_)
 obtain ⟨E,hE⟩:∃ E,E=D.take 16:=⟨_,rfl⟩
 have hEl:E.length=16:=by rw [hE,List.length_take,hDl]; rfl
 have hEa:=(kc_at (hB.get 3 (x:=⟨gs,kc D,23⟩) rfl)).take 16
 rw [← hE] at hEa
 rw [← hE] at hDD
 clear hE
 rw [if_pos (by kernel_rfl)]
 refine copy_wp (.tmp 10) (.tmp 11) rfl (w.heap.size+1+1) 0 16 16 (some ⟨gs,0,none⟩) 32 32 (by kernel_rfl) (by kernel_rfl) (ZD16.map (Value.int .u8)) 33 (hB.get 2 (x:=⟨w.heap.size+1+1,kc ZD16,33⟩) rfl) E (by rw [hEl]; rfl) (.inr ⟨gs,0,rfl,hEa⟩) (by rw [hEl]; decide) ?_
 replace hB:=hB.copy16 2 (Z:=ZD16) (D:=E) rfl rfl hEl
 simp only [List.set_cons_zero,List.set_cons_succ] at hB
 refine hQ.out _ _ trivial (fun _=>?_)
 clear hQ K_
 generalize World.setCells _ _ _ _=y3 at *
 try simp only [nrm]
 refine any_done (by kernel_rfl) ?_
 replace hB:=hide hB
 go_upto_region 4 with fail
 replace hB:=unhide hB
 refine wp_region_lit ?_
 refine list_val (.agg (kc E)) (by kernel_rfl) (exec_arr _ 33 (.tmp 5) rfl (w.heap.size+1+1) (by kernel_rfl) (kc E) 33 _ (hB.get 2 (x:=⟨w.heap.size+1+1,kc E,33⟩) rfl) Tryz.underlying33 rfl (by rw [Tryz.infoDrop,kc_size,hEl])) ?_
 simp only [nrm]
 refine list_store 33 (.tmp 4) (.tmp 13) (w.heap.size+1) (kc E) 33 (kc ZD16) (by kernel_rfl) rfl (by kernel_rfl) (by kernel_rfl) (hB.get 1 (x:=⟨w.heap.size+1,kc ZD16,33⟩) rfl) (by rw [Tryz.infoDrop,kc_size,hEl]) (by rw [kc_size,kc_size,hEl]; rfl) (kc_one _) ?_
 replace hB:=hB.set 1 (x:=⟨w.heap.size+1,kc ZD16,33⟩) rfl (kc E)
 simp only [List.set_cons_zero,List.set_cons_succ] at hB
 generalize World.setRow _ _ _=y4 at *
 simp only [nrm]
 refine wpList_nil ?_
 replace hB:=hide hB
 go_wp2_with fail
 replace hB:=unhide hB
 rw [unhide hT]
 exact bodyPost_ret (v:=.agg (kc E)) (results_cell_row Tryz.results43 _ _ (w.heap.size+1) 33 (kc E) (0,0) _ rfl (hB.get 1 (x:=⟨w.heap.size+1,kc E,33⟩) rfl) Tryz.underlying33 rfl (by rw [Tryz.infoDrop,kc_size,hEl])) rfl (⟨by rw [unhide hDD],hB.gr⟩)
theorem blk_ne {w:World} {g g':Nat} {c c':Array Value} {t t':TypeId} (h:w.heap[g]?=some (.cells c t (0,0))) (h':w.heap[g']?=some (.cells c' t' (0,0))) (ht:t≠t'):g≠g':=by
 rintro rfl
 rw [h] at h'
 injection h' with h'
 injection h' with _ h'' _
 exact ht h''
def NKe (b:Nat) (u:World) (q:Value):Prop:=∃ g,q=.pointer (some ⟨g,0,none⟩)∧b≤g∧u.heap[g]?=some (.cells (kc Z32) 23 (0,0))
theorem NKe.gr {b:Nat} {u v:World} {q:Value} (h:NKe b u q) (k:Gr u v):NKe b v q:=by
 obtain ⟨g,h1,h2,h3⟩:=h
 exact ⟨g,h1,h2,k.blk h3⟩
theorem Ob.lb' {b:Nat} {w:World} {v:Value} {L:List Int} (h:Ob b w v L) (hL:IsB L) (n:Nat) (hn:L.length=n):∃ a c,v=.slice a n c∧Lb w a n c L:=by
 obtain ⟨a,c,h1,h2,h3,h4⟩:=h.slice
 subst hn
 exact ⟨a,c,h1,rfl,hL,h4,h2,by unfold maxLen at h3; omega⟩
set_option maxHeartbeats 4000000 in
theorem rderive_ok (Ky:List Int) (hKl:Ky.length=32) (hKb:IsB Ky) (t:ByteArray) (ht:t.size≤1000) (ps:List (List Int)) (ap:Option Addr) (m cp:Nat) (hm:ps.length=m) (hp:small4 ps) (w:World) (hF:Fst w) (hP:Pr w ap ps):Calls Tryz.prog 46 #[.agg (kc Ky),.string t,.slice ap m cp] w (Derd (spL Ky (infoL (tb t) ps) 32) w):=by
 obtain ⟨T,hT⟩:∃ T,T=Derd (spL Ky (infoL (tb t) ps) 32) w:=⟨_,rfl⟩
 rw [← hT]
 replace hT:=hide hT
 obtain ⟨SK,hSK⟩:∃ S,S=kc Ky:=⟨_,rfl⟩
 rw [← hSK]
 replace hSK:=hide hSK
 replace hKb:=hide hKb
 replace hF:=hide hF
 replace hP:=hide hP
 go_enter Tryz.func46,Tryz.ntmps46
 go_upto_region 1 with fail
 have hB:=(((Bl.nil w).new SK 23).new #[.int .u8 0,.int .u8 0,.int .u8 0,.int .u8 0,.int .u8 0,.int .u8 0,.int .u8 0,.int .u8 0,.int .u8 0,.int .u8 0,.int .u8 0,.int .u8 0,.int .u8 0,.int .u8 0,.int .u8 0,.int .u8 0,.int .u8 0,.int .u8 0,.int .u8 0,.int .u8 0,.int .u8 0,.int .u8 0,.int .u8 0,.int .u8 0,.int .u8 0,.int .u8 0,.int .u8 0,.int .u8 0,.int .u8 0,.int .u8 0,.int .u8 0,.int .u8 0] 23)
 simp only [size_alloc,List.nil_append,List.cons_append] at hB
 generalize World.alloc _ _=u at *
 rw [unhide hSK] at hB
 replace hB:Bl w [⟨w.heap.size,kc Ky,23⟩,⟨w.heap.size+1,kc Z32,23⟩] u:=hB
 refine wp_region_lit ?_
 refine list_val (.agg (kc Ky)) (by kernel_rfl) (exec_arr _ 23 (.tmp 3) rfl (w.heap.size) (by kernel_rfl) (kc Ky) 23 _ (hB.get 0 (x:=⟨w.heap.size,kc Ky,23⟩) rfl) Tryz.underlying23 rfl (by rw [Tryz.infoKey,kc_size,hKl])) ?_
 simp only [nrm]
 refine list_val (.string t) (by kernel_rfl) (by kernel_rfl) ?_
 simp only [nrm]
 refine list_val (.slice ap m cp) (by kernel_rfl) (by kernel_rfl) ?_
 simp only [nrm]
 refine list_call 73 #[.agg (kc Ky),.string t,.slice ap m cp] (by kernel_rfl) (by kernel_rfl) ((rtwo_ok Ky hKl (unhide hKb) t ht ps ap m cp hm hp u ((unhide hF).gr hB.gr) ((unhide hP).gr hB.gr)).mono ?_)
 rintro r_ u1 ⟨rfl,hg⟩
 replace hB:=hB.more hg
 clear hg
 have hfe:=spL_fewer Ky (infoL (tb t) ps) 32 64 (by omega)
 obtain ⟨D,hD⟩:∃ D,D=(spL Ky (infoL (tb t) ps) 64).take 32:=⟨_,rfl⟩
 obtain ⟨E,hE⟩:∃ D,D=(spL Ky (infoL (tb t) ps) 64).drop 32:=⟨_,rfl⟩
 have hDl:D.length=32:=by rw [hD,List.length_take,spL_len]; rfl
 have hEl:E.length=32:=by rw [hE,List.length_drop,spL_len]
 rw [← hD] at hfe
 rw [← hD,← hE]
 replace hfe:=hide hfe
 clear hD hE
 refine ⟨_,rfl,?_⟩
 simp only [nrm]
 refine list_val (.tuple #[.agg (kc D),.agg (kc E)]) (by kernel_rfl) (by kernel_rfl) ?_
 simp only [nrm]
 refine list_val (.agg (kc D)) (by kernel_rfl) (by kernel_rfl) ?_
 simp only [nrm]
 refine list_val (.agg (kc E)) (by kernel_rfl) (by kernel_rfl) ?_
 simp only [nrm]
 refine list_valw (.pointer (some ⟨u1.heap.size,0,none⟩)) (u1.alloc (.cells (kc Z32) 23 (0,0))) (by kernel_rfl) (by kernel_rfl) ?_
 replace hB:=hB.new (kc Z32) 23
 simp only [List.nil_append,List.cons_append] at hB
 generalize World.alloc _ _=u2 at *
 generalize u1.heap.size=gd at *
 replace hB:Bl w [⟨w.heap.size,kc Ky,23⟩,⟨w.heap.size+1,kc Z32,23⟩,⟨gd,kc Z32,23⟩] u2:=hB
 simp only [nrm]
 refine list_valw (.pointer (some ⟨u2.heap.size,0,none⟩)) (u2.alloc (.cells (kc Z32) 23 (0,0))) (by kernel_rfl) (by kernel_rfl) ?_
 replace hB:=hB.new (kc Z32) 23
 simp only [List.nil_append,List.cons_append] at hB
 generalize World.alloc _ _=u3 at *
 generalize u2.heap.size=ge at *
 replace hB:Bl w [⟨w.heap.size,kc Ky,23⟩,⟨w.heap.size+1,kc Z32,23⟩,⟨gd,kc Z32,23⟩,⟨ge,kc Z32,23⟩] u3:=hB
 simp only [nrm]
 refine list_store 23 (.tmp 7) (.tmp 14) (gd) (kc D) 23 (kc Z32) (by kernel_rfl) rfl (by kernel_rfl) (by kernel_rfl) (hB.get 2 (x:=⟨gd,kc Z32,23⟩) rfl) (by rw [Tryz.infoKey,kc_size,hDl]) (by rw [kc_size,kc_size,hDl]; rfl) (kc_one _) ?_
 replace hB:=hB.set 2 (x:=⟨gd,kc Z32,23⟩) rfl (kc D)
 simp only [List.set_cons_zero,List.set_cons_succ] at hB
 generalize World.setRow _ _ _=u4 at *
 simp only [nrm]
 refine list_store 23 (.tmp 8) (.tmp 15) (ge) (kc E) 23 (kc Z32) (by kernel_rfl) rfl (by kernel_rfl) (by kernel_rfl) (hB.get 3 (x:=⟨ge,kc Z32,23⟩) rfl) (by rw [Tryz.infoKey,kc_size,hEl]) (by rw [kc_size,kc_size,hEl]; rfl) (kc_one _) ?_
 replace hB:=hB.set 3 (x:=⟨ge,kc Z32,23⟩) rfl (kc E)
 simp only [List.set_cons_zero,List.set_cons_succ] at hB
 generalize World.setRow _ _ _=u5 at *
 simp only [nrm]
 refine wpList_nil ?_
 replace hB:=hide hB
 go_upto_region 2 with fail
 replace hB:=unhide hB
 refine wp_region_lit ?_
 refine list_val (.agg (kc D)) (by kernel_rfl) (exec_arr _ 23 (.tmp 7) rfl (gd) (by kernel_rfl) (kc D) 23 _ (hB.get 2 (x:=⟨gd,kc D,23⟩) rfl) Tryz.underlying23 rfl (by rw [Tryz.infoKey,kc_size,hDl])) ?_
 simp only [nrm]
 refine list_store 23 (.tmp 6) (.tmp 16) (w.heap.size+1) (kc D) 23 (kc Z32) (by kernel_rfl) rfl (by kernel_rfl) (by kernel_rfl) (hB.get 1 (x:=⟨w.heap.size+1,kc Z32,23⟩) rfl) (by rw [Tryz.infoKey,kc_size,hDl]) (by rw [kc_size,kc_size,hDl]; rfl) (kc_one _) ?_
 replace hB:=hB.set 1 (x:=⟨w.heap.size+1,kc Z32,23⟩) rfl (kc D)
 simp only [List.set_cons_zero,List.set_cons_succ] at hB
 generalize World.setRow _ _ _=u6 at *
 simp only [nrm]
 refine wpList_nil ?_
 replace hB:=hide hB
 go_wp2_with fail
 replace hB:=unhide hB
 rw [unhide hT]
 exact bodyPost_ret (v:=.agg (kc D)) (results_cell_row Tryz.results46 _ _ (w.heap.size+1) 23 (kc D) (0,0) _ rfl (hB.get 1 (x:=⟨w.heap.size+1,kc D,23⟩) rfl) Tryz.underlying23 rfl (by rw [Tryz.infoKey,kc_size,hDl])) rfl (⟨by rw [unhide hfe],hB.gr⟩)
end Go.Proofs.YthahhglbeafkmaaGreatDoor
namespace Go.Proofs.YthahhglbeafkmaaGreatDoor
open Go.RowKit
set_option maxRecDepth 100000
set_option linter.unusedSimpArgs false
set_option linter.unusedVariables false
def bw (b:List Int):List Value:=b.map (Value.int .u8)
theorem bw_len (b:List Int):(bw b).length=b.length:=by unfold bw; simp
theorem bw_one (b:List Int):(bw b).toArray.all (·.oneCell')=true:=by unfold bw; simp [Value.oneCell']
def fl (S:List (List Value)):Array Value:=S.flatten.toArray
theorem fl_split {S:List (List Value)} {i:Nat} {s:List Value} (h:S[i]?=some s):S.flatten=(S.take i).flatten++(s++(S.drop (i+1)).flatten):=by
 have e:S=S.take i++(s::S.drop (i+1)):=by
  have h1:i<S.length:=(List.getElem?_eq_some_iff.1 h).1
  have h2:=(List.getElem?_eq_some_iff.1 h).2
  rw [← h2,← List.drop_eq_getElem_cons h1,List.take_append_drop]
 conv=>lhs; rw [e]
 simp
theorem plen:∀ (S:List (List Value)) (N:List Nat),S.map List.length=N→∀ i,(S.take i).flatten.length=(N.take i).sum
 | [],N,h,i=>by subst h; simp
 | s::S,N,h,0=>by simp
 | s::S,N,h,i+1=>by
  subst h
  simp only [List.take_succ_cons,List.flatten_cons,List.length_append,List.map_cons,List.sum_cons]
  rw [plen S _ rfl i]
theorem fl_size {S:List (List Value)} {N:List Nat} (h:S.map List.length=N):(fl S).size=N.sum:=by
 have h1:=plen S N h S.length
 rw [List.take_length] at h1
 have:N.take S.length=N:=List.take_of_length_le (by rw [← h]; simp)
 rw [this] at h1
 unfold fl
 simpa using h1
theorem seg_range {S:List (List Value)} {N:List Nat} (hN:S.map List.length=N) {w:World} {g:Nat} {t:TypeId} (h:w.heap[g]?=some (.cells (fl S) t (0,0))) (i:Nat) {s:List Value} (hi:S[i]?=some s) {o:Nat} (ho:(N.take i).sum=o):w.rangeAt g o s:=fun j x hj=>by
 refine cell_of h ?_
 have hlt:=(List.getElem?_eq_some_iff.1 hj).1
 have hp:=plen S N hN i
 unfold fl
 rw [List.getElem?_toArray,fl_split hi,List.getElem?_append_right (by omega),List.getElem?_append_left (by omega),← hj]
 congr 1
 omega
theorem seg_cell {S:List (List Value)} {N:List Nat} (hN:S.map List.length=N) {w:World} {g:Nat} {t:TypeId} (h:w.heap[g]?=some (.cells (fl S) t (0,0))) (i:Nat) {v:Value} (hi:S[i]?=some [v]) {o:Nat} (ho:(N.take i).sum=o):w.cell? ⟨g,o,none⟩=some v :=
 seg_range hN h i hi ho 0 v rfl
theorem exec_sw {op:Oper} {a:Act} (w:World) (ty:TypeId) (x:Operand) (ho:op.op=.load ty x) (g:Nat) (hx:a.eval x=.pointer (some ⟨g,0,none⟩)) {S:List (List Value)} {t:TypeId} (h:w.heap[g]?=some (.cells (fl S) t (0,0))) (N:List Nat) (hN:S.map List.length=N) {d:TypeDesc} (hu:Tryz.prog.underlying ty=some d) (hd:d.isRow=true) (hi:(Tryz.prog.info? ty).map (·.size)=some N.sum) :
  (execOp a.eval op).run Tryz.prog w=.ok (.value (.agg (fl S))) w :=
 exec_arr w ty x ho g hx (fl S) t d h hu hd (by rw [hi,fl_size hN])
theorem exec_c32 {op:Oper} {a:Act} (w:World) (x:Operand) (ho:op.op=.load 27 x) (g i:Nat) (hx:a.eval x=.pointer (some ⟨g,i,none⟩)) (v:Int) (hc:w.cell? ⟨g,i,none⟩=some (.int .u32 v)):(execOp a.eval op).run Tryz.prog w=.ok (.value (.int .u32 v)) w:=by
 unfold execOp
 simp only [ho,hx,Instr.loadAt,Instr.sureAddr,Sem.run_bind,Sem.run_pure,Result.andThen_ok]
 go_simp
theorem exec_cb {op:Oper} {a:Act} (w:World) (x:Operand) (ho:op.op=.load 4 x) (g i:Nat) (hx:a.eval x=.pointer (some ⟨g,i,none⟩)) (v:Bool) (hc:w.cell? ⟨g,i,none⟩=some (.bool v)):(execOp a.eval op).run Tryz.prog w=.ok (.value (.bool v)) w:=by
 unfold execOp
 simp only [ho,hx,Instr.loadAt,Instr.sureAddr,Sem.run_bind,Sem.run_pure,Result.andThen_ok]
 go_simp
theorem fold_mid (off:Nat):∀ (vs A M D:List Value) (k:Nat),A.length=off+k→vs.length=M.length→(vs.zipIdx k).foldl (fun cs x=>cs.setIfInBounds (off+x.2) x.1) (A++(M++D)).toArray=(A++(vs++D)).toArray
 | [],A,[],D,_,_,_=>by simp
 | [],_,_::_,_,_,_,h=>by simp at h
 | _::_,_,[],_,_,_,h=>by simp at h
 | v::vs,A,m::M,D,k,hA,h=>by
  rw [List.zipIdx_cons,List.foldl_cons]
  have e:(A++(m::M++D)).toArray.setIfInBounds (off+k) v=((A++[v])++(M++D)).toArray:=by
   rw [List.setIfInBounds_toArray,← hA]
   simp
  show List.foldl _ ((A++(m::M++D)).toArray.setIfInBounds (off+k) v) _=_
  rw [e,fold_mid off vs (A++[v]) M D (k+1) (by simp [hA]; omega) (by simpa using h)]
  simp
theorem seg_set {S:List (List Value)} {N:List Nat} (hN:S.map List.length=N) (i:Nat) (vs:List Value) (hi:N[i]?=some vs.length):sp S.flatten (N.take i).sum vs=(S.set i vs).flatten:=by
 have hl:i<S.length:=by
  have:=(List.getElem?_eq_some_iff.1 hi).1
  rw [← hN] at this
  simpa using this
 have hs:S[i]?=some S[i]:=List.getElem?_eq_getElem hl
 have hvl:vs.length=(S[i]).length:=by
  have h1:=congrArg (·[i]?) hN
  simp only [List.getElem?_map,hs,hi,Option.map_some,Option.some.injEq] at h1
  exact h1.symm
 have hp:=plen S N hN i
 rw [fl_split hs,← hp,sp_mid _ _ _ _ hvl]
 have h2:(S.set i vs)[i]?=some vs:=by rw [List.getElem?_set_self hl]
 rw [fl_split h2,List.take_set_of_le (Nat.le_refl _),List.drop_set_of_lt (Nat.lt_succ_self _)]
theorem Bl.cells {w v:World} {L:List Blk} (h:Bl w L v) (b:Nat) {g:Nat} {C:List Value} {t:TypeId} (hb:L[b]?=some ⟨g,C.toArray,t⟩) (o:Nat) (vs:List Value):Bl w (L.set b ⟨g,(sp C o vs).toArray,t⟩) (v.setCells g o vs) :=
 h.but (setCells_bt vs v g o) b hb rfl (setCells_heap vs v g o C t (h.get b hb))
section
variable {N:List Nat} {ops:Array Oper} {Q:Exit→Act→World→Prop} {a:Act} {w w0:World} {o:Oper} {rest:List Oper} {L:List Blk} {S:List (List Value)} {t:TypeId} {K:Act→World→Prop}
theorem step_seg (ty:TypeId) (x y:Operand) (g off:Nat) (vs:List Value) (hw:Region.wanted o (yielded ops a.tmps)=true) (ho:o.op=.store ty x y)
  (hx:a.eval x=.pointer (some ⟨g,off,none⟩)) (hy:a.eval y=.agg vs.toArray) (hB:Bl w0 L w) (b:Nat) (hb:L[b]?=some ⟨g,fl S,t⟩) (N:List Nat) (hN:S.map List.length=N) (i:Nat) (hi:N[i]?=some vs.length) (hof:(N.take i).sum=off)
  (hn:(Tryz.prog.info? ty).map (·.size)=some vs.length) (h1:vs.toArray.all (·.oneCell')=true)
  (h:∀ v,Bl w0 (L.set b ⟨g,fl (S.set i vs),t⟩) v→Bt g w v→K (a.put o.dst undef) v):if Region.wanted o (yielded ops a.tmps)=true then Oper.wp Tryz.prog o a w K Q else K (a.put o.dst undef) w:=by
 have hB2:=hB.cells b (C:=S.flatten) hb off vs
 rw [← hof,seg_set hN i vs hi] at hB2
 have hl:i<N.length:=(List.getElem?_eq_some_iff.1 hi).1
 have hle:off+vs.length≤S.flatten.length:=by
  have e1:=fl_size hN
  have e2:(N.take (i+1)).sum=(N.take i).sum+vs.length:=by
   rw [List.take_add_one,hi]; simp
  have e3:(N.take (i+1)).sum≤N.sum:=by
   conv=>rhs; rw [← List.take_append_drop (i+1) N,List.sum_append]
   omega
  have e4:(fl S).size=S.flatten.length:=by unfold fl; simp
  omega
 refine list_store_mid ty x y g off vs.toArray hw ho hx hy (there_of (hB.get b hb) (by simpa using hle)) (by rw [hn]; simp) h1 ?_
 exact (h _ (by rw [← hof]; exact hB2) (setCells_bt _ _ _ _))
end
section
variable {N:List Nat} {ops:Array Oper} {Q:Exit→Act→World→Prop} {a:Act} {w w0:World} {o:Oper} {rest:List Oper} {L:List Blk} {S:List (List Value)} {t:TypeId} {K:Act→World→Prop}
theorem list_seg (ty:TypeId) (x y:Operand) (g off:Nat) (vs:List Value) (hw:Region.wanted o (yielded ops a.tmps)=true) (ho:o.op=.store ty x y)
  (hx:a.eval x=.pointer (some ⟨g,off,none⟩)) (hy:a.eval y=.agg vs.toArray) (hB:Bl w0 L w) (b:Nat) (hb:L[b]?=some ⟨g,fl S,t⟩) (N:List Nat) (hN:S.map List.length=N) (i:Nat) (hi:N[i]?=some vs.length) (hof:(N.take i).sum=off)
  (hn:(Tryz.prog.info? ty).map (·.size)=some vs.length) (h1:vs.toArray.all (·.oneCell')=true)
  (h:∀ v,Bl w0 (L.set b ⟨g,fl (S.set i vs),t⟩) v→Bt g w v→wpList Tryz.prog ops Q rest (a.put o.dst undef) v):wpList Tryz.prog ops Q (o::rest) a w :=
 wpList_step fun K hK=>step_seg ty x y g off vs hw ho hx hy hB b hb N hN i hi hof hn h1 fun v hv hb=>hK _ _ (h v hv hb)
end
section
variable {N:List Nat} {ops:Array Oper} {Q:Exit→Act→World→Prop} {a:Act} {w w0:World} {o:Oper} {rest:List Oper} {L:List Blk} {S:List (List Value)} {t:TypeId} {K:Act→World→Prop}
end
section
variable {N:List Nat} {ops:Array Oper} {Q:Exit→Act→World→Prop} {a:Act} {w w0:World} {o:Oper} {rest:List Oper} {L:List Blk} {S:List (List Value)} {t:TypeId} {K:Act→World→Prop}
end
section
variable {N:List Nat} {ops:Array Oper} {Q:Exit→Act→World→Prop} {a:Act} {w w0:World} {o:Oper} {rest:List Oper} {L:List Blk} {S:List (List Value)} {t:TypeId} {K:Act→World→Prop}
end
theorem wpList_gen {P:Program} {ops:Array Oper} {Q:Exit→Act→World→Prop} {l:List Oper} {a:Act} {w:World} (h:∀ ops',ops'=ops→wpList P ops' Q l a w):wpList P ops Q l a w:=h ops rfl
theorem list_off {P:Program} {ops:Array Oper} {Q:Exit→Act→World→Prop} {a:Act} {w:World} {o:Oper} {rest:List Oper} (hw:Region.wanted o (yielded ops a.tmps)=false) (h:wpList P ops Q rest (a.put o.dst undef) w):wpList P ops Q (o::rest) a w:=by
 refine wpList_step fun K hK=>?_
 rw [if_neg (ne_true_of_eq_false hw)]
 exact hK _ _ h
theorem fill_seg {place:Nat→Option (Nat × Nat)} {S:List (List Value)} {N:List Nat} (hN:S.map List.length=N) {v:Value} {vs:List Value} (hv:v.cells=vs.toArray) (k i:Nat) (hp:place k=some ((N.take i).sum,vs.length)) (hi:N[i]?=some vs.length) (rest:List (Nat × Value)) :
  Instr.fill place (fl S) ((k,v)::rest)=Instr.fill place (fl (S.set i vs)) rest:=by
 have hl:i<S.length:=by
  have:=(List.getElem?_eq_some_iff.1 hi).1
  rw [← hN] at this
  simpa using this
 have hs:S[i]?=some S[i]:=List.getElem?_eq_getElem hl
 have hvl:vs.length=(S[i]).length:=by
  have h1:=congrArg (·[i]?) hN
  simp only [List.getElem?_map,hs,hi,Option.map_some,Option.some.injEq] at h1
  exact h1.symm
 have hp2:=plen S N hN i
 have e:=fold_mid ((N.take i).sum) vs (S.take i).flatten S[i] (S.drop (i+1)).flatten 0 (by omega) hvl
 have h2:(S.set i vs)[i]?=some vs:=by rw [List.getElem?_set_self hl]
 have e2:=fl_split h2
 rw [List.take_set_of_le (Nat.le_refl _),List.drop_set_of_lt (Nat.lt_succ_self _)] at e2
 rw [Instr.fill,hp,hv]
 simp only
 rw [if_neg]
 ·rw [show fl S=((S.take i).flatten++(S[i]++(S.drop (i+1)).flatten)).toArray from by unfold fl; rw [← fl_split hs]]
  have e3:(vs.toArray.zipIdx.foldl (fun cs (x:Value × Nat)=>cs.setIfInBounds ((N.take i).sum+x.2) x.1) ((S.take i).flatten++(S[i]++(S.drop (i+1)).flatten)).toArray)=(fl (S.set i vs)):=by
   unfold fl
   rw [e2,← e]
   simp
  rw [← e3]
 ·have e1:=fl_size hN
  have e4:(N.take (i+1)).sum=(N.take i).sum+vs.length:=by
   rw [List.take_add_one,hi]; simp
  have e5:(N.take (i+1)).sum≤N.sum:=by
   conv=>rhs; rw [← List.take_append_drop (i+1) N,List.sum_append]
   omega
  simp
  omega
theorem u8_one (x:Int):(Value.int .u8 x).oneCell'=true:=rfl
theorem step_all {ops:Array Oper} {Q:Exit→Act→World→Prop} {a:Act} {w w0:World} {o:Oper} {L:List Blk} {S S2:List (List Value)} {t:TypeId} {K:Act→World→Prop} (ty:TypeId) (x y:Operand) (g:Nat) (hw:Region.wanted o (yielded ops a.tmps)=true) (ho:o.op=.store ty x y)
  (hx:a.eval x=.pointer (some ⟨g,0,none⟩)) (hy:a.eval y=.agg (fl S2)) (hB:Bl w0 L w) (b:Nat) (hb:L[b]?=some ⟨g,fl S,t⟩) (N:List Nat) (hN:S.map List.length=N) (hN2:S2.map List.length=N)
  (hn:(Tryz.prog.info? ty).map (·.size)=some N.sum) (h1:(fl S2).all (·.oneCell')=true)
  (h:∀ v,Bl w0 (L.set b ⟨g,fl S2,t⟩) v→Bt g w v→K (a.put o.dst undef) v):if Region.wanted o (yielded ops a.tmps)=true then Oper.wp Tryz.prog o a w K Q else K (a.put o.dst undef) w:=by
 have hg:=hB.get b hb
 rw [if_pos hw]
 refine wp_store_row ty x y ho g (fl S2) hx hy t (fl S) hg (by rw [hn,fl_size hN2]) (by rw [fl_size hN,fl_size hN2]) h1 ?_
 exact h _ (hB.set b hb (fl S2)) ⟨setRow_os _ _ _,rfl,rfl,by simp [World.setRow],fun i _ hi=>setRow_other _ _ _ _ hi⟩
theorem list_all {ops:Array Oper} {Q:Exit→Act→World→Prop} {a:Act} {w w0:World} {o:Oper} {rest:List Oper} {L:List Blk} {S S2:List (List Value)} {t:TypeId} (ty:TypeId) (x y:Operand) (g:Nat) (hw:Region.wanted o (yielded ops a.tmps)=true) (ho:o.op=.store ty x y)
  (hx:a.eval x=.pointer (some ⟨g,0,none⟩)) (hy:a.eval y=.agg (fl S2)) (hB:Bl w0 L w) (b:Nat) (hb:L[b]?=some ⟨g,fl S,t⟩) (N:List Nat) (hN:S.map List.length=N) (hN2:S2.map List.length=N)
  (hn:(Tryz.prog.info? ty).map (·.size)=some N.sum) (h1:(fl S2).all (·.oneCell')=true)
  (h:∀ v,Bl w0 (L.set b ⟨g,fl S2,t⟩) v→Bt g w v→wpList Tryz.prog ops Q rest (a.put o.dst undef) v):wpList Tryz.prog ops Q (o::rest) a w :=
 wpList_step fun K hK=>step_all ty x y g hw ho hx hy hB b hb N hN hN2 hn h1 fun v hv hb=>hK _ _ (h v hv hb)
theorem exec_bld {a:Act} {o:Oper} (w:World) (t:TypeId) (ps:Array (Nat × Operand)) (vs:List (Nat × Value)) (ho:o.op=.build t ps) (hv:(ps.map fun p=>(p.1,a.eval p.2))=vs.toArray) (cs:Array Value) (h:Tryz.prog.built t vs=some cs):(execOp a.eval o).run Tryz.prog w=.ok (.value (.agg cs)) w:=by
 have h2:=run_build (P:=Tryz.prog) w t vs.toArray cs h
 rw [← hv] at h2
 unfold execOp
 simp only [ho,Sem.run_bind,h2,Result.andThen_ok,Sem.run_pure]
theorem fill_nil (place:Nat→Option (Nat × Nat)) (cs:Array Value):Instr.fill place cs []=some cs:=rfl
theorem exec_eqI {a:Act} {o:Oper} (w:World) (ty:TypeId) (x y:Operand) (ho:o.op=.binOp .eql ty x y ty) {q:IntKind} (hu:Tryz.prog.underlying ty=some (.int q)) (m n:Int) (hx:a.eval x=.int q m) (hy:a.eval y=.int q n) (b:Bool) (hb:decide (m=n)=b):(execOp a.eval o).run Tryz.prog w=.ok (.value (.bool b)) w:=by
 subst hb
 have e:(m == n)=decide (m=n):=by by_cases h:m=n <;> simp [h]
 unfold execOp
 simp only [ho,hx,hy]
 go_simp
def RvOk (P:Program) (tmps:Array Value) (w:World):ResultVar→Value→Prop
 | .cell p ty,v=>∃ a:Addr,tmps[p]?.getD undef=.pointer (some a)∧(loadVar ty a).run P w=.ok v w
 | .tmp q,v=>tmps[q]?.getD undef=v
theorem rv_cell {P:Program} {tmps:Array Value} {w:World} {p:Tmp} {ty t:TypeId} {g:Nat} {cs:Array Value} {d:TypeDesc} (hp:tmps.getD p undef=.pointer (some ⟨g,0,none⟩)) (hg:w.heap[g]?=some (.cells cs t (0,0))) (hu:P.underlying ty=some d) (hd:d.isRow=true) (hi:(P.info? ty).map (·.size)=some cs.size):RvOk P tmps w (.cell p ty) (.agg cs) :=
 ⟨_,by simpa using hp,run_loadVar_row w g t ty cs (0,0) d hg hu (by cases d <;> first | rfl | cases hd) hi⟩
theorem rv_tmp {P:Program} {tmps:Array Value} {w:World} {q:Tmp} {v:Value} (h:tmps.getD q undef=v):RvOk P tmps w (.tmp q) v:=by
 show tmps[q]?.getD undef=v
 simpa using h
theorem res1 {P:Program} {fn:Func} {p:Tmp} {ty:TypeId} {v:Value} {tmps:Array Value} {w:World} (h:fn.results=#[.cell p ty]) (h1:RvOk P tmps w (.cell p ty) v):(results fn tmps).run P w=.ok v w:=by
 obtain ⟨a,hp',hl⟩:=h1
 simp [results,h,hp',asAddr,hl]
theorem res2 {P:Program} {fn:Func} {r1 r2:ResultVar} {v1 v2:Value} {tmps:Array Value} {w:World} (h:fn.results=#[r1,r2]) (h1:RvOk P tmps w r1 v1) (h2:RvOk P tmps w r2 v2):(results fn tmps).run P w=.ok (.tuple #[v1,v2]) w:=by
 cases r1 <;> cases r2 <;> dsimp only [RvOk] at h1 h2 <;> (try obtain ⟨x1,e1,f1⟩:=h1) <;> (try obtain ⟨x2,e2,f2⟩:=h2) <;> simp [results,h,asAddr, *]
def NKf (b:Nat) (C:Array Value) (t:TypeId) (u:World) (q:Value):Prop:=∃ g,q=.pointer (some ⟨g,0,none⟩)∧b≤g∧u.heap[g]?=some (.cells C t (0,0))
theorem NKf.gr {b:Nat} {C:Array Value} {t:TypeId} {u v:World} {q:Value} (h:NKf b C t u q) (g:Gr u v):NKf b C t v q:=by
 obtain ⟨p,h1,h2,h3⟩:=h
 exact ⟨p,h1,h2,g.blk h3⟩
def Sz (n:Nat) (v:World):Prop:=n≤v.heap.size
theorem Sz.gr {n:Nat} {u v:World} (h:Sz n u) (g:Gr u v):Sz n v:=Nat.le_trans h g.size
theorem Bl.joinz {w u v:World} {L:List Blk} {g:Nat} {c:Array Value} {t:TypeId} (h:Bl w L u) (k:Bl w L v) (hg:u.heap.size≤g) (hn:v.heap[g]?=some (.cells c t (0,0))):Bl w (L++[⟨g,c,t⟩]) v :=
 k.add ⟨g,c,t⟩ hn (Nat.le_trans h.gr.size hg) (fun y hy=>by have:=lt_of_block (h.at_ y hy).1; show y.g≠g; omega)
theorem exec_ci {op:Oper} {a:Act} (w:World) (x:Operand) (ho:op.op=.load 3 x) (g i:Nat) (hx:a.eval x=.pointer (some ⟨g,i,none⟩)) (v:Int) (hc:w.cell? ⟨g,i,none⟩=some (.int .i64 v)):(execOp a.eval op).run Tryz.prog w=.ok (.value (.int .i64 v)) w:=by
 unfold execOp
 simp only [ho,hx,Instr.loadAt,Instr.sureAddr,Sem.run_bind,Sem.run_pure,Result.andThen_ok]
 go_simp
section
variable {N:List Nat} {ops:Array Oper} {Q:Exit→Act→World→Prop} {a:Act} {w w0:World} {o:Oper} {rest:List Oper} {L:List Blk} {S:List (List Value)} {t:TypeId} {K:Act→World→Prop}
end
section
variable {N:List Nat} {ops:Array Oper} {Q:Exit→Act→World→Prop} {a:Act} {w w0:World} {o:Oper} {rest:List Oper} {L:List Blk} {S:List (List Value)} {t:TypeId} {K:Act→World→Prop}
end
section
variable {a:Act} {o:Oper} (w:World) (x y:Operand) (m n:Int) (b:Bool)
theorem eql_32 (ho:o.op=.binOp .eql 27 x y 27) (hx:a.eval x=.int .u32 m) (hy:a.eval y=.int .u32 n) (hb:decide (m=n)=b):(execOp a.eval o).run Tryz.prog w=.ok (.value (.bool b)) w:=by
 subst hb
 unfold execOp
 simp only [ho,hx,hy]
 go_simp
 by_cases h_:m=n <;> simp [h_]
end
section
variable {a:Act} {o:Oper} (w:World) (x y:Operand) (m n:Int) (b:Bool)
theorem eql_i (ho:o.op=.binOp .eql 3 x y 3) (hx:a.eval x=.int .i64 m) (hy:a.eval y=.int .i64 n) (hb:decide (m=n)=b):(execOp a.eval o).run Tryz.prog w=.ok (.value (.bool b)) w:=by
 subst hb
 unfold execOp
 simp only [ho,hx,hy]
 go_simp
 by_cases h_:m=n <;> simp [h_]
end
section
variable {a:Act} {o:Oper} (w:World) (x y:Operand) (m n:Int) (b:Bool)
theorem eql_e (ho:o.op=.binOp .eql 37 x y 37) (hx:a.eval x=.int .i64 m) (hy:a.eval y=.int .i64 n) (hb:decide (m=n)=b):(execOp a.eval o).run Tryz.prog w=.ok (.value (.bool b)) w:=by
 subst hb
 unfold execOp
 simp only [ho,hx,hy]
 go_simp
 by_cases h_:m=n <;> simp [h_]
end
section
variable {a:Act} {o:Oper} (w:World) (x y:Operand) (m n:Int) (b:Bool)
theorem neq_e (ho:o.op=.binOp .neq 37 x y 37) (hx:a.eval x=.int .i64 m) (hy:a.eval y=.int .i64 n) (hb:decide (m≠n)=b):(execOp a.eval o).run Tryz.prog w=.ok (.value (.bool b)) w:=by
 subst hb
 unfold execOp
 simp only [ho,hx,hy]
 go_simp
 by_cases h_:m=n <;> simp [h_]
end
def tf (n k:Nat):Array Bool:=((List.range n).map fun i=>decide (i<k)).toArray
section
variable {P:Program} {md:Region.Mode} {ops:Array Oper} {Q:Exit→Act→World→Prop} {S:World→Prop}
theorem any_tk (i:Nat) (v:Value) {oi:Oper} {l:Array Bool} {a:Act} {w:World} (l0:Array Bool) (hi:ops[i]?=some oi) (hy:∀ x_,S x_→(execOp a.eval oi).run P x_=.ok (.value v) x_) (hS:S w)
  (h:Any P md ops Q S (l.setIfInBounds i true) (a.put oi.dst v) w) (hs:Region.noSelect ops=true:=by kernel_rfl) (hle:leB ops.size l0 l=true:=by kernel_rfl) (hf:Region.free md ops l0 i=true:=by kernel_rfl) (hr:rdB md ops l i=true:=by kernel_rfl) (hQ:∀ c a w,Q (.panic c) (a.put oi.dst v) w→Q (.panic c) a w:=by exact fun _ _ _ h=>h) (hw:Region.wanted oi (yielded ops a.tmps)=true:=by kernel_rfl):Any P md ops Q S l a w :=
 any_take l0 hi hs hle hf hr hQ (.inl ⟨hw,hy⟩) hS h
end
section
variable {P:Program} {md:Region.Mode} {ops:Array Oper} {Q:Exit→Act→World→Prop} {S:World→Prop}
end
section
variable {P:Program} {ops:Array Oper} {Q:Exit→Act→World→Prop} {a:Act} {w:World} {o:Oper} {rest:List Oper}
theorem lvk (v:Value) (h:wpList P ops Q rest (a.put o.dst v) w) (hw:Region.wanted o (yielded ops a.tmps)=true:=by kernel_rfl) (hx:(execOp a.eval o).run P w=.ok (.value v) w:=by kernel_rfl):wpList P ops Q (o::rest) a w:=list_val v hw hx h
end
end Go.Proofs.YthahhglbeafkmaaGreatDoor
namespace Go.Proofs.YthahhglbeafkmaaGreatDoor
open Go.RowKit
set_option maxRecDepth 100000
set_option linter.unusedSimpArgs false
set_option linter.unusedVariables false
def NP:List Nat:=[32,1]
def NE:List Nat:=[1,1,1,105]
def NX:List Nat:=[16,130]
def NTm:List Nat:=[32,12,16]
theorem nP {K:List Int} (h:K.length=32) (a:Value):[bw K,[a]].map List.length=NP:=by simp [bw_len,NP, *]
theorem nE {B:List Int} (h:B.length=105) (a b c:Value):[[a],[b],[c],bw B].map List.length=NE:=by simp [bw_len,NE, *]
theorem nX {D B:List Int} (h:D.length=16) (h2:B.length=130):[bw D,bw B].map List.length=NX:=by simp [bw_len,NX, *]
theorem nT {K N D:List Int} (h:K.length=32) (h2:N.length=12) (h3:D.length=16):[bw K,bw N,bw D].map List.length=NTm:=by simp [bw_len,NTm, *]
theorem oP (K:List Int) {a:Value} (h1:a.oneCell'=true):(fl [bw K,[a]]).all (·.oneCell')=true:=by simp [fl,bw,u8_one,h1]
theorem oE (B:List Int) {a b c:Value} (h1:a.oneCell'=true) (h2:b.oneCell'=true) (h3:c.oneCell'=true):(fl [[a],[b],[c],bw B]).all (·.oneCell')=true:=by simp [fl,bw,u8_one,h1,h2,h3]
theorem oX (D B:List Int):(fl [bw D,bw B]).all (·.oneCell')=true:=by simp [fl,bw,u8_one]
theorem oT (K N D:List Int):(fl [bw K,bw N,bw D]).all (·.oneCell')=true:=by simp [fl,bw,u8_one]
theorem fl_flat {S:List (List Value)} {N:List Nat} (h:S.map List.length=N):S.flatten.length=N.sum:=by
 have:=fl_size h
 unfold fl at this
 simpa using this
theorem evl_fl (k a s:Int) (B:List Int):(evl k a s B).toArray=fl [[.int .i64 k],[.int .u32 a],[.int .u32 s],bw B]:=by simp [evl,fl,bv,bw]
theorem pair_fl (K:List Int) (f:Bool):pairv K f=fl [bw K,[.bool f]]:=by simp [pairv,fl,bw]
theorem exec_sa {op:Oper} {a:Act} (w:World) (ty:TypeId) (x:Operand) (ho:op.op=.load ty x) (g o:Nat) (hx:a.eval x=.pointer (some ⟨g,o,none⟩)) {S:List (List Value)} {t:TypeId} (h:w.heap[g]?=some (.cells (fl S) t (0,0))) (N:List Nat) (hN:S.map List.length=N) (i:Nat) (K:List Int) (hi:S[i]?=some (bw K)) (hof:(N.take i).sum=o) {d:TypeDesc} (hu:Tryz.prog.underlying ty=some d) (hd:d.isRow=true) {n:Nat} (hl:N[i]?=some n) (hin:(Tryz.prog.info? ty).map (·.size)=some n) :
  (execOp a.eval op).run Tryz.prog w=.ok (.value (.agg (kc K))) w:=by
 have hK:(bw K).length=n:=by
  have:=congrArg (·[i]?) hN
  simp only [List.getElem?_map,hi,hl,Option.map_some,Option.some.injEq] at this
  exact this
 exact exec_row (P:=Tryz.prog) w ty x ho g o hx (bw K) _ (seg_range hN h i hi hof) hu hd (by rw [hin,hK])
theorem seg_at {S:List (List Value)} {N:List Nat} (hN:S.map List.length=N) {w:World} {g:Nat} {t:TypeId} (h:w.heap[g]?=some (.cells (fl S) t (0,0))) (i:Nat) {K:List Int} (hi:S[i]?=some (bw K)) {o:Nat} (ho:(N.take i).sum=o):At w g o K:=fun j hj=>seg_range hN h i hi ho j _ (by unfold bw; simp [hj])
theorem seg_lb {S:List (List Value)} {N:List Nat} (hN:S.map List.length=N) {w:World} {g:Nat} {t:TypeId} (h:w.heap[g]?=some (.cells (fl S) t (0,0))) (i:Nat) {K:List Int} (hi:S[i]?=some (bw K)) {o:Nat} (ho:(N.take i).sum=o) (hb:IsB K) {n:Nat} (hn:K.length=n) (hs:n<9223372036854775808):Lb w (some ⟨g,o,none⟩) n n K:=⟨hn,hb,.inr ⟨g,o,rfl,seg_at hN h i hi ho⟩,Nat.le_refl _,hs⟩
theorem eql_64 {a:Act} {o:Oper} (w:World) (x y:Operand) (m n:Int) (b:Bool) (ho:o.op=.binOp .eql 26 x y 26) (hx:a.eval x=.int .u64 m) (hy:a.eval y=.int .u64 n) (hb:decide (m=n)=b):(execOp a.eval o).run Tryz.prog w=.ok (.value (.bool b)) w :=
 exec_eqI w 26 x y ho (q:=.u64) (by kernel_rfl) m n hx hy b hb
theorem eq_105 (k m:List Int) (hk:k.length=105) (hm:m.length=105) (w:World):Sem.run Tryz.prog (Op.equalIn 10000 28 (.agg (kc k)) (.agg (kc m))) w=.ok (decide (k=m)) w:=by
 obtain ⟨i0,hi0,_⟩:=info_parts Tryz.info_b
 rw [run_equalIn_array (P:=Tryz.prog) w 9999 (kc k) (kc m) Tryz.underlying28 hi0,Tryz.cells_b]
 refine (eqs_b k m (by omega) 9998 _ (by intro i hi; simp at hi; omega) w).trans ?_
 congr 1
 rw [decide_eq_decide]
 constructor
 ·intro h
  exact list_ext (by omega) fun i hi=>h i (by simp; omega)
 ·rintro rfl i _
  rfl
theorem exec_eq105 {a:Act} {o:Oper} (w:World) (x y:Operand) (ho:o.op=.binOp .eql 28 x y 28) (k m:List Int) (hk:k.length=105) (hm:m.length=105) (hx:a.eval x=.agg (kc k)) (hy:a.eval y=.agg (kc m)):(execOp a.eval o).run Tryz.prog w=.ok (.value (.bool (decide (k=m)))) w:=by
 have hu:=Tryz.underlying28
 have he:=eq_105 k m hk hm w
 have hg:(eqGuard .eql 28 x y (.agg (kc k)) (.agg (kc m))).run Tryz.prog w=.ok () w:=by kernel_rfl
 unfold execOp
 simp only [ho,hx,hy]
 go_simp
theorem bltP (vs:List (Nat × Value)):Tryz.prog.built 25 vs=Instr.fill (#[(0,32),(32,1)][·]?) (fl [bw Z32,[.bool false]]) vs:=by kernel_rfl
theorem bltE (vs:List (Nat × Value)):Tryz.prog.built 30 vs=Instr.fill (#[(0,1),(1,1),(2,1),(3,105)][·]?) (fl [[.int .i64 0],[.int .u32 0],[.int .u32 0],bw Z105]) vs:=by kernel_rfl
theorem bltX (vs:List (Nat × Value)):Tryz.prog.built 36 vs=Instr.fill (#[(0,16),(16,130)][·]?) (fl [bw Z16,bw Z130]) vs:=by kernel_rfl
theorem bltT (vs:List (Nat × Value)):Tryz.prog.built 66 vs=Instr.fill (#[(0,32),(32,12),(44,16)][·]?) (fl [bw Z32,bw ZN,bw Z16]) vs:=by kernel_rfl
theorem bX0 {K0:List Int} (w:World) {a:Act} {o:Oper} (x0:Operand) (ho:o.op=.build 36 #[(0,x0)]) (h0:K0.length=16) (e0:a.eval x0=.agg (kc K0)) :
  (execOp a.eval o).run Tryz.prog w=.ok (.value (.agg (fl [bw K0,bw Z130]))) w:=by
 refine exec_bld w _ _ [(0,.agg (kc K0))] ho (by simp [e0]) _ ?_
 rw [bltX]
 rw [fill_seg (N:=NX) (nX (show List.length Z16=16 from rfl) (show List.length Z130=130 from rfl)) (vs:=bw K0) rfl 0 0 (by rw [bw_len,h0]; rfl) (by rw [bw_len,h0]; rfl)]
 simp only [List.set_cons_zero,List.set_cons_succ]
 exact fill_nil _ _
theorem bE  (w:World) {a:Act} {o:Oper}  (ho:o.op=.build 30 #[])   :
  (execOp a.eval o).run Tryz.prog w=.ok (.value (.agg (fl [[.int .i64 0],[.int .u32 0],[.int .u32 0],bw Z105]))) w:=by
 refine exec_bld w _ _ [] ho (by simp) _ ?_
 rw [bltE]
 exact fill_nil _ _
theorem bE1 {z1:Int} (w:World) {a:Act} {o:Oper} (x1:Operand) (ho:o.op=.build 30 #[(1,x1)])  (e1:a.eval x1=.int .u32 z1) :
  (execOp a.eval o).run Tryz.prog w=.ok (.value (.agg (fl [[.int .i64 0],[.int .u32 z1],[.int .u32 0],bw Z105]))) w:=by
 refine exec_bld w _ _ [(1,.int .u32 z1)] ho (by simp [e1]) _ ?_
 rw [bltE]
 rw [fill_seg (N:=NE) (nE (show List.length Z105=105 from rfl) _ _ _) (vs:=[.int .u32 z1]) rfl 1 1 rfl rfl]
 simp only [List.set_cons_zero,List.set_cons_succ]
 exact fill_nil _ _
theorem bE012 {z0:Int} {z1:Int} {z2:Int} (w:World) {a:Act} {o:Oper} (x0:Operand) (x1:Operand) (x2:Operand) (ho:o.op=.build 30 #[(0,x0),(1,x1),(2,x2)])  (e0:a.eval x0=.int .i64 z0) (e1:a.eval x1=.int .u32 z1) (e2:a.eval x2=.int .u32 z2) :
  (execOp a.eval o).run Tryz.prog w=.ok (.value (.agg (fl [[.int .i64 z0],[.int .u32 z1],[.int .u32 z2],bw Z105]))) w:=by
 refine exec_bld w _ _ [(0,.int .i64 z0),(1,.int .u32 z1),(2,.int .u32 z2)] ho (by simp [e0,e1,e2]) _ ?_
 rw [bltE]
 rw [fill_seg (N:=NE) (nE (show List.length Z105=105 from rfl) _ _ _) (vs:=[.int .i64 z0]) rfl 0 0 rfl rfl]
 simp only [List.set_cons_zero,List.set_cons_succ]
 rw [fill_seg (N:=NE) (nE (show List.length Z105=105 from rfl) _ _ _) (vs:=[.int .u32 z1]) rfl 1 1 rfl rfl]
 simp only [List.set_cons_zero,List.set_cons_succ]
 rw [fill_seg (N:=NE) (nE (show List.length Z105=105 from rfl) _ _ _) (vs:=[.int .u32 z2]) rfl 2 2 rfl rfl]
 simp only [List.set_cons_zero,List.set_cons_succ]
 exact fill_nil _ _
theorem bP01 {K0:List Int} {z1:Bool} (w:World) {a:Act} {o:Oper} (x0:Operand) (x1:Operand) (ho:o.op=.build 25 #[(0,x0),(1,x1)]) (h0:K0.length=32) (e0:a.eval x0=.agg (kc K0)) (e1:a.eval x1=.bool z1) :
  (execOp a.eval o).run Tryz.prog w=.ok (.value (.agg (fl [bw K0,[.bool z1]]))) w:=by
 refine exec_bld w _ _ [(0,.agg (kc K0)),(1,.bool z1)] ho (by simp [e0,e1]) _ ?_
 rw [bltP]
 rw [fill_seg (N:=NP) (nP (show List.length Z32=32 from rfl) _) (vs:=bw K0) rfl 0 0 (by rw [bw_len,h0]; rfl) (by rw [bw_len,h0]; rfl)]
 simp only [List.set_cons_zero,List.set_cons_succ]
 rw [fill_seg (N:=NP) (nP h0 _) (vs:=[.bool z1]) rfl 1 1 rfl rfl]
 simp only [List.set_cons_zero,List.set_cons_succ]
 exact fill_nil _ _
theorem bT12 {K1:List Int} {K2:List Int} (w:World) {a:Act} {o:Oper} (x1:Operand) (x2:Operand) (ho:o.op=.build 66 #[(1,x1),(2,x2)]) (h1:K1.length=12) (h2:K2.length=16) (e1:a.eval x1=.agg (kc K1)) (e2:a.eval x2=.agg (kc K2)) :
  (execOp a.eval o).run Tryz.prog w=.ok (.value (.agg (fl [bw Z32,bw K1,bw K2]))) w:=by
 refine exec_bld w _ _ [(1,.agg (kc K1)),(2,.agg (kc K2))] ho (by simp [e1,e2]) _ ?_
 rw [bltT]
 rw [fill_seg (N:=NTm) (nT (show List.length Z32=32 from rfl) (show List.length ZN=12 from rfl) (show List.length Z16=16 from rfl)) (vs:=bw K1) rfl 1 1 (by rw [bw_len,h1]; rfl) (by rw [bw_len,h1]; rfl)]
 simp only [List.set_cons_zero,List.set_cons_succ]
 rw [fill_seg (N:=NTm) (nT (show List.length Z32=32 from rfl) h1 (show List.length Z16=16 from rfl)) (vs:=bw K2) rfl 2 2 (by rw [bw_len,h2]; rfl) (by rw [bw_len,h2]; rfl)]
 simp only [List.set_cons_zero,List.set_cons_succ]
 exact fill_nil _ _
def K1:List Int:=1::List.replicate 31 0
theorem bK0 (w:World) {a:Act} {o:Oper} (ho:o.op=.build 23 #[(0,.const (.int .u8 1))]):(execOp a.eval o).run Tryz.prog w=.ok (.value (.agg (kc K1))) w :=
 exec_bld w _ _ [(0,.int .u8 1)] ho (by simp [Act.eval]) _ (by kernel_rfl)
end Go.Proofs.YthahhglbeafkmaaGreatDoor
namespace Go.Proofs.YthahhglbeafkmaaGreatDoor
open Go.RowKit
set_option maxRecDepth 100000
set_option linter.unusedSimpArgs false
set_option linter.unusedVariables false
def lfz (X:Nat) (n k:Nat):List Int:=lowL (X:Int) k++List.replicate (n - k) 0
theorem lfz_len (X n k:Nat) (h:k≤n):(lfz X n k).length=n:=by unfold lfz; simp [lowL_len]; omega
theorem lfz_set (X n k:Nat) (h:k<n):(lfz X n k).set k ((X:Int) / 256 ^ k % 256)=lfz X n (k+1):=by
 unfold lfz
 rw [List.set_append_right _ _ (by rw [lowL_len]; exact Nat.le_refl _),lowL_len,Nat.sub_self,lowL_snoc,show n - k=(n - (k+1))+1 from by omega,List.replicate_succ,List.set_cons_zero,List.append_assoc]
 rfl
theorem lfz_all (X n:Nat):lfz X n n=lowL (X:Int) n:=by unfold lfz; simp
def Nwb (L:List Int) (n:Nat) (w:World) (r:Ending) (w':World):Prop:=∃ g,r=.returned (.slice (some ⟨g,0,none⟩) n n)∧w.heap.size≤g∧w'.heap[g]?=some (.cells (kc L) 5 (0,0))∧Gr w w'
set_option maxHeartbeats 2000000 in
theorem rlowg_ok (X n:Nat) (hX:X<18446744073709551616) (hn:n≤8) (w:World):Calls Tryz.prog 47 #[.int .u64 X,.int .i64 n] w (Nwb (lowL (X:Int) n) n w):=by
 obtain ⟨T,hT⟩:∃ T,T=Nwb (lowL (X:Int) n) n w:=⟨_,rfl⟩
 rw [← hT]
 replace hT:=hide hT
 go_enter Tryz.func47,Tryz.ntmps47
 go_upto_region 1 with fail
 refine wp_region_lit ?_
 iterate 1 (refine wpList_step fun K hK=>?_; replace hK:=hide hK; go_simp; refine unhide hK _ _ ?_; clear hK K)
 refine wpList_make_room w rfl (.tmp 7) (.tmp 7) rfl n n n n (by kernel_rfl) (by kernel_rfl) (by omega) (by omega) (by omega) (by omega) ?_
 have hv:=blk_new w (.cells (kc (List.replicate n 0)) 5 (0,0))
 have hg:=(Gr.refl w).alloc (.cells (kc (List.replicate n 0)) 5 (0,0))
 generalize World.alloc _ _=u1 at *
 simp only [nrm]
 have hz:lfz X n 0=List.replicate n 0:=by unfold lfz; simp [lowL]
 rw [← hz] at hv
 clear hz
 replace hv:=hide hv
 replace hg:=hide hg
 iterate 1 (refine wpList_step fun K hK=>?_; replace hK:=hide hK; go_simp; refine unhide hK _ _ ?_; clear hK K)
 refine wpList_nil ?_
 go_wp2_with fail
 go_loopw [6,0] (fun i x wr=>∃ k:Nat,k≤n∧i=.int .i64 (k:Int)∧x=.int .u64 ((X / 256 ^ k:Nat):Int)∧Hid (wr.heap[w.heap.size]?=some (.cells (kc (lfz X n k)) 5 (0,0)))∧Hid (Gr w wr)) (fun i _ _=>n - (intOf i).toNat)
 case atStart=>exact ⟨0,by omega,rfl,by simp,hv,hg⟩
 case round =>
 clear hv hg
 obtain ⟨k,hk,rfl,rfl,hv,hg⟩:=hrel
 by_cases hlt:k<n
 ·obtain ⟨Y,hY⟩:∃ Y,Y=X / 256 ^ k:=⟨_,rfl⟩
  obtain ⟨y,hy⟩:∃ y:Int,y=((Y % 256:Nat):Int):=⟨_,rfl⟩
  have hYb:Y<18446744073709551616:=by rw [hY]; exact Nat.lt_of_le_of_lt (Nat.div_le_self _ _) hX
  have q1:(k:Int)<(n:Int):=by omega
  have q3:0≤(k:Int)∧(k:Int)<(n:Int):=by omega
  have q4:IntKind.i64.wrap ((k:Int)+1)=(k:Int)+1:=by rw [IntKind.wrap_i64]; omega
  obtain ⟨Z,hZ⟩:∃ Z,Z=X / 256 ^ (k+1):=⟨_,rfl⟩
  have e2:(Y:Int) / 256=(Z:Int):=by rw [hZ,hY,Nat.pow_succ,← Nat.div_div_eq_div_mul]; omega
  have e3:(Y:Int).tdiv 256=(Z:Int):=by rw [Int.tdiv_eq_ediv_of_nonneg (by omega)]; exact e2
  have e4:(Y:Int).tmod 256=y:=by rw [Int.tmod_eq_emod_of_nonneg (by omega),hy]; omega
  have e5:(Y:Int) % 256=y:=by rw [hy]; omega
  have e6:IntKind.u64.wrap y=y:=by rw [IntKind.wrap_u64]; omega
  have e7:IntKind.u8.wrap y=y:=by rw [IntKind.wrap_u8']; omega
  have e8:IntKind.u64.wrap (Z:Int)=(Z:Int):=by rw [IntKind.wrap_u64]; omega
  have cs:=kc_cell (unhide hv) k (by rw [lfz_len _ _ _ (by omega)]; omega)
  have fs:=froz_of (i:=k) (unhide hv)
  have hv2:=heap_setCell_same wr w.heap.size k _ _ (.int .u8 y) (unhide hv)
  rw [kc_set] at hv2
  have hnx:(lfz X n k).set k y=lfz X n (k+1):=by
   have h:=lfz_set X n k hlt
   have e9:(X:Int) / 256 ^ k % 256=y:=by rw [hy,hY]; simp
   rw [e9] at h
   exact h
  rw [hnx] at hv2
  have hg2:=(setCells_bt [.int .u8 y] wr w.heap.size k).gr (unhide hg) (Nat.le_refl _)
  replace hg2:Hid (Gr w (wr.setCell ⟨w.heap.size,k,none⟩ (.int .u8 y))):=hg2
  replace hv2:=hide hv2
  clear hv hg hnx
  rw [← hY]
  replace hZ:=hide hZ; replace hY:=hide hY; replace hy:=hide hy
  generalize (lfz X n k).getD k 0=z at cs
  go_wp2_with fail
  go_roundw
  case rel=>exact ⟨k+1,by omega,by go_num,by rw [← unhide hZ],hv2,hg2⟩
  case measure=>simp [intOf]; omega
 ·have e:k=n:=by omega
  subst e
  have q1:¬ (k:Int)<(k:Int):=by omega
  have hP:Hid (Nwb (lowL (X:Int) k) k w (.returned (.slice (some ⟨w.heap.size,0,none⟩) k k)) wr):=by
   have h:=unhide hv
   rw [lfz_all] at h
   exact ⟨_,rfl,Nat.le_refl _,h,unhide hg⟩
  clear hv hg
  go_wp2_with fail
  rw [unhide hT]
  exact unhide hP
theorem nw_lb {w:World} {g n:Nat} {L:List Int} (h:w.heap[g]?=some (.cells (kc L) 5 (0,0))) (hb:IsB L) (hn:L.length=n) (hs:n<9223372036854775808):Lb w (some ⟨g,0,none⟩) n n L:=⟨hn,hb,.inr ⟨g,0,rfl,kc_at h⟩,Nat.le_refl _,hs⟩
theorem isB_rep (n:Nat):IsB (List.replicate n 0):=fun x hx=>by rw [List.eq_of_mem_replicate hx]; omega
theorem lowN_drop {B:List Int} {j:Nat} (h:j<B.length):lowN (B.drop j)=B.getD j 0+256 * lowN (B.drop (j+1)):=by
 rw [List.drop_eq_getElem_cons h,lowN,List.getD_eq_getElem?_getD,List.getElem?_eq_getElem h]
 rfl
theorem lowN_small {B:List Int} (h:IsB B) (hn:B.length≤8) {j:Nat} (hj:1≤j):0≤lowN (B.drop j)∧lowN (B.drop j)<72057594037927936:=by
 have h1:=lowN_bd _ (isB_drop h j)
 rw [List.length_drop] at h1
 refine ⟨h1.1,Int.lt_of_lt_of_le h1.2 ?_⟩
 have e:B.length - j=0∨B.length - j=1∨B.length - j=2∨B.length - j=3∨B.length - j=4∨B.length - j=5∨B.length - j=6∨B.length - j=7:=by omega
 rcases e with e | e | e | e | e | e | e | e <;> rw [e] <;> decide
set_option maxHeartbeats 2000000 in
theorem rhighg_ok (B:List Int) (a:Option Addr) (n c:Nat) (w:World) (hB:Lb w a n c B) (hn:n≤8):Calls Tryz.prog 33 #[.slice a n c] w (Vl (.int .u64 (lowN B)) w):=by
 obtain ⟨T,hT⟩:∃ T,T=Vl (.int .u64 (lowN B)) w:=⟨_,rfl⟩
 rw [← hT]
 replace hT:=hide hT
 have hl:=hB.len
 have hb:=hB.isB
 have z8:lowN (B.drop 8)=0:=by rw [List.drop_eq_nil_of_le (by omega)]; rfl
 replace hB:=hide hB; replace hl:=hide hl; replace hb:=hide hb
 go_enter Tryz.func33,Tryz.ntmps33
 go_wp2_with fail
 go_loopw [3,4] (fun x i wr=>∃ (j:Nat) (q X:Int),j≤8∧i=.int .i64 q∧q=(j:Int) - 1∧x=.int .u64 X∧Hid (X=lowN (B.drop j))∧Hid (Gr w wr)) (fun _ i _=>(intOf i+1).toNat)
 case atStart=>exact ⟨8,7,0,by omega,rfl,by omega,rfl,z8.symm,Gr.refl w⟩
 case round =>
 obtain ⟨j,q,X,hj,rfl,hq,rfl,hX,hG⟩:=hrel
 rcases j with _ | j
 ·obtain rfl:q = -1:=by omega
  clear hq
  have hP:Hid (Vl (.int .u64 (lowN B)) w (.returned (.int .u64 X)) wr):=by
   refine ⟨?_,unhide hG⟩
   rw [unhide hX,List.drop_zero]
  go_wp2_with fail
  rw [unhide hT]
  exact unhide hP
 ·obtain rfl:q=(j:Int):=by omega
  clear hq
  have j0:0≤(j:Int):=by omega
  have hbd:=lowN_small (unhide hb) (by rw [unhide hl]; exact hn) (j:=j+1) (by omega)
  rw [← unhide hX] at hbd
  have e1:IntKind.u64.wrap (X * 256)=X * 256:=by rw [IntKind.wrap_u64]; omega
  obtain ⟨q9,hq9⟩:∃ q:Int,q=(j:Int) - 1:=⟨_,rfl⟩
  have hq8:IntKind.i64.wrap ((j:Int) - 1)=q9:=by rw [IntKind.wrap_i64]; omega
  by_cases hjn:j<n
  ·have jI:(j:Int)<(n:Int):=by omega
   have jJ:0≤(j:Int)∧(j:Int)<(n:Int):=by omega
   obtain ⟨p,o,rfl,h1⟩:=((unhide hB).gr (unhide hG)).cellAt hjn
   have hd:=lowN_drop (B:=B) (j:=j) (by rw [unhide hl]; exact hjn)
   have hx:=(unhide hb) (B.getD j 0) (by rw [List.getD_eq_getElem?_getD,List.getElem?_eq_getElem (by rw [unhide hl]; exact hjn)]; exact List.getElem_mem _)
   rw [← unhide hX] at hd
   generalize B.getD j 0=y at *
   obtain ⟨Z,hZ⟩:∃ Z:Int,Z=X * 256+y:=⟨_,rfl⟩
   have e2:IntKind.u64.wrap y=y:=by rw [IntKind.wrap_u64]; omega
   have e3:IntKind.u64.wrap (X * 256+y)=Z:=by rw [IntKind.wrap_u64]; omega
   have hX2:Hid (Z=lowN (B.drop j)):=by show Z=_; rw [hd,hZ]; omega
   replace hd:=hide hd; replace hZ:=hide hZ
   clear hX
   go_wp2_with fail
   go_roundw
   case rel=>exact ⟨j,q9,Z,by omega,by rw [hq9],hq9,by first | rfl | rw [unhide hZ],hX2,hG⟩
   case measure=>simp [intOf] <;> omega
  ·have jI:¬ (j:Int)<(n:Int):=by omega
   have hz1:lowN (B.drop (j+1))=0:=by rw [List.drop_eq_nil_of_le (by rw [unhide hl]; omega)]; rfl
   have hz2:lowN (B.drop j)=0:=by rw [List.drop_eq_nil_of_le (by rw [unhide hl]; omega)]; rfl
   obtain rfl:X=0:=by rw [unhide hX]; exact hz1
   have hX2:Hid (0=lowN (B.drop j)):=hz2.symm
   clear hX hz1 hz2 e1
   go_wp2_with fail
   go_roundw
   case rel=>exact ⟨j,q9,0,by omega,by rw [hq9],hq9,by first | rfl | go_num,hX2,hG⟩
   case measure=>simp [intOf] <;> omega
end Go.Proofs.YthahhglbeafkmaaGreatDoor
namespace Go.Proofs.YthahhglbeafkmaaGreatDoor
open Go.RowKit
set_option maxRecDepth 100000
set_option linter.unusedSimpArgs false
set_option linter.unusedVariables false
def kyT (b:Bool):ByteArray:=if b=true then tFir else tSec
theorem rlow8_ok (r:Int) (hr:0≤r∧r<18446744073709551616) (w:World):Calls Tryz.prog 47 #[.int .u64 r,.int .i64 8] w (Obd (lowL r 8) w):=by
 have h:=rlowg_ok r.toNat 8 (by omega) (by omega) w
 rw [Int.toNat_of_nonneg hr.1] at h
 refine h.mono ?_
 rintro r_ w_ ⟨g,rfl,h1,h2,h3⟩
 exact ⟨_,rfl,ob_of h2 (lowL_len _ _) h1 (by omega),h3⟩
set_option maxHeartbeats 4000000 in
theorem ykey_yes (r:Int) (hr:0≤r∧r<18446744073709551616) (K:List Int) (hK:K.length=32) (hKb:IsB K) (f:Bool) (w:World) (hF:Fst w):Calls Tryz.prog 26 #[.agg (pairv K f),.int .u64 r,.bool true] w (Derd (okL r K tFir) w):=by
 obtain ⟨T,hT⟩:∃ T,T=Derd (okL r K tFir) w:=⟨_,rfl⟩
 rw [← hT]
 replace hT:=hide hT
 obtain ⟨SK,hSK⟩:∃ S,S=pairv K f:=⟨_,rfl⟩
 rw [← hSK]
 replace hSK:=hide hSK
 replace hKb:=hide hKb
 replace hF:=hide hF
 go_enter Tryz.func26,Tryz.ntmps26
 go_upto_region 2 with fail
 have hB:=(((Bl.nil w).new SK 25).new #[.int .u8 0,.int .u8 0,.int .u8 0,.int .u8 0,.int .u8 0,.int .u8 0,.int .u8 0,.int .u8 0,.int .u8 0,.int .u8 0,.int .u8 0,.int .u8 0,.int .u8 0,.int .u8 0,.int .u8 0,.int .u8 0,.int .u8 0,.int .u8 0,.int .u8 0,.int .u8 0,.int .u8 0,.int .u8 0,.int .u8 0,.int .u8 0,.int .u8 0,.int .u8 0,.int .u8 0,.int .u8 0,.int .u8 0,.int .u8 0,.int .u8 0,.int .u8 0] 23)
 simp only [size_alloc,List.nil_append,List.cons_append] at hB
 generalize World.alloc _ _=u at *
 rw [unhide hSK] at hB
 replace hB:Bl w [⟨w.heap.size,pairv K f,25⟩,⟨w.heap.size+1,kc Z32,23⟩] u:=hB
 refine wp_region_lit ?_
 refine list_val (.bool true) (by kernel_rfl) (by kernel_rfl) ?_
 simp only [nrm]
 refine wpList_nil ?_
 replace hB:=hide hB
 go_upto_region 4 with fail
 replace hB:=unhide hB
 refine any_start (S:=fun v=>v.heap[w.heap.size]?=some (.cells (pairv K f) 25 (0,0))) (by kernel_rfl) ?_
 replace hB:=hB.drew
 generalize World.drew _=x0 at *
 simp only [List.size_toArray,List.length_cons,List.length_nil,Array.replicate,List.replicate]
 refine any_take (i:=0) (v:=(.pointer (some ⟨w.heap.size,0,none⟩))) #[false,false,false,false,false,false,false,false] rfl (by kernel_rfl) (by kernel_rfl) (by kernel_rfl) (by kernel_rfl) (fun _ _ _ h=>h) (.inl ⟨by kernel_rfl,fun x_ hu=>by kernel_rfl⟩) (hB.get 0 (x:=⟨w.heap.size,pairv K f,25⟩) rfl) ?_
 simp only [nrm]
 refine any_take (i:=1) (v:=(.agg (kc K))) #[true,false,false,false,false,false,false,false] rfl (by kernel_rfl) (by kernel_rfl) (by kernel_rfl) (by kernel_rfl) (fun _ _ _ h=>h) (.inl ⟨by kernel_rfl,fun x_ hu=>exec_pk _ (.tmp 9) rfl (w.heap.size) (by kernel_rfl) K hK f hu⟩) (hB.get 0 (x:=⟨w.heap.size,pairv K f,25⟩) rfl) ?_
 simp only [nrm]
 refine any_take (i:=2) (v:=(.string tFir)) #[true,true,false,false,false,false,false,false] rfl (by kernel_rfl) (by kernel_rfl) (by kernel_rfl) (by kernel_rfl) (fun _ _ _ h=>h) (.inl ⟨by kernel_rfl,fun x_ hu=>by kernel_rfl⟩) (hB.get 0 (x:=⟨w.heap.size,pairv K f,25⟩) rfl) ?_
 simp only [nrm]
 refine any_take (i:=3) (v:=(.int .u64 r)) #[true,true,true,false,false,false,false,false] rfl (by kernel_rfl) (by kernel_rfl) (by kernel_rfl) (by kernel_rfl) (fun _ _ _ h=>h) (.inl ⟨by kernel_rfl,fun x_ hu=>by kernel_rfl⟩) (hB.get 0 (x:=⟨w.heap.size,pairv K f,25⟩) rfl) ?_
 simp only [nrm]
 refine any_one (i:=4) (by kernel_rfl) rfl (fun K_ hQ=>?_)
 refine step_callw (by kernel_rfl) 47 #[.int .u64 r,.int .i64 8] (by kernel_rfl) ((rlow8_ok r hr x0).mono ?_)
 rintro r x1 ⟨v8,rfl,ho8,hg⟩
 refine ⟨_,rfl,?_⟩
 obtain ⟨a8,c8,rfl,lp⟩:=ho8.lb' (lowL_isB r 8) 8 (lowL_len r 8)
 replace hB:=hB.more hg
 replace lp:=hide lp
 clear ho8
 clear hg
 refine hQ.out _ _ (hB.get 0 (x:=⟨w.heap.size,pairv K f,25⟩) rfl) (fun _=>?_)
 clear hQ K_
 simp only [nrm]
 refine any_one (i:=5) (by kernel_rfl) rfl (fun K_ hQ=>?_)
 replace hB:=hide hB
 replace hQ:=hide hQ
 go_simp
 refine (unhide hQ).out _ _ ?_ (fun _=>?_)
 ·exact ((Gr.refl x1).alloc (.cells #[.slice a8 8 c8] 43)).blk ((unhide hB).get 0 (x:=⟨w.heap.size,pairv K f,25⟩) rfl)
 clear hQ K_
 replace hB:=unhide hB
 have hg:=(Gr.refl x1).alloc (.cells #[.slice a8 8 c8] 43 (0,0))
 have hnew:=blk_new x1 (.cells #[.slice a8 8 c8] 43 (0,0))
 replace hB:=hB.more hg
 replace lp:=hide ((unhide lp).gr hg)
 generalize World.alloc _ _=x2 at *
 generalize x1.heap.size=gq at *
 clear hg
 simp only [nrm]
 refine any_one (i:=6) (by kernel_rfl) rfl (fun K_ hQ=>?_)
 refine step_callw (by kernel_rfl) 46 #[.agg (kc K),.string tFir,.slice (some ⟨gq,0,none⟩) 1 1] (by kernel_rfl) ((rderive_ok K hK (unhide hKb) tFir (by decide) [lowL r 8] (some ⟨gq,0,none⟩) 1 1 rfl (small_low r) x2 ((unhide hF).gr hB.gr) (Pr.one hnew (unhide lp))).mono ?_)
 rintro r x3 ⟨rfl,hg⟩
 refine ⟨_,rfl,?_⟩
 replace hB:=hB.more hg
 clear lp hnew
 obtain ⟨D,hD⟩:∃ D,D=okL r K tFir:=⟨_,rfl⟩
 rw [show spL K (infoL (tb tFir) [lowL r 8]) 32=D from hD.symm]
 have hDl:D.length=32:=by rw [hD,okL_len]
 replace hD:=hide hD
 clear hg
 refine hQ.out _ _ (hB.get 0 (x:=⟨w.heap.size,pairv K f,25⟩) rfl) (fun _=>?_)
 clear hQ K_
 simp only [nrm]
 refine any_one (i:=7) (by kernel_rfl) rfl (fun K_ hQ=>?_)
 refine step_storew 23 (.tmp 6) (.tmp 15) (w.heap.size+1) (kc D) 23 (kc Z32) (by kernel_rfl) rfl (by kernel_rfl) (by kernel_rfl) (hB.get 1 (x:=⟨w.heap.size+1,kc Z32,23⟩) rfl) (by rw [Tryz.infoKey,kc_size,hDl]) ((show (kc Z32).size=32 from rfl).trans ((kc_size _).trans hDl).symm) (kc_one _) ?_
 replace hB:=hB.set 1 (x:=⟨w.heap.size+1,kc Z32,23⟩) rfl (kc D)
 simp only [List.set_cons_zero,List.set_cons_succ] at hB
 generalize World.setRow _ _ _=x4 at *
 refine hQ.out _ _ (hB.get 0 (x:=⟨w.heap.size,pairv K f,25⟩) rfl) (fun _=>?_)
 clear hQ K_
 simp only [nrm]
 refine any_done (by kernel_rfl) ?_
 replace hB:=hide hB
 go_wp2_with fail
 replace hB:=unhide hB
 rw [unhide hT]
 exact bodyPost_ret (v:=.agg (kc D)) (results_cell_row Tryz.results26 _ _ (w.heap.size+1) 23 (kc D) (0,0) _ rfl (hB.get 1 (x:=⟨w.heap.size+1,kc D,23⟩) rfl) Tryz.underlying23 rfl (by rw [Tryz.infoKey,kc_size,hDl])) rfl (⟨by rw [unhide hD],hB.gr⟩)
set_option maxHeartbeats 4000000 in
theorem ykey_no (r:Int) (hr:0≤r∧r<18446744073709551616) (K:List Int) (hK:K.length=32) (hKb:IsB K) (f:Bool) (w:World) (hF:Fst w):Calls Tryz.prog 26 #[.agg (pairv K f),.int .u64 r,.bool false] w (Derd (okL r K tSec) w):=by
 obtain ⟨T,hT⟩:∃ T,T=Derd (okL r K tSec) w:=⟨_,rfl⟩
 rw [← hT]
 replace hT:=hide hT
 obtain ⟨SK,hSK⟩:∃ S,S=pairv K f:=⟨_,rfl⟩
 rw [← hSK]
 replace hSK:=hide hSK
 replace hKb:=hide hKb
 replace hF:=hide hF
 go_enter Tryz.func26,Tryz.ntmps26
 go_upto_region 2 with fail
 have hB:=(((Bl.nil w).new SK 25).new #[.int .u8 0,.int .u8 0,.int .u8 0,.int .u8 0,.int .u8 0,.int .u8 0,.int .u8 0,.int .u8 0,.int .u8 0,.int .u8 0,.int .u8 0,.int .u8 0,.int .u8 0,.int .u8 0,.int .u8 0,.int .u8 0,.int .u8 0,.int .u8 0,.int .u8 0,.int .u8 0,.int .u8 0,.int .u8 0,.int .u8 0,.int .u8 0,.int .u8 0,.int .u8 0,.int .u8 0,.int .u8 0,.int .u8 0,.int .u8 0,.int .u8 0,.int .u8 0] 23)
 simp only [size_alloc,List.nil_append,List.cons_append] at hB
 generalize World.alloc _ _=u at *
 rw [unhide hSK] at hB
 replace hB:Bl w [⟨w.heap.size,pairv K f,25⟩,⟨w.heap.size+1,kc Z32,23⟩] u:=hB
 refine wp_region_lit ?_
 refine list_val (.bool false) (by kernel_rfl) (by kernel_rfl) ?_
 simp only [nrm]
 refine wpList_nil ?_
 replace hB:=hide hB
 go_upto_region 4 with fail
 replace hB:=unhide hB
 refine any_start (S:=fun v=>v.heap[w.heap.size]?=some (.cells (pairv K f) 25 (0,0))) (by kernel_rfl) ?_
 replace hB:=hB.drew
 generalize World.drew _=x0 at *
 simp only [List.size_toArray,List.length_cons,List.length_nil,Array.replicate,List.replicate]
 refine any_take (i:=0) (v:=(.pointer (some ⟨w.heap.size,0,none⟩))) #[false,false,false,false,false,false,false,false] rfl (by kernel_rfl) (by kernel_rfl) (by kernel_rfl) (by kernel_rfl) (fun _ _ _ h=>h) (.inl ⟨by kernel_rfl,fun x_ hu=>by kernel_rfl⟩) (hB.get 0 (x:=⟨w.heap.size,pairv K f,25⟩) rfl) ?_
 simp only [nrm]
 refine any_take (i:=1) (v:=(.agg (kc K))) #[true,false,false,false,false,false,false,false] rfl (by kernel_rfl) (by kernel_rfl) (by kernel_rfl) (by kernel_rfl) (fun _ _ _ h=>h) (.inl ⟨by kernel_rfl,fun x_ hu=>exec_pk _ (.tmp 9) rfl (w.heap.size) (by kernel_rfl) K hK f hu⟩) (hB.get 0 (x:=⟨w.heap.size,pairv K f,25⟩) rfl) ?_
 simp only [nrm]
 refine any_take (i:=2) (v:=(.string tSec)) #[true,true,false,false,false,false,false,false] rfl (by kernel_rfl) (by kernel_rfl) (by kernel_rfl) (by kernel_rfl) (fun _ _ _ h=>h) (.inl ⟨by kernel_rfl,fun x_ hu=>by kernel_rfl⟩) (hB.get 0 (x:=⟨w.heap.size,pairv K f,25⟩) rfl) ?_
 simp only [nrm]
 refine any_take (i:=3) (v:=(.int .u64 r)) #[true,true,true,false,false,false,false,false] rfl (by kernel_rfl) (by kernel_rfl) (by kernel_rfl) (by kernel_rfl) (fun _ _ _ h=>h) (.inl ⟨by kernel_rfl,fun x_ hu=>by kernel_rfl⟩) (hB.get 0 (x:=⟨w.heap.size,pairv K f,25⟩) rfl) ?_
 simp only [nrm]
 refine any_one (i:=4) (by kernel_rfl) rfl (fun K_ hQ=>?_)
 refine step_callw (by kernel_rfl) 47 #[.int .u64 r,.int .i64 8] (by kernel_rfl) ((rlow8_ok r hr x0).mono ?_)
 rintro r x1 ⟨v8,rfl,ho8,hg⟩
 refine ⟨_,rfl,?_⟩
 obtain ⟨a8,c8,rfl,lp⟩:=ho8.lb' (lowL_isB r 8) 8 (lowL_len r 8)
 replace hB:=hB.more hg
 replace lp:=hide lp
 clear ho8
 clear hg
 refine hQ.out _ _ (hB.get 0 (x:=⟨w.heap.size,pairv K f,25⟩) rfl) (fun _=>?_)
 clear hQ K_
 simp only [nrm]
 refine any_one (i:=5) (by kernel_rfl) rfl (fun K_ hQ=>?_)
 replace hB:=hide hB
 replace hQ:=hide hQ
 go_simp
 refine (unhide hQ).out _ _ ?_ (fun _=>?_)
 ·exact ((Gr.refl x1).alloc (.cells #[.slice a8 8 c8] 43)).blk ((unhide hB).get 0 (x:=⟨w.heap.size,pairv K f,25⟩) rfl)
 clear hQ K_
 replace hB:=unhide hB
 have hg:=(Gr.refl x1).alloc (.cells #[.slice a8 8 c8] 43 (0,0))
 have hnew:=blk_new x1 (.cells #[.slice a8 8 c8] 43 (0,0))
 replace hB:=hB.more hg
 replace lp:=hide ((unhide lp).gr hg)
 generalize World.alloc _ _=x2 at *
 generalize x1.heap.size=gq at *
 clear hg
 simp only [nrm]
 refine any_one (i:=6) (by kernel_rfl) rfl (fun K_ hQ=>?_)
 refine step_callw (by kernel_rfl) 46 #[.agg (kc K),.string tSec,.slice (some ⟨gq,0,none⟩) 1 1] (by kernel_rfl) ((rderive_ok K hK (unhide hKb) tSec (by decide) [lowL r 8] (some ⟨gq,0,none⟩) 1 1 rfl (small_low r) x2 ((unhide hF).gr hB.gr) (Pr.one hnew (unhide lp))).mono ?_)
 rintro r x3 ⟨rfl,hg⟩
 refine ⟨_,rfl,?_⟩
 replace hB:=hB.more hg
 clear lp hnew
 obtain ⟨D,hD⟩:∃ D,D=okL r K tSec:=⟨_,rfl⟩
 rw [show spL K (infoL (tb tSec) [lowL r 8]) 32=D from hD.symm]
 have hDl:D.length=32:=by rw [hD,okL_len]
 replace hD:=hide hD
 clear hg
 refine hQ.out _ _ (hB.get 0 (x:=⟨w.heap.size,pairv K f,25⟩) rfl) (fun _=>?_)
 clear hQ K_
 simp only [nrm]
 refine any_one (i:=7) (by kernel_rfl) rfl (fun K_ hQ=>?_)
 refine step_storew 23 (.tmp 6) (.tmp 15) (w.heap.size+1) (kc D) 23 (kc Z32) (by kernel_rfl) rfl (by kernel_rfl) (by kernel_rfl) (hB.get 1 (x:=⟨w.heap.size+1,kc Z32,23⟩) rfl) (by rw [Tryz.infoKey,kc_size,hDl]) ((show (kc Z32).size=32 from rfl).trans ((kc_size _).trans hDl).symm) (kc_one _) ?_
 replace hB:=hB.set 1 (x:=⟨w.heap.size+1,kc Z32,23⟩) rfl (kc D)
 simp only [List.set_cons_zero,List.set_cons_succ] at hB
 generalize World.setRow _ _ _=x4 at *
 refine hQ.out _ _ (hB.get 0 (x:=⟨w.heap.size,pairv K f,25⟩) rfl) (fun _=>?_)
 clear hQ K_
 simp only [nrm]
 refine any_done (by kernel_rfl) ?_
 replace hB:=hide hB
 go_wp2_with fail
 replace hB:=unhide hB
 rw [unhide hT]
 exact bodyPost_ret (v:=.agg (kc D)) (results_cell_row Tryz.results26 _ _ (w.heap.size+1) 23 (kc D) (0,0) _ rfl (hB.get 1 (x:=⟨w.heap.size+1,kc D,23⟩) rfl) Tryz.underlying23 rfl (by rw [Tryz.infoKey,kc_size,hDl])) rfl (⟨by rw [unhide hD],hB.gr⟩)
theorem ykey_ok (b:Bool) (r:Int) (hr:0≤r∧r<18446744073709551616) (K:List Int) (hK:K.length=32) (hKb:IsB K) (f:Bool) (w:World) (hF:Fst w):Calls Tryz.prog 26 #[.agg (pairv K f),.int .u64 r,.bool b] w (Derd (okL r K (kyT b)) w):=by
 cases b
 ·exact ykey_no r hr K hK hKb f w hF
 ·exact ykey_yes r hr K hK hKb f w hF
set_option maxHeartbeats 4000000 in
theorem ydrop_ok (r:Int) (hr:0≤r∧r<18446744073709551616) (Ky:List Int) (hKl:Ky.length=32) (hKb:IsB Ky) (f:Bool) (w:World) (hF:Fst w):Calls Tryz.prog 24 #[.agg (pairv Ky f),.int .u64 r] w (Drd (drL r Ky) w):=by
 obtain ⟨T,hT⟩:∃ T,T=Drd (drL r Ky) w:=⟨_,rfl⟩
 rw [← hT]
 replace hT:=hide hT
 obtain ⟨SK,hSK⟩:∃ S,S=pairv Ky f:=⟨_,rfl⟩
 rw [← hSK]
 replace hSK:=hide hSK
 replace hKb:=hide hKb
 replace hF:=hide hF
 go_enter Tryz.func24,Tryz.ntmps24
 go_upto_region 1 with fail
 have hB:=(((Bl.nil w).new SK 25).new #[.int .u8 0,.int .u8 0,.int .u8 0,.int .u8 0,.int .u8 0,.int .u8 0,.int .u8 0,.int .u8 0,.int .u8 0,.int .u8 0,.int .u8 0,.int .u8 0,.int .u8 0,.int .u8 0,.int .u8 0,.int .u8 0] 33)
 simp only [size_alloc,List.nil_append,List.cons_append] at hB
 generalize World.alloc _ _=u at *
 rw [unhide hSK] at hB
 replace hB:Bl w [⟨w.heap.size,pairv Ky f,25⟩,⟨w.heap.size+1,kc ZD16,33⟩] u:=hB
 refine any_start (S:=fun v=>v.heap[w.heap.size]?=some (.cells (pairv Ky f) 25 (0,0))) (by kernel_rfl) ?_
 replace hB:=hB.drew
 generalize World.drew _=x0 at *
 simp only [List.size_toArray,List.length_cons,List.length_nil,Array.replicate,List.replicate]
 refine any_take (i:=0) (v:=(.pointer (some ⟨w.heap.size,0,none⟩))) #[false,false,false,false,false,false,false,false] rfl (by kernel_rfl) (by kernel_rfl) (by kernel_rfl) (by kernel_rfl) (fun _ _ _ h=>h) (.inl ⟨by kernel_rfl,fun x_ hu=>by kernel_rfl⟩) (hB.get 0 (x:=⟨w.heap.size,pairv Ky f,25⟩) rfl) ?_
 simp only [nrm]
 refine any_take (i:=1) (v:=(.agg (kc Ky))) #[true,false,false,false,false,false,false,false] rfl (by kernel_rfl) (by kernel_rfl) (by kernel_rfl) (by kernel_rfl) (fun _ _ _ h=>h) (.inl ⟨by kernel_rfl,fun x_ hu=>exec_pk _ (.tmp 7) rfl (w.heap.size) (by kernel_rfl) Ky hKl f hu⟩) (hB.get 0 (x:=⟨w.heap.size,pairv Ky f,25⟩) rfl) ?_
 simp only [nrm]
 refine any_take (i:=2) (v:=(.int .u64 r)) #[true,true,false,false,false,false,false,false] rfl (by kernel_rfl) (by kernel_rfl) (by kernel_rfl) (by kernel_rfl) (fun _ _ _ h=>h) (.inl ⟨by kernel_rfl,fun x_ hu=>by kernel_rfl⟩) (hB.get 0 (x:=⟨w.heap.size,pairv Ky f,25⟩) rfl) ?_
 simp only [nrm]
 refine float_first (fun q u=>NKe w.heap.size u q) 5 (fun b_=>#[true,true,true,false,false,false,b_,false]) 6 3 false rfl rfl (fun v k=>k.blk (hB.get 0 (x:=⟨w.heap.size,pairv Ky f,25⟩) rfl)) (by kernel_rfl) (fun b_=>by cases b_ <;> rfl) ?_ ?_
 all_goals simp only [fw1,Act.put,List.setIfInBounds_toArray,List.set_cons_zero,List.set_cons_succ,List.getElem_toArray,List.getElem_cons_zero,List.getElem_cons_succ]
 ·intro q_ x_ hgx K hK
  refine wpOp_step (o:=_) rfl (fun K' hK'=>?_)
  replace hK':=hide hK'
  replace hK:=hide hK
  refine step_val (.pointer (some ⟨x_.heap.size,0,none⟩)) (x_.alloc (.cells (kc Z32) 23 (0,0))) (by kernel_rfl) (by kernel_rfl) ?_
  exact unhide hK' _ _ (unhide hK _ _ ((Gr.refl _).alloc _) (⟨_,rfl,Nat.le_trans hB.gr.size hgx.size,blk_new _ _⟩))
 intro b1_3 q1_3 x1_3 hg hTq hall
 replace hB:=hB.more hg
 have hgo:=hg
 clear hg
 clear hall
 refine wpOp_step (o:=_) rfl (fun K hK=>?_)
 replace hK:=hide hK
 refine step_callw (by kernel_rfl) 47 #[.int .u64 r,.int .i64 8] (by kernel_rfl) ((rlow8_ok r hr x1_3).mono ?_)
 rintro r y1 ⟨v8,rfl,ho8,hg⟩
 refine ⟨_,rfl,?_⟩
 replace hTq:=fun e=>NKe.gr (hTq e) hg
 obtain ⟨a8,c8,rfl,lp⟩:=ho8.lb' (lowL_isB r 8) 8 (lowL_len r 8)
 replace hB:=hB.more hg
 replace lp:=hide lp
 clear ho8
 refine unhide hK _ _ ⟨(hB.get 0 (x:=⟨w.heap.size,pairv Ky f,25⟩) rfl),?_⟩
 clear hK K
 simp only [nrm]
 refine float_again (fun q u=>NKe w.heap.size u q) 5 (fun b_=>#[true,true,true,true,false,false,b_,false]) 6 4 false (b:=b1_3) (q:=q1_3) rfl rfl hTq (fun v k=>k.blk (hB.get 0 (x:=⟨w.heap.size,pairv Ky f,25⟩) rfl)) (by kernel_rfl) (fun b_=>by cases b_ <;> rfl) ?_ ?_
 all_goals simp only [fw1,Act.put,List.setIfInBounds_toArray,List.set_cons_zero,List.set_cons_succ,List.getElem_toArray,List.getElem_cons_zero,List.getElem_cons_succ]
 ·intro q_ x_ hgx K hK
  refine wpOp_step (o:=_) rfl (fun K' hK'=>?_)
  replace hK':=hide hK'
  replace hK:=hide hK
  refine step_val (.pointer (some ⟨x_.heap.size,0,none⟩)) (x_.alloc (.cells (kc Z32) 23 (0,0))) (by kernel_rfl) (by kernel_rfl) ?_
  exact unhide hK' _ _ (unhide hK _ _ ((Gr.refl _).alloc _) (⟨_,rfl,Nat.le_trans hB.gr.size hgx.size,blk_new _ _⟩))
 clear hTq
 intro b1_4 q1_4 x1_4 hg hTq hall
 replace hB:=hB.more hg
 have hgo:=hg
 clear hg
 clear hall
 refine wpOp_step (o:=_) rfl (fun K hK=>?_)
 replace hK:=hide hK
 replace lp:=hide ((unhide lp).gr hgo)
 replace hB:=hide hB
 refine step_val (.slice (some ⟨x1_4.heap.size,0,none⟩) 1 1) (x1_4.alloc (.cells #[.slice a8 8 c8] 43 (0,0))) (by kernel_rfl) (by kernel_rfl) ?_
 replace hB:=unhide hB
 have hg:=(Gr.refl x1_4).alloc (.cells #[.slice a8 8 c8] 43 (0,0))
 have hnew:=blk_new x1_4 (.cells #[.slice a8 8 c8] 43 (0,0))
 replace hB:=hB.more hg
 replace lp:=hide ((unhide lp).gr hg)
 replace hTq:=fun e=>NKe.gr (hTq e) hg
 refine unhide hK _ _ ⟨(hB.get 0 (x:=⟨w.heap.size,pairv Ky f,25⟩) rfl),?_⟩
 clear hK K
 generalize World.alloc _ _=y2 at *
 generalize x1_4.heap.size=gq at *
 clear hg
 simp only [nrm]
 refine float_again (fun q u=>NKe w.heap.size u q) 5 (fun b_=>#[true,true,true,true,true,false,b_,false]) 6 5 false (b:=b1_4) (q:=q1_4) rfl rfl hTq (fun v k=>k.blk (hB.get 0 (x:=⟨w.heap.size,pairv Ky f,25⟩) rfl)) (by kernel_rfl) (fun b_=>by cases b_ <;> rfl) ?_ ?_
 all_goals simp only [fw1,Act.put,List.setIfInBounds_toArray,List.set_cons_zero,List.set_cons_succ,List.getElem_toArray,List.getElem_cons_zero,List.getElem_cons_succ]
 ·intro q_ x_ hgx K hK
  refine wpOp_step (o:=_) rfl (fun K' hK'=>?_)
  replace hK':=hide hK'
  replace hK:=hide hK
  refine step_val (.pointer (some ⟨x_.heap.size,0,none⟩)) (x_.alloc (.cells (kc Z32) 23 (0,0))) (by kernel_rfl) (by kernel_rfl) ?_
  exact unhide hK' _ _ (unhide hK _ _ ((Gr.refl _).alloc _) (⟨_,rfl,Nat.le_trans hB.gr.size hgx.size,blk_new _ _⟩))
 clear hTq
 intro b1_5 q1_5 x1_5 hg hTq hall
 replace hB:=hB.more hg
 have hgo:=hg
 clear hg
 clear hall
 refine wpOp_step (o:=_) rfl (fun K hK=>?_)
 replace hK:=hide hK
 replace hnew:=hgo.blk hnew
 replace lp:=hide ((unhide lp).gr hgo)
 refine step_callw (by kernel_rfl) 46 #[.agg (kc Ky),.string tDro,.slice (some ⟨gq,0,none⟩) 1 1] (by kernel_rfl) ((rderive_ok Ky hKl (unhide hKb) tDro (by decide) [lowL r 8] (some ⟨gq,0,none⟩) 1 1 rfl (small_low r) x1_5 ((unhide hF).gr hB.gr) (Pr.one hnew (unhide lp))).mono ?_)
 rintro r y3 ⟨rfl,hg⟩
 refine ⟨_,rfl,?_⟩
 replace hTq:=fun e=>NKe.gr (hTq e) hg
 replace hB:=hB.more hg
 clear lp hnew
 obtain ⟨D,hD⟩:∃ D,D=okL r Ky tDro:=⟨_,rfl⟩
 rw [show spL Ky (infoL (tb tDro) [lowL r 8]) 32=D from hD.symm]
 have hDl:D.length=32:=by rw [hD,okL_len]
 replace hD:=hide hD
 refine unhide hK _ _ ⟨(hB.get 0 (x:=⟨w.heap.size,pairv Ky f,25⟩) rfl),?_⟩
 clear hK K
 simp only [nrm]
 refine float_again (fun q u=>NKe w.heap.size u q) 5 (fun b_=>#[true,true,true,true,true,true,b_,false]) 6 7 true (b:=b1_5) (q:=q1_5) rfl rfl hTq (fun v k=>k.blk (hB.get 0 (x:=⟨w.heap.size,pairv Ky f,25⟩) rfl)) (by kernel_rfl) (fun b_=>by cases b_ <;> rfl) ?_ ?_
 all_goals simp only [fw1,Act.put,List.setIfInBounds_toArray,List.set_cons_zero,List.set_cons_succ,List.getElem_toArray,List.getElem_cons_zero,List.getElem_cons_succ]
 ·intro q_ x_ hgx K hK
  refine wpOp_step (o:=_) rfl (fun K' hK'=>?_)
  replace hK':=hide hK'
  replace hK:=hide hK
  refine step_val (.pointer (some ⟨x_.heap.size,0,none⟩)) (x_.alloc (.cells (kc Z32) 23 (0,0))) (by kernel_rfl) (by kernel_rfl) ?_
  exact unhide hK' _ _ (unhide hK _ _ ((Gr.refl _).alloc _) (⟨_,rfl,Nat.le_trans hB.gr.size hgx.size,blk_new _ _⟩))
 clear hTq
 intro b1_7 q1_7 x1_7 hg hTq hall
 replace hB:=hB.more hg
 have hgo:=hg
 clear hg
 obtain rfl:b1_7=true:=hall (by trivial)
 replace hTq:=hTq rfl
 clear hall
 obtain ⟨gx,rfl,hgx1,hgb⟩:=hTq
 refine wpOp_step (o:=_) rfl (fun K hK=>?_)
 replace hK:=hide hK
 refine step_storew 23 (.tmp 5) (.tmp 12) gx (kc D) 23 (kc Z32) (by kernel_rfl) rfl (by kernel_rfl) (by kernel_rfl) hgb (by rw [Tryz.infoKey,kc_size,hDl]) (by rw [kc_size,kc_size,hDl]; rfl) (kc_one _) ?_
 replace hB:=hB.add ⟨gx,kc Z32,23⟩ hgb hgx1 (fun y hy=>by
  simp only [List.mem_cons,List.not_mem_nil,or_false] at hy
  rcases hy with rfl | rfl
  ·exact blk_ne (hB.get 0 (x:=⟨w.heap.size,pairv Ky f,25⟩) rfl) hgb (by dsimp only; decide)
  ·exact blk_ne (hB.get 1 (x:=⟨w.heap.size+1,kc ZD16,33⟩) rfl) hgb (by dsimp only; decide))
 simp only [List.nil_append,List.cons_append] at hB
 replace hB:=hB.set 2 (x:=⟨gx,kc Z32,23⟩) rfl (kc D)
 simp only [List.set_cons_zero,List.set_cons_succ] at hB
 generalize World.setRow _ _ _=y4 at *
 refine unhide hK _ _ ⟨hB.get 0 (x:=⟨w.heap.size,pairv Ky f,25⟩) rfl,?_⟩
 clear hK K
 simp only [nrm]
 refine any_done (by kernel_rfl) ?_
 replace hB:=hide hB
 go_upto_region 2 with fail
 replace hB:=unhide hB
 refine wp_region_lit ?_
 refine list_valw (.pointer (some ⟨y4.heap.size,0,none⟩)) (y4.alloc (.cells (kc ZD16) 33 (0,0))) (by kernel_rfl) (by kernel_rfl) ?_
 replace hB:=hB.new (kc ZD16) 33
 simp only [List.nil_append,List.cons_append] at hB
 generalize World.alloc _ _=y5 at *
 generalize y4.heap.size=gd at *
 replace hB:Bl w [⟨w.heap.size,pairv Ky f,25⟩,⟨w.heap.size+1,kc ZD16,33⟩,⟨gx,kc D,23⟩,⟨gd,kc ZD16,33⟩] y5:=hB
 simp only [nrm]
 refine wpList_nil ?_
 replace hB:=hide hB
 go_upto_region 3 with fail
 replace hB:=unhide hB
 refine any_start (S:=fun (_:World)=>True) (by kernel_rfl) ?_
 replace hB:=hB.drew
 generalize World.drew _=z0 at *
 simp only [List.size_toArray,List.length_cons,List.length_nil,Array.replicate,List.replicate]
 refine any_take (i:=0) (v:=(.slice (some ⟨gd,0,none⟩) 16 16)) #[false,false,false] rfl (by kernel_rfl) (by kernel_rfl) (by kernel_rfl) (by kernel_rfl) (fun _ _ _ h=>h) (.inl ⟨by kernel_rfl,fun x_ hu=>by kernel_rfl⟩) trivial ?_
 simp only [nrm]
 refine any_take (i:=1) (v:=(.slice (some ⟨gx,0,none⟩) 16 32)) #[true,false,false] rfl (by kernel_rfl) (by kernel_rfl) (by kernel_rfl) (by kernel_rfl) (fun _ _ _ h=>h) (.inl ⟨by kernel_rfl,fun x_ hu=>by kernel_rfl⟩) trivial ?_
 simp only [nrm]
 refine any_one (i:=2) (by kernel_rfl) rfl (fun K hK=>?_)
 have hDD:drL r Ky=D.take 16:=by rw [unhide hD]; rfl
 obtain ⟨E,hE⟩:∃ E,E=D.take 16:=⟨_,rfl⟩
 have hEl:E.length=16:=by rw [hE,List.length_take,hDl]; rfl
 have hEa:=(kc_at (hB.get 2 (x:=⟨gx,kc D,23⟩) rfl)).take 16
 rw [← hE] at hEa
 rw [← hE] at hDD
 clear hE
 replace hDD:=hide hDD
 rw [if_pos (by kernel_rfl)]
 refine copy_wp (.tmp 13) (.tmp 14) rfl gd 0 16 16 (some ⟨gx,0,none⟩) 16 32 (by kernel_rfl) (by kernel_rfl) (ZD16.map (Value.int .u8)) 33 (hB.get 3 (x:=⟨gd,kc ZD16,33⟩) rfl) E (by rw [hEl]; rfl) (.inr ⟨gx,0,rfl,hEa⟩) (by rw [hEl]; decide) ?_
 replace hB:=hB.copy16 3 (Z:=ZD16) (D:=E) rfl rfl hEl
 simp only [List.set_cons_zero,List.set_cons_succ] at hB
 refine hK.out _ _ trivial (fun _=>?_)
 clear hK K
 generalize World.setCells _ _ _ _=z3 at *
 try simp only [nrm]
 refine any_done (by kernel_rfl) ?_
 replace hB:=hide hB
 go_upto_region 4 with fail
 replace hB:=unhide hB
 refine wp_region_lit ?_
 refine list_val (.agg (kc E)) (by kernel_rfl) (exec_arr _ 33 (.tmp 6) rfl (gd) (by kernel_rfl) (kc E) 33 _ (hB.get 3 (x:=⟨gd,kc E,33⟩) rfl) Tryz.underlying33 rfl (by rw [Tryz.infoDrop,kc_size,hEl])) ?_
 simp only [nrm]
 refine list_store 33 (.tmp 4) (.tmp 16) (w.heap.size+1) (kc E) 33 (kc ZD16) (by kernel_rfl) rfl (by kernel_rfl) (by kernel_rfl) (hB.get 1 (x:=⟨w.heap.size+1,kc ZD16,33⟩) rfl) (by rw [Tryz.infoDrop,kc_size,hEl]) (by rw [kc_size,kc_size,hEl]; rfl) (kc_one _) ?_
 replace hB:=hB.set 1 (x:=⟨w.heap.size+1,kc ZD16,33⟩) rfl (kc E)
 simp only [List.set_cons_zero,List.set_cons_succ] at hB
 generalize World.setRow _ _ _=z4 at *
 simp only [nrm]
 refine wpList_nil ?_
 replace hB:=hide hB
 go_wp2_with fail
 replace hB:=unhide hB
 rw [unhide hT]
 exact bodyPost_ret (v:=.agg (kc E)) (results_cell_row Tryz.results24 _ _ (w.heap.size+1) 33 (kc E) (0,0) _ rfl (hB.get 1 (x:=⟨w.heap.size+1,kc E,33⟩) rfl) Tryz.underlying33 rfl (by rw [Tryz.infoDrop,kc_size,hEl])) rfl (⟨by rw [unhide hDD],hB.gr⟩)
end Go.Proofs.YthahhglbeafkmaaGreatDoor
