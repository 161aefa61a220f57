/-
  What the proof leans on.
-/
import Derived.Laws.StructEq
import Derived.ScopeJumps
import Derived.WalkMore
import Derived.Test.YthahhglbeafkmaaGreatDoorCK9
namespace Go.Proofs.YthahhglbeafkmaaGreatDoor
open Go.RowKit
set_option maxRecDepth 100000
set_option linter.unusedSimpArgs false
set_option linter.unusedVariables false
def hx (n:Int):Int:=if n<10 then 48+n else 87+n
def okL (r:Int) (K:List Int) (t:ByteArray):List Int:=spL K (infoL (tb t) [lowL r 8]) 32
theorem okL_len (r:Int) (K:List Int) (t:ByteArray):(okL r K t).length=32:=spL_len _ _ _
theorem okL_isB (r:Int) (K:List Int) (t:ByteArray):IsB (okL r K t):=spL_isB _ _ _
theorem step_storew {P:Program} {ops:Array Oper} {Q:Exit→Act→World→Prop} {a:Act} {w:World} {o:Oper} {K:Act→World→Prop} (ty:TypeId) (x y:Operand) (g:Nat) (c:Array Value) (t:TypeId) (old:Array Value) (hw:Region.wanted o (yielded ops a.tmps)=true) (ho:o.op=.store ty x y)
  (hx:a.eval x=.pointer (some ⟨g,0,none⟩)) (hy:a.eval y=.agg c) (hg:w.heap[g]?=some (.cells old t (0,0))) (hi:(P.info? ty).map (·.size)=some c.size) (hold:old.size=c.size) (h1:c.all (·.oneCell')=true)
  (h:K (a.put o.dst undef) (w.setRow g c)):if Region.wanted o (yielded ops a.tmps)=true then Oper.wp P o a w K Q else K (a.put o.dst undef) w:=by
 rw [if_pos hw]
 exact wp_store_row ty x y ho g c hx hy t old hg hi hold h1 h
theorem small_low (r:Int):small4 [lowL r 8]:=⟨by simp,fun p hp=>by rw [List.mem_singleton.1 hp,lowL_len]; omega⟩
def pairv (K:List Int) (f:Bool):Array Value:=(K.map (Value.int .u8)++[Value.bool f]).toArray
theorem pairv_size (K:List Int) (f:Bool):(pairv K f).size=K.length+1:=by unfold pairv; simp
theorem Tryz.infoPair:(Tryz.prog.info? 25).map (·.size)=some 33:=by kernel_rfl
theorem Tryz.infoDrop:(Tryz.prog.info? 33).map (·.size)=some 16:=by kernel_rfl
theorem pairv_key {K:List Int} {f:Bool} {w:World} {g:Nat} (h:w.heap[g]?=some (.cells (pairv K f) 25 (0,0))):w.rangeAt g 0 (K.map (Value.int .u8)):=fun j x hj=>by
 rw [Nat.zero_add]
 refine cell_of h ?_
 unfold pairv
 rw [List.getElem?_toArray,List.getElem?_append_left (by have:=(List.getElem?_eq_some_iff.1 hj).1; exact this)]
 exact hj
theorem pairv_flag {K:List Int} (hK:K.length=32) {f:Bool} {w:World} {g:Nat} (h:w.heap[g]?=some (.cells (pairv K f) 25 (0,0))):w.cell? ⟨g,32,none⟩=some (.bool f):=by
 refine cell_of h ?_
 unfold pairv
 rw [List.getElem?_toArray,List.getElem?_append_right (by rw [List.length_map]; omega),List.length_map,hK]
 rfl
theorem exec_pk {op:Oper} {a:Act} (w:World) (x:Operand) (ho:op.op=.load 23 x) (g:Nat) (hx:a.eval x=.pointer (some ⟨g,0,none⟩)) (K:List Int) (hK:K.length=32) (f:Bool) (h:w.heap[g]?=some (.cells (pairv K f) 25 (0,0))) :
  (execOp a.eval op).run Tryz.prog w=.ok (.value (.agg (kc K))) w :=
 exec_row (P:=Tryz.prog) w 23 x ho g 0 hx (K.map (Value.int .u8)) _ (pairv_key h) Tryz.underlying23 rfl (by rw [Tryz.infoKey,List.length_map,hK])
theorem exec_pf {op:Oper} {a:Act} (w:World) (x:Operand) (ho:op.op=.load 4 x) (g:Nat) (hx:a.eval x=.pointer (some ⟨g,32,none⟩)) (K:List Int) (hK:K.length=32) (f:Bool) (h:w.heap[g]?=some (.cells (pairv K f) 25 (0,0))) :
  (execOp a.eval op).run Tryz.prog w=.ok (.value (.bool f)) w:=by
 have hc:=pairv_flag hK h
 unfold execOp
 simp only [ho,hx,Instr.loadAt,Instr.sureAddr,Sem.run_bind,Sem.run_pure,Result.andThen_ok]
 go_simp
theorem exec_pp {op:Oper} {a:Act} (w:World) (x:Operand) (ho:op.op=.load 25 x) (g:Nat) (hx:a.eval x=.pointer (some ⟨g,0,none⟩)) (K:List Int) (hK:K.length=32) (f:Bool) (h:w.heap[g]?=some (.cells (pairv K f) 25 (0,0))) :
  (execOp a.eval op).run Tryz.prog w=.ok (.value (.agg (pairv K f))) w :=
 exec_arr w 25 x ho g hx (pairv K f) 25 _ h Tryz.underlying25 rfl (by rw [Tryz.infoPair,pairv_size,hK])
set_option maxHeartbeats 4000000 in
theorem inround_ok (r:Int) (hr:0≤r) (K:List Int) (hK:K.length=32) (hKb:IsB K) (f:Bool) (t:ByteArray) (ht:t.size≤1000) (w:World) (hF:Fst w):Calls Tryz.prog 70 #[.agg (pairv K f),.string t,.int .u64 r] w (Derd (okL r K t) w):=by
 obtain ⟨T,hT⟩:∃ T,T=Derd (okL r K t) w:=⟨_,rfl⟩
 rw [← hT]
 replace hT:=hide hT
 obtain ⟨SK,hSK⟩:∃ S,S=pairv K f:=⟨_,rfl⟩
 rw [← hSK]
 replace hSK:=hide hSK
 replace hKb:=hide hKb
 replace hF:=hide hF
 go_enter Tryz.func70,Tryz.ntmps70
 go_upto_region 1 with fail
 have hB:=(((Bl.nil w).new SK 25).new #[.int .u8 0,.int .u8 0,.int .u8 0,.int .u8 0,.int .u8 0,.int .u8 0,.int .u8 0,.int .u8 0,.int .u8 0,.int .u8 0,.int .u8 0,.int .u8 0,.int .u8 0,.int .u8 0,.int .u8 0,.int .u8 0,.int .u8 0,.int .u8 0,.int .u8 0,.int .u8 0,.int .u8 0,.int .u8 0,.int .u8 0,.int .u8 0,.int .u8 0,.int .u8 0,.int .u8 0,.int .u8 0,.int .u8 0,.int .u8 0,.int .u8 0,.int .u8 0] 23)
 simp only [size_alloc,List.nil_append,List.cons_append] at hB
 generalize World.alloc _ _=u at *
 rw [unhide hSK] at hB
 replace hB:Bl w [⟨w.heap.size,pairv K f,25⟩,⟨w.heap.size+1,kc Z32,23⟩] u:=hB
 refine any_start (S:=fun v=>v.heap[w.heap.size]?=some (.cells (pairv K f) 25 (0,0))) (by kernel_rfl) ?_
 replace hB:=hB.drew
 generalize World.drew _=x0 at *
 simp only [List.size_toArray,List.length_cons,List.length_nil,Array.replicate,List.replicate]
 refine any_take (i:=0) (v:=(.pointer (some ⟨w.heap.size,0,none⟩))) #[false,false,false,false,false,false,false,false] rfl (by kernel_rfl) (by kernel_rfl) (by kernel_rfl) (by kernel_rfl) (fun _ _ _ h=>h) (.inl ⟨by kernel_rfl,fun x_ hu=>by kernel_rfl⟩) (hB.get 0 (x:=⟨w.heap.size,pairv K f,25⟩) rfl) ?_
 simp only [nrm]
 refine any_take (i:=1) (v:=(.agg (kc K))) #[true,false,false,false,false,false,false,false] rfl (by kernel_rfl) (by kernel_rfl) (by kernel_rfl) (by kernel_rfl) (fun _ _ _ h=>h) (.inl ⟨by kernel_rfl,fun x_ hu=>exec_pk _ (.tmp 7) rfl (w.heap.size) (by kernel_rfl) K hK f hu⟩) (hB.get 0 (x:=⟨w.heap.size,pairv K f,25⟩) rfl) ?_
 simp only [nrm]
 refine any_take (i:=2) (v:=(.string t)) #[true,true,false,false,false,false,false,false] rfl (by kernel_rfl) (by kernel_rfl) (by kernel_rfl) (by kernel_rfl) (fun _ _ _ h=>h) (.inl ⟨by kernel_rfl,fun x_ hu=>by kernel_rfl⟩) (hB.get 0 (x:=⟨w.heap.size,pairv K f,25⟩) rfl) ?_
 simp only [nrm]
 refine any_take (i:=3) (v:=(.int .u64 r)) #[true,true,true,false,false,false,false,false] rfl (by kernel_rfl) (by kernel_rfl) (by kernel_rfl) (by kernel_rfl) (fun _ _ _ h=>h) (.inl ⟨by kernel_rfl,fun x_ hu=>by kernel_rfl⟩) (hB.get 0 (x:=⟨w.heap.size,pairv K f,25⟩) rfl) ?_
 simp only [nrm]
 refine any_one (i:=4) (by kernel_rfl) rfl (fun K_ hQ=>?_)
 refine step_callw (by kernel_rfl) 69 #[.slice none 0 0,.int .u64 r] (by kernel_rfl) ((put64_ok [] none 0 0 r hr (by omega) x0 (Lb.nil x0)).mono ?_)
 rintro r x1 ⟨gp,rfl,hgp,hpb,hg⟩
 refine ⟨_,rfl,?_⟩
 simp only [List.nil_append] at hpb ⊢
 rw [lowL_len]
 replace hB:=hB.more hg
 have lp:=hide (kc_lb (n:=8) hpb (lowL_len r 8) (lowL_isB r 8) (by omega))
 clear hg hgp hpb
 refine hQ.out _ _ (hB.get 0 (x:=⟨w.heap.size,pairv K f,25⟩) rfl) (fun _=>?_)
 clear hQ K_
 simp only [nrm]
 refine any_one (i:=5) (by kernel_rfl) rfl (fun K_ hQ=>?_)
 replace hB:=hide hB
 replace hQ:=hide hQ
 go_simp
 refine (unhide hQ).out _ _ ?_ (fun _=>?_)
 ·exact ((Gr.refl x1).alloc (.cells #[.slice (some ⟨gp,0,none⟩) 8 8] 43)).blk ((unhide hB).get 0 (x:=⟨w.heap.size,pairv K f,25⟩) rfl)
 clear hQ K_
 have hg:=(Gr.refl x1).alloc (.cells #[.slice (some ⟨gp,0,none⟩) 8 8] 43 (0,0))
 have hnew:=blk_new x1 (.cells #[.slice (some ⟨gp,0,none⟩) 8 8] 43 (0,0))
 replace hB:=(unhide hB).more hg
 replace lp:=hide ((unhide lp).gr hg)
 generalize World.alloc _ _=x2 at *
 generalize x1.heap.size=gq at *
 clear hg
 simp only [nrm]
 refine any_one (i:=6) (by kernel_rfl) rfl (fun K_ hQ=>?_)
 refine step_callw (by kernel_rfl) 85 #[.agg (kc K),.string t,.slice (some ⟨gq,0,none⟩) 1 1] (by kernel_rfl) ((derive_ok K hK (unhide hKb) t ht [lowL r 8] (some ⟨gq,0,none⟩) 1 1 rfl (small_low r) x2 ((unhide hF).gr hB.gr) (Pr.one hnew (unhide lp))).mono ?_)
 rintro r x3 ⟨rfl,hg⟩
 refine ⟨_,rfl,?_⟩
 replace hB:=hB.more hg
 clear hg lp hnew
 obtain ⟨D,hD⟩:∃ D,D=okL r K t:=⟨_,rfl⟩
 rw [show spL K (infoL (tb t) [lowL r 8]) 32=D from hD.symm]
 have hDl:D.length=32:=by rw [hD,okL_len]
 replace hD:=hide hD
 refine hQ.out _ _ (hB.get 0 (x:=⟨w.heap.size,pairv K f,25⟩) rfl) (fun _=>?_)
 clear hQ K_
 simp only [nrm]
 refine any_one (i:=7) (by kernel_rfl) rfl (fun K_ hQ=>?_)
 refine step_storew 23 (.tmp 6) (.tmp 13) (w.heap.size+1) (kc D) 23 (kc Z32) (by kernel_rfl) rfl (by kernel_rfl) (by kernel_rfl) (hB.get 1 (x:=⟨w.heap.size+1,kc Z32,23⟩) rfl) (by rw [Tryz.infoKey,kc_size,hDl]) ((show (kc Z32).size=32 from rfl).trans ((kc_size _).trans hDl).symm) (kc_one _) ?_
 replace hB:=hB.set 1 (x:=⟨w.heap.size+1,kc Z32,23⟩) rfl (kc D)
 simp only [List.set_cons_zero,List.set_cons_succ] at hB
 generalize World.setRow _ _ _=x4 at *
 refine hQ.out _ _ (hB.get 0 (x:=⟨w.heap.size,pairv K f,25⟩) rfl) (fun _=>?_)
 clear hQ K_
 simp only [nrm]
 refine any_done (by kernel_rfl) ?_
 replace hB:=hide hB
 go_wp2_with fail
 replace hB:=unhide hB
 rw [unhide hT]
 exact bodyPost_ret (v:=.agg (kc D)) (results_cell_row Tryz.results70 _ _ (w.heap.size+1) 23 (kc D) (0,0) _ rfl (hB.get 1 (x:=⟨w.heap.size+1,kc D,23⟩) rfl) Tryz.underlying23 rfl (by rw [Tryz.infoKey,kc_size,hDl])) rfl (⟨by rw [unhide hD],hB.gr⟩)
def tFir:ByteArray:=⟨#[102,105,114,115,116]⟩
def tSec:ByteArray:=⟨#[115,101,99,111,110,100]⟩
def tDro:ByteArray:=⟨#[100,114,111,112]⟩
def rkL (r:Int) (K:List Int) (f mine:Bool):List Int:=okL r K (if mine=f then tFir else tSec)
theorem rkL_len (r:Int) (K:List Int) (f mine:Bool):(rkL r K f mine).length=32:=okL_len _ _ _
set_option maxHeartbeats 4000000 in
theorem roundkey_ok (r:Int) (hr:0≤r) (K:List Int) (hK:K.length=32) (hKb:IsB K) (f mine:Bool) (w:World) (hF:Fst w):Calls Tryz.prog 44 #[.agg (pairv K f),.int .u64 r,.bool mine] w (Derd (rkL r K f mine) w):=by
 obtain ⟨T,hT⟩:∃ T,T=Derd (rkL r K f mine) w:=⟨_,rfl⟩
 rw [← hT]
 replace hT:=hide hT
 obtain ⟨SK,hSK⟩:∃ S,S=pairv K f:=⟨_,rfl⟩
 rw [← hSK]
 replace hSK:=hide hSK
 replace hKb:=hide hKb
 replace hF:=hide hF
 go_enter Tryz.func44,Tryz.ntmps44
 go_upto_region 1 with fail
 have hB:=(((Bl.nil w).new SK 25).new #[.int .u8 0,.int .u8 0,.int .u8 0,.int .u8 0,.int .u8 0,.int .u8 0,.int .u8 0,.int .u8 0,.int .u8 0,.int .u8 0,.int .u8 0,.int .u8 0,.int .u8 0,.int .u8 0,.int .u8 0,.int .u8 0,.int .u8 0,.int .u8 0,.int .u8 0,.int .u8 0,.int .u8 0,.int .u8 0,.int .u8 0,.int .u8 0,.int .u8 0,.int .u8 0,.int .u8 0,.int .u8 0,.int .u8 0,.int .u8 0,.int .u8 0,.int .u8 0] 23)
 simp only [size_alloc,List.nil_append,List.cons_append] at hB
 generalize World.alloc _ _=u at *
 rw [unhide hSK] at hB
 replace hB:Bl w [⟨w.heap.size,pairv K f,25⟩,⟨w.heap.size+1,kc Z32,23⟩] u:=hB
 by_cases hmf:mine=f
 ·have hmh:=hide hmf
  clear hmf
  refine wp_region_lit ?_
  refine list_val (.bool mine) (by kernel_rfl) (by kernel_rfl) ?_
  simp only [nrm]
  refine list_val (.pointer (some ⟨w.heap.size,32,none⟩)) (by kernel_rfl) (by kernel_rfl) ?_
  simp only [nrm]
  refine list_val (.bool f) (by kernel_rfl) (exec_pf _ (.tmp 8) rfl (w.heap.size) (by kernel_rfl) K hK f (hB.get 0 (x:=⟨w.heap.size,pairv K f,25⟩) rfl)) ?_
  simp only [nrm]
  refine list_val (.bool true) (by kernel_rfl) (by have h:=unhide hmh; go_simp; try simpa using h) ?_
  simp only [nrm]
  refine wpList_nil ?_
  replace hB:=hide hB
  go_upto_region 2 with fail
  replace hB:=unhide hB
  refine wp_region_lit ?_
  refine list_val (.agg (pairv K f)) (by kernel_rfl) (exec_pp _ (.tmp 3) rfl (w.heap.size) (by kernel_rfl) K hK f (hB.get 0 (x:=⟨w.heap.size,pairv K f,25⟩) rfl)) ?_
  simp only [nrm]
  refine list_val (.int .u64 r) (by kernel_rfl) (by kernel_rfl) ?_
  simp only [nrm]
  refine list_call 70 #[.agg (pairv K f),.string tFir,.int .u64 r] (by kernel_rfl) (by kernel_rfl) ((inround_ok r hr K hK (unhide hKb) f tFir (by decide) u ((unhide hF).gr hB.gr)).mono ?_)
  rintro r_ u1 ⟨rfl,hg⟩
  replace hB:=hB.more hg
  clear hg
  obtain ⟨D,hD⟩:∃ D,D=okL r K tFir:=⟨_,rfl⟩
  have hDl:D.length=32:=by rw [hD,okL_len]
  rw [← hD]
  replace hD:=hide hD
  refine ⟨_,rfl,?_⟩
  simp only [nrm]
  refine list_store 23 (.tmp 6) (.tmp 13) (w.heap.size+1) (kc D) 23 (kc Z32) (by kernel_rfl) rfl (by kernel_rfl) (by kernel_rfl) (hB.get 1 (x:=⟨w.heap.size+1,kc Z32,23⟩) rfl) (by rw [Tryz.infoKey,kc_size,hDl]) (by rw [kc_size,kc_size,hDl]; rfl) (kc_one _) ?_
  replace hB:=hB.set 1 (x:=⟨w.heap.size+1,kc Z32,23⟩) rfl (kc D)
  simp only [List.set_cons_zero,List.set_cons_succ] at hB
  generalize World.setRow _ _ _=u2 at *
  simp only [nrm]
  refine wpList_nil ?_
  have hDr:D=rkL r K f mine:=by
   rw [unhide hD]
   unfold rkL
   rw [if_pos (unhide hmh)]
  replace hDr:=hide hDr
  replace hB:=hide hB
  go_wp2_with fail
  replace hB:=unhide hB
  rw [unhide hT]
  exact bodyPost_ret (v:=.agg (kc D)) (results_cell_row Tryz.results44 _ _ (w.heap.size+1) 23 (kc D) (0,0) _ rfl (hB.get 1 (x:=⟨w.heap.size+1,kc D,23⟩) rfl) Tryz.underlying23 rfl (by rw [Tryz.infoKey,kc_size,hDl])) rfl (⟨by rw [unhide hDr],hB.gr⟩)
 ·have hmh:=hide hmf
  clear hmf
  refine wp_region_lit ?_
  refine list_val (.bool mine) (by kernel_rfl) (by kernel_rfl) ?_
  simp only [nrm]
  refine list_val (.pointer (some ⟨w.heap.size,32,none⟩)) (by kernel_rfl) (by kernel_rfl) ?_
  simp only [nrm]
  refine list_val (.bool f) (by kernel_rfl) (exec_pf _ (.tmp 8) rfl (w.heap.size) (by kernel_rfl) K hK f (hB.get 0 (x:=⟨w.heap.size,pairv K f,25⟩) rfl)) ?_
  simp only [nrm]
  refine list_val (.bool false) (by kernel_rfl) (by have h:=unhide hmh; go_simp; try simpa using h) ?_
  simp only [nrm]
  refine wpList_nil ?_
  replace hB:=hide hB
  go_upto_region 3 with fail
  replace hB:=unhide hB
  refine wp_region_lit ?_
  refine list_val (.agg (pairv K f)) (by kernel_rfl) (exec_pp _ (.tmp 3) rfl (w.heap.size) (by kernel_rfl) K hK f (hB.get 0 (x:=⟨w.heap.size,pairv K f,25⟩) rfl)) ?_
  simp only [nrm]
  refine list_val (.int .u64 r) (by kernel_rfl) (by kernel_rfl) ?_
  simp only [nrm]
  refine list_call 70 #[.agg (pairv K f),.string tSec,.int .u64 r] (by kernel_rfl) (by kernel_rfl) ((inround_ok r hr K hK (unhide hKb) f tSec (by decide) u ((unhide hF).gr hB.gr)).mono ?_)
  rintro r_ u1 ⟨rfl,hg⟩
  replace hB:=hB.more hg
  clear hg
  obtain ⟨D,hD⟩:∃ D,D=okL r K tSec:=⟨_,rfl⟩
  have hDl:D.length=32:=by rw [hD,okL_len]
  rw [← hD]
  replace hD:=hide hD
  refine ⟨_,rfl,?_⟩
  simp only [nrm]
  refine list_store 23 (.tmp 6) (.tmp 16) (w.heap.size+1) (kc D) 23 (kc Z32) (by kernel_rfl) rfl (by kernel_rfl) (by kernel_rfl) (hB.get 1 (x:=⟨w.heap.size+1,kc Z32,23⟩) rfl) (by rw [Tryz.infoKey,kc_size,hDl]) (by rw [kc_size,kc_size,hDl]; rfl) (kc_one _) ?_
  replace hB:=hB.set 1 (x:=⟨w.heap.size+1,kc Z32,23⟩) rfl (kc D)
  simp only [List.set_cons_zero,List.set_cons_succ] at hB
  generalize World.setRow _ _ _=u2 at *
  simp only [nrm]
  refine wpList_nil ?_
  have hDr:D=rkL r K f mine:=by
   rw [unhide hD]
   unfold rkL
   rw [if_neg (unhide hmh)]
  replace hDr:=hide hDr
  replace hB:=hide hB
  go_wp2_with fail
  replace hB:=unhide hB
  rw [unhide hT]
  exact bodyPost_ret (v:=.agg (kc D)) (results_cell_row Tryz.results44 _ _ (w.heap.size+1) 23 (kc D) (0,0) _ rfl (hB.get 1 (x:=⟨w.heap.size+1,kc D,23⟩) rfl) Tryz.underlying23 rfl (by rw [Tryz.infoKey,kc_size,hDl])) rfl (⟨by rw [unhide hDr],hB.gr⟩)
def drL (r:Int) (K:List Int):List Int:=(okL r K tDro).take 16
theorem drL_len (r:Int) (K:List Int):(drL r K).length=16:=by unfold drL; rw [List.length_take,okL_len]; rfl
def Drd (D:List Int) (w:World) (r:Ending) (w':World):Prop:=r=.returned (.agg (kc D))∧Gr w w'
def ZD16:List Int:=List.replicate 16 0
theorem Bl.copy16 {w v:World} {L:List Blk} (h:Bl w L v) (k:Nat) {g:Nat} {Z D:List Int} (hk:L[k]?=some ⟨g,kc Z,33⟩) (hZ:Z.length=16) (hD:D.length=16):Bl w (L.set k ⟨g,kc D,33⟩) (v.setCells g 0 (D.map (Value.int .u8))):=by
 have hv:=setCells_heap (D.map (Value.int .u8)) v g 0 (Z.map (Value.int .u8)) 33 (h.get k hk)
 rw [sp_kc D Z (by omega),List.drop_eq_nil_of_le (by omega),List.append_nil] at hv
 exact h.but (setCells_bt (D.map (Value.int .u8)) v g 0) k hk rfl hv
set_option maxHeartbeats 4000000 in
theorem drop_ok (r:Int) (hr:0≤r) (K:List Int) (hK:K.length=32) (hKb:IsB K) (f:Bool) (w:World) (hF:Fst w):Calls Tryz.prog 43 #[.agg (pairv K f),.int .u64 r] w (Drd (drL r K) w):=by
 obtain ⟨T,hT⟩:∃ T,T=Drd (drL r K) w:=⟨_,rfl⟩
 rw [← hT]
 replace hT:=hide hT
 obtain ⟨SK,hSK⟩:∃ S,S=pairv K f:=⟨_,rfl⟩
 rw [← hSK]
 replace hSK:=hide hSK
 replace hKb:=hide hKb
 replace hF:=hide hF
 go_enter Tryz.func43,Tryz.ntmps43
 go_upto_region 2 with fail
 have hB:=((((Bl.nil w).new SK 25).new #[.int .u8 0,.int .u8 0,.int .u8 0,.int .u8 0,.int .u8 0,.int .u8 0,.int .u8 0,.int .u8 0,.int .u8 0,.int .u8 0,.int .u8 0,.int .u8 0,.int .u8 0,.int .u8 0,.int .u8 0,.int .u8 0] 33).new #[.int .u8 0,.int .u8 0,.int .u8 0,.int .u8 0,.int .u8 0,.int .u8 0,.int .u8 0,.int .u8 0,.int .u8 0,.int .u8 0,.int .u8 0,.int .u8 0,.int .u8 0,.int .u8 0,.int .u8 0,.int .u8 0] 33)
 simp only [size_alloc,List.nil_append,List.cons_append] at hB
 generalize World.alloc _ _=u at *
 rw [unhide hSK] at hB
 replace hB:Bl w [⟨w.heap.size,pairv K f,25⟩,⟨w.heap.size+1,kc ZD16,33⟩,⟨w.heap.size+1+1,kc ZD16,33⟩] u:=hB
 refine wp_region_lit ?_
 refine list_val (.agg (pairv K f)) (by kernel_rfl) (exec_pp _ (.tmp 2) rfl (w.heap.size) (by kernel_rfl) K hK f (hB.get 0 (x:=⟨w.heap.size,pairv K f,25⟩) rfl)) ?_
 simp only [nrm]
 refine list_val (.int .u64 r) (by kernel_rfl) (by kernel_rfl) ?_
 simp only [nrm]
 refine list_call 70 #[.agg (pairv K f),.string tDro,.int .u64 r] (by kernel_rfl) (by kernel_rfl) ((inround_ok r hr K hK (unhide hKb) f tDro (by decide) u ((unhide hF).gr hB.gr)).mono ?_)
 rintro r_ u1 ⟨rfl,hg⟩
 replace hB:=hB.more hg
 clear hg
 have hDD:drL r K=(okL r K tDro).take 16:=rfl
 obtain ⟨D,hD⟩:∃ D,D=okL r K tDro:=⟨_,rfl⟩
 have hDl:D.length=32:=by rw [hD,okL_len]
 rw [← hD] at hDD ⊢
 clear hD
 replace hDD:=hide hDD
 refine ⟨_,rfl,?_⟩
 simp only [nrm]
 refine list_valw (.pointer (some ⟨u1.heap.size,0,none⟩)) (u1.alloc (.cells (kc Z32) 23 (0,0))) (by kernel_rfl) (by kernel_rfl) ?_
 replace hB:=hB.new (kc Z32) 23
 simp only [List.nil_append,List.cons_append] at hB
 generalize World.alloc _ _=u2 at *
 generalize u1.heap.size=gs at *
 replace hB:Bl w [⟨w.heap.size,pairv K f,25⟩,⟨w.heap.size+1,kc ZD16,33⟩,⟨w.heap.size+1+1,kc ZD16,33⟩,⟨gs,kc Z32,23⟩] u2:=hB
 simp only [nrm]
 refine list_store 23 (.tmp 6) (.tmp 9) gs (kc D) 23 (kc Z32) (by kernel_rfl) rfl (by kernel_rfl) (by kernel_rfl) (hB.get 3 (x:=⟨gs,kc Z32,23⟩) rfl) (by rw [Tryz.infoKey,kc_size,hDl]) (by rw [kc_size,kc_size,hDl]; rfl) (kc_one _) ?_
 replace hB:=hB.set 3 (x:=⟨gs,kc Z32,23⟩) rfl (kc D)
 simp only [List.set_cons_zero,List.set_cons_succ] at hB
 generalize World.setRow _ _ _=u3 at *
 simp only [nrm]
 refine wpList_nil ?_
 replace hB:=hide hB
 go_upto_region 3 with fail
 replace hB:=unhide hB
 refine any_start (S:=fun (_:World)=>True) (by kernel_rfl) ?_
 replace hB:=hB.drew
 generalize World.drew _=x0 at *
 simp only [List.size_toArray,List.length_cons,List.length_nil,Array.replicate,List.replicate]
 refine any_take (i:=0) (v:=(.slice (some ⟨w.heap.size+1+1,0,none⟩) 16 16)) #[false,false,false] rfl (by kernel_rfl) (by kernel_rfl) (by kernel_rfl) (by kernel_rfl) (fun _ _ _ h=>h) (.inl ⟨by kernel_rfl,fun x_ hu=>by kernel_rfl⟩) trivial ?_
 simp only [nrm]
 refine any_take (i:=1) (v:=(.slice (some ⟨gs,0,none⟩) 32 32)) #[true,false,false] rfl (by kernel_rfl) (by kernel_rfl) (by kernel_rfl) (by kernel_rfl) (fun _ _ _ h=>h) (.inl ⟨by kernel_rfl,fun x_ hu=>by kernel_rfl⟩) trivial ?_
 simp only [nrm]
 refine any_one (i:=2) (by kernel_rfl) rfl (fun K_ hQ=>?_)
 obtain ⟨E,hE⟩:∃ E,E=D.take 16:=⟨_,rfl⟩
 have hEl:E.length=16:=by rw [hE,List.length_take,hDl]; rfl
 have hEa:=(kc_at (hB.get 3 (x:=⟨gs,kc D,23⟩) rfl)).take 16
 rw [← hE] at hEa
 rw [← hE] at hDD
 clear hE
 rw [if_pos (by kernel_rfl)]
 refine copy_wp (.tmp 10) (.tmp 11) rfl (w.heap.size+1+1) 0 16 16 (some ⟨gs,0,none⟩) 32 32 (by kernel_rfl) (by kernel_rfl) (ZD16.map (Value.int .u8)) 33 (hB.get 2 (x:=⟨w.heap.size+1+1,kc ZD16,33⟩) rfl) E (by rw [hEl]; rfl) (.inr ⟨gs,0,rfl,hEa⟩) (by rw [hEl]; decide) ?_
 replace hB:=hB.copy16 2 (Z:=ZD16) (D:=E) rfl rfl hEl
 simp only [List.set_cons_zero,List.set_cons_succ] at hB
 refine hQ.out _ _ trivial (fun _=>?_)
 clear hQ K_
 generalize World.setCells _ _ _ _=y3 at *
 try simp only [nrm]
 refine any_done (by kernel_rfl) ?_
 replace hB:=hide hB
 go_upto_region 4 with fail
 replace hB:=unhide hB
 refine wp_region_lit ?_
 refine list_val (.agg (kc E)) (by kernel_rfl) (exec_arr _ 33 (.tmp 5) rfl (w.heap.size+1+1) (by kernel_rfl) (kc E) 33 _ (hB.get 2 (x:=⟨w.heap.size+1+1,kc E,33⟩) rfl) Tryz.underlying33 rfl (by rw [Tryz.infoDrop,kc_size,hEl])) ?_
 simp only [nrm]
 refine list_store 33 (.tmp 4) (.tmp 13) (w.heap.size+1) (kc E) 33 (kc ZD16) (by kernel_rfl) rfl (by kernel_rfl) (by kernel_rfl) (hB.get 1 (x:=⟨w.heap.size+1,kc ZD16,33⟩) rfl) (by rw [Tryz.infoDrop,kc_size,hEl]) (by rw [kc_size,kc_size,hEl]; rfl) (kc_one _) ?_
 replace hB:=hB.set 1 (x:=⟨w.heap.size+1,kc ZD16,33⟩) rfl (kc E)
 simp only [List.set_cons_zero,List.set_cons_succ] at hB
 generalize World.setRow _ _ _=y4 at *
 simp only [nrm]
 refine wpList_nil ?_
 replace hB:=hide hB
 go_wp2_with fail
 replace hB:=unhide hB
 rw [unhide hT]
 exact bodyPost_ret (v:=.agg (kc E)) (results_cell_row Tryz.results43 _ _ (w.heap.size+1) 33 (kc E) (0,0) _ rfl (hB.get 1 (x:=⟨w.heap.size+1,kc E,33⟩) rfl) Tryz.underlying33 rfl (by rw [Tryz.infoDrop,kc_size,hEl])) rfl (⟨by rw [unhide hDD],hB.gr⟩)
theorem Ob.lb' {b:Nat} {w:World} {v:Value} {L:List Int} (h:Ob b w v L) (hL:IsB L) (n:Nat) (hn:L.length=n):∃ a c,v=.slice a n c∧Lb w a n c L:=by
 obtain ⟨a,c,h1,h2,h3,h4⟩:=h.slice
 subst hn
 exact ⟨a,c,h1,rfl,hL,h4,h2,by unfold maxLen at h3; omega⟩
end Go.Proofs.YthahhglbeafkmaaGreatDoor
namespace Go.Proofs.YthahhglbeafkmaaGreatDoor
open Go.RowKit
set_option maxRecDepth 100000
set_option linter.unusedSimpArgs false
set_option linter.unusedVariables false
def bw (b:List Int):List Value:=b.map (Value.int .u8)
theorem bw_len (b:List Int):(bw b).length=b.length:=by unfold bw; simp
theorem bw_one (b:List Int):(bw b).toArray.all (·.oneCell')=true:=by unfold bw; simp [Value.oneCell']
def fl (S:List (List Value)):Array Value:=S.flatten.toArray
theorem fl_split {S:List (List Value)} {i:Nat} {s:List Value} (h:S[i]?=some s):S.flatten=(S.take i).flatten++(s++(S.drop (i+1)).flatten):=by
 have e:S=S.take i++(s::S.drop (i+1)):=by
  have h1:i<S.length:=(List.getElem?_eq_some_iff.1 h).1
  have h2:=(List.getElem?_eq_some_iff.1 h).2
  rw [← h2,← List.drop_eq_getElem_cons h1,List.take_append_drop]
 conv=>lhs; rw [e]
 simp
theorem plen:∀ (S:List (List Value)) (N:List Nat),S.map List.length=N→∀ i,(S.take i).flatten.length=(N.take i).sum
 | [],N,h,i=>by subst h; simp
 | s::S,N,h,0=>by simp
 | s::S,N,h,i+1=>by
  subst h
  simp only [List.take_succ_cons,List.flatten_cons,List.length_append,List.map_cons,List.sum_cons]
  rw [plen S _ rfl i]
theorem fl_size {S:List (List Value)} {N:List Nat} (h:S.map List.length=N):(fl S).size=N.sum:=by
 have h1:=plen S N h S.length
 rw [List.take_length] at h1
 have:N.take S.length=N:=List.take_of_length_le (by rw [← h]; simp)
 rw [this] at h1
 unfold fl
 simpa using h1
theorem seg_range {S:List (List Value)} {N:List Nat} (hN:S.map List.length=N) {w:World} {g:Nat} {t:TypeId} (h:w.heap[g]?=some (.cells (fl S) t (0,0))) (i:Nat) {s:List Value} (hi:S[i]?=some s) {o:Nat} (ho:(N.take i).sum=o):w.rangeAt g o s:=fun j x hj=>by
 refine cell_of h ?_
 have hlt:=(List.getElem?_eq_some_iff.1 hj).1
 have hp:=plen S N hN i
 unfold fl
 rw [List.getElem?_toArray,fl_split hi,List.getElem?_append_right (by omega),List.getElem?_append_left (by omega),← hj]
 congr 1
 omega
theorem seg_cell {S:List (List Value)} {N:List Nat} (hN:S.map List.length=N) {w:World} {g:Nat} {t:TypeId} (h:w.heap[g]?=some (.cells (fl S) t (0,0))) (i:Nat) {v:Value} (hi:S[i]?=some [v]) {o:Nat} (ho:(N.take i).sum=o):w.cell? ⟨g,o,none⟩=some v :=
 seg_range hN h i hi ho 0 v rfl
theorem exec_sw {op:Oper} {a:Act} (w:World) (ty:TypeId) (x:Operand) (ho:op.op=.load ty x) (g:Nat) (hx:a.eval x=.pointer (some ⟨g,0,none⟩)) {S:List (List Value)} {t:TypeId} (h:w.heap[g]?=some (.cells (fl S) t (0,0))) (N:List Nat) (hN:S.map List.length=N) {d:TypeDesc} (hu:Tryz.prog.underlying ty=some d) (hd:d.isRow=true) (hi:(Tryz.prog.info? ty).map (·.size)=some N.sum) :
  (execOp a.eval op).run Tryz.prog w=.ok (.value (.agg (fl S))) w :=
 exec_arr w ty x ho g hx (fl S) t d h hu hd (by rw [hi,fl_size hN])
theorem exec_cb {op:Oper} {a:Act} (w:World) (x:Operand) (ho:op.op=.load 4 x) (g i:Nat) (hx:a.eval x=.pointer (some ⟨g,i,none⟩)) (v:Bool) (hc:w.cell? ⟨g,i,none⟩=some (.bool v)):(execOp a.eval op).run Tryz.prog w=.ok (.value (.bool v)) w:=by
 unfold execOp
 simp only [ho,hx,Instr.loadAt,Instr.sureAddr,Sem.run_bind,Sem.run_pure,Result.andThen_ok]
 go_simp
theorem fold_mid (off:Nat):∀ (vs A M D:List Value) (k:Nat),A.length=off+k→vs.length=M.length→(vs.zipIdx k).foldl (fun cs x=>cs.setIfInBounds (off+x.2) x.1) (A++(M++D)).toArray=(A++(vs++D)).toArray
 | [],A,[],D,_,_,_=>by simp
 | [],_,_::_,_,_,_,h=>by simp at h
 | _::_,_,[],_,_,_,h=>by simp at h
 | v::vs,A,m::M,D,k,hA,h=>by
  rw [List.zipIdx_cons,List.foldl_cons]
  have e:(A++(m::M++D)).toArray.setIfInBounds (off+k) v=((A++[v])++(M++D)).toArray:=by
   rw [List.setIfInBounds_toArray,← hA]
   simp
  show List.foldl _ ((A++(m::M++D)).toArray.setIfInBounds (off+k) v) _=_
  rw [e,fold_mid off vs (A++[v]) M D (k+1) (by simp [hA]; omega) (by simpa using h)]
  simp
theorem seg_set {S:List (List Value)} {N:List Nat} (hN:S.map List.length=N) (i:Nat) (vs:List Value) (hi:N[i]?=some vs.length):sp S.flatten (N.take i).sum vs=(S.set i vs).flatten:=by
 have hl:i<S.length:=by
  have:=(List.getElem?_eq_some_iff.1 hi).1
  rw [← hN] at this
  simpa using this
 have hs:S[i]?=some S[i]:=List.getElem?_eq_getElem hl
 have hvl:vs.length=(S[i]).length:=by
  have h1:=congrArg (·[i]?) hN
  simp only [List.getElem?_map,hs,hi,Option.map_some,Option.some.injEq] at h1
  exact h1.symm
 have hp:=plen S N hN i
 rw [fl_split hs,← hp,sp_mid _ _ _ _ hvl]
 have h2:(S.set i vs)[i]?=some vs:=by rw [List.getElem?_set_self hl]
 rw [fl_split h2,List.take_set_of_le (Nat.le_refl _),List.drop_set_of_lt (Nat.lt_succ_self _)]
theorem Bl.cells {w v:World} {L:List Blk} (h:Bl w L v) (b:Nat) {g:Nat} {C:List Value} {t:TypeId} (hb:L[b]?=some ⟨g,C.toArray,t⟩) (o:Nat) (vs:List Value):Bl w (L.set b ⟨g,(sp C o vs).toArray,t⟩) (v.setCells g o vs) :=
 h.but (setCells_bt vs v g o) b hb rfl (setCells_heap vs v g o C t (h.get b hb))
section
variable {N:List Nat} {ops:Array Oper} {Q:Exit→Act→World→Prop} {a:Act} {w w0:World} {o:Oper} {rest:List Oper} {L:List Blk} {S:List (List Value)} {t:TypeId} {K:Act→World→Prop}
theorem step_seg (ty:TypeId) (x y:Operand) (g off:Nat) (vs:List Value) (hw:Region.wanted o (yielded ops a.tmps)=true) (ho:o.op=.store ty x y)
  (hx:a.eval x=.pointer (some ⟨g,off,none⟩)) (hy:a.eval y=.agg vs.toArray) (hB:Bl w0 L w) (b:Nat) (hb:L[b]?=some ⟨g,fl S,t⟩) (N:List Nat) (hN:S.map List.length=N) (i:Nat) (hi:N[i]?=some vs.length) (hof:(N.take i).sum=off)
  (hn:(Tryz.prog.info? ty).map (·.size)=some vs.length) (h1:vs.toArray.all (·.oneCell')=true)
  (h:∀ v,Bl w0 (L.set b ⟨g,fl (S.set i vs),t⟩) v→Bt g w v→K (a.put o.dst undef) v):if Region.wanted o (yielded ops a.tmps)=true then Oper.wp Tryz.prog o a w K Q else K (a.put o.dst undef) w:=by
 have hB2:=hB.cells b (C:=S.flatten) hb off vs
 rw [← hof,seg_set hN i vs hi] at hB2
 have hl:i<N.length:=(List.getElem?_eq_some_iff.1 hi).1
 have hle:off+vs.length≤S.flatten.length:=by
  have e1:=fl_size hN
  have e2:(N.take (i+1)).sum=(N.take i).sum+vs.length:=by
   rw [List.take_add_one,hi]; simp
  have e3:(N.take (i+1)).sum≤N.sum:=by
   conv=>rhs; rw [← List.take_append_drop (i+1) N,List.sum_append]
   omega
  have e4:(fl S).size=S.flatten.length:=by unfold fl; simp
  omega
 refine list_store_mid ty x y g off vs.toArray hw ho hx hy (there_of (hB.get b hb) (by simpa using hle)) (by rw [hn]; simp) h1 ?_
 exact (h _ (by rw [← hof]; exact hB2) (setCells_bt _ _ _ _))
end
section
variable {N:List Nat} {ops:Array Oper} {Q:Exit→Act→World→Prop} {a:Act} {w w0:World} {o:Oper} {rest:List Oper} {L:List Blk} {S:List (List Value)} {t:TypeId} {K:Act→World→Prop}
theorem list_seg (ty:TypeId) (x y:Operand) (g off:Nat) (vs:List Value) (hw:Region.wanted o (yielded ops a.tmps)=true) (ho:o.op=.store ty x y)
  (hx:a.eval x=.pointer (some ⟨g,off,none⟩)) (hy:a.eval y=.agg vs.toArray) (hB:Bl w0 L w) (b:Nat) (hb:L[b]?=some ⟨g,fl S,t⟩) (N:List Nat) (hN:S.map List.length=N) (i:Nat) (hi:N[i]?=some vs.length) (hof:(N.take i).sum=off)
  (hn:(Tryz.prog.info? ty).map (·.size)=some vs.length) (h1:vs.toArray.all (·.oneCell')=true)
  (h:∀ v,Bl w0 (L.set b ⟨g,fl (S.set i vs),t⟩) v→Bt g w v→wpList Tryz.prog ops Q rest (a.put o.dst undef) v):wpList Tryz.prog ops Q (o::rest) a w :=
 wpList_step fun K hK=>step_seg ty x y g off vs hw ho hx hy hB b hb N hN i hi hof hn h1 fun v hv hb=>hK _ _ (h v hv hb)
end
section
variable {N:List Nat} {ops:Array Oper} {Q:Exit→Act→World→Prop} {a:Act} {w w0:World} {o:Oper} {rest:List Oper} {L:List Blk} {S:List (List Value)} {t:TypeId} {K:Act→World→Prop}
end
section
variable {N:List Nat} {ops:Array Oper} {Q:Exit→Act→World→Prop} {a:Act} {w w0:World} {o:Oper} {rest:List Oper} {L:List Blk} {S:List (List Value)} {t:TypeId} {K:Act→World→Prop}
end
section
variable {N:List Nat} {ops:Array Oper} {Q:Exit→Act→World→Prop} {a:Act} {w w0:World} {o:Oper} {rest:List Oper} {L:List Blk} {S:List (List Value)} {t:TypeId} {K:Act→World→Prop}
end
theorem wpList_gen {P:Program} {ops:Array Oper} {Q:Exit→Act→World→Prop} {l:List Oper} {a:Act} {w:World} (h:∀ ops',ops'=ops→wpList P ops' Q l a w):wpList P ops Q l a w:=h ops rfl
theorem fill_seg {place:Nat→Option (Nat × Nat)} {S:List (List Value)} {N:List Nat} (hN:S.map List.length=N) {v:Value} {vs:List Value} (hv:v.cells=vs.toArray) (k i:Nat) (hp:place k=some ((N.take i).sum,vs.length)) (hi:N[i]?=some vs.length) (rest:List (Nat × Value)) :
  Instr.fill place (fl S) ((k,v)::rest)=Instr.fill place (fl (S.set i vs)) rest:=by
 have hl:i<S.length:=by
  have:=(List.getElem?_eq_some_iff.1 hi).1
  rw [← hN] at this
  simpa using this
 have hs:S[i]?=some S[i]:=List.getElem?_eq_getElem hl
 have hvl:vs.length=(S[i]).length:=by
  have h1:=congrArg (·[i]?) hN
  simp only [List.getElem?_map,hs,hi,Option.map_some,Option.some.injEq] at h1
  exact h1.symm
 have hp2:=plen S N hN i
 have e:=fold_mid ((N.take i).sum) vs (S.take i).flatten S[i] (S.drop (i+1)).flatten 0 (by omega) hvl
 have h2:(S.set i vs)[i]?=some vs:=by rw [List.getElem?_set_self hl]
 have e2:=fl_split h2
 rw [List.take_set_of_le (Nat.le_refl _),List.drop_set_of_lt (Nat.lt_succ_self _)] at e2
 rw [Instr.fill,hp,hv]
 simp only
 rw [if_neg]
 ·rw [show fl S=((S.take i).flatten++(S[i]++(S.drop (i+1)).flatten)).toArray from by unfold fl; rw [← fl_split hs]]
  have e3:(vs.toArray.zipIdx.foldl (fun cs (x:Value × Nat)=>cs.setIfInBounds ((N.take i).sum+x.2) x.1) ((S.take i).flatten++(S[i]++(S.drop (i+1)).flatten)).toArray)=(fl (S.set i vs)):=by
   unfold fl
   rw [e2,← e]
   simp
  rw [← e3]
 ·have e1:=fl_size hN
  have e4:(N.take (i+1)).sum=(N.take i).sum+vs.length:=by
   rw [List.take_add_one,hi]; simp
  have e5:(N.take (i+1)).sum≤N.sum:=by
   conv=>rhs; rw [← List.take_append_drop (i+1) N,List.sum_append]
   omega
  simp
  omega
theorem u8_one (x:Int):(Value.int .u8 x).oneCell'=true:=rfl
theorem step_all {ops:Array Oper} {Q:Exit→Act→World→Prop} {a:Act} {w w0:World} {o:Oper} {L:List Blk} {S S2:List (List Value)} {t:TypeId} {K:Act→World→Prop} (ty:TypeId) (x y:Operand) (g:Nat) (hw:Region.wanted o (yielded ops a.tmps)=true) (ho:o.op=.store ty x y)
  (hx:a.eval x=.pointer (some ⟨g,0,none⟩)) (hy:a.eval y=.agg (fl S2)) (hB:Bl w0 L w) (b:Nat) (hb:L[b]?=some ⟨g,fl S,t⟩) (N:List Nat) (hN:S.map List.length=N) (hN2:S2.map List.length=N)
  (hn:(Tryz.prog.info? ty).map (·.size)=some N.sum) (h1:(fl S2).all (·.oneCell')=true)
  (h:∀ v,Bl w0 (L.set b ⟨g,fl S2,t⟩) v→Bt g w v→K (a.put o.dst undef) v):if Region.wanted o (yielded ops a.tmps)=true then Oper.wp Tryz.prog o a w K Q else K (a.put o.dst undef) w:=by
 have hg:=hB.get b hb
 rw [if_pos hw]
 refine wp_store_row ty x y ho g (fl S2) hx hy t (fl S) hg (by rw [hn,fl_size hN2]) (by rw [fl_size hN,fl_size hN2]) h1 ?_
 exact h _ (hB.set b hb (fl S2)) ⟨setRow_os _ _ _,rfl,rfl,by simp [World.setRow],fun i _ hi=>setRow_other _ _ _ _ hi⟩
theorem list_all {ops:Array Oper} {Q:Exit→Act→World→Prop} {a:Act} {w w0:World} {o:Oper} {rest:List Oper} {L:List Blk} {S S2:List (List Value)} {t:TypeId} (ty:TypeId) (x y:Operand) (g:Nat) (hw:Region.wanted o (yielded ops a.tmps)=true) (ho:o.op=.store ty x y)
  (hx:a.eval x=.pointer (some ⟨g,0,none⟩)) (hy:a.eval y=.agg (fl S2)) (hB:Bl w0 L w) (b:Nat) (hb:L[b]?=some ⟨g,fl S,t⟩) (N:List Nat) (hN:S.map List.length=N) (hN2:S2.map List.length=N)
  (hn:(Tryz.prog.info? ty).map (·.size)=some N.sum) (h1:(fl S2).all (·.oneCell')=true)
  (h:∀ v,Bl w0 (L.set b ⟨g,fl S2,t⟩) v→Bt g w v→wpList Tryz.prog ops Q rest (a.put o.dst undef) v):wpList Tryz.prog ops Q (o::rest) a w :=
 wpList_step fun K hK=>step_all ty x y g hw ho hx hy hB b hb N hN hN2 hn h1 fun v hv hb=>hK _ _ (h v hv hb)
theorem exec_bld {a:Act} {o:Oper} (w:World) (t:TypeId) (ps:Array (Nat × Operand)) (vs:List (Nat × Value)) (ho:o.op=.build t ps) (hv:(ps.map fun p=>(p.1,a.eval p.2))=vs.toArray) (cs:Array Value) (h:Tryz.prog.built t vs=some cs):(execOp a.eval o).run Tryz.prog w=.ok (.value (.agg cs)) w:=by
 have h2:=run_build (P:=Tryz.prog) w t vs.toArray cs h
 rw [← hv] at h2
 unfold execOp
 simp only [ho,Sem.run_bind,h2,Result.andThen_ok,Sem.run_pure]
theorem fill_nil (place:Nat→Option (Nat × Nat)) (cs:Array Value):Instr.fill place cs []=some cs:=rfl
theorem exec_eqI {a:Act} {o:Oper} (w:World) (ty:TypeId) (x y:Operand) (ho:o.op=.binOp .eql ty x y ty) {q:IntKind} (hu:Tryz.prog.underlying ty=some (.int q)) (m n:Int) (hx:a.eval x=.int q m) (hy:a.eval y=.int q n) (b:Bool) (hb:decide (m=n)=b):(execOp a.eval o).run Tryz.prog w=.ok (.value (.bool b)) w:=by
 subst hb
 have e:(m == n)=decide (m=n):=by by_cases h:m=n <;> simp [h]
 unfold execOp
 simp only [ho,hx,hy]
 go_simp
def RvOk (P:Program) (tmps:Array Value) (w:World):ResultVar→Value→Prop
 | .cell p ty,v=>∃ a:Addr,tmps[p]?.getD undef=.pointer (some a)∧(loadVar ty a).run P w=.ok v w
 | .tmp q,v=>tmps[q]?.getD undef=v
theorem rv_cell {P:Program} {tmps:Array Value} {w:World} {p:Tmp} {ty t:TypeId} {g:Nat} {cs:Array Value} {d:TypeDesc} (hp:tmps.getD p undef=.pointer (some ⟨g,0,none⟩)) (hg:w.heap[g]?=some (.cells cs t (0,0))) (hu:P.underlying ty=some d) (hd:d.isRow=true) (hi:(P.info? ty).map (·.size)=some cs.size):RvOk P tmps w (.cell p ty) (.agg cs) :=
 ⟨_,by simpa using hp,run_loadVar_row w g t ty cs (0,0) d hg hu (by cases d <;> first | rfl | cases hd) hi⟩
theorem rv_tmp {P:Program} {tmps:Array Value} {w:World} {q:Tmp} {v:Value} (h:tmps.getD q undef=v):RvOk P tmps w (.tmp q) v:=by
 show tmps[q]?.getD undef=v
 simpa using h
theorem res1 {P:Program} {fn:Func} {p:Tmp} {ty:TypeId} {v:Value} {tmps:Array Value} {w:World} (h:fn.results=#[.cell p ty]) (h1:RvOk P tmps w (.cell p ty) v):(results fn tmps).run P w=.ok v w:=by
 obtain ⟨a,hp',hl⟩:=h1
 simp [results,h,hp',asAddr,hl]
theorem res2 {P:Program} {fn:Func} {r1 r2:ResultVar} {v1 v2:Value} {tmps:Array Value} {w:World} (h:fn.results=#[r1,r2]) (h1:RvOk P tmps w r1 v1) (h2:RvOk P tmps w r2 v2):(results fn tmps).run P w=.ok (.tuple #[v1,v2]) w:=by
 cases r1 <;> cases r2 <;> dsimp only [RvOk] at h1 h2 <;> (try obtain ⟨x1,e1,f1⟩:=h1) <;> (try obtain ⟨x2,e2,f2⟩:=h2) <;> simp [results,h,asAddr, *]
def NKf (b:Nat) (C:Array Value) (t:TypeId) (u:World) (q:Value):Prop:=∃ g,q=.pointer (some ⟨g,0,none⟩)∧b≤g∧u.heap[g]?=some (.cells C t (0,0))
theorem NKf.gr {b:Nat} {C:Array Value} {t:TypeId} {u v:World} {q:Value} (h:NKf b C t u q) (g:Gr u v):NKf b C t v q:=by
 obtain ⟨p,h1,h2,h3⟩:=h
 exact ⟨p,h1,h2,g.blk h3⟩
def Sz (n:Nat) (v:World):Prop:=n≤v.heap.size
theorem Sz.gr {n:Nat} {u v:World} (h:Sz n u) (g:Gr u v):Sz n v:=Nat.le_trans h g.size
theorem Bl.joinz {w u v:World} {L:List Blk} {g:Nat} {c:Array Value} {t:TypeId} (h:Bl w L u) (k:Bl w L v) (hg:u.heap.size≤g) (hn:v.heap[g]?=some (.cells c t (0,0))):Bl w (L++[⟨g,c,t⟩]) v :=
 k.add ⟨g,c,t⟩ hn (Nat.le_trans h.gr.size hg) (fun y hy=>by have:=lt_of_block (h.at_ y hy).1; show y.g≠g; omega)
section
variable {N:List Nat} {ops:Array Oper} {Q:Exit→Act→World→Prop} {a:Act} {w w0:World} {o:Oper} {rest:List Oper} {L:List Blk} {S:List (List Value)} {t:TypeId} {K:Act→World→Prop}
end
section
variable {N:List Nat} {ops:Array Oper} {Q:Exit→Act→World→Prop} {a:Act} {w w0:World} {o:Oper} {rest:List Oper} {L:List Blk} {S:List (List Value)} {t:TypeId} {K:Act→World→Prop}
end
section
variable {a:Act} {o:Oper} (w:World) (x y:Operand) (m n:Int) (b:Bool)
end
section
variable {a:Act} {o:Oper} (w:World) (x y:Operand) (m n:Int) (b:Bool)
theorem eql_i (ho:o.op=.binOp .eql 3 x y 3) (hx:a.eval x=.int .i64 m) (hy:a.eval y=.int .i64 n) (hb:decide (m=n)=b):(execOp a.eval o).run Tryz.prog w=.ok (.value (.bool b)) w:=by
 subst hb
 unfold execOp
 simp only [ho,hx,hy]
 go_simp
 by_cases h_:m=n <;> simp [h_]
end
section
variable {a:Act} {o:Oper} (w:World) (x y:Operand) (m n:Int) (b:Bool)
theorem eql_e (ho:o.op=.binOp .eql 37 x y 37) (hx:a.eval x=.int .i64 m) (hy:a.eval y=.int .i64 n) (hb:decide (m=n)=b):(execOp a.eval o).run Tryz.prog w=.ok (.value (.bool b)) w:=by
 subst hb
 unfold execOp
 simp only [ho,hx,hy]
 go_simp
 by_cases h_:m=n <;> simp [h_]
end
section
variable {a:Act} {o:Oper} (w:World) (x y:Operand) (m n:Int) (b:Bool)
theorem neq_e (ho:o.op=.binOp .neq 37 x y 37) (hx:a.eval x=.int .i64 m) (hy:a.eval y=.int .i64 n) (hb:decide (m≠n)=b):(execOp a.eval o).run Tryz.prog w=.ok (.value (.bool b)) w:=by
 subst hb
 unfold execOp
 simp only [ho,hx,hy]
 go_simp
 by_cases h_:m=n <;> simp [h_]
end
def tf (n k:Nat):Array Bool:=((List.range n).map fun i=>decide (i<k)).toArray
section
variable {P:Program} {md:Region.Mode} {ops:Array Oper} {Q:Exit→Act→World→Prop} {S:World→Prop}
theorem any_tk (i:Nat) (v:Value) {oi:Oper} {l:Array Bool} {a:Act} {w:World} (l0:Array Bool) (hi:ops[i]?=some oi) (hy:∀ x_,S x_→(execOp a.eval oi).run P x_=.ok (.value v) x_) (hS:S w)
  (h:Any P md ops Q S (l.setIfInBounds i true) (a.put oi.dst v) w) (hs:Region.noSelect ops=true:=by kernel_rfl) (hle:leB ops.size l0 l=true:=by kernel_rfl) (hf:Region.free md ops l0 i=true:=by kernel_rfl) (hr:rdB md ops l i=true:=by kernel_rfl) (hQ:∀ c a w,Q (.panic c) (a.put oi.dst v) w→Q (.panic c) a w:=by exact fun _ _ _ h=>h) (hw:Region.wanted oi (yielded ops a.tmps)=true:=by kernel_rfl):Any P md ops Q S l a w :=
 any_take l0 hi hs hle hf hr hQ (.inl ⟨hw,hy⟩) hS h
end
section
variable {P:Program} {md:Region.Mode} {ops:Array Oper} {Q:Exit→Act→World→Prop} {S:World→Prop}
end
section
variable {P:Program} {ops:Array Oper} {Q:Exit→Act→World→Prop} {a:Act} {w:World} {o:Oper} {rest:List Oper}
theorem lvk (v:Value) (h:wpList P ops Q rest (a.put o.dst v) w) (hw:Region.wanted o (yielded ops a.tmps)=true:=by kernel_rfl) (hx:(execOp a.eval o).run P w=.ok (.value v) w:=by kernel_rfl):wpList P ops Q (o::rest) a w:=list_val v hw hx h
end
end Go.Proofs.YthahhglbeafkmaaGreatDoor
namespace Go.Proofs.YthahhglbeafkmaaGreatDoor
open Go.RowKit
set_option maxRecDepth 100000
set_option linter.unusedSimpArgs false
set_option linter.unusedVariables false
def NP:List Nat:=[32,1]
def NE:List Nat:=[1,1,1,105]
def NX:List Nat:=[16,130]
def NTm:List Nat:=[32,12,16]
theorem nP {K:List Int} (h:K.length=32) (a:Value):[bw K,[a]].map List.length=NP:=by simp [bw_len,NP, *]
theorem nE {B:List Int} (h:B.length=105) (a b c:Value):[[a],[b],[c],bw B].map List.length=NE:=by simp [bw_len,NE, *]
theorem nX {D B:List Int} (h:D.length=16) (h2:B.length=130):[bw D,bw B].map List.length=NX:=by simp [bw_len,NX, *]
theorem nT {K N D:List Int} (h:K.length=32) (h2:N.length=12) (h3:D.length=16):[bw K,bw N,bw D].map List.length=NTm:=by simp [bw_len,NTm, *]
theorem oP (K:List Int) {a:Value} (h1:a.oneCell'=true):(fl [bw K,[a]]).all (·.oneCell')=true:=by simp [fl,bw,u8_one,h1]
theorem oE (B:List Int) {a b c:Value} (h1:a.oneCell'=true) (h2:b.oneCell'=true) (h3:c.oneCell'=true):(fl [[a],[b],[c],bw B]).all (·.oneCell')=true:=by simp [fl,bw,u8_one,h1,h2,h3]
theorem oX (D B:List Int):(fl [bw D,bw B]).all (·.oneCell')=true:=by simp [fl,bw,u8_one]
theorem oT (K N D:List Int):(fl [bw K,bw N,bw D]).all (·.oneCell')=true:=by simp [fl,bw,u8_one]
theorem fl_flat {S:List (List Value)} {N:List Nat} (h:S.map List.length=N):S.flatten.length=N.sum:=by
 have:=fl_size h
 unfold fl at this
 simpa using this
theorem evl_fl (k a s:Int) (B:List Int):(evl k a s B).toArray=fl [[.int .i64 k],[.int .u32 a],[.int .u32 s],bw B]:=by simp [evl,fl,bv,bw]
theorem xcl_fl (D B:List Int):(xcl D B).toArray=fl [bw D,bw B]:=by simp [xcl,fl,bv,bw]
theorem pair_fl (K:List Int) (f:Bool):pairv K f=fl [bw K,[.bool f]]:=by simp [pairv,fl,bw]
theorem exec_sa {op:Oper} {a:Act} (w:World) (ty:TypeId) (x:Operand) (ho:op.op=.load ty x) (g o:Nat) (hx:a.eval x=.pointer (some ⟨g,o,none⟩)) {S:List (List Value)} {t:TypeId} (h:w.heap[g]?=some (.cells (fl S) t (0,0))) (N:List Nat) (hN:S.map List.length=N) (i:Nat) (K:List Int) (hi:S[i]?=some (bw K)) (hof:(N.take i).sum=o) {d:TypeDesc} (hu:Tryz.prog.underlying ty=some d) (hd:d.isRow=true) {n:Nat} (hl:N[i]?=some n) (hin:(Tryz.prog.info? ty).map (·.size)=some n) :
  (execOp a.eval op).run Tryz.prog w=.ok (.value (.agg (kc K))) w:=by
 have hK:(bw K).length=n:=by
  have:=congrArg (·[i]?) hN
  simp only [List.getElem?_map,hi,hl,Option.map_some,Option.some.injEq] at this
  exact this
 exact exec_row (P:=Tryz.prog) w ty x ho g o hx (bw K) _ (seg_range hN h i hi hof) hu hd (by rw [hin,hK])
theorem seg_at {S:List (List Value)} {N:List Nat} (hN:S.map List.length=N) {w:World} {g:Nat} {t:TypeId} (h:w.heap[g]?=some (.cells (fl S) t (0,0))) (i:Nat) {K:List Int} (hi:S[i]?=some (bw K)) {o:Nat} (ho:(N.take i).sum=o):At w g o K:=fun j hj=>seg_range hN h i hi ho j _ (by unfold bw; simp [hj])
theorem seg_lb {S:List (List Value)} {N:List Nat} (hN:S.map List.length=N) {w:World} {g:Nat} {t:TypeId} (h:w.heap[g]?=some (.cells (fl S) t (0,0))) (i:Nat) {K:List Int} (hi:S[i]?=some (bw K)) {o:Nat} (ho:(N.take i).sum=o) (hb:IsB K) {n:Nat} (hn:K.length=n) (hs:n<9223372036854775808):Lb w (some ⟨g,o,none⟩) n n K:=⟨hn,hb,.inr ⟨g,o,rfl,seg_at hN h i hi ho⟩,Nat.le_refl _,hs⟩
theorem eql_64 {a:Act} {o:Oper} (w:World) (x y:Operand) (m n:Int) (b:Bool) (ho:o.op=.binOp .eql 26 x y 26) (hx:a.eval x=.int .u64 m) (hy:a.eval y=.int .u64 n) (hb:decide (m=n)=b):(execOp a.eval o).run Tryz.prog w=.ok (.value (.bool b)) w :=
 exec_eqI w 26 x y ho (q:=.u64) (by kernel_rfl) m n hx hy b hb
theorem bltP (vs:List (Nat × Value)):Tryz.prog.built 25 vs=Instr.fill (#[(0,32),(32,1)][·]?) (fl [bw Z32,[.bool false]]) vs:=by kernel_rfl
theorem bltE (vs:List (Nat × Value)):Tryz.prog.built 30 vs=Instr.fill (#[(0,1),(1,1),(2,1),(3,105)][·]?) (fl [[.int .i64 0],[.int .u32 0],[.int .u32 0],bw Z105]) vs:=by kernel_rfl
theorem bltX (vs:List (Nat × Value)):Tryz.prog.built 36 vs=Instr.fill (#[(0,16),(16,130)][·]?) (fl [bw Z16,bw Z130]) vs:=by kernel_rfl
theorem bltT (vs:List (Nat × Value)):Tryz.prog.built 66 vs=Instr.fill (#[(0,32),(32,12),(44,16)][·]?) (fl [bw Z32,bw ZN,bw Z16]) vs:=by kernel_rfl
theorem bX  (w:World) {a:Act} {o:Oper}  (ho:o.op=.build 36 #[])   :
  (execOp a.eval o).run Tryz.prog w=.ok (.value (.agg (fl [bw Z16,bw Z130]))) w:=by
 refine exec_bld w _ _ [] ho (by simp) _ ?_
 rw [bltX]
 exact fill_nil _ _
theorem bX0 {K0:List Int} (w:World) {a:Act} {o:Oper} (x0:Operand) (ho:o.op=.build 36 #[(0,x0)]) (h0:K0.length=16) (e0:a.eval x0=.agg (kc K0)) :
  (execOp a.eval o).run Tryz.prog w=.ok (.value (.agg (fl [bw K0,bw Z130]))) w:=by
 refine exec_bld w _ _ [(0,.agg (kc K0))] ho (by simp [e0]) _ ?_
 rw [bltX]
 rw [fill_seg (N:=NX) (nX (show List.length Z16=16 from rfl) (show List.length Z130=130 from rfl)) (vs:=bw K0) rfl 0 0 (by rw [bw_len,h0]; rfl) (by rw [bw_len,h0]; rfl)]
 simp only [List.set_cons_zero,List.set_cons_succ]
 exact fill_nil _ _
theorem bE1 {z1:Int} (w:World) {a:Act} {o:Oper} (x1:Operand) (ho:o.op=.build 30 #[(1,x1)])  (e1:a.eval x1=.int .u32 z1) :
  (execOp a.eval o).run Tryz.prog w=.ok (.value (.agg (fl [[.int .i64 0],[.int .u32 z1],[.int .u32 0],bw Z105]))) w:=by
 refine exec_bld w _ _ [(1,.int .u32 z1)] ho (by simp [e1]) _ ?_
 rw [bltE]
 rw [fill_seg (N:=NE) (nE (show List.length Z105=105 from rfl) _ _ _) (vs:=[.int .u32 z1]) rfl 1 1 rfl rfl]
 simp only [List.set_cons_zero,List.set_cons_succ]
 exact fill_nil _ _
theorem bP01 {K0:List Int} {z1:Bool} (w:World) {a:Act} {o:Oper} (x0:Operand) (x1:Operand) (ho:o.op=.build 25 #[(0,x0),(1,x1)]) (h0:K0.length=32) (e0:a.eval x0=.agg (kc K0)) (e1:a.eval x1=.bool z1) :
  (execOp a.eval o).run Tryz.prog w=.ok (.value (.agg (fl [bw K0,[.bool z1]]))) w:=by
 refine exec_bld w _ _ [(0,.agg (kc K0)),(1,.bool z1)] ho (by simp [e0,e1]) _ ?_
 rw [bltP]
 rw [fill_seg (N:=NP) (nP (show List.length Z32=32 from rfl) _) (vs:=bw K0) rfl 0 0 (by rw [bw_len,h0]; rfl) (by rw [bw_len,h0]; rfl)]
 simp only [List.set_cons_zero,List.set_cons_succ]
 rw [fill_seg (N:=NP) (nP h0 _) (vs:=[.bool z1]) rfl 1 1 rfl rfl]
 simp only [List.set_cons_zero,List.set_cons_succ]
 exact fill_nil _ _
theorem bT12 {K1:List Int} {K2:List Int} (w:World) {a:Act} {o:Oper} (x1:Operand) (x2:Operand) (ho:o.op=.build 66 #[(1,x1),(2,x2)]) (h1:K1.length=12) (h2:K2.length=16) (e1:a.eval x1=.agg (kc K1)) (e2:a.eval x2=.agg (kc K2)) :
  (execOp a.eval o).run Tryz.prog w=.ok (.value (.agg (fl [bw Z32,bw K1,bw K2]))) w:=by
 refine exec_bld w _ _ [(1,.agg (kc K1)),(2,.agg (kc K2))] ho (by simp [e1,e2]) _ ?_
 rw [bltT]
 rw [fill_seg (N:=NTm) (nT (show List.length Z32=32 from rfl) (show List.length ZN=12 from rfl) (show List.length Z16=16 from rfl)) (vs:=bw K1) rfl 1 1 (by rw [bw_len,h1]; rfl) (by rw [bw_len,h1]; rfl)]
 simp only [List.set_cons_zero,List.set_cons_succ]
 rw [fill_seg (N:=NTm) (nT (show List.length Z32=32 from rfl) h1 (show List.length Z16=16 from rfl)) (vs:=bw K2) rfl 2 2 (by rw [bw_len,h2]; rfl) (by rw [bw_len,h2]; rfl)]
 simp only [List.set_cons_zero,List.set_cons_succ]
 exact fill_nil _ _
def K1:List Int:=1::List.replicate 31 0
theorem bK0 (w:World) {a:Act} {o:Oper} (ho:o.op=.build 23 #[(0,.const (.int .u8 1))]):(execOp a.eval o).run Tryz.prog w=.ok (.value (.agg (kc K1))) w :=
 exec_bld w _ _ [(0,.int .u8 1)] ho (by simp [Act.eval]) _ (by kernel_rfl)
end Go.Proofs.YthahhglbeafkmaaGreatDoor
namespace Go.Proofs.YthahhglbeafkmaaGreatDoor
open Go.RowKit
set_option maxRecDepth 100000
set_option linter.unusedSimpArgs false
set_option linter.unusedVariables false
def Nwb (L:List Int) (n:Nat) (w:World) (r:Ending) (w':World):Prop:=∃ g,r=.returned (.slice (some ⟨g,0,none⟩) n n)∧w.heap.size≤g∧w'.heap[g]?=some (.cells (kc L) 5 (0,0))∧Gr w w'
theorem nw_lb {w:World} {g n:Nat} {L:List Int} (h:w.heap[g]?=some (.cells (kc L) 5 (0,0))) (hb:IsB L) (hn:L.length=n) (hs:n<9223372036854775808):Lb w (some ⟨g,0,none⟩) n n L:=⟨hn,hb,.inr ⟨g,0,rfl,kc_at h⟩,Nat.le_refl _,hs⟩
theorem isB_rep (n:Nat):IsB (List.replicate n 0):=fun x hx=>by rw [List.eq_of_mem_replicate hx]; omega
end Go.Proofs.YthahhglbeafkmaaGreatDoor
namespace Go.Proofs.YthahhglbeafkmaaGreatDoor
open Go.RowKit
set_option maxRecDepth 100000
set_option linter.unusedSimpArgs false
set_option linter.unusedVariables false
def Sn (u v:World):Prop:=Gr u v
theorem Sn.gr {u v x:World} (h:Sn u v) (k:Gr v x):Sn u x:=Gr.trans h k
theorem Sn.bt {u v x:World} {g:Nat} (h:Sn u v) (k:Bt g v x) (hg:u.heap.size≤g):Sn u x:=k.gr h hg
theorem Sn.size {u v:World} (h:Sn u v):u.heap.size≤v.heap.size:=(show Gr u v from h).size
theorem Sn.g {u v:World} (h:Sn u v):Gr u v:=h
def Obx (b:Nat) (L:List Int) (w:World) (r:Ending) (w':World):Prop:=∃ v,r=.returned v∧Ob b w' v L∧Gr w w'
theorem Ob.base {b c:Nat} {w:World} {v:Value} {L:List Int} (h:Ob b w v L) (hc:c≤b):Ob c w v L:=by
 rcases h with ⟨h1,h2⟩
 refine ⟨h1,h2.imp id ?_⟩
 rintro ⟨g,cap,cs,h3,h4,h5⟩
 exact ⟨g,cap,cs,h3,Nat.le_trans hc h4,h5⟩
theorem obx_of {b:Nat} {L:List Int} {w:World} {r:Ending} {w':World} (h:Obd L w r w') (hb:b≤w.heap.size):Obx b L w r w':=by
 obtain ⟨v,h1,h2,h3⟩:=h
 exact ⟨v,h1,h2.base hb,h3⟩
def Okx (b:Nat) (L:List Int) (w:World) (r:Ending) (w':World):Prop:=∃ v,r=.returned (.tuple #[v,.int .i64 0])∧Ob b w' v L∧Gr w w'
theorem okx_pok {b:Nat} {L:List Int} {w:World} {r:Ending} {w':World} (h:Pok L w r w') (hb:b≤w.heap.size):Okx b L w r w':=by
 obtain ⟨v,h1,h2,h3⟩:=h
 exact ⟨v,h1,h2.base hb,h3⟩
theorem okx_opd {b:Nat} {P:List Int} (hP:P.length≤100000) {w:World} {r:Ending} {w':World} (h:Opd P w r w') (hb:b≤w.heap.size):Okx b P w r w':=by
 obtain ⟨g,h1,h2,h3,h4⟩:=h
 exact ⟨_,h1,(ob_of h3 rfl h2 (by omega)).base hb,h4⟩
theorem isB_take' {L:List Int} (h:IsB L) (n:Nat):IsB (L.take n):=fun x hx=>h x (List.mem_of_mem_take hx)
theorem drL_isB (r:Int) (K:List Int):IsB (drL r K):=isB_take' (okL_isB _ _ _) _
theorem rkL_isB (r:Int) (K:List Int) (f m:Bool):IsB (rkL r K f m):=okL_isB _ _ _
theorem evB_len (k a s:Int) {B:List Int} (h:B.length=105):(evB k a s B).length=114:=by simp [evB,lowL_len,h]
theorem sealL_len' (K N A P:List Int):(sealL K N A P).length=P.length+16:=sealL_len K N A P
theorem dropf_ok (r:Int) (hr:0≤r) (K:List Int) (hK:K.length=32) (hKb:IsB K) (f:Bool) (w:World) (hF:Fst w):Calls Tryz.prog 43 #[.agg (fl [bw K,[.bool f]]),.int .u64 r] w (Vl (.agg (kc (drL r K))) w):=by
 rw [← pair_fl]
 exact drop_ok r hr K hK hKb f w hF
theorem rkeyf_ok (r:Int) (hr:0≤r) (K:List Int) (hK:K.length=32) (hKb:IsB K) (f m:Bool) (w:World) (hF:Fst w):Calls Tryz.prog 44 #[.agg (fl [bw K,[.bool f]]),.int .u64 r,.bool m] w (Vl (.agg (kc (rkL r K f m))) w):=by
 rw [← pair_fl]
 exact roundkey_ok r hr K hK hKb f m w hF
theorem putef_ok (k a s:Int) (B:List Int) (hl:B.length=105) (hb:IsB B) (ha:U4 a) (hs:U4 s) (hr:evR k s B=true) (w:World):Calls Tryz.prog 21 #[.agg (fl [[.int .i64 k],[.int .u32 a],[.int .u32 s],bw B])] w (Pok (evB k a s B) w):=by
 rw [← evl_fl]
 exact fpute_ok k a s B hl hb ha hs hr w
def evS (L:List Int):List (List Value):=[[.int .i64 (L.getD 0 0)],[.int .u32 (lowN ((L.drop 1).take 4))],[.int .u32 (lowN ((L.drop 5).take 4))],bw ((L.drop 9).take 105)]
theorem evO_fl (L:List Int):(evO L).toArray=fl (evS L):=evl_fl _ _ _ _
theorem getef_ok (L:List Int) (a:Option Addr) (c0:Nat) (w:World) (hB0:Lb w a 114 c0 L) (hr:evRO L=true):Calls Tryz.prog 31 #[.slice a 114 c0] w (Vl (.tuple #[.agg (fl (evS L)),.int .i64 0]) w):=by
 rw [← evO_fl]
 exact fgete_ok L a c0 w hB0 hr
theorem putxf_ok (D:List Int) (hl:D.length=16) (hb:IsB D) (B:List Int) (hlB:B.length=130) (hbB:IsB B) (w:World):Calls Tryz.prog 39 #[.agg (fl [bw D,bw B])] w (Obd (D++B) w):=by
 rw [← xcl_fl]
 exact fputx_ok D hl hb B hlB hbB w
theorem getxf_ok (L:List Int) (a:Option Addr) (c0:Nat) (w:World) (hB0:Lb w a 146 c0 L):Calls Tryz.prog 35 #[.slice a 146 c0] w (Vl (.tuple #[.agg (fl [bw (L.take 16),bw ((L.drop 16).take 130)]),.int .i64 0]) w):=by
 rw [← xcl_fl]
 exact fgetx_ok L a c0 w hB0
set_option maxHeartbeats 4000000 in
theorem vempty_ok  (w:World)  : Calls Tryz.prog 16 #[] w (Nwb Z130 130 w):=by
 obtain ⟨T,hT⟩:∃ T:Ending→World→Prop,T=(Nwb Z130 130 w):=⟨_,rfl⟩
 rw [← hT]
 replace hT:=hide hT
 go_enter Tryz.func16,Tryz.ntmps16
 go_upto_region 1 with fail
 obtain ⟨u0,hu_⟩:∃ u,u=w:=⟨_,rfl⟩
 rw [← hu_]
 have hB:Bl w [] u0:=hu_ ▸ Bl.nil w
 clear hu_
 refine wp_region_lit ?_
 refine wpList_make_room u0 rfl (.const (.int .i64 130)) (.const (.int .i64 130)) rfl 130 130 130 130 (by kernel_rfl) (by kernel_rfl) (by omega) (by omega) (by omega) (by omega) ?_
 generalize hal_:World.alloc u0 _=u1
 have hv:u1.heap[u0.heap.size]?=some (.cells (kc Z130) 5 (0,0)):=by
  rw [← hal_]
  exact blk_new u0 (.cells (kc Z130) 5 (0,0))
 have hg:Gr u0 u1:=by
  rw [← hal_]
  exact (Gr.refl u0).alloc _
 have hsz:=hB.gr.size
 clear hal_
 generalize u0.heap.size=g at *
 replace hB:=hB.more hg
 simp only [nrm]
 (refine wpList_step fun K hK=>?_; replace hK:=hide hK; go_simp; refine unhide hK _ _ ?_; clear hK K)
 refine wpList_nil ?_
 replace hv:=hide hv
 replace hB:=hide hB
 go_wp2_with fail
 replace hB:=unhide hB
 rw [unhide hT]
 exact (⟨g,rfl,hsz,unhide hv,hB.gr⟩)
set_option maxHeartbeats 4000000 in
theorem terms_peer (r:Int) (hr:0≤r) (Ky:List Int) (hKy:Ky.length=32) (hKb:IsB Ky) (f:Bool) (Y N D:List Int) (w:World) (hF:Fst w) (hY:Y=rkL r Ky f true) (hN:N=cntL r) (hD:D=drL r Ky):Calls Tryz.prog 22 #[.agg (fl [bw Ky,[.bool f]]),.int .u64 r,.int .i64 0] w (Vl (.agg (fl [bw Y,bw N,bw D])) w):=by
 obtain ⟨T,hT⟩:∃ T:Ending→World→Prop,T=(Vl (.agg (fl [bw Y,bw N,bw D])) w):=⟨_,rfl⟩
 rw [← hT]
 replace hT:=hide hT
 have hYl:Y.length=32:=by rw [hY]; exact rkL_len _ _ _ _
 have hNl:N.length=12:=by rw [hN]; exact cntL_len _
 have hDl:D.length=16:=by rw [hD]; exact drL_len _ _
 obtain ⟨A0_,hA0_⟩:∃ S_,S_=fl [bw Ky,[.bool f]]:=⟨_,rfl⟩
 rw [← hA0_]
 replace hA0_:=hide hA0_
 replace hY:=hide hY
 replace hN:=hide hN
 replace hD:=hide hD
 replace hF:=hide hF
 replace hKb:=hide hKb
 go_enter Tryz.func22,Tryz.ntmps22
 go_upto_region 1 with fail
 have hB:=(((Bl.nil w).new A0_ 25).new (fl [bw Z32,bw ZN,bw Z16]) 66)
 simp only [size_alloc,List.nil_append,List.cons_append] at hB
 rw [unhide hA0_] at hB
 generalize hu_:World.alloc _ _=u0
 replace hB:Bl w [⟨w.heap.size,fl [bw Ky,[.bool f]],25⟩,⟨w.heap.size+1,fl [bw Z32,bw ZN,bw Z16],66⟩] u0:=by
  rw [← hu_]
  rw [unhide hA0_]
  exact hB
 clear hu_ hA0_
 refine any_start (S:=fun v_=>v_.heap[w.heap.size]?=some (.cells (fl [bw Ky,[.bool f]]) 25 (0,0))) (by kernel_rfl) ?_
 replace hB:=hB.drew
 generalize World.drew _=u1 at *
 have hB0:=hide hB
 have hsz_:Hid (Sz u1.heap.size u1):=Nat.le_refl _
 simp only [List.size_toArray,List.length_cons,List.length_nil,Array.replicate,List.replicate]
 refine any_tk 0 (.int .u64 r) (tf 8 0) rfl (fun x_ hu=>by kernel_rfl) (hB.get 0 (x:=⟨w.heap.size,fl [bw Ky,[.bool f]],25⟩) rfl) ?_
 simp only [nrm]
 refine any_tk 2 (.agg (fl [bw Ky,[.bool f]])) (tf 8 1) rfl (fun x_ hu=>exec_sw _ 25 (.tmp 3) rfl (w.heap.size) (by kernel_rfl) hu NP (nP hKy _) Tryz.underlying25 rfl (by kernel_rfl)) (hB.get 0 (x:=⟨w.heap.size,fl [bw Ky,[.bool f]],25⟩) rfl) ?_
 simp only [nrm]
 refine any_tk 3 (.int .u64 r) #[true,false,true,false,false,false,false,false] rfl (fun x_ hu=>by kernel_rfl) (hB.get 0 (x:=⟨w.heap.size,fl [bw Ky,[.bool f]],25⟩) rfl) ?_
 simp only [nrm]
 refine float_first (fun q u=>NKf u1.heap.size (fl [bw Z32,bw ZN,bw Z16]) 66 u q) 7 (fun b_=>#[true,false,true,true,false,false,b_,false]) 6 1 false rfl rfl (fun v_ g_=>g_.blk (hB.get 0 (x:=⟨w.heap.size,fl [bw Ky,[.bool f]],25⟩) rfl)) (by kernel_rfl) (fun b_=>by cases b_ <;> rfl) ?_ ?_
 all_goals simp only [fw1,Act.put,List.setIfInBounds_toArray,List.set_cons_zero,List.set_cons_succ,List.getElem_toArray,List.getElem_cons_zero,List.getElem_cons_succ]
 ·intro q_ x_ hgx K hK
  refine wpOp_step (o:=_) rfl (fun K' hK'=>?_)
  replace hK':=hide hK'
  replace hK:=hide hK
  refine step_val (.pointer (some ⟨x_.heap.size,0,none⟩)) (x_.alloc (.cells (fl [bw Z32,bw ZN,bw Z16]) 66 (0,0))) (by kernel_rfl) (by kernel_rfl) ?_
  exact unhide hK' _ _ (unhide hK _ _ ((Gr.refl _).alloc _) (⟨_,rfl,Nat.le_trans (unhide hsz_) hgx.size,blk_new _ _⟩))
 intro b1_1 q1_1 x1_1 hg hTq hall
 replace hsz_:=hide ((unhide hsz_).gr hg)
 replace hB:=hB.more hg
 clear hg
 clear hall
 refine wpOp_step (o:=_) rfl (fun K hK=>?_)
 replace hK:=hide hK
 refine step_callw (by kernel_rfl) 42 #[.int .u64 r] (by kernel_rfl) (((show Calls Tryz.prog 42 #[.int .u64 r] x1_1 (Vl (.agg (kc N)) x1_1) from by rw [unhide hN]; exact count_ok r hr x1_1)).mono ?_)
 rintro r u2 ⟨rfl,hg⟩
 refine ⟨_,rfl,?_⟩
 replace hTq:=fun e=>NKf.gr (hTq e) hg
 replace hsz_:=hide ((unhide hsz_).gr hg)
 replace hB:=hB.more hg
 clear hg
 refine unhide hK _ _ ⟨(hB.get 0 (x:=⟨w.heap.size,fl [bw Ky,[.bool f]],25⟩) rfl),?_⟩
 clear hK K
 simp only [nrm]
 refine float_again (fun q u=>NKf u1.heap.size (fl [bw Z32,bw ZN,bw Z16]) 66 u q) 7 (fun b_=>#[true,true,true,true,false,false,b_,false]) 6 4 false (b:=b1_1) (q:=q1_1) rfl rfl hTq (fun v_ g_=>g_.blk (hB.get 0 (x:=⟨w.heap.size,fl [bw Ky,[.bool f]],25⟩) rfl)) (by kernel_rfl) (fun b_=>by cases b_ <;> rfl) ?_ ?_
 all_goals simp only [fw1,Act.put,List.setIfInBounds_toArray,List.set_cons_zero,List.set_cons_succ,List.getElem_toArray,List.getElem_cons_zero,List.getElem_cons_succ]
 ·intro q_ x_ hgx K hK
  refine wpOp_step (o:=_) rfl (fun K' hK'=>?_)
  replace hK':=hide hK'
  replace hK:=hide hK
  refine step_val (.pointer (some ⟨x_.heap.size,0,none⟩)) (x_.alloc (.cells (fl [bw Z32,bw ZN,bw Z16]) 66 (0,0))) (by kernel_rfl) (by kernel_rfl) ?_
  exact unhide hK' _ _ (unhide hK _ _ ((Gr.refl _).alloc _) (⟨_,rfl,Nat.le_trans (unhide hsz_) hgx.size,blk_new _ _⟩))
 clear hTq
 intro b1_4 q1_4 x1_4 hg hTq hall
 replace hsz_:=hide ((unhide hsz_).gr hg)
 replace hB:=hB.more hg
 clear hg
 clear hall
 refine wpOp_step (o:=_) rfl (fun K hK=>?_)
 replace hK:=hide hK
 refine step_callw (by kernel_rfl) 43 #[.agg (fl [bw Ky,[.bool f]]),.int .u64 r] (by kernel_rfl) (((show Calls Tryz.prog 43 #[.agg (fl [bw Ky,[.bool f]]),.int .u64 r] x1_4 (Vl (.agg (kc D)) x1_4) from by rw [unhide hD]; exact dropf_ok r hr Ky hKy (unhide hKb) f x1_4 ((unhide hF).gr hB.gr))).mono ?_)
 rintro r u3 ⟨rfl,hg⟩
 refine ⟨_,rfl,?_⟩
 replace hTq:=fun e=>NKf.gr (hTq e) hg
 replace hsz_:=hide ((unhide hsz_).gr hg)
 replace hB:=hB.more hg
 clear hg
 refine unhide hK _ _ ⟨(hB.get 0 (x:=⟨w.heap.size,fl [bw Ky,[.bool f]],25⟩) rfl),?_⟩
 clear hK K
 simp only [nrm]
 refine any_tk 5 (.agg (fl [bw Z32,bw N,bw D])) (tf 8 5) rfl (fun x_ hu=>bT12 _ (.tmp 9) (.tmp 12) rfl hNl hDl (by kernel_rfl) (by kernel_rfl)) (hB.get 0 (x:=⟨w.heap.size,fl [bw Ky,[.bool f]],25⟩) rfl) ?_
 simp only [nrm]
 refine float_again (fun q u=>NKf u1.heap.size (fl [bw Z32,bw ZN,bw Z16]) 66 u q) 7 (fun b_=>#[true,true,true,true,true,true,b_,false]) 6 7 true (b:=b1_4) (q:=q1_4) rfl rfl hTq (fun v_ g_=>g_.blk (hB.get 0 (x:=⟨w.heap.size,fl [bw Ky,[.bool f]],25⟩) rfl)) (by kernel_rfl) (fun b_=>by cases b_ <;> rfl) ?_ ?_
 all_goals simp only [fw1,Act.put,List.setIfInBounds_toArray,List.set_cons_zero,List.set_cons_succ,List.getElem_toArray,List.getElem_cons_zero,List.getElem_cons_succ]
 ·intro q_ x_ hgx K hK
  refine wpOp_step (o:=_) rfl (fun K' hK'=>?_)
  replace hK':=hide hK'
  replace hK:=hide hK
  refine step_val (.pointer (some ⟨x_.heap.size,0,none⟩)) (x_.alloc (.cells (fl [bw Z32,bw ZN,bw Z16]) 66 (0,0))) (by kernel_rfl) (by kernel_rfl) ?_
  exact unhide hK' _ _ (unhide hK _ _ ((Gr.refl _).alloc _) (⟨_,rfl,Nat.le_trans (unhide hsz_) hgx.size,blk_new _ _⟩))
 clear hTq
 intro b1_7 q1_7 x1_7 hg hTq hall
 replace hsz_:=hide ((unhide hsz_).gr hg)
 replace hB:=hB.more hg
 clear hg
 obtain rfl:b1_7=true:=hall (by trivial)
 replace hTq:=hTq rfl
 clear hall
 obtain ⟨g7,rfl,hge_,hnew_⟩:=hTq
 replace hB:=Bl.joinz (unhide hB0) hB hge_ hnew_
 simp only [List.cons_append,List.nil_append] at hB
 clear hB0 hge_ hnew_
 refine wpOp_step (o:=_) rfl (fun K hK=>?_)
 replace hK:=hide hK
 refine step_all 66 (.tmp 7) (.tmp 13) (g7) (S2:=[bw Z32,bw N,bw D]) (by kernel_rfl) rfl (by kernel_rfl) (by kernel_rfl) hB 2 rfl NTm (nT (show List.length Z32=32 from rfl) (show List.length ZN=12 from rfl) (show List.length Z16=16 from rfl)) (nT (show List.length Z32=32 from rfl) hNl hDl) (by kernel_rfl) (oT _ _ _) ?_
 intro u4 hB_ hbt_
 clear hB
 replace hB:Bl w [⟨w.heap.size,fl [bw Ky,[.bool f]],25⟩,⟨w.heap.size+1,fl [bw Z32,bw ZN,bw Z16],66⟩,⟨g7,fl [bw Z32,bw N,bw D],66⟩] u4:=hB_
 clear hB_
 clear hbt_
 refine unhide hK _ _ ⟨(hB.get 0 (x:=⟨w.heap.size,fl [bw Ky,[.bool f]],25⟩) rfl),?_⟩
 clear hK K
 simp only [nrm]
 refine any_done (by kernel_rfl) ?_
 clear hsz_
 replace hB:=hide hB
 go_upto_region 4 with fail
 replace hB:=unhide hB
 refine wp_region_lit ?_
 refine list_val (.agg (fl [bw Ky,[.bool f]])) (by kernel_rfl) (exec_sw _ 25 (.tmp 3) rfl (w.heap.size) (by kernel_rfl) (hB.get 0 (x:=⟨w.heap.size,fl [bw Ky,[.bool f]],25⟩) rfl) NP (nP hKy _) Tryz.underlying25 rfl (by kernel_rfl)) ?_
 simp only [nrm]
 refine lvk (.int .u64 r) ?_
 simp only [nrm]
 refine list_call 44 #[.agg (fl [bw Ky,[.bool f]]),.int .u64 r,.bool true] (by kernel_rfl) (by kernel_rfl) (((show Calls Tryz.prog 44 #[.agg (fl [bw Ky,[.bool f]]),.int .u64 r,.bool true] u4 (Vl (.agg (kc Y)) u4) from by rw [unhide hY]; exact rkeyf_ok r hr Ky hKy (unhide hKb) f true u4 ((unhide hF).gr hB.gr))).mono ?_)
 rintro r_ u5 ⟨rfl,hg⟩
 replace hB:=hB.more hg
 clear hg
 refine ⟨_,rfl,?_⟩
 simp only [nrm]
 refine lvk (.pointer (some ⟨g7,0,none⟩)) ?_
 simp only [nrm]
 refine list_seg 23 (.tmp 20) (.tmp 19) (g7) 0 (bw Y) (by kernel_rfl) rfl (by kernel_rfl) (by kernel_rfl) hB 2 rfl NTm (nT (show List.length Z32=32 from rfl) hNl hDl) 0 (by rw [bw_len,hYl]; rfl) rfl (by rw [bw_len,hYl]; kernel_rfl) (bw_one _) ?_
 intro u6 hB_ hbt_
 clear hB
 replace hB:Bl w [⟨w.heap.size,fl [bw Ky,[.bool f]],25⟩,⟨w.heap.size+1,fl [bw Z32,bw ZN,bw Z16],66⟩,⟨g7,fl [bw Y,bw N,bw D],66⟩] u6:=hB_
 clear hB_
 clear hbt_
 simp only [nrm]
 refine wpList_nil ?_
 replace hB:=hide hB
 go_upto_region 7 with fail
 replace hB:=unhide hB
 refine wp_region_lit ?_
 refine list_val (.agg (fl [bw Y,bw N,bw D])) (by kernel_rfl) (exec_sw _ 66 (.tmp 7) rfl (g7) (by kernel_rfl) (hB.get 2 (x:=⟨g7,fl [bw Y,bw N,bw D],66⟩) rfl) NTm (nT hYl hNl hDl) Tryz.underlying66 rfl (by kernel_rfl)) ?_
 simp only [nrm]
 refine list_all 66 (.tmp 6) (.tmp 27) (w.heap.size+1) (S2:=[bw Y,bw N,bw D]) (by kernel_rfl) rfl (by kernel_rfl) (by kernel_rfl) hB 1 rfl NTm (nT (show List.length Z32=32 from rfl) (show List.length ZN=12 from rfl) (show List.length Z16=16 from rfl)) (nT hYl hNl hDl) (by kernel_rfl) (oT _ _ _) ?_
 intro u7 hB_ hbt_
 clear hB
 replace hB:Bl w [⟨w.heap.size,fl [bw Ky,[.bool f]],25⟩,⟨w.heap.size+1,fl [bw Y,bw N,bw D],66⟩,⟨g7,fl [bw Y,bw N,bw D],66⟩] u7:=hB_
 clear hB_
 clear hbt_
 simp only [nrm]
 refine wpList_nil ?_
 replace hB:=hide hB
 go_wp2_with fail
 replace hB:=unhide hB
 rw [unhide hT]
 exact bodyPost_ret (v:=.agg (fl [bw Y,bw N,bw D])) (res1 Tryz.results22 (rv_cell (by kernel_rfl) (hB.get 1 (x:=⟨w.heap.size+1,fl [bw Y,bw N,bw D],66⟩) rfl) Tryz.underlying66 rfl (by rw [fl_size (nT hYl hNl hDl)]; kernel_rfl))) rfl (⟨rfl,hB.gr⟩)
set_option maxHeartbeats 4000000 in
theorem terms_me (r:Int) (hr:0≤r) (Ky:List Int) (hKy:Ky.length=32) (hKb:IsB Ky) (f:Bool) (Y N D:List Int) (w:World) (hF:Fst w) (hY:Y=rkL r Ky f false) (hN:N=cntL r) (hD:D=drL r Ky):Calls Tryz.prog 22 #[.agg (fl [bw Ky,[.bool f]]),.int .u64 r,.int .i64 1] w (Vl (.agg (fl [bw Y,bw N,bw D])) w):=by
 obtain ⟨T,hT⟩:∃ T:Ending→World→Prop,T=(Vl (.agg (fl [bw Y,bw N,bw D])) w):=⟨_,rfl⟩
 rw [← hT]
 replace hT:=hide hT
 have hYl:Y.length=32:=by rw [hY]; exact rkL_len _ _ _ _
 have hNl:N.length=12:=by rw [hN]; exact cntL_len _
 have hDl:D.length=16:=by rw [hD]; exact drL_len _ _
 obtain ⟨A0_,hA0_⟩:∃ S_,S_=fl [bw Ky,[.bool f]]:=⟨_,rfl⟩
 rw [← hA0_]
 replace hA0_:=hide hA0_
 replace hY:=hide hY
 replace hN:=hide hN
 replace hD:=hide hD
 replace hF:=hide hF
 replace hKb:=hide hKb
 go_enter Tryz.func22,Tryz.ntmps22
 go_upto_region 1 with fail
 have hB:=(((Bl.nil w).new A0_ 25).new (fl [bw Z32,bw ZN,bw Z16]) 66)
 simp only [size_alloc,List.nil_append,List.cons_append] at hB
 rw [unhide hA0_] at hB
 generalize hu_:World.alloc _ _=u0
 replace hB:Bl w [⟨w.heap.size,fl [bw Ky,[.bool f]],25⟩,⟨w.heap.size+1,fl [bw Z32,bw ZN,bw Z16],66⟩] u0:=by
  rw [← hu_]
  rw [unhide hA0_]
  exact hB
 clear hu_ hA0_
 refine any_start (S:=fun v_=>v_.heap[w.heap.size]?=some (.cells (fl [bw Ky,[.bool f]]) 25 (0,0))) (by kernel_rfl) ?_
 replace hB:=hB.drew
 generalize World.drew _=u1 at *
 have hB0:=hide hB
 have hsz_:Hid (Sz u1.heap.size u1):=Nat.le_refl _
 simp only [List.size_toArray,List.length_cons,List.length_nil,Array.replicate,List.replicate]
 refine any_tk 0 (.int .u64 r) (tf 8 0) rfl (fun x_ hu=>by kernel_rfl) (hB.get 0 (x:=⟨w.heap.size,fl [bw Ky,[.bool f]],25⟩) rfl) ?_
 simp only [nrm]
 refine any_tk 2 (.agg (fl [bw Ky,[.bool f]])) (tf 8 1) rfl (fun x_ hu=>exec_sw _ 25 (.tmp 3) rfl (w.heap.size) (by kernel_rfl) hu NP (nP hKy _) Tryz.underlying25 rfl (by kernel_rfl)) (hB.get 0 (x:=⟨w.heap.size,fl [bw Ky,[.bool f]],25⟩) rfl) ?_
 simp only [nrm]
 refine any_tk 3 (.int .u64 r) #[true,false,true,false,false,false,false,false] rfl (fun x_ hu=>by kernel_rfl) (hB.get 0 (x:=⟨w.heap.size,fl [bw Ky,[.bool f]],25⟩) rfl) ?_
 simp only [nrm]
 refine float_first (fun q u=>NKf u1.heap.size (fl [bw Z32,bw ZN,bw Z16]) 66 u q) 7 (fun b_=>#[true,false,true,true,false,false,b_,false]) 6 1 false rfl rfl (fun v_ g_=>g_.blk (hB.get 0 (x:=⟨w.heap.size,fl [bw Ky,[.bool f]],25⟩) rfl)) (by kernel_rfl) (fun b_=>by cases b_ <;> rfl) ?_ ?_
 all_goals simp only [fw1,Act.put,List.setIfInBounds_toArray,List.set_cons_zero,List.set_cons_succ,List.getElem_toArray,List.getElem_cons_zero,List.getElem_cons_succ]
 ·intro q_ x_ hgx K hK
  refine wpOp_step (o:=_) rfl (fun K' hK'=>?_)
  replace hK':=hide hK'
  replace hK:=hide hK
  refine step_val (.pointer (some ⟨x_.heap.size,0,none⟩)) (x_.alloc (.cells (fl [bw Z32,bw ZN,bw Z16]) 66 (0,0))) (by kernel_rfl) (by kernel_rfl) ?_
  exact unhide hK' _ _ (unhide hK _ _ ((Gr.refl _).alloc _) (⟨_,rfl,Nat.le_trans (unhide hsz_) hgx.size,blk_new _ _⟩))
 intro b1_1 q1_1 x1_1 hg hTq hall
 replace hsz_:=hide ((unhide hsz_).gr hg)
 replace hB:=hB.more hg
 clear hg
 clear hall
 refine wpOp_step (o:=_) rfl (fun K hK=>?_)
 replace hK:=hide hK
 refine step_callw (by kernel_rfl) 42 #[.int .u64 r] (by kernel_rfl) (((show Calls Tryz.prog 42 #[.int .u64 r] x1_1 (Vl (.agg (kc N)) x1_1) from by rw [unhide hN]; exact count_ok r hr x1_1)).mono ?_)
 rintro r u2 ⟨rfl,hg⟩
 refine ⟨_,rfl,?_⟩
 replace hTq:=fun e=>NKf.gr (hTq e) hg
 replace hsz_:=hide ((unhide hsz_).gr hg)
 replace hB:=hB.more hg
 clear hg
 refine unhide hK _ _ ⟨(hB.get 0 (x:=⟨w.heap.size,fl [bw Ky,[.bool f]],25⟩) rfl),?_⟩
 clear hK K
 simp only [nrm]
 refine float_again (fun q u=>NKf u1.heap.size (fl [bw Z32,bw ZN,bw Z16]) 66 u q) 7 (fun b_=>#[true,true,true,true,false,false,b_,false]) 6 4 false (b:=b1_1) (q:=q1_1) rfl rfl hTq (fun v_ g_=>g_.blk (hB.get 0 (x:=⟨w.heap.size,fl [bw Ky,[.bool f]],25⟩) rfl)) (by kernel_rfl) (fun b_=>by cases b_ <;> rfl) ?_ ?_
 all_goals simp only [fw1,Act.put,List.setIfInBounds_toArray,List.set_cons_zero,List.set_cons_succ,List.getElem_toArray,List.getElem_cons_zero,List.getElem_cons_succ]
 ·intro q_ x_ hgx K hK
  refine wpOp_step (o:=_) rfl (fun K' hK'=>?_)
  replace hK':=hide hK'
  replace hK:=hide hK
  refine step_val (.pointer (some ⟨x_.heap.size,0,none⟩)) (x_.alloc (.cells (fl [bw Z32,bw ZN,bw Z16]) 66 (0,0))) (by kernel_rfl) (by kernel_rfl) ?_
  exact unhide hK' _ _ (unhide hK _ _ ((Gr.refl _).alloc _) (⟨_,rfl,Nat.le_trans (unhide hsz_) hgx.size,blk_new _ _⟩))
 clear hTq
 intro b1_4 q1_4 x1_4 hg hTq hall
 replace hsz_:=hide ((unhide hsz_).gr hg)
 replace hB:=hB.more hg
 clear hg
 clear hall
 refine wpOp_step (o:=_) rfl (fun K hK=>?_)
 replace hK:=hide hK
 refine step_callw (by kernel_rfl) 43 #[.agg (fl [bw Ky,[.bool f]]),.int .u64 r] (by kernel_rfl) (((show Calls Tryz.prog 43 #[.agg (fl [bw Ky,[.bool f]]),.int .u64 r] x1_4 (Vl (.agg (kc D)) x1_4) from by rw [unhide hD]; exact dropf_ok r hr Ky hKy (unhide hKb) f x1_4 ((unhide hF).gr hB.gr))).mono ?_)
 rintro r u3 ⟨rfl,hg⟩
 refine ⟨_,rfl,?_⟩
 replace hTq:=fun e=>NKf.gr (hTq e) hg
 replace hsz_:=hide ((unhide hsz_).gr hg)
 replace hB:=hB.more hg
 clear hg
 refine unhide hK _ _ ⟨(hB.get 0 (x:=⟨w.heap.size,fl [bw Ky,[.bool f]],25⟩) rfl),?_⟩
 clear hK K
 simp only [nrm]
 refine any_tk 5 (.agg (fl [bw Z32,bw N,bw D])) (tf 8 5) rfl (fun x_ hu=>bT12 _ (.tmp 9) (.tmp 12) rfl hNl hDl (by kernel_rfl) (by kernel_rfl)) (hB.get 0 (x:=⟨w.heap.size,fl [bw Ky,[.bool f]],25⟩) rfl) ?_
 simp only [nrm]
 refine float_again (fun q u=>NKf u1.heap.size (fl [bw Z32,bw ZN,bw Z16]) 66 u q) 7 (fun b_=>#[true,true,true,true,true,true,b_,false]) 6 7 true (b:=b1_4) (q:=q1_4) rfl rfl hTq (fun v_ g_=>g_.blk (hB.get 0 (x:=⟨w.heap.size,fl [bw Ky,[.bool f]],25⟩) rfl)) (by kernel_rfl) (fun b_=>by cases b_ <;> rfl) ?_ ?_
 all_goals simp only [fw1,Act.put,List.setIfInBounds_toArray,List.set_cons_zero,List.set_cons_succ,List.getElem_toArray,List.getElem_cons_zero,List.getElem_cons_succ]
 ·intro q_ x_ hgx K hK
  refine wpOp_step (o:=_) rfl (fun K' hK'=>?_)
  replace hK':=hide hK'
  replace hK:=hide hK
  refine step_val (.pointer (some ⟨x_.heap.size,0,none⟩)) (x_.alloc (.cells (fl [bw Z32,bw ZN,bw Z16]) 66 (0,0))) (by kernel_rfl) (by kernel_rfl) ?_
  exact unhide hK' _ _ (unhide hK _ _ ((Gr.refl _).alloc _) (⟨_,rfl,Nat.le_trans (unhide hsz_) hgx.size,blk_new _ _⟩))
 clear hTq
 intro b1_7 q1_7 x1_7 hg hTq hall
 replace hsz_:=hide ((unhide hsz_).gr hg)
 replace hB:=hB.more hg
 clear hg
 obtain rfl:b1_7=true:=hall (by trivial)
 replace hTq:=hTq rfl
 clear hall
 obtain ⟨g7,rfl,hge_,hnew_⟩:=hTq
 replace hB:=Bl.joinz (unhide hB0) hB hge_ hnew_
 simp only [List.cons_append,List.nil_append] at hB
 clear hB0 hge_ hnew_
 refine wpOp_step (o:=_) rfl (fun K hK=>?_)
 replace hK:=hide hK
 refine step_all 66 (.tmp 7) (.tmp 13) (g7) (S2:=[bw Z32,bw N,bw D]) (by kernel_rfl) rfl (by kernel_rfl) (by kernel_rfl) hB 2 rfl NTm (nT (show List.length Z32=32 from rfl) (show List.length ZN=12 from rfl) (show List.length Z16=16 from rfl)) (nT (show List.length Z32=32 from rfl) hNl hDl) (by kernel_rfl) (oT _ _ _) ?_
 intro u4 hB_ hbt_
 clear hB
 replace hB:Bl w [⟨w.heap.size,fl [bw Ky,[.bool f]],25⟩,⟨w.heap.size+1,fl [bw Z32,bw ZN,bw Z16],66⟩,⟨g7,fl [bw Z32,bw N,bw D],66⟩] u4:=hB_
 clear hB_
 clear hbt_
 refine unhide hK _ _ ⟨(hB.get 0 (x:=⟨w.heap.size,fl [bw Ky,[.bool f]],25⟩) rfl),?_⟩
 clear hK K
 simp only [nrm]
 refine any_done (by kernel_rfl) ?_
 clear hsz_
 replace hB:=hide hB
 go_upto_region 6 with fail
 replace hB:=unhide hB
 refine wp_region_lit ?_
 refine list_val (.agg (fl [bw Ky,[.bool f]])) (by kernel_rfl) (exec_sw _ 25 (.tmp 3) rfl (w.heap.size) (by kernel_rfl) (hB.get 0 (x:=⟨w.heap.size,fl [bw Ky,[.bool f]],25⟩) rfl) NP (nP hKy _) Tryz.underlying25 rfl (by kernel_rfl)) ?_
 simp only [nrm]
 refine lvk (.int .u64 r) ?_
 simp only [nrm]
 refine list_call 44 #[.agg (fl [bw Ky,[.bool f]]),.int .u64 r,.bool false] (by kernel_rfl) (by kernel_rfl) (((show Calls Tryz.prog 44 #[.agg (fl [bw Ky,[.bool f]]),.int .u64 r,.bool false] u4 (Vl (.agg (kc Y)) u4) from by rw [unhide hY]; exact rkeyf_ok r hr Ky hKy (unhide hKb) f false u4 ((unhide hF).gr hB.gr))).mono ?_)
 rintro r_ u5 ⟨rfl,hg⟩
 replace hB:=hB.more hg
 clear hg
 refine ⟨_,rfl,?_⟩
 simp only [nrm]
 refine lvk (.pointer (some ⟨g7,0,none⟩)) ?_
 simp only [nrm]
 refine list_seg 23 (.tmp 26) (.tmp 25) (g7) 0 (bw Y) (by kernel_rfl) rfl (by kernel_rfl) (by kernel_rfl) hB 2 rfl NTm (nT (show List.length Z32=32 from rfl) hNl hDl) 0 (by rw [bw_len,hYl]; rfl) rfl (by rw [bw_len,hYl]; kernel_rfl) (bw_one _) ?_
 intro u6 hB_ hbt_
 clear hB
 replace hB:Bl w [⟨w.heap.size,fl [bw Ky,[.bool f]],25⟩,⟨w.heap.size+1,fl [bw Z32,bw ZN,bw Z16],66⟩,⟨g7,fl [bw Y,bw N,bw D],66⟩] u6:=hB_
 clear hB_
 clear hbt_
 simp only [nrm]
 refine wpList_nil ?_
 replace hB:=hide hB
 go_upto_region 7 with fail
 replace hB:=unhide hB
 refine wp_region_lit ?_
 refine list_val (.agg (fl [bw Y,bw N,bw D])) (by kernel_rfl) (exec_sw _ 66 (.tmp 7) rfl (g7) (by kernel_rfl) (hB.get 2 (x:=⟨g7,fl [bw Y,bw N,bw D],66⟩) rfl) NTm (nT hYl hNl hDl) Tryz.underlying66 rfl (by kernel_rfl)) ?_
 simp only [nrm]
 refine list_all 66 (.tmp 6) (.tmp 27) (w.heap.size+1) (S2:=[bw Y,bw N,bw D]) (by kernel_rfl) rfl (by kernel_rfl) (by kernel_rfl) hB 1 rfl NTm (nT (show List.length Z32=32 from rfl) (show List.length ZN=12 from rfl) (show List.length Z16=16 from rfl)) (nT hYl hNl hDl) (by kernel_rfl) (oT _ _ _) ?_
 intro u7 hB_ hbt_
 clear hB
 replace hB:Bl w [⟨w.heap.size,fl [bw Ky,[.bool f]],25⟩,⟨w.heap.size+1,fl [bw Y,bw N,bw D],66⟩,⟨g7,fl [bw Y,bw N,bw D],66⟩] u7:=hB_
 clear hB_
 clear hbt_
 simp only [nrm]
 refine wpList_nil ?_
 replace hB:=hide hB
 go_wp2_with fail
 replace hB:=unhide hB
 rw [unhide hT]
 exact bodyPost_ret (v:=.agg (fl [bw Y,bw N,bw D])) (res1 Tryz.results22 (rv_cell (by kernel_rfl) (hB.get 1 (x:=⟨w.heap.size+1,fl [bw Y,bw N,bw D],66⟩) rfl) Tryz.underlying66 rfl (by rw [fl_size (nT hYl hNl hDl)]; kernel_rfl))) rfl (⟨rfl,hB.gr⟩)
set_option maxHeartbeats 4000000 in
theorem vseal_ok (Y N D:List Int) (hY:Y.length=32) (hN:N.length=12) (hD:D.length=16) (hYb:IsB Y) (hNb:IsB N) (hDb:IsB D) (P:List Int) (s:Option Addr) (n c:Nat) (hn:n≤20000) (w:World) (lp:Lb w s n c P):Calls Tryz.prog 23 #[.agg (fl [bw Y,bw N,bw D]),.slice s n c] w (Obd (sealL Y N D P) w):=by
 obtain ⟨T,hT⟩:∃ T:Ending→World→Prop,T=(Obd (sealL Y N D P) w):=⟨_,rfl⟩
 rw [← hT]
 replace hT:=hide hT
 obtain ⟨A0_,hA0_⟩:∃ S_,S_=fl [bw Y,bw N,bw D]:=⟨_,rfl⟩
 rw [← hA0_]
 replace hA0_:=hide hA0_
 replace hYb:=hide hYb
 replace hNb:=hide hNb
 replace hDb:=hide hDb
 replace lp:=hide lp
 go_enter Tryz.func23,Tryz.ntmps23
 go_upto_region 1 with fail
 have hB:=((Bl.nil w).new A0_ 66)
 simp only [size_alloc,List.nil_append,List.cons_append] at hB
 rw [unhide hA0_] at hB
 generalize hu_:World.alloc _ _=u0
 replace hB:Bl w [⟨w.heap.size,fl [bw Y,bw N,bw D],66⟩] u0:=by
  rw [← hu_]
  rw [unhide hA0_]
  exact hB
 clear hu_ hA0_
 refine any_start (S:=fun v_=>v_.heap[w.heap.size]?=some (.cells (fl [bw Y,bw N,bw D]) 66 (0,0))) (by kernel_rfl) ?_
 replace hB:=hB.drew
 generalize World.drew _=u1 at *
 simp only [List.size_toArray,List.length_cons,List.length_nil,Array.replicate,List.replicate]
 have hS_:=hide (show (fun v_=>v_.heap[w.heap.size]?=some (.cells (fl [bw Y,bw N,bw D]) 66 (0,0))) u1 from (hB.get 0 (x:=⟨w.heap.size,fl [bw Y,bw N,bw D],66⟩) rfl))
 refine any_tk 0 (.pointer (some ⟨w.heap.size,0,none⟩)) (tf 9 0) rfl (fun x_ hu=>by kernel_rfl) (unhide hS_) ?_
 simp only [nrm]
 refine any_tk 1 (.agg (kc Y)) (tf 9 1) rfl (fun x_ hu=>exec_sa _ 23 (.tmp 5) rfl (w.heap.size) 0 (by kernel_rfl) hu NTm (nT hY hN hD) 0 Y rfl rfl Tryz.underlying23 rfl (n:=32) rfl Tryz.infoKey) (unhide hS_) ?_
 simp only [nrm]
 refine any_tk 2 (.pointer (some ⟨w.heap.size,32,none⟩)) (tf 9 2) rfl (fun x_ hu=>by kernel_rfl) (unhide hS_) ?_
 simp only [nrm]
 refine any_tk 3 (.agg (kc N)) (tf 9 3) rfl (fun x_ hu=>exec_sa _ 64 (.tmp 7) rfl (w.heap.size) 32 (by kernel_rfl) hu NTm (nT hY hN hD) 1 N rfl rfl Tryz.underlying64 rfl (n:=12) rfl Tryz.infoN) (unhide hS_) ?_
 simp only [nrm]
 refine any_tk 4 (.pointer (some ⟨w.heap.size,44,none⟩)) (tf 9 4) rfl (fun x_ hu=>by kernel_rfl) (unhide hS_) ?_
 simp only [nrm]
 refine any_tk 5 (.slice (some ⟨w.heap.size,44,none⟩) 16 16) (tf 9 5) rfl (fun x_ hu=>by kernel_rfl) (unhide hS_) ?_
 simp only [nrm]
 refine any_tk 6 (.slice s n c) (tf 9 6) rfl (fun x_ hu=>by kernel_rfl) (unhide hS_) ?_
 simp only [nrm]
 refine any_one (i:=7) (by kernel_rfl) rfl (fun K hK=>?_)
 refine step_callw (by kernel_rfl) 45 #[.agg (kc Y),.agg (kc N),.slice (some ⟨w.heap.size,44,none⟩) 16 16,.slice s n c] (by kernel_rfl) ((((seal_ok Y N hY hN (unhide hYb) (unhide hNb) D P (some ⟨w.heap.size,44,none⟩) s 16 n 16 c hn u1 (seg_lb (nT hY hN hD) (hB.get 0 (x:=⟨w.heap.size,fl [bw Y,bw N,bw D],66⟩) rfl) 2 rfl rfl (unhide hDb) hD (by decide)) ((unhide lp).gr hB.gr)).mono fun _ _ h=>obx_of h hB.gr.size)).mono ?_)
 rintro r_ u2 ⟨v1,rfl,ho,hg⟩
 replace hB:=hB.more hg
 clear hg
 replace ho:=hide ho
 refine ⟨_,rfl,?_⟩
 clear hS_
 have hS_:=hide (show (fun v_=>v_.heap[w.heap.size]?=some (.cells (fl [bw Y,bw N,bw D]) 66 (0,0))) u2 from (hB.get 0 (x:=⟨w.heap.size,fl [bw Y,bw N,bw D],66⟩) rfl))
 refine hK.out _ _ (unhide hS_) (fun _=>?_)
 clear hK K
 simp only [nrm]
 refine any_one (i:=8) (by kernel_rfl) rfl (fun K hK=>?_)
 replace hK:=hide hK
 go_simp
 refine (unhide hK).out _ _ (unhide hS_) (fun _=>?_)
 clear hK K
 simp only [nrm]
 refine any_done (by kernel_rfl) ?_
 clear hS_
 replace hB:=hide hB
 go_wp2_with fail
 replace hB:=unhide hB
 rw [unhide hT]
 exact (⟨_,rfl,unhide ho,hB.gr⟩)
set_option maxHeartbeats 4000000 in
theorem vopen_yes (Y N D:List Int) (hY:Y.length=32) (hN:N.length=12) (hD:D.length=16) (hYb:IsB Y) (hNb:IsB N) (hDb:IsB D) (P:List Int) (s:Option Addr) (n c:Nat) (hn:n≤20000) (w:World) (hPb:IsB P) (lp:Lb w s n c (sealL Y N D P)):Calls Tryz.prog 30 #[.agg (fl [bw Y,bw N,bw D]),.slice s n c] w (Pok P w):=by
 obtain ⟨T,hT⟩:∃ T:Ending→World→Prop,T=(Pok P w):=⟨_,rfl⟩
 rw [← hT]
 replace hT:=hide hT
 obtain ⟨A0_,hA0_⟩:∃ S_,S_=fl [bw Y,bw N,bw D]:=⟨_,rfl⟩
 rw [← hA0_]
 replace hA0_:=hide hA0_
 replace hYb:=hide hYb
 replace hNb:=hide hNb
 replace hDb:=hide hDb
 replace lp:=hide lp
 go_enter Tryz.func30,Tryz.ntmps30
 go_upto_region 1 with fail
 have hB:=((Bl.nil w).new A0_ 66)
 simp only [size_alloc,List.nil_append,List.cons_append] at hB
 rw [unhide hA0_] at hB
 generalize hu_:World.alloc _ _=u0
 replace hB:Bl w [⟨w.heap.size,fl [bw Y,bw N,bw D],66⟩] u0:=by
  rw [← hu_]
  rw [unhide hA0_]
  exact hB
 clear hu_ hA0_
 refine any_start (S:=fun v_=>v_.heap[w.heap.size]?=some (.cells (fl [bw Y,bw N,bw D]) 66 (0,0))) (by kernel_rfl) ?_
 replace hB:=hB.drew
 generalize World.drew _=u1 at *
 simp only [List.size_toArray,List.length_cons,List.length_nil,Array.replicate,List.replicate]
 have hS_:=hide (show (fun v_=>v_.heap[w.heap.size]?=some (.cells (fl [bw Y,bw N,bw D]) 66 (0,0))) u1 from (hB.get 0 (x:=⟨w.heap.size,fl [bw Y,bw N,bw D],66⟩) rfl))
 refine any_tk 0 (.pointer (some ⟨w.heap.size,0,none⟩)) (tf 12 0) rfl (fun x_ hu=>by kernel_rfl) (unhide hS_) ?_
 simp only [nrm]
 refine any_tk 1 (.agg (kc Y)) (tf 12 1) rfl (fun x_ hu=>exec_sa _ 23 (.tmp 6) rfl (w.heap.size) 0 (by kernel_rfl) hu NTm (nT hY hN hD) 0 Y rfl rfl Tryz.underlying23 rfl (n:=32) rfl Tryz.infoKey) (unhide hS_) ?_
 simp only [nrm]
 refine any_tk 2 (.pointer (some ⟨w.heap.size,32,none⟩)) (tf 12 2) rfl (fun x_ hu=>by kernel_rfl) (unhide hS_) ?_
 simp only [nrm]
 refine any_tk 3 (.agg (kc N)) (tf 12 3) rfl (fun x_ hu=>exec_sa _ 64 (.tmp 8) rfl (w.heap.size) 32 (by kernel_rfl) hu NTm (nT hY hN hD) 1 N rfl rfl Tryz.underlying64 rfl (n:=12) rfl Tryz.infoN) (unhide hS_) ?_
 simp only [nrm]
 refine any_tk 4 (.pointer (some ⟨w.heap.size,44,none⟩)) (tf 12 4) rfl (fun x_ hu=>by kernel_rfl) (unhide hS_) ?_
 simp only [nrm]
 refine any_tk 5 (.slice (some ⟨w.heap.size,44,none⟩) 16 16) (tf 12 5) rfl (fun x_ hu=>by kernel_rfl) (unhide hS_) ?_
 simp only [nrm]
 refine any_tk 6 (.slice s n c) (tf 12 6) rfl (fun x_ hu=>by kernel_rfl) (unhide hS_) ?_
 simp only [nrm]
 refine any_one (i:=7) (by kernel_rfl) rfl (fun K hK=>?_)
 refine step_callw (by kernel_rfl) 51 #[.agg (kc Y),.agg (kc N),.slice (some ⟨w.heap.size,44,none⟩) 16 16,.slice s n c] (by kernel_rfl) ((((open_yes Y N hY hN (unhide hYb) (unhide hNb) D P hPb (some ⟨w.heap.size,44,none⟩) s 16 n 16 c hn u1 (seg_lb (nT hY hN hD) (hB.get 0 (x:=⟨w.heap.size,fl [bw Y,bw N,bw D],66⟩) rfl) 2 rfl rfl (unhide hDb) hD (by decide)) ((unhide lp).gr hB.gr)).mono fun _ _ h=>okx_opd (by have:=(unhide lp).len; rw [sealL_len] at this; omega) h hB.gr.size)).mono ?_)
 rintro r_ u2 ⟨v1,rfl,ho,hg⟩
 replace hB:=hB.more hg
 clear hg
 replace ho:=hide ho
 refine ⟨_,rfl,?_⟩
 clear hS_
 have hS_:=hide (show (fun v_=>v_.heap[w.heap.size]?=some (.cells (fl [bw Y,bw N,bw D]) 66 (0,0))) u2 from (hB.get 0 (x:=⟨w.heap.size,fl [bw Y,bw N,bw D],66⟩) rfl))
 refine hK.out _ _ (unhide hS_) (fun _=>?_)
 clear hK K
 simp only [nrm]
 refine any_tk 8 v1 (tf 12 8) rfl (fun x_ hu=>by kernel_rfl) (unhide hS_) ?_
 simp only [nrm]
 refine any_tk 9 (.int .i64 0) (tf 12 9) rfl (fun x_ hu=>by kernel_rfl) (unhide hS_) ?_
 simp only [nrm]
 refine any_one (i:=10) (by kernel_rfl) rfl (fun K hK=>?_)
 replace hK:=hide hK
 go_simp
 refine (unhide hK).out _ _ (unhide hS_) (fun _=>?_)
 clear hK K
 simp only [nrm]
 refine any_one (i:=11) (by kernel_rfl) rfl (fun K hK=>?_)
 replace hK:=hide hK
 go_simp
 refine (unhide hK).out _ _ (unhide hS_) (fun _=>?_)
 clear hK K
 simp only [nrm]
 refine any_done (by kernel_rfl) ?_
 clear hS_
 replace hB:=hide hB
 go_wp2_with fail
 replace hB:=unhide hB
 rw [unhide hT]
 exact (⟨_,rfl,unhide ho,hB.gr⟩)
set_option maxHeartbeats 4000000 in
theorem vpayload_ok (D B:List Int) (hD:D.length=16) (hDb:IsB D) (hB0:B.length=130) (hBb:IsB B) (w:World)  : Calls Tryz.prog 18 #[.agg (fl [bw D,bw B])] w (Obd (D++B) w):=by
 obtain ⟨T,hT⟩:∃ T:Ending→World→Prop,T=(Obd (D++B) w):=⟨_,rfl⟩
 rw [← hT]
 replace hT:=hide hT
 obtain ⟨A0_,hA0_⟩:∃ S_,S_=fl [bw D,bw B]:=⟨_,rfl⟩
 rw [← hA0_]
 replace hA0_:=hide hA0_
 go_enter Tryz.func18,Tryz.ntmps18
 go_upto_region 1 with fail
 have hB:=((Bl.nil w).new A0_ 36)
 simp only [size_alloc,List.nil_append,List.cons_append] at hB
 rw [unhide hA0_] at hB
 generalize hu_:World.alloc _ _=u0
 replace hB:Bl w [⟨w.heap.size,fl [bw D,bw B],36⟩] u0:=by
  rw [← hu_]
  rw [unhide hA0_]
  exact hB
 clear hu_ hA0_
 refine wp_region_lit ?_
 refine list_val (.agg (fl [bw D,bw B])) (by kernel_rfl) (exec_sw _ 36 (.tmp 1) rfl (w.heap.size) (by kernel_rfl) (hB.get 0 (x:=⟨w.heap.size,fl [bw D,bw B],36⟩) rfl) NX (nX hD hB0) Tryz.underlying36 rfl (by kernel_rfl)) ?_
 simp only [nrm]
 refine list_call 39 #[.agg (fl [bw D,bw B])] (by kernel_rfl) (by kernel_rfl) ((((putxf_ok D hD hDb B hB0 hBb u0).mono fun _ _ h=>obx_of h hB.gr.size)).mono ?_)
 rintro r_ u1 ⟨v1,rfl,ho,hg⟩
 replace hB:=hB.more hg
 clear hg
 replace ho:=hide ho
 refine ⟨_,rfl,?_⟩
 simp only [nrm]
 (refine wpList_step fun K hK=>?_; replace hK:=hide hK; go_simp; refine unhide hK _ _ ?_; clear hK K)
 refine wpList_nil ?_
 replace hB:=hide hB
 go_wp2_with fail
 replace hB:=unhide hB
 rw [unhide hT]
 exact (⟨_,rfl,unhide ho,hB.gr⟩)
end Go.Proofs.YthahhglbeafkmaaGreatDoor
namespace Go.Proofs.YthahhglbeafkmaaGreatDoor
open Go.RowKit
set_option maxRecDepth 100000
set_option linter.unusedSimpArgs false
set_option linter.unusedVariables false
set_option maxHeartbeats 4000000 in
theorem unread_0 (r:Int) (hr0:r≠0) (a:Option Addr) (c:Nat) (L:List Int) (w:World) (lp:Lb w a 130 c L) (hL:L≠Z130):Calls Tryz.prog 29 #[.int .u64 r,.slice a 130 c] w (Vl (.int .i64 0) w):=by
 obtain ⟨T,hT⟩:∃ T:Ending→World→Prop,T=Vl (.int .i64 0) w:=⟨_,rfl⟩
 rw [← hT]
 replace hT:=hide hT
 go_enter Tryz.func29,Tryz.ntmps29
 refine wp_seq ?_
 go_wp2_with fail
 refine wp_scope_straight ?_
 ·replace lp:=hide lp
  replace hL:=hide hL
  go_upto_region 3 with fail
  refine wp_region_lit ?_
  refine lvk (.slice a 130 c) ?_
  simp only [nrm]
  refine list_call 16 #[] (by kernel_rfl) (by kernel_rfl) ((vempty_ok w).mono ?_)
  rintro r_ u1 ⟨g,rfl,hg1,hg2,hg3⟩
  refine ⟨_,rfl,?_⟩
  simp only [nrm]
  refine list_call 50 #[.slice a 130 c,.slice (some ⟨g,0,none⟩) 130 130] (by kernel_rfl) (by kernel_rfl) ((oequal_ok L Z130 a (some ⟨g,0,none⟩) 130 c 130 (by decide) u1 ((unhide lp).gr hg3) (nw_lb hg2 (isB_rep 130) rfl (by decide))).mono ?_)
  rintro r_ u2 ⟨rfl,rfl⟩
  rw [show decide (L=Z130)=false from decide_eq_false (unhide hL)]
  refine ⟨_,rfl,?_⟩
  simp only [nrm]
  refine wpList_nil ?_
  go_wp2_with fail
  rw [unhide hT]
  exact ⟨rfl,hg3⟩
end Go.Proofs.YthahhglbeafkmaaGreatDoor
namespace Go.Proofs.YthahhglbeafkmaaGreatDoor
open Go.RowKit
set_option maxRecDepth 100000
set_option linter.unusedSimpArgs false
set_option linter.unusedVariables false
theorem evB_isB {k s:Int} (a:Int) {B:List Int} (hr:evR k s B=true) (hb:IsB B):IsB (evB k a s B):=by
 have hk:k=1∨k=0:=by
  unfold evR at hr
  simp only [Bool.or_eq_true,Bool.and_eq_true,beq_iff_eq] at hr
  rcases hr with h | h
  ·exact .inl h
  ·exact .inr h.1
 refine isB_append (isB_append (isB_append ?_ (lowL_isB _ _)) (lowL_isB _ _)) hb
 intro x hx
 rw [List.mem_singleton.1 hx]
 omega
set_option maxHeartbeats 4000000 in
theorem vreal_ok (Ky:List Int) (hKy:Ky.length=32) (hKb:IsB Ky) (f:Bool) (k a s:Int) (B:List Int) (hB0:B.length=105) (hBb:IsB B) (ha:U4 a) (hs:U4 s) (r:Int) (hr:0≤r) (Y N D P C:List Int) (w:World) (hF:Fst w) (hr0:r≠0) (he:evR k s B=true) (hY:Y=rkL r Ky f true) (hN:N=cntL r) (hD:D=drL r Ky) (hP:P=evB k a s B) (hC:C=sealL Y N D P):Calls Tryz.prog 7 #[.agg (fl [bw Ky,[.bool f]]),.int .u64 r,.agg (fl [[.int .i64 k],[.int .u32 a],[.int .u32 s],bw B])] w (Vl (.tuple #[.agg (fl [bw D,bw C]),.int .i64 0]) w):=by
 obtain ⟨T,hT⟩:∃ T:Ending→World→Prop,T=(Vl (.tuple #[.agg (fl [bw D,bw C]),.int .i64 0]) w):=⟨_,rfl⟩
 rw [← hT]
 replace hT:=hide hT
 have hYl:Y.length=32:=by rw [hY]; exact rkL_len _ _ _ _
 have hNl:N.length=12:=by rw [hN]; exact cntL_len _
 have hDl:D.length=16:=by rw [hD]; exact drL_len _ _
 have hYb:IsB Y:=by rw [hY]; exact rkL_isB _ _ _ _
 have hNb:IsB N:=by rw [hN]; exact cntL_isB _
 have hDb:IsB D:=by rw [hD]; exact drL_isB _ _
 have hPl:P.length=114:=by rw [hP]; exact evB_len _ _ _ hB0
 have hPb:IsB P:=by rw [hP]; exact evB_isB a he hBb
 have hCl:C.length=130:=by rw [hC,sealL_len',hPl]
 have hCb:IsB C:=by rw [hC]; exact sealL_isB _ _ _ _
 obtain ⟨A0_,hA0_⟩:∃ S_,S_=fl [bw Ky,[.bool f]]:=⟨_,rfl⟩
 rw [← hA0_]
 replace hA0_:=hide hA0_
 obtain ⟨A2_,hA2_⟩:∃ S_,S_=fl [[.int .i64 k],[.int .u32 a],[.int .u32 s],bw B]:=⟨_,rfl⟩
 rw [← hA2_]
 replace hA2_:=hide hA2_
 replace hY:=hide hY
 replace hN:=hide hN
 replace hD:=hide hD
 replace hF:=hide hF
 replace hKb:=hide hKb
 replace hYb:=hide hYb
 replace hNb:=hide hNb
 replace hDb:=hide hDb
 replace he:=hide he
 replace hP:=hide hP
 replace hC:=hide hC
 replace hPb:=hide hPb
 replace hCb:=hide hCb
 replace hBb:=hide hBb
 go_enter Tryz.func7,Tryz.ntmps7
 go_upto_region 1 with fail
 have hB:=((((Bl.nil w).new A0_ 25).new A2_ 30).new (fl [bw Z16,bw Z130]) 36)
 simp only [size_alloc,List.nil_append,List.cons_append] at hB
 rw [unhide hA0_,unhide hA2_] at hB
 generalize hu_:World.alloc _ _=u0
 replace hB:Bl w [⟨w.heap.size,fl [bw Ky,[.bool f]],25⟩,⟨w.heap.size+1,fl [[.int .i64 k],[.int .u32 a],[.int .u32 s],bw B],30⟩,⟨w.heap.size+1+1,fl [bw Z16,bw Z130],36⟩] u0:=by
  rw [← hu_]
  rw [unhide hA0_,unhide hA2_]
  exact hB
 clear hu_ hA0_ hA2_
 refine wp_region_lit ?_
 refine lvk (.int .u64 r) ?_
 simp only [nrm]
 refine list_val (.bool false) (by kernel_rfl) (eql_64 _ (.tmp 12) (.const (.int .u64 0)) r 0 false rfl (by kernel_rfl) (by kernel_rfl) (decide_eq_false hr0)) ?_
 simp only [nrm]
 refine wpList_nil ?_
 replace hB:=hide hB
 go_upto_region 3 with fail
 replace hB:=unhide hB
 refine wp_region_lit ?_
 refine list_val (.agg (fl [[.int .i64 k],[.int .u32 a],[.int .u32 s],bw B])) (by kernel_rfl) (exec_sw _ 30 (.tmp 5) rfl (w.heap.size+1) (by kernel_rfl) (hB.get 1 (x:=⟨w.heap.size+1,fl [[.int .i64 k],[.int .u32 a],[.int .u32 s],bw B],30⟩) rfl) NE (nE hB0 _ _ _) Tryz.underlying30 rfl (by kernel_rfl)) ?_
 simp only [nrm]
 refine list_call 21 #[.agg (fl [[.int .i64 k],[.int .u32 a],[.int .u32 s],bw B])] (by kernel_rfl) (by kernel_rfl) ((((show Calls Tryz.prog 21 #[.agg (fl [[.int .i64 k],[.int .u32 a],[.int .u32 s],bw B])] u0 (Pok P u0) from by rw [unhide hP]; exact putef_ok k a s B hB0 (unhide hBb) ha hs (unhide he) u0).mono fun _ _ h=>okx_pok h hB.gr.size)).mono ?_)
 rintro r_ u1 ⟨v1,rfl,ho,hg⟩
 replace hB:=hB.more hg
 clear hg
 obtain ⟨a1,c1,rfl,lp⟩:=ho.lb' (unhide hPb) 114 hPl
 clear ho
 replace lp:=hide lp
 have hs1:Hid (Sn u1 u1):=Gr.refl _
 refine ⟨_,rfl,?_⟩
 simp only [nrm]
 refine lvk (.tuple #[.slice a1 114 c1,.int .i64 0]) ?_
 simp only [nrm]
 refine lvk (.slice a1 114 c1) ?_
 simp only [nrm]
 refine lvk (.int .i64 0) ?_
 simp only [nrm]
 (refine wpList_step fun K hK=>?_; replace hK:=hide hK; go_simp; refine unhide hK _ _ ?_; clear hK K)
 (refine wpList_step fun K hK=>?_; replace hK:=hide hK; go_simp; refine unhide hK _ _ ?_; clear hK K)
 refine wpList_nil ?_
 replace hB:=hide hB
 go_upto_region 4 with fail
 replace hB:=unhide hB
 refine wp_region_lit ?_
 refine lvk (.int .i64 0) ?_
 simp only [nrm]
 refine list_val (.bool false) (by kernel_rfl) (neq_e _ (.tmp 20) (.const (.int .i64 0)) 0 0 false rfl (by kernel_rfl) (by kernel_rfl) (by decide)) ?_
 simp only [nrm]
 refine wpList_nil ?_
 replace hB:=hide hB
 go_upto_region 6 with fail
 replace hB:=unhide hB
 refine wp_region_lit ?_
 refine list_val (.agg (fl [bw Ky,[.bool f]])) (by kernel_rfl) (exec_sw _ 25 (.tmp 3) rfl (w.heap.size) (by kernel_rfl) (hB.get 0 (x:=⟨w.heap.size,fl [bw Ky,[.bool f]],25⟩) rfl) NP (nP hKy _) Tryz.underlying25 rfl (by kernel_rfl)) ?_
 simp only [nrm]
 refine lvk (.int .u64 r) ?_
 simp only [nrm]
 refine list_call 22 #[.agg (fl [bw Ky,[.bool f]]),.int .u64 r,.int .i64 0] (by kernel_rfl) (by kernel_rfl) ((terms_peer r hr Ky hKy (unhide hKb) f Y N D u1 ((unhide hF).gr hB.gr) (unhide hY) (unhide hN) (unhide hD)).mono ?_)
 rintro r_ u2 ⟨rfl,hg⟩
 replace hs1:=hide ((unhide hs1).gr hg)
 replace hB:=hB.more hg
 clear hg
 refine ⟨_,rfl,?_⟩
 simp only [nrm]
 have hge_hs1_10:=(unhide hs1).size
 refine list_valw (.pointer (some ⟨u2.heap.size,0,none⟩)) (u2.alloc (.cells (fl [bw Z32,bw ZN,bw Z16]) 66 (0,0))) (by kernel_rfl) (by kernel_rfl) ?_
 replace hB:=hB.new (fl [bw Z32,bw ZN,bw Z16]) 66
 simp only [List.nil_append,List.cons_append] at hB
 have hg:=(Gr.refl u2).alloc (.cells (fl [bw Z32,bw ZN,bw Z16]) 66 (0,0))
 replace hs1:=hide ((unhide hs1).gr hg)
 clear hg
 generalize World.alloc _ _=u3 at *
 generalize u2.heap.size=g10 at *
 replace hB:Bl w [⟨w.heap.size,fl [bw Ky,[.bool f]],25⟩,⟨w.heap.size+1,fl [[.int .i64 k],[.int .u32 a],[.int .u32 s],bw B],30⟩,⟨w.heap.size+1+1,fl [bw Z16,bw Z130],36⟩,⟨g10,fl [bw Z32,bw ZN,bw Z16],66⟩] u3:=hB
 simp only [nrm]
 have hzz_:Hid (u3.heap[g10]?=some (.cells (fl [bw Z32,bw ZN,bw Z16]) 66 (0,0))):=hide (hB.get 3 (x:=⟨g10,fl [bw Z32,bw ZN,bw Z16],66⟩) rfl)
 refine list_all 66 (.tmp 10) (.tmp 26) (g10) (S2:=[bw Y,bw N,bw D]) (by kernel_rfl) rfl (by kernel_rfl) (by kernel_rfl) hB 3 rfl NTm (nT (show List.length Z32=32 from rfl) (show List.length ZN=12 from rfl) (show List.length Z16=16 from rfl)) (nT hYl hNl hDl) (by kernel_rfl) (oT _ _ _) ?_
 intro u4 hB_ hbt_
 clear hB
 replace hB:Bl w [⟨w.heap.size,fl [bw Ky,[.bool f]],25⟩,⟨w.heap.size+1,fl [[.int .i64 k],[.int .u32 a],[.int .u32 s],bw B],30⟩,⟨w.heap.size+1+1,fl [bw Z16,bw Z130],36⟩,⟨g10,fl [bw Y,bw N,bw D],66⟩] u4:=hB_
 clear hB_
 replace hs1:=hide ((unhide hs1).bt hbt_ hge_hs1_10)
 clear hbt_ hzz_
 simp only [nrm]
 refine wpList_nil ?_
 replace hB:=hide hB
 go_upto_region 7 with fail
 replace hB:=unhide hB
 refine wp_region_lit ?_
 refine lvk (.pointer (some ⟨g10,44,none⟩)) ?_
 simp only [nrm]
 refine list_val (.agg (kc D)) (by kernel_rfl) (exec_sa _ 33 (.tmp 27) rfl (g10) 44 (by kernel_rfl) (hB.get 3 (x:=⟨g10,fl [bw Y,bw N,bw D],66⟩) rfl) NTm (nT hYl hNl hDl) 2 D rfl rfl Tryz.underlying33 rfl (n:=16) rfl Tryz.infoDrop) ?_
 simp only [nrm]
 refine list_val (.agg (fl [bw D,bw Z130])) (by kernel_rfl) (bX0 _ (.tmp 28) rfl hDl (by kernel_rfl)) ?_
 simp only [nrm]
 have hge_hs1_11:=(unhide hs1).size
 refine list_valw (.pointer (some ⟨u4.heap.size,0,none⟩)) (u4.alloc (.cells (fl [bw Z16,bw Z130]) 36 (0,0))) (by kernel_rfl) (by kernel_rfl) ?_
 replace hB:=hB.new (fl [bw Z16,bw Z130]) 36
 simp only [List.nil_append,List.cons_append] at hB
 have hg:=(Gr.refl u4).alloc (.cells (fl [bw Z16,bw Z130]) 36 (0,0))
 replace hs1:=hide ((unhide hs1).gr hg)
 clear hg
 generalize World.alloc _ _=u5 at *
 generalize u4.heap.size=g11 at *
 replace hB:Bl w [⟨w.heap.size,fl [bw Ky,[.bool f]],25⟩,⟨w.heap.size+1,fl [[.int .i64 k],[.int .u32 a],[.int .u32 s],bw B],30⟩,⟨w.heap.size+1+1,fl [bw Z16,bw Z130],36⟩,⟨g10,fl [bw Y,bw N,bw D],66⟩,⟨g11,fl [bw Z16,bw Z130],36⟩] u5:=hB
 simp only [nrm]
 have hzz_:Hid (u5.heap[g11]?=some (.cells (fl [bw Z16,bw Z130]) 36 (0,0))):=hide (hB.get 4 (x:=⟨g11,fl [bw Z16,bw Z130],36⟩) rfl)
 refine list_all 36 (.tmp 11) (.tmp 29) (g11) (S2:=[bw D,bw Z130]) (by kernel_rfl) rfl (by kernel_rfl) (by kernel_rfl) hB 4 rfl NX (nX (show List.length Z16=16 from rfl) (show List.length Z130=130 from rfl)) (nX hDl (show List.length Z130=130 from rfl)) (by kernel_rfl) (oX _ _) ?_
 intro u6 hB_ hbt_
 clear hB
 replace hB:Bl w [⟨w.heap.size,fl [bw Ky,[.bool f]],25⟩,⟨w.heap.size+1,fl [[.int .i64 k],[.int .u32 a],[.int .u32 s],bw B],30⟩,⟨w.heap.size+1+1,fl [bw Z16,bw Z130],36⟩,⟨g10,fl [bw Y,bw N,bw D],66⟩,⟨g11,fl [bw D,bw Z130],36⟩] u6:=hB_
 clear hB_
 replace hs1:=hide ((unhide hs1).bt hbt_ hge_hs1_11)
 clear hbt_ hzz_
 simp only [nrm]
 refine wpList_nil ?_
 replace hB:=hide hB
 go_upto_region 8 with fail
 replace hB:=unhide hB
 refine any_start (S:=fun v_=>v_.heap[g10]?=some (.cells (fl [bw Y,bw N,bw D]) 66 (0,0))) (by kernel_rfl) ?_
 replace hs1:=hide ((unhide hs1).gr ((Gr.refl u6).drew))
 replace hB:=hB.drew
 generalize World.drew _=u7 at *
 simp only [List.size_toArray,List.length_cons,List.length_nil,Array.replicate,List.replicate]
 have hS_:=hide (show (fun v_=>v_.heap[g10]?=some (.cells (fl [bw Y,bw N,bw D]) 66 (0,0))) u7 from (hB.get 3 (x:=⟨g10,fl [bw Y,bw N,bw D],66⟩) rfl))
 refine any_tk 0 (.pointer (some ⟨g11,16,none⟩)) (tf 6 0) rfl (fun x_ hu=>by kernel_rfl) (unhide hS_) ?_
 simp only [nrm]
 refine any_tk 1 (.slice (some ⟨g11,16,none⟩) 130 130) (tf 6 1) rfl (fun x_ hu=>by kernel_rfl) (unhide hS_) ?_
 simp only [nrm]
 refine any_tk 2 (.agg (fl [bw Y,bw N,bw D])) (tf 6 2) rfl (fun x_ hu=>exec_sw _ 66 (.tmp 10) rfl (g10) (by kernel_rfl) hu NTm (nT hYl hNl hDl) Tryz.underlying66 rfl (by kernel_rfl)) (unhide hS_) ?_
 simp only [nrm]
 refine any_tk 3 (.slice a1 114 c1) (tf 6 3) rfl (fun x_ hu=>by kernel_rfl) (unhide hS_) ?_
 simp only [nrm]
 refine any_one (i:=4) (by kernel_rfl) rfl (fun K hK=>?_)
 refine step_callw (by kernel_rfl) 23 #[.agg (fl [bw Y,bw N,bw D]),.slice a1 114 c1] (by kernel_rfl) ((((show Calls Tryz.prog 23 #[.agg (fl [bw Y,bw N,bw D]),.slice a1 114 c1] u7 (Obd C u7) from by rw [unhide hC]; exact vseal_ok Y N D hYl hNl hDl (unhide hYb) (unhide hNb) (unhide hDb) P a1 114 c1 (by decide) u7 ((unhide lp).gr (unhide hs1).g)).mono fun _ _ h=>obx_of h hB.gr.size)).mono ?_)
 rintro r_ u8 ⟨v2,rfl,ho,hg⟩
 replace hs1:=hide ((unhide hs1).gr hg)
 replace hB:=hB.more hg
 clear hg
 obtain ⟨a2,c2,rfl,l2⟩:=ho.lb' (unhide hCb) 130 hCl
 clear ho
 replace l2:=hide l2
 refine ⟨_,rfl,?_⟩
 clear hS_
 have hS_:=hide (show (fun v_=>v_.heap[g10]?=some (.cells (fl [bw Y,bw N,bw D]) 66 (0,0))) u8 from (hB.get 3 (x:=⟨g10,fl [bw Y,bw N,bw D],66⟩) rfl))
 refine hK.out _ _ (unhide hS_) (fun _=>?_)
 clear hK K
 simp only [nrm]
 refine any_one (i:=5) (by kernel_rfl) rfl (fun K hK=>?_)
 rw [if_pos (by kernel_rfl)]
 refine copy_wp (.tmp 31) (.tmp 34) rfl (g11) 16 130 130 (a2) 130 c2 (by kernel_rfl) (by kernel_rfl) ([bw D,bw Z130].flatten) 36 (hB.get 4 (x:=⟨g11,fl [bw D,bw Z130],36⟩) rfl) C (by rw [hCl]; rfl) ((unhide l2).sl) (by rw [fl_flat (nX hDl (show List.length Z130=130 from rfl)),hCl]; decide) ?_
 replace hB:=hB.cells 4 (C:=([bw D,bw Z130].flatten)) rfl 16 (bw C)
 rw [show 16=(List.take 1 NX).sum from rfl,seg_set (nX hDl (show List.length Z130=130 from rfl)) 1 (bw C) (by rw [bw_len,hCl]; rfl)] at hB
 simp only [List.set_cons_zero,List.set_cons_succ] at hB
 replace hs1:=hide ((unhide hs1).bt (setCells_bt (List.map (Value.int .u8) C) u8 g11 16) hge_hs1_11)
 replace hB:Bl w [⟨w.heap.size,fl [bw Ky,[.bool f]],25⟩,⟨w.heap.size+1,fl [[.int .i64 k],[.int .u32 a],[.int .u32 s],bw B],30⟩,⟨w.heap.size+1+1,fl [bw Z16,bw Z130],36⟩,⟨g10,fl [bw Y,bw N,bw D],66⟩,⟨g11,fl [bw D,bw C],36⟩] (World.setCells u8 g11 16 (List.map (Value.int .u8) C)):=hB
 generalize World.setCells u8 g11 16 (List.map (Value.int .u8) C)=u9 at *
 clear hS_
 have hS_:=hide (show (fun v_=>v_.heap[g10]?=some (.cells (fl [bw Y,bw N,bw D]) 66 (0,0))) u9 from (hB.get 3 (x:=⟨g10,fl [bw Y,bw N,bw D],66⟩) rfl))
 refine hK.out _ _ (unhide hS_) (fun _=>?_)
 clear hK K
 simp only [nrm]
 refine any_done (by kernel_rfl) ?_
 clear hS_
 replace hB:=hide hB
 go_upto_region 9 with fail
 replace hB:=unhide hB
 refine wp_region_lit ?_
 refine list_val (.agg (fl [bw D,bw C])) (by kernel_rfl) (exec_sw _ 36 (.tmp 11) rfl (g11) (by kernel_rfl) (hB.get 4 (x:=⟨g11,fl [bw D,bw C],36⟩) rfl) NX (nX hDl hCl) Tryz.underlying36 rfl (by kernel_rfl)) ?_
 simp only [nrm]
 refine list_all 36 (.tmp 6) (.tmp 36) (w.heap.size+1+1) (S2:=[bw D,bw C]) (by kernel_rfl) rfl (by kernel_rfl) (by kernel_rfl) hB 2 rfl NX (nX (show List.length Z16=16 from rfl) (show List.length Z130=130 from rfl)) (nX hDl hCl) (by kernel_rfl) (oX _ _) ?_
 intro u10 hB_ hbt_
 clear hB
 replace hB:Bl w [⟨w.heap.size,fl [bw Ky,[.bool f]],25⟩,⟨w.heap.size+1,fl [[.int .i64 k],[.int .u32 a],[.int .u32 s],bw B],30⟩,⟨w.heap.size+1+1,fl [bw D,bw C],36⟩,⟨g10,fl [bw Y,bw N,bw D],66⟩,⟨g11,fl [bw D,bw C],36⟩] u10:=hB_
 clear hB_
 clear hbt_
 simp only [nrm]
 (refine wpList_step fun K hK=>?_; replace hK:=hide hK; go_simp; refine unhide hK _ _ ?_; clear hK K)
 refine wpList_nil ?_
 replace hB:=hide hB
 go_wp2_with fail
 replace hB:=unhide hB
 rw [unhide hT]
 exact bodyPost_ret (v:=.tuple #[.agg (fl [bw D,bw C]),.int .i64 0]) (res2 Tryz.results7 (rv_cell (by kernel_rfl) (hB.get 2 (x:=⟨w.heap.size+1+1,fl [bw D,bw C],36⟩) rfl) Tryz.underlying36 rfl (by rw [fl_size (nX hDl hCl)]; kernel_rfl)) (rv_tmp (by kernel_rfl))) rfl (⟨rfl,hB.gr⟩)
set_option maxHeartbeats 4000000 in
theorem vread_ok (Ky:List Int) (hKy:Ky.length=32) (hKb:IsB Ky) (f:Bool) (r:Int) (hr:0≤r) (s:Option Addr) (n c:Nat) (hn:n≤20000) (Y N D L:List Int) (P:List Int) (ek ea es:Int) (eB:List Int) (w:World) (hF:Fst w) (hu:∀ u,Gr w u→Calls Tryz.prog 29 #[.int .u64 r,.slice s n c] u (Vl (.int .i64 0) u)) (hY:Y=rkL r Ky f false) (hN:N=cntL r) (hD:D=drL r Ky) (lp:Lb w s n c L) (hPl:P.length=114) (hPb:IsB P) (hL:L=sealL Y N D P) (he:evRO P=true) (hev:evS P=[[.int .i64 ek],[.int .u32 ea],[.int .u32 es],bw eB]) (heB:eB.length=105):Calls Tryz.prog 10 #[.agg (fl [bw Ky,[.bool f]]),.int .u64 r,.slice s n c] w (Vl (.tuple #[.agg (fl [[.int .i64 ek],[.int .u32 ea],[.int .u32 es],bw eB]),.int .i64 0]) w):=by
 obtain ⟨T,hT⟩:∃ T:Ending→World→Prop,T=(Vl (.tuple #[.agg (fl [[.int .i64 ek],[.int .u32 ea],[.int .u32 es],bw eB]),.int .i64 0]) w):=⟨_,rfl⟩
 rw [← hT]
 replace hT:=hide hT
 have hYl:Y.length=32:=by rw [hY]; exact rkL_len _ _ _ _
 have hNl:N.length=12:=by rw [hN]; exact cntL_len _
 have hDl:D.length=16:=by rw [hD]; exact drL_len _ _
 have hYb:IsB Y:=by rw [hY]; exact rkL_isB _ _ _ _
 have hNb:IsB N:=by rw [hN]; exact cntL_isB _
 have hDb:IsB D:=by rw [hD]; exact drL_isB _ _
 obtain ⟨A0_,hA0_⟩:∃ S_,S_=fl [bw Ky,[.bool f]]:=⟨_,rfl⟩
 rw [← hA0_]
 replace hA0_:=hide hA0_
 replace hY:=hide hY
 replace hN:=hide hN
 replace hD:=hide hD
 replace hF:=hide hF
 replace hKb:=hide hKb
 replace hYb:=hide hYb
 replace hNb:=hide hNb
 replace hDb:=hide hDb
 replace hu:=hide hu
 replace lp:=hide lp
 replace hPb:=hide hPb
 replace hL:=hide hL
 replace he:=hide he
 replace hev:=hide hev
 go_enter Tryz.func10,Tryz.ntmps10
 go_upto_region 1 with fail
 have hB:=(((Bl.nil w).new A0_ 25).new (fl [[.int .i64 0],[.int .u32 0],[.int .u32 0],bw Z105]) 30)
 simp only [size_alloc,List.nil_append,List.cons_append] at hB
 rw [unhide hA0_] at hB
 generalize hu_:World.alloc _ _=u0
 replace hB:Bl w [⟨w.heap.size,fl [bw Ky,[.bool f]],25⟩,⟨w.heap.size+1,fl [[.int .i64 0],[.int .u32 0],[.int .u32 0],bw Z105],30⟩] u0:=by
  rw [← hu_]
  rw [unhide hA0_]
  exact hB
 clear hu_ hA0_
 refine wp_region_lit ?_
 refine lvk (.int .u64 r) ?_
 simp only [nrm]
 refine lvk (.slice s n c) ?_
 simp only [nrm]
 refine list_call 29 #[.int .u64 r,.slice s n c] (by kernel_rfl) (by kernel_rfl) ((unhide hu u0 hB.gr).mono ?_)
 rintro r_ u1 ⟨rfl,hg⟩
 replace hB:=hB.more hg
 clear hg
 refine ⟨_,rfl,?_⟩
 simp only [nrm]
 (refine wpList_step fun K hK=>?_; replace hK:=hide hK; go_simp; refine unhide hK _ _ ?_; clear hK K)
 refine wpList_nil ?_
 replace hB:=hide hB
 go_upto_region 2 with fail
 replace hB:=unhide hB
 refine wp_region_lit ?_
 refine lvk (.int .i64 0) ?_
 simp only [nrm]
 refine list_val (.bool false) (by kernel_rfl) (neq_e _ (.tmp 14) (.const (.int .i64 0)) 0 0 false rfl (by kernel_rfl) (by kernel_rfl) (by decide)) ?_
 simp only [nrm]
 refine wpList_nil ?_
 replace hB:=hide hB
 go_upto_region 4 with fail
 replace hB:=unhide hB
 refine wp_region_lit ?_
 refine list_val (.agg (fl [bw Ky,[.bool f]])) (by kernel_rfl) (exec_sw _ 25 (.tmp 3) rfl (w.heap.size) (by kernel_rfl) (hB.get 0 (x:=⟨w.heap.size,fl [bw Ky,[.bool f]],25⟩) rfl) NP (nP hKy _) Tryz.underlying25 rfl (by kernel_rfl)) ?_
 simp only [nrm]
 refine lvk (.int .u64 r) ?_
 simp only [nrm]
 refine list_call 22 #[.agg (fl [bw Ky,[.bool f]]),.int .u64 r,.int .i64 1] (by kernel_rfl) (by kernel_rfl) ((terms_me r hr Ky hKy (unhide hKb) f Y N D u1 ((unhide hF).gr hB.gr) (unhide hY) (unhide hN) (unhide hD)).mono ?_)
 rintro r_ u2 ⟨rfl,hg⟩
 replace hB:=hB.more hg
 clear hg
 refine ⟨_,rfl,?_⟩
 simp only [nrm]
 refine lvk (.slice s n c) ?_
 simp only [nrm]
 refine list_call 30 #[.agg (fl [bw Y,bw N,bw D]),.slice s n c] (by kernel_rfl) (by kernel_rfl) ((((vopen_yes Y N D hYl hNl hDl (unhide hYb) (unhide hNb) (unhide hDb) P s n c hn u2 (unhide hPb) (show Lb u2 s n c (sealL Y N D P) from (unhide hL) ▸ (unhide lp).gr hB.gr)).mono fun _ _ h=>okx_pok h hB.gr.size)).mono ?_)
 rintro r_ u3 ⟨v1,rfl,ho,hg⟩
 replace hB:=hB.more hg
 clear hg
 obtain ⟨a1,c1,rfl,l1⟩:=ho.lb' (unhide hPb) 114 hPl
 clear ho
 replace l1:=hide l1
 refine ⟨_,rfl,?_⟩
 simp only [nrm]
 refine lvk (.tuple #[.slice a1 114 c1,.int .i64 0]) ?_
 simp only [nrm]
 refine lvk (.slice a1 114 c1) ?_
 simp only [nrm]
 refine lvk (.int .i64 0) ?_
 simp only [nrm]
 (refine wpList_step fun K hK=>?_; replace hK:=hide hK; go_simp; refine unhide hK _ _ ?_; clear hK K)
 (refine wpList_step fun K hK=>?_; replace hK:=hide hK; go_simp; refine unhide hK _ _ ?_; clear hK K)
 refine wpList_nil ?_
 replace hB:=hide hB
 go_upto_region 5 with fail
 replace hB:=unhide hB
 refine wp_region_lit ?_
 refine lvk (.int .i64 0) ?_
 simp only [nrm]
 refine list_val (.bool false) (by kernel_rfl) (neq_e _ (.tmp 26) (.const (.int .i64 0)) 0 0 false rfl (by kernel_rfl) (by kernel_rfl) (by decide)) ?_
 simp only [nrm]
 refine wpList_nil ?_
 replace hB:=hide hB
 go_upto_region 7 with fail
 replace hB:=unhide hB
 refine wp_region_lit ?_
 refine lvk (.slice a1 114 c1) ?_
 simp only [nrm]
 refine list_call 31 #[.slice a1 114 c1] (by kernel_rfl) (by kernel_rfl) (((show Calls Tryz.prog 31 #[.slice a1 114 c1] u3 (Vl (.tuple #[.agg (fl [[.int .i64 ek],[.int .u32 ea],[.int .u32 es],bw eB]),.int .i64 0]) u3) from by rw [← unhide hev]; exact getef_ok P a1 c1 u3 (unhide l1) (unhide he))).mono ?_)
 rintro r_ u4 ⟨rfl,hg⟩
 replace l1:=hide ((unhide l1).gr hg)
 replace hB:=hB.more hg
 clear hg
 refine ⟨_,rfl,?_⟩
 simp only [nrm]
 refine lvk (.agg (fl [[.int .i64 ek],[.int .u32 ea],[.int .u32 es],bw eB])) ?_
 simp only [nrm]
 refine lvk (.int .i64 0) ?_
 simp only [nrm]
 refine list_all 30 (.tmp 6) (.tmp 32) (w.heap.size+1) (S2:=[[.int .i64 ek],[.int .u32 ea],[.int .u32 es],bw eB]) (by kernel_rfl) rfl (by kernel_rfl) (by kernel_rfl) hB 1 rfl NE (nE (show List.length Z105=105 from rfl) _ _ _) (nE heB _ _ _) (by kernel_rfl) (oE _ rfl rfl rfl) ?_
 intro u5 hB_ hbt_
 clear hB
 replace hB:Bl w [⟨w.heap.size,fl [bw Ky,[.bool f]],25⟩,⟨w.heap.size+1,fl [[.int .i64 ek],[.int .u32 ea],[.int .u32 es],bw eB],30⟩] u5:=hB_
 clear hB_
 clear hbt_
 simp only [nrm]
 (refine wpList_step fun K hK=>?_; replace hK:=hide hK; go_simp; refine unhide hK _ _ ?_; clear hK K)
 refine wpList_nil ?_
 replace hB:=hide hB
 go_wp2_with fail
 replace hB:=unhide hB
 rw [unhide hT]
 exact bodyPost_ret (v:=.tuple #[.agg (fl [[.int .i64 ek],[.int .u32 ea],[.int .u32 es],bw eB]),.int .i64 0]) (res2 Tryz.results10 (rv_cell (by kernel_rfl) (hB.get 1 (x:=⟨w.heap.size+1,fl [[.int .i64 ek],[.int .u32 ea],[.int .u32 es],bw eB],30⟩) rfl) Tryz.underlying30 rfl (by rw [fl_size (nE heB _ _ _)]; kernel_rfl)) (rv_tmp (by kernel_rfl))) rfl (⟨rfl,hB.gr⟩)
end Go.Proofs.YthahhglbeafkmaaGreatDoor
