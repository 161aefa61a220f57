/-
  What the proof leans on.
-/
import Derived.Laws.StructEq
import Derived.Great.BuildSlice
import Derived.ScopeJumps
import Derived.WalkMore
import Derived.Test.YthahhglbeafkmaaGreatDoorMK11
namespace Go.Proofs.YthahhglbeafkmaaGreatDoor
open Go.RowKit
set_option maxRecDepth 100000
set_option linter.unusedSimpArgs false
set_option linter.unusedVariables false
def bw (b:List Int):List Value:=b.map (Value.int .u8)
theorem bw_len (b:List Int):(bw b).length=b.length:=by unfold bw; simp
theorem bw_one (b:List Int):(bw b).toArray.all (·.oneCell')=true:=by unfold bw; simp [Value.oneCell']
def fl (S:List (List Value)):Array Value:=S.flatten.toArray
theorem fl_split {S:List (List Value)} {i:Nat} {s:List Value} (h:S[i]?=some s):S.flatten=(S.take i).flatten++(s++(S.drop (i+1)).flatten):=by
 have e:S=S.take i++(s::S.drop (i+1)):=by
  have h1:i<S.length:=(List.getElem?_eq_some_iff.1 h).1
  have h2:=(List.getElem?_eq_some_iff.1 h).2
  rw [← h2,← List.drop_eq_getElem_cons h1,List.take_append_drop]
 conv=>lhs; rw [e]
 simp
theorem plen:∀ (S:List (List Value)) (N:List Nat),S.map List.length=N→∀ i,(S.take i).flatten.length=(N.take i).sum
 | [],N,h,i=>by subst h; simp
 | s::S,N,h,0=>by simp
 | s::S,N,h,i+1=>by
  subst h
  simp only [List.take_succ_cons,List.flatten_cons,List.length_append,List.map_cons,List.sum_cons]
  rw [plen S _ rfl i]
theorem fl_size {S:List (List Value)} {N:List Nat} (h:S.map List.length=N):(fl S).size=N.sum:=by
 have h1:=plen S N h S.length
 rw [List.take_length] at h1
 have:N.take S.length=N:=List.take_of_length_le (by rw [← h]; simp)
 rw [this] at h1
 unfold fl
 simpa using h1
theorem seg_range {S:List (List Value)} {N:List Nat} (hN:S.map List.length=N) {w:World} {g:Nat} {t:TypeId} (h:w.heap[g]?=some (.cells (fl S) t (0,0))) (i:Nat) {s:List Value} (hi:S[i]?=some s) {o:Nat} (ho:(N.take i).sum=o):w.rangeAt g o s:=fun j x hj=>by
 refine cell_of h ?_
 have hlt:=(List.getElem?_eq_some_iff.1 hj).1
 have hp:=plen S N hN i
 unfold fl
 rw [List.getElem?_toArray,fl_split hi,List.getElem?_append_right (by omega),List.getElem?_append_left (by omega),← hj]
 congr 1
 omega
theorem seg_cell {S:List (List Value)} {N:List Nat} (hN:S.map List.length=N) {w:World} {g:Nat} {t:TypeId} (h:w.heap[g]?=some (.cells (fl S) t (0,0))) (i:Nat) {v:Value} (hi:S[i]?=some [v]) {o:Nat} (ho:(N.take i).sum=o):w.cell? ⟨g,o,none⟩=some v :=
 seg_range hN h i hi ho 0 v rfl
theorem exec_sw {op:Oper} {a:Act} (w:World) (ty:TypeId) (x:Operand) (ho:op.op=.load ty x) (g:Nat) (hx:a.eval x=.pointer (some ⟨g,0,none⟩)) {S:List (List Value)} {t:TypeId} (h:w.heap[g]?=some (.cells (fl S) t (0,0))) (N:List Nat) (hN:S.map List.length=N) {d:TypeDesc} (hu:Tryz.prog.underlying ty=some d) (hd:d.isRow=true) (hi:(Tryz.prog.info? ty).map (·.size)=some N.sum) :
  (execOp a.eval op).run Tryz.prog w=.ok (.value (.agg (fl S))) w :=
 exec_arr w ty x ho g hx (fl S) t d h hu hd (by rw [hi,fl_size hN])
theorem exec_c32 {op:Oper} {a:Act} (w:World) (x:Operand) (ho:op.op=.load 27 x) (g i:Nat) (hx:a.eval x=.pointer (some ⟨g,i,none⟩)) (v:Int) (hc:w.cell? ⟨g,i,none⟩=some (.int .u32 v)):(execOp a.eval op).run Tryz.prog w=.ok (.value (.int .u32 v)) w:=by
 unfold execOp
 simp only [ho,hx,Instr.loadAt,Instr.sureAddr,Sem.run_bind,Sem.run_pure,Result.andThen_ok]
 go_simp
theorem exec_cb {op:Oper} {a:Act} (w:World) (x:Operand) (ho:op.op=.load 4 x) (g i:Nat) (hx:a.eval x=.pointer (some ⟨g,i,none⟩)) (v:Bool) (hc:w.cell? ⟨g,i,none⟩=some (.bool v)):(execOp a.eval op).run Tryz.prog w=.ok (.value (.bool v)) w:=by
 unfold execOp
 simp only [ho,hx,Instr.loadAt,Instr.sureAddr,Sem.run_bind,Sem.run_pure,Result.andThen_ok]
 go_simp
theorem fold_mid (off:Nat):∀ (vs A M D:List Value) (k:Nat),A.length=off+k→vs.length=M.length→(vs.zipIdx k).foldl (fun cs x=>cs.setIfInBounds (off+x.2) x.1) (A++(M++D)).toArray=(A++(vs++D)).toArray
 | [],A,[],D,_,_,_=>by simp
 | [],_,_::_,_,_,_,h=>by simp at h
 | _::_,_,[],_,_,_,h=>by simp at h
 | v::vs,A,m::M,D,k,hA,h=>by
  rw [List.zipIdx_cons,List.foldl_cons]
  have e:(A++(m::M++D)).toArray.setIfInBounds (off+k) v=((A++[v])++(M++D)).toArray:=by
   rw [List.setIfInBounds_toArray,← hA]
   simp
  show List.foldl _ ((A++(m::M++D)).toArray.setIfInBounds (off+k) v) _=_
  rw [e,fold_mid off vs (A++[v]) M D (k+1) (by simp [hA]; omega) (by simpa using h)]
  simp
theorem seg_set {S:List (List Value)} {N:List Nat} (hN:S.map List.length=N) (i:Nat) (vs:List Value) (hi:N[i]?=some vs.length):sp S.flatten (N.take i).sum vs=(S.set i vs).flatten:=by
 have hl:i<S.length:=by
  have:=(List.getElem?_eq_some_iff.1 hi).1
  rw [← hN] at this
  simpa using this
 have hs:S[i]?=some S[i]:=List.getElem?_eq_getElem hl
 have hvl:vs.length=(S[i]).length:=by
  have h1:=congrArg (·[i]?) hN
  simp only [List.getElem?_map,hs,hi,Option.map_some,Option.some.injEq] at h1
  exact h1.symm
 have hp:=plen S N hN i
 rw [fl_split hs,← hp,sp_mid _ _ _ _ hvl]
 have h2:(S.set i vs)[i]?=some vs:=by rw [List.getElem?_set_self hl]
 rw [fl_split h2,List.take_set_of_le (Nat.le_refl _),List.drop_set_of_lt (Nat.lt_succ_self _)]
theorem Bl.cells {w v:World} {L:List Blk} (h:Bl w L v) (b:Nat) {g:Nat} {C:List Value} {t:TypeId} (hb:L[b]?=some ⟨g,C.toArray,t⟩) (o:Nat) (vs:List Value):Bl w (L.set b ⟨g,(sp C o vs).toArray,t⟩) (v.setCells g o vs) :=
 h.but (setCells_bt vs v g o) b hb rfl (setCells_heap vs v g o C t (h.get b hb))
section
variable {N:List Nat} {ops:Array Oper} {Q:Exit→Act→World→Prop} {a:Act} {w w0:World} {o:Oper} {rest:List Oper} {L:List Blk} {S:List (List Value)} {t:TypeId} {K:Act→World→Prop}
theorem step_seg (ty:TypeId) (x y:Operand) (g off:Nat) (vs:List Value) (hw:Region.wanted o (yielded ops a.tmps)=true) (ho:o.op=.store ty x y)
  (hx:a.eval x=.pointer (some ⟨g,off,none⟩)) (hy:a.eval y=.agg vs.toArray) (hB:Bl w0 L w) (b:Nat) (hb:L[b]?=some ⟨g,fl S,t⟩) (N:List Nat) (hN:S.map List.length=N) (i:Nat) (hi:N[i]?=some vs.length) (hof:(N.take i).sum=off)
  (hn:(Tryz.prog.info? ty).map (·.size)=some vs.length) (h1:vs.toArray.all (·.oneCell')=true)
  (h:∀ v,Bl w0 (L.set b ⟨g,fl (S.set i vs),t⟩) v→Bt g w v→K (a.put o.dst undef) v):if Region.wanted o (yielded ops a.tmps)=true then Oper.wp Tryz.prog o a w K Q else K (a.put o.dst undef) w:=by
 have hB2:=hB.cells b (C:=S.flatten) hb off vs
 rw [← hof,seg_set hN i vs hi] at hB2
 have hl:i<N.length:=(List.getElem?_eq_some_iff.1 hi).1
 have hle:off+vs.length≤S.flatten.length:=by
  have e1:=fl_size hN
  have e2:(N.take (i+1)).sum=(N.take i).sum+vs.length:=by
   rw [List.take_add_one,hi]; simp
  have e3:(N.take (i+1)).sum≤N.sum:=by
   conv=>rhs; rw [← List.take_append_drop (i+1) N,List.sum_append]
   omega
  have e4:(fl S).size=S.flatten.length:=by unfold fl; simp
  omega
 refine list_store_mid ty x y g off vs.toArray hw ho hx hy (there_of (hB.get b hb) (by simpa using hle)) (by rw [hn]; simp) h1 ?_
 exact (h _ (by rw [← hof]; exact hB2) (setCells_bt _ _ _ _))
end
section
variable {N:List Nat} {ops:Array Oper} {Q:Exit→Act→World→Prop} {a:Act} {w w0:World} {o:Oper} {rest:List Oper} {L:List Blk} {S:List (List Value)} {t:TypeId} {K:Act→World→Prop}
theorem list_seg (ty:TypeId) (x y:Operand) (g off:Nat) (vs:List Value) (hw:Region.wanted o (yielded ops a.tmps)=true) (ho:o.op=.store ty x y)
  (hx:a.eval x=.pointer (some ⟨g,off,none⟩)) (hy:a.eval y=.agg vs.toArray) (hB:Bl w0 L w) (b:Nat) (hb:L[b]?=some ⟨g,fl S,t⟩) (N:List Nat) (hN:S.map List.length=N) (i:Nat) (hi:N[i]?=some vs.length) (hof:(N.take i).sum=off)
  (hn:(Tryz.prog.info? ty).map (·.size)=some vs.length) (h1:vs.toArray.all (·.oneCell')=true)
  (h:∀ v,Bl w0 (L.set b ⟨g,fl (S.set i vs),t⟩) v→Bt g w v→wpList Tryz.prog ops Q rest (a.put o.dst undef) v):wpList Tryz.prog ops Q (o::rest) a w :=
 wpList_step fun K hK=>step_seg ty x y g off vs hw ho hx hy hB b hb N hN i hi hof hn h1 fun v hv hb=>hK _ _ (h v hv hb)
end
section
variable {N:List Nat} {ops:Array Oper} {Q:Exit→Act→World→Prop} {a:Act} {w w0:World} {o:Oper} {rest:List Oper} {L:List Blk} {S:List (List Value)} {t:TypeId} {K:Act→World→Prop}
end
section
variable {N:List Nat} {ops:Array Oper} {Q:Exit→Act→World→Prop} {a:Act} {w w0:World} {o:Oper} {rest:List Oper} {L:List Blk} {S:List (List Value)} {t:TypeId} {K:Act→World→Prop}
end
section
variable {N:List Nat} {ops:Array Oper} {Q:Exit→Act→World→Prop} {a:Act} {w w0:World} {o:Oper} {rest:List Oper} {L:List Blk} {S:List (List Value)} {t:TypeId} {K:Act→World→Prop}
end
theorem wpList_gen {P:Program} {ops:Array Oper} {Q:Exit→Act→World→Prop} {l:List Oper} {a:Act} {w:World} (h:∀ ops',ops'=ops→wpList P ops' Q l a w):wpList P ops Q l a w:=h ops rfl
theorem list_off {P:Program} {ops:Array Oper} {Q:Exit→Act→World→Prop} {a:Act} {w:World} {o:Oper} {rest:List Oper} (hw:Region.wanted o (yielded ops a.tmps)=false) (h:wpList P ops Q rest (a.put o.dst undef) w):wpList P ops Q (o::rest) a w:=by
 refine wpList_step fun K hK=>?_
 rw [if_neg (ne_true_of_eq_false hw)]
 exact hK _ _ h
theorem fill_seg {place:Nat→Option (Nat × Nat)} {S:List (List Value)} {N:List Nat} (hN:S.map List.length=N) {v:Value} {vs:List Value} (hv:v.cells=vs.toArray) (k i:Nat) (hp:place k=some ((N.take i).sum,vs.length)) (hi:N[i]?=some vs.length) (rest:List (Nat × Value)) :
  Instr.fill place (fl S) ((k,v)::rest)=Instr.fill place (fl (S.set i vs)) rest:=by
 have hl:i<S.length:=by
  have:=(List.getElem?_eq_some_iff.1 hi).1
  rw [← hN] at this
  simpa using this
 have hs:S[i]?=some S[i]:=List.getElem?_eq_getElem hl
 have hvl:vs.length=(S[i]).length:=by
  have h1:=congrArg (·[i]?) hN
  simp only [List.getElem?_map,hs,hi,Option.map_some,Option.some.injEq] at h1
  exact h1.symm
 have hp2:=plen S N hN i
 have e:=fold_mid ((N.take i).sum) vs (S.take i).flatten S[i] (S.drop (i+1)).flatten 0 (by omega) hvl
 have h2:(S.set i vs)[i]?=some vs:=by rw [List.getElem?_set_self hl]
 have e2:=fl_split h2
 rw [List.take_set_of_le (Nat.le_refl _),List.drop_set_of_lt (Nat.lt_succ_self _)] at e2
 rw [Instr.fill,hp,hv]
 simp only
 rw [if_neg]
 ·rw [show fl S=((S.take i).flatten++(S[i]++(S.drop (i+1)).flatten)).toArray from by unfold fl; rw [← fl_split hs]]
  have e3:(vs.toArray.zipIdx.foldl (fun cs (x:Value × Nat)=>cs.setIfInBounds ((N.take i).sum+x.2) x.1) ((S.take i).flatten++(S[i]++(S.drop (i+1)).flatten)).toArray)=(fl (S.set i vs)):=by
   unfold fl
   rw [e2,← e]
   simp
  rw [← e3]
 ·have e1:=fl_size hN
  have e4:(N.take (i+1)).sum=(N.take i).sum+vs.length:=by
   rw [List.take_add_one,hi]; simp
  have e5:(N.take (i+1)).sum≤N.sum:=by
   conv=>rhs; rw [← List.take_append_drop (i+1) N,List.sum_append]
   omega
  simp
  omega
theorem u8_one (x:Int):(Value.int .u8 x).oneCell'=true:=rfl
theorem step_all {ops:Array Oper} {Q:Exit→Act→World→Prop} {a:Act} {w w0:World} {o:Oper} {L:List Blk} {S S2:List (List Value)} {t:TypeId} {K:Act→World→Prop} (ty:TypeId) (x y:Operand) (g:Nat) (hw:Region.wanted o (yielded ops a.tmps)=true) (ho:o.op=.store ty x y)
  (hx:a.eval x=.pointer (some ⟨g,0,none⟩)) (hy:a.eval y=.agg (fl S2)) (hB:Bl w0 L w) (b:Nat) (hb:L[b]?=some ⟨g,fl S,t⟩) (N:List Nat) (hN:S.map List.length=N) (hN2:S2.map List.length=N)
  (hn:(Tryz.prog.info? ty).map (·.size)=some N.sum) (h1:(fl S2).all (·.oneCell')=true)
  (h:∀ v,Bl w0 (L.set b ⟨g,fl S2,t⟩) v→Bt g w v→K (a.put o.dst undef) v):if Region.wanted o (yielded ops a.tmps)=true then Oper.wp Tryz.prog o a w K Q else K (a.put o.dst undef) w:=by
 have hg:=hB.get b hb
 rw [if_pos hw]
 refine wp_store_row ty x y ho g (fl S2) hx hy t (fl S) hg (by rw [hn,fl_size hN2]) (by rw [fl_size hN,fl_size hN2]) h1 ?_
 exact h _ (hB.set b hb (fl S2)) ⟨setRow_os _ _ _,rfl,rfl,by simp [World.setRow],fun i _ hi=>setRow_other _ _ _ _ hi⟩
theorem list_all {ops:Array Oper} {Q:Exit→Act→World→Prop} {a:Act} {w w0:World} {o:Oper} {rest:List Oper} {L:List Blk} {S S2:List (List Value)} {t:TypeId} (ty:TypeId) (x y:Operand) (g:Nat) (hw:Region.wanted o (yielded ops a.tmps)=true) (ho:o.op=.store ty x y)
  (hx:a.eval x=.pointer (some ⟨g,0,none⟩)) (hy:a.eval y=.agg (fl S2)) (hB:Bl w0 L w) (b:Nat) (hb:L[b]?=some ⟨g,fl S,t⟩) (N:List Nat) (hN:S.map List.length=N) (hN2:S2.map List.length=N)
  (hn:(Tryz.prog.info? ty).map (·.size)=some N.sum) (h1:(fl S2).all (·.oneCell')=true)
  (h:∀ v,Bl w0 (L.set b ⟨g,fl S2,t⟩) v→Bt g w v→wpList Tryz.prog ops Q rest (a.put o.dst undef) v):wpList Tryz.prog ops Q (o::rest) a w :=
 wpList_step fun K hK=>step_all ty x y g hw ho hx hy hB b hb N hN hN2 hn h1 fun v hv hb=>hK _ _ (h v hv hb)
theorem exec_bld {a:Act} {o:Oper} (w:World) (t:TypeId) (ps:Array (Nat × Operand)) (vs:List (Nat × Value)) (ho:o.op=.build t ps) (hv:(ps.map fun p=>(p.1,a.eval p.2))=vs.toArray) (cs:Array Value) (h:Tryz.prog.built t vs=some cs):(execOp a.eval o).run Tryz.prog w=.ok (.value (.agg cs)) w:=by
 have h2:=run_build (P:=Tryz.prog) w t vs.toArray cs h
 rw [← hv] at h2
 unfold execOp
 simp only [ho,Sem.run_bind,h2,Result.andThen_ok,Sem.run_pure]
theorem fill_nil (place:Nat→Option (Nat × Nat)) (cs:Array Value):Instr.fill place cs []=some cs:=rfl
theorem exec_eqI {a:Act} {o:Oper} (w:World) (ty:TypeId) (x y:Operand) (ho:o.op=.binOp .eql ty x y ty) {q:IntKind} (hu:Tryz.prog.underlying ty=some (.int q)) (m n:Int) (hx:a.eval x=.int q m) (hy:a.eval y=.int q n) (b:Bool) (hb:decide (m=n)=b):(execOp a.eval o).run Tryz.prog w=.ok (.value (.bool b)) w:=by
 subst hb
 have e:(m == n)=decide (m=n):=by by_cases h:m=n <;> simp [h]
 unfold execOp
 simp only [ho,hx,hy]
 go_simp
def RvOk (P:Program) (tmps:Array Value) (w:World):ResultVar→Value→Prop
 | .cell p ty,v=>∃ a:Addr,tmps[p]?.getD undef=.pointer (some a)∧(loadVar ty a).run P w=.ok v w
 | .tmp q,v=>tmps[q]?.getD undef=v
theorem rv_cell {P:Program} {tmps:Array Value} {w:World} {p:Tmp} {ty t:TypeId} {g:Nat} {cs:Array Value} {d:TypeDesc} (hp:tmps.getD p undef=.pointer (some ⟨g,0,none⟩)) (hg:w.heap[g]?=some (.cells cs t (0,0))) (hu:P.underlying ty=some d) (hd:d.isRow=true) (hi:(P.info? ty).map (·.size)=some cs.size):RvOk P tmps w (.cell p ty) (.agg cs) :=
 ⟨_,by simpa using hp,run_loadVar_row w g t ty cs (0,0) d hg hu (by cases d <;> first | rfl | cases hd) hi⟩
theorem rv_tmp {P:Program} {tmps:Array Value} {w:World} {q:Tmp} {v:Value} (h:tmps.getD q undef=v):RvOk P tmps w (.tmp q) v:=by
 show tmps[q]?.getD undef=v
 simpa using h
theorem res1 {P:Program} {fn:Func} {p:Tmp} {ty:TypeId} {v:Value} {tmps:Array Value} {w:World} (h:fn.results=#[.cell p ty]) (h1:RvOk P tmps w (.cell p ty) v):(results fn tmps).run P w=.ok v w:=by
 obtain ⟨a,hp',hl⟩:=h1
 simp [results,h,hp',asAddr,hl]
theorem res2 {P:Program} {fn:Func} {r1 r2:ResultVar} {v1 v2:Value} {tmps:Array Value} {w:World} (h:fn.results=#[r1,r2]) (h1:RvOk P tmps w r1 v1) (h2:RvOk P tmps w r2 v2):(results fn tmps).run P w=.ok (.tuple #[v1,v2]) w:=by
 cases r1 <;> cases r2 <;> dsimp only [RvOk] at h1 h2 <;> (try obtain ⟨x1,e1,f1⟩:=h1) <;> (try obtain ⟨x2,e2,f2⟩:=h2) <;> simp [results,h,asAddr, *]
def NKf (b:Nat) (C:Array Value) (t:TypeId) (u:World) (q:Value):Prop:=∃ g,q=.pointer (some ⟨g,0,none⟩)∧b≤g∧u.heap[g]?=some (.cells C t (0,0))
theorem NKf.gr {b:Nat} {C:Array Value} {t:TypeId} {u v:World} {q:Value} (h:NKf b C t u q) (g:Gr u v):NKf b C t v q:=by
 obtain ⟨p,h1,h2,h3⟩:=h
 exact ⟨p,h1,h2,g.blk h3⟩
def Sz (n:Nat) (v:World):Prop:=n≤v.heap.size
theorem Sz.gr {n:Nat} {u v:World} (h:Sz n u) (g:Gr u v):Sz n v:=Nat.le_trans h g.size
theorem Bl.joinz {w u v:World} {L:List Blk} {g:Nat} {c:Array Value} {t:TypeId} (h:Bl w L u) (k:Bl w L v) (hg:u.heap.size≤g) (hn:v.heap[g]?=some (.cells c t (0,0))):Bl w (L++[⟨g,c,t⟩]) v :=
 k.add ⟨g,c,t⟩ hn (Nat.le_trans h.gr.size hg) (fun y hy=>by have:=lt_of_block (h.at_ y hy).1; show y.g≠g; omega)
theorem exec_ci {op:Oper} {a:Act} (w:World) (x:Operand) (ho:op.op=.load 3 x) (g i:Nat) (hx:a.eval x=.pointer (some ⟨g,i,none⟩)) (v:Int) (hc:w.cell? ⟨g,i,none⟩=some (.int .i64 v)):(execOp a.eval op).run Tryz.prog w=.ok (.value (.int .i64 v)) w:=by
 unfold execOp
 simp only [ho,hx,Instr.loadAt,Instr.sureAddr,Sem.run_bind,Sem.run_pure,Result.andThen_ok]
 go_simp
section
variable {N:List Nat} {ops:Array Oper} {Q:Exit→Act→World→Prop} {a:Act} {w w0:World} {o:Oper} {rest:List Oper} {L:List Blk} {S:List (List Value)} {t:TypeId} {K:Act→World→Prop}
end
section
variable {N:List Nat} {ops:Array Oper} {Q:Exit→Act→World→Prop} {a:Act} {w w0:World} {o:Oper} {rest:List Oper} {L:List Blk} {S:List (List Value)} {t:TypeId} {K:Act→World→Prop}
end
section
variable {a:Act} {o:Oper} (w:World) (x y:Operand) (m n:Int) (b:Bool)
theorem eql_32 (ho:o.op=.binOp .eql 27 x y 27) (hx:a.eval x=.int .u32 m) (hy:a.eval y=.int .u32 n) (hb:decide (m=n)=b):(execOp a.eval o).run Tryz.prog w=.ok (.value (.bool b)) w:=by
 subst hb
 unfold execOp
 simp only [ho,hx,hy]
 go_simp
 by_cases h_:m=n <;> simp [h_]
end
section
variable {a:Act} {o:Oper} (w:World) (x y:Operand) (m n:Int) (b:Bool)
theorem eql_i (ho:o.op=.binOp .eql 3 x y 3) (hx:a.eval x=.int .i64 m) (hy:a.eval y=.int .i64 n) (hb:decide (m=n)=b):(execOp a.eval o).run Tryz.prog w=.ok (.value (.bool b)) w:=by
 subst hb
 unfold execOp
 simp only [ho,hx,hy]
 go_simp
 by_cases h_:m=n <;> simp [h_]
end
section
variable {a:Act} {o:Oper} (w:World) (x y:Operand) (m n:Int) (b:Bool)
theorem eql_e (ho:o.op=.binOp .eql 37 x y 37) (hx:a.eval x=.int .i64 m) (hy:a.eval y=.int .i64 n) (hb:decide (m=n)=b):(execOp a.eval o).run Tryz.prog w=.ok (.value (.bool b)) w:=by
 subst hb
 unfold execOp
 simp only [ho,hx,hy]
 go_simp
 by_cases h_:m=n <;> simp [h_]
end
section
variable {a:Act} {o:Oper} (w:World) (x y:Operand) (m n:Int) (b:Bool)
theorem neq_e (ho:o.op=.binOp .neq 37 x y 37) (hx:a.eval x=.int .i64 m) (hy:a.eval y=.int .i64 n) (hb:decide (m≠n)=b):(execOp a.eval o).run Tryz.prog w=.ok (.value (.bool b)) w:=by
 subst hb
 unfold execOp
 simp only [ho,hx,hy]
 go_simp
 by_cases h_:m=n <;> simp [h_]
end
def tf (n k:Nat):Array Bool:=((List.range n).map fun i=>decide (i<k)).toArray
section
variable {P:Program} {md:Region.Mode} {ops:Array Oper} {Q:Exit→Act→World→Prop} {S:World→Prop}
theorem any_tk (i:Nat) (v:Value) {oi:Oper} {l:Array Bool} {a:Act} {w:World} (l0:Array Bool) (hi:ops[i]?=some oi) (hy:∀ x_,S x_→(execOp a.eval oi).run P x_=.ok (.value v) x_) (hS:S w)
  (h:Any P md ops Q S (l.setIfInBounds i true) (a.put oi.dst v) w) (hs:Region.noSelect ops=true:=by kernel_rfl) (hle:leB ops.size l0 l=true:=by kernel_rfl) (hf:Region.free md ops l0 i=true:=by kernel_rfl) (hr:rdB md ops l i=true:=by kernel_rfl) (hQ:∀ c a w,Q (.panic c) (a.put oi.dst v) w→Q (.panic c) a w:=by exact fun _ _ _ h=>h) (hw:Region.wanted oi (yielded ops a.tmps)=true:=by kernel_rfl):Any P md ops Q S l a w :=
 any_take l0 hi hs hle hf hr hQ (.inl ⟨hw,hy⟩) hS h
end
section
variable {P:Program} {md:Region.Mode} {ops:Array Oper} {Q:Exit→Act→World→Prop} {S:World→Prop}
end
section
variable {P:Program} {ops:Array Oper} {Q:Exit→Act→World→Prop} {a:Act} {w:World} {o:Oper} {rest:List Oper}
theorem lvk (v:Value) (h:wpList P ops Q rest (a.put o.dst v) w) (hw:Region.wanted o (yielded ops a.tmps)=true:=by kernel_rfl) (hx:(execOp a.eval o).run P w=.ok (.value v) w:=by kernel_rfl):wpList P ops Q (o::rest) a w:=list_val v hw hx h
end
end Go.Proofs.YthahhglbeafkmaaGreatDoor
namespace Go.Proofs.YthahhglbeafkmaaGreatDoor
open Go.RowKit
set_option maxRecDepth 100000
set_option linter.unusedSimpArgs false
set_option linter.unusedVariables false
def NP:List Nat:=[32,1]
def NE:List Nat:=[1,1,1,105]
def NX:List Nat:=[16,130]
def NTm:List Nat:=[32,12,16]
theorem nP {K:List Int} (h:K.length=32) (a:Value):[bw K,[a]].map List.length=NP:=by simp [bw_len,NP, *]
theorem nE {B:List Int} (h:B.length=105) (a b c:Value):[[a],[b],[c],bw B].map List.length=NE:=by simp [bw_len,NE, *]
theorem nX {D B:List Int} (h:D.length=16) (h2:B.length=130):[bw D,bw B].map List.length=NX:=by simp [bw_len,NX, *]
theorem nT {K N D:List Int} (h:K.length=32) (h2:N.length=12) (h3:D.length=16):[bw K,bw N,bw D].map List.length=NTm:=by simp [bw_len,NTm, *]
theorem oP (K:List Int) {a:Value} (h1:a.oneCell'=true):(fl [bw K,[a]]).all (·.oneCell')=true:=by simp [fl,bw,u8_one,h1]
theorem oE (B:List Int) {a b c:Value} (h1:a.oneCell'=true) (h2:b.oneCell'=true) (h3:c.oneCell'=true):(fl [[a],[b],[c],bw B]).all (·.oneCell')=true:=by simp [fl,bw,u8_one,h1,h2,h3]
theorem oX (D B:List Int):(fl [bw D,bw B]).all (·.oneCell')=true:=by simp [fl,bw,u8_one]
theorem oT (K N D:List Int):(fl [bw K,bw N,bw D]).all (·.oneCell')=true:=by simp [fl,bw,u8_one]
theorem fl_flat {S:List (List Value)} {N:List Nat} (h:S.map List.length=N):S.flatten.length=N.sum:=by
 have:=fl_size h
 unfold fl at this
 simpa using this
theorem evl_fl (k a s:Int) (B:List Int):(evl k a s B).toArray=fl [[.int .i64 k],[.int .u32 a],[.int .u32 s],bw B]:=by simp [evl,fl,bv,bw]
theorem xcl_fl (D B:List Int):(xcl D B).toArray=fl [bw D,bw B]:=by simp [xcl,fl,bv,bw]
theorem pair_fl (K:List Int) (f:Bool):pairv K f=fl [bw K,[.bool f]]:=by simp [pairv,fl,bw]
theorem exec_sa {op:Oper} {a:Act} (w:World) (ty:TypeId) (x:Operand) (ho:op.op=.load ty x) (g o:Nat) (hx:a.eval x=.pointer (some ⟨g,o,none⟩)) {S:List (List Value)} {t:TypeId} (h:w.heap[g]?=some (.cells (fl S) t (0,0))) (N:List Nat) (hN:S.map List.length=N) (i:Nat) (K:List Int) (hi:S[i]?=some (bw K)) (hof:(N.take i).sum=o) {d:TypeDesc} (hu:Tryz.prog.underlying ty=some d) (hd:d.isRow=true) {n:Nat} (hl:N[i]?=some n) (hin:(Tryz.prog.info? ty).map (·.size)=some n) :
  (execOp a.eval op).run Tryz.prog w=.ok (.value (.agg (kc K))) w:=by
 have hK:(bw K).length=n:=by
  have:=congrArg (·[i]?) hN
  simp only [List.getElem?_map,hi,hl,Option.map_some,Option.some.injEq] at this
  exact this
 exact exec_row (P:=Tryz.prog) w ty x ho g o hx (bw K) _ (seg_range hN h i hi hof) hu hd (by rw [hin,hK])
theorem seg_at {S:List (List Value)} {N:List Nat} (hN:S.map List.length=N) {w:World} {g:Nat} {t:TypeId} (h:w.heap[g]?=some (.cells (fl S) t (0,0))) (i:Nat) {K:List Int} (hi:S[i]?=some (bw K)) {o:Nat} (ho:(N.take i).sum=o):At w g o K:=fun j hj=>seg_range hN h i hi ho j _ (by unfold bw; simp [hj])
theorem seg_lb {S:List (List Value)} {N:List Nat} (hN:S.map List.length=N) {w:World} {g:Nat} {t:TypeId} (h:w.heap[g]?=some (.cells (fl S) t (0,0))) (i:Nat) {K:List Int} (hi:S[i]?=some (bw K)) {o:Nat} (ho:(N.take i).sum=o) (hb:IsB K) {n:Nat} (hn:K.length=n) (hs:n<9223372036854775808):Lb w (some ⟨g,o,none⟩) n n K:=⟨hn,hb,.inr ⟨g,o,rfl,seg_at hN h i hi ho⟩,Nat.le_refl _,hs⟩
theorem eql_64 {a:Act} {o:Oper} (w:World) (x y:Operand) (m n:Int) (b:Bool) (ho:o.op=.binOp .eql 26 x y 26) (hx:a.eval x=.int .u64 m) (hy:a.eval y=.int .u64 n) (hb:decide (m=n)=b):(execOp a.eval o).run Tryz.prog w=.ok (.value (.bool b)) w :=
 exec_eqI w 26 x y ho (q:=.u64) (by kernel_rfl) m n hx hy b hb
theorem eq_105 (k m:List Int) (hk:k.length=105) (hm:m.length=105) (w:World):Sem.run Tryz.prog (Op.equalIn 10000 28 (.agg (kc k)) (.agg (kc m))) w=.ok (decide (k=m)) w:=by
 obtain ⟨i0,hi0,_⟩:=info_parts Tryz.info_b
 rw [run_equalIn_array (P:=Tryz.prog) w 9999 (kc k) (kc m) Tryz.underlying28 hi0,Tryz.cells_b]
 refine (eqs_b k m (by omega) 9998 _ (by intro i hi; simp at hi; omega) w).trans ?_
 congr 1
 rw [decide_eq_decide]
 constructor
 ·intro h
  exact list_ext (by omega) fun i hi=>h i (by simp; omega)
 ·rintro rfl i _
  rfl
theorem exec_eq105 {a:Act} {o:Oper} (w:World) (x y:Operand) (ho:o.op=.binOp .eql 28 x y 28) (k m:List Int) (hk:k.length=105) (hm:m.length=105) (hx:a.eval x=.agg (kc k)) (hy:a.eval y=.agg (kc m)):(execOp a.eval o).run Tryz.prog w=.ok (.value (.bool (decide (k=m)))) w:=by
 have hu:=Tryz.underlying28
 have he:=eq_105 k m hk hm w
 have hg:(eqGuard .eql 28 x y (.agg (kc k)) (.agg (kc m))).run Tryz.prog w=.ok () w:=by kernel_rfl
 unfold execOp
 simp only [ho,hx,hy]
 go_simp
theorem bltP (vs:List (Nat × Value)):Tryz.prog.built 25 vs=Instr.fill (#[(0,32),(32,1)][·]?) (fl [bw Z32,[.bool false]]) vs:=by kernel_rfl
theorem bltE (vs:List (Nat × Value)):Tryz.prog.built 30 vs=Instr.fill (#[(0,1),(1,1),(2,1),(3,105)][·]?) (fl [[.int .i64 0],[.int .u32 0],[.int .u32 0],bw Z105]) vs:=by kernel_rfl
theorem bltX (vs:List (Nat × Value)):Tryz.prog.built 36 vs=Instr.fill (#[(0,16),(16,130)][·]?) (fl [bw Z16,bw Z130]) vs:=by kernel_rfl
theorem bltT (vs:List (Nat × Value)):Tryz.prog.built 66 vs=Instr.fill (#[(0,32),(32,12),(44,16)][·]?) (fl [bw Z32,bw ZN,bw Z16]) vs:=by kernel_rfl
theorem bX  (w:World) {a:Act} {o:Oper}  (ho:o.op=.build 36 #[])   :
  (execOp a.eval o).run Tryz.prog w=.ok (.value (.agg (fl [bw Z16,bw Z130]))) w:=by
 refine exec_bld w _ _ [] ho (by simp) _ ?_
 rw [bltX]
 exact fill_nil _ _
theorem bX0 {K0:List Int} (w:World) {a:Act} {o:Oper} (x0:Operand) (ho:o.op=.build 36 #[(0,x0)]) (h0:K0.length=16) (e0:a.eval x0=.agg (kc K0)) :
  (execOp a.eval o).run Tryz.prog w=.ok (.value (.agg (fl [bw K0,bw Z130]))) w:=by
 refine exec_bld w _ _ [(0,.agg (kc K0))] ho (by simp [e0]) _ ?_
 rw [bltX]
 rw [fill_seg (N:=NX) (nX (show List.length Z16=16 from rfl) (show List.length Z130=130 from rfl)) (vs:=bw K0) rfl 0 0 (by rw [bw_len,h0]; rfl) (by rw [bw_len,h0]; rfl)]
 simp only [List.set_cons_zero,List.set_cons_succ]
 exact fill_nil _ _
theorem bE1 {z1:Int} (w:World) {a:Act} {o:Oper} (x1:Operand) (ho:o.op=.build 30 #[(1,x1)])  (e1:a.eval x1=.int .u32 z1) :
  (execOp a.eval o).run Tryz.prog w=.ok (.value (.agg (fl [[.int .i64 0],[.int .u32 z1],[.int .u32 0],bw Z105]))) w:=by
 refine exec_bld w _ _ [(1,.int .u32 z1)] ho (by simp [e1]) _ ?_
 rw [bltE]
 rw [fill_seg (N:=NE) (nE (show List.length Z105=105 from rfl) _ _ _) (vs:=[.int .u32 z1]) rfl 1 1 rfl rfl]
 simp only [List.set_cons_zero,List.set_cons_succ]
 exact fill_nil _ _
theorem bP01 {K0:List Int} {z1:Bool} (w:World) {a:Act} {o:Oper} (x0:Operand) (x1:Operand) (ho:o.op=.build 25 #[(0,x0),(1,x1)]) (h0:K0.length=32) (e0:a.eval x0=.agg (kc K0)) (e1:a.eval x1=.bool z1) :
  (execOp a.eval o).run Tryz.prog w=.ok (.value (.agg (fl [bw K0,[.bool z1]]))) w:=by
 refine exec_bld w _ _ [(0,.agg (kc K0)),(1,.bool z1)] ho (by simp [e0,e1]) _ ?_
 rw [bltP]
 rw [fill_seg (N:=NP) (nP (show List.length Z32=32 from rfl) _) (vs:=bw K0) rfl 0 0 (by rw [bw_len,h0]; rfl) (by rw [bw_len,h0]; rfl)]
 simp only [List.set_cons_zero,List.set_cons_succ]
 rw [fill_seg (N:=NP) (nP h0 _) (vs:=[.bool z1]) rfl 1 1 rfl rfl]
 simp only [List.set_cons_zero,List.set_cons_succ]
 exact fill_nil _ _
theorem bT12 {K1:List Int} {K2:List Int} (w:World) {a:Act} {o:Oper} (x1:Operand) (x2:Operand) (ho:o.op=.build 66 #[(1,x1),(2,x2)]) (h1:K1.length=12) (h2:K2.length=16) (e1:a.eval x1=.agg (kc K1)) (e2:a.eval x2=.agg (kc K2)) :
  (execOp a.eval o).run Tryz.prog w=.ok (.value (.agg (fl [bw Z32,bw K1,bw K2]))) w:=by
 refine exec_bld w _ _ [(1,.agg (kc K1)),(2,.agg (kc K2))] ho (by simp [e1,e2]) _ ?_
 rw [bltT]
 rw [fill_seg (N:=NTm) (nT (show List.length Z32=32 from rfl) (show List.length ZN=12 from rfl) (show List.length Z16=16 from rfl)) (vs:=bw K1) rfl 1 1 (by rw [bw_len,h1]; rfl) (by rw [bw_len,h1]; rfl)]
 simp only [List.set_cons_zero,List.set_cons_succ]
 rw [fill_seg (N:=NTm) (nT (show List.length Z32=32 from rfl) h1 (show List.length Z16=16 from rfl)) (vs:=bw K2) rfl 2 2 (by rw [bw_len,h2]; rfl) (by rw [bw_len,h2]; rfl)]
 simp only [List.set_cons_zero,List.set_cons_succ]
 exact fill_nil _ _
def K1:List Int:=1::List.replicate 31 0
theorem bK0 (w:World) {a:Act} {o:Oper} (ho:o.op=.build 23 #[(0,.const (.int .u8 1))]):(execOp a.eval o).run Tryz.prog w=.ok (.value (.agg (kc K1))) w :=
 exec_bld w _ _ [(0,.int .u8 1)] ho (by simp [Act.eval]) _ (by kernel_rfl)
end Go.Proofs.YthahhglbeafkmaaGreatDoor
namespace Go.Proofs.YthahhglbeafkmaaGreatDoor
open Go.RowKit
set_option maxRecDepth 100000
set_option linter.unusedSimpArgs false
set_option linter.unusedVariables false
def lfz (X:Nat) (n k:Nat):List Int:=lowL (X:Int) k++List.replicate (n - k) 0
theorem lfz_len (X n k:Nat) (h:k≤n):(lfz X n k).length=n:=by unfold lfz; simp [lowL_len]; omega
theorem lfz_set (X n k:Nat) (h:k<n):(lfz X n k).set k ((X:Int) / 256 ^ k % 256)=lfz X n (k+1):=by
 unfold lfz
 rw [List.set_append_right _ _ (by rw [lowL_len]; exact Nat.le_refl _),lowL_len,Nat.sub_self,lowL_snoc,show n - k=(n - (k+1))+1 from by omega,List.replicate_succ,List.set_cons_zero,List.append_assoc]
 rfl
theorem lfz_all (X n:Nat):lfz X n n=lowL (X:Int) n:=by unfold lfz; simp
def Nwb (L:List Int) (n:Nat) (w:World) (r:Ending) (w':World):Prop:=∃ g,r=.returned (.slice (some ⟨g,0,none⟩) n n)∧w.heap.size≤g∧w'.heap[g]?=some (.cells (kc L) 5 (0,0))∧Gr w w'
set_option maxHeartbeats 2000000 in
theorem rlowg_ok (X n:Nat) (hX:X<18446744073709551616) (hn:n≤8) (w:World):Calls Tryz.prog 47 #[.int .u64 X,.int .i64 n] w (Nwb (lowL (X:Int) n) n w):=by
 obtain ⟨T,hT⟩:∃ T,T=Nwb (lowL (X:Int) n) n w:=⟨_,rfl⟩
 rw [← hT]
 replace hT:=hide hT
 go_enter Tryz.func47,Tryz.ntmps47
 go_upto_region 1 with fail
 refine wp_region_lit ?_
 iterate 1 (refine wpList_step fun K hK=>?_; replace hK:=hide hK; go_simp; refine unhide hK _ _ ?_; clear hK K)
 refine wpList_make_room w rfl (.tmp 7) (.tmp 7) rfl n n n n (by kernel_rfl) (by kernel_rfl) (by omega) (by omega) (by omega) (by omega) ?_
 have hv:=blk_new w (.cells (kc (List.replicate n 0)) 5 (0,0))
 have hg:=(Gr.refl w).alloc (.cells (kc (List.replicate n 0)) 5 (0,0))
 generalize World.alloc _ _=u1 at *
 simp only [nrm]
 have hz:lfz X n 0=List.replicate n 0:=by unfold lfz; simp [lowL]
 rw [← hz] at hv
 clear hz
 replace hv:=hide hv
 replace hg:=hide hg
 iterate 1 (refine wpList_step fun K hK=>?_; replace hK:=hide hK; go_simp; refine unhide hK _ _ ?_; clear hK K)
 refine wpList_nil ?_
 go_wp2_with fail
 go_loopw [6,0] (fun i x wr=>∃ k:Nat,k≤n∧i=.int .i64 (k:Int)∧x=.int .u64 ((X / 256 ^ k:Nat):Int)∧Hid (wr.heap[w.heap.size]?=some (.cells (kc (lfz X n k)) 5 (0,0)))∧Hid (Gr w wr)) (fun i _ _=>n - (intOf i).toNat)
 case atStart=>exact ⟨0,by omega,rfl,by simp,hv,hg⟩
 case round =>
 clear hv hg
 obtain ⟨k,hk,rfl,rfl,hv,hg⟩:=hrel
 by_cases hlt:k<n
 ·obtain ⟨Y,hY⟩:∃ Y,Y=X / 256 ^ k:=⟨_,rfl⟩
  obtain ⟨y,hy⟩:∃ y:Int,y=((Y % 256:Nat):Int):=⟨_,rfl⟩
  have hYb:Y<18446744073709551616:=by rw [hY]; exact Nat.lt_of_le_of_lt (Nat.div_le_self _ _) hX
  have q1:(k:Int)<(n:Int):=by omega
  have q3:0≤(k:Int)∧(k:Int)<(n:Int):=by omega
  have q4:IntKind.i64.wrap ((k:Int)+1)=(k:Int)+1:=by rw [IntKind.wrap_i64]; omega
  obtain ⟨Z,hZ⟩:∃ Z,Z=X / 256 ^ (k+1):=⟨_,rfl⟩
  have e2:(Y:Int) / 256=(Z:Int):=by rw [hZ,hY,Nat.pow_succ,← Nat.div_div_eq_div_mul]; omega
  have e3:(Y:Int).tdiv 256=(Z:Int):=by rw [Int.tdiv_eq_ediv_of_nonneg (by omega)]; exact e2
  have e4:(Y:Int).tmod 256=y:=by rw [Int.tmod_eq_emod_of_nonneg (by omega),hy]; omega
  have e5:(Y:Int) % 256=y:=by rw [hy]; omega
  have e6:IntKind.u64.wrap y=y:=by rw [IntKind.wrap_u64]; omega
  have e7:IntKind.u8.wrap y=y:=by rw [IntKind.wrap_u8']; omega
  have e8:IntKind.u64.wrap (Z:Int)=(Z:Int):=by rw [IntKind.wrap_u64]; omega
  have cs:=kc_cell (unhide hv) k (by rw [lfz_len _ _ _ (by omega)]; omega)
  have fs:=froz_of (i:=k) (unhide hv)
  have hv2:=heap_setCell_same wr w.heap.size k _ _ (.int .u8 y) (unhide hv)
  rw [kc_set] at hv2
  have hnx:(lfz X n k).set k y=lfz X n (k+1):=by
   have h:=lfz_set X n k hlt
   have e9:(X:Int) / 256 ^ k % 256=y:=by rw [hy,hY]; simp
   rw [e9] at h
   exact h
  rw [hnx] at hv2
  have hg2:=(setCells_bt [.int .u8 y] wr w.heap.size k).gr (unhide hg) (Nat.le_refl _)
  replace hg2:Hid (Gr w (wr.setCell ⟨w.heap.size,k,none⟩ (.int .u8 y))):=hg2
  replace hv2:=hide hv2
  clear hv hg hnx
  rw [← hY]
  replace hZ:=hide hZ; replace hY:=hide hY; replace hy:=hide hy
  generalize (lfz X n k).getD k 0=z at cs
  go_wp2_with fail
  go_roundw
  case rel=>exact ⟨k+1,by omega,by go_num,by rw [← unhide hZ],hv2,hg2⟩
  case measure=>simp [intOf]; omega
 ·have e:k=n:=by omega
  subst e
  have q1:¬ (k:Int)<(k:Int):=by omega
  have hP:Hid (Nwb (lowL (X:Int) k) k w (.returned (.slice (some ⟨w.heap.size,0,none⟩) k k)) wr):=by
   have h:=unhide hv
   rw [lfz_all] at h
   exact ⟨_,rfl,Nat.le_refl _,h,unhide hg⟩
  clear hv hg
  go_wp2_with fail
  rw [unhide hT]
  exact unhide hP
theorem nw_lb {w:World} {g n:Nat} {L:List Int} (h:w.heap[g]?=some (.cells (kc L) 5 (0,0))) (hb:IsB L) (hn:L.length=n) (hs:n<9223372036854775808):Lb w (some ⟨g,0,none⟩) n n L:=⟨hn,hb,.inr ⟨g,0,rfl,kc_at h⟩,Nat.le_refl _,hs⟩
theorem isB_rep (n:Nat):IsB (List.replicate n 0):=fun x hx=>by rw [List.eq_of_mem_replicate hx]; omega
end Go.Proofs.YthahhglbeafkmaaGreatDoor
namespace Go.Proofs.YthahhglbeafkmaaGreatDoor
open Go.RowKit
set_option maxRecDepth 100000
set_option linter.unusedSimpArgs false
set_option linter.unusedVariables false
def kyT (b:Bool):ByteArray:=if b=true then tFir else tSec
theorem rlow8_ok (r:Int) (hr:0≤r∧r<18446744073709551616) (w:World):Calls Tryz.prog 47 #[.int .u64 r,.int .i64 8] w (Obd (lowL r 8) w):=by
 have h:=rlowg_ok r.toNat 8 (by omega) (by omega) w
 rw [Int.toNat_of_nonneg hr.1] at h
 refine h.mono ?_
 rintro r_ w_ ⟨g,rfl,h1,h2,h3⟩
 exact ⟨_,rfl,ob_of h2 (lowL_len _ _) h1 (by omega),h3⟩
theorem rlow4_ok (r:Int) (hr:0≤r∧r<18446744073709551616) (w:World):Calls Tryz.prog 47 #[.int .u64 r,.int .i64 4] w (Obd (lowL r 4) w):=by
 have h:=rlowg_ok r.toNat 4 (by omega) (by omega) w
 rw [Int.toNat_of_nonneg hr.1] at h
 refine h.mono ?_
 rintro r_ w_ ⟨g,rfl,h1,h2,h3⟩
 exact ⟨_,rfl,ob_of h2 (lowL_len _ _) h1 (by omega),h3⟩
set_option maxHeartbeats 4000000 in
theorem ykey_yes (r:Int) (hr:0≤r∧r<18446744073709551616) (K:List Int) (hK:K.length=32) (hKb:IsB K) (f:Bool) (w:World) (hF:Fst w):Calls Tryz.prog 26 #[.agg (pairv K f),.int .u64 r,.bool true] w (Derd (okL r K tFir) w):=by
 obtain ⟨T,hT⟩:∃ T,T=Derd (okL r K tFir) w:=⟨_,rfl⟩
 rw [← hT]
 replace hT:=hide hT
 obtain ⟨SK,hSK⟩:∃ S,S=pairv K f:=⟨_,rfl⟩
 rw [← hSK]
 replace hSK:=hide hSK
 replace hKb:=hide hKb
 replace hF:=hide hF
 go_enter Tryz.func26,Tryz.ntmps26
 go_upto_region 2 with fail
 have hB:=(((Bl.nil w).new SK 25).new #[.int .u8 0,.int .u8 0,.int .u8 0,.int .u8 0,.int .u8 0,.int .u8 0,.int .u8 0,.int .u8 0,.int .u8 0,.int .u8 0,.int .u8 0,.int .u8 0,.int .u8 0,.int .u8 0,.int .u8 0,.int .u8 0,.int .u8 0,.int .u8 0,.int .u8 0,.int .u8 0,.int .u8 0,.int .u8 0,.int .u8 0,.int .u8 0,.int .u8 0,.int .u8 0,.int .u8 0,.int .u8 0,.int .u8 0,.int .u8 0,.int .u8 0,.int .u8 0] 23)
 simp only [size_alloc,List.nil_append,List.cons_append] at hB
 generalize World.alloc _ _=u at *
 rw [unhide hSK] at hB
 replace hB:Bl w [⟨w.heap.size,pairv K f,25⟩,⟨w.heap.size+1,kc Z32,23⟩] u:=hB
 refine wp_region_lit ?_
 refine list_val (.bool true) (by kernel_rfl) (by kernel_rfl) ?_
 simp only [nrm]
 refine wpList_nil ?_
 replace hB:=hide hB
 go_upto_region 4 with fail
 replace hB:=unhide hB
 refine any_start (S:=fun v=>v.heap[w.heap.size]?=some (.cells (pairv K f) 25 (0,0))) (by kernel_rfl) ?_
 replace hB:=hB.drew
 generalize World.drew _=x0 at *
 simp only [List.size_toArray,List.length_cons,List.length_nil,Array.replicate,List.replicate]
 refine any_take (i:=0) (v:=(.pointer (some ⟨w.heap.size,0,none⟩))) #[false,false,false,false,false,false,false,false] rfl (by kernel_rfl) (by kernel_rfl) (by kernel_rfl) (by kernel_rfl) (fun _ _ _ h=>h) (.inl ⟨by kernel_rfl,fun x_ hu=>by kernel_rfl⟩) (hB.get 0 (x:=⟨w.heap.size,pairv K f,25⟩) rfl) ?_
 simp only [nrm]
 refine any_take (i:=1) (v:=(.agg (kc K))) #[true,false,false,false,false,false,false,false] rfl (by kernel_rfl) (by kernel_rfl) (by kernel_rfl) (by kernel_rfl) (fun _ _ _ h=>h) (.inl ⟨by kernel_rfl,fun x_ hu=>exec_pk _ (.tmp 9) rfl (w.heap.size) (by kernel_rfl) K hK f hu⟩) (hB.get 0 (x:=⟨w.heap.size,pairv K f,25⟩) rfl) ?_
 simp only [nrm]
 refine any_take (i:=2) (v:=(.string tFir)) #[true,true,false,false,false,false,false,false] rfl (by kernel_rfl) (by kernel_rfl) (by kernel_rfl) (by kernel_rfl) (fun _ _ _ h=>h) (.inl ⟨by kernel_rfl,fun x_ hu=>by kernel_rfl⟩) (hB.get 0 (x:=⟨w.heap.size,pairv K f,25⟩) rfl) ?_
 simp only [nrm]
 refine any_take (i:=3) (v:=(.int .u64 r)) #[true,true,true,false,false,false,false,false] rfl (by kernel_rfl) (by kernel_rfl) (by kernel_rfl) (by kernel_rfl) (fun _ _ _ h=>h) (.inl ⟨by kernel_rfl,fun x_ hu=>by kernel_rfl⟩) (hB.get 0 (x:=⟨w.heap.size,pairv K f,25⟩) rfl) ?_
 simp only [nrm]
 refine any_one (i:=4) (by kernel_rfl) rfl (fun K_ hQ=>?_)
 refine step_callw (by kernel_rfl) 47 #[.int .u64 r,.int .i64 8] (by kernel_rfl) ((rlow8_ok r hr x0).mono ?_)
 rintro r x1 ⟨v8,rfl,ho8,hg⟩
 refine ⟨_,rfl,?_⟩
 obtain ⟨a8,c8,rfl,lp⟩:=ho8.lb' (lowL_isB r 8) 8 (lowL_len r 8)
 replace hB:=hB.more hg
 replace lp:=hide lp
 clear ho8
 clear hg
 refine hQ.out _ _ (hB.get 0 (x:=⟨w.heap.size,pairv K f,25⟩) rfl) (fun _=>?_)
 clear hQ K_
 simp only [nrm]
 refine any_one (i:=5) (by kernel_rfl) rfl (fun K_ hQ=>?_)
 replace hB:=hide hB
 replace hQ:=hide hQ
 go_simp
 refine (unhide hQ).out _ _ ?_ (fun _=>?_)
 ·exact ((Gr.refl x1).alloc (.cells #[.slice a8 8 c8] 43)).blk ((unhide hB).get 0 (x:=⟨w.heap.size,pairv K f,25⟩) rfl)
 clear hQ K_
 replace hB:=unhide hB
 have hg:=(Gr.refl x1).alloc (.cells #[.slice a8 8 c8] 43 (0,0))
 have hnew:=blk_new x1 (.cells #[.slice a8 8 c8] 43 (0,0))
 replace hB:=hB.more hg
 replace lp:=hide ((unhide lp).gr hg)
 generalize World.alloc _ _=x2 at *
 generalize x1.heap.size=gq at *
 clear hg
 simp only [nrm]
 refine any_one (i:=6) (by kernel_rfl) rfl (fun K_ hQ=>?_)
 refine step_callw (by kernel_rfl) 46 #[.agg (kc K),.string tFir,.slice (some ⟨gq,0,none⟩) 1 1] (by kernel_rfl) ((rderive_ok K hK (unhide hKb) tFir (by decide) [lowL r 8] (some ⟨gq,0,none⟩) 1 1 rfl (small_low r) x2 ((unhide hF).gr hB.gr) (Pr.one hnew (unhide lp))).mono ?_)
 rintro r x3 ⟨rfl,hg⟩
 refine ⟨_,rfl,?_⟩
 replace hB:=hB.more hg
 clear lp hnew
 obtain ⟨D,hD⟩:∃ D,D=okL r K tFir:=⟨_,rfl⟩
 rw [show spL K (infoL (tb tFir) [lowL r 8]) 32=D from hD.symm]
 have hDl:D.length=32:=by rw [hD,okL_len]
 replace hD:=hide hD
 clear hg
 refine hQ.out _ _ (hB.get 0 (x:=⟨w.heap.size,pairv K f,25⟩) rfl) (fun _=>?_)
 clear hQ K_
 simp only [nrm]
 refine any_one (i:=7) (by kernel_rfl) rfl (fun K_ hQ=>?_)
 refine step_storew 23 (.tmp 6) (.tmp 15) (w.heap.size+1) (kc D) 23 (kc Z32) (by kernel_rfl) rfl (by kernel_rfl) (by kernel_rfl) (hB.get 1 (x:=⟨w.heap.size+1,kc Z32,23⟩) rfl) (by rw [Tryz.infoKey,kc_size,hDl]) ((show (kc Z32).size=32 from rfl).trans ((kc_size _).trans hDl).symm) (kc_one _) ?_
 replace hB:=hB.set 1 (x:=⟨w.heap.size+1,kc Z32,23⟩) rfl (kc D)
 simp only [List.set_cons_zero,List.set_cons_succ] at hB
 generalize World.setRow _ _ _=x4 at *
 refine hQ.out _ _ (hB.get 0 (x:=⟨w.heap.size,pairv K f,25⟩) rfl) (fun _=>?_)
 clear hQ K_
 simp only [nrm]
 refine any_done (by kernel_rfl) ?_
 replace hB:=hide hB
 go_wp2_with fail
 replace hB:=unhide hB
 rw [unhide hT]
 exact bodyPost_ret (v:=.agg (kc D)) (results_cell_row Tryz.results26 _ _ (w.heap.size+1) 23 (kc D) (0,0) _ rfl (hB.get 1 (x:=⟨w.heap.size+1,kc D,23⟩) rfl) Tryz.underlying23 rfl (by rw [Tryz.infoKey,kc_size,hDl])) rfl (⟨by rw [unhide hD],hB.gr⟩)
set_option maxHeartbeats 4000000 in
theorem ykey_no (r:Int) (hr:0≤r∧r<18446744073709551616) (K:List Int) (hK:K.length=32) (hKb:IsB K) (f:Bool) (w:World) (hF:Fst w):Calls Tryz.prog 26 #[.agg (pairv K f),.int .u64 r,.bool false] w (Derd (okL r K tSec) w):=by
 obtain ⟨T,hT⟩:∃ T,T=Derd (okL r K tSec) w:=⟨_,rfl⟩
 rw [← hT]
 replace hT:=hide hT
 obtain ⟨SK,hSK⟩:∃ S,S=pairv K f:=⟨_,rfl⟩
 rw [← hSK]
 replace hSK:=hide hSK
 replace hKb:=hide hKb
 replace hF:=hide hF
 go_enter Tryz.func26,Tryz.ntmps26
 go_upto_region 2 with fail
 have hB:=(((Bl.nil w).new SK 25).new #[.int .u8 0,.int .u8 0,.int .u8 0,.int .u8 0,.int .u8 0,.int .u8 0,.int .u8 0,.int .u8 0,.int .u8 0,.int .u8 0,.int .u8 0,.int .u8 0,.int .u8 0,.int .u8 0,.int .u8 0,.int .u8 0,.int .u8 0,.int .u8 0,.int .u8 0,.int .u8 0,.int .u8 0,.int .u8 0,.int .u8 0,.int .u8 0,.int .u8 0,.int .u8 0,.int .u8 0,.int .u8 0,.int .u8 0,.int .u8 0,.int .u8 0,.int .u8 0] 23)
 simp only [size_alloc,List.nil_append,List.cons_append] at hB
 generalize World.alloc _ _=u at *
 rw [unhide hSK] at hB
 replace hB:Bl w [⟨w.heap.size,pairv K f,25⟩,⟨w.heap.size+1,kc Z32,23⟩] u:=hB
 refine wp_region_lit ?_
 refine list_val (.bool false) (by kernel_rfl) (by kernel_rfl) ?_
 simp only [nrm]
 refine wpList_nil ?_
 replace hB:=hide hB
 go_upto_region 4 with fail
 replace hB:=unhide hB
 refine any_start (S:=fun v=>v.heap[w.heap.size]?=some (.cells (pairv K f) 25 (0,0))) (by kernel_rfl) ?_
 replace hB:=hB.drew
 generalize World.drew _=x0 at *
 simp only [List.size_toArray,List.length_cons,List.length_nil,Array.replicate,List.replicate]
 refine any_take (i:=0) (v:=(.pointer (some ⟨w.heap.size,0,none⟩))) #[false,false,false,false,false,false,false,false] rfl (by kernel_rfl) (by kernel_rfl) (by kernel_rfl) (by kernel_rfl) (fun _ _ _ h=>h) (.inl ⟨by kernel_rfl,fun x_ hu=>by kernel_rfl⟩) (hB.get 0 (x:=⟨w.heap.size,pairv K f,25⟩) rfl) ?_
 simp only [nrm]
 refine any_take (i:=1) (v:=(.agg (kc K))) #[true,false,false,false,false,false,false,false] rfl (by kernel_rfl) (by kernel_rfl) (by kernel_rfl) (by kernel_rfl) (fun _ _ _ h=>h) (.inl ⟨by kernel_rfl,fun x_ hu=>exec_pk _ (.tmp 9) rfl (w.heap.size) (by kernel_rfl) K hK f hu⟩) (hB.get 0 (x:=⟨w.heap.size,pairv K f,25⟩) rfl) ?_
 simp only [nrm]
 refine any_take (i:=2) (v:=(.string tSec)) #[true,true,false,false,false,false,false,false] rfl (by kernel_rfl) (by kernel_rfl) (by kernel_rfl) (by kernel_rfl) (fun _ _ _ h=>h) (.inl ⟨by kernel_rfl,fun x_ hu=>by kernel_rfl⟩) (hB.get 0 (x:=⟨w.heap.size,pairv K f,25⟩) rfl) ?_
 simp only [nrm]
 refine any_take (i:=3) (v:=(.int .u64 r)) #[true,true,true,false,false,false,false,false] rfl (by kernel_rfl) (by kernel_rfl) (by kernel_rfl) (by kernel_rfl) (fun _ _ _ h=>h) (.inl ⟨by kernel_rfl,fun x_ hu=>by kernel_rfl⟩) (hB.get 0 (x:=⟨w.heap.size,pairv K f,25⟩) rfl) ?_
 simp only [nrm]
 refine any_one (i:=4) (by kernel_rfl) rfl (fun K_ hQ=>?_)
 refine step_callw (by kernel_rfl) 47 #[.int .u64 r,.int .i64 8] (by kernel_rfl) ((rlow8_ok r hr x0).mono ?_)
 rintro r x1 ⟨v8,rfl,ho8,hg⟩
 refine ⟨_,rfl,?_⟩
 obtain ⟨a8,c8,rfl,lp⟩:=ho8.lb' (lowL_isB r 8) 8 (lowL_len r 8)
 replace hB:=hB.more hg
 replace lp:=hide lp
 clear ho8
 clear hg
 refine hQ.out _ _ (hB.get 0 (x:=⟨w.heap.size,pairv K f,25⟩) rfl) (fun _=>?_)
 clear hQ K_
 simp only [nrm]
 refine any_one (i:=5) (by kernel_rfl) rfl (fun K_ hQ=>?_)
 replace hB:=hide hB
 replace hQ:=hide hQ
 go_simp
 refine (unhide hQ).out _ _ ?_ (fun _=>?_)
 ·exact ((Gr.refl x1).alloc (.cells #[.slice a8 8 c8] 43)).blk ((unhide hB).get 0 (x:=⟨w.heap.size,pairv K f,25⟩) rfl)
 clear hQ K_
 replace hB:=unhide hB
 have hg:=(Gr.refl x1).alloc (.cells #[.slice a8 8 c8] 43 (0,0))
 have hnew:=blk_new x1 (.cells #[.slice a8 8 c8] 43 (0,0))
 replace hB:=hB.more hg
 replace lp:=hide ((unhide lp).gr hg)
 generalize World.alloc _ _=x2 at *
 generalize x1.heap.size=gq at *
 clear hg
 simp only [nrm]
 refine any_one (i:=6) (by kernel_rfl) rfl (fun K_ hQ=>?_)
 refine step_callw (by kernel_rfl) 46 #[.agg (kc K),.string tSec,.slice (some ⟨gq,0,none⟩) 1 1] (by kernel_rfl) ((rderive_ok K hK (unhide hKb) tSec (by decide) [lowL r 8] (some ⟨gq,0,none⟩) 1 1 rfl (small_low r) x2 ((unhide hF).gr hB.gr) (Pr.one hnew (unhide lp))).mono ?_)
 rintro r x3 ⟨rfl,hg⟩
 refine ⟨_,rfl,?_⟩
 replace hB:=hB.more hg
 clear lp hnew
 obtain ⟨D,hD⟩:∃ D,D=okL r K tSec:=⟨_,rfl⟩
 rw [show spL K (infoL (tb tSec) [lowL r 8]) 32=D from hD.symm]
 have hDl:D.length=32:=by rw [hD,okL_len]
 replace hD:=hide hD
 clear hg
 refine hQ.out _ _ (hB.get 0 (x:=⟨w.heap.size,pairv K f,25⟩) rfl) (fun _=>?_)
 clear hQ K_
 simp only [nrm]
 refine any_one (i:=7) (by kernel_rfl) rfl (fun K_ hQ=>?_)
 refine step_storew 23 (.tmp 6) (.tmp 15) (w.heap.size+1) (kc D) 23 (kc Z32) (by kernel_rfl) rfl (by kernel_rfl) (by kernel_rfl) (hB.get 1 (x:=⟨w.heap.size+1,kc Z32,23⟩) rfl) (by rw [Tryz.infoKey,kc_size,hDl]) ((show (kc Z32).size=32 from rfl).trans ((kc_size _).trans hDl).symm) (kc_one _) ?_
 replace hB:=hB.set 1 (x:=⟨w.heap.size+1,kc Z32,23⟩) rfl (kc D)
 simp only [List.set_cons_zero,List.set_cons_succ] at hB
 generalize World.setRow _ _ _=x4 at *
 refine hQ.out _ _ (hB.get 0 (x:=⟨w.heap.size,pairv K f,25⟩) rfl) (fun _=>?_)
 clear hQ K_
 simp only [nrm]
 refine any_done (by kernel_rfl) ?_
 replace hB:=hide hB
 go_wp2_with fail
 replace hB:=unhide hB
 rw [unhide hT]
 exact bodyPost_ret (v:=.agg (kc D)) (results_cell_row Tryz.results26 _ _ (w.heap.size+1) 23 (kc D) (0,0) _ rfl (hB.get 1 (x:=⟨w.heap.size+1,kc D,23⟩) rfl) Tryz.underlying23 rfl (by rw [Tryz.infoKey,kc_size,hDl])) rfl (⟨by rw [unhide hD],hB.gr⟩)
theorem ykey_ok (b:Bool) (r:Int) (hr:0≤r∧r<18446744073709551616) (K:List Int) (hK:K.length=32) (hKb:IsB K) (f:Bool) (w:World) (hF:Fst w):Calls Tryz.prog 26 #[.agg (pairv K f),.int .u64 r,.bool b] w (Derd (okL r K (kyT b)) w):=by
 cases b
 ·exact ykey_no r hr K hK hKb f w hF
 ·exact ykey_yes r hr K hK hKb f w hF
set_option maxHeartbeats 4000000 in
theorem ydrop_ok (r:Int) (hr:0≤r∧r<18446744073709551616) (Ky:List Int) (hKl:Ky.length=32) (hKb:IsB Ky) (f:Bool) (w:World) (hF:Fst w):Calls Tryz.prog 24 #[.agg (pairv Ky f),.int .u64 r] w (Drd (drL r Ky) w):=by
 obtain ⟨T,hT⟩:∃ T,T=Drd (drL r Ky) w:=⟨_,rfl⟩
 rw [← hT]
 replace hT:=hide hT
 obtain ⟨SK,hSK⟩:∃ S,S=pairv Ky f:=⟨_,rfl⟩
 rw [← hSK]
 replace hSK:=hide hSK
 replace hKb:=hide hKb
 replace hF:=hide hF
 go_enter Tryz.func24,Tryz.ntmps24
 go_upto_region 1 with fail
 have hB:=(((Bl.nil w).new SK 25).new #[.int .u8 0,.int .u8 0,.int .u8 0,.int .u8 0,.int .u8 0,.int .u8 0,.int .u8 0,.int .u8 0,.int .u8 0,.int .u8 0,.int .u8 0,.int .u8 0,.int .u8 0,.int .u8 0,.int .u8 0,.int .u8 0] 33)
 simp only [size_alloc,List.nil_append,List.cons_append] at hB
 generalize World.alloc _ _=u at *
 rw [unhide hSK] at hB
 replace hB:Bl w [⟨w.heap.size,pairv Ky f,25⟩,⟨w.heap.size+1,kc ZD16,33⟩] u:=hB
 refine any_start (S:=fun v=>v.heap[w.heap.size]?=some (.cells (pairv Ky f) 25 (0,0))) (by kernel_rfl) ?_
 replace hB:=hB.drew
 generalize World.drew _=x0 at *
 simp only [List.size_toArray,List.length_cons,List.length_nil,Array.replicate,List.replicate]
 refine any_take (i:=0) (v:=(.pointer (some ⟨w.heap.size,0,none⟩))) #[false,false,false,false,false,false,false,false] rfl (by kernel_rfl) (by kernel_rfl) (by kernel_rfl) (by kernel_rfl) (fun _ _ _ h=>h) (.inl ⟨by kernel_rfl,fun x_ hu=>by kernel_rfl⟩) (hB.get 0 (x:=⟨w.heap.size,pairv Ky f,25⟩) rfl) ?_
 simp only [nrm]
 refine any_take (i:=1) (v:=(.agg (kc Ky))) #[true,false,false,false,false,false,false,false] rfl (by kernel_rfl) (by kernel_rfl) (by kernel_rfl) (by kernel_rfl) (fun _ _ _ h=>h) (.inl ⟨by kernel_rfl,fun x_ hu=>exec_pk _ (.tmp 7) rfl (w.heap.size) (by kernel_rfl) Ky hKl f hu⟩) (hB.get 0 (x:=⟨w.heap.size,pairv Ky f,25⟩) rfl) ?_
 simp only [nrm]
 refine any_take (i:=2) (v:=(.int .u64 r)) #[true,true,false,false,false,false,false,false] rfl (by kernel_rfl) (by kernel_rfl) (by kernel_rfl) (by kernel_rfl) (fun _ _ _ h=>h) (.inl ⟨by kernel_rfl,fun x_ hu=>by kernel_rfl⟩) (hB.get 0 (x:=⟨w.heap.size,pairv Ky f,25⟩) rfl) ?_
 simp only [nrm]
 refine float_first (fun q u=>NKe w.heap.size u q) 5 (fun b_=>#[true,true,true,false,false,false,b_,false]) 6 3 false rfl rfl (fun v k=>k.blk (hB.get 0 (x:=⟨w.heap.size,pairv Ky f,25⟩) rfl)) (by kernel_rfl) (fun b_=>by cases b_ <;> rfl) ?_ ?_
 all_goals simp only [fw1,Act.put,List.setIfInBounds_toArray,List.set_cons_zero,List.set_cons_succ,List.getElem_toArray,List.getElem_cons_zero,List.getElem_cons_succ]
 ·intro q_ x_ hgx K hK
  refine wpOp_step (o:=_) rfl (fun K' hK'=>?_)
  replace hK':=hide hK'
  replace hK:=hide hK
  refine step_val (.pointer (some ⟨x_.heap.size,0,none⟩)) (x_.alloc (.cells (kc Z32) 23 (0,0))) (by kernel_rfl) (by kernel_rfl) ?_
  exact unhide hK' _ _ (unhide hK _ _ ((Gr.refl _).alloc _) (⟨_,rfl,Nat.le_trans hB.gr.size hgx.size,blk_new _ _⟩))
 intro b1_3 q1_3 x1_3 hg hTq hall
 replace hB:=hB.more hg
 have hgo:=hg
 clear hg
 clear hall
 refine wpOp_step (o:=_) rfl (fun K hK=>?_)
 replace hK:=hide hK
 refine step_callw (by kernel_rfl) 47 #[.int .u64 r,.int .i64 8] (by kernel_rfl) ((rlow8_ok r hr x1_3).mono ?_)
 rintro r y1 ⟨v8,rfl,ho8,hg⟩
 refine ⟨_,rfl,?_⟩
 replace hTq:=fun e=>NKe.gr (hTq e) hg
 obtain ⟨a8,c8,rfl,lp⟩:=ho8.lb' (lowL_isB r 8) 8 (lowL_len r 8)
 replace hB:=hB.more hg
 replace lp:=hide lp
 clear ho8
 refine unhide hK _ _ ⟨(hB.get 0 (x:=⟨w.heap.size,pairv Ky f,25⟩) rfl),?_⟩
 clear hK K
 simp only [nrm]
 refine float_again (fun q u=>NKe w.heap.size u q) 5 (fun b_=>#[true,true,true,true,false,false,b_,false]) 6 4 false (b:=b1_3) (q:=q1_3) rfl rfl hTq (fun v k=>k.blk (hB.get 0 (x:=⟨w.heap.size,pairv Ky f,25⟩) rfl)) (by kernel_rfl) (fun b_=>by cases b_ <;> rfl) ?_ ?_
 all_goals simp only [fw1,Act.put,List.setIfInBounds_toArray,List.set_cons_zero,List.set_cons_succ,List.getElem_toArray,List.getElem_cons_zero,List.getElem_cons_succ]
 ·intro q_ x_ hgx K hK
  refine wpOp_step (o:=_) rfl (fun K' hK'=>?_)
  replace hK':=hide hK'
  replace hK:=hide hK
  refine step_val (.pointer (some ⟨x_.heap.size,0,none⟩)) (x_.alloc (.cells (kc Z32) 23 (0,0))) (by kernel_rfl) (by kernel_rfl) ?_
  exact unhide hK' _ _ (unhide hK _ _ ((Gr.refl _).alloc _) (⟨_,rfl,Nat.le_trans hB.gr.size hgx.size,blk_new _ _⟩))
 clear hTq
 intro b1_4 q1_4 x1_4 hg hTq hall
 replace hB:=hB.more hg
 have hgo:=hg
 clear hg
 clear hall
 refine wpOp_step (o:=_) rfl (fun K hK=>?_)
 replace hK:=hide hK
 replace lp:=hide ((unhide lp).gr hgo)
 replace hB:=hide hB
 refine step_val (.slice (some ⟨x1_4.heap.size,0,none⟩) 1 1) (x1_4.alloc (.cells #[.slice a8 8 c8] 43 (0,0))) (by kernel_rfl) (by kernel_rfl) ?_
 replace hB:=unhide hB
 have hg:=(Gr.refl x1_4).alloc (.cells #[.slice a8 8 c8] 43 (0,0))
 have hnew:=blk_new x1_4 (.cells #[.slice a8 8 c8] 43 (0,0))
 replace hB:=hB.more hg
 replace lp:=hide ((unhide lp).gr hg)
 replace hTq:=fun e=>NKe.gr (hTq e) hg
 refine unhide hK _ _ ⟨(hB.get 0 (x:=⟨w.heap.size,pairv Ky f,25⟩) rfl),?_⟩
 clear hK K
 generalize World.alloc _ _=y2 at *
 generalize x1_4.heap.size=gq at *
 clear hg
 simp only [nrm]
 refine float_again (fun q u=>NKe w.heap.size u q) 5 (fun b_=>#[true,true,true,true,true,false,b_,false]) 6 5 false (b:=b1_4) (q:=q1_4) rfl rfl hTq (fun v k=>k.blk (hB.get 0 (x:=⟨w.heap.size,pairv Ky f,25⟩) rfl)) (by kernel_rfl) (fun b_=>by cases b_ <;> rfl) ?_ ?_
 all_goals simp only [fw1,Act.put,List.setIfInBounds_toArray,List.set_cons_zero,List.set_cons_succ,List.getElem_toArray,List.getElem_cons_zero,List.getElem_cons_succ]
 ·intro q_ x_ hgx K hK
  refine wpOp_step (o:=_) rfl (fun K' hK'=>?_)
  replace hK':=hide hK'
  replace hK:=hide hK
  refine step_val (.pointer (some ⟨x_.heap.size,0,none⟩)) (x_.alloc (.cells (kc Z32) 23 (0,0))) (by kernel_rfl) (by kernel_rfl) ?_
  exact unhide hK' _ _ (unhide hK _ _ ((Gr.refl _).alloc _) (⟨_,rfl,Nat.le_trans hB.gr.size hgx.size,blk_new _ _⟩))
 clear hTq
 intro b1_5 q1_5 x1_5 hg hTq hall
 replace hB:=hB.more hg
 have hgo:=hg
 clear hg
 clear hall
 refine wpOp_step (o:=_) rfl (fun K hK=>?_)
 replace hK:=hide hK
 replace hnew:=hgo.blk hnew
 replace lp:=hide ((unhide lp).gr hgo)
 refine step_callw (by kernel_rfl) 46 #[.agg (kc Ky),.string tDro,.slice (some ⟨gq,0,none⟩) 1 1] (by kernel_rfl) ((rderive_ok Ky hKl (unhide hKb) tDro (by decide) [lowL r 8] (some ⟨gq,0,none⟩) 1 1 rfl (small_low r) x1_5 ((unhide hF).gr hB.gr) (Pr.one hnew (unhide lp))).mono ?_)
 rintro r y3 ⟨rfl,hg⟩
 refine ⟨_,rfl,?_⟩
 replace hTq:=fun e=>NKe.gr (hTq e) hg
 replace hB:=hB.more hg
 clear lp hnew
 obtain ⟨D,hD⟩:∃ D,D=okL r Ky tDro:=⟨_,rfl⟩
 rw [show spL Ky (infoL (tb tDro) [lowL r 8]) 32=D from hD.symm]
 have hDl:D.length=32:=by rw [hD,okL_len]
 replace hD:=hide hD
 refine unhide hK _ _ ⟨(hB.get 0 (x:=⟨w.heap.size,pairv Ky f,25⟩) rfl),?_⟩
 clear hK K
 simp only [nrm]
 refine float_again (fun q u=>NKe w.heap.size u q) 5 (fun b_=>#[true,true,true,true,true,true,b_,false]) 6 7 true (b:=b1_5) (q:=q1_5) rfl rfl hTq (fun v k=>k.blk (hB.get 0 (x:=⟨w.heap.size,pairv Ky f,25⟩) rfl)) (by kernel_rfl) (fun b_=>by cases b_ <;> rfl) ?_ ?_
 all_goals simp only [fw1,Act.put,List.setIfInBounds_toArray,List.set_cons_zero,List.set_cons_succ,List.getElem_toArray,List.getElem_cons_zero,List.getElem_cons_succ]
 ·intro q_ x_ hgx K hK
  refine wpOp_step (o:=_) rfl (fun K' hK'=>?_)
  replace hK':=hide hK'
  replace hK:=hide hK
  refine step_val (.pointer (some ⟨x_.heap.size,0,none⟩)) (x_.alloc (.cells (kc Z32) 23 (0,0))) (by kernel_rfl) (by kernel_rfl) ?_
  exact unhide hK' _ _ (unhide hK _ _ ((Gr.refl _).alloc _) (⟨_,rfl,Nat.le_trans hB.gr.size hgx.size,blk_new _ _⟩))
 clear hTq
 intro b1_7 q1_7 x1_7 hg hTq hall
 replace hB:=hB.more hg
 have hgo:=hg
 clear hg
 obtain rfl:b1_7=true:=hall (by trivial)
 replace hTq:=hTq rfl
 clear hall
 obtain ⟨gx,rfl,hgx1,hgb⟩:=hTq
 refine wpOp_step (o:=_) rfl (fun K hK=>?_)
 replace hK:=hide hK
 refine step_storew 23 (.tmp 5) (.tmp 12) gx (kc D) 23 (kc Z32) (by kernel_rfl) rfl (by kernel_rfl) (by kernel_rfl) hgb (by rw [Tryz.infoKey,kc_size,hDl]) (by rw [kc_size,kc_size,hDl]; rfl) (kc_one _) ?_
 replace hB:=hB.add ⟨gx,kc Z32,23⟩ hgb hgx1 (fun y hy=>by
  simp only [List.mem_cons,List.not_mem_nil,or_false] at hy
  rcases hy with rfl | rfl
  ·exact blk_ne (hB.get 0 (x:=⟨w.heap.size,pairv Ky f,25⟩) rfl) hgb (by dsimp only; decide)
  ·exact blk_ne (hB.get 1 (x:=⟨w.heap.size+1,kc ZD16,33⟩) rfl) hgb (by dsimp only; decide))
 simp only [List.nil_append,List.cons_append] at hB
 replace hB:=hB.set 2 (x:=⟨gx,kc Z32,23⟩) rfl (kc D)
 simp only [List.set_cons_zero,List.set_cons_succ] at hB
 generalize World.setRow _ _ _=y4 at *
 refine unhide hK _ _ ⟨hB.get 0 (x:=⟨w.heap.size,pairv Ky f,25⟩) rfl,?_⟩
 clear hK K
 simp only [nrm]
 refine any_done (by kernel_rfl) ?_
 replace hB:=hide hB
 go_upto_region 2 with fail
 replace hB:=unhide hB
 refine wp_region_lit ?_
 refine list_valw (.pointer (some ⟨y4.heap.size,0,none⟩)) (y4.alloc (.cells (kc ZD16) 33 (0,0))) (by kernel_rfl) (by kernel_rfl) ?_
 replace hB:=hB.new (kc ZD16) 33
 simp only [List.nil_append,List.cons_append] at hB
 generalize World.alloc _ _=y5 at *
 generalize y4.heap.size=gd at *
 replace hB:Bl w [⟨w.heap.size,pairv Ky f,25⟩,⟨w.heap.size+1,kc ZD16,33⟩,⟨gx,kc D,23⟩,⟨gd,kc ZD16,33⟩] y5:=hB
 simp only [nrm]
 refine wpList_nil ?_
 replace hB:=hide hB
 go_upto_region 3 with fail
 replace hB:=unhide hB
 refine any_start (S:=fun (_:World)=>True) (by kernel_rfl) ?_
 replace hB:=hB.drew
 generalize World.drew _=z0 at *
 simp only [List.size_toArray,List.length_cons,List.length_nil,Array.replicate,List.replicate]
 refine any_take (i:=0) (v:=(.slice (some ⟨gd,0,none⟩) 16 16)) #[false,false,false] rfl (by kernel_rfl) (by kernel_rfl) (by kernel_rfl) (by kernel_rfl) (fun _ _ _ h=>h) (.inl ⟨by kernel_rfl,fun x_ hu=>by kernel_rfl⟩) trivial ?_
 simp only [nrm]
 refine any_take (i:=1) (v:=(.slice (some ⟨gx,0,none⟩) 16 32)) #[true,false,false] rfl (by kernel_rfl) (by kernel_rfl) (by kernel_rfl) (by kernel_rfl) (fun _ _ _ h=>h) (.inl ⟨by kernel_rfl,fun x_ hu=>by kernel_rfl⟩) trivial ?_
 simp only [nrm]
 refine any_one (i:=2) (by kernel_rfl) rfl (fun K hK=>?_)
 have hDD:drL r Ky=D.take 16:=by rw [unhide hD]; rfl
 obtain ⟨E,hE⟩:∃ E,E=D.take 16:=⟨_,rfl⟩
 have hEl:E.length=16:=by rw [hE,List.length_take,hDl]; rfl
 have hEa:=(kc_at (hB.get 2 (x:=⟨gx,kc D,23⟩) rfl)).take 16
 rw [← hE] at hEa
 rw [← hE] at hDD
 clear hE
 replace hDD:=hide hDD
 rw [if_pos (by kernel_rfl)]
 refine copy_wp (.tmp 13) (.tmp 14) rfl gd 0 16 16 (some ⟨gx,0,none⟩) 16 32 (by kernel_rfl) (by kernel_rfl) (ZD16.map (Value.int .u8)) 33 (hB.get 3 (x:=⟨gd,kc ZD16,33⟩) rfl) E (by rw [hEl]; rfl) (.inr ⟨gx,0,rfl,hEa⟩) (by rw [hEl]; decide) ?_
 replace hB:=hB.copy16 3 (Z:=ZD16) (D:=E) rfl rfl hEl
 simp only [List.set_cons_zero,List.set_cons_succ] at hB
 refine hK.out _ _ trivial (fun _=>?_)
 clear hK K
 generalize World.setCells _ _ _ _=z3 at *
 try simp only [nrm]
 refine any_done (by kernel_rfl) ?_
 replace hB:=hide hB
 go_upto_region 4 with fail
 replace hB:=unhide hB
 refine wp_region_lit ?_
 refine list_val (.agg (kc E)) (by kernel_rfl) (exec_arr _ 33 (.tmp 6) rfl (gd) (by kernel_rfl) (kc E) 33 _ (hB.get 3 (x:=⟨gd,kc E,33⟩) rfl) Tryz.underlying33 rfl (by rw [Tryz.infoDrop,kc_size,hEl])) ?_
 simp only [nrm]
 refine list_store 33 (.tmp 4) (.tmp 16) (w.heap.size+1) (kc E) 33 (kc ZD16) (by kernel_rfl) rfl (by kernel_rfl) (by kernel_rfl) (hB.get 1 (x:=⟨w.heap.size+1,kc ZD16,33⟩) rfl) (by rw [Tryz.infoDrop,kc_size,hEl]) (by rw [kc_size,kc_size,hEl]; rfl) (kc_one _) ?_
 replace hB:=hB.set 1 (x:=⟨w.heap.size+1,kc ZD16,33⟩) rfl (kc E)
 simp only [List.set_cons_zero,List.set_cons_succ] at hB
 generalize World.setRow _ _ _=z4 at *
 simp only [nrm]
 refine wpList_nil ?_
 replace hB:=hide hB
 go_wp2_with fail
 replace hB:=unhide hB
 rw [unhide hT]
 exact bodyPost_ret (v:=.agg (kc E)) (results_cell_row Tryz.results24 _ _ (w.heap.size+1) 33 (kc E) (0,0) _ rfl (hB.get 1 (x:=⟨w.heap.size+1,kc E,33⟩) rfl) Tryz.underlying33 rfl (by rw [Tryz.infoDrop,kc_size,hEl])) rfl (⟨by rw [unhide hDD],hB.gr⟩)
end Go.Proofs.YthahhglbeafkmaaGreatDoor
namespace Go.Proofs.YthahhglbeafkmaaGreatDoor
open Go.RowKit
set_option maxRecDepth 100000
set_option linter.unusedSimpArgs false
set_option linter.unusedVariables false
def Sn (u v:World):Prop:=Gr u v
theorem Sn.gr {u v x:World} (h:Sn u v) (k:Gr v x):Sn u x:=Gr.trans h k
theorem Sn.bt {u v x:World} {g:Nat} (h:Sn u v) (k:Bt g v x) (hg:u.heap.size≤g):Sn u x:=k.gr h hg
theorem Sn.size {u v:World} (h:Sn u v):u.heap.size≤v.heap.size:=(show Gr u v from h).size
theorem Sn.g {u v:World} (h:Sn u v):Gr u v:=h
def Obx (b:Nat) (L:List Int) (w:World) (r:Ending) (w':World):Prop:=∃ v,r=.returned v∧Ob b w' v L∧Gr w w'
theorem Ob.base {b c:Nat} {w:World} {v:Value} {L:List Int} (h:Ob b w v L) (hc:c≤b):Ob c w v L:=by
 rcases h with ⟨h1,h2⟩
 refine ⟨h1,h2.imp id ?_⟩
 rintro ⟨g,cap,cs,h3,h4,h5⟩
 exact ⟨g,cap,cs,h3,Nat.le_trans hc h4,h5⟩
theorem obx_of {b:Nat} {L:List Int} {w:World} {r:Ending} {w':World} (h:Obd L w r w') (hb:b≤w.heap.size):Obx b L w r w':=by
 obtain ⟨v,h1,h2,h3⟩:=h
 exact ⟨v,h1,h2.base hb,h3⟩
def Okx (b:Nat) (L:List Int) (w:World) (r:Ending) (w':World):Prop:=∃ v,r=.returned (.tuple #[v,.int .i64 0])∧Ob b w' v L∧Gr w w'
theorem okx_pok {b:Nat} {L:List Int} {w:World} {r:Ending} {w':World} (h:Pok L w r w') (hb:b≤w.heap.size):Okx b L w r w':=by
 obtain ⟨v,h1,h2,h3⟩:=h
 exact ⟨v,h1,h2.base hb,h3⟩
theorem okx_opd {b:Nat} {P:List Int} (hP:P.length≤100000) {w:World} {r:Ending} {w':World} (h:Opd P w r w') (hb:b≤w.heap.size):Okx b P w r w':=by
 obtain ⟨g,h1,h2,h3,h4⟩:=h
 exact ⟨_,h1,(ob_of h3 rfl h2 (by omega)).base hb,h4⟩
theorem isB_take' {L:List Int} (h:IsB L) (n:Nat):IsB (L.take n):=fun x hx=>h x (List.mem_of_mem_take hx)
theorem drL_isB (r:Int) (K:List Int):IsB (drL r K):=isB_take' (okL_isB _ _ _) _
theorem rkL_isB (r:Int) (K:List Int) (f m:Bool):IsB (rkL r K f m):=okL_isB _ _ _
theorem evB_len (k a s:Int) {B:List Int} (h:B.length=105):(evB k a s B).length=114:=by simp [evB,lowL_len,h]
theorem sealL_len' (K N A P:List Int):(sealL K N A P).length=P.length+16:=sealL_len K N A P
theorem dropf_ok (r:Int) (hr:0≤r) (K:List Int) (hK:K.length=32) (hKb:IsB K) (f:Bool) (w:World) (hF:Fst w):Calls Tryz.prog 43 #[.agg (fl [bw K,[.bool f]]),.int .u64 r] w (Vl (.agg (kc (drL r K))) w):=by
 rw [← pair_fl]
 exact drop_ok r hr K hK hKb f w hF
theorem rkeyf_ok (r:Int) (hr:0≤r) (K:List Int) (hK:K.length=32) (hKb:IsB K) (f m:Bool) (w:World) (hF:Fst w):Calls Tryz.prog 44 #[.agg (fl [bw K,[.bool f]]),.int .u64 r,.bool m] w (Vl (.agg (kc (rkL r K f m))) w):=by
 rw [← pair_fl]
 exact roundkey_ok r hr K hK hKb f m w hF
theorem ydropf_ok (r:Int) (hr:0≤r∧r<18446744073709551616) (K:List Int) (hK:K.length=32) (hKb:IsB K) (f:Bool) (w:World) (hF:Fst w):Calls Tryz.prog 24 #[.agg (fl [bw K,[.bool f]]),.int .u64 r] w (Vl (.agg (kc (drL r K))) w):=by
 rw [← pair_fl]
 exact ydrop_ok r hr K hK hKb f w hF
theorem ykeyf_ok (b:Bool) (r:Int) (hr:0≤r∧r<18446744073709551616) (K:List Int) (hK:K.length=32) (hKb:IsB K) (f:Bool) (w:World) (hF:Fst w):Calls Tryz.prog 26 #[.agg (fl [bw K,[.bool f]]),.int .u64 r,.bool b] w (Vl (.agg (kc (okL r K (kyT b)))) w):=by
 rw [← pair_fl]
 exact ykey_ok b r hr K hK hKb f w hF
theorem putef_ok (k a s:Int) (B:List Int) (hl:B.length=105) (hb:IsB B) (ha:U4 a) (hs:U4 s) (hr:evR k s B=true) (w:World):Calls Tryz.prog 21 #[.agg (fl [[.int .i64 k],[.int .u32 a],[.int .u32 s],bw B])] w (Pok (evB k a s B) w):=by
 rw [← evl_fl]
 exact fpute_ok k a s B hl hb ha hs hr w
theorem putef_no (k a s:Int) (B:List Int) (hl:B.length=105) (hb:IsB B) (ha:U4 a) (hs:U4 s) (hr:evR k s B=false) (w:World):Calls Tryz.prog 21 #[.agg (fl [[.int .i64 k],[.int .u32 a],[.int .u32 s],bw B])] w (Pno w):=by
 rw [← evl_fl]
 exact fpute_no k a s B hl hb ha hs hr w
def evS (L:List Int):List (List Value):=[[.int .i64 (L.getD 0 0)],[.int .u32 (lowN ((L.drop 1).take 4))],[.int .u32 (lowN ((L.drop 5).take 4))],bw ((L.drop 9).take 105)]
theorem evO_fl (L:List Int):(evO L).toArray=fl (evS L):=evl_fl _ _ _ _
theorem getef_ok (L:List Int) (a:Option Addr) (c0:Nat) (w:World) (hB0:Lb w a 114 c0 L) (hr:evRO L=true):Calls Tryz.prog 31 #[.slice a 114 c0] w (Vl (.tuple #[.agg (fl (evS L)),.int .i64 0]) w):=by
 rw [← evO_fl]
 exact fgete_ok L a c0 w hB0 hr
set_option maxHeartbeats 4000000 in
theorem vempty_ok  (w:World)  : Calls Tryz.prog 16 #[] w (Nwb Z130 130 w):=by
 obtain ⟨T,hT⟩:∃ T:Ending→World→Prop,T=(Nwb Z130 130 w):=⟨_,rfl⟩
 rw [← hT]
 replace hT:=hide hT
 go_enter Tryz.func16,Tryz.ntmps16
 go_upto_region 1 with fail
 obtain ⟨u0,hu_⟩:∃ u,u=w:=⟨_,rfl⟩
 rw [← hu_]
 have hB:Bl w [] u0:=hu_ ▸ Bl.nil w
 clear hu_
 refine wp_region_lit ?_
 refine wpList_make_room u0 rfl (.const (.int .i64 130)) (.const (.int .i64 130)) rfl 130 130 130 130 (by kernel_rfl) (by kernel_rfl) (by omega) (by omega) (by omega) (by omega) ?_
 generalize hal_:World.alloc u0 _=u1
 have hv:u1.heap[u0.heap.size]?=some (.cells (kc Z130) 5 (0,0)):=by
  rw [← hal_]
  exact blk_new u0 (.cells (kc Z130) 5 (0,0))
 have hg:Gr u0 u1:=by
  rw [← hal_]
  exact (Gr.refl u0).alloc _
 have hsz:=hB.gr.size
 clear hal_
 generalize u0.heap.size=g at *
 replace hB:=hB.more hg
 simp only [nrm]
 (refine wpList_step fun K hK=>?_; replace hK:=hide hK; go_simp; refine unhide hK _ _ ?_; clear hK K)
 refine wpList_nil ?_
 replace hv:=hide hv
 replace hB:=hide hB
 go_wp2_with fail
 replace hB:=unhide hB
 rw [unhide hT]
 exact (⟨g,rfl,hsz,unhide hv,hB.gr⟩)
set_option maxHeartbeats 4000000 in
theorem terms_peer (r:Int) (hr:0≤r) (Ky:List Int) (hKy:Ky.length=32) (hKb:IsB Ky) (f:Bool) (Y N D:List Int) (w:World) (hF:Fst w) (hY:Y=rkL r Ky f true) (hN:N=cntL r) (hD:D=drL r Ky):Calls Tryz.prog 22 #[.agg (fl [bw Ky,[.bool f]]),.int .u64 r,.int .i64 0] w (Vl (.agg (fl [bw Y,bw N,bw D])) w):=by
 obtain ⟨T,hT⟩:∃ T:Ending→World→Prop,T=(Vl (.agg (fl [bw Y,bw N,bw D])) w):=⟨_,rfl⟩
 rw [← hT]
 replace hT:=hide hT
 have hYl:Y.length=32:=by rw [hY]; exact rkL_len _ _ _ _
 have hNl:N.length=12:=by rw [hN]; exact cntL_len _
 have hDl:D.length=16:=by rw [hD]; exact drL_len _ _
 obtain ⟨A0_,hA0_⟩:∃ S_,S_=fl [bw Ky,[.bool f]]:=⟨_,rfl⟩
 rw [← hA0_]
 replace hA0_:=hide hA0_
 replace hY:=hide hY
 replace hN:=hide hN
 replace hD:=hide hD
 replace hF:=hide hF
 replace hKb:=hide hKb
 go_enter Tryz.func22,Tryz.ntmps22
 go_upto_region 1 with fail
 have hB:=(((Bl.nil w).new A0_ 25).new (fl [bw Z32,bw ZN,bw Z16]) 66)
 simp only [size_alloc,List.nil_append,List.cons_append] at hB
 rw [unhide hA0_] at hB
 generalize hu_:World.alloc _ _=u0
 replace hB:Bl w [⟨w.heap.size,fl [bw Ky,[.bool f]],25⟩,⟨w.heap.size+1,fl [bw Z32,bw ZN,bw Z16],66⟩] u0:=by
  rw [← hu_]
  rw [unhide hA0_]
  exact hB
 clear hu_ hA0_
 refine any_start (S:=fun v_=>v_.heap[w.heap.size]?=some (.cells (fl [bw Ky,[.bool f]]) 25 (0,0))) (by kernel_rfl) ?_
 replace hB:=hB.drew
 generalize World.drew _=u1 at *
 have hB0:=hide hB
 have hsz_:Hid (Sz u1.heap.size u1):=Nat.le_refl _
 simp only [List.size_toArray,List.length_cons,List.length_nil,Array.replicate,List.replicate]
 refine any_tk 0 (.int .u64 r) (tf 8 0) rfl (fun x_ hu=>by kernel_rfl) (hB.get 0 (x:=⟨w.heap.size,fl [bw Ky,[.bool f]],25⟩) rfl) ?_
 simp only [nrm]
 refine any_tk 2 (.agg (fl [bw Ky,[.bool f]])) (tf 8 1) rfl (fun x_ hu=>exec_sw _ 25 (.tmp 3) rfl (w.heap.size) (by kernel_rfl) hu NP (nP hKy _) Tryz.underlying25 rfl (by kernel_rfl)) (hB.get 0 (x:=⟨w.heap.size,fl [bw Ky,[.bool f]],25⟩) rfl) ?_
 simp only [nrm]
 refine any_tk 3 (.int .u64 r) #[true,false,true,false,false,false,false,false] rfl (fun x_ hu=>by kernel_rfl) (hB.get 0 (x:=⟨w.heap.size,fl [bw Ky,[.bool f]],25⟩) rfl) ?_
 simp only [nrm]
 refine float_first (fun q u=>NKf u1.heap.size (fl [bw Z32,bw ZN,bw Z16]) 66 u q) 7 (fun b_=>#[true,false,true,true,false,false,b_,false]) 6 1 false rfl rfl (fun v_ g_=>g_.blk (hB.get 0 (x:=⟨w.heap.size,fl [bw Ky,[.bool f]],25⟩) rfl)) (by kernel_rfl) (fun b_=>by cases b_ <;> rfl) ?_ ?_
 all_goals simp only [fw1,Act.put,List.setIfInBounds_toArray,List.set_cons_zero,List.set_cons_succ,List.getElem_toArray,List.getElem_cons_zero,List.getElem_cons_succ]
 ·intro q_ x_ hgx K hK
  refine wpOp_step (o:=_) rfl (fun K' hK'=>?_)
  replace hK':=hide hK'
  replace hK:=hide hK
  refine step_val (.pointer (some ⟨x_.heap.size,0,none⟩)) (x_.alloc (.cells (fl [bw Z32,bw ZN,bw Z16]) 66 (0,0))) (by kernel_rfl) (by kernel_rfl) ?_
  exact unhide hK' _ _ (unhide hK _ _ ((Gr.refl _).alloc _) (⟨_,rfl,Nat.le_trans (unhide hsz_) hgx.size,blk_new _ _⟩))
 intro b1_1 q1_1 x1_1 hg hTq hall
 replace hsz_:=hide ((unhide hsz_).gr hg)
 replace hB:=hB.more hg
 clear hg
 clear hall
 refine wpOp_step (o:=_) rfl (fun K hK=>?_)
 replace hK:=hide hK
 refine step_callw (by kernel_rfl) 42 #[.int .u64 r] (by kernel_rfl) (((show Calls Tryz.prog 42 #[.int .u64 r] x1_1 (Vl (.agg (kc N)) x1_1) from by rw [unhide hN]; exact count_ok r hr x1_1)).mono ?_)
 rintro r u2 ⟨rfl,hg⟩
 refine ⟨_,rfl,?_⟩
 replace hTq:=fun e=>NKf.gr (hTq e) hg
 replace hsz_:=hide ((unhide hsz_).gr hg)
 replace hB:=hB.more hg
 clear hg
 refine unhide hK _ _ ⟨(hB.get 0 (x:=⟨w.heap.size,fl [bw Ky,[.bool f]],25⟩) rfl),?_⟩
 clear hK K
 simp only [nrm]
 refine float_again (fun q u=>NKf u1.heap.size (fl [bw Z32,bw ZN,bw Z16]) 66 u q) 7 (fun b_=>#[true,true,true,true,false,false,b_,false]) 6 4 false (b:=b1_1) (q:=q1_1) rfl rfl hTq (fun v_ g_=>g_.blk (hB.get 0 (x:=⟨w.heap.size,fl [bw Ky,[.bool f]],25⟩) rfl)) (by kernel_rfl) (fun b_=>by cases b_ <;> rfl) ?_ ?_
 all_goals simp only [fw1,Act.put,List.setIfInBounds_toArray,List.set_cons_zero,List.set_cons_succ,List.getElem_toArray,List.getElem_cons_zero,List.getElem_cons_succ]
 ·intro q_ x_ hgx K hK
  refine wpOp_step (o:=_) rfl (fun K' hK'=>?_)
  replace hK':=hide hK'
  replace hK:=hide hK
  refine step_val (.pointer (some ⟨x_.heap.size,0,none⟩)) (x_.alloc (.cells (fl [bw Z32,bw ZN,bw Z16]) 66 (0,0))) (by kernel_rfl) (by kernel_rfl) ?_
  exact unhide hK' _ _ (unhide hK _ _ ((Gr.refl _).alloc _) (⟨_,rfl,Nat.le_trans (unhide hsz_) hgx.size,blk_new _ _⟩))
 clear hTq
 intro b1_4 q1_4 x1_4 hg hTq hall
 replace hsz_:=hide ((unhide hsz_).gr hg)
 replace hB:=hB.more hg
 clear hg
 clear hall
 refine wpOp_step (o:=_) rfl (fun K hK=>?_)
 replace hK:=hide hK
 refine step_callw (by kernel_rfl) 43 #[.agg (fl [bw Ky,[.bool f]]),.int .u64 r] (by kernel_rfl) (((show Calls Tryz.prog 43 #[.agg (fl [bw Ky,[.bool f]]),.int .u64 r] x1_4 (Vl (.agg (kc D)) x1_4) from by rw [unhide hD]; exact dropf_ok r hr Ky hKy (unhide hKb) f x1_4 ((unhide hF).gr hB.gr))).mono ?_)
 rintro r u3 ⟨rfl,hg⟩
 refine ⟨_,rfl,?_⟩
 replace hTq:=fun e=>NKf.gr (hTq e) hg
 replace hsz_:=hide ((unhide hsz_).gr hg)
 replace hB:=hB.more hg
 clear hg
 refine unhide hK _ _ ⟨(hB.get 0 (x:=⟨w.heap.size,fl [bw Ky,[.bool f]],25⟩) rfl),?_⟩
 clear hK K
 simp only [nrm]
 refine any_tk 5 (.agg (fl [bw Z32,bw N,bw D])) (tf 8 5) rfl (fun x_ hu=>bT12 _ (.tmp 9) (.tmp 12) rfl hNl hDl (by kernel_rfl) (by kernel_rfl)) (hB.get 0 (x:=⟨w.heap.size,fl [bw Ky,[.bool f]],25⟩) rfl) ?_
 simp only [nrm]
 refine float_again (fun q u=>NKf u1.heap.size (fl [bw Z32,bw ZN,bw Z16]) 66 u q) 7 (fun b_=>#[true,true,true,true,true,true,b_,false]) 6 7 true (b:=b1_4) (q:=q1_4) rfl rfl hTq (fun v_ g_=>g_.blk (hB.get 0 (x:=⟨w.heap.size,fl [bw Ky,[.bool f]],25⟩) rfl)) (by kernel_rfl) (fun b_=>by cases b_ <;> rfl) ?_ ?_
 all_goals simp only [fw1,Act.put,List.setIfInBounds_toArray,List.set_cons_zero,List.set_cons_succ,List.getElem_toArray,List.getElem_cons_zero,List.getElem_cons_succ]
 ·intro q_ x_ hgx K hK
  refine wpOp_step (o:=_) rfl (fun K' hK'=>?_)
  replace hK':=hide hK'
  replace hK:=hide hK
  refine step_val (.pointer (some ⟨x_.heap.size,0,none⟩)) (x_.alloc (.cells (fl [bw Z32,bw ZN,bw Z16]) 66 (0,0))) (by kernel_rfl) (by kernel_rfl) ?_
  exact unhide hK' _ _ (unhide hK _ _ ((Gr.refl _).alloc _) (⟨_,rfl,Nat.le_trans (unhide hsz_) hgx.size,blk_new _ _⟩))
 clear hTq
 intro b1_7 q1_7 x1_7 hg hTq hall
 replace hsz_:=hide ((unhide hsz_).gr hg)
 replace hB:=hB.more hg
 clear hg
 obtain rfl:b1_7=true:=hall (by trivial)
 replace hTq:=hTq rfl
 clear hall
 obtain ⟨g7,rfl,hge_,hnew_⟩:=hTq
 replace hB:=Bl.joinz (unhide hB0) hB hge_ hnew_
 simp only [List.cons_append,List.nil_append] at hB
 clear hB0 hge_ hnew_
 refine wpOp_step (o:=_) rfl (fun K hK=>?_)
 replace hK:=hide hK
 refine step_all 66 (.tmp 7) (.tmp 13) (g7) (S2:=[bw Z32,bw N,bw D]) (by kernel_rfl) rfl (by kernel_rfl) (by kernel_rfl) hB 2 rfl NTm (nT (show List.length Z32=32 from rfl) (show List.length ZN=12 from rfl) (show List.length Z16=16 from rfl)) (nT (show List.length Z32=32 from rfl) hNl hDl) (by kernel_rfl) (oT _ _ _) ?_
 intro u4 hB_ hbt_
 clear hB
 replace hB:Bl w [⟨w.heap.size,fl [bw Ky,[.bool f]],25⟩,⟨w.heap.size+1,fl [bw Z32,bw ZN,bw Z16],66⟩,⟨g7,fl [bw Z32,bw N,bw D],66⟩] u4:=hB_
 clear hB_
 clear hbt_
 refine unhide hK _ _ ⟨(hB.get 0 (x:=⟨w.heap.size,fl [bw Ky,[.bool f]],25⟩) rfl),?_⟩
 clear hK K
 simp only [nrm]
 refine any_done (by kernel_rfl) ?_
 clear hsz_
 replace hB:=hide hB
 go_upto_region 4 with fail
 replace hB:=unhide hB
 refine wp_region_lit ?_
 refine list_val (.agg (fl [bw Ky,[.bool f]])) (by kernel_rfl) (exec_sw _ 25 (.tmp 3) rfl (w.heap.size) (by kernel_rfl) (hB.get 0 (x:=⟨w.heap.size,fl [bw Ky,[.bool f]],25⟩) rfl) NP (nP hKy _) Tryz.underlying25 rfl (by kernel_rfl)) ?_
 simp only [nrm]
 refine lvk (.int .u64 r) ?_
 simp only [nrm]
 refine list_call 44 #[.agg (fl [bw Ky,[.bool f]]),.int .u64 r,.bool true] (by kernel_rfl) (by kernel_rfl) (((show Calls Tryz.prog 44 #[.agg (fl [bw Ky,[.bool f]]),.int .u64 r,.bool true] u4 (Vl (.agg (kc Y)) u4) from by rw [unhide hY]; exact rkeyf_ok r hr Ky hKy (unhide hKb) f true u4 ((unhide hF).gr hB.gr))).mono ?_)
 rintro r_ u5 ⟨rfl,hg⟩
 replace hB:=hB.more hg
 clear hg
 refine ⟨_,rfl,?_⟩
 simp only [nrm]
 refine lvk (.pointer (some ⟨g7,0,none⟩)) ?_
 simp only [nrm]
 refine list_seg 23 (.tmp 20) (.tmp 19) (g7) 0 (bw Y) (by kernel_rfl) rfl (by kernel_rfl) (by kernel_rfl) hB 2 rfl NTm (nT (show List.length Z32=32 from rfl) hNl hDl) 0 (by rw [bw_len,hYl]; rfl) rfl (by rw [bw_len,hYl]; kernel_rfl) (bw_one _) ?_
 intro u6 hB_ hbt_
 clear hB
 replace hB:Bl w [⟨w.heap.size,fl [bw Ky,[.bool f]],25⟩,⟨w.heap.size+1,fl [bw Z32,bw ZN,bw Z16],66⟩,⟨g7,fl [bw Y,bw N,bw D],66⟩] u6:=hB_
 clear hB_
 clear hbt_
 simp only [nrm]
 refine wpList_nil ?_
 replace hB:=hide hB
 go_upto_region 7 with fail
 replace hB:=unhide hB
 refine wp_region_lit ?_
 refine list_val (.agg (fl [bw Y,bw N,bw D])) (by kernel_rfl) (exec_sw _ 66 (.tmp 7) rfl (g7) (by kernel_rfl) (hB.get 2 (x:=⟨g7,fl [bw Y,bw N,bw D],66⟩) rfl) NTm (nT hYl hNl hDl) Tryz.underlying66 rfl (by kernel_rfl)) ?_
 simp only [nrm]
 refine list_all 66 (.tmp 6) (.tmp 27) (w.heap.size+1) (S2:=[bw Y,bw N,bw D]) (by kernel_rfl) rfl (by kernel_rfl) (by kernel_rfl) hB 1 rfl NTm (nT (show List.length Z32=32 from rfl) (show List.length ZN=12 from rfl) (show List.length Z16=16 from rfl)) (nT hYl hNl hDl) (by kernel_rfl) (oT _ _ _) ?_
 intro u7 hB_ hbt_
 clear hB
 replace hB:Bl w [⟨w.heap.size,fl [bw Ky,[.bool f]],25⟩,⟨w.heap.size+1,fl [bw Y,bw N,bw D],66⟩,⟨g7,fl [bw Y,bw N,bw D],66⟩] u7:=hB_
 clear hB_
 clear hbt_
 simp only [nrm]
 refine wpList_nil ?_
 replace hB:=hide hB
 go_wp2_with fail
 replace hB:=unhide hB
 rw [unhide hT]
 exact bodyPost_ret (v:=.agg (fl [bw Y,bw N,bw D])) (res1 Tryz.results22 (rv_cell (by kernel_rfl) (hB.get 1 (x:=⟨w.heap.size+1,fl [bw Y,bw N,bw D],66⟩) rfl) Tryz.underlying66 rfl (by rw [fl_size (nT hYl hNl hDl)]; kernel_rfl))) rfl (⟨rfl,hB.gr⟩)
set_option maxHeartbeats 4000000 in
theorem terms_me (r:Int) (hr:0≤r) (Ky:List Int) (hKy:Ky.length=32) (hKb:IsB Ky) (f:Bool) (Y N D:List Int) (w:World) (hF:Fst w) (hY:Y=rkL r Ky f false) (hN:N=cntL r) (hD:D=drL r Ky):Calls Tryz.prog 22 #[.agg (fl [bw Ky,[.bool f]]),.int .u64 r,.int .i64 1] w (Vl (.agg (fl [bw Y,bw N,bw D])) w):=by
 obtain ⟨T,hT⟩:∃ T:Ending→World→Prop,T=(Vl (.agg (fl [bw Y,bw N,bw D])) w):=⟨_,rfl⟩
 rw [← hT]
 replace hT:=hide hT
 have hYl:Y.length=32:=by rw [hY]; exact rkL_len _ _ _ _
 have hNl:N.length=12:=by rw [hN]; exact cntL_len _
 have hDl:D.length=16:=by rw [hD]; exact drL_len _ _
 obtain ⟨A0_,hA0_⟩:∃ S_,S_=fl [bw Ky,[.bool f]]:=⟨_,rfl⟩
 rw [← hA0_]
 replace hA0_:=hide hA0_
 replace hY:=hide hY
 replace hN:=hide hN
 replace hD:=hide hD
 replace hF:=hide hF
 replace hKb:=hide hKb
 go_enter Tryz.func22,Tryz.ntmps22
 go_upto_region 1 with fail
 have hB:=(((Bl.nil w).new A0_ 25).new (fl [bw Z32,bw ZN,bw Z16]) 66)
 simp only [size_alloc,List.nil_append,List.cons_append] at hB
 rw [unhide hA0_] at hB
 generalize hu_:World.alloc _ _=u0
 replace hB:Bl w [⟨w.heap.size,fl [bw Ky,[.bool f]],25⟩,⟨w.heap.size+1,fl [bw Z32,bw ZN,bw Z16],66⟩] u0:=by
  rw [← hu_]
  rw [unhide hA0_]
  exact hB
 clear hu_ hA0_
 refine any_start (S:=fun v_=>v_.heap[w.heap.size]?=some (.cells (fl [bw Ky,[.bool f]]) 25 (0,0))) (by kernel_rfl) ?_
 replace hB:=hB.drew
 generalize World.drew _=u1 at *
 have hB0:=hide hB
 have hsz_:Hid (Sz u1.heap.size u1):=Nat.le_refl _
 simp only [List.size_toArray,List.length_cons,List.length_nil,Array.replicate,List.replicate]
 refine any_tk 0 (.int .u64 r) (tf 8 0) rfl (fun x_ hu=>by kernel_rfl) (hB.get 0 (x:=⟨w.heap.size,fl [bw Ky,[.bool f]],25⟩) rfl) ?_
 simp only [nrm]
 refine any_tk 2 (.agg (fl [bw Ky,[.bool f]])) (tf 8 1) rfl (fun x_ hu=>exec_sw _ 25 (.tmp 3) rfl (w.heap.size) (by kernel_rfl) hu NP (nP hKy _) Tryz.underlying25 rfl (by kernel_rfl)) (hB.get 0 (x:=⟨w.heap.size,fl [bw Ky,[.bool f]],25⟩) rfl) ?_
 simp only [nrm]
 refine any_tk 3 (.int .u64 r) #[true,false,true,false,false,false,false,false] rfl (fun x_ hu=>by kernel_rfl) (hB.get 0 (x:=⟨w.heap.size,fl [bw Ky,[.bool f]],25⟩) rfl) ?_
 simp only [nrm]
 refine float_first (fun q u=>NKf u1.heap.size (fl [bw Z32,bw ZN,bw Z16]) 66 u q) 7 (fun b_=>#[true,false,true,true,false,false,b_,false]) 6 1 false rfl rfl (fun v_ g_=>g_.blk (hB.get 0 (x:=⟨w.heap.size,fl [bw Ky,[.bool f]],25⟩) rfl)) (by kernel_rfl) (fun b_=>by cases b_ <;> rfl) ?_ ?_
 all_goals simp only [fw1,Act.put,List.setIfInBounds_toArray,List.set_cons_zero,List.set_cons_succ,List.getElem_toArray,List.getElem_cons_zero,List.getElem_cons_succ]
 ·intro q_ x_ hgx K hK
  refine wpOp_step (o:=_) rfl (fun K' hK'=>?_)
  replace hK':=hide hK'
  replace hK:=hide hK
  refine step_val (.pointer (some ⟨x_.heap.size,0,none⟩)) (x_.alloc (.cells (fl [bw Z32,bw ZN,bw Z16]) 66 (0,0))) (by kernel_rfl) (by kernel_rfl) ?_
  exact unhide hK' _ _ (unhide hK _ _ ((Gr.refl _).alloc _) (⟨_,rfl,Nat.le_trans (unhide hsz_) hgx.size,blk_new _ _⟩))
 intro b1_1 q1_1 x1_1 hg hTq hall
 replace hsz_:=hide ((unhide hsz_).gr hg)
 replace hB:=hB.more hg
 clear hg
 clear hall
 refine wpOp_step (o:=_) rfl (fun K hK=>?_)
 replace hK:=hide hK
 refine step_callw (by kernel_rfl) 42 #[.int .u64 r] (by kernel_rfl) (((show Calls Tryz.prog 42 #[.int .u64 r] x1_1 (Vl (.agg (kc N)) x1_1) from by rw [unhide hN]; exact count_ok r hr x1_1)).mono ?_)
 rintro r u2 ⟨rfl,hg⟩
 refine ⟨_,rfl,?_⟩
 replace hTq:=fun e=>NKf.gr (hTq e) hg
 replace hsz_:=hide ((unhide hsz_).gr hg)
 replace hB:=hB.more hg
 clear hg
 refine unhide hK _ _ ⟨(hB.get 0 (x:=⟨w.heap.size,fl [bw Ky,[.bool f]],25⟩) rfl),?_⟩
 clear hK K
 simp only [nrm]
 refine float_again (fun q u=>NKf u1.heap.size (fl [bw Z32,bw ZN,bw Z16]) 66 u q) 7 (fun b_=>#[true,true,true,true,false,false,b_,false]) 6 4 false (b:=b1_1) (q:=q1_1) rfl rfl hTq (fun v_ g_=>g_.blk (hB.get 0 (x:=⟨w.heap.size,fl [bw Ky,[.bool f]],25⟩) rfl)) (by kernel_rfl) (fun b_=>by cases b_ <;> rfl) ?_ ?_
 all_goals simp only [fw1,Act.put,List.setIfInBounds_toArray,List.set_cons_zero,List.set_cons_succ,List.getElem_toArray,List.getElem_cons_zero,List.getElem_cons_succ]
 ·intro q_ x_ hgx K hK
  refine wpOp_step (o:=_) rfl (fun K' hK'=>?_)
  replace hK':=hide hK'
  replace hK:=hide hK
  refine step_val (.pointer (some ⟨x_.heap.size,0,none⟩)) (x_.alloc (.cells (fl [bw Z32,bw ZN,bw Z16]) 66 (0,0))) (by kernel_rfl) (by kernel_rfl) ?_
  exact unhide hK' _ _ (unhide hK _ _ ((Gr.refl _).alloc _) (⟨_,rfl,Nat.le_trans (unhide hsz_) hgx.size,blk_new _ _⟩))
 clear hTq
 intro b1_4 q1_4 x1_4 hg hTq hall
 replace hsz_:=hide ((unhide hsz_).gr hg)
 replace hB:=hB.more hg
 clear hg
 clear hall
 refine wpOp_step (o:=_) rfl (fun K hK=>?_)
 replace hK:=hide hK
 refine step_callw (by kernel_rfl) 43 #[.agg (fl [bw Ky,[.bool f]]),.int .u64 r] (by kernel_rfl) (((show Calls Tryz.prog 43 #[.agg (fl [bw Ky,[.bool f]]),.int .u64 r] x1_4 (Vl (.agg (kc D)) x1_4) from by rw [unhide hD]; exact dropf_ok r hr Ky hKy (unhide hKb) f x1_4 ((unhide hF).gr hB.gr))).mono ?_)
 rintro r u3 ⟨rfl,hg⟩
 refine ⟨_,rfl,?_⟩
 replace hTq:=fun e=>NKf.gr (hTq e) hg
 replace hsz_:=hide ((unhide hsz_).gr hg)
 replace hB:=hB.more hg
 clear hg
 refine unhide hK _ _ ⟨(hB.get 0 (x:=⟨w.heap.size,fl [bw Ky,[.bool f]],25⟩) rfl),?_⟩
 clear hK K
 simp only [nrm]
 refine any_tk 5 (.agg (fl [bw Z32,bw N,bw D])) (tf 8 5) rfl (fun x_ hu=>bT12 _ (.tmp 9) (.tmp 12) rfl hNl hDl (by kernel_rfl) (by kernel_rfl)) (hB.get 0 (x:=⟨w.heap.size,fl [bw Ky,[.bool f]],25⟩) rfl) ?_
 simp only [nrm]
 refine float_again (fun q u=>NKf u1.heap.size (fl [bw Z32,bw ZN,bw Z16]) 66 u q) 7 (fun b_=>#[true,true,true,true,true,true,b_,false]) 6 7 true (b:=b1_4) (q:=q1_4) rfl rfl hTq (fun v_ g_=>g_.blk (hB.get 0 (x:=⟨w.heap.size,fl [bw Ky,[.bool f]],25⟩) rfl)) (by kernel_rfl) (fun b_=>by cases b_ <;> rfl) ?_ ?_
 all_goals simp only [fw1,Act.put,List.setIfInBounds_toArray,List.set_cons_zero,List.set_cons_succ,List.getElem_toArray,List.getElem_cons_zero,List.getElem_cons_succ]
 ·intro q_ x_ hgx K hK
  refine wpOp_step (o:=_) rfl (fun K' hK'=>?_)
  replace hK':=hide hK'
  replace hK:=hide hK
  refine step_val (.pointer (some ⟨x_.heap.size,0,none⟩)) (x_.alloc (.cells (fl [bw Z32,bw ZN,bw Z16]) 66 (0,0))) (by kernel_rfl) (by kernel_rfl) ?_
  exact unhide hK' _ _ (unhide hK _ _ ((Gr.refl _).alloc _) (⟨_,rfl,Nat.le_trans (unhide hsz_) hgx.size,blk_new _ _⟩))
 clear hTq
 intro b1_7 q1_7 x1_7 hg hTq hall
 replace hsz_:=hide ((unhide hsz_).gr hg)
 replace hB:=hB.more hg
 clear hg
 obtain rfl:b1_7=true:=hall (by trivial)
 replace hTq:=hTq rfl
 clear hall
 obtain ⟨g7,rfl,hge_,hnew_⟩:=hTq
 replace hB:=Bl.joinz (unhide hB0) hB hge_ hnew_
 simp only [List.cons_append,List.nil_append] at hB
 clear hB0 hge_ hnew_
 refine wpOp_step (o:=_) rfl (fun K hK=>?_)
 replace hK:=hide hK
 refine step_all 66 (.tmp 7) (.tmp 13) (g7) (S2:=[bw Z32,bw N,bw D]) (by kernel_rfl) rfl (by kernel_rfl) (by kernel_rfl) hB 2 rfl NTm (nT (show List.length Z32=32 from rfl) (show List.length ZN=12 from rfl) (show List.length Z16=16 from rfl)) (nT (show List.length Z32=32 from rfl) hNl hDl) (by kernel_rfl) (oT _ _ _) ?_
 intro u4 hB_ hbt_
 clear hB
 replace hB:Bl w [⟨w.heap.size,fl [bw Ky,[.bool f]],25⟩,⟨w.heap.size+1,fl [bw Z32,bw ZN,bw Z16],66⟩,⟨g7,fl [bw Z32,bw N,bw D],66⟩] u4:=hB_
 clear hB_
 clear hbt_
 refine unhide hK _ _ ⟨(hB.get 0 (x:=⟨w.heap.size,fl [bw Ky,[.bool f]],25⟩) rfl),?_⟩
 clear hK K
 simp only [nrm]
 refine any_done (by kernel_rfl) ?_
 clear hsz_
 replace hB:=hide hB
 go_upto_region 6 with fail
 replace hB:=unhide hB
 refine wp_region_lit ?_
 refine list_val (.agg (fl [bw Ky,[.bool f]])) (by kernel_rfl) (exec_sw _ 25 (.tmp 3) rfl (w.heap.size) (by kernel_rfl) (hB.get 0 (x:=⟨w.heap.size,fl [bw Ky,[.bool f]],25⟩) rfl) NP (nP hKy _) Tryz.underlying25 rfl (by kernel_rfl)) ?_
 simp only [nrm]
 refine lvk (.int .u64 r) ?_
 simp only [nrm]
 refine list_call 44 #[.agg (fl [bw Ky,[.bool f]]),.int .u64 r,.bool false] (by kernel_rfl) (by kernel_rfl) (((show Calls Tryz.prog 44 #[.agg (fl [bw Ky,[.bool f]]),.int .u64 r,.bool false] u4 (Vl (.agg (kc Y)) u4) from by rw [unhide hY]; exact rkeyf_ok r hr Ky hKy (unhide hKb) f false u4 ((unhide hF).gr hB.gr))).mono ?_)
 rintro r_ u5 ⟨rfl,hg⟩
 replace hB:=hB.more hg
 clear hg
 refine ⟨_,rfl,?_⟩
 simp only [nrm]
 refine lvk (.pointer (some ⟨g7,0,none⟩)) ?_
 simp only [nrm]
 refine list_seg 23 (.tmp 26) (.tmp 25) (g7) 0 (bw Y) (by kernel_rfl) rfl (by kernel_rfl) (by kernel_rfl) hB 2 rfl NTm (nT (show List.length Z32=32 from rfl) hNl hDl) 0 (by rw [bw_len,hYl]; rfl) rfl (by rw [bw_len,hYl]; kernel_rfl) (bw_one _) ?_
 intro u6 hB_ hbt_
 clear hB
 replace hB:Bl w [⟨w.heap.size,fl [bw Ky,[.bool f]],25⟩,⟨w.heap.size+1,fl [bw Z32,bw ZN,bw Z16],66⟩,⟨g7,fl [bw Y,bw N,bw D],66⟩] u6:=hB_
 clear hB_
 clear hbt_
 simp only [nrm]
 refine wpList_nil ?_
 replace hB:=hide hB
 go_upto_region 7 with fail
 replace hB:=unhide hB
 refine wp_region_lit ?_
 refine list_val (.agg (fl [bw Y,bw N,bw D])) (by kernel_rfl) (exec_sw _ 66 (.tmp 7) rfl (g7) (by kernel_rfl) (hB.get 2 (x:=⟨g7,fl [bw Y,bw N,bw D],66⟩) rfl) NTm (nT hYl hNl hDl) Tryz.underlying66 rfl (by kernel_rfl)) ?_
 simp only [nrm]
 refine list_all 66 (.tmp 6) (.tmp 27) (w.heap.size+1) (S2:=[bw Y,bw N,bw D]) (by kernel_rfl) rfl (by kernel_rfl) (by kernel_rfl) hB 1 rfl NTm (nT (show List.length Z32=32 from rfl) (show List.length ZN=12 from rfl) (show List.length Z16=16 from rfl)) (nT hYl hNl hDl) (by kernel_rfl) (oT _ _ _) ?_
 intro u7 hB_ hbt_
 clear hB
 replace hB:Bl w [⟨w.heap.size,fl [bw Ky,[.bool f]],25⟩,⟨w.heap.size+1,fl [bw Y,bw N,bw D],66⟩,⟨g7,fl [bw Y,bw N,bw D],66⟩] u7:=hB_
 clear hB_
 clear hbt_
 simp only [nrm]
 refine wpList_nil ?_
 replace hB:=hide hB
 go_wp2_with fail
 replace hB:=unhide hB
 rw [unhide hT]
 exact bodyPost_ret (v:=.agg (fl [bw Y,bw N,bw D])) (res1 Tryz.results22 (rv_cell (by kernel_rfl) (hB.get 1 (x:=⟨w.heap.size+1,fl [bw Y,bw N,bw D],66⟩) rfl) Tryz.underlying66 rfl (by rw [fl_size (nT hYl hNl hDl)]; kernel_rfl))) rfl (⟨rfl,hB.gr⟩)
set_option maxHeartbeats 4000000 in
theorem vseal_ok (Y N D:List Int) (hY:Y.length=32) (hN:N.length=12) (hD:D.length=16) (hYb:IsB Y) (hNb:IsB N) (hDb:IsB D) (P:List Int) (s:Option Addr) (n c:Nat) (hn:n≤20000) (w:World) (lp:Lb w s n c P):Calls Tryz.prog 23 #[.agg (fl [bw Y,bw N,bw D]),.slice s n c] w (Obd (sealL Y N D P) w):=by
 obtain ⟨T,hT⟩:∃ T:Ending→World→Prop,T=(Obd (sealL Y N D P) w):=⟨_,rfl⟩
 rw [← hT]
 replace hT:=hide hT
 obtain ⟨A0_,hA0_⟩:∃ S_,S_=fl [bw Y,bw N,bw D]:=⟨_,rfl⟩
 rw [← hA0_]
 replace hA0_:=hide hA0_
 replace hYb:=hide hYb
 replace hNb:=hide hNb
 replace hDb:=hide hDb
 replace lp:=hide lp
 go_enter Tryz.func23,Tryz.ntmps23
 go_upto_region 1 with fail
 have hB:=((Bl.nil w).new A0_ 66)
 simp only [size_alloc,List.nil_append,List.cons_append] at hB
 rw [unhide hA0_] at hB
 generalize hu_:World.alloc _ _=u0
 replace hB:Bl w [⟨w.heap.size,fl [bw Y,bw N,bw D],66⟩] u0:=by
  rw [← hu_]
  rw [unhide hA0_]
  exact hB
 clear hu_ hA0_
 refine any_start (S:=fun v_=>v_.heap[w.heap.size]?=some (.cells (fl [bw Y,bw N,bw D]) 66 (0,0))) (by kernel_rfl) ?_
 replace hB:=hB.drew
 generalize World.drew _=u1 at *
 simp only [List.size_toArray,List.length_cons,List.length_nil,Array.replicate,List.replicate]
 have hS_:=hide (show (fun v_=>v_.heap[w.heap.size]?=some (.cells (fl [bw Y,bw N,bw D]) 66 (0,0))) u1 from (hB.get 0 (x:=⟨w.heap.size,fl [bw Y,bw N,bw D],66⟩) rfl))
 refine any_tk 0 (.pointer (some ⟨w.heap.size,0,none⟩)) (tf 9 0) rfl (fun x_ hu=>by kernel_rfl) (unhide hS_) ?_
 simp only [nrm]
 refine any_tk 1 (.agg (kc Y)) (tf 9 1) rfl (fun x_ hu=>exec_sa _ 23 (.tmp 5) rfl (w.heap.size) 0 (by kernel_rfl) hu NTm (nT hY hN hD) 0 Y rfl rfl Tryz.underlying23 rfl (n:=32) rfl Tryz.infoKey) (unhide hS_) ?_
 simp only [nrm]
 refine any_tk 2 (.pointer (some ⟨w.heap.size,32,none⟩)) (tf 9 2) rfl (fun x_ hu=>by kernel_rfl) (unhide hS_) ?_
 simp only [nrm]
 refine any_tk 3 (.agg (kc N)) (tf 9 3) rfl (fun x_ hu=>exec_sa _ 64 (.tmp 7) rfl (w.heap.size) 32 (by kernel_rfl) hu NTm (nT hY hN hD) 1 N rfl rfl Tryz.underlying64 rfl (n:=12) rfl Tryz.infoN) (unhide hS_) ?_
 simp only [nrm]
 refine any_tk 4 (.pointer (some ⟨w.heap.size,44,none⟩)) (tf 9 4) rfl (fun x_ hu=>by kernel_rfl) (unhide hS_) ?_
 simp only [nrm]
 refine any_tk 5 (.slice (some ⟨w.heap.size,44,none⟩) 16 16) (tf 9 5) rfl (fun x_ hu=>by kernel_rfl) (unhide hS_) ?_
 simp only [nrm]
 refine any_tk 6 (.slice s n c) (tf 9 6) rfl (fun x_ hu=>by kernel_rfl) (unhide hS_) ?_
 simp only [nrm]
 refine any_one (i:=7) (by kernel_rfl) rfl (fun K hK=>?_)
 refine step_callw (by kernel_rfl) 45 #[.agg (kc Y),.agg (kc N),.slice (some ⟨w.heap.size,44,none⟩) 16 16,.slice s n c] (by kernel_rfl) ((((seal_ok Y N hY hN (unhide hYb) (unhide hNb) D P (some ⟨w.heap.size,44,none⟩) s 16 n 16 c hn u1 (seg_lb (nT hY hN hD) (hB.get 0 (x:=⟨w.heap.size,fl [bw Y,bw N,bw D],66⟩) rfl) 2 rfl rfl (unhide hDb) hD (by decide)) ((unhide lp).gr hB.gr)).mono fun _ _ h=>obx_of h hB.gr.size)).mono ?_)
 rintro r_ u2 ⟨v1,rfl,ho,hg⟩
 replace hB:=hB.more hg
 clear hg
 replace ho:=hide ho
 refine ⟨_,rfl,?_⟩
 clear hS_
 have hS_:=hide (show (fun v_=>v_.heap[w.heap.size]?=some (.cells (fl [bw Y,bw N,bw D]) 66 (0,0))) u2 from (hB.get 0 (x:=⟨w.heap.size,fl [bw Y,bw N,bw D],66⟩) rfl))
 refine hK.out _ _ (unhide hS_) (fun _=>?_)
 clear hK K
 simp only [nrm]
 refine any_one (i:=8) (by kernel_rfl) rfl (fun K hK=>?_)
 replace hK:=hide hK
 go_simp
 refine (unhide hK).out _ _ (unhide hS_) (fun _=>?_)
 clear hK K
 simp only [nrm]
 refine any_done (by kernel_rfl) ?_
 clear hS_
 replace hB:=hide hB
 go_wp2_with fail
 replace hB:=unhide hB
 rw [unhide hT]
 exact (⟨_,rfl,unhide ho,hB.gr⟩)
set_option maxHeartbeats 4000000 in
theorem vopen_yes (Y N D:List Int) (hY:Y.length=32) (hN:N.length=12) (hD:D.length=16) (hYb:IsB Y) (hNb:IsB N) (hDb:IsB D) (P:List Int) (s:Option Addr) (n c:Nat) (hn:n≤20000) (w:World) (hPb:IsB P) (lp:Lb w s n c (sealL Y N D P)):Calls Tryz.prog 30 #[.agg (fl [bw Y,bw N,bw D]),.slice s n c] w (Pok P w):=by
 obtain ⟨T,hT⟩:∃ T:Ending→World→Prop,T=(Pok P w):=⟨_,rfl⟩
 rw [← hT]
 replace hT:=hide hT
 obtain ⟨A0_,hA0_⟩:∃ S_,S_=fl [bw Y,bw N,bw D]:=⟨_,rfl⟩
 rw [← hA0_]
 replace hA0_:=hide hA0_
 replace hYb:=hide hYb
 replace hNb:=hide hNb
 replace hDb:=hide hDb
 replace lp:=hide lp
 go_enter Tryz.func30,Tryz.ntmps30
 go_upto_region 1 with fail
 have hB:=((Bl.nil w).new A0_ 66)
 simp only [size_alloc,List.nil_append,List.cons_append] at hB
 rw [unhide hA0_] at hB
 generalize hu_:World.alloc _ _=u0
 replace hB:Bl w [⟨w.heap.size,fl [bw Y,bw N,bw D],66⟩] u0:=by
  rw [← hu_]
  rw [unhide hA0_]
  exact hB
 clear hu_ hA0_
 refine any_start (S:=fun v_=>v_.heap[w.heap.size]?=some (.cells (fl [bw Y,bw N,bw D]) 66 (0,0))) (by kernel_rfl) ?_
 replace hB:=hB.drew
 generalize World.drew _=u1 at *
 simp only [List.size_toArray,List.length_cons,List.length_nil,Array.replicate,List.replicate]
 have hS_:=hide (show (fun v_=>v_.heap[w.heap.size]?=some (.cells (fl [bw Y,bw N,bw D]) 66 (0,0))) u1 from (hB.get 0 (x:=⟨w.heap.size,fl [bw Y,bw N,bw D],66⟩) rfl))
 refine any_tk 0 (.pointer (some ⟨w.heap.size,0,none⟩)) (tf 12 0) rfl (fun x_ hu=>by kernel_rfl) (unhide hS_) ?_
 simp only [nrm]
 refine any_tk 1 (.agg (kc Y)) (tf 12 1) rfl (fun x_ hu=>exec_sa _ 23 (.tmp 6) rfl (w.heap.size) 0 (by kernel_rfl) hu NTm (nT hY hN hD) 0 Y rfl rfl Tryz.underlying23 rfl (n:=32) rfl Tryz.infoKey) (unhide hS_) ?_
 simp only [nrm]
 refine any_tk 2 (.pointer (some ⟨w.heap.size,32,none⟩)) (tf 12 2) rfl (fun x_ hu=>by kernel_rfl) (unhide hS_) ?_
 simp only [nrm]
 refine any_tk 3 (.agg (kc N)) (tf 12 3) rfl (fun x_ hu=>exec_sa _ 64 (.tmp 8) rfl (w.heap.size) 32 (by kernel_rfl) hu NTm (nT hY hN hD) 1 N rfl rfl Tryz.underlying64 rfl (n:=12) rfl Tryz.infoN) (unhide hS_) ?_
 simp only [nrm]
 refine any_tk 4 (.pointer (some ⟨w.heap.size,44,none⟩)) (tf 12 4) rfl (fun x_ hu=>by kernel_rfl) (unhide hS_) ?_
 simp only [nrm]
 refine any_tk 5 (.slice (some ⟨w.heap.size,44,none⟩) 16 16) (tf 12 5) rfl (fun x_ hu=>by kernel_rfl) (unhide hS_) ?_
 simp only [nrm]
 refine any_tk 6 (.slice s n c) (tf 12 6) rfl (fun x_ hu=>by kernel_rfl) (unhide hS_) ?_
 simp only [nrm]
 refine any_one (i:=7) (by kernel_rfl) rfl (fun K hK=>?_)
 refine step_callw (by kernel_rfl) 51 #[.agg (kc Y),.agg (kc N),.slice (some ⟨w.heap.size,44,none⟩) 16 16,.slice s n c] (by kernel_rfl) ((((open_yes Y N hY hN (unhide hYb) (unhide hNb) D P hPb (some ⟨w.heap.size,44,none⟩) s 16 n 16 c hn u1 (seg_lb (nT hY hN hD) (hB.get 0 (x:=⟨w.heap.size,fl [bw Y,bw N,bw D],66⟩) rfl) 2 rfl rfl (unhide hDb) hD (by decide)) ((unhide lp).gr hB.gr)).mono fun _ _ h=>okx_opd (by have:=(unhide lp).len; rw [sealL_len] at this; omega) h hB.gr.size)).mono ?_)
 rintro r_ u2 ⟨v1,rfl,ho,hg⟩
 replace hB:=hB.more hg
 clear hg
 replace ho:=hide ho
 refine ⟨_,rfl,?_⟩
 clear hS_
 have hS_:=hide (show (fun v_=>v_.heap[w.heap.size]?=some (.cells (fl [bw Y,bw N,bw D]) 66 (0,0))) u2 from (hB.get 0 (x:=⟨w.heap.size,fl [bw Y,bw N,bw D],66⟩) rfl))
 refine hK.out _ _ (unhide hS_) (fun _=>?_)
 clear hK K
 simp only [nrm]
 refine any_tk 8 v1 (tf 12 8) rfl (fun x_ hu=>by kernel_rfl) (unhide hS_) ?_
 simp only [nrm]
 refine any_tk 9 (.int .i64 0) (tf 12 9) rfl (fun x_ hu=>by kernel_rfl) (unhide hS_) ?_
 simp only [nrm]
 refine any_one (i:=10) (by kernel_rfl) rfl (fun K hK=>?_)
 replace hK:=hide hK
 go_simp
 refine (unhide hK).out _ _ (unhide hS_) (fun _=>?_)
 clear hK K
 simp only [nrm]
 refine any_one (i:=11) (by kernel_rfl) rfl (fun K hK=>?_)
 replace hK:=hide hK
 go_simp
 refine (unhide hK).out _ _ (unhide hS_) (fun _=>?_)
 clear hK K
 simp only [nrm]
 refine any_done (by kernel_rfl) ?_
 clear hS_
 replace hB:=hide hB
 go_wp2_with fail
 replace hB:=unhide hB
 rw [unhide hT]
 exact (⟨_,rfl,unhide ho,hB.gr⟩)
end Go.Proofs.YthahhglbeafkmaaGreatDoor
namespace Go.Proofs.YthahhglbeafkmaaGreatDoor
open Go.RowKit
set_option maxRecDepth 100000
set_option linter.unusedSimpArgs false
set_option linter.unusedVariables false
set_option maxHeartbeats 4000000 in
theorem unread_0 (r:Int) (hr0:r≠0) (a:Option Addr) (c:Nat) (L:List Int) (w:World) (lp:Lb w a 130 c L) (hL:L≠Z130):Calls Tryz.prog 29 #[.int .u64 r,.slice a 130 c] w (Vl (.int .i64 0) w):=by
 obtain ⟨T,hT⟩:∃ T:Ending→World→Prop,T=Vl (.int .i64 0) w:=⟨_,rfl⟩
 rw [← hT]
 replace hT:=hide hT
 go_enter Tryz.func29,Tryz.ntmps29
 refine wp_seq ?_
 go_wp2_with fail
 refine wp_scope_straight ?_
 ·replace lp:=hide lp
  replace hL:=hide hL
  go_upto_region 3 with fail
  refine wp_region_lit ?_
  refine lvk (.slice a 130 c) ?_
  simp only [nrm]
  refine list_call 16 #[] (by kernel_rfl) (by kernel_rfl) ((vempty_ok w).mono ?_)
  rintro r_ u1 ⟨g,rfl,hg1,hg2,hg3⟩
  refine ⟨_,rfl,?_⟩
  simp only [nrm]
  refine list_call 50 #[.slice a 130 c,.slice (some ⟨g,0,none⟩) 130 130] (by kernel_rfl) (by kernel_rfl) ((oequal_ok L Z130 a (some ⟨g,0,none⟩) 130 c 130 (by decide) u1 ((unhide lp).gr hg3) (nw_lb hg2 (isB_rep 130) rfl (by decide))).mono ?_)
  rintro r_ u2 ⟨rfl,rfl⟩
  rw [show decide (L=Z130)=false from decide_eq_false (unhide hL)]
  refine ⟨_,rfl,?_⟩
  simp only [nrm]
  refine wpList_nil ?_
  go_wp2_with fail
  rw [unhide hT]
  exact ⟨rfl,hg3⟩
end Go.Proofs.YthahhglbeafkmaaGreatDoor
