/-
  What the proof leans on.
-/
import Derived.Test.YthahhglbeafkmaaGreatDoorChecked
import Derived.WalkKit
import Derived.WalkSpells
import Derived.WalkLawsBesides
import Derived.Laws.BitsAllLaws
import Derived.Laws.ShiftsVarLaws
import Derived.Laws.Bits64b
import Derived.Laws.Externs
import Derived.Lib.Mul64
import Derived.LoopN
import Derived.Deep.RegionHeld
import Derived.Deep.DrawnRows
import Derived.Laws.Tables
import Derived.Laws.CopyOwn
import Derived.WalkMore
import Derived.Deep.Cut
import Derived.StillTailTactics
import Derived.Deep.QuietTactic
import Derived.BigQuiet
import Derived.Deep.MidRow
import Derived.OwnWalk
import Derived.Laws.IdiomCopy
namespace Go.Proofs.YthahhglbeafkmaaGreatDoor
open Go.RowKit
theorem nrm : (∀ (a : Act) (i : Nat) (v : Value), Act.put a (some i) v = ⟨a.tmps.setIfInBounds i v, a.defers⟩) ∧ (∀ (a : Act) (v : Value), Act.put a none v = a) ∧ (∀ {α : Type} (l : List α) (i : Nat) (v : α), l.toArray.setIfInBounds i v = (l.set i v).toArray) ∧ (∀ {α : Type} (l : List α) (x v : α), (x :: l).set 0 v = v :: l) ∧ (∀ {α : Type} (l : List α) (x v : α) (i : Nat), (x :: l).set (i + 1) v = x :: l.set i v) ∧ (∀ {α : Type} (l : List α) (i : Nat) (h : i < l.toArray.size), l.toArray[i] = l[i]'(by simpa using h)) ∧ (∀ {α : Type} (l : List α) (x : α) (h : 0 < (x :: l).length), (x :: l)[0] = x) ∧ (∀ {α : Type} (l : List α) (x : α) (i : Nat) (h : i + 1 < (x :: l).length), (x :: l)[i + 1] = l[i]'(by simpa using h)) := by
  refine ⟨?_, ?_, ?_, ?_, ?_, ?_, ?_, ?_⟩ <;> intros <;> simp [Act.put]
set_option linter.unusedSimpArgs false
set_option linter.unusedVariables false
theorem hide {p:Prop} (h:p):Hid p:=h
theorem unhide {p:Prop} (h:Hid p):p:=h
def Gr (w w':World):Prop:=Below w.heap.size w w'
theorem Gr.refl (w:World):Gr w w:=⟨rfl,rfl,rfl,Nat.le_refl _,fun _ _=>rfl⟩
theorem Gr.trans {a b c:World} (h:Gr a b) (k:Gr b c):Gr a c :=
 ⟨k.os.trans h.os,k.tape.trans h.tape,k.output.trans h.output,Nat.le_trans h.size k.size,fun i hi=>(k.block i (Nat.lt_of_lt_of_le hi h.size)).trans (h.block i hi)⟩
theorem Gr.alloc {a w:World} (h:Gr a w) (o:Obj):Gr a (w.alloc o):=Below.alloc h h.size o
theorem Gr.drew {a w:World} (h:Gr a w):Gr a w.drew:=Below.drew h
theorem Gr.drewN {a w:World} (h:Gr a w) (n:Nat):Gr a (w.drewN n):=⟨h.os,h.tape,h.output,h.size,h.block⟩
theorem Gr.cell {w w':World} (h:Gr w w') {p:Addr} {v:Value} (hp:w.cell? p=some v):w'.cell? p=some v:=by
 have hlt:p.block<w.heap.size:=by
  rcases Nat.lt_or_ge p.block w.heap.size with h' | h'
  ·exact h'
  ·simp [World.cell?,Array.getElem?_eq_none h'] at hp
 rw [Below.cell h hlt]; exact hp
theorem Gr.blk {w w':World} (h:Gr w w') {b:Nat} {o:Obj} (hp:w.heap[b]?=some o):w'.heap[b]?=some o:=by
 rw [h.block b (lt_of_block hp)]; exact hp
theorem blk_alloc (w:World) (o:Obj) (i:Nat):(w.alloc o).heap[i]?=if i=w.heap.size then some o else w.heap[i]?:=by
 show (w.heap.push o)[i]?=_
 rw [Array.getElem?_push]
theorem size_alloc (w:World) (o:Obj):(w.alloc o).heap.size=w.heap.size+1:=by
 show (w.heap.push o).size=_
 simp
theorem blk_new (w:World) (o:Obj):(w.alloc o).heap[w.heap.size]?=some o:=by rw [blk_alloc,if_pos rfl]
theorem cell_of {w:World} {b i:Nat} {cs:Array Value} {t:TypeId} {z:Nat × Nat} {v:Value} (h:w.heap[b]?=some (.cells cs t z)) (hi:cs[i]?=some v):w.cell? ⟨b,i,none⟩=some v:=by
 simp [World.cell?,h,hi]
theorem froz_of {w:World} {b i:Nat} {cs:Array Value} {t:TypeId} (h:w.heap[b]?=some (.cells cs t (0,0))):w.frozen? ⟨b,i,none⟩=false:=by
 simp [World.frozen?,h]
theorem Gr.setCell {a w:World} (h:Gr a w) {p:Addr} (hp:a.heap.size≤p.block) (u:Value):Gr a (w.setCell p u):=Below.setCell h hp u
def five (a b c d e:Int):Value:=.agg #[.int .u64 a,.int .u64 b,.int .u64 c,.int .u64 d,.int .u64 e]
theorem wrap_id (a:Int) (h:0≤a) (h2:a<18446744073709551616):IntKind.u64.wrap a=a:=by rw [IntKind.wrap_u64]; omega
end Go.Proofs.YthahhglbeafkmaaGreatDoor
namespace Go.Proofs.YthahhglbeafkmaaGreatDoor
open Go.RowKit
set_option maxRecDepth 100000
set_option linter.unusedSimpArgs false
set_option linter.unusedVariables false
theorem falses_set (l:List Bool):∀ i,l[i]?=some false→((l.set i true).filter (!·)).length+1=(l.filter (!·)).length:=by
 induction l with
 | nil=>intro i h; simp at h
 | cons x l ih =>
  intro i h
  cases i with
  | zero=>simp at h; subst h; simp
  | succ i =>
   have:=ih i (by simpa using h)
   simp only [List.set_cons_succ,List.filter_cons]
   cases x <;> simp <;> omega
theorem exec_row {P:Program} {op:Oper} {a:Act} (w:World) (ty:TypeId) (x:Operand) (ho:op.op=.load ty x)
  (b o:Nat) (hx:a.eval x=.pointer (some ⟨b,o,none⟩)) (cs:List Value) (d:TypeDesc) (h:w.rangeAt b o cs)
  (hu:P.underlying ty=some d) (hd:d.isRow=true) (hi:(P.info? ty).map (·.size)=some cs.length):(execOp a.eval op).run P w=.ok (.value (.agg cs.toArray)) w:=by
 unfold execOp
 simp only [ho,hx,Instr.loadAt,Instr.sureAddr,Sem.run_bind,Sem.run_pure,Result.andThen_ok,run_loadVar_mid w b o ty cs d h hu hd hi]
theorem range_row {v:World} {b:Nat} {L:List Value} {t:TypeId} (h:v.heap[b]?=some (.cells L.toArray t (0,0))):v.rangeAt b 0 L:=by
 intro j x hj
 have:(L.toArray)[0+j]?=some x:=by simpa using hj
 exact cell_of h this
theorem step_callw {P:Program} {ops:Array Oper} {o:Oper} {a:Act} {w:World} {K:Act→World→Prop} {Q:Exit→Act→World→Prop} {E:Prop} (hw:Region.wanted o (yielded ops a.tmps)=true)
  (f:FuncId) (args:Array Value) (hrun:(execOp a.eval o).run P w=.ok (.enter f args) w) (hc:Calls P f args w fun e w'=>∃ v,e=.returned v∧K (a.put o.dst v) w') :
  if Region.wanted o (yielded ops a.tmps)=true then Oper.wp P o a w K Q else E:=by
 rw [if_pos hw]
 unfold Oper.wp
 rw [hrun,Oper.upon_enter]
 refine hc.mono fun e w'' hh=>?_
 obtain ⟨v,rfl,hK⟩:=hh
 exact hK
def Var (w0:World) (n:Nat) (t:TypeId) (w:World) (q:Value) (g:Nat):Prop:=q=.pointer (some ⟨g,0,none⟩)∧w0.heap.size≤g∧∃ o:Array Value,o.size=n∧w.heap[g]?=some (.cells o t (0,0))
structure D2 (w0:World) (A:Value→Value→Value→Value→Act) (F:Bool→Bool→Bool→Bool→Bool→Bool→Array Bool) (R1 R2:Array Value→Prop) (n1 n2:Nat) (t1 t2:TypeId)
  (b1 b2 b3 b4 b5 b6:Bool) (v1 v2 q1 q2:Value) (g1 g2:Nat) (c1 c2:Array Value) (l:Array Bool) (a:Act) (w:World):Prop where
 hl:l=F b1 b2 b3 b4 b5 b6
 ha:a=A v1 v2 q1 q2
 gr:Gr w0 w
 r1:b1=true→v1=.agg c1∧R1 c1
 r2:b2=true→v2=.agg c2∧R2 c2
 x1:b3=true→Var w0 n1 t1 w q1 g1
 x2:b4=true→Var w0 n2 t2 w q2 g2
 ne:b3=true→b4=true→g1≠g2
 s1:b5=true→b1=true∧b3=true∧w.heap[g1]?=some (.cells c1 t1 (0,0))
 s2:b6=true→b2=true∧b4=true∧w.heap[g2]?=some (.cells c2 t2 (0,0))
theorem Gr.row {a w:World} (h:Gr a w) (g:Nat) (hg:a.heap.size≤g) (cs:Array Value):Gr a (w.setRow g cs):=below_setRow h hg cs
def fr2 (a:Act) (d1 d2 d3 d4:Nat) (v1 v2 q1 q2:Value):Act:=(((a.put (some d1) v1).put (some d2) v2).put (some d3) q1).put (some d4) q2
end Go.Proofs.YthahhglbeafkmaaGreatDoor
namespace Go.Proofs.YthahhglbeafkmaaGreatDoor
open Go.RowKit
set_option maxRecDepth 100000
set_option linter.unusedSimpArgs false
set_option linter.unusedVariables false
structure Blk where
 g:Nat
 c:Array Value
 t:TypeId
def Blk.obj (x:Blk):Obj:=.cells x.c x.t (0,0)
structure Bl (w:World) (L:List Blk) (v:World):Prop where
 gr:Gr w v
 at_:∀ x ∈ L,v.heap[x.g]?=some x.obj∧w.heap.size≤x.g
 ne:L.Pairwise (fun x y=>x.g≠y.g)
theorem Bl.nil (w:World):Bl w [] w:=⟨Gr.refl w,(fun _ h=>by cases h),List.Pairwise.nil⟩
theorem Bl.more {w u v:World} {L:List Blk} (h:Bl w L u) (k:Gr u v):Bl w L v:=⟨h.gr.trans k,fun x hx=>⟨k.blk (h.at_ x hx).1,(h.at_ x hx).2⟩,h.ne⟩
theorem Bl.drew {w v:World} {L:List Blk} (h:Bl w L v):Bl w L v.drew:=h.more (Gr.refl v).drew
theorem Bl.drewN {w v:World} {L:List Blk} (h:Bl w L v) (n:Nat):Bl w L (v.drewN n):=h.more ((Gr.refl v).drewN n)
theorem Bl.get {w v:World} {L:List Blk} (h:Bl w L v) (i:Nat) {x:Blk} (hi:L[i]?=some x):v.heap[x.g]?=some (.cells x.c x.t (0,0)):=(h.at_ x (List.mem_of_getElem? hi)).1
theorem Bl.own {w v:World} {L:List Blk} (h:Bl w L v) (i:Nat) {x:Blk} (hi:L[i]?=some x):w.heap.size≤x.g:=(h.at_ x (List.mem_of_getElem? hi)).2
theorem Bl.set {w v:World} {L:List Blk} (h:Bl w L v) (i:Nat) {x:Blk} (hi:L[i]?=some x) (c:Array Value):Bl w (L.set i ⟨x.g,c,x.t⟩) (v.setRow x.g c):=by
 have hx:=h.get i hi
 have hn:∀ j y,L[j]?=some y→j≠i→y.g≠x.g:=by
  intro j y hj hji
  obtain ⟨hjl,rfl⟩:=List.getElem?_eq_some_iff.1 hj
  obtain ⟨hil,rfl⟩:=List.getElem?_eq_some_iff.1 hi
  rcases Nat.lt_or_gt_of_ne hji with hlt | hlt
  ·exact List.pairwise_iff_getElem.1 h.ne j i hjl hil hlt
  ·exact (List.pairwise_iff_getElem.1 h.ne i j hil hjl hlt).symm
 refine ⟨h.gr.row _ (h.own i hi) c,?_,?_⟩
 ·intro y hy
  obtain ⟨j,hj⟩:=List.mem_iff_getElem?.1 hy
  by_cases hji:j=i
  ·subst hji
   rw [List.getElem?_set_self' ,hi] at hj
   simp at hj
   have ho:=h.own j hi
   subst hj
   exact ⟨setRow_heap _ _ _ _ _ _ hx,ho⟩
  ·rw [List.getElem?_set_ne (fun e=>hji e.symm)] at hj
   exact ⟨(setRow_other _ _ _ _ (hn j y hj hji)).trans (h.get j hj),h.own j hj⟩
 ·refine List.pairwise_iff_getElem.2 fun a b ha hb hab=>?_
  rw [List.length_set] at ha hb
  have h0:=List.pairwise_iff_getElem.1 h.ne a b ha hb hab
  obtain ⟨hil,rfl⟩:=List.getElem?_eq_some_iff.1 hi
  rw [List.getElem_set,List.getElem_set]
  split
  ·rename_i e
   subst e
   split
   ·omega
   ·exact h0
  ·split
   ·rename_i e
    subst e
    exact h0
   ·exact h0
theorem Bl.new {w v:World} {L:List Blk} (h:Bl w L v) (c:Array Value) (t:TypeId):Bl w (L++[⟨v.heap.size,c,t⟩]) (v.alloc (.cells c t (0,0))):=by
 have k:=(Gr.refl v).alloc (.cells c t (0,0))
 have hm:=h.more k
 refine ⟨hm.gr,?_,?_⟩
 ·intro x hx
  rcases List.mem_append.1 hx with hx | hx
  ·exact hm.at_ x hx
  ·have:x=⟨v.heap.size,c,t⟩:=by simpa using hx
   subst this
   exact ⟨blk_new _ _,h.gr.size⟩
 ·refine List.pairwise_append.2 ⟨h.ne,List.pairwise_singleton _ _,fun x hx y hy=>?_⟩
  have:y=⟨v.heap.size,c,t⟩:=by simpa using hy
  subst this
  have:=lt_of_block (h.at_ x hx).1
  show x.g≠v.heap.size
  omega
theorem Bl.join {w W v:World} {L:List Blk} (h:Bl w L W) (k:Gr W v) (M:List Blk) (hm:∀ x ∈ M,v.heap[x.g]?=some x.obj∧W.heap.size≤x.g) (hp:M.Pairwise (fun x y=>x.g≠y.g)):Bl w (L++M) v:=by
 have h1:=h.more k
 refine ⟨h1.gr,?_,List.pairwise_append.2 ⟨h.ne,hp,?_⟩⟩
 ·intro x hx
  rcases List.mem_append.1 hx with hx | hx
  ·exact h1.at_ x hx
  ·exact ⟨(hm x hx).1,Nat.le_trans h.gr.size (hm x hx).2⟩
 ·intro x hx y hy
  have h2:=lt_of_block (h.at_ x hx).1
  have h3:=(hm y hy).2
  omega
def New (W:World) (z:Array Value) (t:TypeId) (w:World) (q:Value) (g:Nat):Prop:=q=.pointer (some ⟨g,0,none⟩)∧W.heap.size≤g∧w.heap[g]?=some (.cells z t (0,0))
theorem New.more {W u v:World} {z:Array Value} {t:TypeId} {q:Value} {g:Nat} (h:New W z t u q g) (k:Gr u v):New W z t v q g:=⟨h.1,h.2.1,k.blk h.2.2⟩
theorem exec_arr {P:Program} {op:Oper} {a:Act} (w:World) (ty:TypeId) (x:Operand) (ho:op.op=.load ty x)
  (b:Nat) (hx:a.eval x=.pointer (some ⟨b,0,none⟩)) (cs:Array Value) (t:TypeId) (d:TypeDesc) (h:w.heap[b]?=some (.cells cs t (0,0)))
  (hu:P.underlying ty=some d) (hd:d.isRow=true) (hi:(P.info? ty).map (·.size)=some cs.size):(execOp a.eval op).run P w=.ok (.value (.agg cs)) w:=by
 have:=exec_row (P:=P) (op:=op) (a:=a) w ty x ho b 0 hx cs.toList d (range_row (t:=t) (by simpa using h)) hu hd (by simpa using hi)
 simpa using this
/-! ### a list of operations,one behind the other -/
section
variable {P:Program} {ops:Array Oper} {Q:Exit→Act→World→Prop} {a:Act} {w:World} {o:Oper} {rest:List Oper}
theorem list_val (v:Value) (hw:Region.wanted o (yielded ops a.tmps)=true) (hx:(execOp a.eval o).run P w=.ok (.value v) w) (h:wpList P ops Q rest (a.put o.dst v) w):wpList P ops Q (o::rest) a w:=by
 refine wpList_step fun K hK=>?_
 rw [if_pos hw]
 unfold Oper.wp
 rw [hx]
 exact hK _ _ h
theorem list_call (f:FuncId) (args:Array Value) (hw:Region.wanted o (yielded ops a.tmps)=true) (hx:(execOp a.eval o).run P w=.ok (.enter f args) w)
  (hc:Calls P f args w fun e w'=>∃ v,e=.returned v∧wpList P ops Q rest (a.put o.dst v) w'):wpList P ops Q (o::rest) a w:=by
 refine wpList_step fun K hK=>?_
 refine step_callw hw f args hx (hc.mono ?_)
 rintro e w' ⟨v,rfl,h⟩
 exact ⟨v,rfl,hK _ _ h⟩
theorem list_store (ty:TypeId) (x y:Operand) (g:Nat) (c:Array Value) (t:TypeId) (old:Array Value) (hw:Region.wanted o (yielded ops a.tmps)=true) (ho:o.op=.store ty x y)
  (hx:a.eval x=.pointer (some ⟨g,0,none⟩)) (hy:a.eval y=.agg c) (hg:w.heap[g]?=some (.cells old t (0,0))) (hi:(P.info? ty).map (·.size)=some c.size) (hold:old.size=c.size) (h1:c.all (·.oneCell')=true)
  (h:wpList P ops Q rest (a.put o.dst undef) (w.setRow g c)):wpList P ops Q (o::rest) a w:=by
 refine wpList_step fun K hK=>?_
 rw [if_pos hw]
 exact wp_store_row ty x y ho g c hx hy t old hg hi hold h1 (hK _ _ h)
end
/-! ### an order that is drawn -/
section
variable {P:Program} {md:Region.Mode} {ops:Array Oper} {Q:Exit→Act→World→Prop} {S:World→Prop}
def Any (P:Program) (md:Region.Mode) (ops:Array Oper) (Q:Exit→Act→World→Prop) (S:World→Prop) (l:Array Bool) (a:Act) (w:World):Prop :=
 ∀ fuel,(l.toList.filter (!·)).length≤fuel→wpAnyH P md ops Q S fuel l a w
theorem left_of {l:Array Bool} {i:Nat} (h1:l.getD i true=false):((l.setIfInBounds i true).toList.filter (!·)).length+1=(l.toList.filter (!·)).length:=by
 have h2:l.toList[i]?=some false:=by
  rcases Nat.lt_or_ge i l.size with h | h
  ·rw [Array.getElem?_toList,Array.getElem?_eq_getElem h]
   simp [Array.getD,h] at h1
   rw [h1]
  ·simp [Array.getD,Nat.not_lt.2 h] at h1
 rw [Array.toList_setIfInBounds]
 exact falses_set l.toList i h2
theorem any_start {id:Nat} {a:Act} {w:World} (hm:P.follows .mixedOrders=true) (h:Any P .any ops Q S (Array.replicate ops.size false) a w.drew):(Code.region id ops true).wp P Q a w:=by
 refine wp_region_held hm (h ops.size ?_)
 simp
def leB (n:Nat) (l0 l:Array Bool):Bool:=(List.range n).all fun j => !(l0.getD j true) || l.getD j true
def rdB (md:Region.Mode) (ops:Array Oper) (l:Array Bool) (i:Nat):Bool:=decide (i<ops.size) && (!l.getD i true && ((ops[i]?).map (·.after.all fun e => !Region.binds md e || l.getD e.on false)).getD false)
theorem rdB_mem {l:Array Bool} {i:Nat} (h:rdB md ops l i=true):i ∈ Region.ready md ops l:=by
 unfold rdB at h
 rw [Bool.and_eq_true,decide_eq_true_eq] at h
 unfold Region.ready
 rw [List.mem_filter,List.mem_range]
 exact h
theorem any_take {i:Nat} {oi:Oper} {v:Value} {l:Array Bool} {a:Act} {w:World} (l0:Array Bool) (hi:ops[i]?=some oi)
  (hs:Region.noSelect ops=true) (hle:leB ops.size l0 l=true) (hf:Region.free md ops l0 i=true) (hr:rdB md ops l i=true)
  (hQ:∀ c a w,Q (.panic c) (a.put oi.dst v) w→Q (.panic c) a w) (hy:YieldsIf P ops S oi v a) (hS:S w)
  (h:Any P md ops Q S (l.setIfInBounds i true) (a.put oi.dst v) w):Any P md ops Q S l a w:=by
 intro fuel hfu
 have hm:=rdB_mem hr
 have h1:=left_of (mem_ready.1 hm).1
 obtain ⟨f,rfl⟩:∃ f,fuel=f+1:=⟨fuel - 1,by omega⟩
 refine wpAnyH_first hi (Region.noSelect_spec hs) hQ f l a w ?_ hm hy hS (h f (by omega))
 intro j oj hj hji hjl hn
 refine Region.free_spec hi hf j oj hj hji ?_ hn
 have hjs:j<ops.size:=by
  rcases Nat.lt_or_ge j ops.size with h | h
  ·exact h
  ·rw [Array.getElem?_eq_none h] at hj
   cases hj
 have h2:=List.all_eq_true.1 hle j (List.mem_range.2 hjs)
 rw [hjl] at h2
 simpa using h2
theorem any_done {l:Array Bool} {a:Act} {w:World} (hr:Region.ready md ops l=[]) (h:Q .normal a w):Any P md ops Q S l a w:=fun fuel _=>wpAnyH_done hr h fuel
theorem any_one {i:Nat} {o:Oper} {l:Array Bool} {a:Act} {w:World} (hr:Region.ready md ops l=[i]) (ho:ops[i]?=some o)
  (h:∀ K':Act→World→Prop,Shut (∀ a w,S w→(S w→Any P md ops Q S (l.setIfInBounds i true) a w)→K' a w)→if Region.wanted o (yielded ops a.tmps)=true then Oper.wp P o a w K' Q else K' (a.put o.dst undef) w):Any P md ops Q S l a w:=by
 intro fuel hfu
 have hm:i ∈ Region.ready md ops l:=by rw [hr]; exact List.mem_cons_self
 have h1:=left_of (mem_ready.1 hm).1
 obtain ⟨f,rfl⟩:∃ f,fuel=f+1:=⟨fuel - 1,by omega⟩
 refine wpAnyH_ready hr (by simp) (AllReadyH.cons ho (fun K hK=>?_) AllReadyH.nil)
 exact h K (fun a w hS hW=>hK.out a w hS (fun hS=>hW hS f (by omega)))
theorem any_stage (I:Array Bool→Act→World→Prop)
  (step:∀ l a w,I l a w→Region.ready md ops l≠[]∧∀ i ∈ Region.ready md ops l,wpOp P ops Q i (fun a' w'=>S w'∧(I (l.setIfInBounds i true) a' w'∨Any P md ops Q S (l.setIfInBounds i true) a' w')) a w)
  {l:Array Bool} {a:Act} {w:World} (h:I l a w):Any P md ops Q S l a w:=by
 intro fuel
 induction fuel generalizing l a w with
 | zero =>
  intro hfu
  exfalso
  obtain ⟨hne,_⟩:=step l a w h
  rcases hq:Region.ready md ops l with _ | ⟨i,r⟩
  ·exact hne hq
  ·have hm:i ∈ Region.ready md ops l:=by rw [hq]; exact List.mem_cons_self
   have:=left_of (mem_ready.1 hm).1
   omega
 | succ f ih =>
  intro hfu
  obtain ⟨hne,hs⟩:=step l a w h
  refine ⟨fun h0=>absurd h0 hne,fun i hm=>wpOp_mono (fun a' w' k=>⟨k.1,?_⟩) (hs i hm)⟩
  have h1:=left_of (mem_ready.1 hm).1
  rcases k.2 with k2 | k2
  ·exact ih k2 (by omega)
  ·exact k2 f (by omega)
end
end Go.Proofs.YthahhglbeafkmaaGreatDoor
namespace Go.Proofs.YthahhglbeafkmaaGreatDoor
open Go.RowKit
set_option maxRecDepth 100000
set_option linter.unusedSimpArgs false
set_option linter.unusedVariables false
def chkM1 (md:Region.Mode) (ops:Array Oper) (F:Bool→Array Bool) (i1 c:Nat) (all:Bool):Bool :=
 [false,true].all fun b1 =>
  !(Region.ready md ops (F b1)).isEmpty && (Region.ready md ops (F b1)).all fun i=>(i == i1 && !b1) || (i == c && (!all || (b1)))
theorem chkM1_spec {md:Region.Mode} {ops:Array Oper} {F:Bool→Array Bool} {i1 c:Nat} {all:Bool} (h:chkM1 md ops F i1 c all=true) :
  ∀ b1,Region.ready md ops (F b1)≠[]∧∀ i ∈ Region.ready md ops (F b1),(i=i1∧b1=false)∨(i=c∧(all=true→b1=true)):=by
 have mb:∀ b:Bool,b ∈ [false,true]:=by intro b; cases b <;> simp
 intro b1
 have h1:=(List.all_eq_true.1 h b1 (mb b1))
 rw [Bool.and_eq_true] at h1
 refine ⟨fun e=>?_,fun i hi=>?_⟩
 ·rw [e] at h1
  exact absurd h1.1 (by decide)
 ·have h2:=List.all_eq_true.1 h1.2 i hi
  rw [Bool.or_eq_true] at h2
  rcases h2 with h2 | h2
  ·simp only [Bool.and_eq_true,beq_iff_eq,Bool.not_eq_true'] at h2
   exact .inl h2
  ·rw [Bool.and_eq_true,beq_iff_eq] at h2
   obtain ⟨rfl,h3⟩:=h2
   refine .inr ⟨rfl,fun ha=>?_⟩
   rw [ha] at h3
   simpa using h3
def fw1 (a:Act) (p1:Nat) (q1:Value):Act:=⟨(a.tmps.setIfInBounds p1 q1),a.defers⟩
end Go.Proofs.YthahhglbeafkmaaGreatDoor
namespace Go.Proofs.YthahhglbeafkmaaGreatDoor
open Go.RowKit
set_option maxRecDepth 100000
set_option linter.unusedSimpArgs false
set_option linter.unusedVariables false
theorem Bl.cell {w v:World} {L:List Blk} (h:Bl w L v) (k:Nat) {x:Blk} (hk:L[k]?=some x) (i:Nat) (y:Value):Bl w (L.set k ⟨x.g,x.c.setIfInBounds i y,x.t⟩) (v.setCell ⟨x.g,i,none⟩ y):=by
 have hx:=h.get k hk
 have hn:∀ j y,L[j]?=some y→j≠k→y.g≠x.g:=by
  intro j y hj hji
  obtain ⟨hjl,rfl⟩:=List.getElem?_eq_some_iff.1 hj
  obtain ⟨hil,rfl⟩:=List.getElem?_eq_some_iff.1 hk
  rcases Nat.lt_or_gt_of_ne hji with hlt | hlt
  ·exact List.pairwise_iff_getElem.1 h.ne j k hjl hil hlt
  ·exact (List.pairwise_iff_getElem.1 h.ne k j hil hjl hlt).symm
 refine ⟨h.gr.setCell (h.own k hk) y,?_,?_⟩
 ·intro z hz
  obtain ⟨j,hj⟩:=List.mem_iff_getElem?.1 hz
  by_cases hji:j=k
  ·subst hji
   rw [List.getElem?_set_self',hk] at hj
   simp at hj
   have ho:=h.own j hk
   subst hj
   exact ⟨heap_setCell_same _ _ _ _ _ _ hx,ho⟩
  ·rw [List.getElem?_set_ne (fun e=>hji e.symm)] at hj
   exact ⟨(Below.heap_setCell v ⟨x.g,i,none⟩ y z.g (hn j z hj hji)).trans (h.get j hj),h.own j hj⟩
 ·refine List.pairwise_iff_getElem.2 fun a b ha hb hab=>?_
  rw [List.length_set] at ha hb
  have h0:=List.pairwise_iff_getElem.1 h.ne a b ha hb hab
  obtain ⟨hil,rfl⟩:=List.getElem?_eq_some_iff.1 hk
  rw [List.getElem_set,List.getElem_set]
  split
  ·rename_i e
   subst e
   split
   ·omega
   ·exact h0
  ·split
   ·rename_i e
    subst e
    exact h0
   ·exact h0
def uc (l:List Int):Array Value:=(l.map (Value.int .u32)).toArray
theorem uc_size (l:List Int):(uc l).size=l.length:=by simp [uc]
theorem uc_one (l:List Int):(uc l).all (·.oneCell')=true:=by unfold uc; simp [Value.oneCell']
theorem uc_set (l:List Int) (i:Nat) (x:Int):(uc l).setIfInBounds i (.int .u32 x)=uc (l.set i x):=by
 unfold uc
 rw [List.setIfInBounds_toArray,List.map_set]
theorem uc_get (l:List Int) (i:Nat) (hi:i<l.length):(uc l)[i]?=some (.int .u32 (l.getD i 0)):=by
 unfold uc
 simp [hi]
theorem uc_cell {v:World} {g:Nat} {l:List Int} {t:TypeId} (h:v.heap[g]?=some (.cells (uc l) t (0,0))) (i:Nat) (hi:i<l.length):v.cell? ⟨g,i,none⟩=some (.int .u32 (l.getD i 0)):=cell_of h (uc_get l i hi)
def kc (l:List Int):Array Value:=(l.map (Value.int .u8)).toArray
theorem kc_size (l:List Int):(kc l).size=l.length:=by simp [kc]
theorem kc_one (l:List Int):(kc l).all (·.oneCell')=true:=by unfold kc; simp [Value.oneCell']
theorem kc_set (l:List Int) (i:Nat) (x:Int):(kc l).setIfInBounds i (.int .u8 x)=kc (l.set i x):=by
 unfold kc
 rw [List.setIfInBounds_toArray,List.map_set]
theorem kc_get (l:List Int) (i:Nat) (hi:i<l.length):(kc l)[i]?=some (.int .u8 (l.getD i 0)):=by
 unfold kc
 simp [hi]
theorem kc_cell {v:World} {g:Nat} {l:List Int} {t:TypeId} (h:v.heap[g]?=some (.cells (kc l) t (0,0))) (i:Nat) (hi:i<l.length):v.cell? ⟨g,i,none⟩=some (.int .u8 (l.getD i 0)):=cell_of h (kc_get l i hi)
theorem getD_set (l:List Int) (i j:Nat) (x:Int) (hi:i<l.length):(l.set i x).getD j 0=if j=i then x else l.getD j 0:=by
 by_cases h:j=i
 ·subst h
  simp [hi]
 ·rw [if_neg h]
  simp [List.getElem?_set_ne (fun e=>h e.symm)]
def tn (x:Int) (n:Nat):Int:=bits .or .u32 (x / 2 ^ n) (IntKind.u32.wrap (x * 2 ^ (32 - n)))
theorem sturn_ok (x:Int) (n:Nat) (hn:1≤n∧n≤31) (w:World) :
  Calls Tryz.prog 123 #[.int .u32 x,.int .i64 n] w (fun r w'=>r=.returned (.int .u32 (tn x n))∧w'=w.drew):=by
 obtain ⟨m,hm⟩:∃ m,m=32 - n:=⟨_,rfl⟩
 have e1:32 - (n:Int)=(m:Int):=by omega
 have e2:IntKind.i64.wrap (m:Int)=(m:Int):=by rw [IntKind.wrap_i64]; omega
 have m0:0≤(m:Int):=by omega
 have n0:0≤(n:Int):=by omega
 replace hm:=hide hm
 go_enter Tryz.func123,Tryz.ntmps123
 go_wp2_with fail
 go_still_tail 8,(by kernel_rfl)
 go_wp2_with fail
 refine bodyPost_ret (v:=.int .u32 (tn x n)) ?_ rfl ⟨rfl,rfl⟩
 unfold tn
 rw [← unhide hm]
 simp [results,Tryz.results123,go_sem]
theorem sturn_int (x m:Int) (hm:1≤m∧m≤31) (w:World) :
  Calls Tryz.prog 123 #[.int .u32 x,.int .i64 m] w (fun r w'=>r=.returned (.int .u32 (tn x m.toNat))∧w'=w.drew):=by
 obtain ⟨n,rfl⟩:=Int.eq_ofNat_of_zero_le (a:=m) (by omega)
 exact sturn_ok x n (by omega) w
def dg (d:Int):Int:=if 97≤d then d - 87 else d - 48
theorem value_ok (d:Int) (hd:(48≤d∧d≤57)∨(97≤d∧d≤102)) (w:World) :
  Calls Tryz.prog 122 #[.int .i32 d] w (fun r w'=>r=.returned (.int .u32 (dg d))∧w'=w):=by
 rcases hd with hd | hd
 ·have e:dg d=d - 48:=by unfold dg; rw [if_neg (by omega)]
  rw [e]
  have hl:¬ 97≤d:=by omega
  go_enter Tryz.func122,Tryz.ntmps122
  go_wp2_with fail
  refine bodyPost_ret (v:=.int .u32 (d - 48)) ?_ rfl ⟨rfl,rfl⟩
  simp [results,Tryz.results122,go_sem]
 ·have e:dg d=d - 87:=by unfold dg; rw [if_pos (by omega)]
  rw [e]
  have hl:97≤d:=by omega
  go_enter Tryz.func122,Tryz.ntmps122
  go_wp2_with fail
  refine bodyPost_ret (v:=.int .u32 (d - 87)) ?_ rfl ⟨rfl,rfl⟩
  simp [results,Tryz.results122,go_sem]
  try omega
theorem Tryz.infoW:(Tryz.prog.info? 106).map (·.size)=some 64:=by kernel_rfl
theorem Tryz.infoS:(Tryz.prog.info? 108).map (·.size)=some 8:=by kernel_rfl
def xr (a b:Int):Int:=bits .xor .u32 a b
def an (a b:Int):Int:=bits .and .u32 a b
def ad (a b:Int):Int:=IntKind.u32.wrap (a+b)
theorem ad_eq (a b:Int):ad a b=(a+b) % 4294967296:=by unfold ad; rw [IntKind.wrap_u32]
structure St where
 (a b c d e f g h:Int)
def T1 (e f g h k w:Int):Int:=ad (ad (ad (ad h (xr (xr (tn e 6) (tn e 11)) (tn e 25))) (xr (an e f) (an (xr 4294967295 e) g))) k) w
def T2 (a b c:Int):Int:=ad (xr (xr (tn a 2) (tn a 13)) (tn a 22)) (xr (xr (an a b) (an a c)) (an b c))
def rnd (s:St) (k w:Int):St:=⟨ad (T1 s.e s.f s.g s.h k w) (T2 s.a s.b s.c),s.a,s.b,s.c,ad s.d (T1 s.e s.f s.g s.h k w),s.e,s.f,s.g⟩
def rnds (s:St) (W K:List Int):Nat→St
 | 0=>s
 | n+1=>rnd (rnds s W K n) (K.getD n 0) (W.getD n 0)
def St.of (s:List Int):St:=⟨s.getD 0 0,s.getD 1 0,s.getD 2 0,s.getD 3 0,s.getD 4 0,s.getD 5 0,s.getD 6 0,s.getD 7 0⟩
def stp (s W K:List Int):List Int :=
 [ad (s.getD 0 0) (rnds (.of s) W K 64).a,ad (s.getD 1 0) (rnds (.of s) W K 64).b,ad (s.getD 2 0) (rnds (.of s) W K 64).c,ad (s.getD 3 0) (rnds (.of s) W K 64).d,
  ad (s.getD 4 0) (rnds (.of s) W K 64).e,ad (s.getD 5 0) (rnds (.of s) W K 64).f,ad (s.getD 6 0) (rnds (.of s) W K 64).g,ad (s.getD 7 0) (rnds (.of s) W K 64).h]
theorem stp_len (s W K:List Int):(stp s W K).length=8:=rfl
def Z8:List Int:=[0,0,0,0,0,0,0,0]
set_option maxHeartbeats 2000000 in
theorem steps_ok (s W K:List Int) (hs:s.length=8) (hW:W.length=64) (hK:K.length=64) (w:World) :
  Calls Tryz.prog 104 #[.agg (uc s),.agg (uc W),.agg (uc K)] w (fun r w'=>r=.returned (.agg (uc (stp s W K)))∧Gr w w'):=by
 obtain ⟨S,hS⟩:∃ S,S=uc s:=⟨_,rfl⟩
 obtain ⟨A,hA⟩:∃ A,A=uc W:=⟨_,rfl⟩
 obtain ⟨C,hC⟩:∃ C,C=uc K:=⟨_,rfl⟩
 rw [← hS,← hA,← hC]
 replace hS:=hide hS
 replace hA:=hide hA
 replace hC:=hide hC
 go_enter Tryz.func104,Tryz.ntmps104
 go_upto_region 1 with fail
 have hB:=((((Bl.nil w).new S 108).new A 106).new C 106).new #[.int .u32 0,.int .u32 0,.int .u32 0,.int .u32 0,.int .u32 0,.int .u32 0,.int .u32 0,.int .u32 0] 108
 simp only [size_alloc,List.nil_append,List.cons_append] at hB
 replace hB:Bl w [⟨w.heap.size,S,108⟩,⟨w.heap.size+1,A,106⟩,⟨w.heap.size+1+1,C,106⟩,⟨w.heap.size+1+1+1,#[.int .u32 0,.int .u32 0,.int .u32 0,.int .u32 0,.int .u32 0,.int .u32 0,.int .u32 0,.int .u32 0],108⟩] ((((w.alloc (.cells S 108)).alloc (.cells A 106)).alloc (.cells C 106)).alloc (.cells #[.int .u32 0,.int .u32 0,.int .u32 0,.int .u32 0,.int .u32 0,.int .u32 0,.int .u32 0,.int .u32 0] 108)):=hB
 have hB0:=hide hB
 have c:∀ j,j<8→((((w.alloc (.cells S 108)).alloc (.cells A 106)).alloc (.cells C 106)).alloc (.cells #[.int .u32 0,.int .u32 0,.int .u32 0,.int .u32 0,.int .u32 0,.int .u32 0,.int .u32 0,.int .u32 0] 108)).cell? ⟨w.heap.size,j,none⟩=some (.int .u32 (s.getD j 0)):=fun j hj=>by
  have h1:=hB.get 0 (x:=⟨w.heap.size,S,108⟩) rfl
  rw [unhide hS] at h1
  rw [unhide hS]
  exact uc_cell h1 j (by omega)
 obtain ⟨s0,e0,c0⟩:∃ x,Hid (x=s.getD 0 0)∧((((w.alloc (.cells S 108)).alloc (.cells A 106)).alloc (.cells C 106)).alloc (.cells #[.int .u32 0,.int .u32 0,.int .u32 0,.int .u32 0,.int .u32 0,.int .u32 0,.int .u32 0,.int .u32 0] 108)).cell? ⟨w.heap.size,0,none⟩=some (.int .u32 x):=⟨_,rfl,c 0 (by omega)⟩
 obtain ⟨s1,e1,c1⟩:∃ x,Hid (x=s.getD 1 0)∧((((w.alloc (.cells S 108)).alloc (.cells A 106)).alloc (.cells C 106)).alloc (.cells #[.int .u32 0,.int .u32 0,.int .u32 0,.int .u32 0,.int .u32 0,.int .u32 0,.int .u32 0,.int .u32 0] 108)).cell? ⟨w.heap.size,1,none⟩=some (.int .u32 x):=⟨_,rfl,c 1 (by omega)⟩
 obtain ⟨s2,e2,c2⟩:∃ x,Hid (x=s.getD 2 0)∧((((w.alloc (.cells S 108)).alloc (.cells A 106)).alloc (.cells C 106)).alloc (.cells #[.int .u32 0,.int .u32 0,.int .u32 0,.int .u32 0,.int .u32 0,.int .u32 0,.int .u32 0,.int .u32 0] 108)).cell? ⟨w.heap.size,2,none⟩=some (.int .u32 x):=⟨_,rfl,c 2 (by omega)⟩
 obtain ⟨s3,e3,c3⟩:∃ x,Hid (x=s.getD 3 0)∧((((w.alloc (.cells S 108)).alloc (.cells A 106)).alloc (.cells C 106)).alloc (.cells #[.int .u32 0,.int .u32 0,.int .u32 0,.int .u32 0,.int .u32 0,.int .u32 0,.int .u32 0,.int .u32 0] 108)).cell? ⟨w.heap.size,3,none⟩=some (.int .u32 x):=⟨_,rfl,c 3 (by omega)⟩
 obtain ⟨s4,e4,c4⟩:∃ x,Hid (x=s.getD 4 0)∧((((w.alloc (.cells S 108)).alloc (.cells A 106)).alloc (.cells C 106)).alloc (.cells #[.int .u32 0,.int .u32 0,.int .u32 0,.int .u32 0,.int .u32 0,.int .u32 0,.int .u32 0,.int .u32 0] 108)).cell? ⟨w.heap.size,4,none⟩=some (.int .u32 x):=⟨_,rfl,c 4 (by omega)⟩
 obtain ⟨s5,e5,c5⟩:∃ x,Hid (x=s.getD 5 0)∧((((w.alloc (.cells S 108)).alloc (.cells A 106)).alloc (.cells C 106)).alloc (.cells #[.int .u32 0,.int .u32 0,.int .u32 0,.int .u32 0,.int .u32 0,.int .u32 0,.int .u32 0,.int .u32 0] 108)).cell? ⟨w.heap.size,5,none⟩=some (.int .u32 x):=⟨_,rfl,c 5 (by omega)⟩
 obtain ⟨s6,e6,c6⟩:∃ x,Hid (x=s.getD 6 0)∧((((w.alloc (.cells S 108)).alloc (.cells A 106)).alloc (.cells C 106)).alloc (.cells #[.int .u32 0,.int .u32 0,.int .u32 0,.int .u32 0,.int .u32 0,.int .u32 0,.int .u32 0,.int .u32 0] 108)).cell? ⟨w.heap.size,6,none⟩=some (.int .u32 x):=⟨_,rfl,c 6 (by omega)⟩
 obtain ⟨s7,e7,c7⟩:∃ x,Hid (x=s.getD 7 0)∧((((w.alloc (.cells S 108)).alloc (.cells A 106)).alloc (.cells C 106)).alloc (.cells #[.int .u32 0,.int .u32 0,.int .u32 0,.int .u32 0,.int .u32 0,.int .u32 0,.int .u32 0,.int .u32 0] 108)).cell? ⟨w.heap.size,7,none⟩=some (.int .u32 x):=⟨_,rfl,c 7 (by omega)⟩
 clear c hB
 replace hB:=hB0
 clear hB0
 generalize World.alloc _ _=u at *
 replace hB:Hid (Bl w [⟨w.heap.size,S,108⟩,⟨w.heap.size+1,A,106⟩,⟨w.heap.size+1+1,C,106⟩,⟨w.heap.size+1+1+1,uc Z8,108⟩] u):=hB
 go_quiet (fail)
 replace hB:Hid (Bl w [⟨w.heap.size,S,108⟩,⟨w.heap.size+1,A,106⟩,⟨w.heap.size+1+1,C,106⟩,⟨w.heap.size+1+1+1,uc Z8,108⟩] (u.drewN nq)):=(unhide hB).drewN nq
 clear c0 c1 c2 c3 c4 c5 c6 c7
 generalize World.drewN _ _=u1 at *
 obtain ⟨a0,b0,d0,f0,g0,h0,i0,j0⟩:s0=(St.of s).a∧s1=(St.of s).b∧s2=(St.of s).c∧s3=(St.of s).d∧s4=(St.of s).e∧s5=(St.of s).f∧s6=(St.of s).g∧s7=(St.of s).h:=⟨unhide e0,unhide e1,unhide e2,unhide e3,unhide e4,unhide e5,unhide e6,unhide e7⟩
 obtain ⟨z,hz⟩:∃ z,z=St.of s:=⟨_,rfl⟩
 rw [← hz] at a0 b0 d0 f0 g0 h0 i0 j0
 subst a0 b0 d0 f0 g0 h0 i0 j0
 clear e0 e1 e2 e3 e4 e5 e6 e7
 replace hz:=hide hz
 go_wp2_with fail
 go_loopw [36,7,8,9,10,11,12,13,14] (fun i a b c d e f g h wr=>∃ n:Nat,∃ q:St,n≤64∧i=.int .i64 n∧a=.int .u32 q.a∧b=.int .u32 q.b∧c=.int .u32 q.c∧d=.int .u32 q.d∧e=.int .u32 q.e∧f=.int .u32 q.f∧g=.int .u32 q.g∧h=.int .u32 q.h∧Hid (q=rnds z W K n)∧Hid (Bl w [⟨w.heap.size,S,108⟩,⟨w.heap.size+1,A,106⟩,⟨w.heap.size+1+1,C,106⟩,⟨w.heap.size+1+1+1,uc Z8,108⟩] wr)) (fun i _ _ _ _ _ _ _ _ _=>64 - (intOf i).toNat)
 case atStart=>exact ⟨0,z,by omega,rfl,rfl,rfl,rfl,rfl,rfl,rfl,rfl,rfl,rfl,hB⟩
 case round =>
 clear hB
 obtain ⟨n,q,hn,rfl,rfl,rfl,rfl,rfl,rfl,rfl,rfl,rfl,hq,hB⟩:=hrel
 by_cases hl:n<64
 ·have cW:wr.cell? ⟨w.heap.size+1,n,none⟩=some (.int .u32 (W.getD n 0)):=by
   have h1:=(unhide hB).get 1 (x:=⟨w.heap.size+1,A,106⟩) rfl
   rw [unhide hA] at h1
   exact uc_cell h1 n (by omega)
  have cK:wr.cell? ⟨w.heap.size+1+1,n,none⟩=some (.int .u32 (K.getD n 0)):=by
   have h1:=(unhide hB).get 2 (x:=⟨w.heap.size+1+1,C,106⟩) rfl
   rw [unhide hC] at h1
   exact uc_cell h1 n (by omega)
  have hq2:Hid (rnd q (K.getD n 0) (W.getD n 0)=rnds z W K (n+1)):=by
   rw [unhide hq]
   rfl
  obtain ⟨qa,qb,qc,qd,qe,qf,qg,qh⟩:=q
  generalize K.getD n 0=k at *
  generalize W.getD n 0=x at *
  have nI:(n:Int)<64:=by omega
  go_upto_region 7 with (go_at_call 123; refine (sturn_int _ _ (by omega) _).mono ?_; rintro e w1 ⟨rfl,rfl⟩)
  replace hB:Hid (Bl w [⟨w.heap.size,S,108⟩,⟨w.heap.size+1,A,106⟩,⟨w.heap.size+1+1,C,106⟩,⟨w.heap.size+1+1+1,uc Z8,108⟩] wr.drew.drew.drew.drew.drew.drew):=(unhide hB).drew.drew.drew.drew.drew.drew
  replace cW:wr.drew.drew.drew.drew.drew.drew.cell? ⟨w.heap.size+1,n,none⟩=some (.int .u32 x):=cW
  replace cK:wr.drew.drew.drew.drew.drew.drew.cell? ⟨w.heap.size+1+1,n,none⟩=some (.int .u32 k):=cK
  generalize wr.drew.drew.drew.drew.drew.drew=v at *
  go_quiet (fail)
  replace hB:Hid (Bl w [⟨w.heap.size,S,108⟩,⟨w.heap.size+1,A,106⟩,⟨w.heap.size+1+1,C,106⟩,⟨w.heap.size+1+1+1,uc Z8,108⟩] (v.drewN nq)):=(unhide hB).drewN nq
  clear cW cK
  generalize World.drewN _ _=v2 at *
  go_wp2_with fail
  go_roundw
  case rel =>
   have e:(if IntKind.u32.signed=true then (-1:Int) else IntKind.u32.max)=4294967295:=by decide
   refine ⟨n+1,rnd ⟨qa,qb,qc,qd,qe,qf,qg,qh⟩ k x,by omega,by go_num,?_,rfl,rfl,rfl,?_,rfl,rfl,rfl,hq2,hB⟩
   ·rw [e]
    congr 1
    simp only [rnd,T1,T2,ad_eq,xr,an]
    omega
   ·rw [e]
    congr 1
    simp only [rnd,T1,T2,ad_eq,xr,an]
    omega
  case measure=>simp [intOf]; omega
 ·have e:n=64:=by omega
  subst e
  have c:∀ j,j<8→wr.cell? ⟨w.heap.size,j,none⟩=some (.int .u32 (s.getD j 0)):=fun j hj=>by
   have h1:=(unhide hB).get 0 (x:=⟨w.heap.size,S,108⟩) rfl
   rw [unhide hS] at h1
   exact uc_cell h1 j (by omega)
  obtain ⟨s0,e0,c0⟩:∃ x,Hid (x=s.getD 0 0)∧wr.cell? ⟨w.heap.size,0,none⟩=some (.int .u32 x):=⟨_,rfl,c 0 (by omega)⟩
  obtain ⟨s1,e1,c1⟩:∃ x,Hid (x=s.getD 1 0)∧wr.cell? ⟨w.heap.size,1,none⟩=some (.int .u32 x):=⟨_,rfl,c 1 (by omega)⟩
  obtain ⟨s2,e2,c2⟩:∃ x,Hid (x=s.getD 2 0)∧wr.cell? ⟨w.heap.size,2,none⟩=some (.int .u32 x):=⟨_,rfl,c 2 (by omega)⟩
  obtain ⟨s3,e3,c3⟩:∃ x,Hid (x=s.getD 3 0)∧wr.cell? ⟨w.heap.size,3,none⟩=some (.int .u32 x):=⟨_,rfl,c 3 (by omega)⟩
  obtain ⟨s4,e4,c4⟩:∃ x,Hid (x=s.getD 4 0)∧wr.cell? ⟨w.heap.size,4,none⟩=some (.int .u32 x):=⟨_,rfl,c 4 (by omega)⟩
  obtain ⟨s5,e5,c5⟩:∃ x,Hid (x=s.getD 5 0)∧wr.cell? ⟨w.heap.size,5,none⟩=some (.int .u32 x):=⟨_,rfl,c 5 (by omega)⟩
  obtain ⟨s6,e6,c6⟩:∃ x,Hid (x=s.getD 6 0)∧wr.cell? ⟨w.heap.size,6,none⟩=some (.int .u32 x):=⟨_,rfl,c 6 (by omega)⟩
  obtain ⟨s7,e7,c7⟩:∃ x,Hid (x=s.getD 7 0)∧wr.cell? ⟨w.heap.size,7,none⟩=some (.int .u32 x):=⟨_,rfl,c 7 (by omega)⟩
  clear c
  go_upto_region 12 with fail
  refine wp_region_lit ?_
  iterate 32 (refine wpList_step fun K hK=>?_; replace hK:=hide hK; go_simp; refine unhide hK _ _ ?_; clear hK K)
  have hv:Hid (#[.int .u32 ((s0+q.a) % 4294967296),.int .u32 ((s1+q.b) % 4294967296),.int .u32 ((s2+q.c) % 4294967296),.int .u32 ((s3+q.d) % 4294967296),.int .u32 ((s4+q.e) % 4294967296),.int .u32 ((s5+q.f) % 4294967296),.int .u32 ((s6+q.g) % 4294967296),.int .u32 ((s7+q.h) % 4294967296)]=uc (stp s W K)):=by
   rw [unhide e0,unhide e1,unhide e2,unhide e3,unhide e4,unhide e5,unhide e6,unhide e7,unhide hq,unhide hz]
   simp only [← ad_eq]
   rfl
  replace hB:=unhide hB
  refine list_val (.agg (uc (stp s W K))) (by kernel_rfl) (by rw [← unhide hv]; go_simp; simp only [IntKind.wrap_u32,and_self]) ?_
  simp only [nrm]
  have hr:(stp s W K).length=8:=stp_len s W K
  obtain ⟨r,hr0⟩:∃ r,r=stp s W K:=⟨_,rfl⟩
  rw [← hr0] at hr
  rw [← hr0]
  refine list_store 108 (.tmp 6) (.tmp 133) (w.heap.size+1+1+1) (uc r) 108 (uc Z8) (by kernel_rfl) rfl (by kernel_rfl) (by kernel_rfl) (hB.get 3 (x:=⟨w.heap.size+1+1+1,uc Z8,108⟩) rfl) (by rw [Tryz.infoS,uc_size,hr]) ((show (uc Z8).size=8 from rfl).trans ((uc_size _).trans hr).symm) (uc_one _) ?_
  replace hB:=hB.set 3 (x:=⟨w.heap.size+1+1+1,uc Z8,108⟩) rfl (uc r)
  simp only [List.set_cons_zero,List.set_cons_succ] at hB
  generalize World.setRow _ _ _=v1_ at *
  simp only [nrm]
  refine wpList_nil ?_
  go_wp2_with fail
  exact bodyPost_ret (v:=.agg (uc r)) (results_cell_row Tryz.results104 _ _ (w.heap.size+1+1+1) 108 (uc r) (0,0) _ rfl (hB.get 3 (x:=⟨w.heap.size+1+1+1,uc r,108⟩) rfl) Tryz.underlying108 rfl (by rw [Tryz.infoS,uc_size,hr])) rfl ⟨by rw [hr0],hB.gr⟩
def be (b0 b1 b2 b3:Int):Int:=bits .or .u32 (bits .or .u32 (bits .or .u32 (b0 * 16777216) (b1 * 65536)) (b2 * 256)) b3
def Z64:List Int:=List.replicate 64 0
def W1 (B:List Int):Nat→List Int
 | 0=>Z64
 | n+1=>(W1 B n).set n (be (B.getD (4 * n) 0) (B.getD (4 * n+1) 0) (B.getD (4 * n+2) 0) (B.getD (4 * n+3) 0))
def sg0 (x:Int):Int:=xr (xr (tn x 7) (tn x 18)) (x / 2 ^ 3)
def sg1 (y:Int):Int:=xr (xr (tn y 17) (tn y 19)) (y / 2 ^ 10)
def nx (l:List Int) (i:Nat):Int:=ad (ad (ad (sg1 (l.getD (i - 2) 0)) (l.getD (i - 7) 0)) (sg0 (l.getD (i - 15) 0))) (l.getD (i - 16) 0)
def W2 (B:List Int):Nat→List Int
 | 0=>W1 B 16
 | k+1=>(W2 B k).set (k+16) (nx (W2 B k) (k+16))
def wds (B:List Int):List Int:=W2 B 48
theorem W1_len (B:List Int):∀ n,(W1 B n).length=64
 | 0=>rfl
 | n+1=>by rw [W1,List.length_set,W1_len B n]
theorem W2_len (B:List Int):∀ n,(W2 B n).length=64
 | 0=>W1_len B 16
 | n+1=>by rw [W2,List.length_set,W2_len B n]
theorem wds_len (B:List Int):(wds B).length=64:=W2_len B 48
def IsB (B:List Int):Prop:=∀ x ∈ B,0≤x∧x<256
theorem IsB.at_ {B:List Int} (h:IsB B) (j:Nat):0≤B.getD j 0∧B.getD j 0<256:=by
 rcases Nat.lt_or_ge j B.length with hj | hj
 ·have:B.getD j 0=B[j]:=by simp [hj]
  rw [this]
  exact h _ (List.getElem_mem hj)
 ·simp [List.getElem?_eq_none hj]
def At (w:World) (p o:Nat) (B:List Int):Prop:=∀ j,j<B.length→w.cell? ⟨p,o+j,none⟩=some (.int .u8 (B.getD j 0))
theorem At.gr {w v:World} {p o:Nat} {B:List Int} (h:At w p o B) (g:Gr w v):At v p o B:=fun j hj=>g.cell (h j hj)
set_option maxHeartbeats 2000000 in
theorem words_ok (B:List Int) (hb:IsB B) (hl:B.length=64) (p o cap:Nat) (w:World) (hA:At w p o B) :
  Calls Tryz.prog 105 #[.slice (some ⟨p,o,none⟩) 64 cap] w (fun r w'=>r=.returned (.agg (uc (wds B)))∧Gr w w'):=by
 replace hA:=hide hA
 replace hb:=hide hb
 go_enter Tryz.func105,Tryz.ntmps105
 go_wp2_with fail
 have hB:=((Bl.nil w).new #[.int .u32 0,.int .u32 0,.int .u32 0,.int .u32 0,.int .u32 0,.int .u32 0,.int .u32 0,.int .u32 0,.int .u32 0,.int .u32 0,.int .u32 0,.int .u32 0,.int .u32 0,.int .u32 0,.int .u32 0,.int .u32 0,.int .u32 0,.int .u32 0,.int .u32 0,.int .u32 0,.int .u32 0,.int .u32 0,.int .u32 0,.int .u32 0,.int .u32 0,.int .u32 0,.int .u32 0,.int .u32 0,.int .u32 0,.int .u32 0,.int .u32 0,.int .u32 0,.int .u32 0,.int .u32 0,.int .u32 0,.int .u32 0,.int .u32 0,.int .u32 0,.int .u32 0,.int .u32 0,.int .u32 0,.int .u32 0,.int .u32 0,.int .u32 0,.int .u32 0,.int .u32 0,.int .u32 0,.int .u32 0,.int .u32 0,.int .u32 0,.int .u32 0,.int .u32 0,.int .u32 0,.int .u32 0,.int .u32 0,.int .u32 0,.int .u32 0,.int .u32 0,.int .u32 0,.int .u32 0,.int .u32 0,.int .u32 0,.int .u32 0,.int .u32 0] 106).new #[.int .u32 0,.int .u32 0,.int .u32 0,.int .u32 0,.int .u32 0,.int .u32 0,.int .u32 0,.int .u32 0,.int .u32 0,.int .u32 0,.int .u32 0,.int .u32 0,.int .u32 0,.int .u32 0,.int .u32 0,.int .u32 0,.int .u32 0,.int .u32 0,.int .u32 0,.int .u32 0,.int .u32 0,.int .u32 0,.int .u32 0,.int .u32 0,.int .u32 0,.int .u32 0,.int .u32 0,.int .u32 0,.int .u32 0,.int .u32 0,.int .u32 0,.int .u32 0,.int .u32 0,.int .u32 0,.int .u32 0,.int .u32 0,.int .u32 0,.int .u32 0,.int .u32 0,.int .u32 0,.int .u32 0,.int .u32 0,.int .u32 0,.int .u32 0,.int .u32 0,.int .u32 0,.int .u32 0,.int .u32 0,.int .u32 0,.int .u32 0,.int .u32 0,.int .u32 0,.int .u32 0,.int .u32 0,.int .u32 0,.int .u32 0,.int .u32 0,.int .u32 0,.int .u32 0,.int .u32 0,.int .u32 0,.int .u32 0,.int .u32 0,.int .u32 0] 106
 simp only [size_alloc,List.nil_append,List.cons_append] at hB
 generalize World.alloc _ _=u at *
 replace hB:Hid (Bl w [⟨w.heap.size,uc Z64,106⟩,⟨w.heap.size+1,uc (W1 B 0),106⟩] u):=hide hB
 go_loopw [10] (fun i wr=>∃ n:Nat,∃ m:List Int,n≤16∧i=.int .i64 n∧Hid (m=W1 B n)∧Hid (Bl w [⟨w.heap.size,uc Z64,106⟩,⟨w.heap.size+1,uc m,106⟩] wr)) (fun i _=>16 - (intOf i).toNat)
 case atStart=>exact ⟨0,W1 B 0,by omega,rfl,rfl,hB⟩
 case round =>
 clear hB
 obtain ⟨n,m,hn,rfl,hm,hB⟩:=hrel
 have hml:m.length=64:=by rw [unhide hm]; exact W1_len B n
 by_cases hil:n<16
 ·obtain ⟨q0,hq0⟩:∃ q,q=4 * n:=⟨_,rfl⟩
  obtain ⟨q1,hq1⟩:∃ q,q=4 * n+1:=⟨_,rfl⟩
  obtain ⟨q2,hq2⟩:∃ q,q=4 * n+2:=⟨_,rfl⟩
  obtain ⟨q3,hq3⟩:∃ q,q=4 * n+3:=⟨_,rfl⟩
  have hAt:At wr p o B:=(unhide hA).gr (unhide hB).gr
  have c0:=hAt q0 (by omega)
  have c1:=hAt q1 (by omega)
  have c2:=hAt q2 (by omega)
  have c3:=hAt q3 (by omega)
  have b0:=(unhide hb).at_ q0
  have b1:=(unhide hb).at_ q1
  have b2:=(unhide hb).at_ q2
  have b3:=(unhide hb).at_ q3
  have f3:=froz_of (i:=n) ((unhide hB).get 1 (x:=⟨w.heap.size+1,uc m,106⟩) rfl)
  have c4:=uc_cell ((unhide hB).get 1 (x:=⟨w.heap.size+1,uc m,106⟩) rfl) n (by omega)
  have hm2:Hid (m.set n (be (B.getD q0 0) (B.getD q1 0) (B.getD q2 0) (B.getD q3 0))=W1 B (n+1)):=by
   rw [unhide hm,hq0,hq1,hq2,hq3]
   rfl
  have hB2:=(unhide hB).drew.cell 1 (x:=⟨w.heap.size+1,uc m,106⟩) rfl n (.int .u32 (be (B.getD q0 0) (B.getD q1 0) (B.getD q2 0) (B.getD q3 0)))
  simp only [List.set_cons_zero,List.set_cons_succ,uc_set] at hB2
  replace hB2:=hide hB2
  generalize B.getD q0 0=x0 at *
  generalize B.getD q1 0=x1 at *
  generalize B.getD q2 0=x2 at *
  generalize B.getD q3 0=x3 at *
  generalize m.getD n 0=z at c4
  have e0:4 * (n:Int)=(q0:Int):=by omega
  have e1:(q0:Int)+1=(q1:Int):=by omega
  have e2:(q0:Int)+2=(q2:Int):=by omega
  have e3:(q0:Int)+3=(q3:Int):=by omega
  have g0:IntKind.i64.wrap (q0:Int)=(q0:Int):=by rw [IntKind.wrap_i64]; omega
  have g1:IntKind.i64.wrap (q1:Int)=(q1:Int):=by rw [IntKind.wrap_i64]; omega
  have g2:IntKind.i64.wrap (q2:Int)=(q2:Int):=by rw [IntKind.wrap_i64]; omega
  have g3:IntKind.i64.wrap (q3:Int)=(q3:Int):=by rw [IntKind.wrap_i64]; omega
  have l0:0≤(q0:Int)∧(q0:Int)<64:=by omega
  have l1:0≤(q1:Int)∧(q1:Int)<64:=by omega
  have l2:0≤(q2:Int)∧(q2:Int)<64:=by omega
  have l3:0≤(q3:Int)∧(q3:Int)<64:=by omega
  have m0:q0<64:=by omega
  have m1:q1<64:=by omega
  have m2:q2<64:=by omega
  have m3:q3<64:=by omega
  have nI:(n:Int)<16:=by omega
  have nJ:(n:Int)<64:=by omega
  have nK:n<64:=by omega
  replace hq0:=hide hq0
  replace hq1:=hide hq1
  replace hq2:=hide hq2
  replace hq3:=hide hq3
  go_wp2_with fail
  go_still_tail 35,(by kernel_rfl)
  go_wp2_with fail
  go_roundw
  case rel =>
   exact ⟨n+1,_,by omega,by go_num,hm2,hB2⟩
  case measure=>simp [intOf]; omega
 ·have e:n=16:=by omega
  subst e
  replace hB:Hid (Bl w [⟨w.heap.size,uc Z64,106⟩,⟨w.heap.size+1,uc (W2 B 0),106⟩] wr):=by
   have:=unhide hB
   rw [unhide hm] at this
   exact this
  clear hm hml
  go_wp2_with fail
  go_loopw [5] (fun i wr=>∃ n:Nat,∃ m:List Int,n≤48∧i=.int .i64 (n+16:Nat)∧Hid (m=W2 B n)∧Hid (Bl w [⟨w.heap.size,uc Z64,106⟩,⟨w.heap.size+1,uc m,106⟩] wr)) (fun i _=>64 - (intOf i).toNat)
  case atStart=>exact ⟨0,W2 B 0,by omega,rfl,rfl,hB⟩
  case round =>
  clear hB
  obtain ⟨n,m,hn,rfl,hm,hB⟩:=hrel
  have hml:m.length=64:=by rw [unhide hm]; exact W2_len B n
  by_cases hil:n<48
  ·obtain ⟨k,hk⟩:∃ k,k=n+16:=⟨_,rfl⟩
   rw [← hk]
   obtain ⟨q0,hq0⟩:∃ q,q=k - 2:=⟨_,rfl⟩
   obtain ⟨q1,hq1⟩:∃ q,q=k - 7:=⟨_,rfl⟩
   obtain ⟨q2,hq2⟩:∃ q,q=k - 15:=⟨_,rfl⟩
   obtain ⟨q3,hq3⟩:∃ q,q=k - 16:=⟨_,rfl⟩
   have hg:=(unhide hB).get 1 (x:=⟨w.heap.size+1,uc m,106⟩) rfl
   have c0:=uc_cell hg q0 (by omega)
   have c1:=uc_cell hg q1 (by omega)
   have c2:=uc_cell hg q2 (by omega)
   have c3:=uc_cell hg q3 (by omega)
   have c4:=uc_cell hg k (by omega)
   have f4:=froz_of (i:=k) hg
   have hm2:Hid (m.set k (ad (ad (ad (sg1 (m.getD q0 0)) (m.getD q1 0)) (sg0 (m.getD q2 0))) (m.getD q3 0))=W2 B (n+1)):=by
    rw [hq0,hq1,hq2,hq3,hk,unhide hm]
    rfl
   clear hg
   generalize m.getD q0 0=x0 at *
   generalize m.getD q1 0=x1 at *
   generalize m.getD q2 0=x2 at *
   generalize m.getD q3 0=x3 at *
   generalize m.getD k 0=z at c4
   have e0:(k:Int) - 2=(q0:Int):=by omega
   have e1:(k:Int) - 7=(q1:Int):=by omega
   have e2:(k:Int) - 15=(q2:Int):=by omega
   have e3:(k:Int) - 16=(q3:Int):=by omega
   have g0:IntKind.i64.wrap (q0:Int)=(q0:Int):=by rw [IntKind.wrap_i64]; omega
   have g1:IntKind.i64.wrap (q1:Int)=(q1:Int):=by rw [IntKind.wrap_i64]; omega
   have g2:IntKind.i64.wrap (q2:Int)=(q2:Int):=by rw [IntKind.wrap_i64]; omega
   have g3:IntKind.i64.wrap (q3:Int)=(q3:Int):=by rw [IntKind.wrap_i64]; omega
   have l0:0≤(q0:Int)∧(q0:Int)<64:=by omega
   have l1:0≤(q1:Int)∧(q1:Int)<64:=by omega
   have l2:0≤(q2:Int)∧(q2:Int)<64:=by omega
   have l3:0≤(q3:Int)∧(q3:Int)<64:=by omega
   have m0:q0<64:=by omega
   have m1:q1<64:=by omega
   have m2:q2<64:=by omega
   have m3:q3<64:=by omega
   have nJ:0≤(k:Int)∧(k:Int)<64:=by omega
   have nK:k<64:=by omega
   replace hk:=hide hk
   replace hq0:=hide hq0
   replace hq1:=hide hq1
   replace hq2:=hide hq2
   replace hq3:=hide hq3
   go_wp2_with fail
   go_quiet (fail)
   replace hB:Hid (Bl w [⟨w.heap.size,uc Z64,106⟩,⟨w.heap.size+1,uc m,106⟩] (wr.drewN nq)):=(unhide hB).drewN nq
   replace c1:(wr.drewN nq).cell? ⟨w.heap.size+1,q1,none⟩=some (.int .u32 x1):=c1
   replace c3:(wr.drewN nq).cell? ⟨w.heap.size+1,q3,none⟩=some (.int .u32 x3):=c3
   replace c4:(wr.drewN nq).cell? ⟨w.heap.size+1,k,none⟩=some (.int .u32 z):=c4
   replace f4:(wr.drewN nq).frozen? ⟨w.heap.size+1,k,none⟩=false:=f4
   clear c0 c2
   generalize World.drewN _ _=v at *
   go_upto_region 13 with (go_at_call 123; refine (sturn_int _ _ (by omega) _).mono ?_; rintro e w1 ⟨rfl,rfl⟩)
   replace hB:Hid (Bl w [⟨w.heap.size,uc Z64,106⟩,⟨w.heap.size+1,uc m,106⟩] v.drew.drew.drew.drew):=(unhide hB).drew.drew.drew.drew
   replace c1:v.drew.drew.drew.drew.cell? ⟨w.heap.size+1,q1,none⟩=some (.int .u32 x1):=c1
   replace c3:v.drew.drew.drew.drew.cell? ⟨w.heap.size+1,q3,none⟩=some (.int .u32 x3):=c3
   replace c4:v.drew.drew.drew.drew.cell? ⟨w.heap.size+1,k,none⟩=some (.int .u32 z):=c4
   replace f4:v.drew.drew.drew.drew.frozen? ⟨w.heap.size+1,k,none⟩=false:=f4
   generalize v.drew.drew.drew.drew=v2 at *
   go_still_tail 15,(by kernel_rfl)
   go_wp2_with fail
   go_roundw
   case rel =>
    have hB2:=(unhide hB).drew.cell 1 (x:=⟨w.heap.size+1,uc m,106⟩) rfl k (.int .u32 (ad (ad (ad (sg1 x0) x1) (sg0 x2)) x3))
    simp only [List.set_cons_zero,List.set_cons_succ,uc_set] at hB2
    have hz:ad (ad (ad (sg1 x0) x1) (sg0 x2)) x3=(sg1 x0+x1+sg0 x2+x3) % 4294967296:=by
     simp only [ad_eq]
     omega
    rw [hz] at hB2 hm2
    exact ⟨.int .i64 ((k:Int)+1),_,_,_,_,_,_,_,_,_,_,_,_,_,_,_,_,_,_,_,_,_,_,_,_,_,_,_,_,_,_,_,_,_,_,_,_,_,_,_,_,_,_,_,_,_,_,_,⟨n+1,_,by omega,by have:=unhide hk; congr 1; omega,hm2,hide hB2⟩,rfl⟩
   case measure=>simp [intOf]; omega
  ·have e:n=48:=by omega
   subst e
   clear hil
   go_upto_region 14 with fail
   replace hB:=unhide hB
   have hr0:m=wds B:=unhide hm
   clear hm
   refine wp_region_lit ?_
   refine list_val (.agg (uc m)) (by kernel_rfl) (exec_arr _ 106 (.tmp 3) rfl (w.heap.size+1) (by kernel_rfl) (uc m) 106 _ (hB.get 1 (x:=⟨w.heap.size+1,uc m,106⟩) rfl) Tryz.underlying106 rfl (by rw [Tryz.infoW,uc_size,hml])) ?_
   simp only [nrm]
   refine list_store 106 (.tmp 2) (.tmp 92) w.heap.size (uc m) 106 (uc Z64) (by kernel_rfl) rfl (by kernel_rfl) (by kernel_rfl) (hB.get 0 (x:=⟨w.heap.size,uc Z64,106⟩) rfl) (by rw [Tryz.infoW,uc_size,hml]) ((show (uc Z64).size=64 from rfl).trans ((uc_size _).trans hml).symm) (uc_one _) ?_
   replace hB:=hB.set 0 (x:=⟨w.heap.size,uc Z64,106⟩) rfl (uc m)
   simp only [List.set_cons_zero,List.set_cons_succ] at hB
   generalize World.setRow _ _ _=v1_ at *
   simp only [nrm]
   refine wpList_nil ?_
   go_wp2_with fail
   exact bodyPost_ret (v:=.agg (uc m)) (results_cell_row Tryz.results105 _ _ w.heap.size 106 (uc m) (0,0) _ rfl (hB.get 0 (x:=⟨w.heap.size,uc m,106⟩) rfl) Tryz.underlying106 rfl (by rw [Tryz.infoW,uc_size,hml])) rfl ⟨by rw [hr0],hB.gr⟩
end Go.Proofs.YthahhglbeafkmaaGreatDoor
namespace Go.Proofs.YthahhglbeafkmaaGreatDoor
open Go.RowKit
set_option maxRecDepth 100000
set_option linter.unusedSimpArgs false
set_option linter.unusedVariables false
def KL:List Int:=[1116352408,1899447441,3049323471,3921009573,961987163,1508970993,2453635748,2870763221,3624381080,310598401,607225278,1426881987,1925078388,2162078206,2614888103,3248222580,3835390401,4022224774,264347078,604807628,770255983,1249150122,1555081692,1996064986,2554220882,2821834349,2952996808,3210313671,3336571891,3584528711,113926993,338241895,666307205,773529912,1294757372,1396182291,1695183700,1986661051,2177026350,2456956037,2730485921,2820302411,3259730800,3345764771,3516065817,3600352804,4094571909,275423344,430227734,506948616,659060556,883997877,958139571,1322822218,1537002063,1747873779,1955562222,2024104815,2227730452,2361852424,2428436474,2756734187,3204031479,3329325298]
def rl:List UInt8:=[52,50,56,97,50,102,57,56,55,49,51,55,52,52,57,49,98,53,99,48,102,98,99,102,101,57,98,53,100,98,97,53,51,57,53,54,99,50,53,98,53,57,102,49,49,49,102,49,57,50,51,102,56,50,97,52,97,98,49,99,53,101,100,53,100,56,48,55,97,97,57,56,49,50,56,51,53,98,48,49,50,52,51,49,56,53,98,101,53,53,48,99,55,100,99,51,55,50,98,101,53,100,55,52,56,48,100,101,98,49,102,101,57,98,100,99,48,54,97,55,99,49,57,98,102,49,55,52,101,52,57,98,54,57,99,49,101,102,98,101,52,55,56,54,48,102,99,49,57,100,99,54,50,52,48,99,97,49,99,99,50,100,101,57,50,99,54,102,52,97,55,52,56,52,97,97,53,99,98,48,97,57,100,99,55,54,102,57,56,56,100,97,57,56,51,101,53,49,53,50,97,56,51,49,99,54,54,100,98,48,48,51,50,55,99,56,98,102,53,57,55,102,99,55,99,54,101,48,48,98,102,51,100,53,97,55,57,49,52,55,48,54,99,97,54,51,53,49,49,52,50,57,50,57,54,55,50,55,98,55,48,97,56,53,50,101,49,98,50,49,51,56,52,100,50,99,54,100,102,99,53,51,51,56,48,100,49,51,54,53,48,97,55,51,53,52,55,54,54,97,48,97,98,98,56,49,99,50,99,57,50,101,57,50,55,50,50,99,56,53,97,50,98,102,101,56,97,49,97,56,49,97,54,54,52,98,99,50,52,98,56,98,55,48,99,55,54,99,53,49,97,51,100,49,57,50,101,56,49,57,100,54,57,57,48,54,50,52,102,52,48,101,51,53,56,53,49,48,54,97,97,48,55,48,49,57,97,52,99,49,49,54,49,101,51,55,54,99,48,56,50,55,52,56,55,55,52,99,51,52,98,48,98,99,98,53,51,57,49,99,48,99,98,51,52,101,100,56,97,97,52,97,53,98,57,99,99,97,52,102,54,56,50,101,54,102,102,51,55,52,56,102,56,50,101,101,55,56,97,53,54,51,54,102,56,52,99,56,55,56,49,52,56,99,99,55,48,50,48,56,57,48,98,101,102,102,102,97,97,52,53,48,54,99,101,98,98,101,102,57,97,51,102,55,99,54,55,49,55,56,102,50]
def KP:Nat→List Int
 | 0=>Z64
 | n+1=>(KP n).set (n / 8) (bits .or .u32 (IntKind.u32.wrap ((KP n).getD (n / 8) 0 * 16)) (dg ((rl.getD n 0).toNat:Int)))
theorem KP_len:∀ n,(KP n).length=64
 | 0=>rfl
 | n+1=>by rw [KP,List.length_set,KP_len n]
theorem KP_all:KP 512=KL:=by decide +kernel
theorem KL_len:KL.length=64:=by decide
theorem rl_len:rl.length=512:=by decide +kernel
theorem rl_all:(rl.all fun c=>(48≤c.toNat && c.toNat≤57) || (97≤c.toNat && c.toNat≤102))=true:=by decide +kernel
def itr (w:World) (k:Nat) (s:ByteArray) (pos:Nat):World:={ w with heap:=w.heap.setIfInBounds k (.stringIter s pos) }
theorem itr_self {w:World} {k:Nat} (s:ByteArray) (pos:Nat) (h:k<w.heap.size):(itr w k s pos).heap[k]?=some (.stringIter s pos):=by
 unfold itr
 simp [h]
theorem itr_other {w:World} {k j:Nat} (s:ByteArray) (pos:Nat) (h:k≠j):(itr w k s pos).heap[j]?=w.heap[j]?:=by
 unfold itr
 simp [Array.getElem?_setIfInBounds,h]
theorem Bl.itr {w v:World} {L:List Blk} (h:Bl w L v) (k:Nat) (hk:w.heap.size≤k) (hn:∀ x ∈ L,k≠x.g) (s:ByteArray) (pos:Nat):Bl w L (itr v k s pos):=by
 refine ⟨⟨h.gr.os,h.gr.tape,h.gr.output,?_,fun i hi=>?_⟩,fun x hx=>⟨?_,(h.at_ x hx).2⟩,h.ne⟩
 ·have:=h.gr.size
  unfold Proofs.YthahhglbeafkmaaGreatDoor.itr
  simpa using this
 ·rw [itr_other s pos (by omega)]
  exact h.gr.block i hi
 ·rw [itr_other s pos (hn x hx)]
  exact (h.at_ x hx).1
theorem run_next_at {P:Program} (w:World) (k:Nat) (s:ByteArray) (pos:Nat) (ty:TypeId) (hk:w.heap[k]?=some (.stringIter s pos)) (h:pos<s.size) (ha:(s[pos]'h).toNat<128) :
  (Instr.next (.pointer (some ⟨k,0,none⟩)) true ty).run P w=.ok (.tuple #[.bool true,.int .i64 pos,.int .i32 (s[pos]'h).toNat]) (itr w k s (pos+1)):=by
 simp only [Instr.next,getObj,setObj,Sem.run_bind,Sem.run,hk,Result.andThen,h,if_true,decode_ascii s pos h ha]
 simp [goInt,Sem.run,itr]
theorem run_next_stop {P:Program} (w:World) (k:Nat) (s:ByteArray) (pos:Nat) (ty:TypeId) (hk:w.heap[k]?=some (.stringIter s pos)) (h:¬ pos<s.size) :
  (Instr.next (.pointer (some ⟨k,0,none⟩)) true ty).run P w=.ok (.tuple #[.bool false]) w:=by
 simp [Instr.next,getObj,Sem.run,hk,h]
theorem rl_at (S:ByteArray) (hS:S.data.toList=rl) (n:Nat) (h:n<S.size):(S[n]'h).toNat=(rl.getD n 0).toNat:=by
 have h1:S[n]'h=S.data[n]'h:=rfl
 have h2:S.data[n]'h=S.data.toList[n]'(by simpa using h):=by simp
 rw [h1,h2,List.getElem_of_eq hS]
 have h3:n<rl.length:=by rw [← hS]; simpa using h
 simp [h3]
theorem rl_rng (n:Nat) (h:n<512):(48≤((rl.getD n 0).toNat:Int)∧((rl.getD n 0).toNat:Int)≤57)∨(97≤((rl.getD n 0).toNat:Int)∧((rl.getD n 0).toNat:Int)≤102):=by
 have h3:n<rl.length:=by rw [rl_len]; exact h
 have h1:=List.all_eq_true.1 rl_all (rl.getD n 0) (by simp [h3])
 simp at h1
 simp only [List.getD_eq_getElem?_getD]
 omega
set_option maxHeartbeats 2000000 in
theorem constants_ok (w:World):Calls Tryz.prog 103 #[] w (fun r w'=>r=.returned (.agg (uc KL))∧Gr w w'):=by
 go_enter Tryz.func103,Tryz.ntmps103
 go_wp2_with fail
 have hB:=((Bl.nil w).new #[.int .u32 0,.int .u32 0,.int .u32 0,.int .u32 0,.int .u32 0,.int .u32 0,.int .u32 0,.int .u32 0,.int .u32 0,.int .u32 0,.int .u32 0,.int .u32 0,.int .u32 0,.int .u32 0,.int .u32 0,.int .u32 0,.int .u32 0,.int .u32 0,.int .u32 0,.int .u32 0,.int .u32 0,.int .u32 0,.int .u32 0,.int .u32 0,.int .u32 0,.int .u32 0,.int .u32 0,.int .u32 0,.int .u32 0,.int .u32 0,.int .u32 0,.int .u32 0,.int .u32 0,.int .u32 0,.int .u32 0,.int .u32 0,.int .u32 0,.int .u32 0,.int .u32 0,.int .u32 0,.int .u32 0,.int .u32 0,.int .u32 0,.int .u32 0,.int .u32 0,.int .u32 0,.int .u32 0,.int .u32 0,.int .u32 0,.int .u32 0,.int .u32 0,.int .u32 0,.int .u32 0,.int .u32 0,.int .u32 0,.int .u32 0,.int .u32 0,.int .u32 0,.int .u32 0,.int .u32 0,.int .u32 0,.int .u32 0,.int .u32 0,.int .u32 0] 106).new #[.int .u32 0,.int .u32 0,.int .u32 0,.int .u32 0,.int .u32 0,.int .u32 0,.int .u32 0,.int .u32 0,.int .u32 0,.int .u32 0,.int .u32 0,.int .u32 0,.int .u32 0,.int .u32 0,.int .u32 0,.int .u32 0,.int .u32 0,.int .u32 0,.int .u32 0,.int .u32 0,.int .u32 0,.int .u32 0,.int .u32 0,.int .u32 0,.int .u32 0,.int .u32 0,.int .u32 0,.int .u32 0,.int .u32 0,.int .u32 0,.int .u32 0,.int .u32 0,.int .u32 0,.int .u32 0,.int .u32 0,.int .u32 0,.int .u32 0,.int .u32 0,.int .u32 0,.int .u32 0,.int .u32 0,.int .u32 0,.int .u32 0,.int .u32 0,.int .u32 0,.int .u32 0,.int .u32 0,.int .u32 0,.int .u32 0,.int .u32 0,.int .u32 0,.int .u32 0,.int .u32 0,.int .u32 0,.int .u32 0,.int .u32 0,.int .u32 0,.int .u32 0,.int .u32 0,.int .u32 0,.int .u32 0,.int .u32 0,.int .u32 0,.int .u32 0] 106
 simp only [size_alloc,List.nil_append,List.cons_append] at hB
 have hgs:((w.alloc (.cells #[.int .u32 0,.int .u32 0,.int .u32 0,.int .u32 0,.int .u32 0,.int .u32 0,.int .u32 0,.int .u32 0,.int .u32 0,.int .u32 0,.int .u32 0,.int .u32 0,.int .u32 0,.int .u32 0,.int .u32 0,.int .u32 0,.int .u32 0,.int .u32 0,.int .u32 0,.int .u32 0,.int .u32 0,.int .u32 0,.int .u32 0,.int .u32 0,.int .u32 0,.int .u32 0,.int .u32 0,.int .u32 0,.int .u32 0,.int .u32 0,.int .u32 0,.int .u32 0,.int .u32 0,.int .u32 0,.int .u32 0,.int .u32 0,.int .u32 0,.int .u32 0,.int .u32 0,.int .u32 0,.int .u32 0,.int .u32 0,.int .u32 0,.int .u32 0,.int .u32 0,.int .u32 0,.int .u32 0,.int .u32 0,.int .u32 0,.int .u32 0,.int .u32 0,.int .u32 0,.int .u32 0,.int .u32 0,.int .u32 0,.int .u32 0,.int .u32 0,.int .u32 0,.int .u32 0,.int .u32 0,.int .u32 0,.int .u32 0,.int .u32 0,.int .u32 0] 106)).alloc (.cells #[.int .u32 0,.int .u32 0,.int .u32 0,.int .u32 0,.int .u32 0,.int .u32 0,.int .u32 0,.int .u32 0,.int .u32 0,.int .u32 0,.int .u32 0,.int .u32 0,.int .u32 0,.int .u32 0,.int .u32 0,.int .u32 0,.int .u32 0,.int .u32 0,.int .u32 0,.int .u32 0,.int .u32 0,.int .u32 0,.int .u32 0,.int .u32 0,.int .u32 0,.int .u32 0,.int .u32 0,.int .u32 0,.int .u32 0,.int .u32 0,.int .u32 0,.int .u32 0,.int .u32 0,.int .u32 0,.int .u32 0,.int .u32 0,.int .u32 0,.int .u32 0,.int .u32 0,.int .u32 0,.int .u32 0,.int .u32 0,.int .u32 0,.int .u32 0,.int .u32 0,.int .u32 0,.int .u32 0,.int .u32 0,.int .u32 0,.int .u32 0,.int .u32 0,.int .u32 0,.int .u32 0,.int .u32 0,.int .u32 0,.int .u32 0,.int .u32 0,.int .u32 0,.int .u32 0,.int .u32 0,.int .u32 0,.int .u32 0,.int .u32 0,.int .u32 0] 106)).heap.size=w.heap.size+1+1:=by simp only [size_alloc]
 generalize World.alloc _ _=u at *
 generalize hS:ByteArray.mk _=S at *
 have hS1:S.data.toList=rl:=by rw [← hS]; decide +kernel
 have hS2:S.size=512:=by
  have:S.data.toList.length=512:=by rw [hS1]; exact rl_len
  simpa using this
 clear hS
 have hI:Hid ((u.iter S 0).heap[w.heap.size+1+1]?=some (.stringIter S 0)):=by
  rw [← hgs]
  exact World.iter_heap u S 0
 replace hB:Hid (Bl w [⟨w.heap.size,uc Z64,106⟩,⟨w.heap.size+1,uc (KP 0),106⟩] (u.iter S 0)):=hide (Bl.more hB ((Gr.refl u).alloc _))
 clear hgs
 generalize World.iter _ _ _=u1 at *
 replace hS1:=hide hS1
 go_loopw [] (fun wr=>∃ n:Nat,∃ m:List Int,n≤512∧Hid (m=KP n)∧Hid (wr.heap[w.heap.size+1+1]?=some (.stringIter S n))∧Hid (Bl w [⟨w.heap.size,uc Z64,106⟩,⟨w.heap.size+1,uc m,106⟩] wr)) (fun wr=>512 - wr.iterPos (w.heap.size+1+1))
 case atStart=>exact ⟨0,KP 0,by omega,rfl,hI,hB⟩
 case round =>
 clear hB hI
 obtain ⟨n,m,hn,hm,hI,hB⟩:=hrel
 have hml:m.length=64:=by rw [unhide hm]; exact KP_len n
 by_cases hil:n<512
 ·have hp:n<S.size:=by omega
  have hd:=rl_rng n hil
  have hd0:=rl_at S (unhide hS1) n hp
  have hnx:∀ ty,(Instr.next (.pointer (some ⟨w.heap.size+1+1,0,none⟩)) true ty).run Tryz.prog wr=.ok (.tuple #[.bool true,.int .i64 n,.int .i32 (S[n]'hp).toNat]) (itr wr (w.heap.size+1+1) S (n+1)):=fun ty=>run_next_at wr _ S n ty (unhide hI) hp (by omega)
  rw [hd0] at hnx
  have hI0:=hide (iterPos_of (unhide hI))
  replace hI:Hid ((itr wr (w.heap.size+1+1) S (n+1)).heap[w.heap.size+1+1]?=some (.stringIter S (n+1))):=itr_self S (n+1) (lt_of_block (unhide hI))
  replace hB:Hid (Bl w [⟨w.heap.size,uc Z64,106⟩,⟨w.heap.size+1,uc m,106⟩] (itr wr (w.heap.size+1+1) S (n+1))):=(unhide hB).itr _ (by omega) (by intro x hx; simp only [List.mem_cons,List.not_mem_nil,or_false] at hx; rcases hx with rfl | rfl <;> dsimp only <;> omega) S (n+1)
  obtain ⟨q,hq⟩:∃ q,q=n / 8:=⟨_,rfl⟩
  have hm2:Hid (m.set q (bits .or .u32 (IntKind.u32.wrap (m.getD q 0 * 16)) (dg ((rl.getD n 0).toNat:Int)))=KP (n+1)):=by
   rw [hq,unhide hm]
   rfl
  have hg:=(unhide hB).get 1 (x:=⟨w.heap.size+1,uc m,106⟩) rfl
  have c4:=uc_cell hg q (by omega)
  have f4:=froz_of (i:=q) hg
  clear hg
  generalize itr wr (w.heap.size+1+1) S (n+1)=v at *
  have hB2:=Bl.drew ((unhide hB).cell 1 (x:=⟨w.heap.size+1,uc m,106⟩) rfl q (.int .u32 (bits .or .u32 (IntKind.u32.wrap (m.getD q 0 * 16)) (dg ((rl.getD n 0).toNat:Int)))))
  simp only [List.set_cons_zero,List.set_cons_succ,uc_set] at hB2
  replace hB2:=hide hB2
  have hI2:Hid ((v.setCell ⟨w.heap.size+1,q,none⟩ (.int .u32 (bits .or .u32 (IntKind.u32.wrap (m.getD q 0 * 16)) (dg ((rl.getD n 0).toNat:Int))))).drew.heap[w.heap.size+1+1]?=some (.stringIter S (n+1))):=(Below.heap_setCell v ⟨w.heap.size+1,q,none⟩ _ (w.heap.size+1+1) (by dsimp only; omega)).trans (unhide hI)
  generalize ((rl.getD n 0).toNat:Int)=d at *
  generalize m.getD q 0=x at *
  have e0:(n:Int) / 8=(q:Int):=by omega
  have e1:Int.tdiv (n:Int) 8=(q:Int):=by rw [Int.tdiv_eq_ediv_of_nonneg (by omega)]; exact e0
  have g0:IntKind.i64.wrap (q:Int)=(q:Int):=by rw [IntKind.wrap_i64]; omega
  have l0:0≤(q:Int)∧(q:Int)<64:=by omega
  have m0:q<64:=by omega
  replace hq:=hide hq
  replace hd0:=hide hd0
  go_upto_region 5 with fail
  go_region_with (go_at_call 122; refine (value_ok _ (by assumption) _).mono ?_; rintro e w1 ⟨rfl,rfl⟩)
  all_goals
   go_wp2_with fail
   go_roundw
   case rel=>exact ⟨n+1,_,by omega,hm2,hI2,hB2⟩
   case measure =>
    have e2:=iterPos_of (unhide hI2)
    have e3:=unhide hI0
    rw [e2,e3]
    omega
 ·have e:n=512:=by omega
  subst e
  have hnx:∀ ty,(Instr.next (.pointer (some ⟨w.heap.size+1+1,0,none⟩)) true ty).run Tryz.prog wr=.ok (.tuple #[.bool false]) wr:=fun ty=>run_next_stop wr _ S 512 ty (unhide hI) (by omega)
  clear hil
  have hr0:m=KL:=(unhide hm).trans KP_all
  clear hm
  go_upto_region 6 with fail
  replace hB:=unhide hB
  refine wp_region_lit ?_
  refine list_val (.agg (uc m)) (by kernel_rfl) (exec_arr _ 106 (.tmp 1) rfl (w.heap.size+1) (by kernel_rfl) (uc m) 106 _ (hB.get 1 (x:=⟨w.heap.size+1,uc m,106⟩) rfl) Tryz.underlying106 rfl (by rw [Tryz.infoW,uc_size,hml])) ?_
  simp only [nrm]
  refine list_store 106 (.tmp 0) (.tmp 20) w.heap.size (uc m) 106 (uc Z64) (by kernel_rfl) rfl (by kernel_rfl) (by kernel_rfl) (hB.get 0 (x:=⟨w.heap.size,uc Z64,106⟩) rfl) (by rw [Tryz.infoW,uc_size,hml]) ((show (uc Z64).size=64 from rfl).trans ((uc_size _).trans hml).symm) (uc_one _) ?_
  replace hB:=hB.set 0 (x:=⟨w.heap.size,uc Z64,106⟩) rfl (uc m)
  simp only [List.set_cons_zero,List.set_cons_succ] at hB
  generalize World.setRow _ _ _=v1_ at *
  simp only [nrm]
  refine wpList_nil ?_
  go_wp2_with fail
  exact bodyPost_ret (v:=.agg (uc m)) (results_cell_row Tryz.results103 _ _ w.heap.size 106 (uc m) (0,0) _ rfl (hB.get 0 (x:=⟨w.heap.size,uc m,106⟩) rfl) Tryz.underlying106 rfl (by rw [Tryz.infoW,uc_size,hml])) rfl ⟨by rw [hr0],hB.gr⟩
def Z32:List Int:=List.replicate 32 0
def y0 (x:Int):Int:=x / 16777216 % 256
def y1 (x:Int):Int:=x / 65536 % 256
def y2 (x:Int):Int:=x / 256 % 256
def y3 (x:Int):Int:=x % 256
def KY (s:List Int):Nat→List Int
 | 0=>Z32
 | n+1=>((((KY s n).set (4 * n) (y0 (s.getD n 0))).set (4 * n+1) (y1 (s.getD n 0))).set (4 * n+2) (y2 (s.getD n 0))).set (4 * n+3) (y3 (s.getD n 0))
theorem KY_len (s:List Int):∀ n,(KY s n).length=32
 | 0=>rfl
 | n+1=>by rw [KY,List.length_set,List.length_set,List.length_set,List.length_set,KY_len s n]
def keyL (s:List Int):List Int:=KY s 8
theorem keyL_len (s:List Int):(keyL s).length=32:=KY_len s 8
theorem set_isB {l:List Int} (h:IsB l) (i:Nat) (x:Int) (hx:0≤x∧x<256):IsB (l.set i x):=by
 intro y hy
 rcases List.mem_or_eq_of_mem_set hy with h1 | h1
 ·exact h y h1
 ·subst h1; exact hx
theorem KY_isB (s:List Int):∀ n,IsB (KY s n)
 | 0=>by intro x hx; have:=List.eq_of_mem_replicate hx; omega
 | n+1=>by
  rw [KY]
  exact set_isB (set_isB (set_isB (set_isB (KY_isB s n) _ _ (by unfold y0; omega)) _ _ (by unfold y1; omega)) _ _ (by unfold y2; omega)) _ _ (by unfold y3; omega)
theorem keyL_isB (s:List Int):IsB (keyL s):=KY_isB s 8
theorem Tryz.infoKey:(Tryz.prog.info? 23).map (·.size)=some 32:=by kernel_rfl
theorem index_u32 (cs:Array Value) (n:Nat) (x:Int) (hn:n<8) (hx:cs[n]?=some (.int .u32 x)) (w:World):(Instr.index 108 (.agg cs) (.int .i64 n)).run Tryz.prog w=.ok (.int .u32 x) w:=by
 have h1:(0:Int)≤n∧(n:Int)<8:=by omega
 have h2:(n:Int)<8:=by omega
 simp [Instr.index,run_underlying Tryz.underlying108,asIntOf,go_sem,h2,hx]
 omega
set_option maxHeartbeats 2000000 in
theorem key_ok (s:List Int) (hs:s.length=8) (w:World):Calls Tryz.prog 83 #[.agg (uc s)] w (fun r w'=>r=.returned (.agg (kc (keyL s)))∧Gr w w'):=by
 obtain ⟨S,hS⟩:∃ S,S=uc s:=⟨_,rfl⟩
 rw [← hS]
 have hSs:S.size=8:=by rw [hS,uc_size,hs]
 replace hS:=hide hS
 go_enter Tryz.func83,Tryz.ntmps83
 go_upto_region 2 with fail
 have hB:=(((Bl.nil w).new S 108).new #[.int .u8 0,.int .u8 0,.int .u8 0,.int .u8 0,.int .u8 0,.int .u8 0,.int .u8 0,.int .u8 0,.int .u8 0,.int .u8 0,.int .u8 0,.int .u8 0,.int .u8 0,.int .u8 0,.int .u8 0,.int .u8 0,.int .u8 0,.int .u8 0,.int .u8 0,.int .u8 0,.int .u8 0,.int .u8 0,.int .u8 0,.int .u8 0,.int .u8 0,.int .u8 0,.int .u8 0,.int .u8 0,.int .u8 0,.int .u8 0,.int .u8 0,.int .u8 0] 23).new #[.int .u8 0,.int .u8 0,.int .u8 0,.int .u8 0,.int .u8 0,.int .u8 0,.int .u8 0,.int .u8 0,.int .u8 0,.int .u8 0,.int .u8 0,.int .u8 0,.int .u8 0,.int .u8 0,.int .u8 0,.int .u8 0,.int .u8 0,.int .u8 0,.int .u8 0,.int .u8 0,.int .u8 0,.int .u8 0,.int .u8 0,.int .u8 0,.int .u8 0,.int .u8 0,.int .u8 0,.int .u8 0,.int .u8 0,.int .u8 0,.int .u8 0,.int .u8 0] 23
 simp only [size_alloc,List.nil_append,List.cons_append] at hB
 generalize World.alloc _ _=u at *
 replace hB:Bl w [⟨w.heap.size,S,108⟩,⟨w.heap.size+1,kc Z32,23⟩,⟨w.heap.size+1+1,kc (KY s 0),23⟩] u:=hB
 refine wp_region_lit ?_
 refine list_val (.agg S) (by kernel_rfl) (exec_arr _ 108 (.tmp 1) rfl w.heap.size (by kernel_rfl) S 108 _ (hB.get 0 (x:=⟨w.heap.size,S,108⟩) rfl) Tryz.underlying108 rfl (by rw [Tryz.infoS,hSs])) ?_
 simp only [nrm]
 refine list_val (.int .i64 0) (by kernel_rfl) (by kernel_rfl) ?_
 simp only [nrm]
 refine wpList_nil ?_
 replace hB:=hide hB
 go_wp2_with fail
 go_loopw [7] (fun i wr=>∃ n:Nat,∃ m:List Int,n≤8∧i=.int .i64 n∧Hid (m=KY s n)∧Hid (Bl w [⟨w.heap.size,S,108⟩,⟨w.heap.size+1,kc Z32,23⟩,⟨w.heap.size+1+1,kc m,23⟩] wr)) (fun i _=>8 - (intOf i).toNat)
 case atStart=>exact ⟨0,KY s 0,by omega,rfl,rfl,hB⟩
 case round =>
 clear hB
 obtain ⟨n,m,hn,rfl,hm,hB⟩:=hrel
 have hml:m.length=32:=by rw [unhide hm]; exact KY_len s n
 by_cases hil:n<8
 ·have hx:(Instr.index 108 (.agg S) (.int .i64 n)).run Tryz.prog wr=.ok (.int .u32 (s.getD n 0)) wr:=index_u32 S n _ hil (by rw [unhide hS]; exact uc_get s n (by omega)) wr
  obtain ⟨q0,hq0⟩:∃ q,q=4 * n:=⟨_,rfl⟩
  obtain ⟨q1,hq1⟩:∃ q,q=4 * n+1:=⟨_,rfl⟩
  obtain ⟨q2,hq2⟩:∃ q,q=4 * n+2:=⟨_,rfl⟩
  obtain ⟨q3,hq3⟩:∃ q,q=4 * n+3:=⟨_,rfl⟩
  have hm2:Hid ((((m.set q0 (y0 (s.getD n 0))).set q1 (y1 (s.getD n 0))).set q2 (y2 (s.getD n 0))).set q3 (y3 (s.getD n 0))=KY s (n+1)):=by
   rw [hq0,hq1,hq2,hq3,unhide hm]
   rfl
  generalize s.getD n 0=x at *
  have hB0:=unhide hB
  have c0:=kc_cell (hB0.get 2 (x:=⟨w.heap.size+1+1,kc m,23⟩) rfl) q0 (by omega)
  have f0:=froz_of (i:=q0) (hB0.get 2 (x:=⟨w.heap.size+1+1,kc m,23⟩) rfl)
  have hB1:=hB0.cell 2 (x:=⟨w.heap.size+1+1,kc m,23⟩) rfl q0 (.int .u8 (x / 16777216 % 256))
  simp only [List.set_cons_zero,List.set_cons_succ,kc_set] at hB1
  have c1:=kc_cell (hB1.get 2 (x:=⟨w.heap.size+1+1,kc (m.set q0 (x / 16777216 % 256)),23⟩) rfl) q1 (by simp; omega)
  have f1:=froz_of (i:=q1) (hB1.get 2 (x:=⟨w.heap.size+1+1,kc (m.set q0 (x / 16777216 % 256)),23⟩) rfl)
  have hB2:=hB1.cell 2 (x:=⟨w.heap.size+1+1,kc (m.set q0 (x / 16777216 % 256)),23⟩) rfl q1 (.int .u8 (x / 65536 % 256))
  simp only [List.set_cons_zero,List.set_cons_succ,kc_set] at hB2
  have c2:=kc_cell (hB2.get 2 (x:=⟨w.heap.size+1+1,kc ((m.set q0 (x / 16777216 % 256)).set q1 (x / 65536 % 256)),23⟩) rfl) q2 (by simp; omega)
  have f2:=froz_of (i:=q2) (hB2.get 2 (x:=⟨w.heap.size+1+1,kc ((m.set q0 (x / 16777216 % 256)).set q1 (x / 65536 % 256)),23⟩) rfl)
  have hB3:=hB2.cell 2 (x:=⟨w.heap.size+1+1,kc ((m.set q0 (x / 16777216 % 256)).set q1 (x / 65536 % 256)),23⟩) rfl q2 (.int .u8 (x / 256 % 256))
  simp only [List.set_cons_zero,List.set_cons_succ,kc_set] at hB3
  have c3:=kc_cell (hB3.get 2 (x:=⟨w.heap.size+1+1,kc (((m.set q0 (x / 16777216 % 256)).set q1 (x / 65536 % 256)).set q2 (x / 256 % 256)),23⟩) rfl) q3 (by simp; omega)
  have f3:=froz_of (i:=q3) (hB3.get 2 (x:=⟨w.heap.size+1+1,kc (((m.set q0 (x / 16777216 % 256)).set q1 (x / 65536 % 256)).set q2 (x / 256 % 256)),23⟩) rfl)
  have hB4:=hB3.cell 2 (x:=⟨w.heap.size+1+1,kc (((m.set q0 (x / 16777216 % 256)).set q1 (x / 65536 % 256)).set q2 (x / 256 % 256)),23⟩) rfl q3 (.int .u8 (x % 256))
  simp only [List.set_cons_zero,List.set_cons_succ,kc_set] at hB4
  generalize m.getD q0 0=z0 at c0
  generalize List.getD _ _ _=z1 at c1
  generalize List.getD _ _ _=z2 at c2
  generalize List.getD _ _ _=z3 at c3
  clear hB0 hB1 hB2 hB3 hB
  replace hB4:=hide hB4
  have e0:4 * (n:Int)=(q0:Int):=by omega
  have e1:(q0:Int)+1=(q1:Int):=by omega
  have e2:(q0:Int)+2=(q2:Int):=by omega
  have e3:(q0:Int)+3=(q3:Int):=by omega
  have g0:IntKind.i64.wrap (q0:Int)=(q0:Int):=by rw [IntKind.wrap_i64]; omega
  have g1:IntKind.i64.wrap (q1:Int)=(q1:Int):=by rw [IntKind.wrap_i64]; omega
  have g2:IntKind.i64.wrap (q2:Int)=(q2:Int):=by rw [IntKind.wrap_i64]; omega
  have g3:IntKind.i64.wrap (q3:Int)=(q3:Int):=by rw [IntKind.wrap_i64]; omega
  have l0:0≤(q0:Int)∧(q0:Int)<32:=by omega
  have l1:0≤(q1:Int)∧(q1:Int)<32:=by omega
  have l2:0≤(q2:Int)∧(q2:Int)<32:=by omega
  have l3:0≤(q3:Int)∧(q3:Int)<32:=by omega
  have m0:q0<32:=by omega
  have m1:q1<32:=by omega
  have m2:q2<32:=by omega
  have m3:q3<32:=by omega
  have nI:(n:Int)<8:=by omega
  have w0:IntKind.u8.wrap (x / 16777216)=x / 16777216 % 256:=by rw [IntKind.wrap_u8']
  have w1:IntKind.u8.wrap (x / 65536)=x / 65536 % 256:=by rw [IntKind.wrap_u8']
  have w2:IntKind.u8.wrap (x / 256)=x / 256 % 256:=by rw [IntKind.wrap_u8']
  have w3:IntKind.u8.wrap x=x % 256:=by rw [IntKind.wrap_u8']
  replace hq0:=hide hq0
  replace hq1:=hide hq1
  replace hq2:=hide hq2
  replace hq3:=hide hq3
  go_wp2_with fail
  go_roundw
  case rel=>exact ⟨n+1,_,by omega,by go_num,hm2,hB4⟩
  case measure=>simp [intOf]; omega
 ·have e:n=8:=by omega
  subst e
  clear hil
  have hr0:m=keyL s:=unhide hm
  clear hm
  go_upto_region 7 with fail
  replace hB:=unhide hB
  refine wp_region_lit ?_
  refine list_val (.agg (kc m)) (by kernel_rfl) (exec_arr _ 23 (.tmp 3) rfl (w.heap.size+1+1) (by kernel_rfl) (kc m) 23 _ (hB.get 2 (x:=⟨w.heap.size+1+1,kc m,23⟩) rfl) Tryz.underlying23 rfl (by rw [Tryz.infoKey,kc_size,hml])) ?_
  simp only [nrm]
  refine list_store 23 (.tmp 2) (.tmp 38) (w.heap.size+1) (kc m) 23 (kc Z32) (by kernel_rfl) rfl (by kernel_rfl) (by kernel_rfl) (hB.get 1 (x:=⟨w.heap.size+1,kc Z32,23⟩) rfl) (by rw [Tryz.infoKey,kc_size,hml]) ((show (kc Z32).size=32 from rfl).trans ((kc_size _).trans hml).symm) (kc_one _) ?_
  replace hB:=hB.set 1 (x:=⟨w.heap.size+1,kc Z32,23⟩) rfl (kc m)
  simp only [List.set_cons_zero,List.set_cons_succ] at hB
  generalize World.setRow _ _ _=v1_ at *
  simp only [nrm]
  refine wpList_nil ?_
  go_wp2_with fail
  exact bodyPost_ret (v:=.agg (kc m)) (results_cell_row Tryz.results83 _ _ (w.heap.size+1) 23 (kc m) (0,0) _ rfl (hB.get 1 (x:=⟨w.heap.size+1,kc m,23⟩) rfl) Tryz.underlying23 rfl (by rw [Tryz.infoKey,kc_size,hml])) rfl ⟨by rw [hr0],hB.gr⟩
structure Bt (g:Nat) (w v:World):Prop where
 os:v.os=w.os
 tape:v.tape=w.tape
 output:v.output=w.output
 size:w.heap.size≤v.heap.size
 block:∀ i,i<w.heap.size→i≠g→v.heap[i]?=w.heap[i]?
theorem Bt.refl (g:Nat) (w:World):Bt g w w:=⟨rfl,rfl,rfl,Nat.le_refl _,fun _ _ _=>rfl⟩
theorem Bt.trans {g:Nat} {a b c:World} (h:Bt g a b) (k:Bt g b c):Bt g a c :=
 ⟨k.os.trans h.os,k.tape.trans h.tape,k.output.trans h.output,Nat.le_trans h.size k.size,fun i hi hn=>(k.block i (Nat.lt_of_lt_of_le hi h.size) hn).trans (h.block i hi hn)⟩
theorem Gr.bt {w v:World} (h:Gr w v) (g:Nat):Bt g w v:=⟨h.os,h.tape,h.output,h.size,fun i hi _=>h.block i hi⟩
theorem Bt.gr {g:Nat} {w u v:World} (h:Gr w u) (k:Bt g u v) (hg:w.heap.size≤g):Gr w v :=
 ⟨k.os.trans h.os,k.tape.trans h.tape,k.output.trans h.output,Nat.le_trans h.size k.size,fun i hi=>(k.block i (Nat.lt_of_lt_of_le hi h.size) (by omega)).trans (h.block i hi)⟩
theorem Bt.blk {g:Nat} {w v:World} (h:Bt g w v) {b:Nat} {o:Obj} (hp:w.heap[b]?=some o) (hb:b≠g):v.heap[b]?=some o:=by rw [h.block b (lt_of_block hp) hb]; exact hp
theorem cell_heap {w v:World} {p o:Nat} (h:v.heap[p]?=w.heap[p]?):v.cell? ⟨p,o,none⟩=w.cell? ⟨p,o,none⟩:=by simp [World.cell?,h]
theorem lt_of_cell {w:World} {p o:Nat} {x:Value} (h:w.cell? ⟨p,o,none⟩=some x):p<w.heap.size:=by
 rcases Nat.lt_or_ge p w.heap.size with h' | h'
 ·exact h'
 ·simp [World.cell?,Array.getElem?_eq_none h'] at h
theorem Bt.cell {g:Nat} {w v:World} (h:Bt g w v) {p o:Nat} {x:Value} (hp:w.cell? ⟨p,o,none⟩=some x) (hb:p≠g):v.cell? ⟨p,o,none⟩=some x:=by
 rw [cell_heap (h.block p (lt_of_cell hp) hb)]; exact hp
theorem Bl.but {w u v:World} {L:List Blk} (h:Bl w L u) {g:Nat} (k:Bt g u v) (i:Nat) {x:Blk} (hi:L[i]?=some x) (hx:x.g=g) {c:Array Value} (hc:v.heap[g]?=some (.cells c x.t (0,0))):Bl w (L.set i ⟨g,c,x.t⟩) v:=by
 have hn:∀ j y,L[j]?=some y→j≠i→y.g≠g:=by
  intro j y hj hji
  obtain ⟨hjl,rfl⟩:=List.getElem?_eq_some_iff.1 hj
  obtain ⟨hil,rfl⟩:=List.getElem?_eq_some_iff.1 hi
  rw [← hx]
  rcases Nat.lt_or_gt_of_ne hji with hlt | hlt
  ·exact List.pairwise_iff_getElem.1 h.ne j i hjl hil hlt
  ·exact (List.pairwise_iff_getElem.1 h.ne i j hil hjl hlt).symm
 have hog:=h.own i hi
 rw [hx] at hog
 refine ⟨k.gr h.gr hog,?_,?_⟩
 ·intro y hy
  obtain ⟨j,hj⟩:=List.mem_iff_getElem?.1 hy
  by_cases hji:j=i
  ·subst hji
   rw [List.getElem?_set_self',hi] at hj
   simp at hj
   subst hj
   exact ⟨hc,hog⟩
  ·rw [List.getElem?_set_ne (fun e=>hji e.symm)] at hj
   exact ⟨k.blk (h.get j hj) (hn j y hj hji),h.own j hj⟩
 ·refine List.pairwise_iff_getElem.2 fun a b ha hb hab=>?_
  rw [List.length_set] at ha hb
  have h0:=List.pairwise_iff_getElem.1 h.ne a b ha hb hab
  obtain ⟨hil,rfl⟩:=List.getElem?_eq_some_iff.1 hi
  rw [List.getElem_set,List.getElem_set]
  split
  ·rename_i e
   subst e
   split
   ·omega
   ·exact fun e=>h0 (hx.trans e)
  ·split
   ·rename_i e
    subst e
    exact fun e=>h0 (e.trans hx.symm)
   ·exact h0
def sp (C:List Value):Nat→List Value→List Value
 | _,[]=>C
 | o,v::r=>sp (C.set o v) (o+1) r
theorem sp_mid:∀ (vs A M D:List Value),vs.length=M.length→sp (A++(M++D)) A.length vs=A++(vs++D)
 | [],A,M,D,h=>by
  have:M=[]:=List.eq_nil_of_length_eq_zero h.symm
  subst this
  rfl
 | v::r,A,[],D,h=>by simp at h
 | v::r,A,m::M,D,h=>by
  have h1:(A++(m::M++D)).set A.length v=(A++[v])++(M++D):=by simp
  have h2:=sp_mid r (A++[v]) M D (by simpa using h)
  rw [sp,h1]
  simp only [List.length_append,List.length_cons,List.length_nil,Nat.zero_add] at h2
  rw [h2]
  simp
theorem setCells_heap:∀ (vs:List Value) (w:World) (g o:Nat) (C:List Value) (t:TypeId),w.heap[g]?=some (.cells C.toArray t (0,0))→(w.setCells g o vs).heap[g]?=some (.cells (sp C o vs).toArray t (0,0))
 | [],w,g,o,C,t,h=>h
 | v::r,w,g,o,C,t,h=>by
  have h1:=heap_setCell_same w g o C.toArray t v h
  rw [List.setIfInBounds_toArray] at h1
  rw [World.setCells,sp]
  exact setCells_heap r _ g (o+1) _ t h1
theorem setCells_other:∀ (vs:List Value) (w:World) (g o j:Nat),j≠g→(w.setCells g o vs).heap[j]?=w.heap[j]?
 | [],w,g,o,j,h=>rfl
 | v::r,w,g,o,j,h=>by
  rw [World.setCells,setCells_other r _ g (o+1) j h]
  exact Below.heap_setCell w ⟨g,o,none⟩ v j h
theorem setCells_bt:∀ (vs:List Value) (w:World) (g o:Nat),Bt g w (w.setCells g o vs)
 | [],w,g,o=>Bt.refl g w
 | v::r,w,g,o=>by
  rw [World.setCells]
  refine Bt.trans ?_ (setCells_bt r _ g (o+1))
  refine ⟨rfl,rfl,rfl,?_,fun i _ hn=>Below.heap_setCell w ⟨g,o,none⟩ v i hn⟩
  exact Nat.le_of_eq (by simp [World.setCell])
theorem there_of {w:World} {g o n:Nat} {C:List Value} {t:TypeId} (h:w.heap[g]?=some (.cells C.toArray t (0,0))) (hn:o+n≤C.length):w.there g o n:=by
 intro j hj
 refine ⟨?_,froz_of h⟩
 have:C.toArray[o+j]?=some (C[o+j]'(by omega)):=by simp
 rw [cell_of h this]
 rfl
end Go.Proofs.YthahhglbeafkmaaGreatDoor
namespace Go.Proofs.YthahhglbeafkmaaGreatDoor
open Go.RowKit
set_option maxRecDepth 100000
set_option linter.unusedSimpArgs false
set_option linter.unusedVariables false
def hbk:Nat→List Int→List Int→List Int
 | 0,s,_=>s
 | n+1,s,B=>stp (hbk n s B) (wds ((B.drop (64 * n)).take 64)) KL
theorem hbk_len (s B:List Int) (hs:s.length=8):∀ n,(hbk n s B).length=8
 | 0=>hs
 | _+1=>stp_len _ _ _
def hcl (s l:List Int) (n:Int):List Value:=s.map (Value.int .u32)++(l.map (Value.int .u8)++[.int .i64 n])
def hc (s l:List Int) (n:Int):Array Value:=(hcl s l n).toArray
def SlO (g:Nat) (w:World) (a:Option Addr) (B:List Int):Prop:=B=[]∨∃ p o,a=some ⟨p,o,none⟩∧At w p o B∧(p≠g∨8≤o)
theorem range_st {w:World} {g:Nat} {s l:List Int} {n:Int} {t:TypeId} (h:w.heap[g]?=some (.cells (hc s l n) t (0,0))):w.rangeAt g 0 (s.map (Value.int .u32)):=by
 intro j v hj
 refine cell_of h ?_
 unfold hc hcl
 have hlt:=(List.getElem?_eq_some_iff.1 hj).1
 rw [List.getElem?_toArray,Nat.zero_add,List.getElem?_append_left hlt]
 exact hj
theorem list_store_mid {P:Program} {ops:Array Oper} {Q:Exit→Act→World→Prop} {a:Act} {w:World} {o:Oper} {K:Act→World→Prop} (ty:TypeId) (x y:Operand) (g off:Nat) (c:Array Value) (hw:Region.wanted o (yielded ops a.tmps)=true) (ho:o.op=.store ty x y)
  (hx:a.eval x=.pointer (some ⟨g,off,none⟩)) (hy:a.eval y=.agg c) (ht:w.there g off c.size) (hi:(P.info? ty).map (·.size)=some c.size) (h1:c.all (·.oneCell')=true)
  (h:K (a.put o.dst undef) (w.setCells g off c.toList)):if Region.wanted o (yielded ops a.tmps)=true then Oper.wp P o a w K Q else K (a.put o.dst undef) w:=by
 rw [if_pos hw]
 exact wp_store_mid ty x y ho g off c hx hy ht hi h1 h
theorem At.bt {g:Nat} {w v:World} {p o:Nat} {B:List Int} (h:At w p o B) (k:Bt g w v) (hp:p≠g):At v p o B:=fun j hj=>k.cell (h j hj) hp
theorem SlO.gr {g:Nat} {w v:World} {a:Option Addr} {B:List Int} (h:SlO g w a B) (k:Gr w v):SlO g v a B:=by
 rcases h with h | ⟨p,o,h1,h2,h3⟩
 ·exact .inl h
 ·exact .inr ⟨p,o,h1,h2.gr k,h3⟩
structure TI (g gk:Nat) (s l:List Int) (n:Int) (B:List Int) (w:World) (j:Nat) (a:Option Addr) (v:World):Prop where
 hash:v.heap[g]?=some (.cells (hc (hbk j s B) l n) 132 (0,0))
 ks:v.heap[gk]?=some (.cells (uc KL) 106 (0,0))
 bt:Bt g w v
 sl:SlO g v a (B.drop (64 * j))
 ne:gk≠g
theorem TI.gr {g gk:Nat} {s l:List Int} {n:Int} {B:List Int} {w:World} {j:Nat} {a:Option Addr} {u v:World} (h:TI g gk s l n B w j a u) (k:Gr u v):TI g gk s l n B w j a v :=
 ⟨k.blk h.hash,k.blk h.ks,h.bt.trans (k.bt g),h.sl.gr k,h.ne⟩
def Took (g:Nat) (s l:List Int) (n:Int) (B:List Int) (w:World) (r:Ending) (w':World):Prop:=∃ a' c',r=.returned (.slice a' (B.length % 64) c')∧B.length % 64≤c'∧c'<9223372036854775808∧SlO g w' a' (B.drop (64 * (B.length / 64))) ∧
 w'.heap[g]?=some (.cells (hc (hbk (B.length / 64) s B) l n) 132 (0,0))∧Bt g w w'
def slen:Value→Nat
 | .slice _ n _=>n
 | _=>0
theorem TI.at_ {g gk:Nat} {s l:List Int} {n:Int} {B:List Int} {w:World} {j p o:Nat} {v:World} (h:TI g gk s l n B w j (some ⟨p,o,none⟩) v):At v p o ((B.drop (64 * j)).take 64):=by
 intro k hk
 rw [List.length_take] at hk
 rcases h.sl with h0 | ⟨p',o',h1,h2,h3⟩
 ·rw [h0] at hk; simp at hk
 ·have e1:p'=p∧o'=o:=by simpa using h1.symm
  obtain ⟨rfl,rfl⟩:=e1
  have h4:=h2 k (by omega)
  rw [h4]
  have:((B.drop (64 * j)).take 64).getD k 0=(B.drop (64 * j)).getD k 0:=by
   have hk2:k<64:=by omega
   simp [List.getElem?_take,hk2]
  rw [this]
theorem TI.rng {g gk:Nat} {s l:List Int} {n:Int} {B:List Int} {w:World} {j:Nat} {a:Option Addr} {v:World} {S:List Int} (h:TI g gk s l n B w j a v) (e:Hid (S=hbk j s B)):v.rangeAt g 0 (S.map (Value.int .u32)):=by
 rw [unhide e]
 exact range_st h.hash
theorem TI.step {g gk:Nat} {s l:List Int} {n:Int} {B:List Int} {w:World} {j p o:Nat} {v:World} {S:List Int} (h:TI g gk s l n B w j (some ⟨p,o,none⟩) v) (hs:s.length=8) (e:S=hbk j s B) :
  (v.setCells g 0 (uc (stp S (wds ((B.drop (64 * j)).take 64)) KL)).toList).heap[gk]?=some (.cells (uc KL) 106 (0,0))∧TI g gk s l n B w (j+1) (some ⟨p,o+64,none⟩) (v.setCells g 0 (uc (stp S (wds ((B.drop (64 * j)).take 64)) KL)).toList):=by
 have h1:(v.setCells g 0 (uc (stp S (wds ((B.drop (64 * j)).take 64)) KL)).toList).heap[gk]?=some (.cells (uc KL) 106 (0,0)):=(setCells_other _ v g 0 gk h.ne).trans h.ks
 refine ⟨h1,⟨?_,h1,h.bt.trans (setCells_bt _ v g 0),?_,h.ne⟩⟩
 ·rw [setCells_heap _ v g 0 _ _ h.hash,e]
  have:=sp_mid ((stp (hbk j s B) (wds ((B.drop (64 * j)).take 64)) KL).map (Value.int .u32)) [] ((hbk j s B).map (Value.int .u32)) (l.map (Value.int .u8)++[.int .i64 n]) (by rw [List.length_map,List.length_map,hbk_len s B hs j]; rfl)
  simp only [List.nil_append,List.length_nil] at this
  unfold hcl uc
  simp only []
  rw [this]
  rfl
 ·rcases h.sl with h0 | ⟨p',o',e1,h2,h3⟩
  ·refine .inl ?_
   rw [Nat.mul_add,← List.drop_drop,h0]
   rfl
  ·have e2:p'=p∧o'=o:=by simpa using e1.symm
   obtain ⟨rfl,rfl⟩:=e2
   refine .inr ⟨p',o'+64,rfl,?_,by omega⟩
   intro k hk
   rw [List.length_drop] at hk
   have h4:=h2 (64+k) (by rw [List.length_drop]; omega)
   have h5:(B.drop (64 * (j+1))).getD k 0=(B.drop (64 * j)).getD (64+k) 0:=by
    rw [Nat.mul_add,← List.drop_drop]
    simp [Nat.add_assoc]
   rw [h5,← h4]
   have h6:o'+64+k=o'+(64+k):=by omega
   rw [h6]
   refine World.cell?_setCells_out g _ 0 v _ (fun e3 _=>?_)
   right
   show 0+(uc _).toList.length≤o'+(64+k)
   rw [Array.length_toList,uc_size,stp_len]
   omega
section
variable {P:Program} {md:Region.Mode} {ops:Array Oper} {Q:Exit→Act→World→Prop} {S:World→Prop}
theorem any_pair {i j:Nat} {oi oj:Oper} {v:Value} {f:FuncId} {args:Array Value} {l:Array Bool} {a:Act} {w:World} (R:World→Prop) (T:Value→World→Prop)
  (hr1:Region.ready md ops l=[i,j]) (hr2:Region.ready md ops (l.setIfInBounds i true)=[j]) (hr3:Region.ready md ops (l.setIfInBounds j true)=[i])
  (hoi:ops[i]?=some oi) (hoj:ops[j]?=some oj)
  (hw1:Region.wanted oi (yielded ops a.tmps)=true) (hw2:Region.wanted oj (yielded ops a.tmps)=true)
  (hw3:Region.wanted oj (yielded ops (a.put oi.dst v).tmps)=true) (hw4:∀ r,Region.wanted oi (yielded ops (a.put oj.dst r).tmps)=true)
  (hl1:∀ w,R w→(execOp a.eval oi).run P w=.ok (.value v) w) (hl2:∀ r w,R w→(execOp (a.put oj.dst r).eval oi).run P w=.ok (.value v) w)
  (hc1:∀ w,(execOp a.eval oj).run P w=.ok (.enter f args) w) (hc2:∀ w,(execOp (a.put oi.dst v).eval oj).run P w=.ok (.enter f args) w)
  (hc:∀ w,R w→Calls P f args w (fun e w'=>∃ r,e=.returned r∧R w'∧T r w')) (hRS:∀ w,R w→S w) (hR:R w)
  (hcomm:∀ r,(a.put oj.dst r).put oi.dst v=(a.put oi.dst v).put oj.dst r) (hlcomm:(l.setIfInBounds j true).setIfInBounds i true=(l.setIfInBounds i true).setIfInBounds j true)
  (hfin:∀ r w',R w'→T r w'→Any P md ops Q S ((l.setIfInBounds i true).setIfInBounds j true) ((a.put oi.dst v).put oj.dst r) w'):Any P md ops Q S l a w:=by
 intro fuel hfu
 have hm:i ∈ Region.ready md ops l:=by rw [hr1]; exact List.mem_cons_self
 have hmj:j ∈ Region.ready md ops l:=by rw [hr1]; exact List.mem_cons_of_mem _ List.mem_cons_self
 have h1:=left_of (mem_ready.1 hm).1
 have h2:=left_of (mem_ready.1 hmj).1
 obtain ⟨n,rfl⟩:∃ n,fuel=n+1:=⟨fuel - 1,by omega⟩
 refine wpAnyH_ready hr1 (by simp) (AllReadyH.cons hoi (fun K hK=>?_) (AllReadyH.cons hoj (fun K hK=>?_) AllReadyH.nil))
 ·rw [if_pos hw1]
  unfold Oper.wp
  rw [hl1 w hR]
  refine hK.out _ _ (hRS w hR) (fun _=>?_)
  refine any_one (S:=S) hr2 hoj (fun K2 hK2=>?_) n (by omega)
  refine step_callw hw3 f args (hc2 w) ((hc w hR).mono ?_)
  rintro e w' ⟨r,rfl,hR',hT⟩
  exact ⟨r,rfl,hK2.out _ _ (hRS w' hR') (fun _=>hfin r w' hR' hT)⟩
 ·refine step_callw hw2 f args (hc1 w) ((hc w hR).mono ?_)
  rintro e w' ⟨r,rfl,hR',hT⟩
  refine ⟨r,rfl,hK.out _ _ (hRS w' hR') (fun _=>?_)⟩
  refine any_one (S:=S) hr3 hoi (fun K2 hK2=>?_) n (by omega)
  rw [if_pos (hw4 r)]
  unfold Oper.wp
  rw [hl2 r w' hR']
  refine hK2.out _ _ (hRS w' hR') (fun _=>?_)
  rw [hcomm r,hlcomm]
  exact hfin r w' hR' hT
end
set_option maxHeartbeats 2000000 in
theorem take_ok (s l:List Int) (n:Int) (hs:s.length=8) (g:Nat) (B:List Int) (hb:IsB B) (a:Option Addr) (cap:Nat) (hcap:B.length≤cap) (hbig:cap<9223372036854775808) (w:World)
  (hg:w.heap[g]?=some (.cells (hc s l n) 132 (0,0))) (hA:SlO g w a B) :
  Calls Tryz.prog 81 #[.pointer (some ⟨g,0,none⟩),.slice a B.length cap] w (Took g s l n B w):=by
 obtain ⟨N,hN⟩:∃ N,N=B.length:=⟨_,rfl⟩
 rw [← hN] at hcap
 obtain ⟨T,hT0⟩:∃ T,T=Took g s l n B w:=⟨_,rfl⟩
 rw [← hT0,← hN]
 replace hT0:=hide hT0
 replace hb:=hide hb
 replace hg:=hide hg
 replace hA:=hide hA
 replace hN:=hide hN
 by_cases hl:N<64
 ·have e0:N / 64=0:=by omega
  have e1:N % 64=N:=by omega
  have hI:(N:Int)<64:=by omega
  go_enter Tryz.func81,Tryz.ntmps81
  go_wp2_with fail
  show T (.returned (.slice a N cap)) w
  rw [unhide hT0]
  unfold Took
  rw [← unhide hN,e0,e1]
  exact ⟨a,cap,rfl,by omega,hbig,by simpa using unhide hA,unhide hg,Bt.refl g w⟩
 ·have hI:¬ (N:Int)<64:=by omega
  go_enter Tryz.func81,Tryz.ntmps81
  go_upto_region 3 with fail
  have hB:=Bl.nil w
  refine wp_region_lit ?_
  refine list_call 103 #[] (by kernel_rfl) (by kernel_rfl) ((constants_ok _).mono ?_)
  rintro r v1 ⟨rfl,hgr⟩
  refine ⟨_,rfl,?_⟩
  replace hB:=hB.more hgr
  replace hg:=hide (hgr.blk (unhide hg))
  clear hgr
  simp only [nrm]
  refine wpList_step fun K hK=>?_
  replace hK:=hide hK
  go_simp
  refine unhide hK _ _ ?_
  clear hK K
  have hgk:v1.heap.size≠g:=by have:=lt_of_block (unhide hg); omega
  replace hB:=hB.new #[.int .u32 0,.int .u32 0,.int .u32 0,.int .u32 0,.int .u32 0,.int .u32 0,.int .u32 0,.int .u32 0,.int .u32 0,.int .u32 0,.int .u32 0,.int .u32 0,.int .u32 0,.int .u32 0,.int .u32 0,.int .u32 0,.int .u32 0,.int .u32 0,.int .u32 0,.int .u32 0,.int .u32 0,.int .u32 0,.int .u32 0,.int .u32 0,.int .u32 0,.int .u32 0,.int .u32 0,.int .u32 0,.int .u32 0,.int .u32 0,.int .u32 0,.int .u32 0,.int .u32 0,.int .u32 0,.int .u32 0,.int .u32 0,.int .u32 0,.int .u32 0,.int .u32 0,.int .u32 0,.int .u32 0,.int .u32 0,.int .u32 0,.int .u32 0,.int .u32 0,.int .u32 0,.int .u32 0,.int .u32 0,.int .u32 0,.int .u32 0,.int .u32 0,.int .u32 0,.int .u32 0,.int .u32 0,.int .u32 0,.int .u32 0,.int .u32 0,.int .u32 0,.int .u32 0,.int .u32 0,.int .u32 0,.int .u32 0,.int .u32 0,.int .u32 0] 106
  replace hg:=hide (((Gr.refl v1).alloc (.cells #[.int .u32 0,.int .u32 0,.int .u32 0,.int .u32 0,.int .u32 0,.int .u32 0,.int .u32 0,.int .u32 0,.int .u32 0,.int .u32 0,.int .u32 0,.int .u32 0,.int .u32 0,.int .u32 0,.int .u32 0,.int .u32 0,.int .u32 0,.int .u32 0,.int .u32 0,.int .u32 0,.int .u32 0,.int .u32 0,.int .u32 0,.int .u32 0,.int .u32 0,.int .u32 0,.int .u32 0,.int .u32 0,.int .u32 0,.int .u32 0,.int .u32 0,.int .u32 0,.int .u32 0,.int .u32 0,.int .u32 0,.int .u32 0,.int .u32 0,.int .u32 0,.int .u32 0,.int .u32 0,.int .u32 0,.int .u32 0,.int .u32 0,.int .u32 0,.int .u32 0,.int .u32 0,.int .u32 0,.int .u32 0,.int .u32 0,.int .u32 0,.int .u32 0,.int .u32 0,.int .u32 0,.int .u32 0,.int .u32 0,.int .u32 0,.int .u32 0,.int .u32 0,.int .u32 0,.int .u32 0,.int .u32 0,.int .u32 0,.int .u32 0,.int .u32 0] 106)).blk (unhide hg))
  simp only [List.nil_append] at hB
  have hgo:w.heap.size≤v1.heap.size:=hB.own 0 (x:=⟨v1.heap.size,#[.int .u32 0,.int .u32 0,.int .u32 0,.int .u32 0,.int .u32 0,.int .u32 0,.int .u32 0,.int .u32 0,.int .u32 0,.int .u32 0,.int .u32 0,.int .u32 0,.int .u32 0,.int .u32 0,.int .u32 0,.int .u32 0,.int .u32 0,.int .u32 0,.int .u32 0,.int .u32 0,.int .u32 0,.int .u32 0,.int .u32 0,.int .u32 0,.int .u32 0,.int .u32 0,.int .u32 0,.int .u32 0,.int .u32 0,.int .u32 0,.int .u32 0,.int .u32 0,.int .u32 0,.int .u32 0,.int .u32 0,.int .u32 0,.int .u32 0,.int .u32 0,.int .u32 0,.int .u32 0,.int .u32 0,.int .u32 0,.int .u32 0,.int .u32 0,.int .u32 0,.int .u32 0,.int .u32 0,.int .u32 0,.int .u32 0,.int .u32 0,.int .u32 0,.int .u32 0,.int .u32 0,.int .u32 0,.int .u32 0,.int .u32 0,.int .u32 0,.int .u32 0,.int .u32 0,.int .u32 0,.int .u32 0,.int .u32 0,.int .u32 0,.int .u32 0],106⟩) rfl
  generalize v1.heap.size=gk at *
  generalize World.alloc _ _=v2 at *
  replace hB:Bl w [⟨gk,uc Z64,106⟩] v2:=hB
  refine list_store 106 (.tmp 5) (.tmp 10) gk (uc KL) 106 (uc Z64) (by kernel_rfl) rfl (by kernel_rfl) (by kernel_rfl) (hB.get 0 (x:=⟨gk,uc Z64,106⟩) rfl) (by rw [Tryz.infoW,uc_size,KL_len]) ((show (uc Z64).size=64 from rfl).trans ((uc_size _).trans KL_len).symm) (uc_one _) ?_
  replace hB:=hB.set 0 (x:=⟨gk,uc Z64,106⟩) rfl (uc KL)
  simp only [List.set_cons_zero,List.set_cons_succ] at hB
  replace hg:Hid ((v2.setRow gk (uc KL)).heap[g]?=some (.cells (hc s l n) 132 (0,0))):=hide ((setRow_other v2 gk g (uc KL) (fun e=>hgk e.symm)).trans (unhide hg))
  generalize World.setRow _ _ _=v3 at *
  simp only [nrm]
  refine wpList_nil ?_
  have hT:TI g gk s l n B w 0 a v3:=⟨unhide hg,hB.get 0 (x:=⟨gk,uc KL,106⟩) rfl,hB.gr.bt g,by simpa using (unhide hA).gr hB.gr,hgk⟩
  replace hT:=hide hT
  clear hB hg
  go_wp2_with fail
  go_loopw [1] (fun b wr=>∃ (j:Nat) (a:Option Addr) (c:Nat),b=.slice a (N - 64 * j) c∧64 * j≤N∧N - 64 * j≤c∧c<9223372036854775808∧Hid (TI g gk s l n B w j a wr)) (fun b _=>slen b)
  case atStart=>exact ⟨0,a,cap,rfl,by omega,by omega,hbig,hT⟩
  case round =>
  clear hT
  obtain ⟨j,a',c,rfl,hj,hc1,hc2,hT⟩:=hrel
  obtain ⟨m,hm⟩:∃ m,m=N - 64 * j:=⟨_,rfl⟩
  rw [← hm] at hc1
  rw [← hm]
  replace hT:=unhide hT
  have hNl:(B.drop (64 * j)).length=m:=by rw [List.length_drop,← unhide hN,hm]
  by_cases hml:64≤m
  ·obtain ⟨p,o,ha,hat,hpo⟩:=(show ∃ p o,a'=some ⟨p,o,none⟩∧At wr p o (B.drop (64 * j))∧(p≠g∨8≤o) by
    rcases hT.sl with h0 | h0
    ·rw [h0] at hNl; simp at hNl; omega
    ·exact h0)
   subst ha
   have mI:64≤(m:Int):=by omega
   have cI:64≤(c:Int):=by omega
   have cI2:¬ (c:Int)<64:=by omega
   have mI2:¬ (m:Int)<64:=by omega
   have hsl5:=hide hat
   have hb5:Hid (IsB ((B.drop (64 * j)).take 64)):=fun x hx=>unhide hb x (List.mem_of_mem_drop (List.mem_of_mem_take hx))
   have hl5:Hid (((B.drop (64 * j)).take 64).length=64):=by show List.length _=64; rw [List.length_take,hNl]; omega
   have hSl:(hbk j s B).length=8:=hbk_len s B hs j
   obtain ⟨S,hSe⟩:∃ S,S=hbk j s B:=⟨_,rfl⟩
   rw [← hSe] at hSl
   replace hT:=hide hT
   replace hSe:=hide hSe
   replace hNl:=hide hNl
   replace hpo:=hide hpo
   go_upto_region 5 with fail
   replace hT:=unhide hT
   refine any_start (S:=fun v=>v.heap[gk]?=some (.cells (uc KL) 106 (0,0))) (by kernel_rfl) ?_
   replace hT:=hT.gr (Gr.refl wr).drew
   have hS:=hT.ks
   generalize World.drew _=x0 at *
   simp only [List.size_toArray,List.length_cons,List.length_nil,Array.replicate,List.replicate]
   refine any_take (i:=0) (v:=(.pointer (some ⟨g,0,none⟩))) #[false,false,false,false,false,false,false,false,false,false,false,false,false] rfl (by kernel_rfl) (by kernel_rfl) (by kernel_rfl) (by kernel_rfl) (fun _ _ _ h=>h) (.inl ⟨by kernel_rfl,fun x_ hu=>by kernel_rfl⟩) hS ?_
   simp only [nrm]
   refine any_take (i:=1) (v:=(.pointer (some ⟨g,0,none⟩))) #[true,false,false,false,false,false,false,false,false,false,false,false,false] rfl (by kernel_rfl) (by kernel_rfl) (by kernel_rfl) (by kernel_rfl) (fun _ _ _ h=>h) (.inl ⟨by kernel_rfl,fun x_ hu=>by kernel_rfl⟩) hS ?_
   simp only [nrm]
   refine any_take (i:=2) (v:=(.pointer (some ⟨g,0,none⟩))) #[true,true,false,false,false,false,false,false,false,false,false,false,false] rfl (by kernel_rfl) (by kernel_rfl) (by kernel_rfl) (by kernel_rfl) (fun _ _ _ h=>h) (.inl ⟨by kernel_rfl,fun x_ hu=>by kernel_rfl⟩) hS ?_
   simp only [nrm]
   refine any_take (i:=3) (v:=(.pointer (some ⟨g,0,none⟩))) #[true,true,true,false,false,false,false,false,false,false,false,false,false] rfl (by kernel_rfl) (by kernel_rfl) (by kernel_rfl) (by kernel_rfl) (fun _ _ _ h=>h) (.inl ⟨by kernel_rfl,fun x_ hu=>by kernel_rfl⟩) hS ?_
   simp only [nrm]
   refine any_take (i:=5) (v:=(.slice (some ⟨p,o,none⟩) m c)) #[true,true,true,true,false,false,false,false,false,false,false,false,false] rfl (by kernel_rfl) (by kernel_rfl) (by kernel_rfl) (by kernel_rfl) (fun _ _ _ h=>h) (.inl ⟨by kernel_rfl,fun x_ hu=>by kernel_rfl⟩) hS ?_
   simp only [nrm]
   refine any_take (i:=6) (v:=(.slice (some ⟨p,o,none⟩) 64 c)) #[true,true,true,true,false,true,false,false,false,false,false,false,false] rfl (by kernel_rfl) (by kernel_rfl) (by kernel_rfl) (by kernel_rfl) (fun _ _ _ h=>h) (.inl ⟨by kernel_rfl,fun x_ hu=>by go_simp⟩) hS ?_
   simp only [nrm]
   refine any_take (i:=8) (v:=(.agg (uc KL))) #[true,true,true,true,false,true,true,false,false,false,false,false,false] rfl (by kernel_rfl) (by kernel_rfl) (by kernel_rfl) (by kernel_rfl) (fun _ _ _ h=>h) (.inl ⟨by kernel_rfl,fun x_ hu=>exec_arr x_ 106 (.tmp 5) rfl gk (by kernel_rfl) (uc KL) 106 _ hu Tryz.underlying106 rfl (by rw [Tryz.infoW,uc_size,KL_len])⟩) hS ?_
   simp only [nrm]
   refine any_pair (i:=4) (j:=7) (v:=.agg (uc S)) (f:=105) (args:=#[.slice (some ⟨p,o,none⟩) 64 c]) (fun v=>TI g gk s l n B w j (some ⟨p,o,none⟩) v) (fun r _=>r=.agg (uc (wds ((B.drop (64 * j)).take 64)))) (by kernel_rfl) (by kernel_rfl) (by kernel_rfl) rfl rfl (by kernel_rfl) (by kernel_rfl) (by kernel_rfl) (fun r=>by kernel_rfl) (fun x hx=>exec_row x 108 (.tmp 17) rfl g 0 (by kernel_rfl) (S.map (Value.int .u32)) _ (hx.rng hSe) Tryz.underlying108 rfl (by rw [Tryz.infoS,List.length_map,hSl])) (fun r x hx=>exec_row x 108 (.tmp 17) rfl g 0 (by kernel_rfl) (S.map (Value.int .u32)) _ (hx.rng hSe) Tryz.underlying108 rfl (by rw [Tryz.infoS,List.length_map,hSl])) (fun x=>by kernel_rfl) (fun x=>by kernel_rfl) (fun x hx=>(words_ok ((B.drop (64 * j)).take 64) (unhide hb5) (unhide hl5) p o c x hx.at_).mono (fun e x2 h=>⟨_,h.1,hx.gr h.2,rfl⟩)) (fun x hx=>hx.ks) hT (fun r=>by kernel_rfl) (by kernel_rfl) ?_
   rintro r x2 hT2 rfl
   clear hT
   have hT:=hT2
   clear hT2
   have hS:=hT.ks
   simp only [nrm]
   refine any_one (i:=9) (by kernel_rfl) rfl (fun K hK=>?_)
   refine step_callw (by kernel_rfl) 104 #[.agg (uc S),.agg (uc (wds ((B.drop (64 * j)).take 64))),.agg (uc KL)] (by kernel_rfl) ((steps_ok S (wds ((B.drop (64 * j)).take 64)) KL hSl (wds_len _) KL_len _).mono ?_)
   rintro r x9 ⟨rfl,hgr⟩
   refine ⟨_,rfl,?_⟩
   replace hT:=hT.gr hgr
   clear hgr hS
   have hS:=hT.ks
   refine hK.out _ _ hS (fun _=>?_)
   clear hK K
   simp only [nrm]
   refine any_take (i:=10) (v:=(.pointer (some ⟨g,0,none⟩))) #[true,true,true,true,true,true,true,true,true,true,false,false,false] rfl (by kernel_rfl) (by kernel_rfl) (by kernel_rfl) (by kernel_rfl) (fun _ _ _ h=>h) (.inl ⟨by kernel_rfl,fun x_ hu=>by kernel_rfl⟩) hS ?_
   simp only [nrm]
   refine any_take (i:=11) (v:=(.pointer (some ⟨g,0,none⟩))) #[true,true,true,true,true,true,true,true,true,true,true,false,false] rfl (by kernel_rfl) (by kernel_rfl) (by kernel_rfl) (by kernel_rfl) (fun _ _ _ h=>h) (.inl ⟨by kernel_rfl,fun x_ hu=>by kernel_rfl⟩) hS ?_
   simp only [nrm]
   refine any_one (i:=12) (by kernel_rfl) rfl (fun K hK=>?_)
   have hre:=unhide hSe
   refine list_store_mid 108 (.tmp 25) (.tmp 23) g 0 (uc (stp S (wds ((B.drop (64 * j)).take 64)) KL)) (by kernel_rfl) rfl (by kernel_rfl) (by kernel_rfl) (by rw [uc_size,stp_len]; exact there_of hT.hash (by unfold hcl; simp only [List.length_append,List.length_map]; rw [← hre,hSl]; omega)) (by rw [Tryz.infoS,uc_size,stp_len]) (uc_one _) ?_
   have hT3:=hT.step hs hre
   clear hT
   refine hK.out _ _ hT3.1 (fun _=>?_)
   refine any_done (by kernel_rfl) ?_
   clear hK K hS
   simp only [nrm]
   generalize World.setCells _ _ _ _=x4 at *
   go_wp2_with fail
   have hT4:TI g gk s l n B w (j+1) (if c=64 then some ⟨p,o,none⟩ else some ⟨p,o+64,none⟩) x4:=by
    split
    ·refine ⟨hT3.2.hash,hT3.2.ks,hT3.2.bt,.inl ?_,hT3.2.ne⟩
     refine List.eq_nil_of_length_eq_zero ?_
     rw [List.length_drop,← unhide hN]
     omega
    ·exact hT3.2
   refine ⟨⟨j+1,_,c - 64,by congr 1,by omega,by omega,by omega,hide hT4⟩,?_⟩
   show N - 64 * j - 64<m
   omega
  ·have mI:¬ 64≤(m:Int):=by omega
   have e0:j=N / 64:=by omega
   have e1:m=N % 64:=by omega
   have hT5:Hid (SlO g wr a' (B.drop (64 * (N / 64)))∧wr.heap[g]?=some (.cells (hc (hbk (N / 64) s B) l n) 132 (0,0))∧Bt g w wr):=by
    rw [← e0]
    exact ⟨hT.sl,hT.hash,hT.bt⟩
   clear hT
   replace hNl:=hide hNl
   go_wp2_with fail
   show T (.returned (.slice a' (N - 64 * (N / 64)) c)) wr
   rw [unhide hT0]
   unfold Took
   rw [← unhide hN]
   exact ⟨a',c,by rw [show N - 64 * (N / 64)=N % 64 by omega],by omega,hc2,(unhide hT5).1,(unhide hT5).2.1,(unhide hT5).2.2⟩
def be8 (X:Nat):Nat→List Int
 | 0=>[]
 | r+1=>be8 X r++[((X / 2 ^ (56 - 8 * r) % 256:Nat):Int)]
theorem be8_len (X:Nat):∀ r,(be8 X r).length=r
 | 0=>rfl
 | r+1=>by rw [be8,List.length_append,be8_len X r]; rfl
def nz (n:Nat):Nat:=(119 - n % 64) % 64
def padH (n:Nat):List Int:=128::List.replicate (nz n) 0
def padL (n:Nat):List Int:=padH n++be8 (n * 8) 8
theorem padH_len (n:Nat):(padH n).length=nz n+1:=by unfold padH; simp
theorem padL_len (n:Nat):(padL n).length=nz n+9:=by unfold padL; rw [List.length_append,padH_len,be8_len]
theorem padL_whole (n:Nat):(n+(padL n).length) % 64=0:=by rw [padL_len]; unfold nz; omega
theorem be8_isB (X:Nat):∀ r,IsB (be8 X r)
 | 0=>by intro x hx; cases hx
 | r+1=>by
  intro x hx
  rw [be8] at hx
  rcases List.mem_append.1 hx with h | h
  ·exact be8_isB X r x h
  ·have:x=((X / 2 ^ (56 - 8 * r) % 256:Nat):Int):=by simpa using h
   omega
theorem padL_isB (n:Nat):IsB (padL n):=by
 intro x hx
 rcases List.mem_append.1 hx with h | h
 ·rcases List.mem_cons.1 h with h | h
  ·omega
  ·have:=List.eq_of_mem_replicate h
   omega
 ·exact be8_isB _ _ x h
theorem Tryz.info5:(Tryz.prog.info? 5).map (fun i=>(i.zero,i.size,i.bytes))=some (some (.int .u8 0),1,1):=by kernel_rfl
theorem wpList_make_room (w:World) {ops:Array Oper} {rest:List Oper} {o:Oper} {a:Act} {Q:Exit→Act→World→Prop}
  (hg:o.guard=none) (l c:Operand) (hop:o.op=Op.makeSlice 43 l c) (L C:Int) (n m:Nat) (hl:a.eval l=.int .i64 L) (hc:a.eval c=.int .i64 C) (hL:L=(n:Int)) (hC:C=(m:Int)) (hnm:n≤m) (hn:m≤281474976710656)
  (hK:wpList Tryz.prog ops Q rest (a.put o.dst (.slice (some ⟨w.heap.size,0,none⟩) n m)) (w.alloc (.cells (kc (List.replicate m 0)) 5 (0,0)))) :
  wpList Tryz.prog ops Q (o::rest) a w:=by
 obtain ⟨i,h2,h3,h4,h5⟩:=info_parts Tryz.info5
 subst hL hC
 refine wpList_plain hg fun K hK'=>?_
 have hrun:=run_make (P:=Tryz.prog) w 43 5 i (.int .u8 0) Tryz.underlying43 h2 h3 .i64 .i64 (n:Int) (m:Int) (by omega) (by omega) (by rw [h5]; omega) (by omega)
 rw [h4] at hrun
 have e:madeCells (Value.int .u8 0).cells m=kc (List.replicate m 0):=by
  apply Array.ext
  ·simp [size_madeCells,kc]
  ·intro i h1 h2
   have:i % 1=0:=Nat.mod_one i
   simp [madeCells,Value.cells,this,kc]
 simp only [Int.toNat_natCast,Nat.mul_one,e] at hrun
 unfold Oper.wp
 simp [execOp,hop,hl,hc,hrun,Result.andThen]
 exact hK' _ _ hK
theorem own_gr {B m:Nat} {v:Value} {xs:List Value} {w u:World} (h:w.ownsRow B 5 1 v m xs) (k:Gr w u):u.ownsRow B 5 1 v m xs:=by
 obtain ⟨h1,h2 | ⟨g,cap,cur,h2,h3,h4,h5⟩⟩:=h
 ·exact ⟨h1,.inl h2⟩
 ·exact ⟨h1,.inr ⟨g,cap,cur,h2,h3,k.blk h4,h5⟩⟩
theorem grown_gr {w u v:World} {g:Nat} (h:Gr w u) (k:u.grownBy v (some g)) (hg:w.heap.size≤g):Gr w v :=
 ⟨k.os.trans h.os,k.tape.trans h.tape,k.output.trans h.output,Nat.le_trans h.size k.size,fun i hi=>(k.block i (Nat.lt_of_lt_of_le hi h.size) (by simp; omega)).trans (h.block i hi)⟩
def Padded (n:Nat) (w:World) (r:Ending) (w':World):Prop:=∃ g,r=.returned (.slice (some ⟨g,0,none⟩) (nz n+9) (nz n+9))∧w.heap.size≤g∧w'.heap[g]?=some (.cells (kc (padL n)) 5 (0,0))∧Gr w w'
set_option maxHeartbeats 2000000 in
theorem pad_ok (n:Nat) (hn:n<1152921504606846976) (w:World):Calls Tryz.prog 82 #[.int .i64 n] w (Padded n w):=by
 obtain ⟨T,hT⟩:∃ T,T=Padded n w:=⟨_,rfl⟩
 rw [← hT]
 replace hT:=hide hT
 obtain ⟨z,hz⟩:∃ z,z=nz n:=⟨_,rfl⟩
 obtain ⟨q,hq⟩:∃ q,q=n % 64:=⟨_,rfl⟩
 have hz2:z=(119 - q) % 64:=by rw [hz,hq]; rfl
 have e0:¬ (n:Int)<0:=by omega
 have e1:Int.tmod (n:Int) 64=(q:Int):=by rw [Int.tmod_eq_emod_of_nonneg (by omega)]; omega
 have e2:IntKind.i64.wrap (119 - (q:Int))=119 - (q:Int):=by rw [IntKind.wrap_i64]; omega
 have e3:Int.tmod (119 - (q:Int)) 64=(z:Int):=by rw [Int.tmod_eq_emod_of_nonneg (by omega)]; omega
 have e4:IntKind.i64.wrap (q:Int)=(q:Int):=by rw [IntKind.wrap_i64]; omega
 have e5:IntKind.i64.wrap (z:Int)=(z:Int):=by rw [IntKind.wrap_i64]; omega
 have hz3:z<64:=by omega
 have e6:IntKind.i64.wrap (1+(z:Int))=1+(z:Int):=by rw [IntKind.wrap_i64]; omega
 have e7:IntKind.i64.wrap (1+(z:Int)+8)=1+(z:Int)+8:=by rw [IntKind.wrap_i64]; omega
 replace hz:=hide hz
 replace hq:=hide hq
 replace hz2:=hide hz2
 go_enter Tryz.func82,Tryz.ntmps82
 go_wp2_with (at_make; refine wpList_make_room _ rfl (.tmp 14) (.tmp 17) rfl _ _ (z+1) (z+9) rfl rfl (by omega) (by omega) (by omega) (by omega) ?_)
 obtain ⟨i,h2,h3,h4,h5⟩:=info_parts Tryz.info5
 have hR:Hid ((w.alloc (.cells ((kc (List.replicate (z+9) 0)).setIfInBounds 0 (.int .u8 128)) 5)).ownsRow w.heap.size 5 1 (.slice (some ⟨w.heap.size,0,none⟩) (z+1) (z+9)) (z+1) ((padH n++be8 (n * 8) 0).map (Value.int .u8))):=by
  rw [kc_set]
  refine ⟨?_,.inr ⟨w.heap.size,z+9,_,rfl,Nat.le_refl _,blk_new _ _,by omega,by unfold maxLen; omega,?_,?_⟩⟩
  ·rw [List.length_map,List.length_append,padH_len,be8_len,← unhide hz]
   omega
  ·rw [kc_size,List.length_set,List.length_replicate,Nat.mul_one]
  ·unfold kc padH be8
   rw [← unhide hz,List.append_nil]
   show (List.map _ _).take _=_
   rw [← List.map_take,show z+9=(z+8)+1 by omega,List.replicate_succ,List.set_cons_zero,Nat.mul_one,List.take_succ_cons,List.take_replicate,Nat.min_eq_left (by omega)]
 have hG:Hid (Gr w (w.alloc (.cells ((kc (List.replicate (z+9) 0)).setIfInBounds 0 (.int .u8 128)) 5))):=(Gr.refl w).alloc _
 generalize World.alloc _ _=u at *
 go_loopw [6,4] (fun s p wr=>∃ r:Nat,r≤8∧s=.int .i64 (56 - 8 * (r:Int))∧p=.slice (some ⟨w.heap.size,0,none⟩) (z+1+r) (z+9)∧Hid (wr.ownsRow w.heap.size 5 1 (.slice (some ⟨w.heap.size,0,none⟩) (z+1+r) (z+9)) (z+1+r) ((padH n++be8 (n * 8) r).map (Value.int .u8)))∧Hid (Gr w wr)) (fun s _ _=>(intOf s+8).toNat)
 case atStart=>exact ⟨0,by omega,rfl,rfl,hR,hG⟩
 case round =>
 clear hR hG
 obtain ⟨r,hr,rfl,rfl,hR,hG⟩:=hrel
 by_cases hil:r<8
 ·obtain ⟨sh,hsh⟩:∃ sh,sh=56 - 8 * r:=⟨_,rfl⟩
  have g0:56 - 8 * (r:Int)=(sh:Int):=by omega
  rw [g0]
  have g1:0≤(sh:Int):=by omega
  have g2:(sh:Int)≤64:=by omega
  have g3:(sh:Int)<64:=by omega
  obtain ⟨y,hy⟩:∃ y:Int,y=((n * 8 / 2 ^ (56 - 8 * r) % 256:Nat):Int):=⟨_,rfl⟩
  have g4:IntKind.u8.wrap ((n:Int) * 8 / 2 ^ sh)=y:=by
   rw [IntKind.wrap_u8',hy,hsh]
   have:(2:Int) ^ (56 - 8 * r)=((2 ^ (56 - 8 * r):Nat):Int):=by simp
   rw [this,show (n:Int) * 8=((n * 8:Nat):Int) by omega]
   rfl
  have g5:IntKind.i64.wrap ((sh:Int) - 8)=(sh:Int) - 8:=by rw [IntKind.wrap_i64]; omega
  have hnx:Hid ((padH n++be8 (n * 8) r).map (Value.int .u8)++[.int .u8 y]=(padH n++be8 (n * 8) (r+1)).map (Value.int .u8)):=by
   rw [be8,← List.append_assoc,List.map_append (l₁:=padH n++be8 (n * 8) r),hy]
   rfl
  have hsz:Hid (w.heap.size≤wr.heap.size):=(unhide hG).size
  replace hsh:=hide hsh
  replace hy:=hide hy
  go_wp2_with (at_builtin; refine wpList_append_fits _ rfl (.tmp 28) (.tmp 33) 43 rfl w.heap.size 5 i 1 Tryz.underlying43 h2 h4 w.heap.size (z+1+r) (z+9) _ rfl (own_gr (unhide hR) ((Gr.refl wr).alloc _)) ⟨wr.heap.size,0,none⟩ 1 1 [.int .u8 y] rfl rfl (by intro j u hj; have hj0:j=0:=(by have:=(List.getElem?_eq_some_iff.1 hj).1; simp at this; exact this); subst hj0; simp only [List.getElem?_cons_zero,Option.some.injEq] at hj; subst hj; exact cell_of (blk_new _ _) rfl) (by intro u hu; simp at hu; subst hu; rfl) (by omega) ?_; intro w2 hR2 hG2)
  have hs1:=unhide hsh
  refine ⟨⟨r+1,by omega,by congr 1; omega,rfl,?_,?_⟩,?_⟩
  ·rw [unhide hnx] at hR2
   exact hR2
  ·exact grown_gr ((unhide hG).alloc _) hG2 (Nat.le_refl _)
  ·show ((sh:Int) - 8+8).toNat<((sh:Int)+8).toNat
   omega
 ·have e:r=8:=by omega
  subst e
  have hP:Hid (Padded n w (.returned (.slice (some ⟨w.heap.size,0,none⟩) (z+1+8) (z+9))) wr):=by
   obtain ⟨h6,⟨h7,h8⟩ | ⟨g,cap,cur,h7,h8,h9,h10,h11,h12,h13⟩⟩:=unhide hR
   ·cases h7
   ·simp only [Value.slice.injEq,Option.some.injEq,Addr.mk.injEq] at h7
    obtain ⟨⟨hg0,_⟩,_,hcap⟩:=h7
    refine ⟨w.heap.size,by rw [← unhide hz],Nat.le_refl _,?_,unhide hG⟩
    rw [hg0,h9]
    have hcur:cur=kc (padL n):=by
     have h14:cur.toList.take ((z+1+8) * 1)=cur.toList:=List.take_of_length_le (by rw [Array.length_toList,h12]; omega)
     rw [h14] at h13
     unfold kc padL
     rw [← h13]
    rw [hcur]
  clear hil hR hG
  go_wp2_with fail
  rw [unhide hT]
  exact unhide hP
theorem blk_left {B:List Int} (C:List Int) (k:Nat) (h:64 * (k+1)≤B.length):((B++C).drop (64 * k)).take 64=(B.drop (64 * k)).take 64:=by
 rw [List.drop_append_of_le_length (by omega),List.take_append_of_le_length (by rw [List.length_drop]; omega)]
theorem bk_left {B:List Int} (s C:List Int):∀ n,64 * n≤B.length→hbk n s (B++C)=hbk n s B
 | 0,_=>rfl
 | n+1,h=>by rw [hbk,hbk,bk_left s C n (by omega),blk_left C n h]
theorem bk_append {B:List Int} (s C:List Int) (n:Nat) (hB:B.length=64 * n):∀ m,hbk (n+m) s (B++C)=hbk m (hbk n s B) C
 | 0=>bk_left s C n (by omega)
 | m+1=>by
  have e:n+(m+1)=(n+m)+1:=by omega
  rw [e,hbk,hbk,bk_append s C n hB m,Nat.mul_add,← List.drop_drop,← hB,List.drop_left]
def F0:List Int:=[1779033703,3144134277,1013904242,2773480762,1359893119,2600822924,528734635,1541459225]
def H (g:Nat) (B:List Int) (v:World):Prop:=∃ l,l.length=64∧IsB l∧v.heap[g]?=some (.cells (hc (hbk (B.length / 64) F0 B) l B.length) 132 (0,0))∧l.take (B.length % 64)=B.drop (64 * (B.length / 64))
theorem H.gr {g:Nat} {B:List Int} {w v:World} (h:H g B w) (k:Gr w v):H g B v:=by
 obtain ⟨l,h1,h2,h3,h4⟩:=h
 exact ⟨l,h1,h2,k.blk h3,h4⟩
theorem H.bt {g p:Nat} {B:List Int} {w v:World} (h:H g B w) (k:Bt p w v) (hn:g≠p):H g B v:=by
 obtain ⟨l,h1,h2,h3,h4⟩:=h
 exact ⟨l,h1,h2,k.blk h3 hn,h4⟩
theorem H.whole {g:Nat} {B C:List Int} {v:World} {l:List Int} (hB:B.length % 64=0) (h1:l.length=64) (h2:IsB l)
  (h3:v.heap[g]?=some (.cells (hc (hbk (C.length / 64) (hbk (B.length / 64) F0 B) C) l ((B.length:Int)+C.length)) 132 (0,0))) (h4:l.take (C.length % 64)=C.drop (64 * (C.length / 64))):H g (B++C) v:=by
 have e1:(B++C).length / 64=B.length / 64+C.length / 64:=by rw [List.length_append]; omega
 have e2:(B++C).length % 64=C.length % 64:=by rw [List.length_append]; omega
 have e3:((B++C).length:Int)=(B.length:Int)+C.length:=by rw [List.length_append]; omega
 refine ⟨l,h1,h2,?_,?_⟩
 ·rw [e1,bk_append F0 C (B.length / 64) (by omega),e3]
  exact h3
 ·rw [e2,h4,e1,Nat.mul_add,← List.drop_drop,show 64 * (B.length / 64)=B.length by omega,List.drop_left]
theorem hcl_len (s l:List Int) (n:Int) (hs:s.length=8) (hl:l.length=64):(hcl s l n).length=73:=by unfold hcl; simp [hs,hl]
theorem hcl_count (s l:List Int) (n m:Int) (hs:s.length=8) (hl:l.length=64):(hcl s l n).set 72 (.int .i64 m)=hcl s l m:=by
 unfold hcl
 rw [List.set_append_right _ _ (by simp [hs]),List.set_append_right _ _ (by simp [hs,hl])]
 simp [hs,hl]
theorem hcl_copy (s l B:List Int) (n:Int) (k:Nat) (hs:s.length=8) (hk:k+B.length≤l.length):sp (hcl s l n) (8+k) (B.map (Value.int .u8))=hcl s (l.take k++(B++l.drop (k+B.length))) n:=by
 have e:hcl s l n=(s.map (Value.int .u32)++(l.take k).map (Value.int .u8))++(((l.drop k).take B.length).map (Value.int .u8)++((l.drop (k+B.length)).map (Value.int .u8)++[.int .i64 n])):=by
  unfold hcl
  rw [List.append_assoc]
  congr 1
  rw [← List.append_assoc,← List.append_assoc,← List.map_append,← List.map_append]
  congr 2
  rw [List.append_assoc]
  have:(l.drop k).take B.length++l.drop (k+B.length)=l.drop k:=by rw [← List.drop_drop,List.take_append_drop]
  rw [this,List.take_append_drop]
 have hlen:(s.map (Value.int .u32)++(l.take k).map (Value.int .u8)).length=8+k:=by simp [hs]; omega
 have h:=sp_mid (B.map (Value.int .u8)) (s.map (Value.int .u32)++(l.take k).map (Value.int .u8)) (((l.drop k).take B.length).map (Value.int .u8)) ((l.drop (k+B.length)).map (Value.int .u8)++[.int .i64 n]) (by simp; omega)
 rw [hlen,← e] at h
 rw [h]
 unfold hcl
 simp [List.append_assoc]
def SlX (g:Nat) (w:World) (a:Option Addr) (B:List Int):Prop:=B=[]∨∃ p o,a=some ⟨p,o,none⟩∧At w p o B∧p≠g
theorem SlX.gr {g:Nat} {w v:World} {a:Option Addr} {B:List Int} (h:SlX g w a B) (k:Gr w v):SlX g v a B:=by
 rcases h with h | ⟨p,o,h1,h2,h3⟩
 ·exact .inl h
 ·exact .inr ⟨p,o,h1,h2.gr k,h3⟩
theorem SlX.bt {g:Nat} {w v:World} {a:Option Addr} {B:List Int} (h:SlX g w a B) (k:Bt g w v):SlX g v a B:=by
 rcases h with h | ⟨p,o,h1,h2,h3⟩
 ·exact .inl h
 ·exact .inr ⟨p,o,h1,h2.bt k h3,h3⟩
theorem SlX.out {g:Nat} {w:World} {a:Option Addr} {B:List Int} (h:SlX g w a B):SlO g w a B:=by
 rcases h with h | ⟨p,o,h1,h2,h3⟩
 ·exact .inl h
 ·exact .inr ⟨p,o,h1,h2,.inl h3⟩
theorem At.take {w:World} {p o:Nat} {B:List Int} (h:At w p o B) (k:Nat):At w p o (B.take k):=by
 intro j hj
 rw [List.length_take] at hj
 rw [h j (by omega)]
 have hk2:j<k:=by omega
 simp [List.getElem?_take,hk2]
theorem At.drop {w:World} {p o:Nat} {B:List Int} (h:At w p o B) (k:Nat):At w p (o+k) (B.drop k):=by
 intro j hj
 rw [List.length_drop] at hj
 rw [Nat.add_assoc,h (k+j) (by omega)]
 simp
theorem isB_take {B:List Int} (h:IsB B) (k:Nat):IsB (B.take k):=fun x hx=>h x (List.mem_of_mem_take hx)
theorem isB_drop {B:List Int} (h:IsB B) (k:Nat):IsB (B.drop k):=fun x hx=>h x (List.mem_of_mem_drop hx)
theorem isB_append {B C:List Int} (h:IsB B) (k:IsB C):IsB (B++C):=fun x hx=>(List.mem_append.1 hx).elim (h x) (k x)
theorem Tryz.size5:(Tryz.prog.info? 5).map (·.size)=some 1:=by kernel_rfl
theorem copy_wp {o:Oper} {a:Act} {w:World} {K:Act→World→Prop} {Q:Exit→Act→World→Prop} (d s:Operand) (ho:o.op=.call { callee:=.builtin .copy,args:=#[d,s],argTypes:=#[43,43] })
  (g off dLen dCap:Nat) (sp:Option Addr) (sLen sCap:Nat) (hd:a.eval d=.slice (some ⟨g,off,none⟩) dLen dCap) (hs:a.eval s=.slice sp sLen sCap)
  (C:List Value) (t:TypeId) (hg:w.heap[g]?=some (.cells C.toArray t (0,0))) (B:List Int) (hn:B.length=Nat.min sLen dLen) (hsrc:B=[]∨∃ p q,sp=some ⟨p,q,none⟩∧At w p q B) (hfit:off+B.length≤C.length)
  (h:K (a.put o.dst (.int .i64 B.length)) (w.setCells g off (B.map (Value.int .u8)))):o.wp Tryz.prog a w K Q:=by
 rcases hsrc with rfl | ⟨p,q,rfl,hat⟩
 ·have hrun:=run_copy_none (P:=Tryz.prog) w 43 43 o.type 5 (some ⟨g,off,none⟩) sp dLen dCap sLen sCap Tryz.underlying43 Tryz.size5 hn.symm
  unfold Oper.wp
  simp [execOp,ho,resolve,invoke,builtin,hd,hs,hrun,Result.andThen]
  exact h
 ·have hth:=there_of (n:=B.length) hg hfit
  have hrun:=run_copy_cells (P:=Tryz.prog) w 43 43 o.type 5 g off dLen dCap ⟨p,q,none⟩ sLen sCap (B.map (Value.int .u8)) Tryz.underlying43 Tryz.size5 (by simpa using hn) (by
   intro j v hj
   have hj2:j<B.length:=by have:=(List.getElem?_eq_some_iff.1 hj).1; simpa using this
   rw [Addr.add_mid,hat j hj2]
   simp [hj2] at hj ⊢
   exact hj) (fun j hj=>(hth j (by simpa using hj)).1) (fun j hj=>(hth j (by simpa using hj)).2) (by intro v hv; obtain ⟨x,_,rfl⟩:=List.mem_map.1 hv; rfl)
  unfold Oper.wp
  simp [execOp,ho,resolve,invoke,builtin,hd,hs,hrun,Result.andThen]
  exact h
end Go.Proofs.YthahhglbeafkmaaGreatDoor
