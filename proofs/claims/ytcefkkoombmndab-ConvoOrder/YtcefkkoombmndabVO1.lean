/-
  What the proof leans on.
-/
import Derived.Test.YtcefkkoombmndabChecked
import Derived.WalkKit
import Derived.WalkSpells
import Derived.WalkLawsBesides
import Derived.Laws.BitsAllLaws
import Derived.Laws.ShiftsVarLaws
import Derived.Laws.Bits64b
import Derived.Laws.Externs
import Derived.Lib.Mul64
import Derived.LoopN
import Derived.Deep.RegionHeld
import Derived.Deep.DrawnRows
import Derived.Laws.Tables
import Derived.Laws.CopyOwn
import Derived.WalkMore
import Derived.Deep.Cut
import Derived.StillTailTactics
import Derived.OwnWalk
import Derived.Deep.QuietTactic
import Derived.BigQuiet
import Derived.Deep.MidRow
import Derived.Laws.IdiomCopy
import Derived.Deep.DeepAppendWide
import Derived.Deep.Strs
import Derived.Great.BuildSlice
import Derived.Laws.BytesArg
import Derived.ChangeKeysEq
import Derived.WideShapes
import Derived.Lib.SlBytesConst
import Derived.Laws.IdiomStrings
import Derived.Laws.StructEq
import Derived.Test.YtcefkkoombmndabRows
import Derived.ProofKit
import Derived.OpenShut
import Derived.ChangeOld
import Derived.ChangeSame
import Derived.SizedLaws
import Derived.Deep.Grids
import Derived.Lib.SmallJoins
namespace Go.Proofs.Ytcefkkoombmndab
open Go.RowKit
theorem nrm : (∀ (a : Act) (i : Nat) (v : Value), Act.put a (some i) v = ⟨a.tmps.setIfInBounds i v, a.defers⟩) ∧ (∀ (a : Act) (v : Value), Act.put a none v = a) ∧ (∀ {α : Type} (l : List α) (i : Nat) (v : α), l.toArray.setIfInBounds i v = (l.set i v).toArray) ∧ (∀ {α : Type} (l : List α) (x v : α), (x :: l).set 0 v = v :: l) ∧ (∀ {α : Type} (l : List α) (x v : α) (i : Nat), (x :: l).set (i + 1) v = x :: l.set i v) ∧ (∀ {α : Type} (l : List α) (i : Nat) (h : i < l.toArray.size), l.toArray[i] = l[i]'(by simpa using h)) ∧ (∀ {α : Type} (l : List α) (x : α) (h : 0 < (x :: l).length), (x :: l)[0] = x) ∧ (∀ {α : Type} (l : List α) (x : α) (i : Nat) (h : i + 1 < (x :: l).length), (x :: l)[i + 1] = l[i]'(by simpa using h)) := by
  refine ⟨?_, ?_, ?_, ?_, ?_, ?_, ?_, ?_⟩ <;> intros <;> simp [Act.put]
set_option linter.unusedSimpArgs false
set_option linter.unusedVariables false
theorem hide {p:Prop} (h:p):Hid p:=h
theorem unhide {p:Prop} (h:Hid p):p:=h
def Gr (w w':World):Prop:=Below w.heap.size w w'
theorem Gr.refl (w:World):Gr w w:=⟨rfl,rfl,rfl,Nat.le_refl _,fun _ _=>rfl⟩
theorem Gr.trans {a b c:World} (h:Gr a b) (k:Gr b c):Gr a c :=
 ⟨k.os.trans h.os,k.tape.trans h.tape,k.output.trans h.output,Nat.le_trans h.size k.size,fun i hi=>(k.block i (Nat.lt_of_lt_of_le hi h.size)).trans (h.block i hi)⟩
theorem Gr.alloc {a w:World} (h:Gr a w) (o:Obj):Gr a (w.alloc o):=Below.alloc h h.size o
theorem Gr.drew {a w:World} (h:Gr a w):Gr a w.drew:=Below.drew h
theorem Gr.cell {w w':World} (h:Gr w w') {p:Addr} {v:Value} (hp:w.cell? p=some v):w'.cell? p=some v:=by
 have hlt:p.block<w.heap.size:=by
  rcases Nat.lt_or_ge p.block w.heap.size with h' | h'
  ·exact h'
  ·simp [World.cell?,Array.getElem?_eq_none h'] at hp
 rw [Below.cell h hlt]; exact hp
theorem Gr.blk {w w':World} (h:Gr w w') {b:Nat} {o:Obj} (hp:w.heap[b]?=some o):w'.heap[b]?=some o:=by
 rw [h.block b (lt_of_block hp)]; exact hp
theorem blk_alloc (w:World) (o:Obj) (i:Nat):(w.alloc o).heap[i]?=if i=w.heap.size then some o else w.heap[i]?:=by
 show (w.heap.push o)[i]?=_
 rw [Array.getElem?_push]
theorem size_alloc (w:World) (o:Obj):(w.alloc o).heap.size=w.heap.size+1:=by
 show (w.heap.push o).size=_
 simp
theorem blk_new (w:World) (o:Obj):(w.alloc o).heap[w.heap.size]?=some o:=by rw [blk_alloc,if_pos rfl]
theorem cell_of {w:World} {b i:Nat} {cs:Array Value} {t:TypeId} {z:Nat × Nat} {v:Value} (h:w.heap[b]?=some (.cells cs t z)) (hi:cs[i]?=some v):w.cell? ⟨b,i,none⟩=some v:=by
 simp [World.cell?,h,hi]
theorem froz_of {w:World} {b i:Nat} {cs:Array Value} {t:TypeId} (h:w.heap[b]?=some (.cells cs t (0,0))):w.frozen? ⟨b,i,none⟩=false:=by
 simp [World.frozen?,h]
theorem Gr.setCell {a w:World} (h:Gr a w) {p:Addr} (hp:a.heap.size≤p.block) (u:Value):Gr a (w.setCell p u):=Below.setCell h hp u
end Go.Proofs.Ytcefkkoombmndab
namespace Go.Proofs.Ytcefkkoombmndab
open Go.RowKit
set_option maxRecDepth 100000
set_option linter.unusedSimpArgs false
set_option linter.unusedVariables false
theorem falses_set (l:List Bool):∀ i,l[i]?=some false→((l.set i true).filter (!·)).length+1=(l.filter (!·)).length:=by
 induction l with
 | nil=>intro i h; simp at h
 | cons x l ih =>
  intro i h
  cases i with
  | zero=>simp at h; subst h; simp
  | succ i =>
   have:=ih i (by simpa using h)
   simp only [List.set_cons_succ,List.filter_cons]
   cases x <;> simp <;> omega
theorem exec_row {P:Program} {op:Oper} {a:Act} (w:World) (ty:TypeId) (x:Operand) (ho:op.op=.load ty x)
  (b o:Nat) (hx:a.eval x=.pointer (some ⟨b,o,none⟩)) (cs:List Value) (d:TypeDesc) (h:w.rangeAt b o cs)
  (hu:P.underlying ty=some d) (hd:d.isRow=true) (hi:(P.info? ty).map (·.size)=some cs.length):(execOp a.eval op).run P w=.ok (.value (.agg cs.toArray)) w:=by
 unfold execOp
 simp only [ho,hx,Instr.loadAt,Instr.sureAddr,Sem.run_bind,Sem.run_pure,Result.andThen_ok,run_loadVar_mid w b o ty cs d h hu hd hi]
theorem range_row {v:World} {b:Nat} {L:List Value} {t:TypeId} (h:v.heap[b]?=some (.cells L.toArray t (0,0))):v.rangeAt b 0 L:=by
 intro j x hj
 have:(L.toArray)[0+j]?=some x:=by simpa using hj
 exact cell_of h this
theorem step_callw {P:Program} {ops:Array Oper} {o:Oper} {a:Act} {w:World} {K:Act→World→Prop} {Q:Exit→Act→World→Prop} {E:Prop} (hw:Region.wanted o (yielded ops a.tmps)=true)
  (f:FuncId) (args:Array Value) (hrun:(execOp a.eval o).run P w=.ok (.enter f args) w) (hc:Calls P f args w fun e w'=>∃ v,e=.returned v∧K (a.put o.dst v) w') :
  if Region.wanted o (yielded ops a.tmps)=true then Oper.wp P o a w K Q else E:=by
 rw [if_pos hw]
 unfold Oper.wp
 rw [hrun,Oper.upon_enter]
 refine hc.mono fun e w'' hh=>?_
 obtain ⟨v,rfl,hK⟩:=hh
 exact hK
theorem Gr.row {a w:World} (h:Gr a w) (g:Nat) (hg:a.heap.size≤g) (cs:Array Value):Gr a (w.setRow g cs):=below_setRow h hg cs
end Go.Proofs.Ytcefkkoombmndab
namespace Go.Proofs.Ytcefkkoombmndab
open Go.RowKit
set_option maxRecDepth 100000
set_option linter.unusedSimpArgs false
set_option linter.unusedVariables false
structure Blk where
 g:Nat
 c:Array Value
 t:TypeId
def Blk.obj (x:Blk):Obj:=.cells x.c x.t (0,0)
structure Bl (w:World) (L:List Blk) (v:World):Prop where
 gr:Gr w v
 at_:∀ x ∈ L,v.heap[x.g]?=some x.obj∧w.heap.size≤x.g
 ne:L.Pairwise (fun x y=>x.g≠y.g)
theorem Bl.nil (w:World):Bl w [] w:=⟨Gr.refl w,(fun _ h=>by cases h),List.Pairwise.nil⟩
theorem Bl.more {w u v:World} {L:List Blk} (h:Bl w L u) (k:Gr u v):Bl w L v:=⟨h.gr.trans k,fun x hx=>⟨k.blk (h.at_ x hx).1,(h.at_ x hx).2⟩,h.ne⟩
theorem Bl.drew {w v:World} {L:List Blk} (h:Bl w L v):Bl w L v.drew:=h.more (Gr.refl v).drew
theorem Bl.get {w v:World} {L:List Blk} (h:Bl w L v) (i:Nat) {x:Blk} (hi:L[i]?=some x):v.heap[x.g]?=some (.cells x.c x.t (0,0)):=(h.at_ x (List.mem_of_getElem? hi)).1
theorem Bl.own {w v:World} {L:List Blk} (h:Bl w L v) (i:Nat) {x:Blk} (hi:L[i]?=some x):w.heap.size≤x.g:=(h.at_ x (List.mem_of_getElem? hi)).2
theorem Bl.set {w v:World} {L:List Blk} (h:Bl w L v) (i:Nat) {x:Blk} (hi:L[i]?=some x) (c:Array Value):Bl w (L.set i ⟨x.g,c,x.t⟩) (v.setRow x.g c):=by
 have hx:=h.get i hi
 have hn:∀ j y,L[j]?=some y→j≠i→y.g≠x.g:=by
  intro j y hj hji
  obtain ⟨hjl,rfl⟩:=List.getElem?_eq_some_iff.1 hj
  obtain ⟨hil,rfl⟩:=List.getElem?_eq_some_iff.1 hi
  rcases Nat.lt_or_gt_of_ne hji with hlt | hlt
  ·exact List.pairwise_iff_getElem.1 h.ne j i hjl hil hlt
  ·exact (List.pairwise_iff_getElem.1 h.ne i j hil hjl hlt).symm
 refine ⟨h.gr.row _ (h.own i hi) c,?_,?_⟩
 ·intro y hy
  obtain ⟨j,hj⟩:=List.mem_iff_getElem?.1 hy
  by_cases hji:j=i
  ·subst hji
   rw [List.getElem?_set_self' ,hi] at hj
   simp at hj
   have ho:=h.own j hi
   subst hj
   exact ⟨setRow_heap _ _ _ _ _ _ hx,ho⟩
  ·rw [List.getElem?_set_ne (fun e=>hji e.symm)] at hj
   exact ⟨(setRow_other _ _ _ _ (hn j y hj hji)).trans (h.get j hj),h.own j hj⟩
 ·refine List.pairwise_iff_getElem.2 fun a b ha hb hab=>?_
  rw [List.length_set] at ha hb
  have h0:=List.pairwise_iff_getElem.1 h.ne a b ha hb hab
  obtain ⟨hil,rfl⟩:=List.getElem?_eq_some_iff.1 hi
  rw [List.getElem_set,List.getElem_set]
  split
  ·rename_i e
   subst e
   split
   ·omega
   ·exact h0
  ·split
   ·rename_i e
    subst e
    exact h0
   ·exact h0
theorem Bl.new {w v:World} {L:List Blk} (h:Bl w L v) (c:Array Value) (t:TypeId):Bl w (L++[⟨v.heap.size,c,t⟩]) (v.alloc (.cells c t (0,0))):=by
 have k:=(Gr.refl v).alloc (.cells c t (0,0))
 have hm:=h.more k
 refine ⟨hm.gr,?_,?_⟩
 ·intro x hx
  rcases List.mem_append.1 hx with hx | hx
  ·exact hm.at_ x hx
  ·have:x=⟨v.heap.size,c,t⟩:=by simpa using hx
   subst this
   exact ⟨blk_new _ _,h.gr.size⟩
 ·refine List.pairwise_append.2 ⟨h.ne,List.pairwise_singleton _ _,fun x hx y hy=>?_⟩
  have:y=⟨v.heap.size,c,t⟩:=by simpa using hy
  subst this
  have:=lt_of_block (h.at_ x hx).1
  show x.g≠v.heap.size
  omega
theorem exec_arr {P:Program} {op:Oper} {a:Act} (w:World) (ty:TypeId) (x:Operand) (ho:op.op=.load ty x)
  (b:Nat) (hx:a.eval x=.pointer (some ⟨b,0,none⟩)) (cs:Array Value) (t:TypeId) (d:TypeDesc) (h:w.heap[b]?=some (.cells cs t (0,0)))
  (hu:P.underlying ty=some d) (hd:d.isRow=true) (hi:(P.info? ty).map (·.size)=some cs.size):(execOp a.eval op).run P w=.ok (.value (.agg cs)) w:=by
 have:=exec_row (P:=P) (op:=op) (a:=a) w ty x ho b 0 hx cs.toList d (range_row (t:=t) (by simpa using h)) hu hd (by simpa using hi)
 simpa using this
/-! ### a list of operations,one behind the other -/
section
variable {P:Program} {ops:Array Oper} {Q:Exit→Act→World→Prop} {a:Act} {w:World} {o:Oper} {rest:List Oper}
theorem list_val (v:Value) (hw:Region.wanted o (yielded ops a.tmps)=true) (hx:(execOp a.eval o).run P w=.ok (.value v) w) (h:wpList P ops Q rest (a.put o.dst v) w):wpList P ops Q (o::rest) a w:=by
 refine wpList_step fun K hK=>?_
 rw [if_pos hw]
 unfold Oper.wp
 rw [hx]
 exact hK _ _ h
theorem list_call (f:FuncId) (args:Array Value) (hw:Region.wanted o (yielded ops a.tmps)=true) (hx:(execOp a.eval o).run P w=.ok (.enter f args) w)
  (hc:Calls P f args w fun e w'=>∃ v,e=.returned v∧wpList P ops Q rest (a.put o.dst v) w'):wpList P ops Q (o::rest) a w:=by
 refine wpList_step fun K hK=>?_
 refine step_callw hw f args hx (hc.mono ?_)
 rintro e w' ⟨v,rfl,h⟩
 exact ⟨v,rfl,hK _ _ h⟩
end
/-! ### an order that is drawn -/
section
variable {P:Program} {md:Region.Mode} {ops:Array Oper} {Q:Exit→Act→World→Prop} {S:World→Prop}
def Any (P:Program) (md:Region.Mode) (ops:Array Oper) (Q:Exit→Act→World→Prop) (S:World→Prop) (l:Array Bool) (a:Act) (w:World):Prop :=
 ∀ fuel,(l.toList.filter (!·)).length≤fuel→wpAnyH P md ops Q S fuel l a w
theorem left_of {l:Array Bool} {i:Nat} (h1:l.getD i true=false):((l.setIfInBounds i true).toList.filter (!·)).length+1=(l.toList.filter (!·)).length:=by
 have h2:l.toList[i]?=some false:=by
  rcases Nat.lt_or_ge i l.size with h | h
  ·rw [Array.getElem?_toList,Array.getElem?_eq_getElem h]
   simp [Array.getD,h] at h1
   rw [h1]
  ·simp [Array.getD,Nat.not_lt.2 h] at h1
 rw [Array.toList_setIfInBounds]
 exact falses_set l.toList i h2
theorem any_start {id:Nat} {a:Act} {w:World} (hm:P.follows .mixedOrders=true) (h:Any P .any ops Q S (Array.replicate ops.size false) a w.drew):(Code.region id ops true).wp P Q a w:=by
 refine wp_region_held hm (h ops.size ?_)
 simp
def leB (n:Nat) (l0 l:Array Bool):Bool:=(List.range n).all fun j => !(l0.getD j true) || l.getD j true
def rdB (md:Region.Mode) (ops:Array Oper) (l:Array Bool) (i:Nat):Bool:=decide (i<ops.size) && (!l.getD i true && ((ops[i]?).map (·.after.all fun e => !Region.binds md e || l.getD e.on false)).getD false)
theorem rdB_mem {l:Array Bool} {i:Nat} (h:rdB md ops l i=true):i ∈ Region.ready md ops l:=by
 unfold rdB at h
 rw [Bool.and_eq_true,decide_eq_true_eq] at h
 unfold Region.ready
 rw [List.mem_filter,List.mem_range]
 exact h
theorem any_take {i:Nat} {oi:Oper} {v:Value} {l:Array Bool} {a:Act} {w:World} (l0:Array Bool) (hi:ops[i]?=some oi)
  (hs:Region.noSelect ops=true) (hle:leB ops.size l0 l=true) (hf:Region.free md ops l0 i=true) (hr:rdB md ops l i=true)
  (hQ:∀ c a w,Q (.panic c) (a.put oi.dst v) w→Q (.panic c) a w) (hy:YieldsIf P ops S oi v a) (hS:S w)
  (h:Any P md ops Q S (l.setIfInBounds i true) (a.put oi.dst v) w):Any P md ops Q S l a w:=by
 intro fuel hfu
 have hm:=rdB_mem hr
 have h1:=left_of (mem_ready.1 hm).1
 obtain ⟨f,rfl⟩:∃ f,fuel=f+1:=⟨fuel - 1,by omega⟩
 refine wpAnyH_first hi (Region.noSelect_spec hs) hQ f l a w ?_ hm hy hS (h f (by omega))
 intro j oj hj hji hjl hn
 refine Region.free_spec hi hf j oj hj hji ?_ hn
 have hjs:j<ops.size:=by
  rcases Nat.lt_or_ge j ops.size with h | h
  ·exact h
  ·rw [Array.getElem?_eq_none h] at hj
   cases hj
 have h2:=List.all_eq_true.1 hle j (List.mem_range.2 hjs)
 rw [hjl] at h2
 simpa using h2
theorem any_done {l:Array Bool} {a:Act} {w:World} (hr:Region.ready md ops l=[]) (h:Q .normal a w):Any P md ops Q S l a w:=fun fuel _=>wpAnyH_done hr h fuel
theorem any_one {i:Nat} {o:Oper} {l:Array Bool} {a:Act} {w:World} (hr:Region.ready md ops l=[i]) (ho:ops[i]?=some o)
  (h:∀ K':Act→World→Prop,Shut (∀ a w,S w→(S w→Any P md ops Q S (l.setIfInBounds i true) a w)→K' a w)→if Region.wanted o (yielded ops a.tmps)=true then Oper.wp P o a w K' Q else K' (a.put o.dst undef) w):Any P md ops Q S l a w:=by
 intro fuel hfu
 have hm:i ∈ Region.ready md ops l:=by rw [hr]; exact List.mem_cons_self
 have h1:=left_of (mem_ready.1 hm).1
 obtain ⟨f,rfl⟩:∃ f,fuel=f+1:=⟨fuel - 1,by omega⟩
 refine wpAnyH_ready hr (by simp) (AllReadyH.cons ho (fun K hK=>?_) AllReadyH.nil)
 exact h K (fun a w hS hW=>hK.out a w hS (fun hS=>hW hS f (by omega)))
theorem any_stage (I:Array Bool→Act→World→Prop)
  (step:∀ l a w,I l a w→Region.ready md ops l≠[]∧∀ i ∈ Region.ready md ops l,wpOp P ops Q i (fun a' w'=>S w'∧(I (l.setIfInBounds i true) a' w'∨Any P md ops Q S (l.setIfInBounds i true) a' w')) a w)
  {l:Array Bool} {a:Act} {w:World} (h:I l a w):Any P md ops Q S l a w:=by
 intro fuel
 induction fuel generalizing l a w with
 | zero =>
  intro hfu
  exfalso
  obtain ⟨hne,_⟩:=step l a w h
  rcases hq:Region.ready md ops l with _ | ⟨i,r⟩
  ·exact hne hq
  ·have hm:i ∈ Region.ready md ops l:=by rw [hq]; exact List.mem_cons_self
   have:=left_of (mem_ready.1 hm).1
   omega
 | succ f ih =>
  intro hfu
  obtain ⟨hne,hs⟩:=step l a w h
  refine ⟨fun h0=>absurd h0 hne,fun i hm=>wpOp_mono (fun a' w' k=>⟨k.1,?_⟩) (hs i hm)⟩
  have h1:=left_of (mem_ready.1 hm).1
  rcases k.2 with k2 | k2
  ·exact ih k2 (by omega)
  ·exact k2 f (by omega)
end
end Go.Proofs.Ytcefkkoombmndab
namespace Go.Proofs.Ytcefkkoombmndab
open Go.RowKit
set_option maxRecDepth 100000
set_option linter.unusedSimpArgs false
set_option linter.unusedVariables false
def chkM1 (md:Region.Mode) (ops:Array Oper) (F:Bool→Array Bool) (i1 c:Nat) (all:Bool):Bool :=
 [false,true].all fun b1 =>
  !(Region.ready md ops (F b1)).isEmpty && (Region.ready md ops (F b1)).all fun i=>(i == i1 && !b1) || (i == c && (!all || (b1)))
theorem chkM1_spec {md:Region.Mode} {ops:Array Oper} {F:Bool→Array Bool} {i1 c:Nat} {all:Bool} (h:chkM1 md ops F i1 c all=true) :
  ∀ b1,Region.ready md ops (F b1)≠[]∧∀ i ∈ Region.ready md ops (F b1),(i=i1∧b1=false)∨(i=c∧(all=true→b1=true)):=by
 have mb:∀ b:Bool,b ∈ [false,true]:=by intro b; cases b <;> simp
 intro b1
 have h1:=(List.all_eq_true.1 h b1 (mb b1))
 rw [Bool.and_eq_true] at h1
 refine ⟨fun e=>?_,fun i hi=>?_⟩
 ·rw [e] at h1
  exact absurd h1.1 (by decide)
 ·have h2:=List.all_eq_true.1 h1.2 i hi
  rw [Bool.or_eq_true] at h2
  rcases h2 with h2 | h2
  ·simp only [Bool.and_eq_true,beq_iff_eq,Bool.not_eq_true'] at h2
   exact .inl h2
  ·rw [Bool.and_eq_true,beq_iff_eq] at h2
   obtain ⟨rfl,h3⟩:=h2
   refine .inr ⟨rfl,fun ha=>?_⟩
   rw [ha] at h3
   simpa using h3
def fw1 (a:Act) (p1:Nat) (q1:Value):Act:=⟨(a.tmps.setIfInBounds p1 q1),a.defers⟩
end Go.Proofs.Ytcefkkoombmndab
namespace Go.Proofs.Ytcefkkoombmndab
open Go.RowKit
set_option maxRecDepth 100000
set_option linter.unusedSimpArgs false
set_option linter.unusedVariables false
section
variable {P:Program} {md:Region.Mode} {ops:Array Oper} {Q:Exit→Act→World→Prop} {S:World→Prop}
theorem float1 (W:World) (T:Value→World→Prop) (A:Value→Act) (F:Bool→Array Bool) (i1 c:Nat) (all:Bool)
  (hS:∀ v,Gr W v→S v) (hchk:chkM1 md ops F i1 c all=true) (hF:∀ b1,(F b1).setIfInBounds i1 true=F true)
  (new1:∀ q w,Gr W w→∀ K:Act→World→Prop,(∀ v w',Gr w w'→T v w'→K (A v) w')→wpOp P ops Q i1 K (A q) w)
  (next:∀ b q w,Gr W w→(b=true→T q w)→(all=true→b=true)→wpOp P ops Q c (fun a' w'=>S w'∧Any P md ops Q S ((F b).setIfInBounds c true) a' w') (A q) w)
  {l:Array Bool} {a:Act} {w:World} (h:∃ b q,l=F b∧a=A q∧Gr W w∧(b=true→T q w)):Any P md ops Q S l a w:=by
 refine any_stage (fun l a w=>∃ b q,l=F b∧a=A q∧Gr W w∧(b=true→T q w)) ?_ h
 rintro l a w ⟨b,q,rfl,rfl,gr,hT⟩
 obtain ⟨hne,hr⟩:=chkM1_spec hchk b
 refine ⟨hne,fun i hi=>?_⟩
 rcases hr i hi with ⟨rfl,e⟩ | ⟨rfl,e⟩
 ·exact new1 q w gr _ (fun v w' g t=>⟨hS _ (gr.trans g),.inl ⟨true,v,hF b,rfl,gr.trans g,fun _=>t⟩⟩)
 ·exact wpOp_mono (fun a' w' k=>⟨k.1,.inr k.2⟩) (next b q w gr hT e)
theorem float_first (T:Value→World→Prop) (p:Nat) (F:Bool→Array Bool) (i1 c:Nat) (all:Bool) {l:Array Bool} {a:Act} {W:World} (hl:l=F false) (ha:fw1 a p (a.tmps.getD p undef)=a)
  (hS:∀ v,Gr W v→S v) (hchk:chkM1 md ops F i1 c all=true) (hF:∀ b1,(F b1).setIfInBounds i1 true=F true)
  (new1:∀ q w,Gr W w→∀ K:Act→World→Prop,(∀ v w',Gr w w'→T v w'→K (fw1 a p v) w')→wpOp P ops Q i1 K (fw1 a p q) w)
  (next:∀ b q w,Gr W w→(b=true→T q w)→(all=true→b=true)→wpOp P ops Q c (fun a' w'=>S w'∧Any P md ops Q S ((F b).setIfInBounds c true) a' w') (fw1 a p q) w):Any P md ops Q S l a W :=
 float1 W T (fw1 a p) F i1 c all hS hchk hF new1 next ⟨false,_,hl,ha.symm,Gr.refl W,fun e=>by cases e⟩
theorem float_again (T:Value→World→Prop) (p:Nat) (F:Bool→Array Bool) (i1 c:Nat) (all:Bool) {b:Bool} {q:Value} {l:Array Bool} {a:Act} {W:World} (hl:l=F b) (ha:fw1 a p q=a) (hT:b=true→T q W)
  (hS:∀ v,Gr W v→S v) (hchk:chkM1 md ops F i1 c all=true) (hF:∀ b1,(F b1).setIfInBounds i1 true=F true)
  (new1:∀ q w,Gr W w→∀ K:Act→World→Prop,(∀ v w',Gr w w'→T v w'→K (fw1 a p v) w')→wpOp P ops Q i1 K (fw1 a p q) w)
  (next:∀ b q w,Gr W w→(b=true→T q w)→(all=true→b=true)→wpOp P ops Q c (fun a' w'=>S w'∧Any P md ops Q S ((F b).setIfInBounds c true) a' w') (fw1 a p q) w):Any P md ops Q S l a W :=
 float1 W T (fw1 a p) F i1 c all hS hchk hF new1 next ⟨b,q,hl,ha.symm,Gr.refl W,hT⟩
theorem step_val {o:Oper} {a:Act} {w:World} {K:Act→World→Prop} (v:Value) (w':World) (hw:Region.wanted o (yielded ops a.tmps)=true) (hx:(execOp a.eval o).run P w=.ok (.value v) w') (h:K (a.put o.dst v) w') :
  if Region.wanted o (yielded ops a.tmps)=true then Oper.wp P o a w K Q else K (a.put o.dst undef) w:=by
 rw [if_pos hw]
 unfold Oper.wp
 rw [hx]
 exact h
end
section
variable {P:Program} {md:Region.Mode} {ops:Array Oper} {Q:Exit→Act→World→Prop} {S:World→Prop} {c:Nat}
def wpAnyC (P:Program) (md:Region.Mode) (ops:Array Oper) (Q:Exit→Act→World→Prop) (S:World→Prop) (c:Nat):Nat→Array Bool→Act→World→Prop
 | 0,l,a,w=>Region.ready md ops l=[]∧Q .normal a w
 | f+1,l,a,w=>(Region.ready md ops l=[]→Q .normal a w) ∧
   ∀ i ∈ Region.ready md ops l,wpOp P ops Q i (fun a' w'=>((l.setIfInBounds i true).getD c false=false→S w')∧wpAnyC P md ops Q S c f (l.setIfInBounds i true) a' w') a w
theorem wpAny_of_C:∀ (f:Nat) (l:Array Bool) (a:Act) (w:World),wpAnyC P md ops Q S c f l a w→wpAny P md ops Q f l a w
 | 0,_,_,_,h=>h
 | f+1,_,_,_,h=>⟨h.1,fun i hi=>wpOp_mono (fun a' w' h'=>wpAny_of_C f _ a' w' h'.2) (h.2 i hi)⟩
theorem wpAnyC_free:∀ (f:Nat) (l:Array Bool) (a:Act) (w:World),l.getD c false=true→wpAnyH P md ops Q (fun _=>True) f l a w→wpAnyC P md ops Q S c f l a w
 | 0,_,_,_,_,h=>h
 | f+1,l,_,_,hl,h=>⟨h.1,fun i hi=>wpOp_mono (fun a' w' h'=>⟨fun e=>(by rw [getD_set_true hl] at e; cases e),wpAnyC_free f _ a' w' (getD_set_true hl) h'.2⟩) (h.2 i hi)⟩
theorem wpAnyC_first {i:Nat} {oi oc:Oper} {v:Value} (hi:ops[i]?=some oi) (hsel:∀ (j:Nat) (o:Oper) cs b,ops[j]?=some o→o.op≠.select cs b)
  (hQ:∀ c a w,Q (.panic c) (a.put oi.dst v) w→Q (.panic c) a w) (hci:i≠c) (T:World→Prop) (hTS:∀ w,S w→T w) (hoc:ops[c]?=some oc) (hT:(∀ w,T w)∨∃ e ∈ oc.after,Region.binds md e=true∧e.on=i) :
  ∀ (fuel:Nat) (listed:Array Bool) (a:Act) (w:World),
   (∀ j oj,ops[j]?=some oj→j≠i→listed.getD j true=false→(∀ e ∈ oj.after,Region.binds md e=true→e.on≠i)→oi.apart ops oj=true) →
   i ∈ Region.ready md ops listed→YieldsIf P ops T oi v a→(listed.getD c false=false→S w)→((∀ w,T w)∨listed.getD c false=false) →
   wpAnyC P md ops Q S c fuel (listed.setIfInBounds i true) (a.put oi.dst v) w→wpAnyC P md ops Q S c (fuel+1) listed a w:=by
 intro fuel
 have now:∀ (l:Array Bool) (w:World),(l.getD c false=false→S w)→((∀ w,T w)∨l.getD c false=false)→T w:=fun l w hS hB=>by
  rcases hB with h | h
  ·exact h w
  ·exact hTS w (hS h)
 induction fuel with
 | zero =>
  intro listed a w _ hr hy hS hB H
  refine ⟨fun h=>(by rw [h] at hr; cases hr),fun j hj=>?_⟩
  by_cases hji:j=i
  ·subst hji
   exact hy.wpOp hi (now _ _ hS hB) ⟨fun e=>hS (by rw [getD_set_ne false hci] at e; exact e),H⟩
  ·have:=ready_mono hj hji
   rw [H.1] at this
   cases this
 | succ fuel ih =>
  intro listed a w hfree hr hy hS hB H
  refine ⟨fun h=>(by rw [h] at hr; cases hr),fun j hj=>?_⟩
  by_cases hji:j=i
  ·subst hji
   exact hy.wpOp hi (now _ _ hS hB) ⟨fun e=>hS (by rw [getD_set_ne false hci] at e; exact e),H⟩
  ·have h1:=H.2 j (ready_mono hj hji)
   obtain ⟨hjun,oj,hoj,hall⟩:=mem_ready.1 hj
   have hnot:∀ e ∈ oj.after,Region.binds md e=true→e.on≠i:=fun e he hb heq=>by
    have h1:=hall e he hb
    have h0:=(mem_ready.1 hr).1
    rw [heq] at h1
    rcases Nat.lt_or_ge i listed.size with h' | h'
    ·simp [h'] at h0 h1; rw [h0] at h1; cases h1
    ·simp [Array.getElem?_eq_none h'] at h1
   have h2:=wpOp_putIf hoj (hfree j oj hoj hji hjun hnot) (fun cs b=>hsel i oi cs b hi) (fun cs b=>hsel j oj cs b hoj) hQ hy h1
   have hfree':∀ k ok,ops[k]?=some ok→k≠i→(listed.setIfInBounds j true).getD k true=false →
     (∀ e ∈ ok.after,Region.binds md e=true→e.on≠i)→oi.apart ops ok=true:=fun k ok hk hki hun hno=>by
    refine hfree k ok hk hki ?_ hno
    by_cases hjk:j=k
    ·subst hjk; exact hjun
    ·rw [getD_set_ne true hjk] at hun; exact hun
   refine wpOp_mono (fun a' w' h3=>?_) h2
   have hS':(listed.setIfInBounds j true).getD c false=false→S w':=fun e=>by
    refine h3.2.1 ?_
    rw [Array.setIfInBounds_comm _ _ (Ne.symm hji),getD_set_ne false hci]
    exact e
   have hB':(∀ w,T w)∨(listed.setIfInBounds j true).getD c false=false:=by
    rcases hB with h | h
    ·exact .inl h
    ·rcases hT with h' | ⟨e,he,hb,heq⟩
     ·exact .inl h'
     ·refine .inr ?_
      have hjc:j≠c:=by
       rintro rfl
       rw [hoj] at hoc
       cases hoc
       exact hnot e he hb heq
      rw [getD_set_ne false hjc]
      exact h
   refine ⟨hS',ih (listed.setIfInBounds j true) a' w' hfree' (ready_mono hr (Ne.symm hji)) h3.1 hS' hB' ?_⟩
   rw [Array.setIfInBounds_comm _ _ hji]
   exact h3.2.2
def AnyC (P:Program) (md:Region.Mode) (ops:Array Oper) (Q:Exit→Act→World→Prop) (S:World→Prop) (c:Nat) (l:Array Bool) (a:Act) (w:World):Prop :=
 ∀ fuel,(l.toList.filter (!·)).length≤fuel→wpAnyC P md ops Q S c fuel l a w
theorem anyC_start {id:Nat} {a:Act} {w:World} (c:Nat) (S:World→Prop) (hm:P.follows .mixedOrders=true) (h:AnyC P .any ops Q S c (Array.replicate ops.size false) a w.drew):(Code.region id ops true).wp P Q a w:=by
 refine wp_region_any hm (wpAny_of_C _ _ _ _ (h ops.size ?_))
 simp
def depB (md:Region.Mode) (ops:Array Oper) (c i:Nat):Bool:=((ops[c]?).map (·.after.any fun e=>Region.binds md e && e.on == i)).getD false
theorem anyC_take {i:Nat} {oi:Oper} {v:Value} {l:Array Bool} {a:Act} {w:World} (T:World→Prop) (hTS:∀ w,S w→T w) (hT:(∀ w,T w)∨depB md ops c i=true) (hi:ops[i]?=some oi)
  (hs:Region.noSelect ops=true) (hf:Region.free md ops l i=true) (hr:rdB md ops l i=true) (hci:i≠c) (hl:l.getD c true=false) (hc:c<ops.size)
  (hQ:∀ c a w,Q (.panic c) (a.put oi.dst v) w→Q (.panic c) a w) (hy:YieldsIf P ops T oi v a) (hS:S w)
  (h:AnyC P md ops Q S c (l.setIfInBounds i true) (a.put oi.dst v) w):AnyC P md ops Q S c l a w:=by
 intro fuel hfu
 have hm:=rdB_mem hr
 have h1:=left_of (mem_ready.1 hm).1
 obtain ⟨f,rfl⟩:∃ f,fuel=f+1:=⟨fuel - 1,by omega⟩
 have hlc:l.getD c false=false:=by
  rcases Nat.lt_or_ge c l.size with h' | h'
  ·simp [h'] at hl ⊢
   exact hl
  ·simp [Array.getElem?_eq_none h']
 refine wpAnyC_first hi (Region.noSelect_spec hs) hQ hci T hTS (Array.getElem?_eq_getElem hc) ?_ f l a w (Region.free_spec hi hf) hm hy (fun _=>hS) (.inr hlc) (h f (by omega))
 rcases hT with h | h
 ·exact .inl h
 ·refine .inr ?_
  unfold depB at h
  rw [Array.getElem?_eq_getElem hc] at h
  simp only [Option.map_some,Option.getD_some,Array.any_eq_true'] at h
  obtain ⟨e,he,h⟩:=h
  rw [Bool.and_eq_true] at h
  exact ⟨e,he,h.1,by simpa using h.2⟩
theorem anyC_last {o:Oper} {l:Array Bool} {a:Act} {w:World} (hr:Region.ready md ops l=[c]) (ho:ops[c]?=some o)
  (h:∀ K':Act→World→Prop,Shut (∀ a w,Any P md ops Q (fun _=>True) (l.setIfInBounds c true) a w→K' a w)→if Region.wanted o (yielded ops a.tmps)=true then Oper.wp P o a w K' Q else K' (a.put o.dst undef) w):AnyC P md ops Q S c l a w:=by
 intro fuel hfu
 have hm:c ∈ Region.ready md ops l:=by rw [hr]; exact List.mem_cons_self
 have h1:=left_of (mem_ready.1 hm).1
 obtain ⟨f,rfl⟩:∃ f,fuel=f+1:=⟨fuel - 1,by omega⟩
 have hsz:c<l.size:=by
  rcases Nat.lt_or_ge c l.size with h' | h'
  ·exact h'
  ·have:=(mem_ready.1 hm).1
   simp [Array.getElem?_eq_none h'] at this
 have hlc:(l.setIfInBounds c true).getD c false=true:=by simp [hsz]
 refine ⟨fun h=>(by rw [h] at hr; cases hr),fun j hj=>?_⟩
 rw [hr] at hj
 obtain rfl:j=c:=by simpa using hj
 refine wpOp_step ho (fun K' hK=>h K' (fun a w hA=>hK a w ⟨fun e=>?_,?_⟩))
 ·rw [hlc] at e
  cases e
 ·exact wpAnyC_free f _ a w hlc (hA f (by omega))
end
section
variable {P:Program} {md:Region.Mode} {ops:Array Oper} {Q:Exit→Act→World→Prop} {S:World→Prop} {c:Nat}
theorem anyC_one {i:Nat} {o:Oper} {l:Array Bool} {a:Act} {w:World} (hr:Region.ready md ops l=[i]) (ho:ops[i]?=some o)
  (h:∀ K':Act→World→Prop,Shut (∀ a w,S w→(S w→AnyC P md ops Q S c (l.setIfInBounds i true) a w)→K' a w)→if Region.wanted o (yielded ops a.tmps)=true then Oper.wp P o a w K' Q else K' (a.put o.dst undef) w):AnyC P md ops Q S c l a w:=by
 intro fuel hfu
 have hm:i ∈ Region.ready md ops l:=by rw [hr]; exact List.mem_cons_self
 have h1:=left_of (mem_ready.1 hm).1
 obtain ⟨f,rfl⟩:∃ f,fuel=f+1:=⟨fuel - 1,by omega⟩
 refine ⟨fun h=>(by rw [h] at hr; cases hr),fun j hj=>?_⟩
 rw [hr] at hj
 obtain rfl:j=i:=by simpa using hj
 exact wpOp_step ho (fun K' hK=>h K' (fun a w hS hA=>hK a w ⟨fun _=>hS,hA hS f (by omega)⟩))
end
section
variable {P:Program} {md:Region.Mode} {Q:Exit→Act→World→Prop}
end
set_option linter.unusedVariables false
section
variable {P:Program} {md:Region.Mode} {ops:Array Oper} {Q:Exit→Act→World→Prop} {S:World→Prop}
end
section
variable {P:Program} {md:Region.Mode} {ops:Array Oper} {Q:Exit→Act→World→Prop} {S:World→Prop}
end
end Go.Proofs.Ytcefkkoombmndab
namespace Go.Proofs.Ytcefkkoombmndab
open Go.RowKit
set_option maxRecDepth 100000
set_option linter.unusedSimpArgs false
set_option linter.unusedVariables false
theorem Bl.cell {w v:World} {L:List Blk} (h:Bl w L v) (k:Nat) {x:Blk} (hk:L[k]?=some x) (i:Nat) (y:Value):Bl w (L.set k ⟨x.g,x.c.setIfInBounds i y,x.t⟩) (v.setCell ⟨x.g,i,none⟩ y):=by
 have hx:=h.get k hk
 have hn:∀ j y,L[j]?=some y→j≠k→y.g≠x.g:=by
  intro j y hj hji
  obtain ⟨hjl,rfl⟩:=List.getElem?_eq_some_iff.1 hj
  obtain ⟨hil,rfl⟩:=List.getElem?_eq_some_iff.1 hk
  rcases Nat.lt_or_gt_of_ne hji with hlt | hlt
  ·exact List.pairwise_iff_getElem.1 h.ne j k hjl hil hlt
  ·exact (List.pairwise_iff_getElem.1 h.ne k j hil hjl hlt).symm
 refine ⟨h.gr.setCell (h.own k hk) y,?_,?_⟩
 ·intro z hz
  obtain ⟨j,hj⟩:=List.mem_iff_getElem?.1 hz
  by_cases hji:j=k
  ·subst hji
   rw [List.getElem?_set_self',hk] at hj
   simp at hj
   have ho:=h.own j hk
   subst hj
   exact ⟨heap_setCell_same _ _ _ _ _ _ hx,ho⟩
  ·rw [List.getElem?_set_ne (fun e=>hji e.symm)] at hj
   exact ⟨(Below.heap_setCell v ⟨x.g,i,none⟩ y z.g (hn j z hj hji)).trans (h.get j hj),h.own j hj⟩
 ·refine List.pairwise_iff_getElem.2 fun a b ha hb hab=>?_
  rw [List.length_set] at ha hb
  have h0:=List.pairwise_iff_getElem.1 h.ne a b ha hb hab
  obtain ⟨hil,rfl⟩:=List.getElem?_eq_some_iff.1 hk
  rw [List.getElem_set,List.getElem_set]
  split
  ·rename_i e
   subst e
   split
   ·omega
   ·exact h0
  ·split
   ·rename_i e
    subst e
    exact h0
   ·exact h0
def IsB (B:List Int):Prop:=∀ x ∈ B,0≤x∧x<256
def At (w:World) (p o:Nat) (B:List Int):Prop:=∀ j,j<B.length→w.cell? ⟨p,o+j,none⟩=some (.int .u8 (B.getD j 0))
structure Bt (g:Nat) (w v:World):Prop where
 os:v.os=w.os
 tape:v.tape=w.tape
 output:v.output=w.output
 size:w.heap.size≤v.heap.size
 block:∀ i,i<w.heap.size→i≠g→v.heap[i]?=w.heap[i]?
theorem Bt.refl (g:Nat) (w:World):Bt g w w:=⟨rfl,rfl,rfl,Nat.le_refl _,fun _ _ _=>rfl⟩
theorem Bt.trans {g:Nat} {a b c:World} (h:Bt g a b) (k:Bt g b c):Bt g a c :=
 ⟨k.os.trans h.os,k.tape.trans h.tape,k.output.trans h.output,Nat.le_trans h.size k.size,fun i hi hn=>(k.block i (Nat.lt_of_lt_of_le hi h.size) hn).trans (h.block i hi hn)⟩
theorem Bt.gr {g:Nat} {w u v:World} (h:Gr w u) (k:Bt g u v) (hg:w.heap.size≤g):Gr w v :=
 ⟨k.os.trans h.os,k.tape.trans h.tape,k.output.trans h.output,Nat.le_trans h.size k.size,fun i hi=>(k.block i (Nat.lt_of_lt_of_le hi h.size) (by omega)).trans (h.block i hi)⟩
theorem Bt.blk {g:Nat} {w v:World} (h:Bt g w v) {b:Nat} {o:Obj} (hp:w.heap[b]?=some o) (hb:b≠g):v.heap[b]?=some o:=by rw [h.block b (lt_of_block hp) hb]; exact hp
theorem cell_heap {w v:World} {p o:Nat} (h:v.heap[p]?=w.heap[p]?):v.cell? ⟨p,o,none⟩=w.cell? ⟨p,o,none⟩:=by simp [World.cell?,h]
theorem lt_of_cell {w:World} {p o:Nat} {x:Value} (h:w.cell? ⟨p,o,none⟩=some x):p<w.heap.size:=by
 rcases Nat.lt_or_ge p w.heap.size with h' | h'
 ·exact h'
 ·simp [World.cell?,Array.getElem?_eq_none h'] at h
theorem Bt.cell {g:Nat} {w v:World} (h:Bt g w v) {p o:Nat} {x:Value} (hp:w.cell? ⟨p,o,none⟩=some x) (hb:p≠g):v.cell? ⟨p,o,none⟩=some x:=by
 rw [cell_heap (h.block p (lt_of_cell hp) hb)]; exact hp
theorem Bl.but {w u v:World} {L:List Blk} (h:Bl w L u) {g:Nat} (k:Bt g u v) (i:Nat) {x:Blk} (hi:L[i]?=some x) (hx:x.g=g) {c:Array Value} (hc:v.heap[g]?=some (.cells c x.t (0,0))):Bl w (L.set i ⟨g,c,x.t⟩) v:=by
 have hn:∀ j y,L[j]?=some y→j≠i→y.g≠g:=by
  intro j y hj hji
  obtain ⟨hjl,rfl⟩:=List.getElem?_eq_some_iff.1 hj
  obtain ⟨hil,rfl⟩:=List.getElem?_eq_some_iff.1 hi
  rw [← hx]
  rcases Nat.lt_or_gt_of_ne hji with hlt | hlt
  ·exact List.pairwise_iff_getElem.1 h.ne j i hjl hil hlt
  ·exact (List.pairwise_iff_getElem.1 h.ne i j hil hjl hlt).symm
 have hog:=h.own i hi
 rw [hx] at hog
 refine ⟨k.gr h.gr hog,?_,?_⟩
 ·intro y hy
  obtain ⟨j,hj⟩:=List.mem_iff_getElem?.1 hy
  by_cases hji:j=i
  ·subst hji
   rw [List.getElem?_set_self',hi] at hj
   simp at hj
   subst hj
   exact ⟨hc,hog⟩
  ·rw [List.getElem?_set_ne (fun e=>hji e.symm)] at hj
   exact ⟨k.blk (h.get j hj) (hn j y hj hji),h.own j hj⟩
 ·refine List.pairwise_iff_getElem.2 fun a b ha hb hab=>?_
  rw [List.length_set] at ha hb
  have h0:=List.pairwise_iff_getElem.1 h.ne a b ha hb hab
  obtain ⟨hil,rfl⟩:=List.getElem?_eq_some_iff.1 hi
  rw [List.getElem_set,List.getElem_set]
  split
  ·rename_i e
   subst e
   split
   ·omega
   ·exact fun e=>h0 (hx.trans e)
  ·split
   ·rename_i e
    subst e
    exact fun e=>h0 (e.trans hx.symm)
   ·exact h0
def sp (C:List Value):Nat→List Value→List Value
 | _,[]=>C
 | o,v::r=>sp (C.set o v) (o+1) r
theorem sp_mid:∀ (vs A M D:List Value),vs.length=M.length→sp (A++(M++D)) A.length vs=A++(vs++D)
 | [],A,M,D,h=>by
  have:M=[]:=List.eq_nil_of_length_eq_zero h.symm
  subst this
  rfl
 | v::r,A,[],D,h=>by simp at h
 | v::r,A,m::M,D,h=>by
  have h1:(A++(m::M++D)).set A.length v=(A++[v])++(M++D):=by simp
  have h2:=sp_mid r (A++[v]) M D (by simpa using h)
  rw [sp,h1]
  simp only [List.length_append,List.length_cons,List.length_nil,Nat.zero_add] at h2
  rw [h2]
  simp
theorem setCells_heap:∀ (vs:List Value) (w:World) (g o:Nat) (C:List Value) (t:TypeId),w.heap[g]?=some (.cells C.toArray t (0,0))→(w.setCells g o vs).heap[g]?=some (.cells (sp C o vs).toArray t (0,0))
 | [],w,g,o,C,t,h=>h
 | v::r,w,g,o,C,t,h=>by
  have h1:=heap_setCell_same w g o C.toArray t v h
  rw [List.setIfInBounds_toArray] at h1
  rw [World.setCells,sp]
  exact setCells_heap r _ g (o+1) _ t h1
theorem setCells_other:∀ (vs:List Value) (w:World) (g o j:Nat),j≠g→(w.setCells g o vs).heap[j]?=w.heap[j]?
 | [],w,g,o,j,h=>rfl
 | v::r,w,g,o,j,h=>by
  rw [World.setCells,setCells_other r _ g (o+1) j h]
  exact Below.heap_setCell w ⟨g,o,none⟩ v j h
theorem setCells_bt:∀ (vs:List Value) (w:World) (g o:Nat),Bt g w (w.setCells g o vs)
 | [],w,g,o=>Bt.refl g w
 | v::r,w,g,o=>by
  rw [World.setCells]
  refine Bt.trans ?_ (setCells_bt r _ g (o+1))
  refine ⟨rfl,rfl,rfl,?_,fun i _ hn=>Below.heap_setCell w ⟨g,o,none⟩ v i hn⟩
  exact Nat.le_of_eq (by simp [World.setCell])
theorem there_of {w:World} {g o n:Nat} {C:List Value} {t:TypeId} (h:w.heap[g]?=some (.cells C.toArray t (0,0))) (hn:o+n≤C.length):w.there g o n:=by
 intro j hj
 refine ⟨?_,froz_of h⟩
 have:C.toArray[o+j]?=some (C[o+j]'(by omega)):=by simp
 rw [cell_of h this]
 rfl
def hcl (s l:List Int) (n:Int):List Value:=s.map (Value.int .u32)++(l.map (Value.int .u8)++[.int .i64 n])
def hc (s l:List Int) (n:Int):Array Value:=(hcl s l n).toArray
theorem list_store_mid {P:Program} {ops:Array Oper} {Q:Exit→Act→World→Prop} {a:Act} {w:World} {o:Oper} {K:Act→World→Prop} (ty:TypeId) (x y:Operand) (g off:Nat) (c:Array Value) (hw:Region.wanted o (yielded ops a.tmps)=true) (ho:o.op=.store ty x y)
  (hx:a.eval x=.pointer (some ⟨g,off,none⟩)) (hy:a.eval y=.agg c) (ht:w.there g off c.size) (hi:(P.info? ty).map (·.size)=some c.size) (h1:c.all (·.oneCell')=true)
  (h:K (a.put o.dst undef) (w.setCells g off c.toList)):if Region.wanted o (yielded ops a.tmps)=true then Oper.wp P o a w K Q else K (a.put o.dst undef) w:=by
 rw [if_pos hw]
 exact wp_store_mid ty x y ho g off c hx hy ht hi h1 h
theorem list_valw {P:Program} {ops:Array Oper} {Q:Exit→Act→World→Prop} {a:Act} {w:World} {o:Oper} {rest:List Oper} (v:Value) (w':World) (hw:Region.wanted o (yielded ops a.tmps)=true) (hx:(execOp a.eval o).run P w=.ok (.value v) w') (h:wpList P ops Q rest (a.put o.dst v) w'):wpList P ops Q (o::rest) a w:=by
 refine wpList_step fun K hK=>?_
 rw [if_pos hw]
 unfold Oper.wp
 rw [hx]
 exact hK _ _ h
def Sl (w:World) (a:Option Addr) (B:List Int):Prop:=B=[]∨∃ p o,a=some ⟨p,o,none⟩∧At w p o B
theorem Sl.text {w:World} {a:Option Addr} {B:List Int} (h:Sl w a B) (n c:Nat) (hn:B.length=n):(convert 49 9 (.slice a n c)).run Try.prog w=.ok (.string (strOfNums B)) w:=by
 subst hn
 rcases h with rfl | ⟨p,o,rfl,h2⟩
 ·rw [run_convert_bytes_string w 49 9 5 _ _ c Try.underlying49 Try.underlying5 Try.underlying9]
  cases a <;> simp [Conv.bytesToString,loadCells]
  all_goals rfl
 ·exact run_convert_bytes_arg (P:=Try.prog) w 49 5 Try.underlying49 Try.underlying5 p o _ c B rfl (fun i hi=>h2 i hi) 9 Try.underlying9
theorem Bl.left {w v:World} {L M:List Blk} (h:Bl w (L++M) v):Bl w L v:=⟨h.gr,fun x hx=>h.at_ x (List.mem_append_left _ hx),(List.pairwise_append.1 h.ne).1⟩
theorem own:ownKnob Try.prog.godebug=none:=by kernel_rfl
theorem Bl.add {w v:World} {L:List Blk} (h:Bl w L v) (x:Blk) (hx:v.heap[x.g]?=some x.obj) (hw:w.heap.size≤x.g) (hn:∀ y ∈ L,y.g≠x.g):Bl w (L++[x]) v:=by
 refine ⟨h.gr,fun y hy=>?_,List.pairwise_append.2 ⟨h.ne,List.pairwise_singleton _ _,fun y hy z hz=>?_⟩⟩
 ·rcases List.mem_append.1 hy with hy | hy
  ·exact h.at_ y hy
  ·rw [List.mem_singleton] at hy
   subst hy
   exact ⟨hx,hw⟩
 ·rw [List.mem_singleton] at hz
  subst hz
  exact hn y hy
def bv (b:List Int):List Value:=b.map (Value.int .u8)
structure Ls (k:Nat) (w:World) (a:Option Addr) (n c:Nat) (R:List (List Value)):Prop where
 len:R.length=n
 row:∀ r ∈ R,r.length=k
 sl:R=[]∨∃ p o,a=some ⟨p,o,none⟩∧w.rangeAt p o R.flatten
 cap:n≤c
 max:c<9223372036854775808
 low:∀ p,a.map (·.block)=some p→p<w.heap.size
theorem range_gr {w v:World} {p o:Nat} {L:List Value} (h:w.rangeAt p o L) (g:Gr w v):v.rangeAt p o L:=fun j x hj=>g.cell (h j x hj)
theorem range_bt {g:Nat} {w v:World} {p o:Nat} {L:List Value} (h:w.rangeAt p o L) (k:Bt g w v) (hp:p≠g):v.rangeAt p o L:=fun j x hj=>k.cell (h j x hj) hp
theorem flat_row:∀ (R:List (List Value)) (k:Nat),(∀ r ∈ R,r.length=k)→∀ (i j:Nat),i<R.length→j<k→R.flatten[k * i+j]?=(R.getD i [])[j]?
 | [],_,_,i,_,hi,_=>absurd hi (Nat.not_lt_zero i)
 | r::R,k,h,0,j,_,hj=>by
  have hr:=h r List.mem_cons_self
  rw [List.flatten_cons,Nat.mul_zero,Nat.zero_add,List.getElem?_append_left (by omega)]
  rfl
 | r::R,k,h,i+1,j,hi,hj=>by
  have hr:=h r List.mem_cons_self
  have ih:=flat_row R k (fun x hx=>h x (List.mem_cons_of_mem _ hx)) i j (by simpa using hi) hj
  rw [List.flatten_cons,List.getElem?_append_right (by rw [hr,Nat.mul_succ]; omega),hr,show k * (i+1)+j - k=k * i+j from by rw [Nat.mul_succ]; omega,ih]
  rfl
def blkOf (a:Option Addr):Option Nat:=a.map (·.block)
def Or_ (k:Nat) (e:TypeId) (b:Nat) (w:World) (v:Value) (R:List (List Value)):Prop:=(∀ r ∈ R,r.length=k)∧w.ownsRow b e k v R.length R.flatten
theorem flat_len:∀ (R:List (List Value)) (k:Nat),(∀ r ∈ R,r.length=k)→R.flatten.length=R.length * k
 | [],_,_=>by simp
 | r::R,k,h=>by
  have h1:=h r List.mem_cons_self
  have ih:=flat_len R k (fun x hx=>h x (List.mem_cons_of_mem _ hx))
  rw [List.flatten_cons,List.length_append,ih,h1,List.length_cons,Nat.add_mul]
  omega
theorem ownsRow_gr {k:Nat} {e:TypeId} {b:Nat} {w u:World} {v:Value} {n:Nat} {xs:List Value} (h:w.ownsRow b e k v n xs) (g:Gr w u):u.ownsRow b e k v n xs:=by
 obtain ⟨h1,h2 | ⟨p,cap,cur,h2,h3,h4,h5⟩⟩:=h
 ·exact ⟨h1,.inl h2⟩
 ·exact ⟨h1,.inr ⟨p,cap,cur,h2,h3,g.blk h4,h5⟩⟩
theorem Or_.gr {k:Nat} {e:TypeId} {b:Nat} {w u:World} {v:Value} {R:List (List Value)} (h:Or_ k e b w v R) (g:Gr w u):Or_ k e b u v R:=⟨h.1,ownsRow_gr h.2 g⟩
theorem Or_.ls {k:Nat} {e:TypeId} {b:Nat} {w:World} {v:Value} {R:List (List Value)} (h:Or_ k e b w v R):∃ a c,v=.slice a R.length c∧Ls k w a R.length c R:=by
 rcases h.2.2 with ⟨h1,h2⟩ | ⟨g,cap,cur,h1,h2,h3,h4,h5,h6,h7⟩
 ·have e:R=[]:=List.eq_nil_of_length_eq_zero h2
  subst e
  exact ⟨none,0,h1,rfl,(fun r hr=>by cases hr),.inl rfl,Nat.le_refl _,by omega,(fun p e=>by cases e)⟩
 ·refine ⟨_,cap,h1,rfl,h.1,.inr ⟨g,0,rfl,fun j x hj=>?_⟩,h4,by unfold maxLen at h5; omega,fun p e=>by have e3:=Option.some.inj e; rw [← e3]; exact lt_of_block h3⟩
  rw [Nat.zero_add]
  refine cell_of h3 ?_
  rw [← Array.getElem?_toList]
  have hjl:=(List.getElem?_eq_some_iff.1 hj).1
  rw [h.2.1] at hjl
  rw [← h7,List.getElem?_take,if_pos hjl] at hj
  exact hj
theorem grown_owned {k:Nat} {e:TypeId} {b:Nat} {w u u':World} {v:Value} {n:Nat} {xs:List Value} (h:u.ownsRow b e k v n xs) (hb:w.heap.size≤b) (g:Gr w u) (k:u.grownBy u' v.ownBlock):Gr w u':=by
 refine ⟨k.os.trans g.os,k.tape.trans g.tape,k.output.trans g.output,Nat.le_trans g.size k.size,fun i hi=>(k.block i (Nat.lt_of_lt_of_le hi g.size) ?_).trans (g.block i hi)⟩
 intro e
 have:=(World.ownsRow.lt h i e.symm).1
 omega
def Cov (C L:List Value):Prop:=∀ (q:Nat) (x:Value),L[q]?=some x→C[q]?=some x
theorem Or_.some {k:Nat} {e:TypeId} {b:Nat} {w:World} {v:Value} {R:List (List Value)} (h:Or_ k e b w v R) (hne:R≠[]):∃ g c C,v=.slice (some ⟨g,0,none⟩) R.length c∧b≤g∧w.heap[g]?=some (.cells (C:List Value).toArray e (0,0))∧R.length≤c∧c≤maxLen∧C.length=c * k∧Cov C R.flatten:=by
 rcases h.2.2 with ⟨h1,h2⟩ | ⟨g,cap,cur,h1,h2,h3,h4,h5,h6,h7⟩
 ·exact absurd (List.eq_nil_of_length_eq_zero h2) hne
 ·refine ⟨g,cap,cur.toList,h1,h2,by simpa using h3,h4,h5,by simpa using h6,fun q x hq=>?_⟩
  have hql:=(List.getElem?_eq_some_iff.1 hq).1
  rw [h.2.1] at hql
  rw [← h7,List.getElem?_take,if_pos hql] at hq
  exact hq
theorem Bl.grownR {w v v':World} {L:List Blk} (h:Bl w L v) {k:Nat} {e:TypeId} {b:Nat} {x:Value} {R:List (List Value)} (ho:Or_ k e b v x R) (hb:w.heap.size≤b) (g:v.grownBy v' x.ownBlock) (ht:∀ y ∈ L,y.t≠e):Bl w L v':=by
 refine ⟨grown_owned ho.2 hb h.gr g,fun y hy=>⟨?_,(h.at_ y hy).2⟩,h.ne⟩
 have h1:=(h.at_ y hy).1
 rw [g.block y.g (lt_of_block h1) ?_]
 ·exact h1
 ·intro e2
  rcases ho.2.2 with ⟨rfl,_⟩ | ⟨p,cap,cur,rfl,_,h4,_⟩
  ·simp [Value.ownBlock] at e2
  ·have e3:y.g=p:=by simpa [Value.ownBlock] using e2
   rw [e3,h4] at h1
   have:=Option.some.inj h1
   unfold Blk.obj at this
   injection this with _ h6 _
   exact ht y hy h6.symm
def bare (w:World):World:={ w with heap:=#[] }
theorem ty_ne {v:World} {a b:Nat} {c d:Array Value} {s t:TypeId} (ha:v.heap[a]?=some (.cells c s (0,0))) (hb:v.heap[b]?=some (.cells d t (0,0))) (hn:s≠t):a≠b:=by
 rintro rfl
 rw [ha] at hb
 have:=Option.some.inj hb
 injection this with _ h6 _
 exact hn h6
theorem or_blk_lt {k:Nat} {e:TypeId} {b:Nat} {w:World} {a:Option Addr} {n c:Nat} {R:List (List Value)} (h:Or_ k e b w (.slice a n c) R) {i:Nat} (hi:blkOf a=some i):∃ cur,w.heap[i]?=some (.cells cur e (0,0)):=by
 rcases h.2.2 with ⟨h1,_⟩ | ⟨g,cap,cur,h1,_,h3,_⟩
 ·injection h1 with h1 _ _
  rw [h1] at hi
  cases hi
 ·injection h1 with h1 _ _
  rw [h1] at hi
  have:g=i:=by simpa [blkOf] using hi
  subst this
  exact ⟨cur,h3⟩
theorem or_keep {k:Nat} {e:TypeId} {b:Nat} {w u:World} {a:Option Addr} {n c:Nat} {R:List (List Value)} (h:Or_ k e b w (.slice a n c) R) (hk:∀ i,blkOf a=some i→u.heap[i]?=w.heap[i]?):Or_ k e b u (.slice a n c) R:=by
 refine ⟨h.1,h.2.1,?_⟩
 rcases h.2.2 with ⟨h1,h2⟩ | ⟨g,cap,cur,h1,h2,h3,h4⟩
 ·exact .inl ⟨h1,h2⟩
 ·refine .inr ⟨g,cap,cur,h1,h2,?_,h4⟩
  injection h1 with h1 _ _
  rw [hk g (by rw [h1]; rfl)]
  exact h3
def Vl (v:Value) (w:World) (r:Ending) (w':World):Prop:=r=.returned v∧Gr w w'
theorem or_base {k:Nat} {e:TypeId} {b c:Nat} {w:World} {v:Value} {R:List (List Value)} (h:Or_ k e b w v R) (hc:c≤b):Or_ k e c w v R:=by
 refine ⟨h.1,h.2.1,?_⟩
 rcases h.2.2 with h1 | ⟨g,cap,cur,h1,h2,h3⟩
 ·exact .inl h1
 ·exact .inr ⟨g,cap,cur,h1,Nat.le_trans hc h2,h3⟩
theorem or_bt {k:Nat} {e:TypeId} {b:Nat} {u u':World} {v:Value} {R:List (List Value)} (h:Or_ k e b u v R) {g:Nat} {c:Array Value} {t:TypeId} (hg:u.heap[g]?=some (.cells c t (0,0))) (ht:t≠e) (hk:Bt g u u'):Or_ k e b u' v R:=by
 refine ⟨h.1,h.2.1,?_⟩
 rcases h.2.2 with h1 | ⟨p,cap,cur,h1,h2,h3,h4⟩
 ·exact .inl h1
 ·exact .inr ⟨p,cap,cur,h1,h2,hk.blk h3 (ty_ne h3 hg (Ne.symm ht)),h4⟩
theorem add_some (p o k:Nat):(⟨p,o,none⟩:Addr).add k=⟨p,o+k,none⟩:=by
 rcases Nat.eq_zero_or_pos k with h0 | h0
 ·subst h0; rfl
 ·simp [Addr.add]; omega
end Go.Proofs.Ytcefkkoombmndab
namespace Go.Proofs.Ytcefkkoombmndab
open Go.RowKit
set_option maxRecDepth 100000
set_option linter.unusedSimpArgs false
set_option linter.unusedVariables false
def hdl (K:List Int) (p q:Int):List Value:=bv K++[.int .u32 p,.int .u32 q]
theorem fold_mid (off:Nat):∀ (vs A M D:List Value) (k:Nat),A.length=off+k→vs.length=M.length→(vs.zipIdx k).foldl (fun cs x=>cs.setIfInBounds (off+x.2) x.1) (A++(M++D)).toArray=(A++(vs++D)).toArray
 | [],A,[],D,_,_,_=>by simp
 | [],_,_::_,_,_,_,h=>by simp at h
 | _::_,_,[],_,_,_,h=>by simp at h
 | v::vs,A,m::M,D,k,hA,h=>by
  rw [List.zipIdx_cons,List.foldl_cons]
  have e:(A++(m::M++D)).toArray.setIfInBounds (off+k) v=((A++[v])++(M++D)).toArray:=by
   rw [List.setIfInBounds_toArray,← hA]
   simp
  show List.foldl _ ((A++(m::M++D)).toArray.setIfInBounds (off+k) v) _=_
  rw [e,fold_mid off vs (A++[v]) M D (k+1) (by simp [hA]; omega) (by simpa using h)]
  simp
theorem setRow_bt (w:World) (g:Nat) (c:Array Value):Bt g w (w.setRow g c):=⟨rfl,rfl,rfl,by rw [setRow_size]; exact Nat.le_refl _,fun i _ hn=>setRow_other w g i c hn⟩
end Go.Proofs.Ytcefkkoombmndab
namespace Go.Proofs.Ytcefkkoombmndab
open Go.RowKit
set_option maxRecDepth 100000
set_option linter.unusedSimpArgs false
set_option linter.unusedVariables false
def bw (b:List Int):List Value:=b.map (Value.int .u8)
theorem bw_len (b:List Int):(bw b).length=b.length:=by unfold bw; simp
theorem bw_one (b:List Int):(bw b).toArray.all (·.oneCell')=true:=by unfold bw; simp [Value.oneCell']
def fl (S:List (List Value)):Array Value:=S.flatten.toArray
theorem fl_split {S:List (List Value)} {i:Nat} {s:List Value} (h:S[i]?=some s):S.flatten=(S.take i).flatten++(s++(S.drop (i+1)).flatten):=by
 have e:S=S.take i++(s::S.drop (i+1)):=by
  have h1:i<S.length:=(List.getElem?_eq_some_iff.1 h).1
  have h2:=(List.getElem?_eq_some_iff.1 h).2
  rw [← h2,← List.drop_eq_getElem_cons h1,List.take_append_drop]
 conv=>lhs; rw [e]
 simp
theorem plen:∀ (S:List (List Value)) (N:List Nat),S.map List.length=N→∀ i,(S.take i).flatten.length=(N.take i).sum
 | [],N,h,i=>by subst h; simp
 | s::S,N,h,0=>by simp
 | s::S,N,h,i+1=>by
  subst h
  simp only [List.take_succ_cons,List.flatten_cons,List.length_append,List.map_cons,List.sum_cons]
  rw [plen S _ rfl i]
theorem fl_size {S:List (List Value)} {N:List Nat} (h:S.map List.length=N):(fl S).size=N.sum:=by
 have h1:=plen S N h S.length
 rw [List.take_length] at h1
 have:N.take S.length=N:=List.take_of_length_le (by rw [← h]; simp)
 rw [this] at h1
 unfold fl
 simpa using h1
theorem seg_range {S:List (List Value)} {N:List Nat} (hN:S.map List.length=N) {w:World} {g:Nat} {t:TypeId} (h:w.heap[g]?=some (.cells (fl S) t (0,0))) (i:Nat) {s:List Value} (hi:S[i]?=some s) {o:Nat} (ho:(N.take i).sum=o):w.rangeAt g o s:=fun j x hj=>by
 refine cell_of h ?_
 have hlt:=(List.getElem?_eq_some_iff.1 hj).1
 have hp:=plen S N hN i
 unfold fl
 rw [List.getElem?_toArray,fl_split hi,List.getElem?_append_right (by omega),List.getElem?_append_left (by omega),← hj]
 congr 1
 omega
theorem seg_cell {S:List (List Value)} {N:List Nat} (hN:S.map List.length=N) {w:World} {g:Nat} {t:TypeId} (h:w.heap[g]?=some (.cells (fl S) t (0,0))) (i:Nat) {v:Value} (hi:S[i]?=some [v]) {o:Nat} (ho:(N.take i).sum=o):w.cell? ⟨g,o,none⟩=some v :=
 seg_range hN h i hi ho 0 v rfl
theorem exec_sw {op:Oper} {a:Act} (w:World) (ty:TypeId) (x:Operand) (ho:op.op=.load ty x) (g:Nat) (hx:a.eval x=.pointer (some ⟨g,0,none⟩)) {S:List (List Value)} {t:TypeId} (h:w.heap[g]?=some (.cells (fl S) t (0,0))) (N:List Nat) (hN:S.map List.length=N) {d:TypeDesc} (hu:Try.prog.underlying ty=some d) (hd:d.isRow=true) (hi:(Try.prog.info? ty).map (·.size)=some N.sum) :
  (execOp a.eval op).run Try.prog w=.ok (.value (.agg (fl S))) w :=
 exec_arr w ty x ho g hx (fl S) t d h hu hd (by rw [hi,fl_size hN])
theorem exec_cb {op:Oper} {a:Act} (w:World) (x:Operand) (ho:op.op=.load 4 x) (g i:Nat) (hx:a.eval x=.pointer (some ⟨g,i,none⟩)) (v:Bool) (hc:w.cell? ⟨g,i,none⟩=some (.bool v)):(execOp a.eval op).run Try.prog w=.ok (.value (.bool v)) w:=by
 unfold execOp
 simp only [ho,hx,Instr.loadAt,Instr.sureAddr,Sem.run_bind,Sem.run_pure,Result.andThen_ok]
 go_simp
theorem seg_set {S:List (List Value)} {N:List Nat} (hN:S.map List.length=N) (i:Nat) (vs:List Value) (hi:N[i]?=some vs.length):sp S.flatten (N.take i).sum vs=(S.set i vs).flatten:=by
 have hl:i<S.length:=by
  have:=(List.getElem?_eq_some_iff.1 hi).1
  rw [← hN] at this
  simpa using this
 have hs:S[i]?=some S[i]:=List.getElem?_eq_getElem hl
 have hvl:vs.length=(S[i]).length:=by
  have h1:=congrArg (·[i]?) hN
  simp only [List.getElem?_map,hs,hi,Option.map_some,Option.some.injEq] at h1
  exact h1.symm
 have hp:=plen S N hN i
 rw [fl_split hs,← hp,sp_mid _ _ _ _ hvl]
 have h2:(S.set i vs)[i]?=some vs:=by rw [List.getElem?_set_self hl]
 rw [fl_split h2,List.take_set_of_le (Nat.le_refl _),List.drop_set_of_lt (Nat.lt_succ_self _)]
theorem Bl.cells {w v:World} {L:List Blk} (h:Bl w L v) (b:Nat) {g:Nat} {C:List Value} {t:TypeId} (hb:L[b]?=some ⟨g,C.toArray,t⟩) (o:Nat) (vs:List Value):Bl w (L.set b ⟨g,(sp C o vs).toArray,t⟩) (v.setCells g o vs) :=
 h.but (setCells_bt vs v g o) b hb rfl (setCells_heap vs v g o C t (h.get b hb))
theorem exec_c32 {op:Oper} {a:Act} (w:World) (x:Operand) (ho:op.op=.load 22 x) (g i:Nat) (hx:a.eval x=.pointer (some ⟨g,i,none⟩)) (v:Int) (hc:w.cell? ⟨g,i,none⟩=some (.int .u32 v)):(execOp a.eval op).run Try.prog w=.ok (.value (.int .u32 v)) w:=by
 unfold execOp
 simp only [ho,hx,Instr.loadAt,Instr.sureAddr,Sem.run_bind,Sem.run_pure,Result.andThen_ok]
 go_simp
theorem exec_ci {op:Oper} {a:Act} (w:World) (x:Operand) (ho:op.op=.load 3 x) (g i:Nat) (hx:a.eval x=.pointer (some ⟨g,i,none⟩)) (v:Int) (hc:w.cell? ⟨g,i,none⟩=some (.int .i64 v)):(execOp a.eval op).run Try.prog w=.ok (.value (.int .i64 v)) w:=by
 unfold execOp
 simp only [ho,hx,Instr.loadAt,Instr.sureAddr,Sem.run_bind,Sem.run_pure,Result.andThen_ok]
 go_simp
theorem exec_csO {op:Oper} {a:Act} (w:World) (x:Operand) (ho:op.op=.load 23 x) (g i:Nat) (hx:a.eval x=.pointer (some ⟨g,i,none⟩)) (p:Option Addr) (n c:Nat) (hc:w.cell? ⟨g,i,none⟩=some (.slice p n c)):(execOp a.eval op).run Try.prog w=.ok (.value (.slice p n c)) w:=by
 unfold execOp
 simp only [ho,hx,Instr.loadAt,Instr.sureAddr,Sem.run_bind,Sem.run_pure,Result.andThen_ok]
 go_simp
theorem exec_csI {op:Oper} {a:Act} (w:World) (x:Operand) (ho:op.op=.load 24 x) (g i:Nat) (hx:a.eval x=.pointer (some ⟨g,i,none⟩)) (p:Option Addr) (n c:Nat) (hc:w.cell? ⟨g,i,none⟩=some (.slice p n c)):(execOp a.eval op).run Try.prog w=.ok (.value (.slice p n c)) w:=by
 unfold execOp
 simp only [ho,hx,Instr.loadAt,Instr.sureAddr,Sem.run_bind,Sem.run_pure,Result.andThen_ok]
 go_simp
theorem exec_cst {op:Oper} {a:Act} (w:World) (x:Operand) (ho:op.op=.load 9 x) (g i:Nat) (hx:a.eval x=.pointer (some ⟨g,i,none⟩)) (v:ByteArray) (hc:w.cell? ⟨g,i,none⟩=some (.string v)):(execOp a.eval op).run Try.prog w=.ok (.value (.string v)) w:=by
 unfold execOp
 simp only [ho,hx,Instr.loadAt,Instr.sureAddr,Sem.run_bind,Sem.run_pure,Result.andThen_ok]
 go_simp
theorem exec_cu8 {op:Oper} {a:Act} (w:World) (x:Operand) (ho:op.op=.load 5 x) (g i:Nat) (hx:a.eval x=.pointer (some ⟨g,i,none⟩)) (v:Int) (hc:w.cell? ⟨g,i,none⟩=some (.int .u8 v)):(execOp a.eval op).run Try.prog w=.ok (.value (.int .u8 v)) w:=by
 unfold execOp
 simp only [ho,hx,Instr.loadAt,Instr.sureAddr,Sem.run_bind,Sem.run_pure,Result.andThen_ok]
 go_simp
section
variable {N:List Nat} {ops:Array Oper} {Q:Exit→Act→World→Prop} {a:Act} {w w0:World} {o:Oper} {rest:List Oper} {L:List Blk} {S:List (List Value)} {t:TypeId} {K:Act→World→Prop}
theorem step_seg (ty:TypeId) (x y:Operand) (g off:Nat) (vs:List Value) (hw:Region.wanted o (yielded ops a.tmps)=true) (ho:o.op=.store ty x y)
  (hx:a.eval x=.pointer (some ⟨g,off,none⟩)) (hy:a.eval y=.agg vs.toArray) (hB:Bl w0 L w) (b:Nat) (hb:L[b]?=some ⟨g,fl S,t⟩) (N:List Nat) (hN:S.map List.length=N) (i:Nat) (hi:N[i]?=some vs.length) (hof:(N.take i).sum=off)
  (hn:(Try.prog.info? ty).map (·.size)=some vs.length) (h1:vs.toArray.all (·.oneCell')=true)
  (h:∀ v,Bl w0 (L.set b ⟨g,fl (S.set i vs),t⟩) v→Bt g w v→K (a.put o.dst undef) v):if Region.wanted o (yielded ops a.tmps)=true then Oper.wp Try.prog o a w K Q else K (a.put o.dst undef) w:=by
 have hB2:=hB.cells b (C:=S.flatten) hb off vs
 rw [← hof,seg_set hN i vs hi] at hB2
 have hl:i<N.length:=(List.getElem?_eq_some_iff.1 hi).1
 have hle:off+vs.length≤S.flatten.length:=by
  have e1:=fl_size hN
  have e2:(N.take (i+1)).sum=(N.take i).sum+vs.length:=by
   rw [List.take_add_one,hi]; simp
  have e3:(N.take (i+1)).sum≤N.sum:=by
   conv=>rhs; rw [← List.take_append_drop (i+1) N,List.sum_append]
   omega
  have e4:(fl S).size=S.flatten.length:=by unfold fl; simp
  omega
 refine list_store_mid ty x y g off vs.toArray hw ho hx hy (there_of (hB.get b hb) (by simpa using hle)) (by rw [hn]; simp) h1 ?_
 exact (h _ (by rw [← hof]; exact hB2) (setCells_bt _ _ _ _))
theorem seg_left (hN:S.map List.length=N) (i:Nat) {v:Value} (hi:S[i]?=some [v]) {off:Nat} (hof:(N.take i).sum=off) (hB:Bl w0 L w) (b:Nat) {g:Nat} (hb:L[b]?=some ⟨g,fl S,t⟩) (y:Value):Bl w0 (L.set b ⟨g,fl (S.set i [y]),t⟩) (w.setCell ⟨g,off,none⟩ y):=by
 have hB2:=hB.cells b (C:=S.flatten) hb off [y]
 have hl:N[i]?=some [y].length:=by
  rw [← hN,List.getElem?_map,hi]; rfl
 rw [← hof,seg_set hN i [y] hl,hof] at hB2
 exact hB2
theorem step_c32 (x y:Operand) (g off:Nat) (v:Int) (hw:Region.wanted o (yielded ops a.tmps)=true) (ho:o.op=.store 22 x y)
  (hx:a.eval x=.pointer (some ⟨g,off,none⟩)) (hy:a.eval y=.int .u32 v) (hB:Bl w0 L w) (b:Nat) (hb:L[b]?=some ⟨g,fl S,t⟩) (N:List Nat) (hN:S.map List.length=N) (i:Nat) (q:Value) (hi:S[i]?=some [q]) (hof:(N.take i).sum=off)
  (h:∀ v_,Bl w0 (L.set b ⟨g,fl (S.set i [.int .u32 v]),t⟩) v_→Bt g w v_→K (a.put o.dst undef) v_):if Region.wanted o (yielded ops a.tmps)=true then Oper.wp Try.prog o a w K Q else K (a.put o.dst undef) w:=by
 have h2:=h _ (seg_left hN i hi hof hB b hb (.int .u32 v)) (setCells_bt [.int .u32 v] w g off)
 have c4:=seg_cell hN (hB.get b hb) i hi hof
 have fz:=froz_of (i:=off) (hB.get b hb)
 dsimp only at c4 fz
 rw [if_pos hw]
 unfold Oper.wp execOp
 simp only [ho,hx,hy]
 go_simp
 exact h2
theorem list_c32 (x y:Operand) (g off:Nat) (v:Int) (hw:Region.wanted o (yielded ops a.tmps)=true) (ho:o.op=.store 22 x y)
  (hx:a.eval x=.pointer (some ⟨g,off,none⟩)) (hy:a.eval y=.int .u32 v) (hB:Bl w0 L w) (b:Nat) (hb:L[b]?=some ⟨g,fl S,t⟩) (N:List Nat) (hN:S.map List.length=N) (i:Nat) (q:Value) (hi:S[i]?=some [q]) (hof:(N.take i).sum=off)
  (h:∀ v_,Bl w0 (L.set b ⟨g,fl (S.set i [.int .u32 v]),t⟩) v_→Bt g w v_→wpList Try.prog ops Q rest (a.put o.dst undef) v_):wpList Try.prog ops Q (o::rest) a w :=
 wpList_step fun K hK=>step_c32 x y g off v hw ho hx hy hB b hb N hN i q hi hof fun v_ hv hb=>hK _ _ (h v_ hv hb)
theorem step_ci (x y:Operand) (g off:Nat) (v:Int) (hw:Region.wanted o (yielded ops a.tmps)=true) (ho:o.op=.store 3 x y)
  (hx:a.eval x=.pointer (some ⟨g,off,none⟩)) (hy:a.eval y=.int .i64 v) (hB:Bl w0 L w) (b:Nat) (hb:L[b]?=some ⟨g,fl S,t⟩) (N:List Nat) (hN:S.map List.length=N) (i:Nat) (q:Value) (hi:S[i]?=some [q]) (hof:(N.take i).sum=off)
  (h:∀ v_,Bl w0 (L.set b ⟨g,fl (S.set i [.int .i64 v]),t⟩) v_→Bt g w v_→K (a.put o.dst undef) v_):if Region.wanted o (yielded ops a.tmps)=true then Oper.wp Try.prog o a w K Q else K (a.put o.dst undef) w:=by
 have h2:=h _ (seg_left hN i hi hof hB b hb (.int .i64 v)) (setCells_bt [.int .i64 v] w g off)
 have c4:=seg_cell hN (hB.get b hb) i hi hof
 have fz:=froz_of (i:=off) (hB.get b hb)
 dsimp only at c4 fz
 rw [if_pos hw]
 unfold Oper.wp execOp
 simp only [ho,hx,hy]
 go_simp
 exact h2
theorem list_ci (x y:Operand) (g off:Nat) (v:Int) (hw:Region.wanted o (yielded ops a.tmps)=true) (ho:o.op=.store 3 x y)
  (hx:a.eval x=.pointer (some ⟨g,off,none⟩)) (hy:a.eval y=.int .i64 v) (hB:Bl w0 L w) (b:Nat) (hb:L[b]?=some ⟨g,fl S,t⟩) (N:List Nat) (hN:S.map List.length=N) (i:Nat) (q:Value) (hi:S[i]?=some [q]) (hof:(N.take i).sum=off)
  (h:∀ v_,Bl w0 (L.set b ⟨g,fl (S.set i [.int .i64 v]),t⟩) v_→Bt g w v_→wpList Try.prog ops Q rest (a.put o.dst undef) v_):wpList Try.prog ops Q (o::rest) a w :=
 wpList_step fun K hK=>step_ci x y g off v hw ho hx hy hB b hb N hN i q hi hof fun v_ hv hb=>hK _ _ (h v_ hv hb)
theorem step_csO (x y:Operand) (g off:Nat) (p:Option Addr) (n c:Nat) (hw:Region.wanted o (yielded ops a.tmps)=true) (ho:o.op=.store 23 x y)
  (hx:a.eval x=.pointer (some ⟨g,off,none⟩)) (hy:a.eval y=.slice p n c) (hB:Bl w0 L w) (b:Nat) (hb:L[b]?=some ⟨g,fl S,t⟩) (N:List Nat) (hN:S.map List.length=N) (i:Nat) (q:Value) (hi:S[i]?=some [q]) (hof:(N.take i).sum=off)
  (h:∀ v_,Bl w0 (L.set b ⟨g,fl (S.set i [.slice p n c]),t⟩) v_→Bt g w v_→K (a.put o.dst undef) v_):if Region.wanted o (yielded ops a.tmps)=true then Oper.wp Try.prog o a w K Q else K (a.put o.dst undef) w:=by
 have h2:=h _ (seg_left hN i hi hof hB b hb (.slice p n c)) (setCells_bt [.slice p n c] w g off)
 have c4:=seg_cell hN (hB.get b hb) i hi hof
 have fz:=froz_of (i:=off) (hB.get b hb)
 dsimp only at c4 fz
 rw [if_pos hw]
 unfold Oper.wp execOp
 simp only [ho,hx,hy]
 go_simp
 exact h2
theorem list_csO (x y:Operand) (g off:Nat) (p:Option Addr) (n c:Nat) (hw:Region.wanted o (yielded ops a.tmps)=true) (ho:o.op=.store 23 x y)
  (hx:a.eval x=.pointer (some ⟨g,off,none⟩)) (hy:a.eval y=.slice p n c) (hB:Bl w0 L w) (b:Nat) (hb:L[b]?=some ⟨g,fl S,t⟩) (N:List Nat) (hN:S.map List.length=N) (i:Nat) (q:Value) (hi:S[i]?=some [q]) (hof:(N.take i).sum=off)
  (h:∀ v_,Bl w0 (L.set b ⟨g,fl (S.set i [.slice p n c]),t⟩) v_→Bt g w v_→wpList Try.prog ops Q rest (a.put o.dst undef) v_):wpList Try.prog ops Q (o::rest) a w :=
 wpList_step fun K hK=>step_csO x y g off p n c hw ho hx hy hB b hb N hN i q hi hof fun v_ hv hb=>hK _ _ (h v_ hv hb)
theorem step_csI (x y:Operand) (g off:Nat) (p:Option Addr) (n c:Nat) (hw:Region.wanted o (yielded ops a.tmps)=true) (ho:o.op=.store 24 x y)
  (hx:a.eval x=.pointer (some ⟨g,off,none⟩)) (hy:a.eval y=.slice p n c) (hB:Bl w0 L w) (b:Nat) (hb:L[b]?=some ⟨g,fl S,t⟩) (N:List Nat) (hN:S.map List.length=N) (i:Nat) (q:Value) (hi:S[i]?=some [q]) (hof:(N.take i).sum=off)
  (h:∀ v_,Bl w0 (L.set b ⟨g,fl (S.set i [.slice p n c]),t⟩) v_→Bt g w v_→K (a.put o.dst undef) v_):if Region.wanted o (yielded ops a.tmps)=true then Oper.wp Try.prog o a w K Q else K (a.put o.dst undef) w:=by
 have h2:=h _ (seg_left hN i hi hof hB b hb (.slice p n c)) (setCells_bt [.slice p n c] w g off)
 have c4:=seg_cell hN (hB.get b hb) i hi hof
 have fz:=froz_of (i:=off) (hB.get b hb)
 dsimp only at c4 fz
 rw [if_pos hw]
 unfold Oper.wp execOp
 simp only [ho,hx,hy]
 go_simp
 exact h2
theorem list_csI (x y:Operand) (g off:Nat) (p:Option Addr) (n c:Nat) (hw:Region.wanted o (yielded ops a.tmps)=true) (ho:o.op=.store 24 x y)
  (hx:a.eval x=.pointer (some ⟨g,off,none⟩)) (hy:a.eval y=.slice p n c) (hB:Bl w0 L w) (b:Nat) (hb:L[b]?=some ⟨g,fl S,t⟩) (N:List Nat) (hN:S.map List.length=N) (i:Nat) (q:Value) (hi:S[i]?=some [q]) (hof:(N.take i).sum=off)
  (h:∀ v_,Bl w0 (L.set b ⟨g,fl (S.set i [.slice p n c]),t⟩) v_→Bt g w v_→wpList Try.prog ops Q rest (a.put o.dst undef) v_):wpList Try.prog ops Q (o::rest) a w :=
 wpList_step fun K hK=>step_csI x y g off p n c hw ho hx hy hB b hb N hN i q hi hof fun v_ hv hb=>hK _ _ (h v_ hv hb)
end
theorem wpList_gen {P:Program} {ops:Array Oper} {Q:Exit→Act→World→Prop} {l:List Oper} {a:Act} {w:World} (h:∀ ops',ops'=ops→wpList P ops' Q l a w):wpList P ops Q l a w:=h ops rfl
theorem list_off {P:Program} {ops:Array Oper} {Q:Exit→Act→World→Prop} {a:Act} {w:World} {o:Oper} {rest:List Oper} (hw:Region.wanted o (yielded ops a.tmps)=false) (h:wpList P ops Q rest (a.put o.dst undef) w):wpList P ops Q (o::rest) a w:=by
 refine wpList_step fun K hK=>?_
 rw [if_neg (ne_true_of_eq_false hw)]
 exact hK _ _ h
theorem fill_seg {place:Nat→Option (Nat × Nat)} {S:List (List Value)} {N:List Nat} (hN:S.map List.length=N) {v:Value} {vs:List Value} (hv:v.cells=vs.toArray) (k i:Nat) (hp:place k=some ((N.take i).sum,vs.length)) (hi:N[i]?=some vs.length) (rest:List (Nat × Value)) :
  Instr.fill place (fl S) ((k,v)::rest)=Instr.fill place (fl (S.set i vs)) rest:=by
 have hl:i<S.length:=by
  have:=(List.getElem?_eq_some_iff.1 hi).1
  rw [← hN] at this
  simpa using this
 have hs:S[i]?=some S[i]:=List.getElem?_eq_getElem hl
 have hvl:vs.length=(S[i]).length:=by
  have h1:=congrArg (·[i]?) hN
  simp only [List.getElem?_map,hs,hi,Option.map_some,Option.some.injEq] at h1
  exact h1.symm
 have hp2:=plen S N hN i
 have e:=fold_mid ((N.take i).sum) vs (S.take i).flatten S[i] (S.drop (i+1)).flatten 0 (by omega) hvl
 have h2:(S.set i vs)[i]?=some vs:=by rw [List.getElem?_set_self hl]
 have e2:=fl_split h2
 rw [List.take_set_of_le (Nat.le_refl _),List.drop_set_of_lt (Nat.lt_succ_self _)] at e2
 rw [Instr.fill,hp,hv]
 simp only
 rw [if_neg]
 ·rw [show fl S=((S.take i).flatten++(S[i]++(S.drop (i+1)).flatten)).toArray from by unfold fl; rw [← fl_split hs]]
  have e3:(vs.toArray.zipIdx.foldl (fun cs (x:Value × Nat)=>cs.setIfInBounds ((N.take i).sum+x.2) x.1) ((S.take i).flatten++(S[i]++(S.drop (i+1)).flatten)).toArray)=(fl (S.set i vs)):=by
   unfold fl
   rw [e2,← e]
   simp
  rw [← e3]
 ·have e1:=fl_size hN
  have e4:(N.take (i+1)).sum=(N.take i).sum+vs.length:=by
   rw [List.take_add_one,hi]; simp
  have e5:(N.take (i+1)).sum≤N.sum:=by
   conv=>rhs; rw [← List.take_append_drop (i+1) N,List.sum_append]
   omega
  simp
  omega
theorem step_all {ops:Array Oper} {Q:Exit→Act→World→Prop} {a:Act} {w w0:World} {o:Oper} {L:List Blk} {S S2:List (List Value)} {t:TypeId} {K:Act→World→Prop} (ty:TypeId) (x y:Operand) (g:Nat) (hw:Region.wanted o (yielded ops a.tmps)=true) (ho:o.op=.store ty x y)
  (hx:a.eval x=.pointer (some ⟨g,0,none⟩)) (hy:a.eval y=.agg (fl S2)) (hB:Bl w0 L w) (b:Nat) (hb:L[b]?=some ⟨g,fl S,t⟩) (N:List Nat) (hN:S.map List.length=N) (hN2:S2.map List.length=N)
  (hn:(Try.prog.info? ty).map (·.size)=some N.sum) (h1:(fl S2).all (·.oneCell')=true)
  (h:∀ v,Bl w0 (L.set b ⟨g,fl S2,t⟩) v→Bt g w v→K (a.put o.dst undef) v):if Region.wanted o (yielded ops a.tmps)=true then Oper.wp Try.prog o a w K Q else K (a.put o.dst undef) w:=by
 have hg:=hB.get b hb
 rw [if_pos hw]
 refine wp_store_row ty x y ho g (fl S2) hx hy t (fl S) hg (by rw [hn,fl_size hN2]) (by rw [fl_size hN,fl_size hN2]) h1 ?_
 exact h _ (hB.set b hb (fl S2)) ⟨setRow_os _ _ _,rfl,rfl,by simp [World.setRow],fun i _ hi=>setRow_other _ _ _ _ hi⟩
theorem list_all {ops:Array Oper} {Q:Exit→Act→World→Prop} {a:Act} {w w0:World} {o:Oper} {rest:List Oper} {L:List Blk} {S S2:List (List Value)} {t:TypeId} (ty:TypeId) (x y:Operand) (g:Nat) (hw:Region.wanted o (yielded ops a.tmps)=true) (ho:o.op=.store ty x y)
  (hx:a.eval x=.pointer (some ⟨g,0,none⟩)) (hy:a.eval y=.agg (fl S2)) (hB:Bl w0 L w) (b:Nat) (hb:L[b]?=some ⟨g,fl S,t⟩) (N:List Nat) (hN:S.map List.length=N) (hN2:S2.map List.length=N)
  (hn:(Try.prog.info? ty).map (·.size)=some N.sum) (h1:(fl S2).all (·.oneCell')=true)
  (h:∀ v,Bl w0 (L.set b ⟨g,fl S2,t⟩) v→Bt g w v→wpList Try.prog ops Q rest (a.put o.dst undef) v):wpList Try.prog ops Q (o::rest) a w :=
 wpList_step fun K hK=>step_all ty x y g hw ho hx hy hB b hb N hN hN2 hn h1 fun v hv hb=>hK _ _ (h v hv hb)
def RvOk (P:Program) (tmps:Array Value) (w:World):ResultVar→Value→Prop
 | .cell p ty,v=>∃ a:Addr,tmps[p]?.getD undef=.pointer (some a)∧(loadVar ty a).run P w=.ok v w
 | .tmp q,v=>tmps[q]?.getD undef=v
theorem rv_cell {P:Program} {tmps:Array Value} {w:World} {p:Tmp} {ty t:TypeId} {g:Nat} {cs:Array Value} {d:TypeDesc} (hp:tmps.getD p undef=.pointer (some ⟨g,0,none⟩)) (hg:w.heap[g]?=some (.cells cs t (0,0))) (hu:P.underlying ty=some d) (hd:d.isRow=true) (hi:(P.info? ty).map (·.size)=some cs.size):RvOk P tmps w (.cell p ty) (.agg cs) :=
 ⟨_,by simpa using hp,run_loadVar_row w g t ty cs (0,0) d hg hu (by cases d <;> first | rfl | cases hd) hi⟩
theorem rv_tmp {P:Program} {tmps:Array Value} {w:World} {q:Tmp} {v:Value} (h:tmps.getD q undef=v):RvOk P tmps w (.tmp q) v:=by
 show tmps[q]?.getD undef=v
 simpa using h
theorem res1 {P:Program} {fn:Func} {p:Tmp} {ty:TypeId} {v:Value} {tmps:Array Value} {w:World} (h:fn.results=#[.cell p ty]) (h1:RvOk P tmps w (.cell p ty) v):(results fn tmps).run P w=.ok v w:=by
 obtain ⟨a,hp',hl⟩:=h1
 simp [results,h,hp',asAddr,hl]
theorem res2 {P:Program} {fn:Func} {r1 r2:ResultVar} {v1 v2:Value} {tmps:Array Value} {w:World} (h:fn.results=#[r1,r2]) (h1:RvOk P tmps w r1 v1) (h2:RvOk P tmps w r2 v2):(results fn tmps).run P w=.ok (.tuple #[v1,v2]) w:=by
 cases r1 <;> cases r2 <;> dsimp only [RvOk] at h1 h2 <;> (try obtain ⟨x1,e1,f1⟩:=h1) <;> (try obtain ⟨x2,e2,f2⟩:=h2) <;> simp [results,h,asAddr, *]
theorem res3 {P:Program} {fn:Func} {r1 r2 r3:ResultVar} {v1 v2 v3:Value} {tmps:Array Value} {w:World} (h:fn.results=#[r1,r2,r3]) (h1:RvOk P tmps w r1 v1) (h2:RvOk P tmps w r2 v2) (h3:RvOk P tmps w r3 v3):(results fn tmps).run P w=.ok (.tuple #[v1,v2,v3]) w:=by
 cases r1 <;> cases r2 <;> cases r3 <;> dsimp only [RvOk] at h1 h2 h3 <;> (try obtain ⟨x1,e1,f1⟩:=h1) <;> (try obtain ⟨x2,e2,f2⟩:=h2) <;> (try obtain ⟨x3,e3,f3⟩:=h3) <;> simp [results,h,asAddr, *]
structure Lz (k:Nat) (w:World) (a:Option Addr) (n c:Nat) (R:List (List Value)):Prop where
 len:R.length=n
 row:∀ r ∈ R,r.length=k
 sl:R=[]∨∃ p o,a=some ⟨p,o,none⟩∧w.rangeAt p o R.flatten
 cap:n≤c
 max:c<9223372036854775808
theorem Ls.lz {k:Nat} {w:World} {a:Option Addr} {n c:Nat} {R:List (List Value)} (h:Ls k w a n c R):Lz k w a n c R:=⟨h.len,h.row,h.sl,h.cap,h.max⟩
theorem Lz.gr {k:Nat} {w v:World} {a:Option Addr} {n c:Nat} {R:List (List Value)} (h:Lz k w a n c R) (g:Gr w v):Lz k v a n c R:=by
 refine ⟨h.len,h.row,?_,h.cap,h.max⟩
 rcases h.sl with h | ⟨p,o,h1,h2⟩
 ·exact .inl h
 ·exact .inr ⟨p,o,h1,range_gr h2 g⟩
theorem Lz.at_ {k:Nat} {w:World} {a:Option Addr} {n c:Nat} {R:List (List Value)} (h:Lz k w a n c R) (i:Nat) (hi:i<n):∃ p o,a=some ⟨p,o,none⟩∧w.rangeAt p (o+k * i) (R.getD i []):=by
 have hl:=h.len
 rcases h.sl with h0 | ⟨p,o,h1,h2⟩
 ·rw [h0] at hl
  simp at hl
  omega
 ·refine ⟨p,o,h1,fun j x hj=>?_⟩
  have hrl:(R.getD i []).length=k:=h.row _ (by
   have e:R.getD i []=R[i]'(by omega):=by simp [List.getD,show i<R.length by omega]
   rw [e]
   exact List.getElem_mem _)
  have hjk:j<k:=by
   have:=(List.getElem?_eq_some_iff.1 hj).1
   omega
  have h3:=flat_row R k h.row i j (by omega) hjk
  rw [hj] at h3
  have h4:=h2 (k * i+j) x h3
  rwa [← Nat.add_assoc] at h4
theorem Or_.lz {k:Nat} {e:TypeId} {b:Nat} {w:World} {v:Value} {R:List (List Value)} (h:Or_ k e b w v R):∃ a c,v=.slice a R.length c∧Lz k w a R.length c R:=by
 obtain ⟨a,c,h1,h2⟩:=h.ls
 exact ⟨a,c,h1,h2.lz⟩
structure Lw (t e:TypeId) (k n:Nat):Prop where
 ht:Try.prog.underlying t=some (.slice e)
 hi:∃ i z,Try.prog.info? e=some i∧i.zero=some z∧i.size=k∧i.bytes=n∧z.cells.size=k
 hk:0<k
theorem app_rows0W {t e:TypeId} {k nb:Nat} (L:Lw t e k nb) {w:World} {o:Oper} {a:Act} {K:Act→World→Prop} {Q:Exit→Act→World→Prop} (s x:Operand)
  (ho:o.op=.call { callee:=.builtin .append,args:=#[s,x],argTypes:=#[t,t] }) (b:Nat) (v:Value) (R:List (List Value)) (hs:a.eval s=v) (hown:Or_ k e b w v R)
  (sp:Option Addr) (n sc:Nat) (l:List (List Value)) (hx:a.eval x=.slice sp n sc) (hn:l.length=n) (hrow:∀ r ∈ l,r.length=k) (hsl:l=[]∨∃ p o,sp=some ⟨p,o,none⟩∧w.rangeAt p o l.flatten) (h1:∀ r ∈ l,∀ u ∈ r,u.oneCell'=true) (hbig:((R.length+n)+(R.length+n) / 4+192) * nb≤281474976710656∧R.length+n≤4611686018427387904) (hB:b≤w.heap.size)
  (h:∀ v' w',Or_ k e b w' v' (R++l)→w.grownBy w' v.ownBlock→K (a.put o.dst v') w'):o.wp Try.prog a w K Q:=by
 obtain ⟨i0,z0,hi,hz0,hz1,hz2,hz3⟩:=L.hi
 rcases hsl with rfl | ⟨p,q,rfl,hat⟩
 ·obtain rfl:0=n:=hn
  obtain ⟨a',c',rfl,hls⟩:=hown.ls
  have hc:=hls.cap
  have hrun:(Builtin.append_ #[t,t] o.type #[.slice a' R.length c',.slice sp 0 sc]).run Try.prog w=.ok (.slice a' R.length c') w:=by
   cases a' <;> cases sp <;> simp [Builtin.append_,run_underlying L.ht,sizeOf,typeInfo,hi,Builtin.lenOf,Builtin.firstCells,loadCells,loadCellsFrom,storeCells,hc]
  unfold Oper.wp
  simp [execOp,ho,resolve,invoke,builtin,hs,hx,hrun,Result.andThen]
  exact h _ _ (by rw [List.append_nil]; exact hown) (World.grownBy.refl _ _)
 ·have hfl:=flat_len l k hrow
  refine wp_append_own_wide w s x t ho b e i0 z0 k nb L.ht hi hz0 hz1 hz2 hz3 L.hk v R.length _ hs hown.2 ⟨p,q,none⟩ n sc l.flatten hx (by rw [hfl,hn]) ?_ ?_ (by unfold maxLen; omega) hbig.1 hB ?_
  ·intro j u hj
   rw [Addr.add_mid]
   exact hat j u hj
  ·intro u hu
   obtain ⟨r,hr,hu⟩:=List.mem_flatten.1 hu
   exact h1 r hr u hu
  ·intro v' w' h1 h2 _
   refine h v' w' ⟨?_,?_⟩ h2
   ·intro r hr
    rcases List.mem_append.1 hr with hr | hr
    ·exact hown.1 r hr
    ·exact hrow r hr
   ·rw [List.length_append,List.flatten_append,hn]
    exact h1
theorem app_rowsW {t e:TypeId} {k nb:Nat} (L:Lw t e k nb) {w:World} {o:Oper} {a:Act} {K:Act→World→Prop} {Q:Exit→Act→World→Prop} (s x:Operand)
  (ho:o.op=.call { callee:=.builtin .append,args:=#[s,x],argTypes:=#[t,t] }) (b:Nat) (v:Value) (R:List (List Value)) (hs:a.eval s=v) (hown:Or_ k e b w v R)
  (sp:Option Addr) (n sc:Nat) (l:List (List Value)) (hx:a.eval x=.slice sp n sc) (hl:Lz k w sp n sc l) (h1:∀ r ∈ l,∀ u ∈ r,u.oneCell'=true) (hbig:((R.length+n)+(R.length+n) / 4+192) * nb≤281474976710656∧R.length+n≤4611686018427387904) (hB:b≤w.heap.size)
  (h:∀ v' w',Or_ k e b w' v' (R++l)→w.grownBy w' v.ownBlock→K (a.put o.dst v') w'):o.wp Try.prog a w K Q :=
 app_rows0W L s x ho b v R hs hown sp n sc l hx hl.len hl.row hl.sl h1 hbig hB h
def Z105:List Int:=List.replicate 105 0
theorem Z105_len:Z105.length=105:=rfl
def NC:List Nat:=[1,1,1,1,1]
def NO:List Nat:=[1,105]
def NI:List Nat:=[1,1]
def NY:List Nat:=[105]
theorem nC (a b c d e:Value):[[a],[b],[c],[d],[e]].map List.length=NC:=rfl
theorem nO {B:List Int} (h:B.length=105) (a:Value):[[a],bw B].map List.length=NO:=by simp [bw_len,NO,h]
theorem nI (a b:Value):[[a],[b]].map List.length=NI:=rfl
theorem nY {B:List Int} (h:B.length=105):[bw B].map List.length=NY:=by simp [bw_len,NY,h]
theorem u8_one (x:Int):(Value.int .u8 x).oneCell'=true:=rfl
theorem oC {a b c d e:Value} (h1:a.oneCell'=true) (h2:b.oneCell'=true) (h3:c.oneCell'=true) (h4:d.oneCell'=true) (h5:e.oneCell'=true):(fl [[a],[b],[c],[d],[e]]).all (·.oneCell')=true:=by simp [fl,h1,h2,h3,h4,h5]
theorem oO (B:List Int) {a:Value} (h1:a.oneCell'=true):(fl [[a],bw B]).all (·.oneCell')=true:=by simp [fl,bw,u8_one,h1]
theorem oI {a b:Value} (h1:a.oneCell'=true) (h2:b.oneCell'=true):(fl [[a],[b]]).all (·.oneCell')=true:=by simp [fl,h1,h2]
structure Ot where
 n:Int
 B:List Int
 deriving DecidableEq
structure It where
 n:Int
 s:ByteArray
 deriving DecidableEq
def Ot.Ok (o:Ot):Prop:=(0≤o.n∧o.n<4294967296)∧o.B.length=105∧IsB o.B
def It.Ok (i:It):Prop:=(0≤i.n∧i.n<4294967296)∧i.s.size<9223372036854775808
def otr (o:Ot):List Value:=[[.int .u32 o.n],bw o.B].flatten
def itr (i:It):List Value:=[[.int .u32 i.n],[.string i.s]].flatten
theorem otr_len {o:Ot} (h:o.Ok):(otr o).length=106:=by unfold otr; simp [bw_len,h.2.1]
theorem itr_len (i:It):(itr i).length=2:=rfl
theorem otr_one (o:Ot):∀ u ∈ otr o,u.oneCell'=true:=by
 intro u hu
 simp only [otr,bw,List.flatten_cons,List.flatten_nil,List.append_nil,List.cons_append,List.nil_append,List.mem_cons,List.mem_map] at hu
 rcases hu with rfl | ⟨x,_,rfl⟩ <;> rfl
theorem itr_one (i:It):∀ u ∈ itr i,u.oneCell'=true:=by
 intro u hu
 simp only [itr,List.flatten_cons,List.flatten_nil,List.append_nil,List.cons_append,List.nil_append,List.mem_cons,List.not_mem_nil,or_false] at hu
 rcases hu with rfl | rfl <;> rfl
def OL (w:World) (a:Option Addr) (n c:Nat) (L:List Ot):Prop:=(∀ s ∈ L,s.Ok)∧Lz 106 w a n c (L.map otr)
def IL (w:World) (a:Option Addr) (n c:Nat) (L:List It):Prop:=(∀ s ∈ L,s.Ok)∧Lz 2 w a n c (L.map itr)
theorem OL.len {w:World} {a:Option Addr} {n c:Nat} {L:List Ot} (h:OL w a n c L):L.length=n:=by have:=h.2.len; simpa using this
theorem IL.len {w:World} {a:Option Addr} {n c:Nat} {L:List It} (h:IL w a n c L):L.length=n:=by have:=h.2.len; simpa using this
theorem OL.at_ {w:World} {a:Option Addr} {n c:Nat} {L:List Ot} (h:OL w a n c L) (i:Nat) (s:Ot) (hi:L[i]?=some s):∃ p o,a=some ⟨p,o,none⟩∧w.rangeAt p (o+106 * i) (otr s):=by
 have hl:=(List.getElem?_eq_some_iff.1 hi).1
 obtain ⟨p,o,h1,h2⟩:=h.2.at_ i (by rw [← h.len]; exact hl)
 refine ⟨p,o,h1,?_⟩
 have e:(L.map otr).getD i []=otr s:=by simp [List.getD,hi]
 rwa [e] at h2
theorem IL.at_ {w:World} {a:Option Addr} {n c:Nat} {L:List It} (h:IL w a n c L) (i:Nat) (s:It) (hi:L[i]?=some s):∃ p o,a=some ⟨p,o,none⟩∧w.rangeAt p (o+2 * i) (itr s):=by
 have hl:=(List.getElem?_eq_some_iff.1 hi).1
 obtain ⟨p,o,h1,h2⟩:=h.2.at_ i (by rw [← h.len]; exact hl)
 refine ⟨p,o,h1,?_⟩
 have e:(L.map itr).getD i []=itr s:=by simp [List.getD,hi]
 rwa [e] at h2
theorem OL.ok {w:World} {a:Option Addr} {n c:Nat} {L:List Ot} (h:OL w a n c L) (i:Nat) (s:Ot) (hi:L[i]?=some s):s.Ok:=h.1 s (List.mem_of_getElem? hi)
theorem IL.ok {w:World} {a:Option Addr} {n c:Nat} {L:List It} (h:IL w a n c L) (i:Nat) (s:It) (hi:L[i]?=some s):s.Ok:=h.1 s (List.mem_of_getElem? hi)
structure Cm where
 nx:Int
 O:List Ot
 tn:Int
 dl:Int
 H:List It
 deriving DecidableEq
structure Lc where
 ao:Option Addr
 no:Nat
 co:Nat
 ah:Option Addr
 nh:Nat
 ch:Nat
def cvs (c:Cm) (x:Lc):List (List Value):=[[.int .u32 c.nx],[.slice x.ao x.no x.co],[.int .i64 c.tn],[.int .u32 c.dl],[.slice x.ah x.nh x.ch]]
structure Cin (w:World) (c:Cm) (x:Lc):Prop where
 o:OL w x.ao x.no x.co c.O
 h:IL w x.ah x.nh x.ch c.H
 nx:0≤c.nx∧c.nx<4294967296
 tn : -9223372036854775808≤c.tn∧c.tn<9223372036854775808
 dl:0≤c.dl∧c.dl<4294967296
theorem OL.gr {w v:World} {a:Option Addr} {n c:Nat} {L:List Ot} (h:OL w a n c L) (g:Gr w v):OL v a n c L:=⟨h.1,h.2.gr g⟩
theorem IL.gr {w v:World} {a:Option Addr} {n c:Nat} {L:List It} (h:IL w a n c L) (g:Gr w v):IL v a n c L:=⟨h.1,h.2.gr g⟩
theorem Cin.gr {w v:World} {c:Cm} {x:Lc} (h:Cin w c x) (g:Gr w v):Cin v c x:=⟨h.o.gr g,h.h.gr g,h.nx,h.tn,h.dl⟩
theorem exec_iso {a:Act} {o:Oper} (w:World) (x y:Operand) (ho:o.op=.indexAddr 23 x y) (g q len cap i:Nat) (hx:a.eval x=.slice (some ⟨g,q,none⟩) len cap) (hy:a.eval y=.int .i64 i) (hi:i<len) :
  (execOp a.eval o).run Try.prog w=.ok (.value (.pointer (some ⟨g,q+106 * i,none⟩))) w:=by
 have h1:(i:Int)<(len:Int):=by omega
 have hs:(Try.prog.info? 33).map (·.size)=some 106:=by kernel_rfl
 obtain ⟨i0,h2,h3⟩:=Option.map_eq_some_iff.1 hs
 have hu:=Try.underlying23
 have hc:i * 106=106 * i:=Nat.mul_comm _ _
 unfold execOp
 simp only [ho,hx,hy]
 go_simp
theorem exec_isi {a:Act} {o:Oper} (w:World) (x y:Operand) (ho:o.op=.indexAddr 24 x y) (g q len cap i:Nat) (hx:a.eval x=.slice (some ⟨g,q,none⟩) len cap) (hy:a.eval y=.int .i64 i) (hi:i<len) :
  (execOp a.eval o).run Try.prog w=.ok (.value (.pointer (some ⟨g,q+2 * i,none⟩))) w:=by
 have h1:(i:Int)<(len:Int):=by omega
 have hs:(Try.prog.info? 59).map (·.size)=some 2:=by kernel_rfl
 obtain ⟨i0,h2,h3⟩:=Option.map_eq_some_iff.1 hs
 have hu:=Try.underlying24
 have hc:i * 2=2 * i:=Nat.mul_comm _ _
 unfold execOp
 simp only [ho,hx,hy]
 go_simp
theorem exec_lo {op:Oper} {a:Act} (w:World) (x:Operand) (ho:op.op=.load 33 x) (g o:Nat) (hx:a.eval x=.pointer (some ⟨g,o,none⟩)) (s:Ot) (hs:s.Ok) (h:w.rangeAt g o (otr s)) :
  (execOp a.eval op).run Try.prog w=.ok (.value (.agg (fl [[.int .u32 s.n],bw s.B]))) w :=
 exec_row (P:=Try.prog) w 33 x ho g o hx (otr s) _ h Try.underlying33 rfl (by rw [otr_len hs]; kernel_rfl)
theorem exec_li {op:Oper} {a:Act} (w:World) (x:Operand) (ho:op.op=.load 59 x) (g o:Nat) (hx:a.eval x=.pointer (some ⟨g,o,none⟩)) (s:It) (h:w.rangeAt g o (itr s)) :
  (execOp a.eval op).run Try.prog w=.ok (.value (.agg (fl [[.int .u32 s.n],[.string s.s]]))) w :=
 exec_row (P:=Try.prog) w 59 x ho g o hx (itr s) _ h Try.underlying59 rfl (by rw [itr_len]; kernel_rfl)
theorem exec_lb {op:Oper} {a:Act} (w:World) (x:Operand) (ho:op.op=.load 31 x) (g o:Nat) (hx:a.eval x=.pointer (some ⟨g,o,none⟩)) {S:List (List Value)} {t:TypeId} (h:w.heap[g]?=some (.cells (fl S) t (0,0))) (N:List Nat) (hN:S.map List.length=N) (i:Nat) (K:List Int) (hi:S[i]?=some (bw K)) (hof:(N.take i).sum=o) (hl:N[i]?=some 105) :
  (execOp a.eval op).run Try.prog w=.ok (.value (.agg (fl [bw K]))) w:=by
 have hK:(bw K).length=105:=by
  have:=congrArg (·[i]?) hN
  simp only [List.getElem?_map,hi,hl,Option.map_some,Option.some.injEq] at this
  exact this
 have e:fl [bw K]=(bw K).toArray:=by unfold fl; simp
 rw [e]
 exact exec_row (P:=Try.prog) w 31 x ho g o hx (bw K) _ (seg_range hN h i hi hof) Try.underlying31 rfl (by rw [hK]; kernel_rfl)
theorem ltO:Lw 23 33 106 112:=⟨Try.underlying23,by
 have h:(Try.prog.info? 33).map (fun i=>(i.size,i.bytes,i.zero.map (·.cells.size)))=some (106,112,some 106):=by kernel_rfl
 cases hi:Try.prog.info? 33 with
 | none=>rw [hi] at h; cases h
 | some i =>
  rw [hi] at h
  simp only [Option.map_some,Option.some.injEq,Prod.mk.injEq] at h
  obtain ⟨h1,h2,h3⟩:=h
  cases hz:i.zero with
  | none=>rw [hz] at h3; cases h3
  | some z =>
   rw [hz] at h3
   simp only [Option.map_some,Option.some.injEq] at h3
   exact ⟨i,z,rfl,hz,h1,h2,h3⟩,by omega⟩
theorem ltI:Lw 24 59 2 24:=⟨Try.underlying24,by
 have h:(Try.prog.info? 59).map (fun i=>(i.size,i.bytes,i.zero.map (·.cells.size)))=some (2,24,some 2):=by kernel_rfl
 cases hi:Try.prog.info? 59 with
 | none=>rw [hi] at h; cases h
 | some i =>
  rw [hi] at h
  simp only [Option.map_some,Option.some.injEq,Prod.mk.injEq] at h
  obtain ⟨h1,h2,h3⟩:=h
  cases hz:i.zero with
  | none=>rw [hz] at h3; cases h3
  | some z =>
   rw [hz] at h3
   simp only [Option.map_some,Option.some.injEq] at h3
   exact ⟨i,z,rfl,hz,h1,h2,h3⟩,by omega⟩
/-! ### numbers that are held against each other -/
section
variable {a:Act} {o:Oper} (w:World) (x y:Operand) (m n:Int) (b:Bool)
theorem eql_32 (ho:o.op=.binOp .eql 22 x y 22) (hx:a.eval x=.int .u32 m) (hy:a.eval y=.int .u32 n) (hb:decide (m=n)=b):(execOp a.eval o).run Try.prog w=.ok (.value (.bool b)) w:=by
 subst hb
 unfold execOp
 simp only [ho,hx,hy]
 go_simp
 by_cases h_:m=n <;> simp [h_]
theorem eql_i (ho:o.op=.binOp .eql 3 x y 3) (hx:a.eval x=.int .i64 m) (hy:a.eval y=.int .i64 n) (hb:decide (m=n)=b):(execOp a.eval o).run Try.prog w=.ok (.value (.bool b)) w:=by
 subst hb
 unfold execOp
 simp only [ho,hx,hy]
 go_simp
 by_cases h_:m=n <;> simp [h_]
theorem eql_e (ho:o.op=.binOp .eql 29 x y 29) (hx:a.eval x=.int .i64 m) (hy:a.eval y=.int .i64 n) (hb:decide (m=n)=b):(execOp a.eval o).run Try.prog w=.ok (.value (.bool b)) w:=by
 subst hb
 unfold execOp
 simp only [ho,hx,hy]
 go_simp
 by_cases h_:m=n <;> simp [h_]
theorem eql_8 (ho:o.op=.binOp .eql 5 x y 5) (hx:a.eval x=.int .u8 m) (hy:a.eval y=.int .u8 n) (hb:decide (m=n)=b):(execOp a.eval o).run Try.prog w=.ok (.value (.bool b)) w:=by
 subst hb
 unfold execOp
 simp only [ho,hx,hy]
 go_simp
 by_cases h_:m=n <;> simp [h_]
theorem neq_32 (ho:o.op=.binOp .neq 22 x y 22) (hx:a.eval x=.int .u32 m) (hy:a.eval y=.int .u32 n) (hb:decide (m≠n)=b):(execOp a.eval o).run Try.prog w=.ok (.value (.bool b)) w:=by
 subst hb
 unfold execOp
 simp only [ho,hx,hy]
 go_simp
 by_cases h_:m=n <;> simp [h_]
theorem neq_i (ho:o.op=.binOp .neq 3 x y 3) (hx:a.eval x=.int .i64 m) (hy:a.eval y=.int .i64 n) (hb:decide (m≠n)=b):(execOp a.eval o).run Try.prog w=.ok (.value (.bool b)) w:=by
 subst hb
 unfold execOp
 simp only [ho,hx,hy]
 go_simp
 by_cases h_:m=n <;> simp [h_]
theorem neq_e (ho:o.op=.binOp .neq 29 x y 29) (hx:a.eval x=.int .i64 m) (hy:a.eval y=.int .i64 n) (hb:decide (m≠n)=b):(execOp a.eval o).run Try.prog w=.ok (.value (.bool b)) w:=by
 subst hb
 unfold execOp
 simp only [ho,hx,hy]
 go_simp
 by_cases h_:m=n <;> simp [h_]
theorem lss_32 (ho:o.op=.binOp .lss 22 x y 22) (hx:a.eval x=.int .u32 m) (hy:a.eval y=.int .u32 n) (hb:decide (m<n)=b):(execOp a.eval o).run Try.prog w=.ok (.value (.bool b)) w:=by
 subst hb
 unfold execOp
 simp only [ho,hx,hy]
 go_simp
theorem lss_i (ho:o.op=.binOp .lss 3 x y 3) (hx:a.eval x=.int .i64 m) (hy:a.eval y=.int .i64 n) (hb:decide (m<n)=b):(execOp a.eval o).run Try.prog w=.ok (.value (.bool b)) w:=by
 subst hb
 unfold execOp
 simp only [ho,hx,hy]
 go_simp
theorem gtr_32 (ho:o.op=.binOp .gtr 22 x y 22) (hx:a.eval x=.int .u32 m) (hy:a.eval y=.int .u32 n) (hb:decide (n<m)=b):(execOp a.eval o).run Try.prog w=.ok (.value (.bool b)) w:=by
 subst hb
 unfold execOp
 simp only [ho,hx,hy]
 go_simp
theorem gtr_i (ho:o.op=.binOp .gtr 3 x y 3) (hx:a.eval x=.int .i64 m) (hy:a.eval y=.int .i64 n) (hb:decide (n<m)=b):(execOp a.eval o).run Try.prog w=.ok (.value (.bool b)) w:=by
 subst hb
 unfold execOp
 simp only [ho,hx,hy]
 go_simp
theorem geq_32 (ho:o.op=.binOp .geq 22 x y 22) (hx:a.eval x=.int .u32 m) (hy:a.eval y=.int .u32 n) (hb:decide (n≤m)=b):(execOp a.eval o).run Try.prog w=.ok (.value (.bool b)) w:=by
 subst hb
 unfold execOp
 simp only [ho,hx,hy]
 go_simp
theorem geq_i (ho:o.op=.binOp .geq 3 x y 3) (hx:a.eval x=.int .i64 m) (hy:a.eval y=.int .i64 n) (hb:decide (n≤m)=b):(execOp a.eval o).run Try.prog w=.ok (.value (.bool b)) w:=by
 subst hb
 unfold execOp
 simp only [ho,hx,hy]
 go_simp
theorem leq_32 (ho:o.op=.binOp .leq 22 x y 22) (hx:a.eval x=.int .u32 m) (hy:a.eval y=.int .u32 n) (hb:decide (m≤n)=b):(execOp a.eval o).run Try.prog w=.ok (.value (.bool b)) w:=by
 subst hb
 unfold execOp
 simp only [ho,hx,hy]
 go_simp
theorem leq_i (ho:o.op=.binOp .leq 3 x y 3) (hx:a.eval x=.int .i64 m) (hy:a.eval y=.int .i64 n) (hb:decide (m≤n)=b):(execOp a.eval o).run Try.prog w=.ok (.value (.bool b)) w:=by
 subst hb
 unfold execOp
 simp only [ho,hx,hy]
 go_simp
end
def tf (n k:Nat):Array Bool:=((List.range n).map fun i=>decide (i<k)).toArray
section
variable {P:Program} {md:Region.Mode} {ops:Array Oper} {Q:Exit→Act→World→Prop} {S:World→Prop}
theorem any_tk (i:Nat) (v:Value) {oi:Oper} {l:Array Bool} {a:Act} {w:World} (l0:Array Bool) (hi:ops[i]?=some oi) (hy:∀ x_,S x_→(execOp a.eval oi).run P x_=.ok (.value v) x_) (hS:S w)
  (h:Any P md ops Q S (l.setIfInBounds i true) (a.put oi.dst v) w) (hs:Region.noSelect ops=true:=by kernel_rfl) (hle:leB ops.size l0 l=true:=by kernel_rfl) (hf:Region.free md ops l0 i=true:=by kernel_rfl) (hr:rdB md ops l i=true:=by kernel_rfl) (hQ:∀ c a w,Q (.panic c) (a.put oi.dst v) w→Q (.panic c) a w:=by exact fun _ _ _ h=>h) (hw:Region.wanted oi (yielded ops a.tmps)=true:=by kernel_rfl):Any P md ops Q S l a w :=
 any_take l0 hi hs hle hf hr hQ (.inl ⟨hw,hy⟩) hS h
theorem any_to (i:Nat) {oi:Oper} {l:Array Bool} {a:Act} {w:World} (l0:Array Bool) (hi:ops[i]?=some oi) (hS:S w)
  (h:Any P md ops Q S (l.setIfInBounds i true) (a.put oi.dst undef) w) (hs:Region.noSelect ops=true:=by kernel_rfl) (hle:leB ops.size l0 l=true:=by kernel_rfl) (hf:Region.free md ops l0 i=true:=by kernel_rfl) (hr:rdB md ops l i=true:=by kernel_rfl) (hQ:∀ c a w,Q (.panic c) (a.put oi.dst undef) w→Q (.panic c) a w:=by exact fun _ _ _ h=>h) (hw:Region.wanted oi (yielded ops a.tmps)=false:=by kernel_rfl):Any P md ops Q S l a w :=
 any_take l0 hi hs hle hf hr hQ (.inr ⟨hw,rfl⟩) hS h
end
section
variable {P:Program} {ops:Array Oper} {Q:Exit→Act→World→Prop} {a:Act} {w:World} {o:Oper} {rest:List Oper}
theorem lvk (v:Value) (h:wpList P ops Q rest (a.put o.dst v) w) (hw:Region.wanted o (yielded ops a.tmps)=true:=by kernel_rfl) (hx:(execOp a.eval o).run P w=.ok (.value v) w:=by kernel_rfl):wpList P ops Q (o::rest) a w:=list_val v hw hx h
end
end Go.Proofs.Ytcefkkoombmndab
namespace Go.Proofs.Ytcefkkoombmndab
open Go.ChangeShapes Go.WideShapes Go.ChangeAt Go.RowKit
set_option maxRecDepth 100000
set_option linter.unusedVariables false
set_option linter.unusedSimpArgs false
theorem laidOut:laidOutB Try.prog=true:=by kernel_rfl
theorem Try.cellsI:Try.prog.cellsOf 3=1:=by kernel_rfl
structure Lr (k:Nat) (W:World) (a:Option Addr) (n c:Nat) (R:List (List Value)):Prop where
 len:R.length=n
 sl:n=0∨∃ p o,a=some ⟨p,o,none⟩∧∀ i,i<n→W.rangeAt p (o+k * i) (R.getD i [])
 cap:n≤c
 max:c<9223372036854775808
theorem open_rows {H:Type} {enc:TypeId × Value→H} {W:World} {t e:TypeId} {k:Nat} (ht:Try.prog.underlying t=some (.slice e)) (hk:Try.prog.cellsOf e=k) (hk0:0<k) {α:Type} (z:α) (f:α→List Value) (Ok:α→Prop) (hlen:∀ o,Ok o→(f o).length=k)
  (each:∀ (fuel:Nat) (cs:List Value) (x:DataW H × List MemPlace),DataW.trod enc Try.prog W 0 (fun _=>true) true fuel e cs=some x→∃ o,cs=f o∧Ok o)
  {fuel:Nat} {cs:List Value} {x:DataW H × List MemPlace} (hf:DataW.trod enc Try.prog W 0 (fun _=>true) true fuel t cs=some x):∃ a len cap l,cs=[.slice a len cap]∧Lr k W a len cap ((l:List α).map f)∧∀ o ∈ l,Ok o:=by
 rcases DataW.trod_slice ht hf with ⟨hcs,_⟩ | ⟨ad,len,cap,elems,rest,n,_,hcs,hx,hb,hl,hm,hlen2,hel,hsp,hns⟩
 ·exact ⟨none,0,0,[],hcs,⟨rfl,.inl rfl,Nat.le_refl _,by omega⟩,fun o h=>by cases h⟩
 ·have each2:∀ i,∃ o:α,i<len→(∀ j,j<k→W.cell? (ad.add (i * k+j))=(f o)[j]?)∧Ok o:=by
   intro i
   by_cases hi:i<len
   ·have hy:elems[i]?=some (elems[i]'(by omega)):=List.getElem?_eq_getElem (by omega)
    have h1:=hel i hi
    rw [hy,hk,Option.bind_eq_some_iff] at h1
    obtain ⟨cs',hcs',hy'⟩:=h1
    obtain ⟨o,e,ho⟩:=each _ _ _ hy'
    obtain ⟨_,hl4,hc4⟩:=World.cells?_some hcs'
    refine ⟨o,fun _=>⟨fun j hj=>?_,ho⟩⟩
    have h9:=hc4 j hj
    rw [Deep.add_add] at h9
    rw [h9,e]
   ·exact ⟨z,fun h=>absurd h hi⟩
  obtain ⟨g,hg⟩:=Classical.axiomOfChoice each2
  refine ⟨some ad,len,cap,(List.range len).map g,hcs,⟨by simp,?_,hl,by unfold maxLen at hm; omega⟩,?_⟩
  ·rcases Nat.eq_zero_or_pos len with h0 | h0
   ·exact .inl h0
   ·right
    obtain ⟨b,off,spot⟩:=ad
    obtain ⟨h1,h2⟩:=hg 0 h0
    have h1:=h1 0 hk0
    have hspot:spot=none:=by
     rw [List.getElem?_eq_getElem (by rw [hlen _ h2]; exact hk0)] at h1
     simpa [Addr.add] using World.cell?_spot h1
    subst hspot
    refine ⟨b,off,rfl,fun i hi=>?_⟩
    obtain ⟨h3,h4⟩:=hg i hi
    have e:(((List.range len).map g).map f).getD i []=f (g i):=by simp [hi]
    rw [e]
    intro q v hq
    have hqk:q<k:=by have:=(List.getElem?_eq_some_iff.1 hq).1; rw [hlen _ h4] at this; exact this
    have h5:=h3 q hqk
    rw [Addr.add_mid,hq] at h5
    rw [Nat.add_assoc,Nat.mul_comm k i]
    exact h5
  ·intro o ho
   obtain ⟨i,hi,rfl⟩:=List.mem_map.1 ho
   exact (hg i (List.mem_range.1 hi)).2
end Go.Proofs.Ytcefkkoombmndab
namespace Go.Proofs.Ytcefkkoombmndab
open Go.RowKit
set_option maxRecDepth 100000
set_option linter.unusedSimpArgs false
set_option linter.unusedVariables false
theorem exec_bld {a:Act} {o:Oper} (w:World) (t:TypeId) (ps:Array (Nat × Operand)) (vs:List (Nat × Value)) (ho:o.op=.build t ps) (hv:(ps.map fun p=>(p.1,a.eval p.2))=vs.toArray) (cs:Array Value) (h:Try.prog.built t vs=some cs):(execOp a.eval o).run Try.prog w=.ok (.value (.agg cs)) w:=by
 have h2:=run_build (P:=Try.prog) w t vs.toArray cs h
 rw [← hv] at h2
 unfold execOp
 simp only [ho,Sem.run_bind,h2,Result.andThen_ok,Sem.run_pure]
theorem bltC (vs:List (Nat × Value)):Try.prog.built 26 vs=Instr.fill (#[(0,1),(1,1),(2,1),(3,1),(4,1)][·]?) (fl [[.int .u32 0],[.slice none 0 0],[.int .i64 0],[.int .u32 0],[.slice none 0 0]]) vs:=by kernel_rfl
theorem bltO (vs:List (Nat × Value)):Try.prog.built 33 vs=Instr.fill (#[(0,1),(1,105)][·]?) (fl [[.int .u32 0],bw Z105]) vs:=by kernel_rfl
theorem bltI (vs:List (Nat × Value)):Try.prog.built 59 vs=Instr.fill (#[(0,1),(1,1)][·]?) (fl [[.int .u32 0],[.string ByteArray.empty]]) vs:=by kernel_rfl
theorem fill_nil (place:Nat→Option (Nat × Nat)) (cs:Array Value):Instr.fill place cs []=some cs:=rfl
theorem bC (w:World) {a:Act} {o:Oper} (ho:o.op=.build 26 #[]) :
  (execOp a.eval o).run Try.prog w=.ok (.value (.agg (fl [[.int .u32 0],[.slice none 0 0],[.int .i64 0],[.int .u32 0],[.slice none 0 0]]))) w:=by
 refine exec_bld w _ _ [] ho (by simp) _ ?_
 rw [bltC]
 exact fill_nil _ _
theorem bO (w:World) {a:Act} {o:Oper} (ho:o.op=.build 33 #[]) :
  (execOp a.eval o).run Try.prog w=.ok (.value (.agg (fl [[.int .u32 0],bw Z105]))) w:=by
 refine exec_bld w _ _ [] ho (by simp) _ ?_
 rw [bltO]
 exact fill_nil _ _
theorem bO01 {z0:Int} {K1:List Int} (w:World) {a:Act} {o:Oper} (x0 x1:Operand) (ho:o.op=.build 33 #[(0,x0),(1,x1)]) (h1:K1.length=105) (e0:a.eval x0=.int .u32 z0) (e1:a.eval x1=.agg (fl [bw K1])) :
  (execOp a.eval o).run Try.prog w=.ok (.value (.agg (fl [[.int .u32 z0],bw K1]))) w:=by
 refine exec_bld w _ _ [(0,.int .u32 z0),(1,.agg (fl [bw K1]))] ho (by simp [e0,e1]) _ ?_
 rw [bltO]
 rw [fill_seg (N:=NO) (nO Z105_len _) (vs:=[.int .u32 z0]) rfl 0 0 rfl rfl]
 simp only [List.set_cons_zero,List.set_cons_succ]
 rw [fill_seg (N:=NO) (nO Z105_len _) (vs:=bw K1) (by unfold Value.cells fl; simp) 1 1 (by rw [bw_len,h1]; rfl) (by rw [bw_len,h1]; rfl)]
 simp only [List.set_cons_zero,List.set_cons_succ]
 exact fill_nil _ _
theorem bI01 {z0:Int} {s1:ByteArray} (w:World) {a:Act} {o:Oper} (x0 x1:Operand) (ho:o.op=.build 59 #[(0,x0),(1,x1)]) (e0:a.eval x0=.int .u32 z0) (e1:a.eval x1=.string s1) :
  (execOp a.eval o).run Try.prog w=.ok (.value (.agg (fl [[.int .u32 z0],[.string s1]]))) w:=by
 refine exec_bld w _ _ [(0,.int .u32 z0),(1,.string s1)] ho (by simp [e0,e1]) _ ?_
 rw [bltI]
 rw [fill_seg (N:=NI) (nI _ _) (vs:=[.int .u32 z0]) rfl 0 0 rfl rfl]
 simp only [List.set_cons_zero,List.set_cons_succ]
 rw [fill_seg (N:=NI) (nI _ _) (vs:=[.string s1]) rfl 1 1 rfl rfl]
 simp only [List.set_cons_zero,List.set_cons_succ]
 exact fill_nil _ _
theorem infO:(Try.prog.info? 33).map (fun i=>(i.zero,i.size))=some (some (.agg (fl [[.int .u32 0],bw Z105])),106):=by kernel_rfl
theorem infI:(Try.prog.info? 59).map (fun i=>(i.zero,i.size))=some (some (.agg (fl [[.int .u32 0],[.string ByteArray.empty]])),2):=by kernel_rfl
def oZ:Ot:=⟨0,Z105⟩
theorem exec_bso {a:Act} {o:Oper} (w:World) (x:Operand) (ho:o.op=.buildSlice 23 1 #[(0,x)]) (s:Ot) (hs:s.B.length=105) (hx:a.eval x=.agg (fl [[.int .u32 s.n],bw s.B])) :
  (execOp a.eval o).run Try.prog w=.ok (.value (.slice (some ⟨w.heap.size,0,none⟩) 1 1)) (w.alloc (.cells (fl [[.int .u32 s.n],bw s.B]) 33 (0,0))):=by
 obtain ⟨i,h1,h2⟩:=Option.map_eq_some_iff.1 infO
 have h3:i.zero=some (.agg (fl [[.int .u32 0],bw Z105])):=congrArg Prod.fst h2
 have h4:i.size=106:=congrArg Prod.snd h2
 have hl:(otr s).length=106:=by unfold otr; simp [bw_len,hs]
 have hf:=fill_seg (place:=fun i=>some (i * 106,106)) (S:=[otr oZ]) (N:=[106]) (by kernel_rfl) (v:=.agg (fl [[.int .u32 s.n],bw s.B])) (vs:=otr s) rfl 0 0 (by rw [hl]; rfl) (by rw [hl]; rfl) []
 rw [fill_nil] at hf
 have h:=run_buildSlice (P:=Try.prog) w 23 33 1 #[(0,.agg (fl [[.int .u32 s.n],bw s.B]))] (fl [otr s]) i _ Try.underlying23 h1 h3 (by rw [h4]; decide) (by rw [h4]; decide) (by
  rw [h4,← show fl ([otr oZ].set 0 (otr s))=fl [otr s] from rfl,← hf]
  congr 1
  kernel_rfl)
 rw [show fl [otr s]=fl [[.int .u32 s.n],bw s.B] from by simp [fl,otr]] at h
 unfold execOp
 simp only [ho,List.map_toArray,List.map_cons,List.map_nil,hx,Sem.run_bind,h,Result.andThen_ok,Sem.run_pure]
theorem exec_bsi {a:Act} {o:Oper} (w:World) (x:Operand) (ho:o.op=.buildSlice 24 1 #[(0,x)]) (s:It) (hx:a.eval x=.agg (fl [[.int .u32 s.n],[.string s.s]])) :
  (execOp a.eval o).run Try.prog w=.ok (.value (.slice (some ⟨w.heap.size,0,none⟩) 1 1)) (w.alloc (.cells (fl [[.int .u32 s.n],[.string s.s]]) 59 (0,0))):=by
 obtain ⟨i,h1,h2⟩:=Option.map_eq_some_iff.1 infI
 have h3:i.zero=some (.agg (fl [[.int .u32 0],[.string ByteArray.empty]])):=congrArg Prod.fst h2
 have h4:i.size=2:=congrArg Prod.snd h2
 have hf:=fill_seg (place:=fun i=>some (i * 2,2)) (S:=[itr ⟨0,ByteArray.empty⟩]) (N:=[2]) (by kernel_rfl) (v:=.agg (fl [[.int .u32 s.n],[.string s.s]])) (vs:=itr s) rfl 0 0 rfl rfl []
 rw [fill_nil] at hf
 have h:=run_buildSlice (P:=Try.prog) w 24 59 1 #[(0,.agg (fl [[.int .u32 s.n],[.string s.s]]))] (fl [itr s]) i _ Try.underlying24 h1 h3 (by rw [h4]; decide) (by rw [h4]; decide) (by
  rw [h4,← show fl ([itr ⟨0,ByteArray.empty⟩].set 0 (itr s))=fl [itr s] from rfl,← hf]
  congr 1
  kernel_rfl)
 rw [show fl [itr s]=fl [[.int .u32 s.n],[.string s.s]] from by simp [fl,itr]] at h
 unfold execOp
 simp only [ho,List.map_toArray,List.map_cons,List.map_nil,hx,Sem.run_bind,h,Result.andThen_ok,Sem.run_pure]
theorem run_bs0 (w:World) (t e:TypeId) (ie:TypeInfo) (hu:Try.prog.underlying t=some (.slice e)) (hie:Try.prog.info? e=some ie):(Instr.buildSlice t 0 #[]).run Try.prog w=.ok (.slice (some ⟨w.heap.size,0,none⟩) 0 0) (w.alloc (.cells #[] e)):=by
 simp [Instr.buildSlice,run_underlying hu,sizeOf,typeInfo,hie,newRow,Instr.fill]
 congr 2
 exact Array.eq_empty_of_size_eq_zero (by simp)
theorem exec_b0o {a:Act} {o:Oper} (w:World) (ho:o.op=.buildSlice 23 0 #[]) :
  (execOp a.eval o).run Try.prog w=.ok (.value (.slice (some ⟨w.heap.size,0,none⟩) 0 0)) (w.alloc (.cells #[] 33 (0,0))):=by
 obtain ⟨i,h1,h2⟩:=Option.map_eq_some_iff.1 infO
 have h3:i.zero=some (.agg (fl [[.int .u32 0],bw Z105])):=congrArg Prod.fst h2
 have h4:i.size=106:=congrArg Prod.snd h2
 have h:=run_bs0 w 23 33 i Try.underlying23 h1
 unfold execOp
 simp only [ho,List.map_toArray,List.map_cons,List.map_nil,Sem.run_bind,h,Result.andThen_ok,Sem.run_pure]
theorem exec_b0i {a:Act} {o:Oper} (w:World) (ho:o.op=.buildSlice 24 0 #[]) :
  (execOp a.eval o).run Try.prog w=.ok (.value (.slice (some ⟨w.heap.size,0,none⟩) 0 0)) (w.alloc (.cells #[] 59 (0,0))):=by
 obtain ⟨i,h1,h2⟩:=Option.map_eq_some_iff.1 infI
 have h3:i.zero=some (.agg (fl [[.int .u32 0],[.string ByteArray.empty]])):=congrArg Prod.fst h2
 have h4:i.size=2:=congrArg Prod.snd h2
 have h:=run_bs0 w 24 59 i Try.underlying24 h1
 unfold execOp
 simp only [ho,List.map_toArray,List.map_cons,List.map_nil,Sem.run_bind,h,Result.andThen_ok,Sem.run_pure]
theorem zvOut (w:World):(zeroValue 33).run Try.prog w=.ok (.agg (fl [[.int .u32 0],bw Z105])) w:=by kernel_rfl
end Go.Proofs.Ytcefkkoombmndab
namespace Go.Proofs.Ytcefkkoombmndab
open Go.RowKit
set_option maxRecDepth 100000
set_option linter.unusedSimpArgs false
set_option linter.unusedVariables false
section
variable {a:Act} {o:Oper} (w:World) (x y:Operand) (m n:Int)
theorem conv_u32 (ho:o.op=.convert 3 22 x) (hx:a.eval x=.int .i64 m) (h:0≤m∧m<4294967296):(execOp a.eval o).run Try.prog w=.ok (.value (.int .u32 m)) w:=by
 have hw:IntKind.u32.wrap m=m:=by rw [IntKind.wrap_u32]; omega
 unfold execOp
 simp only [ho,hx]
 go_simp
theorem conv_i64 (ho:o.op=.convert 22 3 x) (hx:a.eval x=.int .u32 m) (h:0≤m∧m<4294967296):(execOp a.eval o).run Try.prog w=.ok (.value (.int .i64 m)) w:=by
 have hw:IntKind.i64.wrap m=m:=by rw [IntKind.wrap_i64]; omega
 unfold execOp
 simp only [ho,hx]
 go_simp
theorem add_32 (ho:o.op=.binOp .add 22 x y 22) (hx:a.eval x=.int .u32 m) (hy:a.eval y=.int .u32 n) (r:Int) (hr:m+n=r) (h:0≤r∧r<4294967296):(execOp a.eval o).run Try.prog w=.ok (.value (.int .u32 r)) w:=by
 subst hr
 have hw:IntKind.u32.wrap (m+n)=m+n:=by rw [IntKind.wrap_u32]; omega
 unfold execOp
 simp only [ho,hx,hy]
 go_simp
theorem sub_32 (ho:o.op=.binOp .sub 22 x y 22) (hx:a.eval x=.int .u32 m) (hy:a.eval y=.int .u32 n) (r:Int) (hr:m - n=r) (h:0≤r∧r<4294967296):(execOp a.eval o).run Try.prog w=.ok (.value (.int .u32 r)) w:=by
 subst hr
 have hw:IntKind.u32.wrap (m - n)=m - n:=by rw [IntKind.wrap_u32]; omega
 unfold execOp
 simp only [ho,hx,hy]
 go_simp
theorem add_i (ho:o.op=.binOp .add 3 x y 3) (hx:a.eval x=.int .i64 m) (hy:a.eval y=.int .i64 n) (r:Int) (hr:m+n=r) (h : -9223372036854775808≤r∧r<9223372036854775808):(execOp a.eval o).run Try.prog w=.ok (.value (.int .i64 r)) w:=by
 subst hr
 have hw:IntKind.i64.wrap (m+n)=m+n:=by rw [IntKind.wrap_i64]; omega
 unfold execOp
 simp only [ho,hx,hy]
 go_simp
theorem sub_i (ho:o.op=.binOp .sub 3 x y 3) (hx:a.eval x=.int .i64 m) (hy:a.eval y=.int .i64 n) (r:Int) (hr:m - n=r) (h : -9223372036854775808≤r∧r<9223372036854775808):(execOp a.eval o).run Try.prog w=.ok (.value (.int .i64 r)) w:=by
 subst hr
 have hw:IntKind.i64.wrap (m - n)=m - n:=by rw [IntKind.wrap_i64]; omega
 unfold execOp
 simp only [ho,hx,hy]
 go_simp
theorem max_i (ho:o.op=.call { callee:=.builtin .max,args:=#[x,y],argTypes:=#[3,3] }) (hx:a.eval x=.int .i64 m) (hy:a.eval y=.int .i64 n) (r:Int) (hr:max m n=r):(execOp a.eval o).run Try.prog w=.ok (.value (.int .i64 r)) w:=by
 subst hr
 unfold execOp
 simp only [ho,hx,hy,resolve,invoke,builtin,List.map_toArray,List.map_cons,List.map_nil]
 go_simp
 split <;> omega
theorem min_i (ho:o.op=.call { callee:=.builtin .min,args:=#[x,y],argTypes:=#[3,3] }) (hx:a.eval x=.int .i64 m) (hy:a.eval y=.int .i64 n) (r:Int) (hr:min m n=r):(execOp a.eval o).run Try.prog w=.ok (.value (.int .i64 r)) w:=by
 subst hr
 unfold execOp
 simp only [ho,hx,hy,resolve,invoke,builtin,List.map_toArray,List.map_cons,List.map_nil]
 go_simp
 split <;> omega
theorem min_32 (ho:o.op=.call { callee:=.builtin .min,args:=#[x,y],argTypes:=#[22,22] }) (hx:a.eval x=.int .u32 m) (hy:a.eval y=.int .u32 n) (r:Int) (hr:min m n=r):(execOp a.eval o).run Try.prog w=.ok (.value (.int .u32 r)) w:=by
 subst hr
 unfold execOp
 simp only [ho,hx,hy,resolve,invoke,builtin,List.map_toArray,List.map_cons,List.map_nil]
 go_simp
 split <;> omega
theorem len_st (s:ByteArray) (hs:s.size<9223372036854775808) (ho:o.op=.call { callee:=.builtin .len,args:=#[x],argTypes:=#[9] }) (hx:a.eval x=.string s):(execOp a.eval o).run Try.prog w=.ok (.value (.int .i64 (s.size:Int))) w:=by
 unfold execOp
 simp only [ho,hx,resolve,invoke,builtin,List.map_toArray,List.map_cons,List.map_nil]
 go_simp
end
def szB (s:ByteArray):Bool:=decide (1≤s.size∧s.size≤48)
def seqs:Int→List Ot→Bool
 | _,[]=>true
 | k,o::L=>decide (o.n=k) && seqs (k+1) L
def rises:Int→Int→List It→Bool
 | _,_,[]=>true
 | f,e,i::L=>(decide (f<i.n) && decide (i.n<e) && szB i.s) && rises i.n e L
def outB (c:Cm):Bool:=decide (c.O.length≤4∧(c.O.length:Int)≤c.nx∧0≤c.tn∧c.tn<max (c.O.length:Int) 1) && seqs (c.nx - c.O.length) c.O
def heldB (c:Cm):Bool:=decide (c.H.length≤3) && rises c.dl (min (c.dl+4) 2147483648) c.H
def rt (c:Cm):Bool:=decide (c.nx≤2147483648∧c.dl≤2147483648) && (outB c && heldB c)
theorem seqs_step (k:Int) (L:List Ot) (j:Nat) (o:Ot) (h:L[j]?=some o):seqs k (L.drop j)=(decide (o.n=k) && seqs (k+1) (L.drop (j+1))):=by
 obtain ⟨hl,rfl⟩:=List.getElem?_eq_some_iff.1 h
 rw [List.drop_eq_getElem_cons hl]
 rfl
theorem rises_step (f e:Int) (L:List It) (j:Nat) (i:It) (h:L[j]?=some i):rises f e (L.drop j)=((decide (f<i.n) && decide (i.n<e) && szB i.s) && rises i.n e (L.drop (j+1))):=by
 obtain ⟨hl,rfl⟩:=List.getElem?_eq_some_iff.1 h
 rw [List.drop_eq_getElem_cons hl]
 rfl
set_option maxHeartbeats 4000000 in
theorem sized_ok (s:ByteArray) (hs:s.size<9223372036854775808) (w:World)  : Calls Try.prog 25 #[.string s] w (Vl (.bool (szB s)) w):=by
 obtain ⟨T,hT⟩:∃ T:Ending→World→Prop,T=(Vl (.bool (szB s)) w):=⟨_,rfl⟩
 rw [← hT]
 replace hT:=hide hT
 go_enter Try.func25,Try.ntmps25
 go_upto_region 1 with fail
 obtain ⟨u0,hu_⟩:∃ u,u=w:=⟨_,rfl⟩
 rw [← hu_]
 have hB:Bl w [] u0:=hu_ ▸ Bl.nil w
 clear hu_
 by_cases h1:1≤(s.size:Int)
 ·by_cases h2:(s.size:Int)≤48
  ·have hv:szB s=true:=by unfold szB; rw [decide_eq_true_iff]; omega
   refine wp_region_lit ?_
   refine wpList_gen fun ops_ hops=>?_
   replace hops:=hide hops
   refine list_val (.string s) (by rw [unhide hops]; kernel_rfl) (by kernel_rfl) ?_
   simp only [nrm]
   refine list_val (.int .i64 (s.size:Int)) (by rw [unhide hops]; kernel_rfl) (len_st _ (.tmp 3) s hs rfl (by kernel_rfl)) ?_
   simp only [nrm]
   refine list_val (.bool true) (by rw [unhide hops]; kernel_rfl) (geq_i _ (.tmp 4) (.const (.int .i64 1)) (s.size:Int) 1 true rfl (by kernel_rfl) (by kernel_rfl) (decide_eq_true h1)) ?_
   simp only [nrm]
   refine list_val (.bool true) (by rw [unhide hops]; kernel_rfl) (by kernel_rfl) ?_
   simp only [nrm]
   refine list_val (.string s) (by rw [unhide hops]; kernel_rfl) (by kernel_rfl) ?_
   simp only [nrm]
   refine list_val (.int .i64 (s.size:Int)) (by rw [unhide hops]; kernel_rfl) (len_st _ (.tmp 7) s hs rfl (by kernel_rfl)) ?_
   simp only [nrm]
   refine list_val (.bool true) (by rw [unhide hops]; kernel_rfl) (leq_i _ (.tmp 8) (.const (.int .i64 48)) (s.size:Int) 48 true rfl (by kernel_rfl) (by kernel_rfl) (decide_eq_true h2)) ?_
   simp only [nrm]
   refine list_val (.bool true) (by rw [unhide hops]; kernel_rfl) (by kernel_rfl) ?_
   simp only [nrm]
   (refine wpList_step fun K hK=>?_; replace hK:=hide hK; go_simp; refine unhide hK _ _ ?_; clear hK K)
   refine wpList_nil ?_
   replace hB:=hide hB
   go_wp2_with fail
   replace hB:=unhide hB
   rw [unhide hT]
   exact (⟨by rw [hv] <;> rfl,hB.gr⟩)
  ·have hv:szB s=false:=by unfold szB; rw [decide_eq_false_iff_not]; omega
   refine wp_region_lit ?_
   refine wpList_gen fun ops_ hops=>?_
   replace hops:=hide hops
   refine list_val (.string s) (by rw [unhide hops]; kernel_rfl) (by kernel_rfl) ?_
   simp only [nrm]
   refine list_val (.int .i64 (s.size:Int)) (by rw [unhide hops]; kernel_rfl) (len_st _ (.tmp 3) s hs rfl (by kernel_rfl)) ?_
   simp only [nrm]
   refine list_val (.bool true) (by rw [unhide hops]; kernel_rfl) (geq_i _ (.tmp 4) (.const (.int .i64 1)) (s.size:Int) 1 true rfl (by kernel_rfl) (by kernel_rfl) (decide_eq_true h1)) ?_
   simp only [nrm]
   refine list_val (.bool true) (by rw [unhide hops]; kernel_rfl) (by kernel_rfl) ?_
   simp only [nrm]
   refine list_val (.string s) (by rw [unhide hops]; kernel_rfl) (by kernel_rfl) ?_
   simp only [nrm]
   refine list_val (.int .i64 (s.size:Int)) (by rw [unhide hops]; kernel_rfl) (len_st _ (.tmp 7) s hs rfl (by kernel_rfl)) ?_
   simp only [nrm]
   refine list_val (.bool false) (by rw [unhide hops]; kernel_rfl) (leq_i _ (.tmp 8) (.const (.int .i64 48)) (s.size:Int) 48 false rfl (by kernel_rfl) (by kernel_rfl) (decide_eq_false h2)) ?_
   simp only [nrm]
   refine list_val (.bool false) (by rw [unhide hops]; kernel_rfl) (by kernel_rfl) ?_
   simp only [nrm]
   (refine wpList_step fun K hK=>?_; replace hK:=hide hK; go_simp; refine unhide hK _ _ ?_; clear hK K)
   refine wpList_nil ?_
   replace hB:=hide hB
   go_wp2_with fail
   replace hB:=unhide hB
   rw [unhide hT]
   exact (⟨by rw [hv] <;> rfl,hB.gr⟩)
 ·have hv:szB s=false:=by unfold szB; rw [decide_eq_false_iff_not]; omega
  refine wp_region_lit ?_
  refine wpList_gen fun ops_ hops=>?_
  replace hops:=hide hops
  refine list_val (.string s) (by rw [unhide hops]; kernel_rfl) (by kernel_rfl) ?_
  simp only [nrm]
  refine list_val (.int .i64 (s.size:Int)) (by rw [unhide hops]; kernel_rfl) (len_st _ (.tmp 3) s hs rfl (by kernel_rfl)) ?_
  simp only [nrm]
  refine list_val (.bool false) (by rw [unhide hops]; kernel_rfl) (geq_i _ (.tmp 4) (.const (.int .i64 1)) (s.size:Int) 1 false rfl (by kernel_rfl) (by kernel_rfl) (decide_eq_false h1)) ?_
  simp only [nrm]
  refine list_val (.bool false) (by rw [unhide hops]; kernel_rfl) (by kernel_rfl) ?_
  simp only [nrm]
  refine list_off (by rw [unhide hops]; kernel_rfl) ?_
  simp only [nrm]
  refine list_off (by rw [unhide hops]; kernel_rfl) ?_
  simp only [nrm]
  refine list_off (by rw [unhide hops]; kernel_rfl) ?_
  simp only [nrm]
  refine list_val (.bool false) (by rw [unhide hops]; kernel_rfl) (by kernel_rfl) ?_
  simp only [nrm]
  (refine wpList_step fun K hK=>?_; replace hK:=hide hK; go_simp; refine unhide hK _ _ ?_; clear hK K)
  refine wpList_nil ?_
  replace hB:=hide hB
  go_wp2_with fail
  replace hB:=unhide hB
  rw [unhide hT]
  exact (⟨by rw [hv] <;> rfl,hB.gr⟩)
set_option maxHeartbeats 4000000 in
theorem acked_ok (c:Cm) (x:Lc) (w:World) (hc:Cin w c x) (h:(x.no:Int)≤c.nx):Calls Try.prog 24 #[.agg (fl [[.int .u32 c.nx],[.slice x.ao x.no x.co],[.int .i64 c.tn],[.int .u32 c.dl],[.slice x.ah x.nh x.ch]])] w (Vl (.int .u32 (c.nx - x.no)) w):=by
 obtain ⟨T,hT⟩:∃ T:Ending→World→Prop,T=(Vl (.int .u32 (c.nx - x.no)) w):=⟨_,rfl⟩
 rw [← hT]
 replace hT:=hide hT
 have hn:=hc.nx
 clear hc
 obtain ⟨A0_,hA0_⟩:∃ S_,S_=fl [[.int .u32 c.nx],[.slice x.ao x.no x.co],[.int .i64 c.tn],[.int .u32 c.dl],[.slice x.ah x.nh x.ch]]:=⟨_,rfl⟩
 rw [← hA0_]
 replace hA0_:=hide hA0_
 go_enter Try.func24,Try.ntmps24
 go_upto_region 1 with fail
 have hB:=((Bl.nil w).new A0_ 26)
 simp only [size_alloc,List.nil_append,List.cons_append] at hB
 rw [unhide hA0_] at hB
 generalize hu_:World.alloc _ _=u0
 replace hB:Bl w [⟨w.heap.size,fl [[.int .u32 c.nx],[.slice x.ao x.no x.co],[.int .i64 c.tn],[.int .u32 c.dl],[.slice x.ah x.nh x.ch]],26⟩] u0:=by
  rw [← hu_]
  rw [unhide hA0_]
  exact hB
 clear hu_ hA0_
 refine wp_region_lit ?_
 refine lvk (.pointer (some ⟨w.heap.size,0,none⟩)) ?_
 simp only [nrm]
 refine list_val (.int .u32 c.nx) (by kernel_rfl) (exec_c32 _ (.tmp 3) rfl (w.heap.size) 0 (by kernel_rfl) c.nx (seg_cell (nC  _ _ _ _ _) (hB.get 0 (x:=⟨w.heap.size,fl [[.int .u32 c.nx],[.slice x.ao x.no x.co],[.int .i64 c.tn],[.int .u32 c.dl],[.slice x.ah x.nh x.ch]],26⟩) rfl) 0 (v:=.int .u32 c.nx) rfl rfl)) ?_
 simp only [nrm]
 refine lvk (.pointer (some ⟨w.heap.size,1,none⟩)) ?_
 simp only [nrm]
 refine list_val (.slice x.ao x.no x.co) (by kernel_rfl) (exec_csO _ (.tmp 5) rfl (w.heap.size) 1 (by kernel_rfl) x.ao x.no x.co (seg_cell (nC  _ _ _ _ _) (hB.get 0 (x:=⟨w.heap.size,fl [[.int .u32 c.nx],[.slice x.ao x.no x.co],[.int .i64 c.tn],[.int .u32 c.dl],[.slice x.ah x.nh x.ch]],26⟩) rfl) 1 (v:=.slice x.ao x.no x.co) rfl rfl)) ?_
 simp only [nrm]
 refine lvk (.int .i64 (x.no:Int)) ?_
 simp only [nrm]
 refine list_val (.int .u32 (x.no:Int)) (by kernel_rfl) (conv_u32 _ (.tmp 7) (x.no:Int) rfl (by kernel_rfl) (by omega)) ?_
 simp only [nrm]
 refine list_val (.int .u32 (c.nx - x.no)) (by kernel_rfl) (sub_32 _ (.tmp 4) (.tmp 8) c.nx (x.no:Int) rfl (by kernel_rfl) (by kernel_rfl) _ rfl (by omega)) ?_
 simp only [nrm]
 (refine wpList_step fun K hK=>?_; replace hK:=hide hK; go_simp; refine unhide hK _ _ ?_; clear hK K)
 refine wpList_nil ?_
 replace hB:=hide hB
 go_wp2_with fail
 replace hB:=unhide hB
 rw [unhide hT]
 exact (⟨rfl,hB.gr⟩)
end Go.Proofs.Ytcefkkoombmndab
