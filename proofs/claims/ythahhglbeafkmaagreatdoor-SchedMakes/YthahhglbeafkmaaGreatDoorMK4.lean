/-
  What the proof leans on.
-/
import Derived.WalkMore
import Derived.Deep.Cut
import Derived.StillTailTactics
import Derived.OwnWalk
import Derived.Deep.DeepAppendWide
import Derived.Test.YthahhglbeafkmaaGreatDoorMK3
namespace Go.Proofs.YthahhglbeafkmaaGreatDoor
open Go.RowKit
set_option maxRecDepth 100000
set_option linter.unusedSimpArgs false
set_option linter.unusedVariables false
def W32 (x:Int):Prop:=0≤x∧x<4294967296
def lt (x:Int) (n:Nat):Int:=bits .or .u32 (IntKind.u32.wrap (x * 2 ^ n)) (x / 2 ^ (32 - n))
theorem u32_or_nat (a b:Nat) (ha:a<4294967296) (hb:b<4294967296):bits .or .u32 (a:Int) (b:Int)=((a ||| b:Nat):Int):=by
 have hx:a ||| b<2 ^ 32:=Nat.or_lt_two_pow (by omega) (by omega)
 have h1:(BitVec.ofInt 32 (a:Int)).toNat=a:=by
  rw [BitVec.ofInt_natCast,BitVec.toNat_ofNat]; exact Nat.mod_eq_of_lt (by omega)
 have h2:(BitVec.ofInt 32 (b:Int)).toNat=b:=by
  rw [BitVec.ofInt_natCast,BitVec.toNat_ofNat]; exact Nat.mod_eq_of_lt (by omega)
 show IntKind.u32.wrap ((BitVec.ofInt 32 (a:Int) ||| BitVec.ofInt 32 (b:Int)).toNat:Int)=_
 rw [BitVec.toNat_or,h1,h2,IntKind.wrap_u32]
 omega
theorem u8_xor_nat (a b:Nat) (ha:a<256) (hb:b<256):bits .xor .u8 (a:Int) (b:Int)=((a ^^^ b:Nat):Int):=by
 have hx:a ^^^ b<2 ^ 8:=Nat.xor_lt_two_pow (by omega) (by omega)
 have h1:(BitVec.ofInt 8 (a:Int)).toNat=a:=by
  rw [BitVec.ofInt_natCast,BitVec.toNat_ofNat]; exact Nat.mod_eq_of_lt (by omega)
 have h2:(BitVec.ofInt 8 (b:Int)).toNat=b:=by
  rw [BitVec.ofInt_natCast,BitVec.toNat_ofNat]; exact Nat.mod_eq_of_lt (by omega)
 show IntKind.u8.wrap ((BitVec.ofInt 8 (a:Int) ^^^ BitVec.ofInt 8 (b:Int)).toNat:Int)=_
 rw [BitVec.toNat_xor,h1,h2,IntKind.wrap_u8]
 omega
def xb (a b:Int):Int:=bits .xor .u8 a b
theorem xb_rng (a b:Int):0≤xb a b∧xb a b<256:=by
 unfold xb bits
 simp only [IntKind.wrap_u8]
 omega
theorem xb_twice (x y:Int) (hx:0≤x∧x<256) (hy:0≤y∧y<256):xb (xb x y) y=x:=by
 obtain ⟨X,rfl⟩:=Int.eq_ofNat_of_zero_le hx.1
 obtain ⟨Y,rfl⟩:=Int.eq_ofNat_of_zero_le hy.1
 have hl:X ^^^ Y<2 ^ 8:=Nat.xor_lt_two_pow (by omega) (by omega)
 unfold xb
 rw [u8_xor_nat X Y (by omega) (by omega),u8_xor_nat (X ^^^ Y) Y (by omega) (by omega),Nat.xor_assoc,Nat.xor_self,Nat.xor_zero]
theorem or_zero (x:Int) (hx:W32 x):bits .or .u32 0 x=x:=by
 obtain ⟨X,rfl⟩:=Int.eq_ofNat_of_zero_le hx.1
 have h1:=hx.2
 have h:=u32_or_nat 0 X (by omega) (by omega)
 rw [Nat.zero_or] at h
 exact h
def fil (f:Nat→Int) (n:Nat) (l:List Int):List Int:=(List.range n).map f++l.drop n
theorem fil_zero (f:Nat→Int) (l:List Int):fil f 0 l=l:=by simp [fil]
theorem fil_len (f:Nat→Int) (n:Nat) (l:List Int) (h:n≤l.length):(fil f n l).length=l.length:=by
 simp [fil]
 omega
theorem fil_set (f:Nat→Int) (n:Nat) (l:List Int) (h:n<l.length):(fil f n l).set n (f n)=fil f (n+1) l:=by
 unfold fil
 rw [List.set_append_right _ _ (by simp),List.range_succ,List.map_append,List.append_assoc]
 congr 1
 simp only [List.length_map,List.length_range,Nat.sub_self,List.map_cons,List.map_nil,List.cons_append,List.nil_append]
 rw [List.drop_eq_getElem_cons h,List.set_cons_zero]
theorem fil_all (f:Nat→Int) (l:List Int):fil f l.length l=(List.range l.length).map f:=by simp [fil]
theorem fil_hi (f:Nat→Int) (n j:Nat) (l:List Int) (h:n≤j) (hl:n≤l.length):(fil f n l).getD j 0=l.getD j 0:=by
 unfold fil
 rw [List.getD_eq_getElem?_getD,List.getElem?_append_right (by simp; omega)]
 simp only [List.length_map,List.length_range,List.getElem?_drop]
 rw [List.getD_eq_getElem?_getD]
 congr 2
 omega
structure Q4 where
 (a b c d:Int)
def quar (a b c d:Int):Q4 :=
 let a1:=ad a b
 let d1:=lt (xr d a1) 16
 let c1:=ad c d1
 let b1:=lt (xr b c1) 12
 let a2:=ad a1 b1
 let d2:=lt (xr d1 a2) 8
 let c2:=ad c1 d2
 let b2:=lt (xr b1 c2) 7
 ⟨a2,b2,c2,d2⟩
section
variable {P:Program} {md:Region.Mode} {ops:Array Oper} {Q:Exit→Act→World→Prop} {S:World→Prop} {c:Nat}
def wpAnyC (P:Program) (md:Region.Mode) (ops:Array Oper) (Q:Exit→Act→World→Prop) (S:World→Prop) (c:Nat):Nat→Array Bool→Act→World→Prop
 | 0,l,a,w=>Region.ready md ops l=[]∧Q .normal a w
 | f+1,l,a,w=>(Region.ready md ops l=[]→Q .normal a w) ∧
   ∀ i ∈ Region.ready md ops l,wpOp P ops Q i (fun a' w'=>((l.setIfInBounds i true).getD c false=false→S w')∧wpAnyC P md ops Q S c f (l.setIfInBounds i true) a' w') a w
theorem wpAny_of_C:∀ (f:Nat) (l:Array Bool) (a:Act) (w:World),wpAnyC P md ops Q S c f l a w→wpAny P md ops Q f l a w
 | 0,_,_,_,h=>h
 | f+1,_,_,_,h=>⟨h.1,fun i hi=>wpOp_mono (fun a' w' h'=>wpAny_of_C f _ a' w' h'.2) (h.2 i hi)⟩
theorem wpAnyC_free:∀ (f:Nat) (l:Array Bool) (a:Act) (w:World),l.getD c false=true→wpAnyH P md ops Q (fun _=>True) f l a w→wpAnyC P md ops Q S c f l a w
 | 0,_,_,_,_,h=>h
 | f+1,l,_,_,hl,h=>⟨h.1,fun i hi=>wpOp_mono (fun a' w' h'=>⟨fun e=>(by rw [getD_set_true hl] at e; cases e),wpAnyC_free f _ a' w' (getD_set_true hl) h'.2⟩) (h.2 i hi)⟩
theorem wpAnyC_first {i:Nat} {oi oc:Oper} {v:Value} (hi:ops[i]?=some oi) (hsel:∀ (j:Nat) (o:Oper) cs b,ops[j]?=some o→o.op≠.select cs b)
  (hQ:∀ c a w,Q (.panic c) (a.put oi.dst v) w→Q (.panic c) a w) (hci:i≠c) (T:World→Prop) (hTS:∀ w,S w→T w) (hoc:ops[c]?=some oc) (hT:(∀ w,T w)∨∃ e ∈ oc.after,Region.binds md e=true∧e.on=i) :
  ∀ (fuel:Nat) (listed:Array Bool) (a:Act) (w:World),
   (∀ j oj,ops[j]?=some oj→j≠i→listed.getD j true=false→(∀ e ∈ oj.after,Region.binds md e=true→e.on≠i)→oi.apart ops oj=true) →
   i ∈ Region.ready md ops listed→YieldsIf P ops T oi v a→(listed.getD c false=false→S w)→((∀ w,T w)∨listed.getD c false=false) →
   wpAnyC P md ops Q S c fuel (listed.setIfInBounds i true) (a.put oi.dst v) w→wpAnyC P md ops Q S c (fuel+1) listed a w:=by
 intro fuel
 have now:∀ (l:Array Bool) (w:World),(l.getD c false=false→S w)→((∀ w,T w)∨l.getD c false=false)→T w:=fun l w hS hB=>by
  rcases hB with h | h
  ·exact h w
  ·exact hTS w (hS h)
 induction fuel with
 | zero =>
  intro listed a w _ hr hy hS hB H
  refine ⟨fun h=>(by rw [h] at hr; cases hr),fun j hj=>?_⟩
  by_cases hji:j=i
  ·subst hji
   exact hy.wpOp hi (now _ _ hS hB) ⟨fun e=>hS (by rw [getD_set_ne false hci] at e; exact e),H⟩
  ·have:=ready_mono hj hji
   rw [H.1] at this
   cases this
 | succ fuel ih =>
  intro listed a w hfree hr hy hS hB H
  refine ⟨fun h=>(by rw [h] at hr; cases hr),fun j hj=>?_⟩
  by_cases hji:j=i
  ·subst hji
   exact hy.wpOp hi (now _ _ hS hB) ⟨fun e=>hS (by rw [getD_set_ne false hci] at e; exact e),H⟩
  ·have h1:=H.2 j (ready_mono hj hji)
   obtain ⟨hjun,oj,hoj,hall⟩:=mem_ready.1 hj
   have hnot:∀ e ∈ oj.after,Region.binds md e=true→e.on≠i:=fun e he hb heq=>by
    have h1:=hall e he hb
    have h0:=(mem_ready.1 hr).1
    rw [heq] at h1
    rcases Nat.lt_or_ge i listed.size with h' | h'
    ·simp [h'] at h0 h1; rw [h0] at h1; cases h1
    ·simp [Array.getElem?_eq_none h'] at h1
   have h2:=wpOp_putIf hoj (hfree j oj hoj hji hjun hnot) (fun cs b=>hsel i oi cs b hi) (fun cs b=>hsel j oj cs b hoj) hQ hy h1
   have hfree':∀ k ok,ops[k]?=some ok→k≠i→(listed.setIfInBounds j true).getD k true=false →
     (∀ e ∈ ok.after,Region.binds md e=true→e.on≠i)→oi.apart ops ok=true:=fun k ok hk hki hun hno=>by
    refine hfree k ok hk hki ?_ hno
    by_cases hjk:j=k
    ·subst hjk; exact hjun
    ·rw [getD_set_ne true hjk] at hun; exact hun
   refine wpOp_mono (fun a' w' h3=>?_) h2
   have hS':(listed.setIfInBounds j true).getD c false=false→S w':=fun e=>by
    refine h3.2.1 ?_
    rw [Array.setIfInBounds_comm _ _ (Ne.symm hji),getD_set_ne false hci]
    exact e
   have hB':(∀ w,T w)∨(listed.setIfInBounds j true).getD c false=false:=by
    rcases hB with h | h
    ·exact .inl h
    ·rcases hT with h' | ⟨e,he,hb,heq⟩
     ·exact .inl h'
     ·refine .inr ?_
      have hjc:j≠c:=by
       rintro rfl
       rw [hoj] at hoc
       cases hoc
       exact hnot e he hb heq
      rw [getD_set_ne false hjc]
      exact h
   refine ⟨hS',ih (listed.setIfInBounds j true) a' w' hfree' (ready_mono hr (Ne.symm hji)) h3.1 hS' hB' ?_⟩
   rw [Array.setIfInBounds_comm _ _ hji]
   exact h3.2.2
def AnyC (P:Program) (md:Region.Mode) (ops:Array Oper) (Q:Exit→Act→World→Prop) (S:World→Prop) (c:Nat) (l:Array Bool) (a:Act) (w:World):Prop :=
 ∀ fuel,(l.toList.filter (!·)).length≤fuel→wpAnyC P md ops Q S c fuel l a w
theorem anyC_start {id:Nat} {a:Act} {w:World} (c:Nat) (S:World→Prop) (hm:P.follows .mixedOrders=true) (h:AnyC P .any ops Q S c (Array.replicate ops.size false) a w.drew):(Code.region id ops true).wp P Q a w:=by
 refine wp_region_any hm (wpAny_of_C _ _ _ _ (h ops.size ?_))
 simp
def depB (md:Region.Mode) (ops:Array Oper) (c i:Nat):Bool:=((ops[c]?).map (·.after.any fun e=>Region.binds md e && e.on == i)).getD false
theorem anyC_take {i:Nat} {oi:Oper} {v:Value} {l:Array Bool} {a:Act} {w:World} (T:World→Prop) (hTS:∀ w,S w→T w) (hT:(∀ w,T w)∨depB md ops c i=true) (hi:ops[i]?=some oi)
  (hs:Region.noSelect ops=true) (hf:Region.free md ops l i=true) (hr:rdB md ops l i=true) (hci:i≠c) (hl:l.getD c true=false) (hc:c<ops.size)
  (hQ:∀ c a w,Q (.panic c) (a.put oi.dst v) w→Q (.panic c) a w) (hy:YieldsIf P ops T oi v a) (hS:S w)
  (h:AnyC P md ops Q S c (l.setIfInBounds i true) (a.put oi.dst v) w):AnyC P md ops Q S c l a w:=by
 intro fuel hfu
 have hm:=rdB_mem hr
 have h1:=left_of (mem_ready.1 hm).1
 obtain ⟨f,rfl⟩:∃ f,fuel=f+1:=⟨fuel - 1,by omega⟩
 have hlc:l.getD c false=false:=by
  rcases Nat.lt_or_ge c l.size with h' | h'
  ·simp [h'] at hl ⊢
   exact hl
  ·simp [Array.getElem?_eq_none h']
 refine wpAnyC_first hi (Region.noSelect_spec hs) hQ hci T hTS (Array.getElem?_eq_getElem hc) ?_ f l a w (Region.free_spec hi hf) hm hy (fun _=>hS) (.inr hlc) (h f (by omega))
 rcases hT with h | h
 ·exact .inl h
 ·refine .inr ?_
  unfold depB at h
  rw [Array.getElem?_eq_getElem hc] at h
  simp only [Option.map_some,Option.getD_some,Array.any_eq_true'] at h
  obtain ⟨e,he,h⟩:=h
  rw [Bool.and_eq_true] at h
  exact ⟨e,he,h.1,by simpa using h.2⟩
theorem anyC_last {o:Oper} {l:Array Bool} {a:Act} {w:World} (hr:Region.ready md ops l=[c]) (ho:ops[c]?=some o)
  (h:∀ K':Act→World→Prop,Shut (∀ a w,Any P md ops Q (fun _=>True) (l.setIfInBounds c true) a w→K' a w)→if Region.wanted o (yielded ops a.tmps)=true then Oper.wp P o a w K' Q else K' (a.put o.dst undef) w):AnyC P md ops Q S c l a w:=by
 intro fuel hfu
 have hm:c ∈ Region.ready md ops l:=by rw [hr]; exact List.mem_cons_self
 have h1:=left_of (mem_ready.1 hm).1
 obtain ⟨f,rfl⟩:∃ f,fuel=f+1:=⟨fuel - 1,by omega⟩
 have hsz:c<l.size:=by
  rcases Nat.lt_or_ge c l.size with h' | h'
  ·exact h'
  ·have:=(mem_ready.1 hm).1
   simp [Array.getElem?_eq_none h'] at this
 have hlc:(l.setIfInBounds c true).getD c false=true:=by simp [hsz]
 refine ⟨fun h=>(by rw [h] at hr; cases hr),fun j hj=>?_⟩
 rw [hr] at hj
 obtain rfl:j=c:=by simpa using hj
 refine wpOp_step ho (fun K' hK=>h K' (fun a w hA=>hK a w ⟨fun e=>?_,?_⟩))
 ·rw [hlc] at e
  cases e
 ·exact wpAnyC_free f _ a w hlc (hA f (by omega))
end
theorem turn_ok (x:Int) (n:Nat) (hn:1≤n∧n≤31) (w:World) :
  Calls Tryz.prog 132 #[.int .u32 x,.int .i64 n] w (fun r w'=>r=.returned (.int .u32 (lt x n))∧w'=w.drew):=by
 obtain ⟨m,hm⟩:∃ m,m=32 - n:=⟨_,rfl⟩
 have e1:32 - (n:Int)=(m:Int):=by omega
 have e2:IntKind.i64.wrap (m:Int)=(m:Int):=by rw [IntKind.wrap_i64]; omega
 have m0:0≤(m:Int):=by omega
 have n0:0≤(n:Int):=by omega
 replace hm:=hide hm
 go_enter Tryz.func132,Tryz.ntmps132
 go_wp2_with fail
 go_still_tail 8,(by kernel_rfl)
 go_wp2_with fail
 refine bodyPost_ret (v:=.int .u32 (lt x n)) ?_ rfl ⟨rfl,rfl⟩
 unfold lt
 rw [← unhide hm]
 simp [results,Tryz.results132,go_sem]
theorem turn_int (x m:Int) (hm:1≤m∧m≤31) (w:World) :
  Calls Tryz.prog 132 #[.int .u32 x,.int .i64 m] w (fun r w'=>r=.returned (.int .u32 (lt x m.toNat))∧w'=w.drew):=by
 obtain ⟨n,rfl⟩:=Int.eq_ofNat_of_zero_le (a:=m) (by omega)
 exact turn_ok x n (by omega) w
def qv (q:Q4):Value:=.tuple #[.int .u32 q.a,.int .u32 q.b,.int .u32 q.c,.int .u32 q.d]
theorem quarter_ok (a b c d:Int) (w:World) :
  Calls Tryz.prog 127 #[.int .u32 a,.int .u32 b,.int .u32 c,.int .u32 d] w (fun r w'=>r=.returned (qv (quar a b c d))∧Gr w w'):=by
 go_enter Tryz.func127,Tryz.ntmps127
 go_wp2_with (go_at_call 132; refine (turn_int _ _ (by omega) _).mono ?_; rintro e w1 ⟨rfl,rfl⟩)
 refine bodyPost_ret (v:=qv (quar a b c d)) ?_ rfl ⟨rfl,(Gr.refl w).drew.drew.drew.drew⟩
 simp [results,Tryz.results127,go_sem]
 simp only [qv,quar,ad_eq,xr,Int.emod_add_emod]
def qp (W:List Int) (a b c d:Nat):List Int :=
 let q:=quar (W.getD a 0) (W.getD b 0) (W.getD c 0) (W.getD d 0)
 (((W.set a q.a).set b q.b).set c q.c).set d q.d
theorem qp_len (W:List Int) (a b c d:Nat):(qp W a b c d).length=W.length:=by simp [qp]
def Qtr (w0:World) (g:Nat) (W:List Int) (L:List Blk) (a b c d:Nat) (r:Ending) (w':World):Prop:=r=.returned (.tuple #[])∧Bl w0 (⟨g,uc (qp W a b c d),135⟩::L) w'
def QS (g a b c d:Nat) (xa xb xc xd:Int) (v:World):Prop:=True∧v.cell? ⟨g,a,none⟩=some (.int .u32 xa)∧v.cell? ⟨g,b,none⟩=some (.int .u32 xb)∧v.cell? ⟨g,c,none⟩=some (.int .u32 xc)∧v.cell? ⟨g,d,none⟩=some (.int .u32 xd)
set_option maxHeartbeats 2000000 in
theorem rounds1_ok (w0:World) (g:Nat) (W:List Int) (hW:W.length=16) (L:List Blk) (a b c d:Nat) (ha:a<16) (hb:b<16) (hc:c<16) (hd:d<16) (w:World) (hB:Bl w0 (⟨g,uc W,135⟩::L) w) :
  Calls Tryz.prog 126 #[.int .i64 a,.int .i64 b,.int .i64 c,.int .i64 d,.pointer (some ⟨g,0,none⟩)] w (Qtr w0 g W L a b c d):=by
 obtain ⟨T,hT⟩:∃ T,T=Qtr w0 g W L a b c d:=⟨_,rfl⟩
 rw [← hT]
 unfold Qtr qp at hT
 replace hT:=hide hT
 have iA:(a:Int)<16:=by omega
 have iB:(b:Int)<16:=by omega
 have iC:(c:Int)<16:=by omega
 have iD:(d:Int)<16:=by omega
 replace hB:=hB.drew
 have c0:=uc_cell (hB.get 0 (x:=⟨g,uc W,135⟩) rfl) a (by omega)
 have c1:=uc_cell (hB.get 0 (x:=⟨g,uc W,135⟩) rfl) b (by omega)
 have c2:=uc_cell (hB.get 0 (x:=⟨g,uc W,135⟩) rfl) c (by omega)
 have c3:=uc_cell (hB.get 0 (x:=⟨g,uc W,135⟩) rfl) d (by omega)
 generalize W.getD a 0=xa at *
 generalize W.getD b 0=xb at *
 generalize W.getD c 0=xc at *
 generalize W.getD d 0=xd at *
 have hS:QS g a b c d xa xb xc xd w.drew:=⟨trivial,c0,c1,c2,c3⟩
 clear c0 c1 c2 c3
 replace hB:=hide hB
 go_enter Tryz.func126,Tryz.ntmps126
 go_upto_region 0 with fail
 replace hB:=unhide hB
 refine anyC_start 16 (QS g a b c d xa xb xc xd) (by kernel_rfl) ?_
 generalize World.drew _=w at *
 simp only [List.size_toArray,List.length_cons,List.length_nil,Array.replicate,List.replicate]
 refine anyC_take (i:=0) (v:=(.int .i64 a)) (fun _=>True) (fun _ _=>trivial) (.inl fun _=>trivial) rfl (by kernel_rfl) (by kernel_rfl) (by kernel_rfl) (by decide) (by kernel_rfl) (by decide) (fun _ _ _ h=>h) (.inl ⟨by kernel_rfl,fun x_ hu=>by kernel_rfl⟩) hS ?_
 simp only [nrm]
 refine anyC_take (i:=1) (v:=(.int .i64 b)) (fun _=>True) (fun _ _=>trivial) (.inl fun _=>trivial) rfl (by kernel_rfl) (by kernel_rfl) (by kernel_rfl) (by decide) (by kernel_rfl) (by decide) (fun _ _ _ h=>h) (.inl ⟨by kernel_rfl,fun x_ hu=>by kernel_rfl⟩) hS ?_
 simp only [nrm]
 refine anyC_take (i:=2) (v:=(.int .i64 c)) (fun _=>True) (fun _ _=>trivial) (.inl fun _=>trivial) rfl (by kernel_rfl) (by kernel_rfl) (by kernel_rfl) (by decide) (by kernel_rfl) (by decide) (fun _ _ _ h=>h) (.inl ⟨by kernel_rfl,fun x_ hu=>by kernel_rfl⟩) hS ?_
 simp only [nrm]
 refine anyC_take (i:=3) (v:=(.int .i64 d)) (fun _=>True) (fun _ _=>trivial) (.inl fun _=>trivial) rfl (by kernel_rfl) (by kernel_rfl) (by kernel_rfl) (by decide) (by kernel_rfl) (by decide) (fun _ _ _ h=>h) (.inl ⟨by kernel_rfl,fun x_ hu=>by kernel_rfl⟩) hS ?_
 simp only [nrm]
 refine anyC_take (i:=4) (v:=(.int .i64 a)) (fun _=>True) (fun _ _=>trivial) (.inl fun _=>trivial) rfl (by kernel_rfl) (by kernel_rfl) (by kernel_rfl) (by decide) (by kernel_rfl) (by decide) (fun _ _ _ h=>h) (.inl ⟨by kernel_rfl,fun x_ hu=>by kernel_rfl⟩) hS ?_
 simp only [nrm]
 refine anyC_take (i:=5) (v:=(.pointer (some ⟨g,a,none⟩))) (fun _=>True) (fun _ _=>trivial) (.inl fun _=>trivial) rfl (by kernel_rfl) (by kernel_rfl) (by kernel_rfl) (by decide) (by kernel_rfl) (by decide) (fun _ _ _ h=>h) (.inl ⟨by kernel_rfl,fun x_ hu=>by go_simp⟩) hS ?_
 simp only [nrm]
 refine anyC_take (i:=6) (v:=(.int .u32 xa)) _ (fun _ h=>h) (.inr (by kernel_rfl)) rfl (by kernel_rfl) (by kernel_rfl) (by kernel_rfl) (by decide) (by kernel_rfl) (by decide) (fun _ _ _ h=>h) (.inl ⟨by kernel_rfl,fun x_ hu=>by have c:=hu.2.1; clear hu hS hB; go_simp⟩) hS ?_
 simp only [nrm]
 refine anyC_take (i:=7) (v:=(.int .i64 b)) (fun _=>True) (fun _ _=>trivial) (.inl fun _=>trivial) rfl (by kernel_rfl) (by kernel_rfl) (by kernel_rfl) (by decide) (by kernel_rfl) (by decide) (fun _ _ _ h=>h) (.inl ⟨by kernel_rfl,fun x_ hu=>by kernel_rfl⟩) hS ?_
 simp only [nrm]
 refine anyC_take (i:=8) (v:=(.pointer (some ⟨g,b,none⟩))) (fun _=>True) (fun _ _=>trivial) (.inl fun _=>trivial) rfl (by kernel_rfl) (by kernel_rfl) (by kernel_rfl) (by decide) (by kernel_rfl) (by decide) (fun _ _ _ h=>h) (.inl ⟨by kernel_rfl,fun x_ hu=>by go_simp⟩) hS ?_
 simp only [nrm]
 refine anyC_take (i:=9) (v:=(.int .u32 xb)) _ (fun _ h=>h) (.inr (by kernel_rfl)) rfl (by kernel_rfl) (by kernel_rfl) (by kernel_rfl) (by decide) (by kernel_rfl) (by decide) (fun _ _ _ h=>h) (.inl ⟨by kernel_rfl,fun x_ hu=>by have c:=hu.2.2.1; clear hu hS hB; go_simp⟩) hS ?_
 simp only [nrm]
 refine anyC_take (i:=10) (v:=(.int .i64 c)) (fun _=>True) (fun _ _=>trivial) (.inl fun _=>trivial) rfl (by kernel_rfl) (by kernel_rfl) (by kernel_rfl) (by decide) (by kernel_rfl) (by decide) (fun _ _ _ h=>h) (.inl ⟨by kernel_rfl,fun x_ hu=>by kernel_rfl⟩) hS ?_
 simp only [nrm]
 refine anyC_take (i:=11) (v:=(.pointer (some ⟨g,c,none⟩))) (fun _=>True) (fun _ _=>trivial) (.inl fun _=>trivial) rfl (by kernel_rfl) (by kernel_rfl) (by kernel_rfl) (by decide) (by kernel_rfl) (by decide) (fun _ _ _ h=>h) (.inl ⟨by kernel_rfl,fun x_ hu=>by go_simp⟩) hS ?_
 simp only [nrm]
 refine anyC_take (i:=12) (v:=(.int .u32 xc)) _ (fun _ h=>h) (.inr (by kernel_rfl)) rfl (by kernel_rfl) (by kernel_rfl) (by kernel_rfl) (by decide) (by kernel_rfl) (by decide) (fun _ _ _ h=>h) (.inl ⟨by kernel_rfl,fun x_ hu=>by have c:=hu.2.2.2.1; clear hu hS hB; go_simp⟩) hS ?_
 simp only [nrm]
 refine anyC_take (i:=13) (v:=(.int .i64 d)) (fun _=>True) (fun _ _=>trivial) (.inl fun _=>trivial) rfl (by kernel_rfl) (by kernel_rfl) (by kernel_rfl) (by decide) (by kernel_rfl) (by decide) (fun _ _ _ h=>h) (.inl ⟨by kernel_rfl,fun x_ hu=>by kernel_rfl⟩) hS ?_
 simp only [nrm]
 refine anyC_take (i:=14) (v:=(.pointer (some ⟨g,d,none⟩))) (fun _=>True) (fun _ _=>trivial) (.inl fun _=>trivial) rfl (by kernel_rfl) (by kernel_rfl) (by kernel_rfl) (by decide) (by kernel_rfl) (by decide) (fun _ _ _ h=>h) (.inl ⟨by kernel_rfl,fun x_ hu=>by go_simp⟩) hS ?_
 simp only [nrm]
 refine anyC_take (i:=15) (v:=(.int .u32 xd)) _ (fun _ h=>h) (.inr (by kernel_rfl)) rfl (by kernel_rfl) (by kernel_rfl) (by kernel_rfl) (by decide) (by kernel_rfl) (by decide) (fun _ _ _ h=>h) (.inl ⟨by kernel_rfl,fun x_ hu=>by have c:=hu.2.2.2.2; clear hu hS hB; go_simp⟩) hS ?_
 simp only [nrm]
 refine anyC_last (by kernel_rfl) rfl (fun K hK=>?_)
 refine step_callw (by kernel_rfl) 127 #[.int .u32 xa,.int .u32 xb,.int .u32 xc,.int .u32 xd] (by kernel_rfl) ((quarter_ok xa xb xc xd _).mono ?_)
 rintro r v ⟨rfl,hg⟩
 refine ⟨_,rfl,?_⟩
 replace hB:=hB.more hg
 clear hg hS
 refine hK.out _ _ ?_
 clear hK K
 generalize quar xa xb xc xd=q at *
 simp only [nrm]
 refine any_take (i:=17) (v:=(qv q)) #[true,true,true,true,true,true,true,true,true,true,true,true,true,true,true,true,true,false,false,false,false,false,false,false,false,false,false,false,false,false] rfl (by kernel_rfl) (by kernel_rfl) (by kernel_rfl) (by kernel_rfl) (fun _ _ _ h=>h) (.inl ⟨by kernel_rfl,fun x_ hu=>by kernel_rfl⟩) trivial ?_
 simp only [nrm]
 refine any_take (i:=18) (v:=(.int .u32 q.a)) #[true,true,true,true,true,true,true,true,true,true,true,true,true,true,true,true,true,true,false,false,false,false,false,false,false,false,false,false,false,false] rfl (by kernel_rfl) (by kernel_rfl) (by kernel_rfl) (by kernel_rfl) (fun _ _ _ h=>h) (.inl ⟨by kernel_rfl,fun x_ hu=>by kernel_rfl⟩) trivial ?_
 simp only [nrm]
 refine any_take (i:=19) (v:=(.int .u32 q.b)) #[true,true,true,true,true,true,true,true,true,true,true,true,true,true,true,true,true,true,true,false,false,false,false,false,false,false,false,false,false,false] rfl (by kernel_rfl) (by kernel_rfl) (by kernel_rfl) (by kernel_rfl) (fun _ _ _ h=>h) (.inl ⟨by kernel_rfl,fun x_ hu=>by kernel_rfl⟩) trivial ?_
 simp only [nrm]
 refine any_take (i:=20) (v:=(.int .u32 q.c)) #[true,true,true,true,true,true,true,true,true,true,true,true,true,true,true,true,true,true,true,true,false,false,false,false,false,false,false,false,false,false] rfl (by kernel_rfl) (by kernel_rfl) (by kernel_rfl) (by kernel_rfl) (fun _ _ _ h=>h) (.inl ⟨by kernel_rfl,fun x_ hu=>by kernel_rfl⟩) trivial ?_
 simp only [nrm]
 refine any_take (i:=21) (v:=(.int .u32 q.d)) #[true,true,true,true,true,true,true,true,true,true,true,true,true,true,true,true,true,true,true,true,true,false,false,false,false,false,false,false,false,false] rfl (by kernel_rfl) (by kernel_rfl) (by kernel_rfl) (by kernel_rfl) (fun _ _ _ h=>h) (.inl ⟨by kernel_rfl,fun x_ hu=>by kernel_rfl⟩) trivial ?_
 simp only [nrm]
 refine any_take (i:=22) (v:=(.pointer (some ⟨g,a,none⟩))) #[true,true,true,true,true,true,true,true,true,true,true,true,true,true,true,true,true,true,true,true,true,true,false,false,false,false,false,false,false,false] rfl (by kernel_rfl) (by kernel_rfl) (by kernel_rfl) (by kernel_rfl) (fun _ _ _ h=>h) (.inl ⟨by kernel_rfl,fun x_ hu=>by go_simp⟩) trivial ?_
 simp only [nrm]
 have fz:=froz_of (i:=a) (hB.get 0 (x:=⟨g,uc (W),135⟩) rfl)
 have cz:=uc_cell (hB.get 0 (x:=⟨g,uc (W),135⟩) rfl) a (by (try simp only [List.length_set]); omega)
 generalize List.getD _ _ _=z0 at cz
 have hB2:=hB.cell 0 (x:=⟨g,uc (W),135⟩) rfl a (.int .u32 q.a)
 simp only [List.set_cons_zero,uc_set] at hB2
 clear hB
 refine any_one (i:=23) (by kernel_rfl) rfl (fun K hK=>?_)
 replace hK:=hide hK
 replace hB2:=hide hB2
 go_simp
 replace hB:=unhide hB2
 refine (unhide hK).out _ _ trivial (fun _=>?_)
 clear hK K hB2 fz cz
 generalize World.setCell _ _ _=v at *
 simp only [nrm]
 refine any_take (i:=24) (v:=(.pointer (some ⟨g,b,none⟩))) #[true,true,true,true,true,true,true,true,true,true,true,true,true,true,true,true,true,true,true,true,true,true,true,true,false,false,false,false,false,false] rfl (by kernel_rfl) (by kernel_rfl) (by kernel_rfl) (by kernel_rfl) (fun _ _ _ h=>h) (.inl ⟨by kernel_rfl,fun x_ hu=>by go_simp⟩) trivial ?_
 simp only [nrm]
 have fz:=froz_of (i:=b) (hB.get 0 (x:=⟨g,uc ((W).set a q.a),135⟩) rfl)
 have cz:=uc_cell (hB.get 0 (x:=⟨g,uc ((W).set a q.a),135⟩) rfl) b (by (try simp only [List.length_set]); omega)
 generalize List.getD _ _ _=z1 at cz
 have hB2:=hB.cell 0 (x:=⟨g,uc ((W).set a q.a),135⟩) rfl b (.int .u32 q.b)
 simp only [List.set_cons_zero,uc_set] at hB2
 clear hB
 refine any_one (i:=25) (by kernel_rfl) rfl (fun K hK=>?_)
 replace hK:=hide hK
 replace hB2:=hide hB2
 go_simp
 replace hB:=unhide hB2
 refine (unhide hK).out _ _ trivial (fun _=>?_)
 clear hK K hB2 fz cz
 generalize World.setCell _ _ _=v at *
 simp only [nrm]
 refine any_take (i:=26) (v:=(.pointer (some ⟨g,c,none⟩))) #[true,true,true,true,true,true,true,true,true,true,true,true,true,true,true,true,true,true,true,true,true,true,true,true,true,true,false,false,false,false] rfl (by kernel_rfl) (by kernel_rfl) (by kernel_rfl) (by kernel_rfl) (fun _ _ _ h=>h) (.inl ⟨by kernel_rfl,fun x_ hu=>by go_simp⟩) trivial ?_
 simp only [nrm]
 have fz:=froz_of (i:=c) (hB.get 0 (x:=⟨g,uc (((W).set a q.a).set b q.b),135⟩) rfl)
 have cz:=uc_cell (hB.get 0 (x:=⟨g,uc (((W).set a q.a).set b q.b),135⟩) rfl) c (by (try simp only [List.length_set]); omega)
 generalize List.getD _ _ _=z2 at cz
 have hB2:=hB.cell 0 (x:=⟨g,uc (((W).set a q.a).set b q.b),135⟩) rfl c (.int .u32 q.c)
 simp only [List.set_cons_zero,uc_set] at hB2
 clear hB
 refine any_one (i:=27) (by kernel_rfl) rfl (fun K hK=>?_)
 replace hK:=hide hK
 replace hB2:=hide hB2
 go_simp
 replace hB:=unhide hB2
 refine (unhide hK).out _ _ trivial (fun _=>?_)
 clear hK K hB2 fz cz
 generalize World.setCell _ _ _=v at *
 simp only [nrm]
 refine any_take (i:=28) (v:=(.pointer (some ⟨g,d,none⟩))) #[true,true,true,true,true,true,true,true,true,true,true,true,true,true,true,true,true,true,true,true,true,true,true,true,true,true,true,true,false,false] rfl (by kernel_rfl) (by kernel_rfl) (by kernel_rfl) (by kernel_rfl) (fun _ _ _ h=>h) (.inl ⟨by kernel_rfl,fun x_ hu=>by go_simp⟩) trivial ?_
 simp only [nrm]
 have fz:=froz_of (i:=d) (hB.get 0 (x:=⟨g,uc ((((W).set a q.a).set b q.b).set c q.c),135⟩) rfl)
 have cz:=uc_cell (hB.get 0 (x:=⟨g,uc ((((W).set a q.a).set b q.b).set c q.c),135⟩) rfl) d (by (try simp only [List.length_set]); omega)
 generalize List.getD _ _ _=z3 at cz
 have hB2:=hB.cell 0 (x:=⟨g,uc ((((W).set a q.a).set b q.b).set c q.c),135⟩) rfl d (.int .u32 q.d)
 simp only [List.set_cons_zero,uc_set] at hB2
 clear hB
 refine any_one (i:=29) (by kernel_rfl) rfl (fun K hK=>?_)
 replace hK:=hide hK
 replace hB2:=hide hB2
 go_simp
 replace hB:=unhide hB2
 refine (unhide hK).out _ _ trivial (fun _=>?_)
 clear hK K hB2 fz cz
 generalize World.setCell _ _ _=v at *
 simp only [nrm]
 refine any_done (by kernel_rfl) ?_
 go_end0
 rw [unhide hT]
 exact ⟨rfl,hB⟩
def dbl (W:List Int):List Int:=qp (qp (qp (qp (qp (qp (qp (qp W 0 4 8 12) 1 5 9 13) 2 6 10 14) 3 7 11 15) 0 5 10 15) 1 6 11 12) 2 7 8 13) 3 4 9 14
theorem dbl_len (W:List Int):(dbl W).length=W.length:=by
 unfold dbl
 simp only [qp_len]
def rn (W:List Int):Nat→List Int
 | 0=>W
 | n+1=>dbl (rn W n)
theorem rn_len (W:List Int):∀ n,(rn W n).length=W.length
 | 0=>rfl
 | n+1=>by rw [rn,dbl_len,rn_len W n]
def Z16:List Int:=List.replicate 16 0
theorem Tryz.info16:(Tryz.prog.info? 135).map (·.size)=some 16:=by kernel_rfl
theorem Tryz.info64:(Tryz.prog.info? 87).map (·.size)=some 64:=by kernel_rfl
def Rnd (W:List Int) (w:World) (r:Ending) (w':World):Prop:=r=.returned (.agg (uc W))∧Gr w w'
set_option maxHeartbeats 2000000 in
theorem rounds_ok (W:List Int) (hW:W.length=16) (w:World):Calls Tryz.prog 108 #[.agg (uc W)] w (Rnd (rn W 10) w):=by
 obtain ⟨T,hT⟩:∃ T,T=Rnd (rn W 10) w:=⟨_,rfl⟩
 rw [← hT]
 replace hT:=hide hT
 obtain ⟨S,hS⟩:∃ S,S=uc W:=⟨_,rfl⟩
 rw [← hS]
 replace hS:=hide hS
 have hmf:∀ (fn:Fn) (first cap:Array Value) (w:World),(Instr.makeFunc fn first cap).run Tryz.prog w=.ok (.func fn first cap) w:=fun _ _ _ _=>rfl
 go_enter Tryz.func108,Tryz.ntmps108
 go_wp2_with fail
 have hB:=((Bl.nil w).new S 135).new #[.int .u32 0,.int .u32 0,.int .u32 0,.int .u32 0,.int .u32 0,.int .u32 0,.int .u32 0,.int .u32 0,.int .u32 0,.int .u32 0,.int .u32 0,.int .u32 0,.int .u32 0,.int .u32 0,.int .u32 0,.int .u32 0] 135
 simp only [size_alloc,List.nil_append,List.cons_append] at hB
 generalize World.alloc _ _=u at *
 rw [unhide hS] at hB
 replace hB:Hid (Bl w [⟨w.heap.size,uc W,135⟩,⟨w.heap.size+1,uc Z16,135⟩] u):=hide hB
 go_loopw [5] (fun i wr=>∃ n:Nat,∃ m:List Int,n≤10∧i=.int .i64 n∧Hid (m=rn W n)∧Hid (Bl w [⟨w.heap.size,uc m,135⟩,⟨w.heap.size+1,uc Z16,135⟩] wr)) (fun i _=>10 - (intOf i).toNat)
 case atStart=>exact ⟨0,W,by omega,rfl,rfl,hB⟩
 case round =>
 clear hB
 obtain ⟨n,m,hn,rfl,hm,hB⟩:=hrel
 have hml:m.length=16:=by rw [unhide hm,rn_len]; exact hW
 by_cases hl:n<10
 ·have hm2:Hid (dbl m=rn W (n+1)):=by
   rw [unhide hm]
   rfl
  have nI:(n:Int)<10:=by omega
  go_upto_region 4 with fail
  replace hB:=unhide hB
  refine wp_region_lit ?_
  refine list_val (.func (.func 126) #[] #[.pointer (some ⟨w.heap.size,0,none⟩)]) (by kernel_rfl) (by kernel_rfl) ?_
  simp only [nrm]
  refine list_call 126 #[.int .i64 0,.int .i64 4,.int .i64 8,.int .i64 12,.pointer (some ⟨w.heap.size,0,none⟩)] (by kernel_rfl) (by kernel_rfl) ((rounds1_ok w w.heap.size m hml [⟨w.heap.size+1,uc Z16,135⟩] 0 4 8 12 (by decide) (by decide) (by decide) (by decide) _ hB).mono ?_)
  rintro r v0 ⟨rfl,hB2⟩
  refine ⟨_,rfl,?_⟩
  clear hB
  replace hml:=(qp_len m 0 4 8 12).trans hml
  generalize e1:qp m 0 4 8 12=m1 at hB2 hml
  replace e1:=hide e1
  simp only [nrm]
  refine wpList_nil ?_
  replace hB:=hide hB2
  clear hB2
  go_upto_region 5 with fail
  replace hB:=unhide hB
  refine wp_region_lit ?_
  refine list_val (.func (.func 126) #[] #[.pointer (some ⟨w.heap.size,0,none⟩)]) (by kernel_rfl) (by kernel_rfl) ?_
  simp only [nrm]
  refine list_call 126 #[.int .i64 1,.int .i64 5,.int .i64 9,.int .i64 13,.pointer (some ⟨w.heap.size,0,none⟩)] (by kernel_rfl) (by kernel_rfl) ((rounds1_ok w w.heap.size m1 hml [⟨w.heap.size+1,uc Z16,135⟩] 1 5 9 13 (by decide) (by decide) (by decide) (by decide) _ hB).mono ?_)
  rintro r v1 ⟨rfl,hB2⟩
  refine ⟨_,rfl,?_⟩
  clear hB
  replace hml:=(qp_len m1 1 5 9 13).trans hml
  generalize e2:qp m1 1 5 9 13=m2 at hB2 hml
  replace e2:=hide e2
  simp only [nrm]
  refine wpList_nil ?_
  replace hB:=hide hB2
  clear hB2
  go_upto_region 6 with fail
  replace hB:=unhide hB
  refine wp_region_lit ?_
  refine list_val (.func (.func 126) #[] #[.pointer (some ⟨w.heap.size,0,none⟩)]) (by kernel_rfl) (by kernel_rfl) ?_
  simp only [nrm]
  refine list_call 126 #[.int .i64 2,.int .i64 6,.int .i64 10,.int .i64 14,.pointer (some ⟨w.heap.size,0,none⟩)] (by kernel_rfl) (by kernel_rfl) ((rounds1_ok w w.heap.size m2 hml [⟨w.heap.size+1,uc Z16,135⟩] 2 6 10 14 (by decide) (by decide) (by decide) (by decide) _ hB).mono ?_)
  rintro r v2 ⟨rfl,hB2⟩
  refine ⟨_,rfl,?_⟩
  clear hB
  replace hml:=(qp_len m2 2 6 10 14).trans hml
  generalize e3:qp m2 2 6 10 14=m3 at hB2 hml
  replace e3:=hide e3
  simp only [nrm]
  refine wpList_nil ?_
  replace hB:=hide hB2
  clear hB2
  go_upto_region 7 with fail
  replace hB:=unhide hB
  refine wp_region_lit ?_
  refine list_val (.func (.func 126) #[] #[.pointer (some ⟨w.heap.size,0,none⟩)]) (by kernel_rfl) (by kernel_rfl) ?_
  simp only [nrm]
  refine list_call 126 #[.int .i64 3,.int .i64 7,.int .i64 11,.int .i64 15,.pointer (some ⟨w.heap.size,0,none⟩)] (by kernel_rfl) (by kernel_rfl) ((rounds1_ok w w.heap.size m3 hml [⟨w.heap.size+1,uc Z16,135⟩] 3 7 11 15 (by decide) (by decide) (by decide) (by decide) _ hB).mono ?_)
  rintro r v3 ⟨rfl,hB2⟩
  refine ⟨_,rfl,?_⟩
  clear hB
  replace hml:=(qp_len m3 3 7 11 15).trans hml
  generalize e4:qp m3 3 7 11 15=m4 at hB2 hml
  replace e4:=hide e4
  simp only [nrm]
  refine wpList_nil ?_
  replace hB:=hide hB2
  clear hB2
  go_upto_region 8 with fail
  replace hB:=unhide hB
  refine wp_region_lit ?_
  refine list_val (.func (.func 126) #[] #[.pointer (some ⟨w.heap.size,0,none⟩)]) (by kernel_rfl) (by kernel_rfl) ?_
  simp only [nrm]
  refine list_call 126 #[.int .i64 0,.int .i64 5,.int .i64 10,.int .i64 15,.pointer (some ⟨w.heap.size,0,none⟩)] (by kernel_rfl) (by kernel_rfl) ((rounds1_ok w w.heap.size m4 hml [⟨w.heap.size+1,uc Z16,135⟩] 0 5 10 15 (by decide) (by decide) (by decide) (by decide) _ hB).mono ?_)
  rintro r v4 ⟨rfl,hB2⟩
  refine ⟨_,rfl,?_⟩
  clear hB
  replace hml:=(qp_len m4 0 5 10 15).trans hml
  generalize e5:qp m4 0 5 10 15=m5 at hB2 hml
  replace e5:=hide e5
  simp only [nrm]
  refine wpList_nil ?_
  replace hB:=hide hB2
  clear hB2
  go_upto_region 9 with fail
  replace hB:=unhide hB
  refine wp_region_lit ?_
  refine list_val (.func (.func 126) #[] #[.pointer (some ⟨w.heap.size,0,none⟩)]) (by kernel_rfl) (by kernel_rfl) ?_
  simp only [nrm]
  refine list_call 126 #[.int .i64 1,.int .i64 6,.int .i64 11,.int .i64 12,.pointer (some ⟨w.heap.size,0,none⟩)] (by kernel_rfl) (by kernel_rfl) ((rounds1_ok w w.heap.size m5 hml [⟨w.heap.size+1,uc Z16,135⟩] 1 6 11 12 (by decide) (by decide) (by decide) (by decide) _ hB).mono ?_)
  rintro r v5 ⟨rfl,hB2⟩
  refine ⟨_,rfl,?_⟩
  clear hB
  replace hml:=(qp_len m5 1 6 11 12).trans hml
  generalize e6:qp m5 1 6 11 12=m6 at hB2 hml
  replace e6:=hide e6
  simp only [nrm]
  refine wpList_nil ?_
  replace hB:=hide hB2
  clear hB2
  go_upto_region 10 with fail
  replace hB:=unhide hB
  refine wp_region_lit ?_
  refine list_val (.func (.func 126) #[] #[.pointer (some ⟨w.heap.size,0,none⟩)]) (by kernel_rfl) (by kernel_rfl) ?_
  simp only [nrm]
  refine list_call 126 #[.int .i64 2,.int .i64 7,.int .i64 8,.int .i64 13,.pointer (some ⟨w.heap.size,0,none⟩)] (by kernel_rfl) (by kernel_rfl) ((rounds1_ok w w.heap.size m6 hml [⟨w.heap.size+1,uc Z16,135⟩] 2 7 8 13 (by decide) (by decide) (by decide) (by decide) _ hB).mono ?_)
  rintro r v6 ⟨rfl,hB2⟩
  refine ⟨_,rfl,?_⟩
  clear hB
  replace hml:=(qp_len m6 2 7 8 13).trans hml
  generalize e7:qp m6 2 7 8 13=m7 at hB2 hml
  replace e7:=hide e7
  simp only [nrm]
  refine wpList_nil ?_
  replace hB:=hide hB2
  clear hB2
  go_upto_region 11 with fail
  replace hB:=unhide hB
  refine wp_region_lit ?_
  refine list_val (.func (.func 126) #[] #[.pointer (some ⟨w.heap.size,0,none⟩)]) (by kernel_rfl) (by kernel_rfl) ?_
  simp only [nrm]
  refine list_call 126 #[.int .i64 3,.int .i64 4,.int .i64 9,.int .i64 14,.pointer (some ⟨w.heap.size,0,none⟩)] (by kernel_rfl) (by kernel_rfl) ((rounds1_ok w w.heap.size m7 hml [⟨w.heap.size+1,uc Z16,135⟩] 3 4 9 14 (by decide) (by decide) (by decide) (by decide) _ hB).mono ?_)
  rintro r v7 ⟨rfl,hB2⟩
  refine ⟨_,rfl,?_⟩
  clear hB
  replace hml:=(qp_len m7 3 4 9 14).trans hml
  generalize e8:qp m7 3 4 9 14=m8 at hB2 hml
  replace e8:=hide e8
  simp only [nrm]
  refine wpList_nil ?_
  replace hB:=hide hB2
  clear hB2
  have hm3:Hid (m8=rn W (n+1)):=by
   rw [← unhide hm2]
   unfold dbl
   rw [unhide e1,unhide e2,unhide e3,unhide e4,unhide e5,unhide e6,unhide e7,unhide e8]
   exact rfl
  clear e1 e2 e3 e4 e5 e6 e7 e8 hm2 hm
  go_wp2_with fail
  go_roundw
  case rel=>exact ⟨n+1,m8,by omega,by go_num,hm3,hB⟩
  case measure=>simp [intOf]; omega
 ·have e:n=10:=by omega
  subst e
  go_upto_region 13 with fail
  replace hB:=unhide hB
  have hl16:=(rn_len W 10).trans hW
  rw [unhide hm] at hB
  generalize rn W 10=M at *
  refine wp_region_lit ?_
  refine list_val (.agg (uc M)) (by kernel_rfl) (exec_arr _ 135 (.tmp 1) rfl (w.heap.size) (by kernel_rfl) (uc M) 135 _ (hB.get 0 (x:=⟨w.heap.size,uc M,135⟩) rfl) Tryz.underlying135 rfl (by rw [Tryz.info16,uc_size,hl16])) ?_
  simp only [nrm]
  refine list_store 135 (.tmp 2) (.tmp 24) (w.heap.size+1) (uc M) 135 (uc Z16) (by kernel_rfl) rfl (by kernel_rfl) (by kernel_rfl) (hB.get 1 (x:=⟨w.heap.size+1,uc Z16,135⟩) rfl) (by rw [Tryz.info16,uc_size,hl16]) ((show (uc Z16).size=16 from rfl).trans ((uc_size _).trans hl16).symm) (uc_one _) ?_
  replace hB:=hB.set 1 (x:=⟨w.heap.size+1,uc Z16,135⟩) rfl (uc M)
  simp only [List.set_cons_zero,List.set_cons_succ] at hB
  generalize World.setRow _ _ _=u3 at *
  simp only [nrm]
  refine wpList_nil ?_
  go_wp2_with fail
  rw [unhide hT]
  exact bodyPost_ret (v:=.agg (uc M)) (results_cell_row Tryz.results108 _ _ (w.heap.size+1) 135 (uc M) (0,0) _ rfl (hB.get 1 (x:=⟨w.heap.size+1,uc M,135⟩) rfl) Tryz.underlying135 rfl (by rw [Tryz.info16,uc_size,hl16])) rfl (⟨rfl,hB.gr⟩)
end Go.Proofs.YthahhglbeafkmaaGreatDoor
namespace Go.Proofs.YthahhglbeafkmaaGreatDoor
open Go.RowKit
set_option maxRecDepth 100000
set_option linter.unusedSimpArgs false
set_option linter.unusedVariables false
theorem index_W (SB:Array Value) (n:Nat) (x:Int) (hn:n<16) (h:SB[n]?=some (.int .u32 x)) (w:World):(Instr.index 135 (.agg SB) (.int .i64 n)).run Tryz.prog w=.ok (.int .u32 x) w:=by
 simp [Instr.index,run_underlying Tryz.underlying135,asIntOf,go_sem]
 rw [if_pos hn,h]
 rfl
theorem index_K (SB:Array Value) (n:Nat) (x:Int) (hn:n<32) (h:SB[n]?=some (.int .u8 x)) (w:World):(Instr.index 23 (.agg SB) (.int .i64 n)).run Tryz.prog w=.ok (.int .u8 x) w:=by
 simp [Instr.index,run_underlying Tryz.underlying23,asIntOf,go_sem]
 rw [if_pos hn,h]
 rfl
theorem index_N (SB:Array Value) (n:Nat) (x:Int) (hn:n<12) (h:SB[n]?=some (.int .u8 x)) (w:World):(Instr.index 64 (.agg SB) (.int .i64 n)).run Tryz.prog w=.ok (.int .u8 x) w:=by
 simp [Instr.index,run_underlying Tryz.underlying64,asIntOf,go_sem]
 rw [if_pos hn,h]
 rfl
def smf (A B:List Int) (i:Nat):Int:=ad (A.getD i 0) (B.getD i 0)
def sm (A B:List Int):List Int:=(List.range 16).map (smf A B)
theorem sm_len (A B:List Int):(sm A B).length=16:=by simp [sm]
set_option maxHeartbeats 2000000 in
theorem and_ok (A B:List Int) (hA:A.length=16) (hB0:B.length=16) (w:World):Calls Tryz.prog 109 #[.agg (uc A),.agg (uc B)] w (Rnd (sm A B) w):=by
 obtain ⟨T,hT⟩:∃ T,T=Rnd (sm A B) w:=⟨_,rfl⟩
 rw [← hT]
 replace hT:=hide hT
 obtain ⟨SA,hSA⟩:∃ S,S=uc A:=⟨_,rfl⟩
 obtain ⟨SB,hSB⟩:∃ S,S=uc B:=⟨_,rfl⟩
 rw [← hSA,← hSB]
 have hgB:∀ n,n<16→SB[n]?=some (.int .u32 (B.getD n 0)):=fun n hn=>by rw [hSB]; exact uc_get B n (by omega)
 have hSs:SB.size=16:=by rw [hSB,uc_size,hB0]
 replace hSA:=hide hSA
 replace hgB:=hide hgB
 clear hSB
 go_enter Tryz.func109,Tryz.ntmps109
 go_upto_region 1 with fail
 have hB:=(((Bl.nil w).new SA 135).new SB 135).new #[.int .u32 0,.int .u32 0,.int .u32 0,.int .u32 0,.int .u32 0,.int .u32 0,.int .u32 0,.int .u32 0,.int .u32 0,.int .u32 0,.int .u32 0,.int .u32 0,.int .u32 0,.int .u32 0,.int .u32 0,.int .u32 0] 135
 simp only [size_alloc,List.nil_append,List.cons_append] at hB
 generalize World.alloc _ _=u at *
 rw [unhide hSA] at hB
 replace hB:Bl w [⟨w.heap.size,uc A,135⟩,⟨w.heap.size+1,SB,135⟩,⟨w.heap.size+1+1,uc Z16,135⟩] u:=hB
 refine wp_region_lit ?_
 refine list_val (.agg SB) (by kernel_rfl) (exec_arr _ 135 (.tmp 3) rfl (w.heap.size+1) (by kernel_rfl) SB 135 _ (hB.get 1 (x:=⟨w.heap.size+1,SB,135⟩) rfl) Tryz.underlying135 rfl (by rw [Tryz.info16,hSs])) ?_
 simp only [nrm]
 refine list_val (.int .i64 0) (by kernel_rfl) (by kernel_rfl) ?_
 simp only [nrm]
 refine wpList_nil ?_
 replace hB:=hide hB
 go_wp2_with fail
 go_loopw [8] (fun i wr=>∃ n:Nat,∃ m:List Int,n≤16∧i=.int .i64 n∧Hid (m=fil (smf A B) n A)∧Hid (Bl w [⟨w.heap.size,uc m,135⟩,⟨w.heap.size+1,SB,135⟩,⟨w.heap.size+1+1,uc Z16,135⟩] wr)) (fun i _=>16 - (intOf i).toNat)
 case atStart=>exact ⟨0,A,by omega,rfl,(fil_zero _ _).symm,hB⟩
 case round =>
 clear hB
 obtain ⟨n,m,hn,rfl,hm,hB⟩:=hrel
 have hml:m.length=16:=by rw [unhide hm,fil_len _ _ _ (by omega)]; exact hA
 by_cases hl:n<16
 ·have cx:=index_W SB n _ hl ((unhide hgB) n hl)
  have c0:=uc_cell ((unhide hB).get 0 (x:=⟨w.heap.size,uc m,135⟩) rfl) n (by omega)
  have fz:=froz_of (i:=n) ((unhide hB).get 0 (x:=⟨w.heap.size,uc m,135⟩) rfl)
  have e0:m.getD n 0=A.getD n 0:=by rw [unhide hm,fil_hi _ _ _ _ (Nat.le_refl n) (by omega)]
  rw [e0] at c0
  have hm2:Hid (m.set n (smf A B n)=fil (smf A B) (n+1) A):=by
   rw [unhide hm]
   exact fil_set _ _ _ (by omega)
  have hB2:=(unhide hB).cell 0 (x:=⟨w.heap.size,uc m,135⟩) rfl n (.int .u32 (smf A B n))
  simp only [List.set_cons_zero,uc_set] at hB2
  have hs:smf A B n=ad (A.getD n 0) (B.getD n 0):=rfl
  rw [hs] at hB2 hm2
  clear hs e0
  generalize A.getD n 0=x at *
  generalize B.getD n 0=y at *
  replace hB2:=hide hB2
  have nI:(n:Int)<16:=by omega
  clear hn
  go_wp2_with fail
  go_roundw
  case rel=>exact ⟨n+1,_,by omega,by go_num,hm2,hB2⟩
  case measure=>simp [intOf]; omega
 ·have e:n=16:=by omega
  subst e
  have hM:m=sm A B:=by
   rw [unhide hm]
   unfold sm
   rw [← hA]
   exact fil_all _ _
  clear hm
  go_upto_region 6 with fail
  replace hB:=unhide hB
  refine wp_region_lit ?_
  refine list_val (.agg (uc m)) (by kernel_rfl) (exec_arr _ 135 (.tmp 2) rfl (w.heap.size) (by kernel_rfl) (uc m) 135 _ (hB.get 0 (x:=⟨w.heap.size,uc m,135⟩) rfl) Tryz.underlying135 rfl (by rw [Tryz.info16,uc_size,hml])) ?_
  simp only [nrm]
  refine list_store 135 (.tmp 4) (.tmp 19) (w.heap.size+1+1) (uc m) 135 (uc Z16) (by kernel_rfl) rfl (by kernel_rfl) (by kernel_rfl) (hB.get 2 (x:=⟨w.heap.size+1+1,uc Z16,135⟩) rfl) (by rw [Tryz.info16,uc_size,hml]) ((show (uc Z16).size=16 from rfl).trans ((uc_size _).trans hml).symm) (uc_one _) ?_
  replace hB:=hB.set 2 (x:=⟨w.heap.size+1+1,uc Z16,135⟩) rfl (uc m)
  simp only [List.set_cons_zero,List.set_cons_succ] at hB
  generalize World.setRow _ _ _=u3 at *
  simp only [nrm]
  refine wpList_nil ?_
  go_wp2_with fail
  rw [unhide hT,← hM]
  exact bodyPost_ret (v:=.agg (uc m)) (results_cell_row Tryz.results109 _ _ (w.heap.size+1+1) 135 (uc m) (0,0) _ rfl (hB.get 2 (x:=⟨w.heap.size+1+1,uc m,135⟩) rfl) Tryz.underlying135 rfl (by rw [Tryz.info16,uc_size,hml])) rfl (⟨rfl,hB.gr⟩)
def btf (W:List Int) (i:Nat):Int:=W.getD (i / 4) 0 / 2 ^ (i % 4 * 8) % 256
def bts (W:List Int):List Int:=(List.range 64).map (btf W)
theorem bts_len (W:List Int):(bts W).length=64:=by simp [bts]
def Bts (W:List Int) (w:World) (r:Ending) (w':World):Prop:=r=.returned (.agg (kc W))∧Gr w w'
set_option maxHeartbeats 2000000 in
theorem bytes_ok (A:List Int) (hA:A.length=16) (w:World):Calls Tryz.prog 110 #[.agg (uc A)] w (Bts (bts A) w):=by
 obtain ⟨T,hT⟩:∃ T,T=Bts (bts A) w:=⟨_,rfl⟩
 rw [← hT]
 replace hT:=hide hT
 obtain ⟨SA,hSA⟩:∃ S,S=uc A:=⟨_,rfl⟩
 rw [← hSA]
 replace hSA:=hide hSA
 go_enter Tryz.func110,Tryz.ntmps110
 go_wp2_with fail
 have hB:=(((Bl.nil w).new SA 135).new #[.int .u8 0,.int .u8 0,.int .u8 0,.int .u8 0,.int .u8 0,.int .u8 0,.int .u8 0,.int .u8 0,.int .u8 0,.int .u8 0,.int .u8 0,.int .u8 0,.int .u8 0,.int .u8 0,.int .u8 0,.int .u8 0,.int .u8 0,.int .u8 0,.int .u8 0,.int .u8 0,.int .u8 0,.int .u8 0,.int .u8 0,.int .u8 0,.int .u8 0,.int .u8 0,.int .u8 0,.int .u8 0,.int .u8 0,.int .u8 0,.int .u8 0,.int .u8 0,.int .u8 0,.int .u8 0,.int .u8 0,.int .u8 0,.int .u8 0,.int .u8 0,.int .u8 0,.int .u8 0,.int .u8 0,.int .u8 0,.int .u8 0,.int .u8 0,.int .u8 0,.int .u8 0,.int .u8 0,.int .u8 0,.int .u8 0,.int .u8 0,.int .u8 0,.int .u8 0,.int .u8 0,.int .u8 0,.int .u8 0,.int .u8 0,.int .u8 0,.int .u8 0,.int .u8 0,.int .u8 0,.int .u8 0,.int .u8 0,.int .u8 0,.int .u8 0] 87).new #[.int .u8 0,.int .u8 0,.int .u8 0,.int .u8 0,.int .u8 0,.int .u8 0,.int .u8 0,.int .u8 0,.int .u8 0,.int .u8 0,.int .u8 0,.int .u8 0,.int .u8 0,.int .u8 0,.int .u8 0,.int .u8 0,.int .u8 0,.int .u8 0,.int .u8 0,.int .u8 0,.int .u8 0,.int .u8 0,.int .u8 0,.int .u8 0,.int .u8 0,.int .u8 0,.int .u8 0,.int .u8 0,.int .u8 0,.int .u8 0,.int .u8 0,.int .u8 0,.int .u8 0,.int .u8 0,.int .u8 0,.int .u8 0,.int .u8 0,.int .u8 0,.int .u8 0,.int .u8 0,.int .u8 0,.int .u8 0,.int .u8 0,.int .u8 0,.int .u8 0,.int .u8 0,.int .u8 0,.int .u8 0,.int .u8 0,.int .u8 0,.int .u8 0,.int .u8 0,.int .u8 0,.int .u8 0,.int .u8 0,.int .u8 0,.int .u8 0,.int .u8 0,.int .u8 0,.int .u8 0,.int .u8 0,.int .u8 0,.int .u8 0,.int .u8 0] 87
 simp only [size_alloc,List.nil_append,List.cons_append] at hB
 generalize World.alloc _ _=u at *
 rw [unhide hSA] at hB
 replace hB:Hid (Bl w [⟨w.heap.size,uc A,135⟩,⟨w.heap.size+1,kc Z64,87⟩,⟨w.heap.size+1+1,kc Z64,87⟩] u):=hide hB
 go_loopw [5] (fun i wr=>∃ n:Nat,∃ m:List Int,n≤64∧i=.int .i64 n∧Hid (m=fil (btf A) n Z64)∧Hid (Bl w [⟨w.heap.size,uc A,135⟩,⟨w.heap.size+1,kc Z64,87⟩,⟨w.heap.size+1+1,kc m,87⟩] wr)) (fun i _=>64 - (intOf i).toNat)
 case atStart=>exact ⟨0,Z64,by omega,rfl,(fil_zero _ _).symm,hB⟩
 case round =>
 clear hB
 obtain ⟨n,m,hn,rfl,hm,hB⟩:=hrel
 have hzl:Z64.length=64:=rfl
 have hml:m.length=64:=by rw [unhide hm,fil_len _ _ _ (by omega)]; rfl
 by_cases hl:n<64
 ·obtain ⟨q,hq⟩:∃ q,q=n / 4:=⟨_,rfl⟩
  obtain ⟨s,hs⟩:∃ s,s=n % 4:=⟨_,rfl⟩
  obtain ⟨s8,hs8⟩:∃ s8,s8=n % 4 * 8:=⟨_,rfl⟩
  have c0:=uc_cell ((unhide hB).get 0 (x:=⟨w.heap.size,uc A,135⟩) rfl) q (by omega)
  have c1:=kc_cell ((unhide hB).get 2 (x:=⟨w.heap.size+1+1,kc m,87⟩) rfl) n (by omega)
  have fz:=froz_of (i:=n) ((unhide hB).get 2 (x:=⟨w.heap.size+1+1,kc m,87⟩) rfl)
  generalize m.getD n 0=z at c1
  have hm2:Hid (m.set n (btf A n)=fil (btf A) (n+1) Z64):=by
   rw [unhide hm]
   exact fil_set _ _ _ (by omega)
  have hB2:=(unhide hB).cell 2 (x:=⟨w.heap.size+1+1,kc m,87⟩) rfl n (.int .u8 (btf A n))
  simp only [List.set_cons_zero,List.set_cons_succ,kc_set] at hB2
  have hf:btf A n=A.getD q 0 / 2 ^ s8 % 256:=by rw [hq,hs8]; rfl
  rw [hf] at hB2 hm2
  clear hf
  generalize A.getD q 0=x at *
  replace hB2:=hide hB2
  have nI:(n:Int)<64:=by omega
  have nT:0≤(n:Int):=by omega
  have qI:(q:Int)<16:=by omega
  have q2:q<16:=by omega
  have e1:(n:Int).tdiv 4=(q:Int):=by rw [Int.tdiv_eq_ediv_of_nonneg nT]; omega
  have e2:(n:Int).tmod 4=(s:Int):=by rw [Int.tmod_eq_emod_of_nonneg nT]; omega
  have e3:(s:Int) * 8=(s8:Int):=by omega
  have g1:IntKind.i64.wrap (q:Int)=(q:Int):=by rw [IntKind.wrap_i64]; omega
  have g2:IntKind.i64.wrap (s8:Int)=(s8:Int):=by rw [IntKind.wrap_i64]; omega
  have g3:0≤(s8:Int):=by omega
  have g4:s8≤32:=by omega
  have g5:min s8 32=s8:=by omega
  replace hq:=hide hq
  replace hs:=hide hs
  replace hs8:=hide hs8
  clear hn
  go_wp2_with fail
  go_roundw
  case rel=>exact ⟨n+1,_,by omega,by go_num,hm2,hB2⟩
  case measure=>simp [intOf]; omega
 ·have e:n=64:=by omega
  subst e
  have hM:m=bts A:=by
   rw [unhide hm]
   have h:=fil_all (btf A) Z64
   rw [hzl] at h
   exact h
  clear hm
  go_upto_region 7 with fail
  replace hB:=unhide hB
  refine wp_region_lit ?_
  refine list_val (.agg (kc m)) (by kernel_rfl) (exec_arr _ 87 (.tmp 3) rfl (w.heap.size+1+1) (by kernel_rfl) (kc m) 87 _ (hB.get 2 (x:=⟨w.heap.size+1+1,kc m,87⟩) rfl) Tryz.underlying87 rfl (by rw [Tryz.info64,kc_size,hml])) ?_
  simp only [nrm]
  refine list_store 87 (.tmp 2) (.tmp 20) (w.heap.size+1) (kc m) 87 (kc Z64) (by kernel_rfl) rfl (by kernel_rfl) (by kernel_rfl) (hB.get 1 (x:=⟨w.heap.size+1,kc Z64,87⟩) rfl) (by rw [Tryz.info64,kc_size,hml]) ((show (kc Z64).size=64 from rfl).trans ((kc_size _).trans hml).symm) (kc_one _) ?_
  replace hB:=hB.set 1 (x:=⟨w.heap.size+1,kc Z64,87⟩) rfl (kc m)
  simp only [List.set_cons_zero,List.set_cons_succ] at hB
  generalize World.setRow _ _ _=u3 at *
  simp only [nrm]
  refine wpList_nil ?_
  go_wp2_with fail
  rw [unhide hT,← hM]
  exact bodyPost_ret (v:=.agg (kc m)) (results_cell_row Tryz.results110 _ _ (w.heap.size+1) 87 (kc m) (0,0) _ rfl (hB.get 1 (x:=⟨w.heap.size+1,kc m,87⟩) rfl) Tryz.underlying87 rfl (by rw [Tryz.info64,kc_size,hml])) rfl (⟨rfl,hB.gr⟩)
def W0:List Int:=[1634760805,857760878,2036477234,1797285236,0,0,0,0,0,0,0,0,0,0,0,0]
def kst (p n:Nat) (c:Int) (W:List Int):List Int:=W.set (p+n / 4) (bits .or .u32 (W.getD (p+n / 4) 0) (c * 2 ^ (n % 4 * 8) % 4294967296))
def kw (p:Nat) (K W:List Int):Nat→List Int
 | 0=>W
 | n+1=>kst p n (K.getD n 0) (kw p K W n)
theorem kw_len (p:Nat) (K W:List Int):∀ n,(kw p K W n).length=W.length
 | 0=>rfl
 | n+1=>by rw [kw,kst,List.length_set,kw_len p K W n]
def bg (K N:List Int):List Int:=kw 13 N (kw 4 K W0 32) 12
theorem bg_len (K N:List Int):(bg K N).length=16:=by unfold bg; rw [kw_len,kw_len]; rfl
theorem Tryz.infoN:(Tryz.prog.info? 64).map (·.size)=some 12:=by kernel_rfl
set_option maxHeartbeats 4000000 in
theorem begin_ok (K N:List Int) (hK:K.length=32) (hN:N.length=12) (hKb:IsB K) (hNb:IsB N) (w:World):Calls Tryz.prog 86 #[.agg (kc K),.agg (kc N)] w (Rnd (bg K N) w):=by
 obtain ⟨T,hT⟩:∃ T,T=Rnd (bg K N) w:=⟨_,rfl⟩
 rw [← hT]
 replace hT:=hide hT
 obtain ⟨SK,hSK⟩:∃ S,S=kc K:=⟨_,rfl⟩
 obtain ⟨SN,hSN⟩:∃ S,S=kc N:=⟨_,rfl⟩
 rw [← hSK,← hSN]
 have hKs:SK.size=32:=by rw [hSK,kc_size,hK]
 have hNs:SN.size=12:=by rw [hSN,kc_size,hN]
 replace hSK:Hid (∀ n,n<32→SK[n]?=some (.int .u8 (K.getD n 0))):=fun n hn=>by rw [hSK]; exact kc_get K n (by omega)
 replace hSN:Hid (∀ n,n<12→SN[n]?=some (.int .u8 (N.getD n 0))):=fun n hn=>by rw [hSN]; exact kc_get N n (by omega)
 replace hKb:=hide hKb
 replace hNb:=hide hNb
 go_enter Tryz.func86,Tryz.ntmps86
 go_upto_region 1 with fail
 have hB:=(((Bl.nil w).new SK 23).new SN 64).new #[.int .u32 0,.int .u32 0,.int .u32 0,.int .u32 0,.int .u32 0,.int .u32 0,.int .u32 0,.int .u32 0,.int .u32 0,.int .u32 0,.int .u32 0,.int .u32 0,.int .u32 0,.int .u32 0,.int .u32 0,.int .u32 0] 135
 simp only [size_alloc,List.nil_append,List.cons_append] at hB
 generalize World.alloc _ _=u at *
 refine wp_region_lit ?_
 refine list_val (.agg (uc W0)) (by kernel_rfl) (by kernel_rfl) ?_
 simp only [nrm]
 replace hB:=hide hB
 iterate 1 (refine wpList_step fun K hK=>?_; replace hK:=hide hK; go_simp; refine unhide hK _ _ ?_; clear hK K)
 replace hB:=(unhide hB).new #[.int .u32 0,.int .u32 0,.int .u32 0,.int .u32 0,.int .u32 0,.int .u32 0,.int .u32 0,.int .u32 0,.int .u32 0,.int .u32 0,.int .u32 0,.int .u32 0,.int .u32 0,.int .u32 0,.int .u32 0,.int .u32 0] 135
 simp only [List.nil_append,List.cons_append] at hB
 generalize World.alloc _ _=u1 at *
 generalize u.heap.size=h3 at *
 replace hB:Bl w [⟨w.heap.size,SK,23⟩,⟨w.heap.size+1,SN,64⟩,⟨w.heap.size+1+1,uc Z16,135⟩,⟨h3,uc Z16,135⟩] u1:=hB
 refine list_store 135 (.tmp 5) (.tmp 10) (h3) (uc W0) 135 (uc Z16) (by kernel_rfl) rfl (by kernel_rfl) (by kernel_rfl) (hB.get 3 (x:=⟨h3,uc Z16,135⟩) rfl) (by rw [Tryz.info16,uc_size,(show W0.length=16 from rfl)]) ((show (uc Z16).size=16 from rfl).trans ((uc_size _).trans (show W0.length=16 from rfl)).symm) (uc_one _) ?_
 replace hB:=hB.set 3 (x:=⟨h3,uc Z16,135⟩) rfl (uc W0)
 simp only [List.set_cons_zero,List.set_cons_succ] at hB
 generalize World.setRow _ _ _=u2 at *
 simp only [nrm]
 refine wpList_nil ?_
 replace hB:=hide hB
 go_upto_region 2 with fail
 replace hB:=unhide hB
 refine wp_region_lit ?_
 refine list_val (.agg SK) (by kernel_rfl) (exec_arr _ 23 (.tmp 2) rfl (w.heap.size) (by kernel_rfl) SK 23 _ (hB.get 0 (x:=⟨w.heap.size,SK,23⟩) rfl) Tryz.underlying23 rfl (by rw [Tryz.infoKey,hKs])) ?_
 simp only [nrm]
 refine list_val (.int .i64 0) (by kernel_rfl) (by kernel_rfl) ?_
 simp only [nrm]
 refine wpList_nil ?_
 replace hB:=hide hB
 go_wp2_with fail
 go_loopw [12] (fun i wr=>∃ n:Nat,∃ m:List Int,n≤32∧i=.int .i64 n∧Hid (m=kw 4 K W0 n)∧Hid (Bl w [⟨w.heap.size,SK,23⟩,⟨w.heap.size+1,SN,64⟩,⟨w.heap.size+1+1,uc Z16,135⟩,⟨h3,uc m,135⟩] wr)) (fun i _=>32 - (intOf i).toNat)
 case atStart=>exact ⟨0,W0,by omega,rfl,rfl,hB⟩
 case round =>
 clear hB
 obtain ⟨n,m,hn,rfl,hm,hB⟩:=hrel
 have hml:m.length=16:=by rw [unhide hm,kw_len]; rfl
 by_cases hl:n<32
 ·have cx:=index_K SK n _ hl ((unhide hSK) n hl)
  obtain ⟨q,hq⟩:∃ q,q=n / 4:=⟨_,rfl⟩
  obtain ⟨q4,hq4⟩:∃ q4,q4=4+n / 4:=⟨_,rfl⟩
  obtain ⟨s,hs⟩:∃ s,s=n % 4:=⟨_,rfl⟩
  obtain ⟨s8,hs8⟩:∃ s8,s8=n % 4 * 8:=⟨_,rfl⟩
  have c0:=uc_cell ((unhide hB).get 3 (x:=⟨h3,uc m,135⟩) rfl) q4 (by omega)
  have fz:=froz_of (i:=q4) ((unhide hB).get 3 (x:=⟨h3,uc m,135⟩) rfl)
  have hm2:Hid (m.set q4 (bits .or .u32 (m.getD q4 0) (K.getD n 0 * 2 ^ s8 % 4294967296))=kw 4 K W0 (n+1)):=by
   rw [kw,← unhide hm,kst,← hq4,← hs8]
   exact rfl
  have hB2:=(unhide hB).drew.cell 3 (x:=⟨h3,uc m,135⟩) rfl q4 (.int .u32 (bits .or .u32 (m.getD q4 0) (K.getD n 0 * 2 ^ s8 % 4294967296)))
  simp only [List.set_cons_zero,List.set_cons_succ,uc_set] at hB2
  have hbr:=(unhide hKb).at_ n
  generalize K.getD n 0=x at *
  generalize m.getD q4 0=z at *
  replace hB2:=hide hB2
  have nI:(n:Int)<32:=by omega
  have nT:0≤(n:Int):=by omega
  have qI:(q4:Int)<16:=by omega
  have q2:q4<16:=by omega
  have e1:(n:Int).tdiv 4=(q:Int):=by rw [Int.tdiv_eq_ediv_of_nonneg nT]; omega
  have e2:(n:Int).tmod 4=(s:Int):=by rw [Int.tmod_eq_emod_of_nonneg nT]; omega
  have e3:(s:Int) * 8=(s8:Int):=by omega
  have e4:4+(q:Int)=(q4:Int):=by omega
  have g1:IntKind.i64.wrap (q:Int)=(q:Int):=by rw [IntKind.wrap_i64]; omega
  have g6:IntKind.i64.wrap (q4:Int)=(q4:Int):=by rw [IntKind.wrap_i64]; omega
  have g2:IntKind.i64.wrap (s8:Int)=(s8:Int):=by rw [IntKind.wrap_i64]; omega
  have g3:0≤(s8:Int):=by omega
  have g4:s8≤32:=by omega
  have g5:min s8 32=s8:=by omega
  replace hq:=hide hq
  replace hq4:=hide hq4
  replace hs:=hide hs
  replace hs8:=hide hs8
  clear hn
  go_wp2_with fail
  go_still_tail 13,(by kernel_rfl)
  go_wp2_with fail
  go_roundw
  case rel=>exact ⟨n+1,_,by omega,by go_num,hm2,hB2⟩
  case measure=>simp [intOf]; omega
 ·have e:n=32:=by omega
  subst e
  clear hl
  have hpl:Hid (m.length=16):=hml
  clear hml
  obtain ⟨P,hp⟩:∃ P,P=m:=⟨_,rfl⟩
  rw [← hp] at hm hpl hB
  clear hp m
  have hp:Hid (P=kw 4 K W0 32):=hm
  clear hm
  go_upto_region 7 with fail
  replace hB:=unhide hB
  refine wp_region_lit ?_
  refine list_val (.agg SN) (by kernel_rfl) (exec_arr _ 64 (.tmp 3) rfl (w.heap.size+1) (by kernel_rfl) SN 64 _ (hB.get 1 (x:=⟨w.heap.size+1,SN,64⟩) rfl) Tryz.underlying64 rfl (by rw [Tryz.infoN,hNs])) ?_
  simp only [nrm]
  refine list_val (.int .i64 0) (by kernel_rfl) (by kernel_rfl) ?_
  simp only [nrm]
  refine wpList_nil ?_
  replace hB:=hide hB
  go_wp2_with fail
  go_loopw [31] (fun i wr=>∃ n:Nat,∃ m:List Int,n≤12∧i=.int .i64 n∧Hid (m=kw 13 N P n)∧Hid (Bl w [⟨w.heap.size,SK,23⟩,⟨w.heap.size+1,SN,64⟩,⟨w.heap.size+1+1,uc Z16,135⟩,⟨h3,uc m,135⟩] wr)) (fun i _=>12 - (intOf i).toNat)
  case atStart=>exact ⟨0,P,by omega,rfl,rfl,hB⟩
  case round =>
  clear hB
  obtain ⟨n,m,hn,rfl,hm,hB⟩:=hrel
  have hml:m.length=16:=by rw [unhide hm,kw_len]; exact unhide hpl
  by_cases hl:n<12
  ·have cx:=index_N SN n _ hl ((unhide hSN) n hl)
   obtain ⟨q,hq⟩:∃ q,q=n / 4:=⟨_,rfl⟩
   obtain ⟨q4,hq4⟩:∃ q4,q4=13+n / 4:=⟨_,rfl⟩
   obtain ⟨s,hs⟩:∃ s,s=n % 4:=⟨_,rfl⟩
   obtain ⟨s8,hs8⟩:∃ s8,s8=n % 4 * 8:=⟨_,rfl⟩
   have c0:=uc_cell ((unhide hB).get 3 (x:=⟨h3,uc m,135⟩) rfl) q4 (by omega)
   have fz:=froz_of (i:=q4) ((unhide hB).get 3 (x:=⟨h3,uc m,135⟩) rfl)
   have hm2:Hid (m.set q4 (bits .or .u32 (m.getD q4 0) (N.getD n 0 * 2 ^ s8 % 4294967296))=kw 13 N P (n+1)):=by
    rw [kw,← unhide hm,kst,← hq4,← hs8]
    exact rfl
   have hB2:=(unhide hB).drew.cell 3 (x:=⟨h3,uc m,135⟩) rfl q4 (.int .u32 (bits .or .u32 (m.getD q4 0) (N.getD n 0 * 2 ^ s8 % 4294967296)))
   simp only [List.set_cons_zero,List.set_cons_succ,uc_set] at hB2
   have hbr:=(unhide hNb).at_ n
   generalize N.getD n 0=x at *
   generalize m.getD q4 0=z at *
   replace hB2:=hide hB2
   have nI:(n:Int)<12:=by omega
   have nT:0≤(n:Int):=by omega
   have qI:(q4:Int)<16:=by omega
   have q2:q4<16:=by omega
   have e1:(n:Int).tdiv 4=(q:Int):=by rw [Int.tdiv_eq_ediv_of_nonneg nT]; omega
   have e2:(n:Int).tmod 4=(s:Int):=by rw [Int.tmod_eq_emod_of_nonneg nT]; omega
   have e3:(s:Int) * 8=(s8:Int):=by omega
   have e4:13+(q:Int)=(q4:Int):=by omega
   have g1:IntKind.i64.wrap (q:Int)=(q:Int):=by rw [IntKind.wrap_i64]; omega
   have g6:IntKind.i64.wrap (q4:Int)=(q4:Int):=by rw [IntKind.wrap_i64]; omega
   have g2:IntKind.i64.wrap (s8:Int)=(s8:Int):=by rw [IntKind.wrap_i64]; omega
   have g3:0≤(s8:Int):=by omega
   have g4:s8≤32:=by omega
   have g5:min s8 32=s8:=by omega
   replace hq:=hide hq
   replace hq4:=hide hq4
   replace hs:=hide hs
   replace hs8:=hide hs8
   clear hn
   go_wp2_with fail
   go_still_tail 13,(by kernel_rfl)
   go_wp2_with fail
   go_roundw
   case rel=>exact ⟨_,_,_,_,_,_,_,_,_,_,_,_,_,_,_,_,_,_,_,_,⟨n+1,_,by omega,by go_num,hm2,hB2⟩,rfl⟩
   case measure=>simp [intOf]; omega
  ·have e:n=12:=by omega
   subst e
   go_upto_region 12 with fail
   replace hB:=unhide hB
   refine wp_region_lit ?_
   refine list_val (.agg (uc m)) (by kernel_rfl) (exec_arr _ 135 (.tmp 5) rfl (h3) (by kernel_rfl) (uc m) 135 _ (hB.get 3 (x:=⟨h3,uc m,135⟩) rfl) Tryz.underlying135 rfl (by rw [Tryz.info16,uc_size,hml])) ?_
   simp only [nrm]
   refine list_store 135 (.tmp 4) (.tmp 49) (w.heap.size+1+1) (uc m) 135 (uc Z16) (by kernel_rfl) rfl (by kernel_rfl) (by kernel_rfl) (hB.get 2 (x:=⟨w.heap.size+1+1,uc Z16,135⟩) rfl) (by rw [Tryz.info16,uc_size,hml]) ((show (uc Z16).size=16 from rfl).trans ((uc_size _).trans hml).symm) (uc_one _) ?_
   replace hB:=hB.set 2 (x:=⟨w.heap.size+1+1,uc Z16,135⟩) rfl (uc m)
   simp only [List.set_cons_zero,List.set_cons_succ] at hB
   generalize World.setRow _ _ _=u3 at *
   simp only [nrm]
   refine wpList_nil ?_
   go_wp2_with fail
   rw [unhide hT,bg,← unhide hp,← unhide hm]
   exact bodyPost_ret (v:=.agg (uc m)) (results_cell_row Tryz.results86 _ _ (w.heap.size+1+1) 135 (uc m) (0,0) _ rfl (hB.get 2 (x:=⟨w.heap.size+1+1,uc m,135⟩) rfl) Tryz.underlying135 rfl (by rw [Tryz.info16,uc_size,hml])) rfl (⟨rfl,hB.gr⟩)
def wb (A:List Int) (c:Int):List Int:=bts (sm (rn (A.set 12 c) 10) (A.set 12 c))
theorem wb_len (A:List Int) (c:Int):(wb A c).length=64:=bts_len _
set_option maxHeartbeats 4000000 in
theorem wblock_ok (A:List Int) (hA:A.length=16) (c:Int) (w:World):Calls Tryz.prog 87 #[.agg (uc A),.int .u32 c] w (Bts (wb A c) w):=by
 obtain ⟨T,hT⟩:∃ T,T=Bts (wb A c) w:=⟨_,rfl⟩
 rw [← hT]
 unfold wb at hT
 replace hT:=hide hT
 obtain ⟨SA,hSA⟩:∃ S,S=uc A:=⟨_,rfl⟩
 rw [← hSA]
 replace hSA:=hide hSA
 go_enter Tryz.func87,Tryz.ntmps87
 go_upto_region 1 with fail
 have hB:=((Bl.nil w).new SA 135).new #[.int .u8 0,.int .u8 0,.int .u8 0,.int .u8 0,.int .u8 0,.int .u8 0,.int .u8 0,.int .u8 0,.int .u8 0,.int .u8 0,.int .u8 0,.int .u8 0,.int .u8 0,.int .u8 0,.int .u8 0,.int .u8 0,.int .u8 0,.int .u8 0,.int .u8 0,.int .u8 0,.int .u8 0,.int .u8 0,.int .u8 0,.int .u8 0,.int .u8 0,.int .u8 0,.int .u8 0,.int .u8 0,.int .u8 0,.int .u8 0,.int .u8 0,.int .u8 0,.int .u8 0,.int .u8 0,.int .u8 0,.int .u8 0,.int .u8 0,.int .u8 0,.int .u8 0,.int .u8 0,.int .u8 0,.int .u8 0,.int .u8 0,.int .u8 0,.int .u8 0,.int .u8 0,.int .u8 0,.int .u8 0,.int .u8 0,.int .u8 0,.int .u8 0,.int .u8 0,.int .u8 0,.int .u8 0,.int .u8 0,.int .u8 0,.int .u8 0,.int .u8 0,.int .u8 0,.int .u8 0,.int .u8 0,.int .u8 0,.int .u8 0,.int .u8 0] 87
 simp only [size_alloc,List.nil_append,List.cons_append] at hB
 generalize World.alloc _ _=u at *
 rw [unhide hSA] at hB
 replace hB:Bl w [⟨w.heap.size,uc A,135⟩,⟨w.heap.size+1,kc Z64,87⟩] u:=hB
 have c0:=uc_cell (hB.get 0 (x:=⟨w.heap.size,uc A,135⟩) rfl) 12 (by omega)
 have fz:=froz_of (i:=12) (hB.get 0 (x:=⟨w.heap.size,uc A,135⟩) rfl)
 generalize A.getD 12 0=z at c0
 replace hB:=hB.cell 0 (x:=⟨w.heap.size,uc A,135⟩) rfl 12 (.int .u32 c)
 simp only [List.set_cons_zero,List.set_cons_succ,uc_set] at hB
 have hVl:(A.set 12 c).length=16:=by simp [hA]
 generalize A.set 12 c=V at *
 replace hB:=hide hB
 go_upto_region 2 with fail
 replace hB:=unhide hB
 generalize World.setCell _ _ _=u1 at *
 clear c0 fz
 refine any_start (S:=fun v=>∃ c,Bl w [⟨w.heap.size,uc V,135⟩,⟨w.heap.size+1,c,87⟩] v) (by kernel_rfl) ?_
 replace hB:=hB.drew
 generalize World.drew _=u2 at *
 simp only [List.size_toArray,List.length_cons,List.length_nil,Array.replicate,List.replicate]
 refine any_take (i:=0) (v:=.agg (uc V)) #[false,false,false,false,false,false] rfl (by kernel_rfl) (by kernel_rfl) (by kernel_rfl) (by kernel_rfl) (fun _ _ _ h=>h) (.inl ⟨by kernel_rfl,fun x_ hu=>by obtain ⟨c',hu⟩:=hu; exact exec_arr _ 135 (.tmp 2) rfl (w.heap.size) (by kernel_rfl) (uc V) 135 _ (hu.get 0 (x:=⟨w.heap.size,uc V,135⟩) rfl) Tryz.underlying135 rfl (by rw [Tryz.info16,uc_size,hVl])⟩) ⟨_,hB⟩ ?_
 simp only [nrm]
 refine any_take (i:=2) (v:=.agg (uc V)) #[true,false,false,false,false,false] rfl (by kernel_rfl) (by kernel_rfl) (by kernel_rfl) (by kernel_rfl) (fun _ _ _ h=>h) (.inl ⟨by kernel_rfl,fun x_ hu=>by obtain ⟨c',hu⟩:=hu; exact exec_arr _ 135 (.tmp 2) rfl (w.heap.size) (by kernel_rfl) (uc V) 135 _ (hu.get 0 (x:=⟨w.heap.size,uc V,135⟩) rfl) Tryz.underlying135 rfl (by rw [Tryz.info16,uc_size,hVl])⟩) ⟨_,hB⟩ ?_
 simp only [nrm]
 refine any_one (i:=1) (by kernel_rfl) rfl (fun K hK=>?_)
 refine step_callw (by kernel_rfl) 108 #[.agg (uc V)] (by kernel_rfl) ((rounds_ok V hVl _).mono ?_)
 rintro r u3 ⟨rfl,hg⟩
 refine ⟨_,rfl,?_⟩
 replace hB:=hB.more hg
 clear hg
 refine hK.out _ _ ⟨_,hB⟩ (fun _=>?_)
 clear hK K
 simp only [nrm]
 have hRl:=(rn_len V 10).trans hVl
 generalize rn V 10=R at *
 refine any_one (i:=3) (by kernel_rfl) rfl (fun K hK=>?_)
 refine step_callw (by kernel_rfl) 109 #[.agg (uc R),.agg (uc V)] (by kernel_rfl) ((and_ok R V hRl hVl _).mono ?_)
 rintro r u4 ⟨rfl,hg⟩
 refine ⟨_,rfl,?_⟩
 replace hB:=hB.more hg
 clear hg
 refine hK.out _ _ ⟨_,hB⟩ (fun _=>?_)
 clear hK K
 simp only [nrm]
 have hSl:=sm_len R V
 generalize sm R V=M at *
 refine any_one (i:=4) (by kernel_rfl) rfl (fun K hK=>?_)
 refine step_callw (by kernel_rfl) 110 #[.agg (uc M)] (by kernel_rfl) ((bytes_ok M hSl _).mono ?_)
 rintro r u5 ⟨rfl,hg⟩
 refine ⟨_,rfl,?_⟩
 replace hB:=hB.more hg
 clear hg
 refine hK.out _ _ ⟨_,hB⟩ (fun _=>?_)
 clear hK K
 simp only [nrm]
 have hDl:=bts_len M
 generalize bts M=D at *
 refine any_one (i:=5) (by kernel_rfl) rfl (fun K hK=>?_)
 rw [if_pos (by kernel_rfl)]
 refine wp_store_row 87 (.tmp 4) (.tmp 11) rfl (w.heap.size+1) (kc D) (by kernel_rfl) (by kernel_rfl) 87 (kc Z64) (hB.get 1 (x:=⟨w.heap.size+1,kc Z64,87⟩) rfl) (by rw [Tryz.info64,kc_size,hDl]) ((show (kc Z64).size=64 from rfl).trans ((kc_size _).trans hDl).symm) (kc_one _) ?_
 replace hB:=hB.set 1 (x:=⟨w.heap.size+1,kc Z64,87⟩) rfl (kc D)
 simp only [List.set_cons_zero,List.set_cons_succ] at hB
 generalize World.setRow _ _ _=u6 at *
 refine hK.out _ _ ⟨_,hB⟩ (fun _=>?_)
 clear hK K
 simp only [nrm]
 refine any_done (by kernel_rfl) ?_
 go_wp2_with fail
 rw [unhide hT]
 exact bodyPost_ret (v:=.agg (kc D)) (results_cell_row Tryz.results87 _ _ (w.heap.size+1) 87 (kc D) (0,0) _ rfl (hB.get 1 (x:=⟨w.heap.size+1,kc D,87⟩) rfl) Tryz.underlying87 rfl (by rw [Tryz.info64,kc_size,hDl])) rfl (⟨rfl,hB.gr⟩)
def bk (K N:List Int) (c:Int):List Int:=wb (bg K N) c
theorem bk_len (K N:List Int) (c:Int):(bk K N c).length=64:=wb_len _ _
set_option maxHeartbeats 4000000 in
theorem block_ok (K N:List Int) (hK:K.length=32) (hN:N.length=12) (hKb:IsB K) (hNb:IsB N) (c:Int) (w:World):Calls Tryz.prog 113 #[.agg (kc K),.int .u32 c,.agg (kc N)] w (Bts (bk K N c) w):=by
 obtain ⟨T,hT⟩:∃ T,T=Bts (bk K N c) w:=⟨_,rfl⟩
 rw [← hT]
 unfold bk at hT
 replace hT:=hide hT
 obtain ⟨SK,hSK⟩:∃ S,S=kc K:=⟨_,rfl⟩
 obtain ⟨SN,hSN⟩:∃ S,S=kc N:=⟨_,rfl⟩
 rw [← hSK,← hSN]
 replace hSK:=hide hSK
 replace hSN:=hide hSN
 replace hKb:=hide hKb
 replace hNb:=hide hNb
 go_enter Tryz.func113,Tryz.ntmps113
 go_upto_region 1 with fail
 have hB:=(((Bl.nil w).new SK 23).new SN 64).new #[.int .u8 0,.int .u8 0,.int .u8 0,.int .u8 0,.int .u8 0,.int .u8 0,.int .u8 0,.int .u8 0,.int .u8 0,.int .u8 0,.int .u8 0,.int .u8 0,.int .u8 0,.int .u8 0,.int .u8 0,.int .u8 0,.int .u8 0,.int .u8 0,.int .u8 0,.int .u8 0,.int .u8 0,.int .u8 0,.int .u8 0,.int .u8 0,.int .u8 0,.int .u8 0,.int .u8 0,.int .u8 0,.int .u8 0,.int .u8 0,.int .u8 0,.int .u8 0,.int .u8 0,.int .u8 0,.int .u8 0,.int .u8 0,.int .u8 0,.int .u8 0,.int .u8 0,.int .u8 0,.int .u8 0,.int .u8 0,.int .u8 0,.int .u8 0,.int .u8 0,.int .u8 0,.int .u8 0,.int .u8 0,.int .u8 0,.int .u8 0,.int .u8 0,.int .u8 0,.int .u8 0,.int .u8 0,.int .u8 0,.int .u8 0,.int .u8 0,.int .u8 0,.int .u8 0,.int .u8 0,.int .u8 0,.int .u8 0,.int .u8 0,.int .u8 0] 87
 simp only [size_alloc,List.nil_append,List.cons_append] at hB
 generalize World.alloc _ _=u at *
 rw [unhide hSK,unhide hSN] at hB
 replace hB:Bl w [⟨w.heap.size,kc K,23⟩,⟨w.heap.size+1,kc N,64⟩,⟨w.heap.size+1+1,kc Z64,87⟩] u:=hB
 refine wp_region_lit ?_
 refine list_val (.agg (kc K)) (by kernel_rfl) (exec_arr _ 23 (.tmp 3) rfl (w.heap.size) (by kernel_rfl) (kc K) 23 _ (hB.get 0 (x:=⟨w.heap.size,kc K,23⟩) rfl) Tryz.underlying23 rfl (by rw [Tryz.infoKey,kc_size,hK])) ?_
 simp only [nrm]
 refine list_val (.agg (kc N)) (by kernel_rfl) (exec_arr _ 64 (.tmp 5) rfl (w.heap.size+1) (by kernel_rfl) (kc N) 64 _ (hB.get 1 (x:=⟨w.heap.size+1,kc N,64⟩) rfl) Tryz.underlying64 rfl (by rw [Tryz.infoN,kc_size,hN])) ?_
 simp only [nrm]
 refine list_call 86 #[.agg (kc K),.agg (kc N)] (by kernel_rfl) (by kernel_rfl) ((begin_ok K N hK hN (unhide hKb) (unhide hNb) _).mono ?_)
 rintro r u1 ⟨rfl,hg⟩
 refine ⟨_,rfl,?_⟩
 replace hB:=hB.more hg
 clear hg
 simp only [nrm]
 have hGl:=bg_len K N
 generalize bg K N=A at *
 refine list_val (.int .u32 c) (by kernel_rfl) (by kernel_rfl) ?_
 simp only [nrm]
 refine list_call 87 #[.agg (uc A),.int .u32 c] (by kernel_rfl) (by kernel_rfl) ((wblock_ok A hGl c _).mono ?_)
 rintro r u2 ⟨rfl,hg⟩
 refine ⟨_,rfl,?_⟩
 replace hB:=hB.more hg
 clear hg
 simp only [nrm]
 have hDl:=wb_len A c
 generalize wb A c=D at *
 refine list_store 87 (.tmp 6) (.tmp 11) (w.heap.size+1+1) (kc D) 87 (kc Z64) (by kernel_rfl) rfl (by kernel_rfl) (by kernel_rfl) (hB.get 2 (x:=⟨w.heap.size+1+1,kc Z64,87⟩) rfl) (by rw [Tryz.info64,kc_size,hDl]) ((show (kc Z64).size=64 from rfl).trans ((kc_size _).trans hDl).symm) (kc_one _) ?_
 replace hB:=hB.set 2 (x:=⟨w.heap.size+1+1,kc Z64,87⟩) rfl (kc D)
 simp only [List.set_cons_zero,List.set_cons_succ] at hB
 generalize World.setRow _ _ _=u3 at *
 simp only [nrm]
 refine wpList_nil ?_
 go_wp2_with fail
 rw [unhide hT]
 exact bodyPost_ret (v:=.agg (kc D)) (results_cell_row Tryz.results113 _ _ (w.heap.size+1+1) 87 (kc D) (0,0) _ rfl (hB.get 2 (x:=⟨w.heap.size+1+1,kc D,87⟩) rfl) Tryz.underlying87 rfl (by rw [Tryz.info64,kc_size,hDl])) rfl (⟨rfl,hB.gr⟩)
theorem kc_at {w:World} {g:Nat} {l:List Int} {t:TypeId} (h:w.heap[g]?=some (.cells (kc l) t (0,0))):At w g 0 l:=fun j hj=>by rw [Nat.zero_add]; exact kc_cell h j hj
structure Lb (w:World) (a:Option Addr) (n c:Nat) (P:List Int):Prop where
 len:P.length=n
 isB:IsB P
 sl:Sl w a P
 cap:n≤c
 max:c<9223372036854775808
theorem Lb.gr {w v:World} {a:Option Addr} {n c:Nat} {P:List Int} (h:Lb w a n c P) (k:Gr w v):Lb v a n c P:=⟨h.len,h.isB,h.sl.gr k,h.cap,h.max⟩
def cn (c:Int) (n:Nat):Int:=(c+n) % 4294967296
theorem cn_zero (c:Int) (hc:W32 c):cn c 0=c:=by
 have:=hc.1
 have:=hc.2
 unfold cn
 omega
theorem cn_succ (c:Int) (n:Nat):(cn c n+1) % 4294967296=cn c (n+1):=by unfold cn; omega
def sf (K N:List Int) (c:Int) (i:Nat):Int:=(bk K N (cn c (i / 64))).getD (i % 64) 0
def xf (K N:List Int) (c:Int) (B:List Int) (i:Nat):Int:=xb (B.getD i 0) (sf K N c i)
def xl (K N:List Int) (c:Int) (B:List Int):List Int:=(List.range B.length).map (xf K N c B)
theorem xl_len (K N:List Int) (c:Int) (B:List Int):(xl K N c B).length=B.length:=by simp [xl]
theorem xl_isB (K N:List Int) (c:Int) (B:List Int):IsB (xl K N c B):=by
 intro x hx
 unfold xl at hx
 obtain ⟨i,_,rfl⟩:=List.mem_map.1 hx
 exact xb_rng _ _
def Xd (K N:List Int) (c:Int) (B:List Int) (w:World) (r:Ending) (w':World):Prop:=∃ g,r=.returned (.slice (some ⟨g,0,none⟩) B.length B.length)∧w.heap.size≤g∧w'.heap[g]?=some (.cells (kc (xl K N c B)) 5 (0,0))∧Gr w w'
set_option maxHeartbeats 4000000 in
theorem xor_ok (K N:List Int) (hK:K.length=32) (hN:N.length=12) (hKb:IsB K) (hNb:IsB N) (c:Int) (hc:W32 c) (B:List Int) (a:Option Addr) (n cap:Nat) (hbig:n≤281474976710656) (w:World) (hA:Lb w a n cap B) :
  Calls Tryz.prog 71 #[.agg (kc K),.int .u32 c,.agg (kc N),.slice a n cap] w (Xd K N c B w):=by
 have hn:=hA.len
 obtain ⟨T,hT⟩:∃ T,T=Xd K N c B w:=⟨_,rfl⟩
 rw [← hT]
 unfold Xd at hT
 rw [hn] at hT
 replace hT:=hide hT
 replace hA:=hide hA
 obtain ⟨SK,hSK⟩:∃ S,S=kc K:=⟨_,rfl⟩
 obtain ⟨SN,hSN⟩:∃ S,S=kc N:=⟨_,rfl⟩
 rw [← hSK,← hSN]
 replace hSK:=hide hSK
 replace hSN:=hide hSN
 replace hKb:=hide hKb
 replace hNb:=hide hNb
 replace hc:=hide hc
 replace hn:=hide hn
 go_enter Tryz.func71,Tryz.ntmps71
 go_upto_region 1 with fail
 have hB:=((Bl.nil w).new SK 23).new SN 64
 simp only [size_alloc,List.nil_append,List.cons_append] at hB
 generalize World.alloc _ _=u at *
 rw [unhide hSK,unhide hSN] at hB
 refine wp_region_lit ?_
 refine list_val (.slice a n cap) (by kernel_rfl) (by kernel_rfl) ?_
 simp only [nrm]
 refine list_val (.int .i64 n) (by kernel_rfl) (by kernel_rfl) ?_
 simp only [nrm]
 refine wpList_make_room u rfl (.tmp 17) (.tmp 17) rfl n n n n rfl rfl rfl rfl (Nat.le_refl _) hbig ?_
 simp only [nrm]
 replace hB:=hB.new (kc (List.replicate n 0)) 5
 simp only [List.nil_append,List.cons_append] at hB
 generalize World.alloc _ _=u1 at *
 generalize u.heap.size=g2 at *
 replace hB:=hide hB
 iterate 1 (refine wpList_step fun K hK=>?_; replace hK:=hide hK; go_simp; refine unhide hK _ _ ?_; clear hK K)
 refine wpList_nil ?_
 go_upto_region 2 with fail
 replace hB:=unhide hB
 refine wp_region_lit ?_
 refine list_val (.agg (kc K)) (by kernel_rfl) (exec_arr _ 23 (.tmp 4) rfl (w.heap.size) (by kernel_rfl) (kc K) 23 _ (hB.get 0 (x:=⟨w.heap.size,kc K,23⟩) rfl) Tryz.underlying23 rfl (by rw [Tryz.infoKey,kc_size,hK])) ?_
 simp only [nrm]
 refine list_val (.agg (kc N)) (by kernel_rfl) (exec_arr _ 64 (.tmp 6) rfl (w.heap.size+1) (by kernel_rfl) (kc N) 64 _ (hB.get 1 (x:=⟨w.heap.size+1,kc N,64⟩) rfl) Tryz.underlying64 rfl (by rw [Tryz.infoN,kc_size,hN])) ?_
 simp only [nrm]
 refine list_call 86 #[.agg (kc K),.agg (kc N)] (by kernel_rfl) (by kernel_rfl) ((begin_ok K N hK hN (unhide hKb) (unhide hNb) _).mono ?_)
 rintro r u2 ⟨rfl,hg⟩
 refine ⟨_,rfl,?_⟩
 replace hB:=hB.more hg
 clear hg
 simp only [nrm]
 have hGl:=bg_len K N
 obtain ⟨A,hAe⟩:∃ A,A=bg K N:=⟨_,rfl⟩
 rw [← hAe] at hGl ⊢
 replace hAe:=hide hAe
 replace hB:=hide hB
 iterate 1 (refine wpList_step fun K hK=>?_; replace hK:=hide hK; go_simp; refine unhide hK _ _ ?_; clear hK K)
 replace hB:=(unhide hB).new #[.int .u32 0,.int .u32 0,.int .u32 0,.int .u32 0,.int .u32 0,.int .u32 0,.int .u32 0,.int .u32 0,.int .u32 0,.int .u32 0,.int .u32 0,.int .u32 0,.int .u32 0,.int .u32 0,.int .u32 0,.int .u32 0] 135
 simp only [List.nil_append,List.cons_append] at hB
 generalize World.alloc _ _=u3 at *
 generalize u2.heap.size=h3 at *
 replace hB:Bl w [⟨w.heap.size,kc K,23⟩,⟨w.heap.size+1,kc N,64⟩,⟨g2,kc (List.replicate n 0),5⟩,⟨h3,uc Z16,135⟩] u3:=hB
 refine list_store 135 (.tmp 10) (.tmp 21) (h3) (uc A) 135 (uc Z16) (by kernel_rfl) rfl (by kernel_rfl) (by kernel_rfl) (hB.get 3 (x:=⟨h3,uc Z16,135⟩) rfl) (by rw [Tryz.info16,uc_size,hGl]) ((show (uc Z16).size=16 from rfl).trans ((uc_size _).trans hGl).symm) (uc_one _) ?_
 replace hB:=hB.set 3 (x:=⟨h3,uc Z16,135⟩) rfl (uc A)
 simp only [List.set_cons_zero,List.set_cons_succ] at hB
 generalize World.setRow _ _ _=u4 at *
 simp only [nrm]
 refine wpList_nil ?_
 replace hB:=hide hB
 go_wp2_with fail
 obtain ⟨Z,hZ⟩:∃ Z,Z=List.replicate n (0:Int):=⟨_,rfl⟩
 have hZl:Z.length=n:=by rw [hZ]; simp
 rw [← hZ] at hB
 replace hZ:=hide hZ
 go_loopw [11,12] (fun i e wr=>∃ k q:Nat,∃ m:List Int,Hid (q=64 * k)∧q≤n+63∧i=.int .i64 q∧e=.int .u32 (cn c k)∧Hid (m=fil (xf K N c B) (min q n) Z)∧Hid (Bl w [⟨w.heap.size,kc K,23⟩,⟨w.heap.size+1,kc N,64⟩,⟨g2,kc m,5⟩,⟨h3,uc A,135⟩] wr)) (fun i _ _=>n+64 - (intOf i).toNat)
 case atStart=>exact ⟨0,0,Z,rfl,by omega,rfl,by rw [cn_zero c (unhide hc)],by rw [Nat.min_eq_left (Nat.zero_le _),fil_zero]; exact rfl,hB⟩
 case round =>
 clear hB
 obtain ⟨k,q,m,hq,hqn,rfl,rfl,hm,hB⟩:=hrel
 have hml:m.length=n:=by rw [unhide hm,fil_len _ _ _ (by omega)]; exact hZl
 by_cases hl:q<n
 ·have qI:(q:Int)<(n:Int):=by omega
  obtain ⟨bp,bo,rfl,hat⟩:∃ bp bo,a=some ⟨bp,bo,none⟩∧At w bp bo B:=by
   rcases (unhide hA).sl with h | h
   ·have:=unhide hn
    rw [h] at this
    simp at this
    omega
   ·exact h
  generalize hck:cn c k=ck
  replace hck:=hide hck
  go_upto_region 6 with fail
  replace hB:=unhide hB
  refine wp_region_lit ?_
  refine list_val (.agg (uc A)) (by kernel_rfl) (exec_arr _ 135 (.tmp 10) rfl (h3) (by kernel_rfl) (uc A) 135 _ (hB.get 3 (x:=⟨h3,uc A,135⟩) rfl) Tryz.underlying135 rfl (by rw [Tryz.info16,uc_size,hGl])) ?_
  simp only [nrm]
  refine list_val (.int .u32 ck) (by kernel_rfl) (by kernel_rfl) ?_
  simp only [nrm]
  refine list_call 87 #[.agg (uc A),.int .u32 ck] (by kernel_rfl) (by kernel_rfl) ((wblock_ok A hGl ck _).mono ?_)
  rintro r u2 ⟨rfl,hg⟩
  refine ⟨_,rfl,?_⟩
  replace hB:=hB.more hg
  clear hg
  simp only [nrm]
  have hDl:=wb_len A ck
  obtain ⟨D,hD⟩:∃ D,D=wb A ck:=⟨_,rfl⟩
  rw [← hD] at hDl ⊢
  replace hD:Hid (D=bk K N (cn c k)):=by rw [hD,unhide hAe,unhide hck]; exact rfl
  replace hB:=hide hB
  iterate 1 (refine wpList_step fun K hK=>?_; replace hK:=hide hK; go_simp; refine unhide hK _ _ ?_; clear hK K)
  replace hB:=(unhide hB).new #[.int .u8 0,.int .u8 0,.int .u8 0,.int .u8 0,.int .u8 0,.int .u8 0,.int .u8 0,.int .u8 0,.int .u8 0,.int .u8 0,.int .u8 0,.int .u8 0,.int .u8 0,.int .u8 0,.int .u8 0,.int .u8 0,.int .u8 0,.int .u8 0,.int .u8 0,.int .u8 0,.int .u8 0,.int .u8 0,.int .u8 0,.int .u8 0,.int .u8 0,.int .u8 0,.int .u8 0,.int .u8 0,.int .u8 0,.int .u8 0,.int .u8 0,.int .u8 0,.int .u8 0,.int .u8 0,.int .u8 0,.int .u8 0,.int .u8 0,.int .u8 0,.int .u8 0,.int .u8 0,.int .u8 0,.int .u8 0,.int .u8 0,.int .u8 0,.int .u8 0,.int .u8 0,.int .u8 0,.int .u8 0,.int .u8 0,.int .u8 0,.int .u8 0,.int .u8 0,.int .u8 0,.int .u8 0,.int .u8 0,.int .u8 0,.int .u8 0,.int .u8 0,.int .u8 0,.int .u8 0,.int .u8 0,.int .u8 0,.int .u8 0,.int .u8 0] 87
  simp only [List.nil_append,List.cons_append] at hB
  generalize World.alloc _ _=u3 at *
  generalize u2.heap.size=h4 at *
  replace hB:Bl w [⟨w.heap.size,kc K,23⟩,⟨w.heap.size+1,kc N,64⟩,⟨g2,kc m,5⟩,⟨h3,uc A,135⟩,⟨h4,kc Z64,87⟩] u3:=hB
  refine list_store 87 (.tmp 13) (.tmp 33) (h4) (kc D) 87 (kc Z64) (by kernel_rfl) rfl (by kernel_rfl) (by kernel_rfl) (hB.get 4 (x:=⟨h4,kc Z64,87⟩) rfl) (by rw [Tryz.info64,kc_size,hDl]) ((show (kc Z64).size=64 from rfl).trans ((kc_size _).trans hDl).symm) (kc_one _) ?_
  replace hB:=hB.set 4 (x:=⟨h4,kc Z64,87⟩) rfl (kc D)
  simp only [List.set_cons_zero,List.set_cons_succ] at hB
  generalize World.setRow _ _ _=u4 at *
  simp only [nrm]
  refine wpList_nil ?_
  replace hB:=hide hB
  clear u3 u2
  obtain ⟨q64,hq64⟩:∃ x,x=q+64:=⟨_,rfl⟩
  obtain ⟨e,he⟩:∃ x,x=min q64 n:=⟨_,rfl⟩
  obtain ⟨p,hp⟩:∃ x,x=e - q:=⟨_,rfl⟩
  have i1:(q:Int)+64=(q64:Int):=by omega
  have i2:IntKind.i64.wrap (q64:Int)=(q64:Int):=by rw [IntKind.wrap_i64]; omega
  have i3:(if (n:Int)<(q64:Int) then (n:Int) else (q64:Int))=(e:Int):=by split <;> omega
  have i4:(if n<q64 then (n:Int) else (q64:Int))=(e:Int):=by split <;> omega
  have i5:q≤e:=by omega
  have i6:e≤n:=by omega
  have i7:(e:Int)≤(n:Int):=by omega
  have i8:(q:Int)≤(e:Int):=by omega
  have i9:e - q=p:=hp.symm
  replace hp:=hide hp
  replace he:=hide he
  replace hq64:=hide hq64
  go_upto_region 7 with fail
  go_wp2_with fail
  have j1:e≤q64:=by have:=unhide he; omega
  go_loopw [44] (fun i wr=>∃ j:Nat,∃ m:List Int,j≤p∧i=.int .i64 j∧Hid (m=fil (xf K N c B) (q+j) Z)∧Hid (Bl w [⟨w.heap.size,kc K,23⟩,⟨w.heap.size+1,kc N,64⟩,⟨g2,kc m,5⟩,⟨h3,uc A,135⟩,⟨h4,kc D,87⟩] wr)) (fun i _=>p - (intOf i).toNat)
  case atStart=>exact ⟨0,m,by omega,rfl,by rw [unhide hm,Nat.min_eq_left (by omega)]; exact rfl,hB⟩
  case round =>
  clear hB hm hml m
  obtain ⟨j,m,hj,rfl,hm,hB⟩:=hrel
  have hml:m.length=n:=by rw [unhide hm,fil_len _ _ _ (by omega)]; exact hZl
  by_cases hjl:j<p
  ·obtain ⟨t,ht⟩:∃ t,t=q+j:=⟨_,rfl⟩
   have c1:=(hat.gr (unhide hB).gr) t (by rw [unhide hn]; omega)
   have c2:=kc_cell ((unhide hB).get 4 (x:=⟨h4,kc D,87⟩) rfl) j (by have:=unhide hq64; omega)
   have c3:=kc_cell ((unhide hB).get 2 (x:=⟨g2,kc m,5⟩) rfl) (q+j) (by omega)
   have fz:=froz_of (i:=q+j) ((unhide hB).get 2 (x:=⟨g2,kc m,5⟩) rfl)
   generalize m.getD (q+j) 0=z at c3
   have hx:xf K N c B (q+j)=xb (B.getD t 0) (D.getD j 0):=by
    have h64:=unhide hq64
    have hqk:=unhide hq
    unfold xf sf
    rw [unhide hD,← ht,show t / 64=k from by omega,show t % 64=j from by omega]
   have hm2:Hid (m.set (q+j) (xb (B.getD t 0) (D.getD j 0))=fil (xf K N c B) (q+(j+1)) Z):=by
    rw [unhide hm,← hx]
    exact fil_set _ _ _ (by omega)
   have hB2:=(unhide hB).drew.cell 2 (x:=⟨g2,kc m,5⟩) rfl (q+j) (.int .u8 (xb (B.getD t 0) (D.getD j 0)))
   simp only [List.set_cons_zero,List.set_cons_succ,kc_set] at hB2
   clear hx
   generalize B.getD t 0=x at *
   generalize D.getD j 0=y at *
   replace hB2:=hide hB2
   have k1:(j:Int)<(p:Int):=by omega
   have k2:(j:Int)<64:=by have:=unhide hq64; omega
   have k3:j<64:=by omega
   have k4:(t:Int)<(n:Int):=by omega
   have k5:t<n:=by omega
   have k6:(q:Int)+(j:Int)=(t:Int):=by omega
   have k7:IntKind.i64.wrap (t:Int)=(t:Int):=by rw [IntKind.wrap_i64]; omega
   have k8:0≤(t:Int):=by omega
   replace ht:=hide ht
   go_wp2_with fail
   go_still_tail 13,(by kernel_rfl)
   go_wp2_with fail
   go_roundw
   case rel=>exact ⟨j+1,_,by omega,by go_num,hm2,hB2⟩
   case measure=>simp [intOf]; omega
  ·have ej:j=p:=by omega
   subst ej
   have hcs:(ck+1) % 4294967296=cn c (k+1):=by rw [← unhide hck]; exact cn_succ c k
   have hB2:Hid (Bl w [⟨w.heap.size,kc K,23⟩,⟨w.heap.size+1,kc N,64⟩,⟨g2,kc m,5⟩,⟨h3,uc A,135⟩] wr):=Bl.left (L:=[⟨w.heap.size,kc K,23⟩,⟨w.heap.size+1,kc N,64⟩,⟨g2,kc m,5⟩,⟨h3,uc A,135⟩]) (M:=[⟨h4,kc D,87⟩]) (unhide hB)
   have hm2:Hid (m=fil (xf K N c B) (min q64 n) Z):=by rw [unhide hm,← unhide he,show q+j=e from by omega]; exact rfl
   have hq2:Hid (q64=64 * (k+1)):=by have h1:=unhide hq; have h2:=unhide hq64; exact (show q64=64 * (k+1) by omega)
   have hq3:q64≤n+63:=by have:=unhide hq64; omega
   have hq5:=unhide hq64
   replace hq5:q<q64:=by omega
   clear hB hm hjl
   go_wp2_with fail
   go_roundw
   case rel=>exact ⟨k+1,q64,m,hq2,hq3,rfl,by rw [hcs],hm2,hB2⟩
   case measure=>simp [intOf]; omega
 ·have hM:m=xl K N c B:=by
   rw [unhide hm,Nat.min_eq_right (by omega),← hZl,fil_all,hZl,← unhide hn]
   exact rfl
  have hP:Hid (∃ g,Ending.returned (.slice (some ⟨g2,0,none⟩) n n)=.returned (.slice (some ⟨g,0,none⟩) n n)∧w.heap.size≤g∧wr.heap[g]?=some (.cells (kc (xl K N c B)) 5 (0,0))∧Gr w wr):=⟨g2,rfl,(unhide hB).own 2 (x:=⟨g2,kc m,5⟩) rfl,(by rw [← hM]; exact (unhide hB).get 2 (x:=⟨g2,kc m,5⟩) rfl),(unhide hB).gr⟩
  clear hM hB hm
  have qI:¬ (q:Int)<(n:Int):=by omega
  go_wp2_with fail
  rw [unhide hT]
  exact unhide hP
theorem Tryz.info4:(Tryz.prog.info? 117).map (·.size)=some 4:=by kernel_rfl
def ql (q:Q4):List Int:=[q.a,q.b,q.c,q.d]
end Go.Proofs.YthahhglbeafkmaaGreatDoor
