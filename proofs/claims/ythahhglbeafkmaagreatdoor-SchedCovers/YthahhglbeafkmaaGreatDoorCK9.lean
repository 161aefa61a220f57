/-
  What the proof leans on.
-/
import Derived.Laws.StructEq
import Derived.Great.BuildSlice
import Derived.Test.YthahhglbeafkmaaGreatDoorCK8
namespace Go.Proofs.YthahhglbeafkmaaGreatDoor
open Go.RowKit
set_option maxRecDepth 100000
set_option linter.unusedSimpArgs false
set_option linter.unusedVariables false
theorem results_cell_tmp {P:Program} {fn:Func} {p q:Tmp} {ty:TypeId} (h:fn.results=#[.cell p ty,.tmp q]) (tmps:Array Value) (w:World) (g:Nat) (t:TypeId) (cs:Array Value) (fr:Nat × Nat) (d:TypeDesc)
  (hp:tmps.getD p undef=.pointer (some ⟨g,0,none⟩)) (v:Value) (hq:tmps.getD q undef=v) (hg:w.heap[g]?=some (.cells cs t fr))
  (hu:P.underlying ty=some d) (hd:(match d with | .struct _ | .array _ _=>true | _=>false)=true) (hi:(P.info? ty).map (·.size)=some cs.size) :
  (results fn tmps).run P w=.ok (.tuple #[.agg cs,v]) w:=by
 have hp':tmps[p]?.getD undef=.pointer (some ⟨g,0,none⟩):=by simpa using hp
 have hq':tmps[q]?.getD undef=v:=by simpa using hq
 simp [results,h,hp',hq',asAddr,run_loadVar_row w g t ty cs fr d hg hu hd hi]
theorem Bt.own {g b:Nat} {w u v:World} (h:Bt g w u) (k:Bt b u v) (hb:w.heap.size≤b):Bt g w v :=
 ⟨k.os.trans h.os,k.tape.trans h.tape,k.output.trans h.output,Nat.le_trans h.size k.size,fun i hi hn=>(k.block i (Nat.lt_of_lt_of_le hi h.size) (by omega)).trans (h.block i hi hn)⟩
theorem Bl.add {w v:World} {L:List Blk} (h:Bl w L v) (x:Blk) (hx:v.heap[x.g]?=some x.obj) (hw:w.heap.size≤x.g) (hn:∀ y ∈ L,y.g≠x.g):Bl w (L++[x]) v:=by
 refine ⟨h.gr,fun y hy=>?_,List.pairwise_append.2 ⟨h.ne,List.pairwise_singleton _ _,fun y hy z hz=>?_⟩⟩
 ·rcases List.mem_append.1 hy with hy | hy
  ·exact h.at_ y hy
  ·rw [List.mem_singleton] at hy
   subst hy
   exact ⟨hx,hw⟩
 ·rw [List.mem_singleton] at hz
  subst hz
  exact hn y hy
def bv (b:List Int):List Value:=b.map (Value.int .u8)
theorem bv_len (b:List Int):(bv b).length=b.length:=by unfold bv; simp
theorem Bl.apart {w v:World} {L:List Blk} (h:Bl w L v) {g:Nat} {c:Array Value} {t:TypeId} (hg:v.heap[g]?=some (.cells c t (0,0))) (ht:∀ y ∈ L,y.t≠t):∀ y ∈ L,y.g≠g:=by
 intro y hy e
 have h1:=(h.at_ y hy).1
 rw [e,hg] at h1
 have:=Option.some.inj h1
 unfold Blk.obj at this
 injection this with _ h6 _
 exact ht y hy h6.symm
structure Chg (F F':List Nat) (w v:World):Prop where
 os:v.os=w.os
 tape:v.tape=w.tape
 output:v.output=w.output
 size:w.heap.size≤v.heap.size
 block:∀ i,i<w.heap.size→i ∉ F→v.heap[i]?=w.heap[i]?
 new:∀ i ∈ F',i ∈ F∨w.heap.size≤i
theorem Gr.chg0 {w v:World} (h:Gr w v) (F:List Nat):Chg F F w v:=⟨h.os,h.tape,h.output,h.size,fun i hi _=>h.block i hi,fun i hi=>.inl hi⟩
theorem Chg.gr {F F':List Nat} {w u v:World} (h:Chg F F' w u) (k:Gr u v):Chg F F' w v :=
 ⟨k.os.trans h.os,k.tape.trans h.tape,k.output.trans h.output,Nat.le_trans h.size k.size,fun i hi hn=>(k.block i (Nat.lt_of_lt_of_le hi h.size)).trans (h.block i hi hn),h.new⟩
theorem Chg.own {F F':List Nat} {w u v:World} (h:Gr w u) (k:Chg F F' u v) (hF:∀ i ∈ F,w.heap.size≤i):Gr w v :=
 ⟨k.os.trans h.os,k.tape.trans h.tape,k.output.trans h.output,Nat.le_trans h.size k.size,fun i hi=>(k.block i (Nat.lt_of_lt_of_le hi h.size) (fun hm=>by have:=hF i hm; omega)).trans (h.block i hi)⟩
theorem Chg.bt2 {F:List Nat} {w u v:World} {b:Nat} (h:Chg F F w u) (k:Bt b u v) (hb:b ∈ F∨w.heap.size≤b):Chg F F w v :=
 ⟨k.os.trans h.os,k.tape.trans h.tape,k.output.trans h.output,Nat.le_trans h.size k.size,fun i hi hn=>(k.block i (Nat.lt_of_lt_of_le hi h.size) (by
  rintro rfl
  rcases hb with hb | hb
  ·exact hn hb
  ·omega)).trans (h.block i hi hn),fun i hi=>.inl hi⟩
def bare (w:World):World:={ w with heap:=#[] }
structure Bc (F:List Nat) (w:World) (L:List Blk) (v:World):Prop where
 bl:Bl (bare w) L v
 chg:Chg F F w v
 fo:∀ x ∈ L,x.g ∈ F∨w.heap.size≤x.g
theorem fo_set {P:Nat→Prop} {L:List Blk} (h:∀ x ∈ L,P x.g) (i:Nat) {x:Blk} (hi:L[i]?=some x) (c:Array Value) (t:TypeId):∀ y ∈ L.set i ⟨x.g,c,t⟩,P y.g:=fun y hy =>
 (List.mem_or_eq_of_mem_set hy).elim (h y) (fun e=>by rw [e]; exact h x (List.mem_of_getElem? hi))
theorem Bc.get {F:List Nat} {w v:World} {L:List Blk} (h:Bc F w L v) (i:Nat) {x:Blk} (hi:L[i]?=some x):v.heap[x.g]?=some (.cells x.c x.t (0,0)):=h.bl.get i hi
theorem Bc.own {F:List Nat} {w v:World} {L:List Blk} (h:Bc F w L v) (i:Nat) {x:Blk} (hi:L[i]?=some x):x.g ∈ F∨w.heap.size≤x.g:=h.fo x (List.mem_of_getElem? hi)
theorem Bc.more {F:List Nat} {w u v:World} {L:List Blk} (h:Bc F w L u) (k:Gr u v):Bc F w L v:=⟨h.bl.more k,h.chg.gr k,h.fo⟩
theorem Bc.drew {F:List Nat} {w v:World} {L:List Blk} (h:Bc F w L v):Bc F w L v.drew:=h.more (Gr.refl v).drew
theorem Bc.cell {F:List Nat} {w v:World} {L:List Blk} (h:Bc F w L v) (k:Nat) {x:Blk} (hk:L[k]?=some x) (i:Nat) (y:Value):Bc F w (L.set k ⟨x.g,x.c.setIfInBounds i y,x.t⟩) (v.setCell ⟨x.g,i,none⟩ y) :=
 ⟨h.bl.cell k hk i y,h.chg.bt2 (Bt.setCell v i y) (h.own k hk),fo_set (P:=fun g=>g ∈ F∨w.heap.size≤g) h.fo k hk _ _⟩
theorem Bc.but {F:List Nat} {w u v:World} {L:List Blk} (h:Bc F w L u) {g:Nat} (k:Bt g u v) (i:Nat) {x:Blk} (hi:L[i]?=some x) (hx:x.g=g) {c:Array Value} (hc:v.heap[g]?=some (.cells c x.t (0,0))):Bc F w (L.set i ⟨g,c,x.t⟩) v:=by
 subst hx
 exact ⟨h.bl.but k i hi rfl hc,h.chg.bt2 k (h.own i hi),fo_set (P:=fun g=>g ∈ F∨w.heap.size≤g) h.fo i hi _ _⟩
theorem Bc.new {F:List Nat} {w v:World} {L:List Blk} (h:Bc F w L v) (c:Array Value) (t:TypeId):Bc F w (L++[⟨v.heap.size,c,t⟩]) (v.alloc (.cells c t (0,0))) :=
 ⟨h.bl.new c t,h.chg.gr ((Gr.refl v).alloc _),fun x hx=>(List.mem_append.1 hx).elim (h.fo x) (fun e=>by rw [List.mem_singleton] at e; rw [e]; exact .inr h.chg.size)⟩
theorem Bc.nil (F:List Nat) (w:World):Bc F w [] w:=⟨⟨⟨rfl,rfl,rfl,Nat.zero_le _,fun i hi=>absurd hi (Nat.not_lt_zero i)⟩,(fun _ h=>by cases h),List.Pairwise.nil⟩,(Gr.refl w).chg0 F,fun _ h=>by cases h⟩
theorem Bc.add {F:List Nat} {w v:World} {L:List Blk} (h:Bc F w L v) (x:Blk) (hx:v.heap[x.g]?=some x.obj) (hw:x.g ∈ F∨w.heap.size≤x.g) (hn:∀ y ∈ L,y.g≠x.g):Bc F w (L++[x]) v :=
 ⟨h.bl.add x hx (Nat.zero_le _) hn,h.chg,fun y hy=>(List.mem_append.1 hy).elim (h.fo y) (fun e=>by rw [List.mem_singleton] at e; rw [e]; exact hw)⟩
theorem ty_ne {v:World} {a b:Nat} {c d:Array Value} {s t:TypeId} (ha:v.heap[a]?=some (.cells c s (0,0))) (hb:v.heap[b]?=some (.cells d t (0,0))) (hn:s≠t):a≠b:=by
 rintro rfl
 rw [ha] at hb
 have:=Option.some.inj hb
 injection this with _ h6 _
 exact hn h6
abbrev P0 (g:Nat):Value:=.pointer (some ⟨g,0,none⟩)
def Vl (v:Value) (w:World) (r:Ending) (w':World):Prop:=r=.returned v∧Gr w w'
theorem ob_base {b c:Nat} {w:World} {v:Value} {L:List Int} (h:Ob b w v L) (hc:c≤b):Ob c w v L:=by
 refine ⟨h.1,?_⟩
 rcases h.2 with h1 | ⟨g,cap,cur,h1,h2,h3⟩
 ·exact .inl h1
 ·exact .inr ⟨g,cap,cur,h1,Nat.le_trans hc h2,h3⟩
theorem ob_lb {b:Nat} {w:World} {v:Value} {L:List Int} (h:Ob b w v L) (hb:IsB L) {n:Nat} (hn:L.length=n):∃ a c,v=.slice a n c∧Lb w a n c L:=by
 obtain ⟨a,c,h1,h2,h3,h4⟩:=h.slice
 subst hn
 exact ⟨a,c,h1,rfl,hb,h4,h2,by unfold maxLen at h3; omega⟩
theorem exec_sby {op:Oper} {a:Act} (w:World) (x:Operand) (ho:op.op=.load 43 x) (g i:Nat) (hx:a.eval x=.pointer (some ⟨g,i,none⟩)) (s:Option Addr) (n c:Nat) (hc:w.cell? ⟨g,i,none⟩=some (.slice s n c)):(execOp a.eval op).run Tryz.prog w=.ok (.value (.slice s n c)) w:=by
 unfold execOp
 simp only [ho,hx,Instr.loadAt,Instr.sureAddr,Sem.run_bind,Sem.run_pure,Result.andThen_ok]
 go_simp
theorem ob_none (b:Nat) (w:World):Ob b w (.slice none 0 0) []:=⟨rfl,.inl ⟨rfl,rfl⟩⟩
set_option maxHeartbeats 4000000 in
theorem put4_ok (B:List Int) (s:Option Addr) (n cap:Nat) (x:Int) (hx:0≤x) (hn:n≤1000) (w:World) (lb:Lb w s n cap B):Calls Tryz.prog 68 #[.slice s n cap,.int .u64 x,.int .i64 4] w (Mkd (B++lowL x 4) w):=by
 obtain ⟨T,hT⟩:∃ T,T=Mkd (B++lowL x 4) w:=⟨_,rfl⟩
 rw [← hT]
 replace hT:=hide hT
 obtain ⟨m,hm⟩:∃ m,m=n+4:=⟨_,rfl⟩
 have i1:(n:Int)+4=(m:Int):=by omega
 have i2:IntKind.i64.wrap (m:Int)=(m:Int):=by rw [IntKind.wrap_i64]; omega
 replace lb:=hide lb
 replace hm:=hide hm
 go_enter Tryz.func68,Tryz.ntmps68
 go_upto_region 1 with fail
 have hmb:m≤1008:=by have:=unhide hm; omega
 refine wp_region_lit ?_
 refine list_val (.slice s n cap) (by kernel_rfl) (by kernel_rfl) ?_
 simp only [nrm]
 refine list_val (.int .i64 n) (by kernel_rfl) (by kernel_rfl) ?_
 simp only [nrm]
 refine list_val (.int .i64 4) (by kernel_rfl) (by kernel_rfl) ?_
 simp only [nrm]
 refine list_val (.int .i64 m) (by kernel_rfl) (by go_simp) ?_
 simp only [nrm]
 refine wpList_make_room _ rfl (.tmp 12) (.tmp 12) rfl (m:Int) (m:Int) m m (by kernel_rfl) (by kernel_rfl) rfl rfl (Nat.le_refl _) (by omega) ?_
 simp only [nrm]
 have hB:=(Bl.nil w).new (kc (List.replicate m 0)) 5
 simp only [List.nil_append] at hB
 generalize World.alloc _ _=u at *
 replace hB:=hide hB
 (refine wpList_step fun K hK=>?_; replace hK:=hide hK; go_simp; refine unhide hK _ _ ?_; clear hK K)
 refine wpList_nil ?_
 go_upto_region 2 with fail
 replace hB:=unhide hB
 have hnm:n≤m:=by have:=unhide hm; omega
 have lb2:Hid (Lb u s n cap B):=(unhide lb).gr hB.gr
 refine wp_region_lit ?_
 refine list_val (.slice (some ⟨w.heap.size,0,none⟩) m m) (by kernel_rfl) (by kernel_rfl) ?_
 simp only [nrm]
 refine list_val (.slice s n cap) (by kernel_rfl) (by kernel_rfl) ?_
 simp only [nrm]
 refine wpList_plain rfl fun K hK=>?_
 refine copy_wp (.tmp 14) (.tmp 15) rfl w.heap.size 0 m m s n cap (by kernel_rfl) (by kernel_rfl) ((List.replicate m 0).map (Value.int .u8)) 5 (hB.get 0 (x:=⟨w.heap.size,kc (List.replicate m 0),5⟩) rfl) B (by rw [(unhide lb).len]; exact (Nat.min_eq_left (by omega)).symm) (unhide lb2).sl (by rw [(unhide lb).len,List.length_map,List.length_replicate]; omega) ?_
 have hcell:=laid (S:=B) (o:=0) (hB.get 0 (x:=⟨w.heap.size,kc (List.replicate m 0),5⟩) rfl) (by rw [(unhide lb).len,List.length_replicate]; omega)
 have hB2:=hB.but (setCells_bt (B.map (Value.int .u8)) u w.heap.size 0) 0 (x:=⟨w.heap.size,kc (List.replicate m 0),5⟩) rfl rfl hcell
 simp only [List.set_cons_zero] at hB2
 refine hK _ _ ?_
 clear hK K hcell hB
 simp only [nrm]
 generalize World.setCells _ _ _ _=u1 at *
 rw [(unhide lb).len]
 (refine wpList_step fun K hK=>?_; replace hK:=hide hK; go_simp; refine unhide hK _ _ ?_; clear hK K)
 refine wpList_nil ?_
 have hL:lay (List.replicate m 0) 0 B=filled B x 4 0:=by
  unfold lay filled
  rw [List.take_zero,List.nil_append,Nat.zero_add,List.drop_replicate,(unhide lb).len,show m - n=4 from by have:=unhide hm; omega]
  rfl
 rw [hL] at hB2
 replace hB2:=hide hB2
 clear hL lb2
 go_wp2_with fail
 go_loopw [1,8] (fun y i wr=>∃ k:Nat,k≤4∧y=.int .u64 (x / 256 ^ k)∧i=.int .i64 (n+k:Nat)∧Hid (Bl w [⟨w.heap.size,kc (filled B x 4 k),5⟩] wr)) (fun _ i _=>m - (intOf i).toNat)
 case atStart=>exact ⟨0,Nat.zero_le _,by simp,rfl,hB2⟩
 case round =>
 clear hB2
 obtain ⟨k,hk,rfl,rfl,hB⟩:=hrel
 have hBn:B.length=n:=(unhide lb).len
 have hlen:=filled_len B x 4 k hk
 rw [hBn] at hlen
 by_cases hlt:k<4
 ·obtain ⟨q,hq⟩:∃ q,q=n+k:=⟨_,rfl⟩
  rw [← hq]
  have hqm:q<m:=by have:=unhide hm; omega
  have qI:(q:Int)<(m:Int):=by omega
  have c1:=kc_cell ((unhide hB).get 0 (x:=⟨w.heap.size,kc (filled B x 4 k),5⟩) rfl) q (by omega)
  generalize (filled B x 4 k).getD q 0=z at c1
  have f1:=froz_of (i:=q) ((unhide hB).get 0 (x:=⟨w.heap.size,kc (filled B x 4 k),5⟩) rfl)
  have hy0:0≤x / 256 ^ k:=Int.ediv_nonneg hx (Int.pow_nonneg (by omega))
  have hst:=filled_step B x 4 k hlt
  have hdv:x / 256 ^ k / 256=x / 256 ^ (k+1):=by rw [Int.pow_succ,Int.ediv_ediv_of_nonneg (Int.pow_nonneg (by omega))]
  rw [hBn,← hq] at hst
  generalize x / 256 ^ k=y at *
  have hB1:=(unhide hB).cell 0 (x:=⟨w.heap.size,kc (filled B x 4 k),5⟩) rfl q (.int .u8 (y % 256))
  simp only [List.set_cons_zero,List.set_cons_succ,kc_set,hst] at hB1
  replace hB1:=hide hB1
  replace hdv:=hide hdv
  replace hq:=hide hq
  replace hy0:=hide hy0
  have i3:IntKind.i64.wrap ((q:Int)+1)=(q:Int)+1:=by rw [IntKind.wrap_i64]; omega
  have i4:IntKind.u8.wrap y=y % 256:=by rw [IntKind.wrap_u8]
  replace hy0:=unhide hy0
  clear hst hlen hB hBn
  go_wp2_with fail
  go_roundw
  case rel=>exact ⟨k+1,by omega,by rw [unhide hdv],by have:=unhide hq; go_num,hB1⟩
  case measure=>have:=unhide hq; simp [intOf]; omega
 ·have hqm:¬ n+k<m:=by have:=unhide hm; omega
  have qI:¬ ((n+k:Nat):Int)<(m:Int):=by omega
  have hk8:k=4:=by omega
  have hF:Hid (Mkd (B++lowL x 4) w (.returned (.slice (some ⟨w.heap.size,0,none⟩) m m)) wr):=by
   refine ⟨w.heap.size,?_,(unhide hB).own 0 (x:=⟨w.heap.size,kc (filled B x 4 k),5⟩) rfl,?_,(unhide hB).gr⟩
   ·rw [List.length_append,lowL_len,hBn,← unhide hm]
   ·have h:=(unhide hB).get 0 (x:=⟨w.heap.size,kc (filled B x 4 k),5⟩) rfl
    rw [hk8] at h
    have e:filled B x 4 4=B++lowL x 4:=by simp [filled]
    rw [e] at h
    exact h
  clear hlen hB hBn
  generalize n+k=q at *
  go_wp2_with fail
  rw [unhide hT]
  exact unhide hF
theorem exec_win {a:Act} {o:Oper} (w:World) (x y z:Operand) (ho:o.op=.slice 43 x (some y) (some z) none) (p len cap l h m:Nat) (hx:a.eval x=.slice (some ⟨p,0,none⟩) len cap) (hy:a.eval y=.int .i64 l) (hz:a.eval z=.int .i64 h) (h1:h=l+m) (h0:0<m) (h2:h≤cap) :
  (execOp a.eval o).run Tryz.prog w=.ok (.value (.slice (some ⟨p,l,none⟩) m (cap - l))) w:=by
 have e0:h - l=m:=by omega
 have e1:(0:Int)≤l:=by omega
 have e2:(l:Int)≤h:=by omega
 have e3:(h:Int)≤cap:=by omega
 have hu:Tryz.prog.underlying 43=some (.slice (Tryz.prog.elem 43)):=by kernel_rfl
 have hs:(sizeOf (Tryz.prog.elem 43)).run Tryz.prog w=.ok 1 w:=by kernel_rfl
 have hne:¬ cap=l:=by omega
 simp [execOp,ho,hx,hy,hz,run_sliceAt_slice _ _ _ _ _ _ hu,run_slice_lh _ _ _ _ _ hu _ _ _ _ e1 e2 e3,hs,sliced,hne,Addr.add_mid,e0]
theorem ob_at {b:Nat} {w:World} {v:Value} {L:List Int} (h:Ob b w v L) (hn:L≠[]):∃ p c,v=.slice (some ⟨p,0,none⟩) L.length c∧b≤p∧At w p 0 L∧L.length≤c∧c<9223372036854775808∧∃ cur,w.heap[p]?=some (.cells cur 5 (0,0)):=by
 obtain ⟨a,c,e,h1,h2,h3⟩:=h.slice
 rcases h.2 with ⟨_,e2⟩ | ⟨g,cap,cur,f1,f2,f3,_⟩
 ·exact absurd (List.eq_nil_of_length_eq_zero e2) hn
 ·rw [e] at f1
  injection f1 with g1 g2 g3
  subst g1 g3
  rcases h3 with h3 | ⟨p,o,h4,h5⟩
  ·exact absurd h3 hn
  ·have h6:=Option.some.inj h4
   injection h6 with h7 h8 _
   subst h7 h8
   exact ⟨g,c,e,f2,h5,h1,by unfold maxLen at h2; omega,cur,f3⟩
theorem exec_err {op:Oper} {a:Act} (w:World) (x:Operand) (ho:op.op=.load 37 x) (g i:Nat) (hx:a.eval x=.pointer (some ⟨g,i,none⟩)) (v:Int) (hc:w.cell? ⟨g,i,none⟩=some (.int .i64 v)):(execOp a.eval op).run Tryz.prog w=.ok (.value (.int .i64 v)) w:=by
 unfold execOp
 simp only [ho,hx,Instr.loadAt,Instr.sureAddr,Sem.run_bind,Sem.run_pure,Result.andThen_ok]
 go_simp
theorem Chg.bt1 {g:Nat} {w v:World} (h:Chg [g] [g] w v):Bt g w v:=⟨h.os,h.tape,h.output,h.size,fun i hi hn=>h.block i hi (by simp [hn])⟩
set_option maxHeartbeats 4000000 in
theorem clone_ok (B:List Int) (p q n c:Nat) (w:World) (hB0:Lb w (some ⟨p,q,none⟩) n c B) (hn:n≤100000):Calls Tryz.prog 77 #[.slice (some ⟨p,q,none⟩) n c] w (Infd B w):=by
 obtain ⟨T,hT⟩:∃ T,T=Infd B w:=⟨_,rfl⟩
 rw [← hT]
 replace hT:=hide hT
 replace hB0:=hide hB0
 go_enter Tryz.func77,Tryz.ntmps77
 go_upto_region 1 with fail
 refine wp_region_lit ?_
 refine list_val (.slice (some ⟨p,q,none⟩) n c) (by kernel_rfl) (by kernel_rfl) ?_
 simp only [nrm]
 refine list_val (.bool false) (by kernel_rfl) (by kernel_rfl) ?_
 simp only [nrm]
 refine wpList_nil ?_
 go_upto_region 3 with fail
 refine wp_region_lit ?_
 refine list_valw (.slice (some ⟨w.heap.size,0,none⟩) 0 0) (w.alloc (.cells #[] 5 (0,0))) (by kernel_rfl) (by kernel_rfl) ?_
 have hO:Ob w.heap.size (w.alloc (.cells #[] 5 (0,0))) (.slice (some ⟨w.heap.size,0,none⟩) 0 0) []:=blk_bytes [] (Nat.le_refl _) (Nat.zero_le _)
 have hG:=(Gr.refl w).alloc (.cells #[] 5 (0,0))
 generalize World.alloc _ _=u at *
 simp only [nrm]
 refine list_val (.slice (some ⟨p,q,none⟩) n c) (by kernel_rfl) (by kernel_rfl) ?_
 simp only [nrm]
 refine app_bs (by kernel_rfl) (.tmp 5) (.tmp 6) rfl w.heap.size _ [] rfl hO (some ⟨p,q,none⟩) n c B rfl (unhide hB0).len ((unhide hB0).gr hG).sl (by simp only [List.length_nil,Nat.zero_add]; omega) hG.size ?_
 intro v9 u9 hO9 hgr
 rw [List.nil_append] at hO9
 have hZ:Hid (Infd B w (.returned v9) u9):=⟨v9,rfl,hO9,hO.grown (Nat.le_refl _) hG hgr⟩
 clear hO9 hgr hO hG
 simp only [nrm]
 (refine wpList_step fun K hK=>?_; replace hK:=hide hK; go_simp; refine unhide hK _ _ ?_; clear hK K)
 refine wpList_nil ?_
 go_wp2_with fail
 rw [unhide hT]
 exact unhide hZ
def rdr (k p n c:Nat):Array Value:=#[.int .i64 (k:Int),.int .i64 0,.slice (some ⟨p,0,none⟩) n c]
structure Rdr (g p n c k:Nat) (L:List Int) (w:World):Prop where
 cel:w.heap[g]?=some (.cells (rdr k p n c) 130 (0,0))
 at_:At w p 0 L
 ne:p≠g
 len:L.length=n
 isB:IsB L
 cap:n≤c
 max:c<9223372036854775808
theorem Rdr.gr {g p n c k:Nat} {L:List Int} {w v:World} (h:Rdr g p n c k L w) (e:Gr w v):Rdr g p n c k L v:=⟨e.blk h.cel,fun j hj=>e.cell (h.at_ j hj),h.ne,h.len,h.isB,h.cap,h.max⟩
theorem Rdr.bt {g p n c k q:Nat} {L:List Int} {w v:World} (h:Rdr g p n c k L w) (e:Bt q w v) (hq:g≠q) (hp:p≠q):Rdr g p n c k L v:=⟨e.blk h.cel hq,h.at_.bt e hp,h.ne,h.len,h.isB,h.cap,h.max⟩
theorem Rdr.to {g p n c k m:Nat} {L:List Int} {w v:World} (h:Rdr g p n c k L w) (e:Bt g w v) (hc:v.heap[g]?=some (.cells (rdr m p n c) 130 (0,0))):Rdr g p n c m L v:=⟨hc,h.at_.bt e h.ne,h.ne,h.len,h.isB,h.cap,h.max⟩
set_option maxHeartbeats 4000000 in
theorem rerr_ok (g p n c k:Nat) (w:World) (hc:w.heap[g]?=some (.cells (rdr k p n c) 130 (0,0))):Calls Tryz.prog 101 #[P0 g] w (Vl (.int .i64 0) w):=by
 obtain ⟨T,hT⟩:∃ T,T=Vl (.int .i64 0) w:=⟨_,rfl⟩
 rw [← hT]
 replace hT:=hide hT
 replace hc:=hide hc
 go_enter Tryz.func101,Tryz.ntmps101
 go_upto_region 3 with fail
 have hcl:=hc
 refine wp_region_lit ?_
 refine list_val (.pointer (some ⟨g,0,none⟩)) (by kernel_rfl) (by kernel_rfl) ?_
 simp only [nrm]
 refine list_val (.pointer (some ⟨g,0,none⟩)) (by kernel_rfl) (by kernel_rfl) ?_
 simp only [nrm]
 refine list_val (.pointer (some ⟨g,0,none⟩)) (by kernel_rfl) (by kernel_rfl) ?_
 simp only [nrm]
 refine list_val (.pointer (some ⟨g,1,none⟩)) (by kernel_rfl) (by kernel_rfl) ?_
 simp only [nrm]
 refine list_val (.int .i64 0) (by kernel_rfl) (exec_err _ (.tmp 8) rfl g 1 (by kernel_rfl) 0 (cell_of (unhide hc) (i:=1) rfl)) ?_
 simp only [nrm]
 (refine wpList_step fun K hK=>?_; replace hK:=hide hK; go_simp; refine unhide hK _ _ ?_; clear hK K)
 refine wpList_nil ?_
 have hZ:Hid (Vl (.int .i64 0) w (.returned (.int .i64 0)) w):=⟨rfl,Gr.refl w⟩
 go_wp2_with fail
 rw [unhide hT]
 exact unhide hZ
set_option maxHeartbeats 4000000 in
theorem rleft_ok (g p n c k:Nat) (hkn:k≤n) (hn:n≤100000) (w:World) (hc:w.heap[g]?=some (.cells (rdr k p n c) 130 (0,0))):Calls Tryz.prog 102 #[P0 g] w (Vl (.int .i64 ((n - k:Nat):Int)) w):=by
 obtain ⟨T,hT⟩:∃ T,T=Vl (.int .i64 ((n - k:Nat):Int)) w:=⟨_,rfl⟩
 rw [← hT]
 replace hT:=hide hT
 obtain ⟨j,hj⟩:∃ j,j=n - k:=⟨_,rfl⟩
 rw [← hj] at hT
 have hw:IntKind.i64.wrap ((n:Int) - (k:Int))=(j:Int):=by rw [IntKind.wrap_i64]; omega
 clear hj
 replace hc:=hide hc
 go_enter Tryz.func102,Tryz.ntmps102
 go_upto_region 3 with fail
 refine any_start (S:=fun (v:World)=>v.heap[g]?=some (.cells (rdr k p n c) 130 (0,0))) (by kernel_rfl) ?_
 have hG:=(Gr.refl w).drew
 have hS:(fun (v:World)=>v.heap[g]?=some (.cells (rdr k p n c) 130 (0,0))) w.drew:=hG.blk (unhide hc)
 generalize World.drew _=x0 at *
 simp only [List.size_toArray,List.length_cons,List.length_nil,Array.replicate,List.replicate]
 refine any_take (i:=0) (v:=(.pointer (some ⟨g,0,none⟩))) #[false,false,false,false,false,false,false,false,false,false,false,false] rfl (by kernel_rfl) (by kernel_rfl) (by kernel_rfl) (by kernel_rfl) (fun _ _ _ h=>h) (.inl ⟨by kernel_rfl,fun x_ hu=>by kernel_rfl⟩) hS ?_
 simp only [nrm]
 refine any_take (i:=1) (v:=(.pointer (some ⟨g,0,none⟩))) #[true,false,false,false,false,false,false,false,false,false,false,false] rfl (by kernel_rfl) (by kernel_rfl) (by kernel_rfl) (by kernel_rfl) (fun _ _ _ h=>h) (.inl ⟨by kernel_rfl,fun x_ hu=>by kernel_rfl⟩) hS ?_
 simp only [nrm]
 refine any_take (i:=2) (v:=(.pointer (some ⟨g,2,none⟩))) #[true,true,false,false,false,false,false,false,false,false,false,false] rfl (by kernel_rfl) (by kernel_rfl) (by kernel_rfl) (by kernel_rfl) (fun _ _ _ h=>h) (.inl ⟨by kernel_rfl,fun x_ hu=>by kernel_rfl⟩) hS ?_
 simp only [nrm]
 refine any_take (i:=3) (v:=(.slice (some ⟨p,0,none⟩) n c)) #[true,true,true,false,false,false,false,false,false,false,false,false] rfl (by kernel_rfl) (by kernel_rfl) (by kernel_rfl) (by kernel_rfl) (fun _ _ _ h=>h) (.inl ⟨by kernel_rfl,fun x_ hu=>exec_sby _ (.tmp 7) rfl g 2 (by kernel_rfl) (some ⟨p,0,none⟩) n c (cell_of hu (i:=2) rfl)⟩) hS ?_
 simp only [nrm]
 refine any_take (i:=4) (v:=(.int .i64 (n:Int))) #[true,true,true,true,false,false,false,false,false,false,false,false] rfl (by kernel_rfl) (by kernel_rfl) (by kernel_rfl) (by kernel_rfl) (fun _ _ _ h=>h) (.inl ⟨by kernel_rfl,fun x_ hu=>by kernel_rfl⟩) hS ?_
 simp only [nrm]
 refine any_take (i:=5) (v:=(.pointer (some ⟨g,0,none⟩))) #[true,true,true,true,true,false,false,false,false,false,false,false] rfl (by kernel_rfl) (by kernel_rfl) (by kernel_rfl) (by kernel_rfl) (fun _ _ _ h=>h) (.inl ⟨by kernel_rfl,fun x_ hu=>by kernel_rfl⟩) hS ?_
 simp only [nrm]
 refine any_take (i:=6) (v:=(.pointer (some ⟨g,0,none⟩))) #[true,true,true,true,true,true,false,false,false,false,false,false] rfl (by kernel_rfl) (by kernel_rfl) (by kernel_rfl) (by kernel_rfl) (fun _ _ _ h=>h) (.inl ⟨by kernel_rfl,fun x_ hu=>by kernel_rfl⟩) hS ?_
 simp only [nrm]
 refine any_take (i:=7) (v:=(.pointer (some ⟨g,0,none⟩))) #[true,true,true,true,true,true,true,false,false,false,false,false] rfl (by kernel_rfl) (by kernel_rfl) (by kernel_rfl) (by kernel_rfl) (fun _ _ _ h=>h) (.inl ⟨by kernel_rfl,fun x_ hu=>by kernel_rfl⟩) hS ?_
 simp only [nrm]
 refine any_take (i:=8) (v:=(.pointer (some ⟨g,0,none⟩))) #[true,true,true,true,true,true,true,true,false,false,false,false] rfl (by kernel_rfl) (by kernel_rfl) (by kernel_rfl) (by kernel_rfl) (fun _ _ _ h=>h) (.inl ⟨by kernel_rfl,fun x_ hu=>by kernel_rfl⟩) hS ?_
 simp only [nrm]
 refine any_take (i:=9) (v:=(.int .i64 (k:Int))) #[true,true,true,true,true,true,true,true,true,false,false,false] rfl (by kernel_rfl) (by kernel_rfl) (by kernel_rfl) (by kernel_rfl) (fun _ _ _ h=>h) (.inl ⟨by kernel_rfl,fun x_ hu=>exec_i64 _ (.tmp 13) rfl g 0 (by kernel_rfl) (k:Int) (cell_of hu (i:=0) rfl)⟩) hS ?_
 simp only [nrm]
 refine any_take (i:=10) (v:=(.int .i64 (j:Int))) #[true,true,true,true,true,true,true,true,true,true,false,false] rfl (by kernel_rfl) (by kernel_rfl) (by kernel_rfl) (by kernel_rfl) (fun _ _ _ h=>h) (.inl ⟨by kernel_rfl,fun x_ hu=>by go_simp⟩) hS ?_
 simp only [nrm]
 refine any_one (i:=11) (by kernel_rfl) rfl (fun K_ hQ=>?_)
 replace hQ:=hide hQ
 go_simp
 refine (unhide hQ).out _ _ hS (fun _=>?_)
 clear hQ K_
 refine any_done (by kernel_rfl) ?_
 have hZ:Hid (Vl (.int .i64 (j:Int)) w (.returned (.int .i64 (j:Int))) x0):=⟨rfl,hG⟩
 replace hG:=hide hG
 go_wp2_with fail
 rw [unhide hT]
 exact unhide hZ
def Tkn (g p n c k m:Nat) (L:List Int) (w:World) (r:Ending) (w':World):Prop:=r=.returned (.slice (some ⟨p,k,none⟩) m (c - k))∧Rdr g p n c (k+m) L w'∧Bt g w w'
set_option maxHeartbeats 4000000 in
theorem rtake_ok (g p n c k m:Nat) (L:List Int) (w:World) (hR:Rdr g p n c k L w) (hkn:k+m≤n) (hm:0<m) (hn:n≤100000):Calls Tryz.prog 80 #[P0 g,.int .i64 (m:Int)] w (Tkn g p n c k m L w):=by
 obtain ⟨T,hT⟩:∃ T,T=Tkn g p n c k m L w:=⟨_,rfl⟩
 rw [← hT]
 replace hT:=hide hT
 have hcn:=hR.cap
 obtain ⟨km,hkm⟩:∃ x,x=k+m:=⟨_,rfl⟩
 have hw1:IntKind.i64.wrap ((k:Int)+(m:Int))=(km:Int):=by rw [IntKind.wrap_i64]; omega
 obtain ⟨j,hj⟩:∃ j,j=n - k:=⟨_,rfl⟩
 have hmj:¬ (j:Int)<(m:Int):=by omega
 have hB:=(Bc.nil [g] w).add ⟨g,rdr k p n c,130⟩ hR.cel (.inl (by simp)) (fun y hy=>by cases hy)
 replace hB:Bc [g] w [⟨g,rdr k p n c,130⟩] w:=hB
 replace hR:=hide hR; replace hB:=hide hB; replace hkm:=hide hkm; replace hj:=hide hj
 go_enter Tryz.func80,Tryz.ntmps80
 go_upto_region 1 with fail
 replace hB:=unhide hB
 refine wp_region_lit ?_
 refine list_val (.pointer (some ⟨g,0,none⟩)) (by kernel_rfl) (by kernel_rfl) ?_
 simp only [nrm]
 refine list_call 101 #[.pointer (some ⟨g,0,none⟩)] (by kernel_rfl) (by kernel_rfl) ((rerr_ok g p n c k _ (hB.get 0 (x:=⟨g,rdr k p n c,130⟩) rfl)).mono ?_)
 rintro r u1 ⟨rfl,hg⟩
 refine ⟨_,rfl,?_⟩
 replace hB:=hB.more hg
 clear hg
 simp only [nrm]
 refine list_val (.bool false) (by kernel_rfl) (by go_simp) ?_
 simp only [nrm]
 refine wpList_nil ?_
 replace hB:=hide hB
 go_upto_region 6 with fail
 replace hB:=unhide hB
 refine wp_region_lit ?_
 refine list_val (.int .i64 (m:Int)) (by kernel_rfl) (by kernel_rfl) ?_
 simp only [nrm]
 refine list_val (.pointer (some ⟨g,0,none⟩)) (by kernel_rfl) (by kernel_rfl) ?_
 simp only [nrm]
 refine list_call 102 #[.pointer (some ⟨g,0,none⟩)] (by kernel_rfl) (by kernel_rfl) ((rleft_ok g p n c k (by omega) hn _ (hB.get 0 (x:=⟨g,rdr k p n c,130⟩) rfl)).mono ?_)
 rintro r u2 ⟨rfl,hg⟩
 refine ⟨_,rfl,?_⟩
 rw [← unhide hj]
 replace hB:=hB.more hg
 clear hg
 simp only [nrm]
 refine list_val (.bool false) (by kernel_rfl) (by go_simp) ?_
 simp only [nrm]
 refine wpList_nil ?_
 replace hB:=hide hB
 go_upto_region 9 with fail
 replace hB:=unhide hB
 refine wp_region_lit ?_
 refine list_val (.pointer (some ⟨g,0,none⟩)) (by kernel_rfl) (by kernel_rfl) ?_
 simp only [nrm]
 refine list_val (.pointer (some ⟨g,0,none⟩)) (by kernel_rfl) (by kernel_rfl) ?_
 simp only [nrm]
 refine list_val (.pointer (some ⟨g,0,none⟩)) (by kernel_rfl) (by kernel_rfl) ?_
 simp only [nrm]
 refine list_val (.pointer (some ⟨g,0,none⟩)) (by kernel_rfl) (by kernel_rfl) ?_
 simp only [nrm]
 refine list_val (.int .i64 (k:Int)) (by kernel_rfl) (exec_i64 _ (.tmp 26) rfl g 0 (by kernel_rfl) (k:Int) (cell_of (hB.get 0 (x:=⟨g,rdr k p n c,130⟩) rfl) (i:=0) rfl)) ?_
 simp only [nrm]
 (refine wpList_step fun K hK=>?_; replace hK:=hide hK; go_simp; refine unhide hK _ _ ?_; clear hK K)
 refine wpList_nil ?_
 replace hB:=hide hB
 go_upto_region 10 with fail
 replace hB:=unhide hB
 refine wp_region_lit ?_
 refine list_val (.pointer (some ⟨g,0,none⟩)) (by kernel_rfl) (by kernel_rfl) ?_
 simp only [nrm]
 refine list_val (.pointer (some ⟨g,0,none⟩)) (by kernel_rfl) (by kernel_rfl) ?_
 simp only [nrm]
 refine list_val (.pointer (some ⟨g,0,none⟩)) (by kernel_rfl) (by kernel_rfl) ?_
 simp only [nrm]
 refine list_val (.pointer (some ⟨g,0,none⟩)) (by kernel_rfl) (by kernel_rfl) ?_
 simp only [nrm]
 refine list_val (.int .i64 (k:Int)) (by kernel_rfl) (exec_i64 _ (.tmp 31) rfl g 0 (by kernel_rfl) (k:Int) (cell_of (hB.get 0 (x:=⟨g,rdr k p n c,130⟩) rfl) (i:=0) rfl)) ?_
 simp only [nrm]
 refine list_val (.int .i64 (m:Int)) (by kernel_rfl) (by kernel_rfl) ?_
 simp only [nrm]
 refine list_val (.int .i64 (km:Int)) (by kernel_rfl) (by go_simp) ?_
 simp only [nrm]
 refine list_val (.pointer (some ⟨g,0,none⟩)) (by kernel_rfl) (by kernel_rfl) ?_
 simp only [nrm]
 refine list_val (.pointer (some ⟨g,0,none⟩)) (by kernel_rfl) (by kernel_rfl) ?_
 simp only [nrm]
 refine list_val (.pointer (some ⟨g,0,none⟩)) (by kernel_rfl) (by kernel_rfl) ?_
 simp only [nrm]
 have c4:=cell_of (hB.get 0 (x:=⟨g,rdr k p n c,130⟩) rfl) (i:=0) rfl
 have fz:=froz_of (i:=0) (hB.get 0 (x:=⟨g,rdr k p n c,130⟩) rfl)
 have hB2:=hB.cell 0 (x:=⟨g,rdr k p n c,130⟩) rfl 0 (.int .i64 (km:Int))
 simp only [List.set_cons_zero,List.set_cons_succ] at hB2
 replace hB2:Bc [g] w [⟨g,rdr km p n c,130⟩] _:=hB2
 clear hB
 replace hB2:=hide hB2
 dsimp only at c4 fz
 (refine wpList_step fun K hK=>?_; replace hK:=hide hK; go_simp; refine unhide hK _ _ ?_; clear hK K)
 clear c4 fz
 have hB:=unhide hB2
 clear hB2
 generalize World.setCell _ _ _=u3 at *
 refine wpList_nil ?_
 clear hw1
 replace hB:=hide hB
 go_upto_region 11 with fail
 replace hB:=unhide hB
 refine any_start (S:=fun (v:World)=>v.heap[g]?=some (.cells (rdr km p n c) 130 (0,0))) (by kernel_rfl) ?_
 replace hB:=hB.drew
 generalize World.drew _=x0 at *
 have hS:(fun (v:World)=>v.heap[g]?=some (.cells (rdr km p n c) 130 (0,0))) x0:=(hB.get 0 (x:=⟨g,rdr km p n c,130⟩) rfl)
 replace hB:=hide hB
 simp only [List.size_toArray,List.length_cons,List.length_nil,Array.replicate,List.replicate]
 refine any_take (i:=0) (v:=(.pointer (some ⟨g,0,none⟩))) #[false,false,false,false,false,false,false,false,false,false,false,false] rfl (by kernel_rfl) (by kernel_rfl) (by kernel_rfl) (by kernel_rfl) (fun _ _ _ h=>h) (.inl ⟨by kernel_rfl,fun x_ hu=>by kernel_rfl⟩) hS ?_
 simp only [nrm]
 refine any_take (i:=1) (v:=(.pointer (some ⟨g,0,none⟩))) #[true,false,false,false,false,false,false,false,false,false,false,false] rfl (by kernel_rfl) (by kernel_rfl) (by kernel_rfl) (by kernel_rfl) (fun _ _ _ h=>h) (.inl ⟨by kernel_rfl,fun x_ hu=>by kernel_rfl⟩) hS ?_
 simp only [nrm]
 refine any_take (i:=2) (v:=(.pointer (some ⟨g,2,none⟩))) #[true,true,false,false,false,false,false,false,false,false,false,false] rfl (by kernel_rfl) (by kernel_rfl) (by kernel_rfl) (by kernel_rfl) (fun _ _ _ h=>h) (.inl ⟨by kernel_rfl,fun x_ hu=>by kernel_rfl⟩) hS ?_
 simp only [nrm]
 refine any_take (i:=3) (v:=(.slice (some ⟨p,0,none⟩) n c)) #[true,true,true,false,false,false,false,false,false,false,false,false] rfl (by kernel_rfl) (by kernel_rfl) (by kernel_rfl) (by kernel_rfl) (fun _ _ _ h=>h) (.inl ⟨by kernel_rfl,fun x_ hu=>exec_sby _ (.tmp 40) rfl g 2 (by kernel_rfl) (some ⟨p,0,none⟩) n c (cell_of hu (i:=2) rfl)⟩) hS ?_
 simp only [nrm]
 refine any_take (i:=4) (v:=(.int .i64 (k:Int))) #[true,true,true,true,false,false,false,false,false,false,false,false] rfl (by kernel_rfl) (by kernel_rfl) (by kernel_rfl) (by kernel_rfl) (fun _ _ _ h=>h) (.inl ⟨by kernel_rfl,fun x_ hu=>by kernel_rfl⟩) hS ?_
 simp only [nrm]
 refine any_take (i:=5) (v:=(.pointer (some ⟨g,0,none⟩))) #[true,true,true,true,true,false,false,false,false,false,false,false] rfl (by kernel_rfl) (by kernel_rfl) (by kernel_rfl) (by kernel_rfl) (fun _ _ _ h=>h) (.inl ⟨by kernel_rfl,fun x_ hu=>by kernel_rfl⟩) hS ?_
 simp only [nrm]
 refine any_take (i:=6) (v:=(.pointer (some ⟨g,0,none⟩))) #[true,true,true,true,true,true,false,false,false,false,false,false] rfl (by kernel_rfl) (by kernel_rfl) (by kernel_rfl) (by kernel_rfl) (fun _ _ _ h=>h) (.inl ⟨by kernel_rfl,fun x_ hu=>by kernel_rfl⟩) hS ?_
 simp only [nrm]
 refine any_take (i:=7) (v:=(.pointer (some ⟨g,0,none⟩))) #[true,true,true,true,true,true,true,false,false,false,false,false] rfl (by kernel_rfl) (by kernel_rfl) (by kernel_rfl) (by kernel_rfl) (fun _ _ _ h=>h) (.inl ⟨by kernel_rfl,fun x_ hu=>by kernel_rfl⟩) hS ?_
 simp only [nrm]
 refine any_take (i:=8) (v:=(.pointer (some ⟨g,0,none⟩))) #[true,true,true,true,true,true,true,true,false,false,false,false] rfl (by kernel_rfl) (by kernel_rfl) (by kernel_rfl) (by kernel_rfl) (fun _ _ _ h=>h) (.inl ⟨by kernel_rfl,fun x_ hu=>by kernel_rfl⟩) hS ?_
 simp only [nrm]
 refine any_take (i:=9) (v:=(.int .i64 (km:Int))) #[true,true,true,true,true,true,true,true,true,false,false,false] rfl (by kernel_rfl) (by kernel_rfl) (by kernel_rfl) (by kernel_rfl) (fun _ _ _ h=>h) (.inl ⟨by kernel_rfl,fun x_ hu=>exec_i64 _ (.tmp 46) rfl g 0 (by kernel_rfl) (km:Int) (cell_of hu (i:=0) rfl)⟩) hS ?_
 simp only [nrm]
 refine any_take (i:=10) (v:=(.slice (some ⟨p,k,none⟩) m (c - k))) #[true,true,true,true,true,true,true,true,true,true,false,false] rfl (by kernel_rfl) (by kernel_rfl) (by kernel_rfl) (by kernel_rfl) (fun _ _ _ h=>h) (.inl ⟨by kernel_rfl,fun x_ hu=>exec_win _ (.tmp 41) (.tmp 42) (.tmp 47) rfl p n c k km m (by kernel_rfl) (by kernel_rfl) (by kernel_rfl) (unhide hkm) hm (by have:=unhide hkm; omega)⟩) hS ?_
 simp only [nrm]
 refine any_one (i:=11) (by kernel_rfl) rfl (fun K_ hQ=>?_)
 replace hQ:=hide hQ
 go_simp
 refine (unhide hQ).out _ _ hS (fun _=>?_)
 clear hQ K_
 refine any_done (by kernel_rfl) ?_
 have hZ:Hid (Tkn g p n c k m L w (.returned (.slice (some ⟨p,k,none⟩) m (c - k))) x0):=by
  have hb:=(unhide hB).chg.bt1
  refine ⟨rfl,(unhide hR).to hb ?_,hb⟩
  rw [← unhide hkm]
  exact hS
 generalize c - k=cc at *
 clear hS
 go_wp2_with fail
 rw [unhide hT]
 exact unhide hZ
set_option maxHeartbeats 4000000 in
theorem ru32_ok (g p n c k:Nat) (L:List Int) (w:World) (hR:Rdr g p n c k L w) (hkn:k+4≤n) (hn:n≤100000):Calls Tryz.prog 54 #[P0 g] w (fun r w'=>r=.returned (.int .u32 (lowN ((L.drop k).take 4)))∧Rdr g p n c (k+4) L w'∧Bt g w w'):=by
 obtain ⟨T,hT⟩:∃ T:Ending→World→Prop,T=fun r w'=>r=.returned (.int .u32 (lowN ((L.drop k).take 4)))∧Rdr g p n c (k+4) L w'∧Bt g w w':=⟨_,rfl⟩
 rw [← hT]
 replace hT:=hide hT
 have hl:((L.drop k).take 4).length=4:=by rw [List.length_take,List.length_drop,hR.len]; omega
 have hb:IsB ((L.drop k).take 4):=fun x hx=>hR.isB x (List.mem_of_mem_drop (List.mem_of_mem_take hx))
 have hbd:=lowN_bd _ hb
 rw [hl] at hbd
 replace hR:=hide hR; replace hb:=hide hb
 go_enter Tryz.func54,Tryz.ntmps54
 go_upto_region 1 with fail
 refine wp_region_lit ?_
 refine list_val (.pointer (some ⟨g,0,none⟩)) (by kernel_rfl) (by kernel_rfl) ?_
 simp only [nrm]
 refine list_call 80 #[P0 g,.int .i64 (4:Nat)] (by kernel_rfl) (by kernel_rfl) ((rtake_ok g p n c k 4 L w (unhide hR) hkn (by omega) hn).mono ?_)
 rintro r u1 ⟨rfl,hR1,hb1⟩
 refine ⟨_,rfl,?_⟩
 have hat:At u1 p k ((L.drop k).take 4):=by
  have h:=(hR1.at_.drop k).take 4
  rw [Nat.zero_add] at h
  exact h
 replace hat:=hide hat; replace hR1:=hide hR1; replace hb1:=hide hb1
 simp only [nrm]
 refine list_call 79 #[.slice (some ⟨p,k,none⟩) 4 (c - k)] (by kernel_rfl) (by kernel_rfl) ((onum_ok p k 4 (c - k) _ u1 hl (by omega) (unhide hb) (unhide hat)).mono ?_)
 rintro r u2 ⟨rfl,rfl⟩
 refine ⟨_,rfl,?_⟩
 generalize lowN ((L.drop k).take 4)=y at *
 rw [show (256:Int) ^ 4=4294967296 from by decide] at hbd
 have e9:IntKind.u32.wrap y=y:=by rw [IntKind.wrap_u32]; omega
 simp only [nrm]
 refine list_val (.int .u32 y) (by kernel_rfl) (by go_simp) ?_
 simp only [nrm]
 (refine wpList_step fun K hK=>?_; replace hK:=hide hK; go_simp; refine unhide hK _ _ ?_; clear hK K)
 refine wpList_nil ?_
 have hZ:Hid (T (.returned (.int .u32 y)) u2):=by
  rw [unhide hT]
  exact ⟨rfl,unhide hR1,unhide hb1⟩
 clear hbd
 go_wp2_with fail
 exact unhide hZ
set_option maxHeartbeats 4000000 in
theorem rraw_ok (g p n c k m:Nat) (L:List Int) (w:World) (hR:Rdr g p n c k L w) (hkn:k+m≤n) (hm:0<m) (hn:n≤100000):Calls Tryz.prog 55 #[P0 g,.int .i64 (m:Int)] w (fun r w'=>∃ v,r=.returned v∧Ob w.heap.size w' v ((L.drop k).take m)∧Rdr g p n c (k+m) L w'∧Bt g w w'):=by
 obtain ⟨T,hT⟩:∃ T:Ending→World→Prop,T=fun r w'=>∃ v,r=.returned v∧Ob w.heap.size w' v ((L.drop k).take m)∧Rdr g p n c (k+m) L w'∧Bt g w w':=⟨_,rfl⟩
 rw [← hT]
 replace hT:=hide hT
 have hl:((L.drop k).take m).length=m:=by rw [List.length_take,List.length_drop,hR.len]; omega
 have hb:IsB ((L.drop k).take m):=fun x hx=>hR.isB x (List.mem_of_mem_drop (List.mem_of_mem_take hx))
 replace hR:=hide hR; replace hb:=hide hb
 go_enter Tryz.func55,Tryz.ntmps55
 go_upto_region 1 with fail
 refine wp_region_lit ?_
 refine list_val (.pointer (some ⟨g,0,none⟩)) (by kernel_rfl) (by kernel_rfl) ?_
 simp only [nrm]
 refine list_val (.int .i64 (m:Int)) (by kernel_rfl) (by kernel_rfl) ?_
 simp only [nrm]
 refine list_call 80 #[P0 g,.int .i64 (m:Int)] (by kernel_rfl) (by kernel_rfl) ((rtake_ok g p n c k m L w (unhide hR) hkn hm hn).mono ?_)
 rintro r u1 ⟨rfl,hR1,hb1⟩
 refine ⟨_,rfl,?_⟩
 have hlb:Lb u1 (some ⟨p,k,none⟩) m (c - k) ((L.drop k).take m):=by
  have h:=(hR1.at_.drop k).take m
  rw [Nat.zero_add] at h
  exact ⟨hl,unhide hb,.inr ⟨p,k,rfl,h⟩,by have:=hR1.cap; omega,by have:=hR1.max; omega⟩
 replace hlb:=hide hlb; replace hR1:=hide hR1; replace hb1:=hide hb1
 simp only [nrm]
 refine list_call 77 #[.slice (some ⟨p,k,none⟩) m (c - k)] (by kernel_rfl) (by kernel_rfl) ((clone_ok _ p k m (c - k) u1 (unhide hlb) (by omega)).mono ?_)
 rintro r u2 ⟨v,rfl,hO,hG⟩
 refine ⟨_,rfl,?_⟩
 have hZ:Hid (T (.returned v) u2):=by
  rw [unhide hT]
  exact ⟨v,rfl,ob_base hO (unhide hb1).size,(unhide hR1).gr hG,(unhide hb1).trans (hG.bt g)⟩
 clear hO hG
 simp only [nrm]
 (refine wpList_step fun K hK=>?_; replace hK:=hide hK; go_simp; refine unhide hK _ _ ?_; clear hK K)
 refine wpList_nil ?_
 go_wp2_with fail
 exact unhide hZ
theorem exec_u32 {op:Oper} {a:Act} (w:World) (x:Operand) (ho:op.op=.load 27 x) (g i:Nat) (hx:a.eval x=.pointer (some ⟨g,i,none⟩)) (v:Int) (hc:w.cell? ⟨g,i,none⟩=some (.int .u32 v)):(execOp a.eval op).run Tryz.prog w=.ok (.value (.int .u32 v)) w:=by
 unfold execOp
 simp only [ho,hx,Instr.loadAt,Instr.sureAddr,Sem.run_bind,Sem.run_pure,Result.andThen_ok]
 go_simp
def xcl (D B:List Int):List Value:=bv D++bv B
def evl (k a s:Int) (B:List Int):List Value:=.int .i64 k::.int .u32 a::.int .u32 s::bv B
theorem xcl_len {D B:List Int} (h:D.length=16) (hB:B.length=130):(xcl D B).length=146:=by unfold xcl; simp [bv_len,h,hB]
theorem evl_len (k a s:Int) {B:List Int} (hB:B.length=105):(evl k a s B).length=108:=by unfold evl; simp [bv_len,hB]
theorem xcl_one (D B:List Int):(xcl D B).toArray.all (·.oneCell')=true:=by unfold xcl bv; simp [Value.oneCell']
theorem evl_one (k a s:Int) (B:List Int):(evl k a s B).toArray.all (·.oneCell')=true:=by unfold evl bv; simp [Value.oneCell']
theorem bv_get (K:List Int) (i:Nat) (h:i<K.length):(bv K)[i]?=some (.int .u8 (K.getD i 0)):=by unfold bv; simp [h]
theorem mid_get {A D:List Value} {K:List Int} {o:Nat} (hA:A.length=o) (j:Nat) (hj:j<K.length):(A++(bv K++D))[o+j]?=some (.int .u8 (K.getD j 0)):=by
 subst hA
 rw [List.getElem?_append_right (by omega),Nat.add_sub_cancel_left,List.getElem?_append_left (by rw [bv_len]; exact hj)]
 exact bv_get K j hj
theorem at_mid {w:World} {g o:Nat} {C A D:List Value} {K:List Int} {t:TypeId} (h:w.heap[g]?=some (.cells C.toArray t (0,0))) (hC:C=A++(bv K++D)) (hA:A.length=o):At w g o K:=fun j hj=>by
 refine cell_of h ?_
 rw [List.getElem?_toArray,hC]
 exact mid_get hA j hj
theorem lb_mid {w:World} {g o n c:Nat} {C A D:List Value} {K:List Int} {t:TypeId} (h:w.heap[g]?=some (.cells C.toArray t (0,0))) (hC:C=A++(bv K++D)) (hA:A.length=o) (hK:IsB K) (hn:K.length=n) (hc:n≤c) (hm:c<9223372036854775808):Lb w (some ⟨g,o,none⟩) n c K:=⟨hn,hK,.inr ⟨g,o,rfl,at_mid h hC hA⟩,hc,hm⟩
theorem xcl_drop (D B:List Int):xcl D B=[]++(bv D++bv B):=rfl
theorem xcl_body (D B:List Int):xcl D B=bv D++(bv B++[]):=by unfold xcl; simp
theorem evl_body (k a s:Int) (B:List Int):evl k a s B=[.int .i64 k,.int .u32 a,.int .u32 s]++(bv B++[]):=by unfold evl; simp
structure Gt (g:Nat) (w:World) (L:List Blk) (p n c k:Nat) (B:List Int) (v:World):Prop where
 bc:Bc [g] w L v
 rd:Rdr g p n c k B v
 ty:∃ cur,v.heap[p]?=some (.cells cur 5 (0,0))
 ts:∀ y ∈ L,y.t≠130∧y.t≠5
theorem Gt.more {g:Nat} {w u v:World} {L:List Blk} {p n c k:Nat} {B:List Int} (h:Gt g w L p n c k B u) (e:Gr u v):Gt g w L p n c k B v :=
 ⟨h.bc.more e,h.rd.gr e,by obtain ⟨cur,hc⟩:=h.ty; exact ⟨cur,e.blk hc⟩,h.ts⟩
theorem Gt.get {g:Nat} {w v:World} {L:List Blk} {p n c k:Nat} {B:List Int} (h:Gt g w L p n c k B v) (i:Nat) {x:Blk} (hi:L[i]?=some x):v.heap[x.g]?=some (.cells x.c x.t (0,0)):=h.bc.get i hi
theorem Bc.keep {F:List Nat} {w u v:World} {L:List Blk} (h:Bc F w L u) {g:Nat} (k:Bt g u v) (hg:g ∈ F∨w.heap.size≤g) (hn:∀ x ∈ L,x.g≠g):Bc F w L v :=
 ⟨⟨⟨k.os.trans h.bl.gr.os,k.tape.trans h.bl.gr.tape,k.output.trans h.bl.gr.output,Nat.zero_le _,fun i hi=>absurd hi (Nat.not_lt_zero i)⟩,fun x hx=>⟨k.blk (h.bl.at_ x hx).1 (hn x hx),Nat.zero_le _⟩,h.bl.ne⟩,h.chg.bt2 k hg,h.fo⟩
theorem Gt.read {g:Nat} {w u v:World} {L:List Blk} {p n c k m:Nat} {B:List Int} (h:Gt g w L p n c k B u) (r:Rdr g p n c m B v) (e:Bt g u v):Gt g w L p n c m B v :=
 ⟨h.bc.keep e (.inl (by simp)) (h.bc.bl.apart h.rd.cel (fun y hy=>(h.ts y hy).1)),r,by obtain ⟨cur,hc⟩:=h.ty; exact ⟨cur,e.blk hc h.rd.ne⟩,h.ts⟩
theorem Gt.rdr_bt {g:Nat} {w u v:World} {L:List Blk} {p n c k:Nat} {B:List Int} (h:Gt g w L p n c k B u) (i:Nat) {x:Blk} (hi:L[i]?=some x) (e:Bt x.g u v):Rdr g p n c k B v∧∃ cur,v.heap[p]?=some (.cells cur 5 (0,0)):=by
 obtain ⟨cur,hc⟩:=h.ty
 have h1:=h.bc.get i hi
 have ht:=h.ts x (List.mem_of_getElem? hi)
 have n1:g≠x.g:=ty_ne h.rd.cel h1 (fun e=>ht.1 e.symm)
 have n2:p≠x.g:=ty_ne hc h1 (fun e=>ht.2 e.symm)
 exact ⟨h.rd.bt e n1 n2,cur,e.blk hc n2⟩
theorem ts_set {L:List Blk} {P:TypeId→Prop} (h:∀ y ∈ L,P y.t) (i:Nat) {x:Blk} (hi:L[i]?=some x) (c:Array Value):∀ y ∈ L.set i ⟨x.g,c,x.t⟩,P y.t:=fun y hy =>
 (List.mem_or_eq_of_mem_set hy).elim (h y) (fun e=>by rw [e]; exact h x (List.mem_of_getElem? hi))
theorem Gt.turn {g:Nat} {w u v:World} {L:List Blk} {p n c k:Nat} {B:List Int} (h:Gt g w L p n c k B u) (i:Nat) {x:Blk} (hi:L[i]?=some x) (e:Bt x.g u v) {cs:Array Value} (hc:v.heap[x.g]?=some (.cells cs x.t (0,0))):Gt g w (L.set i ⟨x.g,cs,x.t⟩) p n c k B v :=
 ⟨h.bc.but e i hi rfl hc,(h.rdr_bt i hi e).1,(h.rdr_bt i hi e).2,ts_set (P:=fun t=>t≠130∧t≠5) h.ts i hi cs⟩
theorem Gt.cells {g:Nat} {w v:World} {L:List Blk} {p n c k:Nat} {B:List Int} (h:Gt g w L p n c k B v) (i:Nat) {q:Nat} {C:List Value} {t:TypeId} (hi:L[i]?=some ⟨q,C.toArray,t⟩) (o:Nat) (vs:List Value):Gt g w (L.set i ⟨q,(sp C o vs).toArray,t⟩) p n c k B (v.setCells q o vs) :=
 h.turn i hi (setCells_bt vs v q o) (setCells_heap vs v q o C t (h.get i hi))
theorem setRow_bt (w:World) (g:Nat) (c:Array Value):Bt g w (w.setRow g c):=⟨rfl,rfl,rfl,by rw [setRow_size]; exact Nat.le_refl _,fun i _ hn=>setRow_other w g i c hn⟩
theorem Gt.set {g:Nat} {w v:World} {L:List Blk} {p n c k:Nat} {B:List Int} (h:Gt g w L p n c k B v) (i:Nat) {x:Blk} (hi:L[i]?=some x) (cs:Array Value):Gt g w (L.set i ⟨x.g,cs,x.t⟩) p n c k B (v.setRow x.g cs) :=
 h.turn i hi (setRow_bt v x.g cs) (setRow_heap v x.g _ cs x.t (0,0) (h.get i hi))
theorem setCell_bt (w:World) (g i:Nat) (y:Value):Bt g w (w.setCell ⟨g,i,none⟩ y):=by
 refine ⟨rfl,rfl,rfl,?_,fun j hj hn=>?_⟩
 ·simp [World.setCell]
 ·simp [World.setCell,Array.getElem?_modify,Ne.symm hn]
theorem Gt.cell {g:Nat} {w v:World} {L:List Blk} {p n c k:Nat} {B:List Int} (h:Gt g w L p n c k B v) (i:Nat) {x:Blk} (hi:L[i]?=some x) (j:Nat) (y:Value):Gt g w (L.set i ⟨x.g,x.c.setIfInBounds j y,x.t⟩) p n c k B (v.setCell ⟨x.g,j,none⟩ y) :=
 h.turn i hi (setCell_bt v x.g j y) ((h.bc.cell i hi j y).get i (x:=⟨x.g,x.c.setIfInBounds j y,x.t⟩) (by rw [List.getElem?_set_self (List.getElem?_eq_some_iff.1 hi).1]))
theorem Gt.new {g:Nat} {w v:World} {L:List Blk} {p n c k:Nat} {B:List Int} (h:Gt g w L p n c k B v) (cs:Array Value) (t:TypeId) (ht:t≠130∧t≠5):Gt g w (L++[⟨v.heap.size,cs,t⟩]) p n c k B (v.alloc (.cells cs t (0,0))) :=
 ⟨h.bc.new cs t,h.rd.gr ((Gr.refl v).alloc _),by obtain ⟨cur,hc⟩:=h.ty; exact ⟨cur,((Gr.refl v).alloc _).blk hc⟩,fun y hy=>(List.mem_append.1 hy).elim (h.ts y) (fun e=>by rw [List.mem_singleton.1 e]; exact ht)⟩
theorem Gt.gr {g:Nat} {w v:World} {L:List Blk} {p n c k:Nat} {B:List Int} (h:Gt g w L p n c k B v) (hg:w.heap.size≤g):Gr w v:=Chg.own (Gr.refl w) h.bc.chg (by simpa using hg)
theorem Bl.gt {w u v:World} {L:List Blk} {g p n c k:Nat} {B:List Int} (h:Bl w L u) (e:Gr u v) (hg:u.heap.size≤g) (hp:u.heap.size≤p) (r:Rdr g p n c k B v) (ty:∃ cur,v.heap[p]?=some (.cells cur 5 (0,0))) (ts:∀ y ∈ L,y.t≠130∧y.t≠5):Gt g w L p n c k B v :=
 have h1:=h.more e
 ⟨⟨⟨⟨h1.gr.os,h1.gr.tape,h1.gr.output,Nat.zero_le _,fun i hi=>absurd hi (Nat.not_lt_zero i)⟩,fun x hx=>⟨(h1.at_ x hx).1,Nat.zero_le _⟩,h1.ne⟩,h1.gr.chg0 [g],fun x hx=>.inr (h1.at_ x hx).2⟩,r,ty,ts⟩
theorem eqItems_self (d:Nat) (e:TypeId) (c:Nat) (xs:Array Value) (w:World):∀ (is:List Nat),(∀ i ∈ is,∃ v,(part e xs (i * c)).run Tryz.prog w=.ok v w∧(Op.equalIn d e v v).run Tryz.prog w=.ok true w)→(Op.eqItems d e c xs xs is).run Tryz.prog w=.ok true w
 | [],_=>by simp [Op.eqItems]
 | i::is,h=>by
  obtain ⟨v,h1,h2⟩:=h i (by simp)
  have h3:=eqItems_self d e c xs w is (fun j hj=>h j (by simp [hj]))
  simp only [Op.eqItems,Sem.run_bind,h1,h2,Result.andThen_ok]
  simpa using h3
theorem eqFields_self (d:Nat) (xs:Array Value) (w:World):∀ (fs:List Field),(∀ f ∈ fs,f.name ≠ "_" ∧ ∃ v,(part f.type xs f.offset).run Tryz.prog w=.ok v w∧(Op.equalIn d f.type v v).run Tryz.prog w=.ok true w)→(Op.eqFields d xs xs fs).run Tryz.prog w=.ok true w
 | [],_=>by simp [Op.eqFields]
 | f::fs,h=>by
  obtain ⟨hn,v,h1,h2⟩:=h f (by simp)
  have h3:=eqFields_self d xs w fs (fun j hj=>h j (by simp [hj]))
  simp only [Op.eqFields,hn,ne_eq,not_false_eq_true,if_true,Sem.run_bind,h1,h2,Result.andThen_ok]
  simpa using h3
theorem eq_int {t:TypeId} {q:IntKind} (hu:Tryz.prog.underlying t=some (.int q)) (d:Nat) (k:IntKind) (x:Int) (w:World):(Op.equalIn (d+1) t (.int k x) (.int k x)).run Tryz.prog w=.ok true w:=by
 simp [Op.equalIn,Sem.run_bind,run_underlying hu]
theorem part_cell {t:TypeId} {q:IntKind} (hu:Tryz.prog.underlying t=some (.int q)) {xs:Array Value} {o:Nat} {v:Value} (h:xs[o]?=some v) (w:World):(part t xs o).run Tryz.prog w=.ok v w:=by
 simp [part,isAgg,Sem.run_bind,run_underlying hu,h]
theorem eq_bytes {t:TypeId} {n:Nat} (hu:Tryz.prog.underlying t=some (.array n 5)) (d:Nat) (xs:Array Value) (h:∀ i,i<n→∃ x,xs[i]?=some (.int .u8 x)) (w:World):(Op.equalIn (d+2) t (.agg xs) (.agg xs)).run Tryz.prog w=.ok true w:=by
 obtain ⟨i5,hi5⟩:=info_of_underlying Tryz.underlying5
 rw [run_equalIn_array w (d+1) xs xs hu hi5]
 refine eqItems_self _ _ _ _ _ _ (fun i hi=>?_)
 obtain ⟨x,hx⟩:=h i (List.mem_range.1 hi)
 have hc:Tryz.prog.cellsOf 5=1:=Tryz.cells_b
 rw [hc,Nat.mul_one]
 exact ⟨_,part_cell Tryz.underlying5 hx w,eq_int Tryz.underlying5 d _ _ w⟩
theorem part_row {t:TypeId} {n:Nat} {e:TypeId} (hu:Tryz.prog.underlying t=some (.array n e)) {m:Nat} (hi:(Tryz.prog.info? t).map (·.size)=some m) (xs:Array Value) (o:Nat) (w:World):(part t xs o).run Tryz.prog w=.ok (.agg (xs.extract o (o+m))) w:=by
 obtain ⟨i,h1,h2⟩:=Option.map_eq_some_iff.1 hi
 simp [part,isAgg,Sem.run_bind,run_underlying hu,sizeOf,typeInfo,h1,h2]
def Ret (L:List Int) (w:World) (r:Ending) (w':World):Prop:=∃ g p c,r=.returned (.pointer (some ⟨g,0,none⟩))∧w.heap.size≤g∧w.heap.size≤p∧Rdr g p L.length c 0 L w'∧(∃ cur,w'.heap[p]?=some (.cells cur 5 (0,0)))∧Gr w w'
set_option maxHeartbeats 4000000 in
theorem oreadt_ok (B:List Int) (p q n c:Nat) (w:World) (hB0:Lb w (some ⟨p,q,none⟩) n c B) (hn:n≤100000) (h0:0<n):Calls Tryz.prog 52 #[.slice (some ⟨p,q,none⟩) n c] w (Ret B w):=by
 obtain ⟨T,hT⟩:∃ T,T=Ret B w:=⟨_,rfl⟩
 rw [← hT]
 replace hT:=hide hT
 replace hB0:=hide hB0
 go_enter Tryz.func52,Tryz.ntmps52
 go_upto_region 1 with fail
 refine wp_region_lit ?_
 refine list_val (.slice (some ⟨p,q,none⟩) n c) (by kernel_rfl) (by kernel_rfl) ?_
 simp only [nrm]
 refine list_call 77 #[.slice (some ⟨p,q,none⟩) n c] (by kernel_rfl) (by kernel_rfl) ((clone_ok B p q n c w (unhide hB0) hn).mono ?_)
 rintro r u ⟨v,rfl,hO,hG⟩
 have hl:=(unhide hB0).len
 obtain ⟨p2,c2,rfl,h1,h2,h3,h4,cur,h5⟩:=ob_at hO (by intro e; rw [e] at hl; simp at hl; omega)
 refine ⟨_,rfl,?_⟩
 clear hO
 replace h2:=hide h2; replace h5:=hide h5; replace hG:=hide hG
 rw [hl] at h3
 rw [hl]
 simp only [nrm]
 refine list_val (.agg (rdr 0 p2 n c2)) (by kernel_rfl) (by kernel_rfl) ?_
 simp only [nrm]
 refine list_valw (.pointer (some ⟨u.heap.size,0,none⟩)) (u.alloc (.cells (rdr 0 p2 n c2) 130 (0,0))) (by kernel_rfl) (by kernel_rfl) ?_
 have hZ:Hid (Ret B w (.returned (.pointer (some ⟨u.heap.size,0,none⟩))) (u.alloc (.cells (rdr 0 p2 n c2) 130 (0,0)))):=by
  have hg2:=(Gr.refl u).alloc (.cells (rdr 0 p2 n c2) 130 (0,0))
  have hp:=lt_of_block (unhide h5)
  show Ret B w _ _
  unfold Ret
  rw [hl]
  exact ⟨u.heap.size,p2,c2,rfl,(unhide hG).size,h1,⟨blk_new _ _,fun j hj=>hg2.cell (unhide h2 j hj),(fun e=>by omega),hl,(unhide hB0).isB,h3,h4⟩,⟨cur,hg2.blk (unhide h5)⟩,(unhide hG).trans hg2⟩
 generalize World.alloc _ _=u2 at *
 simp only [nrm]
 (refine wpList_step fun K hK=>?_; replace hK:=hide hK; go_simp; refine unhide hK _ _ ?_; clear hK K)
 refine wpList_nil ?_
 go_wp2_with fail
 rw [unhide hT]
 exact unhide hZ
set_option maxHeartbeats 4000000 in
theorem put32g_ok (B:List Int) (s:Option Addr) (n cap:Nat) (x:Int) (hx:0≤x∧x<4294967296) (hn:n≤1000) (w:World) (lb:Lb w s n cap B):Calls Tryz.prog 41 #[.slice s n cap,.int .u32 x] w (Mkd (B++lowL x 4) w):=by
 obtain ⟨T,hT⟩:∃ T,T=Mkd (B++lowL x 4) w:=⟨_,rfl⟩
 rw [← hT]
 replace hT:=hide hT
 have hwx:IntKind.u64.wrap x=x:=by rw [IntKind.wrap_u64]; omega
 obtain ⟨hx0,hx1⟩:=hx
 replace lb:=hide lb
 go_enter Tryz.func41,Tryz.ntmps41
 go_upto_region 1 with fail
 refine wp_region_lit ?_
 refine list_val (.slice s n cap) (by kernel_rfl) (by kernel_rfl) ?_
 simp only [nrm]
 refine list_val (.int .u32 x) (by kernel_rfl) (by kernel_rfl) ?_
 simp only [nrm]
 refine list_val (.int .u64 x) (by kernel_rfl) (by go_simp) ?_
 simp only [nrm]
 refine list_call 68 #[.slice s n cap,.int .u64 x,.int .i64 4] (by kernel_rfl) (by kernel_rfl) ((put4_ok B s n cap x hx0 hn w (unhide lb)).mono ?_)
 rintro r u hF
 obtain ⟨L,hL⟩:∃ L,L=B++lowL x 4:=⟨_,rfl⟩
 rw [← hL] at hF hT
 obtain ⟨g,rfl,hg1,hg2,hg3⟩:=hF
 have hF:Hid (Mkd L w (.returned (.slice (some ⟨g,0,none⟩) L.length L.length)) u):=⟨g,rfl,hg1,hg2,hg3⟩
 refine ⟨_,rfl,?_⟩
 clear hg1 hg2 hg3 hL
 generalize L.length=m at *
 simp only [nrm]
 (refine wpList_step fun K hK=>?_; replace hK:=hide hK; go_simp; refine unhide hK _ _ ?_; clear hK K)
 refine wpList_nil ?_
 go_wp2_with fail
 rw [unhide hT]
 exact unhide hF
def allZ (l:List Int):Bool:=decide (l=List.replicate l.length 0)
theorem rep_take (l:List Int) (k:Nat) (h:k<l.length):l.take (k+1)=(List.replicate l.length (0:Int)).take (k+1) ↔ l.take k=(List.replicate l.length (0:Int)).take k∧l.getD k 0=0:=by
 rw [take_eq_step l _ k h (by simpa using h)]
 simp [h]
theorem u8_or_zero (u y:Int) (hu:0≤u∧u<256) (hy:0≤y∧y<256):(0≤bits .or .u8 u y∧bits .or .u8 u y<256)∧(bits .or .u8 u y=0 ↔ u=0∧y=0):=by
 have h:=or_xor u y 0 hu hy ⟨by omega,by omega⟩
 have e:bits .xor .u8 y 0=y:=by
  obtain ⟨n,rfl⟩:=Int.eq_ofNat_of_zero_le hy.1
  have:=u8_xor_nat n 0 (by omega) (by omega)
  simpa using this
 rw [e] at h
 exact h
set_option maxHeartbeats 1000000 in
theorem zero_ok (l:List Int) (a:Option Addr) (n c:Nat) (hn:n≤281474976710656) (w:World) (la:Lb w a n c l) :
  Calls Tryz.prog 67 #[.slice a n c] w (fun e w'=>e=.returned (.bool (allZ l))∧w'=w):=by
 have hl:=hide la.len
 replace la:=hide la
 go_enter Tryz.func67,Tryz.ntmps67
 go_wp2_with fail
 go_loopw [3,8] (fun x i wr=>∃ (k:Nat) (u:Int),k≤n∧i=.int .i64 k∧x=.int .u8 u∧Hid (Unl l (List.replicate l.length 0) k u)∧wr=w) (fun _ i _=>n - (intOf i).toNat)
 case atStart=>exact ⟨0,0,Nat.zero_le _,rfl,rfl,(⟨by omega,by simp⟩:Unl l (List.replicate l.length 0) 0 0),rfl⟩
 case round =>
 obtain ⟨k,u,hk,rfl,rfl,hU,rfl⟩:=hrel
 by_cases hlt:k<n
 ·obtain ⟨p,o,rfl,c0⟩:=(unhide la).cellAt hlt
  obtain ⟨x,hx⟩:∃ x,x=l.getD k 0:=⟨_,rfl⟩
  rw [← hx] at c0
  have HS:Hid (Unl l (List.replicate l.length 0) (k+1) (bits .or .u8 u x)):=by
   have h1:=unhide hU
   have h2:=u8_or_zero u x h1.1 (by rw [hx]; exact (unhide la).isB.at_ k)
   refine ⟨h2.1,?_⟩
   rw [h2.2,rep_take l k (by rw [unhide hl]; exact hlt),h1.2,hx]
  clear hx hU
  have kI:(k:Int)<(n:Int):=by omega
  go_wp2_with fail
  go_roundw
  case rel=>exact ⟨k+1,_,by omega,by go_num,rfl,HS,trivial⟩
  case measure=>simp [intOf]; omega
 ·have kI:¬ (k:Int)<(n:Int):=by omega
  have hU2:=(unhide hU).2
  rw [List.take_of_length_le (by rw [unhide hl]; omega),List.take_of_length_le (by rw [List.length_replicate,unhide hl]; omega)] at hU2
  have HU:=hide (show (u == 0)=allZ l by unfold allZ; rw [Bool.eq_iff_iff]; simpa using hU2)
  clear hU hU2
  go_wp2_with fail
  refine bodyPost_ret (v:=.bool (u == 0)) (by simp [results,Tryz.results67,go_sem]) rfl ⟨?_,rfl⟩
  rw [unhide HU]
set_option maxHeartbeats 4000000 in
theorem get1_ok (x:Int) (p o c:Nat) (w:World) (lb:Lb w (some ⟨p,o,none⟩) 1 c [x]):Calls Tryz.prog 78 #[.slice (some ⟨p,o,none⟩) 1 c] w (Vl (.int .u64 x) w):=by
 obtain ⟨T,hT⟩:∃ T,T=Vl (.int .u64 x) w:=⟨_,rfl⟩
 rw [← hT]
 replace hT:=hide hT
 have hc1:=lb.cap
 have hc0:¬ c=0:=by omega
 have hat:At w p o [x]:=by
  rcases lb.sl with h | ⟨p',o',h1,h2⟩
  ·cases h
  ·have h3:=Option.some.inj h1
   injection h3 with h4 h5 _
   subst h4 h5
   exact h2
 have hxe:lowN [x]=x:=by simp [lowN]
 replace lb:=hide lb; replace hat:=hide hat
 go_enter Tryz.func78,Tryz.ntmps78
 go_upto_region 1 with fail
 refine wp_region_lit ?_
 refine list_val (.slice (some ⟨p,o,none⟩) 1 c) (by kernel_rfl) (by kernel_rfl) ?_
 simp only [nrm]
 refine list_val (.slice (some ⟨p,o,none⟩) 1 c) (by kernel_rfl) (by kernel_rfl) ?_
 simp only [nrm]
 refine list_val (.int .i64 1) (by kernel_rfl) (by kernel_rfl) ?_
 simp only [nrm]
 refine list_val (.int .i64 (1:Nat)) (by kernel_rfl) (by kernel_rfl) ?_
 simp only [nrm]
 refine list_val (.slice (if c=0 then (some ⟨p,o,none⟩:Option Addr) else (some ⟨p,o,none⟩:Option Addr).map (·.add 0)) 1 c) (by kernel_rfl) (exec_upto w (.tmp 3) (.tmp 6) rfl (some ⟨p,o,none⟩) 1 c 1 rfl rfl hc1 (by omega)) ?_
 rw [if_neg hc0,Option.map_some,add_zero]
 simp only [nrm]
 refine list_call 79 #[.slice (some ⟨p,o,none⟩) 1 c] (by kernel_rfl) (by kernel_rfl) ((onum_ok p o 1 c [x] w rfl (by omega) (unhide lb).isB (unhide hat)).mono ?_)
 rintro r u ⟨rfl,rfl⟩
 rw [hxe]
 refine ⟨_,rfl,?_⟩
 simp only [nrm]
 (refine wpList_step fun K hK=>?_; replace hK:=hide hK; go_simp; refine unhide hK _ _ ?_; clear hK K)
 refine wpList_nil ?_
 have hZ:Hid (Vl (.int .u64 x) u (.returned (.int .u64 x)) u):=⟨rfl,Gr.refl u⟩
 go_wp2_with fail
 rw [unhide hT]
 exact unhide hZ
set_option maxHeartbeats 4000000 in
theorem fone_ok (g p n c k:Nat) (L:List Int) (w:World) (hR:Rdr g p n c k L w) (hkn:k+1≤n) (hn:n≤100000):Calls Tryz.prog 53 #[P0 g] w (fun r w'=>r=.returned (.int .i64 (L.getD k 0))∧Rdr g p n c (k+1) L w'∧Bt g w w'):=by
 obtain ⟨T,hT⟩:∃ T:Ending→World→Prop,T=fun r w'=>r=.returned (.int .i64 (L.getD k 0))∧Rdr g p n c (k+1) L w'∧Bt g w w':=⟨_,rfl⟩
 rw [← hT]
 replace hT:=hide hT
 have hx1:(L.drop k).take 1=[L.getD k 0]:=by
  have hk:k<L.length:=by rw [hR.len]; omega
  rw [List.drop_eq_getElem_cons hk,List.take_succ_cons,List.take_zero]
  simp [List.getD,hk]
 have hxb:=hR.isB.at_ k
 generalize L.getD k 0=x at *
 have hw1:IntKind.i64.wrap x=x:=by rw [IntKind.wrap_i64]; omega
 have hxB:IsB [x]:=fun y hy=>by rw [List.mem_singleton.1 hy]; exact hxb
 replace hR:=hide hR; replace hxB:=hide hxB
 go_enter Tryz.func53,Tryz.ntmps53
 go_upto_region 1 with fail
 refine wp_region_lit ?_
 refine list_val (.pointer (some ⟨g,0,none⟩)) (by kernel_rfl) (by kernel_rfl) ?_
 simp only [nrm]
 refine list_call 55 #[P0 g,.int .i64 ((1:Nat):Int)] (by kernel_rfl) (by kernel_rfl) ((rraw_ok g p n c k 1 L w (unhide hR) hkn (by omega) hn).mono ?_)
 rintro r u1 ⟨v,rfl,hO,hR1,hb1⟩
 rw [hx1] at hO
 obtain ⟨q,cq,rfl,_,hat,hq1,hq2,_⟩:=ob_at hO (by simp)
 have hlb:Lb u1 (some ⟨q,0,none⟩) 1 cq [x]:=⟨rfl,unhide hxB,.inr ⟨q,0,rfl,hat⟩,hq1,hq2⟩
 clear hO hat hq1 hq2
 refine ⟨_,rfl,?_⟩
 replace hlb:=hide hlb; replace hR1:=hide hR1; replace hb1:=hide hb1
 simp only [nrm]
 refine list_call 78 #[.slice (some ⟨q,0,none⟩) 1 cq] (by kernel_rfl) (by kernel_rfl) ((get1_ok x q 0 cq u1 (unhide hlb)).mono ?_)
 rintro r u2 ⟨rfl,hg2⟩
 have hZ:Hid (T (.returned (.int .i64 x)) u2):=by
  rw [unhide hT]
  exact ⟨rfl,(unhide hR1).gr hg2,(unhide hb1).trans (hg2.bt g)⟩
 clear hg2
 refine ⟨_,rfl,?_⟩
 simp only [nrm]
 refine list_val (.int .i64 x) (by kernel_rfl) (by go_simp) ?_
 simp only [nrm]
 (refine wpList_step fun K hK=>?_; replace hK:=hide hK; go_simp; refine unhide hK _ _ ?_; clear hK K)
 refine wpList_nil ?_
 go_wp2_with fail
 exact unhide hZ
theorem Tryz.infoX:(Tryz.prog.info? 36).map (·.size)=some 146:=by kernel_rfl
theorem Tryz.infoE:(Tryz.prog.info? 30).map (·.size)=some 108:=by kernel_rfl
def U4 (x:Int):Prop:=0≤x∧x<4294967296
set_option maxHeartbeats 4000000 in
theorem fputx_ok (D:List Int) (hl:D.length=16) (hb:IsB D) (B:List Int) (hlB:B.length=130) (hbB:IsB B) (w:World):Calls Tryz.prog 39 #[.agg (xcl D B).toArray] w (Infd (D++B) w):=by
 obtain ⟨T,hT⟩:∃ T,T=Infd (D++B) w:=⟨_,rfl⟩
 rw [← hT]
 replace hT:=hide hT
 obtain ⟨C,hC⟩:∃ C,C=(xcl D B).toArray:=⟨_,rfl⟩
 rw [← hC]
 replace hC:=hide hC
 replace hb:=hide hb
 replace hbB:=hide hbB
 go_enter Tryz.func39,Tryz.ntmps39
 go_upto_region 1 with fail
 have hB:=((Bl.nil w).new C 36)
 simp only [size_alloc,List.nil_append,List.cons_append] at hB
 generalize World.alloc _ _=u at *
 rw [unhide hC] at hB
 replace hB:Bl w [⟨w.heap.size,(xcl D B).toArray,36⟩] u:=hB
 clear hC
 have hbl:Hid (u.heap[w.heap.size]?=some (.cells (xcl D B).toArray 36 (0,0))):=(hB.get 0 (x:=⟨w.heap.size,(xcl D B).toArray,36⟩) rfl)
 have hG:=hB.gr
 clear hB
 refine wp_region_lit ?_
 refine list_val (.pointer (some ⟨w.heap.size,0,none⟩)) (by kernel_rfl) (by kernel_rfl) ?_
 simp only [nrm]
 refine list_val (.slice (some ⟨w.heap.size,0,none⟩) 16 16) (by kernel_rfl) (by kernel_rfl) ?_
 simp only [nrm]
 refine app_bs (by kernel_rfl) (.const (.slice none 0 0)) (.tmp 5) rfl w.heap.size _ [] rfl (ob_none _ _) (some ⟨w.heap.size,0,none⟩) 16 16 D (by kernel_rfl) hl (.inr ⟨_,0,rfl,at_mid (unhide hbl) (xcl_drop D B) rfl⟩) (by simp) hG.size ?_
 intro v1 u1 hO1 hgr
 rw [List.nil_append] at hO1
 have hg1:Gr u u1:=(ob_none u.heap.size u).grown (Nat.le_refl _) (Gr.refl u) hgr
 clear hgr
 replace hG:=hG.trans hg1
 replace hbl:=hide (hg1.blk (unhide hbl))
 clear hg1
 replace hO1:=hide hO1
 simp only [nrm]
 (refine wpList_step fun K hK=>?_; replace hK:=hide hK; go_simp; refine unhide hK _ _ ?_; clear hK K)
 refine wpList_nil ?_
 go_upto_region 2 with fail
 refine wp_region_lit ?_
 refine list_val v1 (by kernel_rfl) (by kernel_rfl) ?_
 simp only [nrm]
 refine list_val (.pointer (some ⟨w.heap.size,16,none⟩)) (by kernel_rfl) (by kernel_rfl) ?_
 simp only [nrm]
 refine list_val (.slice (some ⟨w.heap.size,16,none⟩) 130 130) (by kernel_rfl) (by kernel_rfl) ?_
 simp only [nrm]
 refine app_bs (by kernel_rfl) (.tmp 7) (.tmp 9) rfl w.heap.size _ D rfl (unhide hO1) (some ⟨w.heap.size,16,none⟩) 130 130 B (by kernel_rfl) hlB (.inr ⟨_,16,rfl,at_mid (unhide hbl) (xcl_body D B) (by rw [bv_len,hl])⟩) (by rw [hl]; omega) hG.size ?_
 intro v2 u2 hO3 hgr
 have hZ:Hid (Infd (D++B) w (.returned v2) u2):=⟨v2,rfl,hO3,(unhide hO1).grown (Nat.le_refl _) hG hgr⟩
 clear hO3 hgr
 simp only [nrm]
 (refine wpList_step fun K hK=>?_; replace hK:=hide hK; go_simp; refine unhide hK _ _ ?_; clear hK K)
 refine wpList_nil ?_
 go_wp2_with fail
 rw [unhide hT]
 exact unhide hZ
def Z130:List Int:=List.replicate 130 0
def Z105:List Int:=List.replicate 105 0
theorem sub_len {L:List Int} {k m n:Nat} (h:L.length=n) (hk:k+m≤n):((L.drop k).take m).length=m:=by rw [List.length_take,List.length_drop,h]; omega
theorem sub_isB {L:List Int} (h:IsB L) (k m:Nat):IsB ((L.drop k).take m):=isB_take (isB_drop h k) m
def Rno (z:Array Value) (e:Int) (w:World) (r:Ending) (w':World):Prop:=r=.returned (.tuple #[.agg z,.int .i64 e])∧Gr w w'
theorem Lb.some {w:World} {a:Option Addr} {n c:Nat} {B:List Int} (h:Lb w a n c B) (hn:0<n):∃ p q,a=Option.some ⟨p,q,none⟩∧Lb w (Option.some ⟨p,q,none⟩) n c B:=by
 rcases h.sl with h1 | ⟨p,q,h1,h2⟩
 ·have:=h.len
  rw [h1] at this
  simp at this
  omega
 ·subst h1
  exact ⟨p,q,rfl,h⟩
theorem xcl_setd (D D' B:List Int) (h:D'.length=D.length):sp (xcl D B) 0 (bv D')=xcl D' B:=by
 have:=sp_mid (bv D') [] (bv D) (bv B) (by rw [bv_len,bv_len,h])
 simpa [xcl] using this
theorem xcl_setb (D:List Int) (hD:D.length=16) (B B':List Int) (h:B'.length=B.length):sp (xcl D B) 16 (bv B')=xcl D B':=by
 have:=sp_mid (bv B') (bv D) (bv B) [] (by rw [bv_len,bv_len,h])
 rw [bv_len,hD] at this
 rw [xcl_body,this,← xcl_body]
def xcO (L:List Int):List Value:=xcl ((L.drop 0).take 16) ((L.drop 16).take 130)
set_option maxHeartbeats 4000000 in
theorem fgetx_ok (L:List Int) (a:Option Addr) (c0:Nat) (w:World) (hB0:Lb w a 146 c0 L)  : Calls Tryz.prog 35 #[.slice a 146 c0] w (Rno (xcO L).toArray 0 w):=by
 obtain ⟨T,hT⟩:∃ T,T=Rno (xcO L).toArray 0 w:=⟨_,rfl⟩
 rw [← hT]
 replace hT:=hide hT
 obtain ⟨p0,q0,rfl,hB0⟩:=hB0.some (by omega)
 have hL:=hB0.len
 have hLb:=hide hB0.isB
 replace hB0:=hide hB0
 go_enter Tryz.func35,Tryz.ntmps35
 go_upto_region 0 with fail
 refine wp_region_lit ?_
 refine list_valw (.pointer (some ⟨w.heap.size,0,none⟩)) (w.alloc (.cells (xcl Z16 Z130).toArray 36 (0,0))) (by kernel_rfl) (by kernel_rfl) ?_
 have hB:=(Bl.nil w).new (xcl Z16 Z130).toArray 36
 simp only [List.nil_append] at hB
 generalize World.alloc _ _=u at *
 replace hB:Bl w [⟨w.heap.size,(xcl Z16 Z130).toArray,36⟩] u:=hB
 simp only [nrm]
 (refine wpList_step fun K hK=>?_; replace hK:=hide hK; go_simp; refine unhide hK _ _ ?_; clear hK K)
 refine wpList_nil ?_
 replace hB:=hide hB
 go_upto_region 1 with fail
 replace hB:=unhide hB
 refine wp_region_lit ?_
 refine list_val (.slice (some ⟨p0,q0,none⟩) 146 c0) (by kernel_rfl) (by kernel_rfl) ?_
 simp only [nrm]
 refine list_val (.int .i64 146) (by kernel_rfl) (by kernel_rfl) ?_
 simp only [nrm]
 refine list_val (.bool false) (by kernel_rfl) (by kernel_rfl) ?_
 simp only [nrm]
 refine wpList_nil ?_
 replace hB:=hide hB
 go_upto_region 3 with fail
 replace hB:=unhide hB
 refine wp_region_lit ?_
 refine list_val (.slice (some ⟨p0,q0,none⟩) 146 c0) (by kernel_rfl) (by kernel_rfl) ?_
 simp only [nrm]
 refine list_call 52 #[.slice (some ⟨p0,q0,none⟩) 146 c0] (by kernel_rfl) (by kernel_rfl) ((oreadt_ok L p0 q0 146 c0 u ((unhide hB0).gr hB.gr) (by omega) (by omega)).mono ?_)
 rintro r u1 ⟨g,p,c,rfl,hgg,hpp,hrd,hty,hgr⟩
 rw [hL] at hrd
 have hG:Gt g w [⟨w.heap.size,(xcl Z16 Z130).toArray,36⟩] p 146 c 0 L u1:=hB.gt hgr hgg hpp hrd hty (by intro y hy; rw [List.mem_singleton.1 hy]; exact ⟨(by decide:(36:TypeId)≠130),(by decide:(36:TypeId)≠5)⟩)
 have hwg:w.heap.size≤g:=Nat.le_trans hB.gr.size hgg
 clear hB hgr hgg hpp hrd hty
 refine ⟨_,rfl,?_⟩
 simp only [nrm]
 (refine wpList_step fun K hK=>?_; replace hK:=hide hK; go_simp; refine unhide hK _ _ ?_; clear hK K)
 refine wpList_nil ?_
 replace hG:=hide hG
 go_upto_region 4 with fail
 replace hG:=unhide hG
 refine wp_region_lit ?_
 refine list_valw (.pointer (some ⟨u1.heap.size,0,none⟩)) (u1.alloc (.cells (xcl Z16 Z130).toArray 36 (0,0))) (by kernel_rfl) (by kernel_rfl) ?_
 replace hG:=hG.new (xcl Z16 Z130).toArray 36 ⟨by decide,by decide⟩
 simp only [List.nil_append,List.cons_append] at hG
 generalize World.alloc _ _=u3 at *
 generalize u1.heap.size=q5 at *
 replace hG:Gt g w [⟨w.heap.size,(xcl Z16 Z130).toArray,36⟩,⟨q5,(xcl Z16 Z130).toArray,36⟩] p 146 c (0) L u3:=hG
 simp only [nrm]
 refine wpList_nil ?_
 replace hG:=hide hG
 go_upto_region 5 with fail
 replace hG:=unhide hG
 refine any_start (S:=fun _=>True) (by kernel_rfl) ?_
 replace hG:=hG.more (Gr.refl _).drew
 generalize World.drew _=x_D at *
 simp only [List.size_toArray,List.length_cons,List.length_nil,Array.replicate,List.replicate]
 refine any_take (i:=0) (v:=(.pointer (some ⟨q5,0,none⟩))) #[false,false,false,false,false] rfl (by kernel_rfl) (by kernel_rfl) (by kernel_rfl) (by kernel_rfl) (fun _ _ _ h=>h) (.inl ⟨by kernel_rfl,fun x_ hu=>by kernel_rfl⟩) trivial ?_
 simp only [nrm]
 refine any_take (i:=1) (v:=(.slice (some ⟨q5,0,none⟩) 16 16)) #[true,false,false,false,false] rfl (by kernel_rfl) (by kernel_rfl) (by kernel_rfl) (by kernel_rfl) (fun _ _ _ h=>h) (.inl ⟨by kernel_rfl,fun x_ hu=>by kernel_rfl⟩) trivial ?_
 simp only [nrm]
 refine any_take (i:=2) (v:=(.pointer (some ⟨g,0,none⟩))) #[true,true,false,false,false] rfl (by kernel_rfl) (by kernel_rfl) (by kernel_rfl) (by kernel_rfl) (fun _ _ _ h=>h) (.inl ⟨by kernel_rfl,fun x_ hu=>by kernel_rfl⟩) trivial ?_
 simp only [nrm]
 refine any_one (i:=3) (by kernel_rfl) rfl (fun K_ hQ=>?_)
 refine step_callw (by kernel_rfl) 55 #[P0 g,.int .i64 ((16:Nat):Int)] (by kernel_rfl) ((rraw_ok g p 146 c (0) 16 L x_D hG.rd (by omega) (by omega) (by omega)).mono ?_)
 rintro r y_D ⟨v,rfl,hO,hR1,hb1⟩
 refine ⟨_,rfl,?_⟩
 obtain ⟨D,hD0⟩:∃ X,X=((L.drop (0)).take 16):=⟨_,rfl⟩
 rw [← hD0] at hO
 have hlD:D.length=16:=by rw [hD0]; exact sub_len hL (by omega)
 have hbD:IsB D:=by rw [hD0]; exact sub_isB (unhide hLb) _ _
 obtain ⟨ar_D,cr_D,rfl,hlr⟩:=ob_lb hO hbD hlD
 replace hG:=hG.read hR1 hb1
 clear hO hR1 hb1
 replace hD0:=hide hD0; replace hbD:=hide hbD
 refine hQ.out _ _ trivial (fun _=>?_)
 clear hQ K_
 simp only [nrm]
 refine any_one (i:=4) (by kernel_rfl) rfl (fun K_ hQ=>?_)
 rw [if_pos (by kernel_rfl)]
 refine copy_wp (.tmp 13) (.tmp 15) rfl (q5) 0 16 16 ar_D 16 cr_D (by kernel_rfl) (by kernel_rfl) (xcl Z16 Z130) 36 (hG.get 1 (x:=⟨q5,(xcl Z16 Z130).toArray,36⟩) rfl) D (by rw [hlD]; rfl) hlr.sl (by rw [hlD,xcl_len rfl rfl]; decide) ?_
 replace hG:=hG.cells 1 (q:=q5) (C:=xcl Z16 Z130) (t:=36) rfl 0 (bv D)
 simp only [List.set_cons_zero,List.set_cons_succ] at hG
 rw [xcl_setd Z16 D Z130 (by rw [hlD]; rfl)] at hG
 have eb:D.map (Value.int .u8)=bv D:=rfl
 rw [eb]
 generalize World.setCells _ _ _ _=u5 at *
 replace hG:Gt g w [⟨w.heap.size,(xcl Z16 Z130).toArray,36⟩,⟨q5,(xcl D Z130).toArray,36⟩] p 146 c (0+16) L u5:=hG
 rw [hlD]
 clear hlr eb
 refine hQ.out _ _ trivial (fun _=>?_)
 clear hQ K_
 simp only [nrm]
 refine any_done (by kernel_rfl) ?_
 replace hG:=hide hG
 go_upto_region 6 with fail
 replace hG:=unhide hG
 replace hG:Gt g w [⟨w.heap.size,(xcl Z16 Z130).toArray,36⟩,⟨q5,(xcl D Z130).toArray,36⟩] p 146 c (16) L u5:=hG
 refine any_start (S:=fun _=>True) (by kernel_rfl) ?_
 replace hG:=hG.more (Gr.refl _).drew
 generalize World.drew _=x_B at *
 simp only [List.size_toArray,List.length_cons,List.length_nil,Array.replicate,List.replicate]
 refine any_take (i:=0) (v:=(.pointer (some ⟨q5,16,none⟩))) #[false,false,false,false,false] rfl (by kernel_rfl) (by kernel_rfl) (by kernel_rfl) (by kernel_rfl) (fun _ _ _ h=>h) (.inl ⟨by kernel_rfl,fun x_ hu=>by kernel_rfl⟩) trivial ?_
 simp only [nrm]
 refine any_take (i:=1) (v:=(.slice (some ⟨q5,16,none⟩) 130 130)) #[true,false,false,false,false] rfl (by kernel_rfl) (by kernel_rfl) (by kernel_rfl) (by kernel_rfl) (fun _ _ _ h=>h) (.inl ⟨by kernel_rfl,fun x_ hu=>by kernel_rfl⟩) trivial ?_
 simp only [nrm]
 refine any_take (i:=2) (v:=(.pointer (some ⟨g,0,none⟩))) #[true,true,false,false,false] rfl (by kernel_rfl) (by kernel_rfl) (by kernel_rfl) (by kernel_rfl) (fun _ _ _ h=>h) (.inl ⟨by kernel_rfl,fun x_ hu=>by kernel_rfl⟩) trivial ?_
 simp only [nrm]
 refine any_one (i:=3) (by kernel_rfl) rfl (fun K_ hQ=>?_)
 refine step_callw (by kernel_rfl) 55 #[P0 g,.int .i64 ((130:Nat):Int)] (by kernel_rfl) ((rraw_ok g p 146 c (16) 130 L x_B hG.rd (by omega) (by omega) (by omega)).mono ?_)
 rintro r y_B ⟨v,rfl,hO,hR1,hb1⟩
 refine ⟨_,rfl,?_⟩
 obtain ⟨B,hB0⟩:∃ X,X=((L.drop (16)).take 130):=⟨_,rfl⟩
 rw [← hB0] at hO
 have hlB:B.length=130:=by rw [hB0]; exact sub_len hL (by omega)
 have hbB:IsB B:=by rw [hB0]; exact sub_isB (unhide hLb) _ _
 obtain ⟨ar_B,cr_B,rfl,hlr⟩:=ob_lb hO hbB hlB
 replace hG:=hG.read hR1 hb1
 clear hO hR1 hb1
 replace hB0:=hide hB0; replace hbB:=hide hbB
 refine hQ.out _ _ trivial (fun _=>?_)
 clear hQ K_
 simp only [nrm]
 refine any_one (i:=4) (by kernel_rfl) rfl (fun K_ hQ=>?_)
 rw [if_pos (by kernel_rfl)]
 refine copy_wp (.tmp 18) (.tmp 20) rfl (q5) 16 130 130 ar_B 130 cr_B (by kernel_rfl) (by kernel_rfl) (xcl D Z130) 36 (hG.get 1 (x:=⟨q5,(xcl D Z130).toArray,36⟩) rfl) B (by rw [hlB]; rfl) hlr.sl (by rw [hlB,xcl_len hlD rfl]; decide) ?_
 replace hG:=hG.cells 1 (q:=q5) (C:=xcl D Z130) (t:=36) rfl 16 (bv B)
 simp only [List.set_cons_zero,List.set_cons_succ] at hG
 rw [xcl_setb D hlD Z130 B (by rw [hlB]; rfl)] at hG
 have eb:B.map (Value.int .u8)=bv B:=rfl
 rw [eb]
 generalize World.setCells _ _ _ _=u6 at *
 replace hG:Gt g w [⟨w.heap.size,(xcl Z16 Z130).toArray,36⟩,⟨q5,(xcl D B).toArray,36⟩] p 146 c (16+130) L u6:=hG
 rw [hlB]
 clear hlr eb
 refine hQ.out _ _ trivial (fun _=>?_)
 clear hQ K_
 simp only [nrm]
 refine any_done (by kernel_rfl) ?_
 replace hG:=hide hG
 go_upto_region 7 with fail
 replace hG:=unhide hG
 refine wp_region_lit ?_
 refine list_val (.agg (xcl D B).toArray) (by kernel_rfl) (exec_arr _ 36 (.tmp 5) rfl q5 (by kernel_rfl) (xcl D B).toArray 36 _ (hG.get 1 (x:=⟨q5,(xcl D B).toArray,36⟩) rfl) Tryz.underlying36 rfl (by rw [Tryz.infoX,List.size_toArray,xcl_len hlD hlB])) ?_
 simp only [nrm]
 refine list_store 36 (.tmp 2) (.tmp 22) (w.heap.size) (xcl D B).toArray 36 (xcl Z16 Z130).toArray (by kernel_rfl) rfl (by kernel_rfl) (by kernel_rfl) (hG.get 0 (x:=⟨w.heap.size,(xcl Z16 Z130).toArray,36⟩) rfl) (by rw [Tryz.infoX,List.size_toArray,xcl_len hlD hlB]) (by rw [List.size_toArray,List.size_toArray,xcl_len hlD hlB]; rfl) (xcl_one ..) ?_
 replace hG:=hG.set 0 (x:=⟨w.heap.size,(xcl Z16 Z130).toArray,36⟩) rfl (xcl D B).toArray
 simp only [List.set_cons_zero,List.set_cons_succ] at hG
 generalize World.setRow _ _ _=u7 at *
 replace hG:Gt g w [⟨w.heap.size,(xcl D B).toArray,36⟩,⟨q5,(xcl D B).toArray,36⟩] p 146 c (16+130) L u7:=hG
 simp only [nrm]
 (refine wpList_step fun K hK=>?_; replace hK:=hide hK; go_simp; refine unhide hK _ _ ?_; clear hK K)
 refine wpList_nil ?_
 have hbk:Hid (u7.heap[w.heap.size]?=some (.cells (xcl D B).toArray 36 (0,0))):=(hG.get 0 (x:=⟨w.heap.size,(xcl D B).toArray,36⟩) rfl)
 have hP:Hid (T (.returned (.tuple #[.agg (xcl D B).toArray,.int .i64 0])) u7):=by
  rw [unhide hT]
  exact ⟨by unfold xcO; rw [unhide hB0,unhide hD0],hG.gr hwg⟩
 clear hG
 go_wp2_with fail
 exact bodyPost_ret (v:=.tuple #[.agg (xcl D B).toArray,.int .i64 0]) (results_cell_tmp Tryz.results35 _ _ (w.heap.size) 36 (xcl D B).toArray (0,0) _ rfl (.int .i64 0) rfl (unhide hbk) Tryz.underlying36 rfl (by rw [Tryz.infoX,List.size_toArray,xcl_len hlD hlB])) rfl (unhide hP)
def evR (k s:Int) (B:List Int):Bool:=(k == 1) || ((k == 0) && ((s == 0) && allZ B))
def evB (k a s:Int) (B:List Int):List Int:=(([k]++lowL a 4)++lowL s 4)++B
theorem evl_setb (k a s:Int) (B B':List Int) (h:B'.length=B.length):sp (evl k a s B) 3 (bv B')=evl k a s B':=by
 have:=sp_mid (bv B') [.int .i64 k,.int .u32 a,.int .u32 s] (bv B) [] (by rw [bv_len,bv_len,h])
 rw [evl_body,evl_body]
 exact this
theorem evR_kind {k s:Int} {B:List Int} (h:evR k s B=true):k=0∨k=1:=by
 unfold evR at h
 simp only [Bool.or_eq_true,Bool.and_eq_true,beq_iff_eq] at h
 omega
theorem ev_load {w:World} {g:Nat} {k a s:Int} {B:List Int} {t:TypeId} (h:w.heap[g]?=some (.cells (evl k a s B).toArray t (0,0))):w.cell? ⟨g,0,none⟩=some (.int .i64 k)∧w.cell? ⟨g,1,none⟩=some (.int .u32 a)∧w.cell? ⟨g,2,none⟩=some (.int .u32 s):=⟨cell_of h rfl,cell_of h rfl,cell_of h rfl⟩
set_option maxHeartbeats 4000000 in
theorem fev_ok (k a s:Int) (B:List Int) (hl:B.length=105) (hb:IsB B) (w:World):Calls Tryz.prog 40 #[.agg (evl k a s B).toArray] w (Vl (.bool (evR k s B)) w):=by
 obtain ⟨T,hT⟩:∃ T,T=Vl (.bool (evR k s B)) w:=⟨_,rfl⟩
 rw [← hT]
 replace hT:=hide hT
 obtain ⟨C,hC⟩:∃ C,C=(evl k a s B).toArray:=⟨_,rfl⟩
 rw [← hC]
 replace hC:=hide hC; replace hb:=hide hb
 go_enter Tryz.func40,Tryz.ntmps40
 go_upto_region 1 with fail
 have hB:=((Bl.nil w).new C 30)
 simp only [size_alloc,List.nil_append,List.cons_append] at hB
 generalize World.alloc _ _=u at *
 rw [unhide hC] at hB
 replace hB:Bl w [⟨w.heap.size,(evl k a s B).toArray,30⟩] u:=hB
 clear hC
 have hbl:Hid (u.heap[w.heap.size]?=some (.cells (evl k a s B).toArray 30 (0,0))):=(hB.get 0 (x:=⟨w.heap.size,(evl k a s B).toArray,30⟩) rfl)
 have hG:=hB.gr
 clear hB
 replace hG:=hide hG
 refine wp_region_lit ?_
 refine list_val (.pointer (some ⟨w.heap.size,0,none⟩)) (by kernel_rfl) (by kernel_rfl) ?_
 simp only [nrm]
 refine list_val (.int .i64 k) (by kernel_rfl) (exec_i64 _ (.tmp 3) rfl (w.heap.size) 0 (by kernel_rfl) k (ev_load (unhide hbl)).1) ?_
 simp only [nrm]
 refine wpList_nil ?_
 go_upto_region 2 with fail
 by_cases hk:k=0
 ·skip
  subst hk
  refine wp_region_lit ?_
  refine list_val (.bool true) (by kernel_rfl) (by kernel_rfl) ?_
  simp only [nrm]
  (refine wpList_step fun K hK=>?_; replace hK:=hide hK; go_simp; refine unhide hK _ _ ?_; clear hK K)
  refine wpList_nil ?_
  go_upto_region 3 with fail
  by_cases hs:s=0
  ·skip
   subst hs
   refine wp_region_lit ?_
   refine list_val (.pointer (some ⟨w.heap.size,2,none⟩)) (by kernel_rfl) (by kernel_rfl) ?_
   simp only [nrm]
   refine list_val (.int .u32 0) (by kernel_rfl) (exec_u32 _ (.tmp 7) rfl (w.heap.size) 2 (by kernel_rfl) 0 (ev_load (unhide hbl)).2.2) ?_
   simp only [nrm]
   refine list_val (.bool true) (by kernel_rfl) (by kernel_rfl) ?_
   simp only [nrm]
   refine list_val (.bool true) (by kernel_rfl) (by kernel_rfl) ?_
   simp only [nrm]
   refine list_val (.pointer (some ⟨w.heap.size,3,none⟩)) (by kernel_rfl) (by kernel_rfl) ?_
   simp only [nrm]
   refine list_val (.slice (some ⟨w.heap.size,3,none⟩) 105 105) (by kernel_rfl) (by kernel_rfl) ?_
   simp only [nrm]
   refine list_call 67 #[.slice (some ⟨w.heap.size,3,none⟩) 105 105] (by kernel_rfl) (by kernel_rfl) ((zero_ok B (some ⟨w.heap.size,3,none⟩) 105 105 (by omega) u (lb_mid (unhide hbl) (evl_body 0 a 0 B) rfl (unhide hb) hl (by omega) (by omega))).mono ?_)
   rintro r u1 ⟨rfl,rfl⟩
   have ez:evR 0 0 B=allZ B:=by unfold evR; simp
   rw [ez] at hT
   generalize allZ B=z at *
   refine ⟨_,rfl,?_⟩
   simp only [nrm]
   refine list_val (.bool z) (by kernel_rfl) (by kernel_rfl) ?_
   simp only [nrm]
   (refine wpList_step fun K hK=>?_; replace hK:=hide hK; go_simp; refine unhide hK _ _ ?_; clear hK K)
   refine wpList_nil ?_
   have hZ:Hid (Vl (.bool z) w (.returned (.bool z)) u1):=⟨rfl,unhide hG⟩
   go_wp2_with fail
   rw [unhide hT]
   exact unhide hZ
  ·skip
   refine wp_region_lit ?_
   refine list_val (.pointer (some ⟨w.heap.size,2,none⟩)) (by kernel_rfl) (by kernel_rfl) ?_
   simp only [nrm]
   refine list_val (.int .u32 s) (by kernel_rfl) (exec_u32 _ (.tmp 7) rfl (w.heap.size) 2 (by kernel_rfl) s (ev_load (unhide hbl)).2.2) ?_
   simp only [nrm]
   refine list_val (.bool false) (by kernel_rfl) (by go_simp) ?_
   simp only [nrm]
   refine list_val (.bool false) (by kernel_rfl) (by kernel_rfl) ?_
   simp only [nrm]
   refine wpList_step fun K hK=>?_
   rw [if_neg (ne_true_of_eq_false (by kernel_rfl))]
   refine hK _ _ ?_
   clear hK K
   simp only [nrm]
   refine wpList_step fun K hK=>?_
   rw [if_neg (ne_true_of_eq_false (by kernel_rfl))]
   refine hK _ _ ?_
   clear hK K
   simp only [nrm]
   refine wpList_step fun K hK=>?_
   rw [if_neg (ne_true_of_eq_false (by kernel_rfl))]
   refine hK _ _ ?_
   clear hK K
   simp only [nrm]
   refine list_val (.bool false) (by kernel_rfl) (by kernel_rfl) ?_
   simp only [nrm]
   (refine wpList_step fun K hK=>?_; replace hK:=hide hK; go_simp; refine unhide hK _ _ ?_; clear hK K)
   refine wpList_nil ?_
   have ez:evR 0 s B=false:=by unfold evR; simp [hs]
   rw [ez] at hT
   have hZ:Hid (Vl (.bool false) w (.returned (.bool false)) u):=⟨rfl,unhide hG⟩
   go_wp2_with fail
   rw [unhide hT]
   exact unhide hZ
 ·skip
  refine wp_region_lit ?_
  refine list_val (.bool false) (by kernel_rfl) (by go_simp) ?_
  simp only [nrm]
  (refine wpList_step fun K hK=>?_; replace hK:=hide hK; go_simp; refine unhide hK _ _ ?_; clear hK K)
  refine wpList_nil ?_
  go_upto_region 4 with fail
  by_cases hk1:k=1
  ·skip
   subst hk1
   refine wp_region_lit ?_
   refine list_val (.bool true) (by kernel_rfl) (by kernel_rfl) ?_
   simp only [nrm]
   (refine wpList_step fun K hK=>?_; replace hK:=hide hK; go_simp; refine unhide hK _ _ ?_; clear hK K)
   refine wpList_nil ?_
   have ez:evR 1 s B=true:=by unfold evR; simp
   rw [ez] at hT
   have hZ:Hid (Vl (.bool true) w (.returned (.bool true)) u):=⟨rfl,unhide hG⟩
   go_wp2_with fail
   rw [unhide hT]
   exact unhide hZ
  ·skip
   refine wp_region_lit ?_
   refine list_val (.bool false) (by kernel_rfl) (by go_simp) ?_
   simp only [nrm]
   (refine wpList_step fun K hK=>?_; replace hK:=hide hK; go_simp; refine unhide hK _ _ ?_; clear hK K)
   refine wpList_nil ?_
   have ez:evR k s B=false:=by unfold evR; simp [hk,hk1]
   rw [ez] at hT
   have hZ:Hid (Vl (.bool false) w (.returned (.bool false)) u):=⟨rfl,unhide hG⟩
   go_wp2_with fail
   rw [unhide hT]
   exact unhide hZ
def Pok (L:List Int) (w:World) (r:Ending) (w':World):Prop:=∃ v,r=.returned (.tuple #[v,.int .i64 0])∧Ob w.heap.size w' v L∧Gr w w'
set_option maxHeartbeats 4000000 in
theorem fpute_ok (k a s:Int) (B:List Int) (hl:B.length=105) (hb:IsB B) (ha:U4 a) (hs:U4 s) (hr:evR k s B=true) (w:World):Calls Tryz.prog 21 #[.agg (evl k a s B).toArray] w (Pok (evB k a s B) w):=by
 obtain ⟨T,hT⟩:∃ T,T=Pok (evB k a s B) w:=⟨_,rfl⟩
 rw [← hT]
 replace hT:=hide hT
 obtain ⟨C,hC⟩:∃ C,C=(evl k a s B).toArray:=⟨_,rfl⟩
 rw [← hC]
 replace hC:=hide hC; replace hb:=hide hb; replace hr:=hide hr
 go_enter Tryz.func21,Tryz.ntmps21
 go_upto_region 1 with fail
 have hB:=((Bl.nil w).new C 30)
 simp only [size_alloc,List.nil_append,List.cons_append] at hB
 generalize World.alloc _ _=u at *
 rw [unhide hC] at hB
 replace hB:Bl w [⟨w.heap.size,(evl k a s B).toArray,30⟩] u:=hB
 clear hC
 have hbl:Hid (u.heap[w.heap.size]?=some (.cells (evl k a s B).toArray 30 (0,0))):=(hB.get 0 (x:=⟨w.heap.size,(evl k a s B).toArray,30⟩) rfl)
 have hG:=hB.gr
 clear hB
 refine wp_region_lit ?_
 refine list_val (.agg (evl k a s B).toArray) (by kernel_rfl) (exec_arr _ 30 (.tmp 1) rfl (w.heap.size) (by kernel_rfl) (evl k a s B).toArray 30 _ (unhide hbl) Tryz.underlying30 rfl (by rw [Tryz.infoE,List.size_toArray,evl_len _ _ _ hl])) ?_
 simp only [nrm]
 refine list_call 40 #[.agg (evl k a s B).toArray] (by kernel_rfl) (by kernel_rfl) ((fev_ok k a s B hl (unhide hb) u).mono ?_)
 rintro r u1 ⟨rfl,hg1⟩
 rw [unhide hr]
 replace hG:=hG.trans hg1
 replace hbl:=hide (hg1.blk (unhide hbl))
 clear hg1
 refine ⟨_,rfl,?_⟩
 simp only [nrm]
 refine list_val (.bool false) (by kernel_rfl) (by kernel_rfl) ?_
 simp only [nrm]
 refine wpList_nil ?_
 have hk:=evR_kind (unhide hr)
 have hwk:IntKind.u8.wrap k=k:=by rw [IntKind.wrap_u8]; omega
 have hkB:IsB [k]:=fun y hy=>by rw [List.mem_singleton.1 hy]; omega
 replace hk:=hide hk; replace hkB:=hide hkB; replace hG:=hide hG
 go_upto_region 3 with fail
 refine wp_region_lit ?_
 refine list_val (.pointer (some ⟨w.heap.size,0,none⟩)) (by kernel_rfl) (by kernel_rfl) ?_
 simp only [nrm]
 refine list_val (.int .i64 k) (by kernel_rfl) (exec_i64 _ (.tmp 8) rfl (w.heap.size) 0 (by kernel_rfl) k (ev_load (unhide hbl)).1) ?_
 simp only [nrm]
 refine list_val (.int .u8 k) (by kernel_rfl) (by go_simp) ?_
 simp only [nrm]
 refine list_valw (.slice (some ⟨u1.heap.size,0,none⟩) 1 1) (u1.alloc (.cells (kc [k]) 5 (0,0))) (by kernel_rfl) (by kernel_rfl) ?_
 have hg:=(Gr.refl u1).alloc (.cells (kc [k]) 5 (0,0))
 have hlb1:=hide (kc_lb (n:=1) (blk_new u1 (.cells (kc [k]) 5 (0,0))) rfl (unhide hkB) (by decide))
 replace hG:=hide ((unhide hG).trans hg)
 replace hbl:=hide (hg.blk (unhide hbl))
 clear hg
 generalize World.alloc _ _=u2 at *
 generalize u1.heap.size=h1 at *
 simp only [nrm]
 (refine wpList_step fun K hK=>?_; replace hK:=hide hK; go_simp; refine unhide hK _ _ ?_; clear hK K)
 refine wpList_nil ?_
 go_upto_region 4 with fail
 refine wp_region_lit ?_
 refine list_val (.slice (some ⟨h1,0,none⟩) 1 1) (by kernel_rfl) (by kernel_rfl) ?_
 simp only [nrm]
 refine list_val (.pointer (some ⟨w.heap.size,1,none⟩)) (by kernel_rfl) (by kernel_rfl) ?_
 simp only [nrm]
 refine list_val (.int .u32 a) (by kernel_rfl) (exec_u32 _ (.tmp 13) rfl (w.heap.size) 1 (by kernel_rfl) a (ev_load (unhide hbl)).2.1) ?_
 simp only [nrm]
 refine list_call 41 #[.slice (some ⟨h1,0,none⟩) 1 1,.int .u32 a] (by kernel_rfl) (by kernel_rfl) ((put32g_ok [k] (some ⟨h1,0,none⟩) 1 1 a ha (by omega) u2 (unhide hlb1)).mono ?_)
 rintro r u3 ⟨h2,rfl,hh1,hh2,hh3⟩
 have hl2:([k]++lowL a 4).length=5:=by simp [lowL_len]
 rw [hl2]
 have hO2:=hide (ob_of hh2 hl2 (Nat.le_trans (unhide hG).size hh1) (by omega))
 have hlb2:=hide (kc_lb hh2 hl2 (isB_append (unhide hlb1).isB (lowL_isB _ _)) (by decide))
 replace hG:=hide ((unhide hG).trans hh3)
 replace hbl:=hide (hh3.blk (unhide hbl))
 clear hh1 hh2 hh3 hl2
 refine ⟨_,rfl,?_⟩
 simp only [nrm]
 (refine wpList_step fun K hK=>?_; replace hK:=hide hK; go_simp; refine unhide hK _ _ ?_; clear hK K)
 refine wpList_nil ?_
 clear hO2
 go_upto_region 5 with fail
 refine wp_region_lit ?_
 refine list_val (.slice (some ⟨h2,0,none⟩) 5 5) (by kernel_rfl) (by kernel_rfl) ?_
 simp only [nrm]
 refine list_val (.pointer (some ⟨w.heap.size,2,none⟩)) (by kernel_rfl) (by kernel_rfl) ?_
 simp only [nrm]
 refine list_val (.int .u32 s) (by kernel_rfl) (exec_u32 _ (.tmp 17) rfl (w.heap.size) 2 (by kernel_rfl) s (ev_load (unhide hbl)).2.2) ?_
 simp only [nrm]
 refine list_call 41 #[.slice (some ⟨h2,0,none⟩) 5 5,.int .u32 s] (by kernel_rfl) (by kernel_rfl) ((put32g_ok ([k]++lowL a 4) (some ⟨h2,0,none⟩) 5 5 s hs (by omega) u3 (unhide hlb2)).mono ?_)
 rintro r u4 ⟨h3,rfl,hh1,hh2,hh3⟩
 have hl2:(([k]++lowL a 4)++lowL s 4).length=9:=by simp [lowL_len]
 rw [hl2]
 have hO2:=hide (ob_of hh2 hl2 (Nat.le_trans (unhide hG).size hh1) (by omega))
 have hlb3:=hide (kc_lb hh2 hl2 (isB_append (unhide hlb2).isB (lowL_isB _ _)) (by decide))
 replace hG:=hide ((unhide hG).trans hh3)
 replace hbl:=hide (hh3.blk (unhide hbl))
 clear hh1 hh2 hh3 hl2
 refine ⟨_,rfl,?_⟩
 simp only [nrm]
 (refine wpList_step fun K hK=>?_; replace hK:=hide hK; go_simp; refine unhide hK _ _ ?_; clear hK K)
 refine wpList_nil ?_
 go_upto_region 6 with fail
 refine wp_region_lit ?_
 refine list_val (.slice (some ⟨h3,0,none⟩) 9 9) (by kernel_rfl) (by kernel_rfl) ?_
 simp only [nrm]
 refine list_val (.pointer (some ⟨w.heap.size,3,none⟩)) (by kernel_rfl) (by kernel_rfl) ?_
 simp only [nrm]
 refine list_val (.slice (some ⟨w.heap.size,3,none⟩) 105 105) (by kernel_rfl) (by kernel_rfl) ?_
 simp only [nrm]
 refine app_bs (by kernel_rfl) (.tmp 20) (.tmp 22) rfl w.heap.size _ (([k]++lowL a 4)++lowL s 4) rfl (unhide hO2) (some ⟨w.heap.size,3,none⟩) 105 105 B (by kernel_rfl) hl (.inr ⟨_,3,rfl,at_mid (unhide hbl) (evl_body k a s B) rfl⟩) (by simp [lowL_len]) (unhide hG).size ?_
 intro v2 u5 hO3 hgr
 have hZ:Hid (Pok (evB k a s B) w (.returned (.tuple #[v2,.int .i64 0])) u5):=⟨v2,rfl,hO3,(unhide hO2).grown (Nat.le_refl _) (unhide hG) hgr⟩
 clear hO3 hgr
 simp only [nrm]
 (refine wpList_step fun K hK=>?_; replace hK:=hide hK; go_simp; refine unhide hK _ _ ?_; clear hK K)
 (refine wpList_step fun K hK=>?_; replace hK:=hide hK; go_simp; refine unhide hK _ _ ?_; clear hK K)
 refine wpList_nil ?_
 go_wp2_with fail
 rw [unhide hT]
 exact unhide hZ
def evO (L:List Int):List Value:=evl (L.getD 0 0) (lowN ((L.drop 1).take 4)) (lowN ((L.drop 5).take 4)) ((L.drop 9).take 105)
def evRO (L:List Int):Bool:=evR (L.getD 0 0) (lowN ((L.drop 5).take 4)) ((L.drop 9).take 105)
theorem ev_set0 (k a s x:Int) (B:List Int):(evl k a s B).toArray.setIfInBounds 0 (.int .i64 x)=(evl x a s B).toArray:=by simp [evl]
theorem ev_set1 (k a s x:Int) (B:List Int):(evl k a s B).toArray.setIfInBounds 1 (.int .u32 x)=(evl k x s B).toArray:=by simp [evl]
theorem ev_set2 (k a s x:Int) (B:List Int):(evl k a s B).toArray.setIfInBounds 2 (.int .u32 x)=(evl k a x B).toArray:=by simp [evl]
set_option maxHeartbeats 4000000 in
theorem fgete_ok (L:List Int) (a:Option Addr) (c0:Nat) (w:World) (hB0:Lb w a 114 c0 L) (hr:evRO L=true):Calls Tryz.prog 31 #[.slice a 114 c0] w (Rno (evO L).toArray 0 w):=by
 obtain ⟨T,hT⟩:∃ T,T=Rno (evO L).toArray 0 w:=⟨_,rfl⟩
 rw [← hT]
 replace hT:=hide hT
 obtain ⟨p0,q0,rfl,hB0⟩:=hB0.some (by omega)
 have hL:=hB0.len
 have hLb:=hide hB0.isB
 replace hB0:=hide hB0
 unfold evRO at hr
 replace hr:=hide hr
 go_enter Tryz.func31,Tryz.ntmps31
 go_upto_region 0 with fail
 refine wp_region_lit ?_
 refine list_valw (.pointer (some ⟨w.heap.size,0,none⟩)) (w.alloc (.cells (evl 0 0 0 Z105).toArray 30 (0,0))) (by kernel_rfl) (by kernel_rfl) ?_
 have hB:=(Bl.nil w).new (evl 0 0 0 Z105).toArray 30
 simp only [List.nil_append] at hB
 generalize World.alloc _ _=u at *
 replace hB:Bl w [⟨w.heap.size,(evl 0 0 0 Z105).toArray,30⟩] u:=hB
 simp only [nrm]
 (refine wpList_step fun K hK=>?_; replace hK:=hide hK; go_simp; refine unhide hK _ _ ?_; clear hK K)
 refine wpList_nil ?_
 replace hB:=hide hB
 go_upto_region 1 with fail
 replace hB:=unhide hB
 refine wp_region_lit ?_
 refine list_val (.slice (some ⟨p0,q0,none⟩) 114 c0) (by kernel_rfl) (by kernel_rfl) ?_
 simp only [nrm]
 refine list_val (.int .i64 114) (by kernel_rfl) (by kernel_rfl) ?_
 simp only [nrm]
 refine list_val (.bool false) (by kernel_rfl) (by kernel_rfl) ?_
 simp only [nrm]
 refine wpList_nil ?_
 replace hB:=hide hB
 go_upto_region 3 with fail
 replace hB:=unhide hB
 refine wp_region_lit ?_
 refine list_val (.slice (some ⟨p0,q0,none⟩) 114 c0) (by kernel_rfl) (by kernel_rfl) ?_
 simp only [nrm]
 refine list_call 52 #[.slice (some ⟨p0,q0,none⟩) 114 c0] (by kernel_rfl) (by kernel_rfl) ((oreadt_ok L p0 q0 114 c0 u ((unhide hB0).gr hB.gr) (by omega) (by omega)).mono ?_)
 rintro r u1 ⟨g,p,c,rfl,hgg,hpp,hrd,hty,hgr⟩
 rw [hL] at hrd
 have hG:Gt g w [⟨w.heap.size,(evl 0 0 0 Z105).toArray,30⟩] p 114 c 0 L u1:=hB.gt hgr hgg hpp hrd hty (by intro y hy; rw [List.mem_singleton.1 hy]; exact ⟨(by decide:(30:TypeId)≠130),(by decide:(30:TypeId)≠5)⟩)
 have hwg:w.heap.size≤g:=Nat.le_trans hB.gr.size hgg
 clear hB hgr hgg hpp hrd hty
 refine ⟨_,rfl,?_⟩
 simp only [nrm]
 (refine wpList_step fun K hK=>?_; replace hK:=hide hK; go_simp; refine unhide hK _ _ ?_; clear hK K)
 refine wpList_nil ?_
 replace hG:=hide hG
 go_upto_region 4 with fail
 replace hG:=unhide hG
 refine wp_region_lit ?_
 refine list_valw (.pointer (some ⟨u1.heap.size,0,none⟩)) (u1.alloc (.cells (evl 0 0 0 Z105).toArray 30 (0,0))) (by kernel_rfl) (by kernel_rfl) ?_
 replace hG:=hG.new (evl 0 0 0 Z105).toArray 30 ⟨by decide,by decide⟩
 simp only [List.nil_append,List.cons_append] at hG
 generalize World.alloc _ _=u2 at *
 generalize u1.heap.size=q5 at *
 replace hG:Gt g w [⟨w.heap.size,(evl 0 0 0 Z105).toArray,30⟩,⟨q5,(evl 0 0 0 Z105).toArray,30⟩] p 114 c (0) L u2:=hG
 simp only [nrm]
 refine wpList_nil ?_
 replace hG:=hide hG
 go_upto_region 5 with fail
 replace hG:=unhide hG
 refine wp_region_lit ?_
 refine list_val (.pointer (some ⟨g,0,none⟩)) (by kernel_rfl) (by kernel_rfl) ?_
 simp only [nrm]
 refine list_call 53 #[P0 g] (by kernel_rfl) (by kernel_rfl) ((fone_ok g p 114 c (0) L u2 hG.rd (by omega) (by omega)).mono ?_)
 rintro r u3a ⟨rfl,hR1,hb1⟩
 replace hG:=hG.read hR1 hb1
 clear hR1 hb1
 obtain ⟨k1,hk10⟩:∃ x,x=L.getD 0 0:=⟨_,rfl⟩
 rw [← hk10]
 refine ⟨_,rfl,?_⟩
 replace hk10:=hide hk10
 simp only [nrm]
 refine list_val (.pointer (some ⟨q5,0,none⟩)) (by kernel_rfl) (by kernel_rfl) ?_
 simp only [nrm]
 have c4:=cell_of (hG.get 1 (x:=⟨q5,(evl 0 0 0 Z105).toArray,30⟩) rfl) (i:=0) rfl
 have fz:=froz_of (i:=0) (hG.get 1 (x:=⟨q5,(evl 0 0 0 Z105).toArray,30⟩) rfl)
 have hG2:=hG.cell 1 (x:=⟨q5,(evl 0 0 0 Z105).toArray,30⟩) rfl 0 (.int .i64 k1)
 simp only [List.set_cons_zero,List.set_cons_succ] at hG2
 rw [ev_set0] at hG2
 clear hG
 replace hG2:=hide hG2
 dsimp only at c4 fz
 (refine wpList_step fun K hK=>?_; replace hK:=hide hK; go_simp; refine unhide hK _ _ ?_; clear hK K)
 clear c4 fz
 have hG:=unhide hG2
 clear hG2
 generalize World.setCell _ _ _=u3 at *
 replace hG:Gt g w [⟨w.heap.size,(evl 0 0 0 Z105).toArray,30⟩,⟨q5,(evl k1 0 0 Z105).toArray,30⟩] p 114 c (0+1) L u3:=hG
 refine wpList_nil ?_
 replace hG:Gt g w [⟨w.heap.size,(evl 0 0 0 Z105).toArray,30⟩,⟨q5,(evl k1 0 0 Z105).toArray,30⟩] p 114 c (1) L u3:=hG
 replace hG:=hide hG
 go_upto_region 6 with fail
 replace hG:=unhide hG
 refine wp_region_lit ?_
 refine list_val (.pointer (some ⟨g,0,none⟩)) (by kernel_rfl) (by kernel_rfl) ?_
 simp only [nrm]
 refine list_call 54 #[P0 g] (by kernel_rfl) (by kernel_rfl) ((ru32_ok g p 114 c (1) L u3 hG.rd (by omega) (by omega)).mono ?_)
 rintro r u4a ⟨rfl,hR1,hb1⟩
 replace hG:=hG.read hR1 hb1
 clear hR1 hb1
 obtain ⟨a1,ha10⟩:∃ x,x=lowN ((L.drop 1).take 4):=⟨_,rfl⟩
 rw [← ha10]
 refine ⟨_,rfl,?_⟩
 replace ha10:=hide ha10
 simp only [nrm]
 refine list_val (.pointer (some ⟨q5,1,none⟩)) (by kernel_rfl) (by kernel_rfl) ?_
 simp only [nrm]
 have c4:=cell_of (hG.get 1 (x:=⟨q5,(evl k1 0 0 Z105).toArray,30⟩) rfl) (i:=1) rfl
 have fz:=froz_of (i:=1) (hG.get 1 (x:=⟨q5,(evl k1 0 0 Z105).toArray,30⟩) rfl)
 have hG2:=hG.cell 1 (x:=⟨q5,(evl k1 0 0 Z105).toArray,30⟩) rfl 1 (.int .u32 a1)
 simp only [List.set_cons_zero,List.set_cons_succ] at hG2
 rw [ev_set1] at hG2
 clear hG
 replace hG2:=hide hG2
 dsimp only at c4 fz
 (refine wpList_step fun K hK=>?_; replace hK:=hide hK; go_simp; refine unhide hK _ _ ?_; clear hK K)
 clear c4 fz
 have hG:=unhide hG2
 clear hG2
 generalize World.setCell _ _ _=u4 at *
 replace hG:Gt g w [⟨w.heap.size,(evl 0 0 0 Z105).toArray,30⟩,⟨q5,(evl k1 a1 0 Z105).toArray,30⟩] p 114 c (1+4) L u4:=hG
 refine wpList_nil ?_
 replace hG:Gt g w [⟨w.heap.size,(evl 0 0 0 Z105).toArray,30⟩,⟨q5,(evl k1 a1 0 Z105).toArray,30⟩] p 114 c (5) L u4:=hG
 replace hG:=hide hG
 go_upto_region 7 with fail
 replace hG:=unhide hG
 refine wp_region_lit ?_
 refine list_val (.pointer (some ⟨g,0,none⟩)) (by kernel_rfl) (by kernel_rfl) ?_
 simp only [nrm]
 refine list_call 54 #[P0 g] (by kernel_rfl) (by kernel_rfl) ((ru32_ok g p 114 c (5) L u4 hG.rd (by omega) (by omega)).mono ?_)
 rintro r u5a ⟨rfl,hR1,hb1⟩
 replace hG:=hG.read hR1 hb1
 clear hR1 hb1
 obtain ⟨s1,hs10⟩:∃ x,x=lowN ((L.drop 5).take 4):=⟨_,rfl⟩
 rw [← hs10]
 refine ⟨_,rfl,?_⟩
 replace hs10:=hide hs10
 simp only [nrm]
 refine list_val (.pointer (some ⟨q5,2,none⟩)) (by kernel_rfl) (by kernel_rfl) ?_
 simp only [nrm]
 have c4:=cell_of (hG.get 1 (x:=⟨q5,(evl k1 a1 0 Z105).toArray,30⟩) rfl) (i:=2) rfl
 have fz:=froz_of (i:=2) (hG.get 1 (x:=⟨q5,(evl k1 a1 0 Z105).toArray,30⟩) rfl)
 have hG2:=hG.cell 1 (x:=⟨q5,(evl k1 a1 0 Z105).toArray,30⟩) rfl 2 (.int .u32 s1)
 simp only [List.set_cons_zero,List.set_cons_succ] at hG2
 rw [ev_set2] at hG2
 clear hG
 replace hG2:=hide hG2
 dsimp only at c4 fz
 (refine wpList_step fun K hK=>?_; replace hK:=hide hK; go_simp; refine unhide hK _ _ ?_; clear hK K)
 clear c4 fz
 have hG:=unhide hG2
 clear hG2
 generalize World.setCell _ _ _=u5 at *
 replace hG:Gt g w [⟨w.heap.size,(evl 0 0 0 Z105).toArray,30⟩,⟨q5,(evl k1 a1 s1 Z105).toArray,30⟩] p 114 c (5+4) L u5:=hG
 refine wpList_nil ?_
 replace hG:Gt g w [⟨w.heap.size,(evl 0 0 0 Z105).toArray,30⟩,⟨q5,(evl k1 a1 s1 Z105).toArray,30⟩] p 114 c (9) L u5:=hG
 replace hG:=hide hG
 go_upto_region 8 with fail
 replace hG:=unhide hG
 refine any_start (S:=fun _=>True) (by kernel_rfl) ?_
 replace hG:=hG.more (Gr.refl _).drew
 generalize World.drew _=x_B at *
 simp only [List.size_toArray,List.length_cons,List.length_nil,Array.replicate,List.replicate]
 refine any_take (i:=0) (v:=(.pointer (some ⟨q5,3,none⟩))) #[false,false,false,false,false] rfl (by kernel_rfl) (by kernel_rfl) (by kernel_rfl) (by kernel_rfl) (fun _ _ _ h=>h) (.inl ⟨by kernel_rfl,fun x_ hu=>by kernel_rfl⟩) trivial ?_
 simp only [nrm]
 refine any_take (i:=1) (v:=(.slice (some ⟨q5,3,none⟩) 105 105)) #[true,false,false,false,false] rfl (by kernel_rfl) (by kernel_rfl) (by kernel_rfl) (by kernel_rfl) (fun _ _ _ h=>h) (.inl ⟨by kernel_rfl,fun x_ hu=>by kernel_rfl⟩) trivial ?_
 simp only [nrm]
 refine any_take (i:=2) (v:=(.pointer (some ⟨g,0,none⟩))) #[true,true,false,false,false] rfl (by kernel_rfl) (by kernel_rfl) (by kernel_rfl) (by kernel_rfl) (fun _ _ _ h=>h) (.inl ⟨by kernel_rfl,fun x_ hu=>by kernel_rfl⟩) trivial ?_
 simp only [nrm]
 refine any_one (i:=3) (by kernel_rfl) rfl (fun K_ hQ=>?_)
 refine step_callw (by kernel_rfl) 55 #[P0 g,.int .i64 ((105:Nat):Int)] (by kernel_rfl) ((rraw_ok g p 114 c (9) 105 L x_B hG.rd (by omega) (by omega) (by omega)).mono ?_)
 rintro r y_B ⟨v,rfl,hO,hR1,hb1⟩
 refine ⟨_,rfl,?_⟩
 obtain ⟨B,hB0⟩:∃ X,X=((L.drop (9)).take 105):=⟨_,rfl⟩
 rw [← hB0] at hO
 have hlB:B.length=105:=by rw [hB0]; exact sub_len hL (by omega)
 have hbB:IsB B:=by rw [hB0]; exact sub_isB (unhide hLb) _ _
 obtain ⟨ar_B,cr_B,rfl,hlr⟩:=ob_lb hO hbB hlB
 replace hG:=hG.read hR1 hb1
 clear hO hR1 hb1
 replace hB0:=hide hB0; replace hbB:=hide hbB
 refine hQ.out _ _ trivial (fun _=>?_)
 clear hQ K_
 simp only [nrm]
 refine any_one (i:=4) (by kernel_rfl) rfl (fun K_ hQ=>?_)
 rw [if_pos (by kernel_rfl)]
 refine copy_wp (.tmp 22) (.tmp 24) rfl (q5) 3 105 105 ar_B 105 cr_B (by kernel_rfl) (by kernel_rfl) (evl k1 a1 s1 Z105) 30 (hG.get 1 (x:=⟨q5,(evl k1 a1 s1 Z105).toArray,30⟩) rfl) B (by rw [hlB]; rfl) hlr.sl (by rw [hlB,evl_len _ _ _ rfl]; decide) ?_
 replace hG:=hG.cells 1 (q:=q5) (C:=evl k1 a1 s1 Z105) (t:=30) rfl 3 (bv B)
 simp only [List.set_cons_zero,List.set_cons_succ] at hG
 rw [evl_setb k1 a1 s1 Z105 B (by rw [hlB]; rfl)] at hG
 have eb:B.map (Value.int .u8)=bv B:=rfl
 rw [eb]
 generalize World.setCells _ _ _ _=u6 at *
 replace hG:Gt g w [⟨w.heap.size,(evl 0 0 0 Z105).toArray,30⟩,⟨q5,(evl k1 a1 s1 B).toArray,30⟩] p 114 c (9+105) L u6:=hG
 rw [hlB]
 clear hlr eb
 refine hQ.out _ _ trivial (fun _=>?_)
 clear hQ K_
 simp only [nrm]
 refine any_done (by kernel_rfl) ?_
 rw [← unhide hk10,← unhide hs10,← unhide hB0] at hr
 replace hG:=hide hG
 go_upto_region 9 with fail
 replace hG:=unhide hG
 refine wp_region_lit ?_
 refine list_val (.agg (evl k1 a1 s1 B).toArray) (by kernel_rfl) (exec_arr _ 30 (.tmp 5) rfl q5 (by kernel_rfl) (evl k1 a1 s1 B).toArray 30 _ (hG.get 1 (x:=⟨q5,(evl k1 a1 s1 B).toArray,30⟩) rfl) Tryz.underlying30 rfl (by rw [Tryz.infoE,List.size_toArray,evl_len _ _ _ hlB])) ?_
 simp only [nrm]
 refine list_call 40 #[.agg (evl k1 a1 s1 B).toArray] (by kernel_rfl) (by kernel_rfl) ((fev_ok k1 a1 s1 B hlB (unhide hbB) u6).mono ?_)
 rintro r u7 ⟨rfl,hg1⟩
 rw [unhide hr]
 replace hG:=hG.more hg1
 clear hg1
 refine ⟨_,rfl,?_⟩
 simp only [nrm]
 refine list_val (.bool false) (by kernel_rfl) (by kernel_rfl) ?_
 simp only [nrm]
 refine wpList_nil ?_
 replace hG:=hide hG
 go_upto_region 11 with fail
 replace hG:=unhide hG
 refine wp_region_lit ?_
 refine list_val (.agg (evl k1 a1 s1 B).toArray) (by kernel_rfl) (exec_arr _ 30 (.tmp 5) rfl q5 (by kernel_rfl) (evl k1 a1 s1 B).toArray 30 _ (hG.get 1 (x:=⟨q5,(evl k1 a1 s1 B).toArray,30⟩) rfl) Tryz.underlying30 rfl (by rw [Tryz.infoE,List.size_toArray,evl_len _ _ _ hlB])) ?_
 simp only [nrm]
 refine list_store 30 (.tmp 2) (.tmp 30) (w.heap.size) (evl k1 a1 s1 B).toArray 30 (evl 0 0 0 Z105).toArray (by kernel_rfl) rfl (by kernel_rfl) (by kernel_rfl) (hG.get 0 (x:=⟨w.heap.size,(evl 0 0 0 Z105).toArray,30⟩) rfl) (by rw [Tryz.infoE,List.size_toArray,evl_len _ _ _ hlB]) (by rw [List.size_toArray,List.size_toArray,evl_len _ _ _ hlB]; rfl) (evl_one ..) ?_
 replace hG:=hG.set 0 (x:=⟨w.heap.size,(evl 0 0 0 Z105).toArray,30⟩) rfl (evl k1 a1 s1 B).toArray
 simp only [List.set_cons_zero,List.set_cons_succ] at hG
 generalize World.setRow _ _ _=u8 at *
 replace hG:Gt g w [⟨w.heap.size,(evl k1 a1 s1 B).toArray,30⟩,⟨q5,(evl k1 a1 s1 B).toArray,30⟩] p 114 c (9+105) L u8:=hG
 simp only [nrm]
 (refine wpList_step fun K hK=>?_; replace hK:=hide hK; go_simp; refine unhide hK _ _ ?_; clear hK K)
 refine wpList_nil ?_
 have hbk:Hid (u8.heap[w.heap.size]?=some (.cells (evl k1 a1 s1 B).toArray 30 (0,0))):=(hG.get 0 (x:=⟨w.heap.size,(evl k1 a1 s1 B).toArray,30⟩) rfl)
 have hP:Hid (T (.returned (.tuple #[.agg (evl k1 a1 s1 B).toArray,.int .i64 0])) u8):=by
  rw [unhide hT]
  exact ⟨by unfold evO; rw [unhide hk10,unhide ha10,unhide hs10,unhide hB0],hG.gr hwg⟩
 clear hG
 go_wp2_with fail
 exact bodyPost_ret (v:=.tuple #[.agg (evl k1 a1 s1 B).toArray,.int .i64 0]) (results_cell_tmp Tryz.results31 _ _ (w.heap.size) 30 (evl k1 a1 s1 B).toArray (0,0) _ rfl (.int .i64 0) rfl (unhide hbk) Tryz.underlying30 rfl (by rw [Tryz.infoE,List.size_toArray,evl_len _ _ _ hlB])) rfl (unhide hP)
theorem ext_at (xs:Array Value) (o m i:Nat) (hi:i<m) (hs:o+m≤xs.size):(xs.extract o (o+m))[i]?=xs[o+i]?:=by
 rw [Array.getElem?_extract,if_pos (by omega)]
def By (xs:Array Value) (o n:Nat):Prop:=o+n≤xs.size∧∀ i,i<n→∃ x,xs[o+i]?=some (.int .u8 x)
theorem By.ext {xs:Array Value} {o n:Nat} (h:By xs o n):∀ i,i<n→∃ x,(xs.extract o (o+n))[i]?=some (.int .u8 x):=fun i hi=>by
 rw [ext_at xs o n i hi h.1]
 exact h.2 i hi
theorem by_mid {C A D:List Value} {K:List Int} {o n:Nat} (hC:C=A++(bv K++D)) (hA:A.length=o) (hK:K.length=n):By C.toArray o n:=by
 refine ⟨by rw [hC]; simp [bv_len]; omega,fun i hi=>⟨K.getD i 0,?_⟩⟩
 rw [List.getElem?_toArray,hC]
 exact mid_get hA i (by omega)
theorem Tryz.info16_:(Tryz.prog.info? 33).map (·.size)=some 16:=by kernel_rfl
theorem Tryz.info130:(Tryz.prog.info? 34).map (·.size)=some 130:=by kernel_rfl
theorem Tryz.info105:(Tryz.prog.info? 28).map (·.size)=some 105:=by kernel_rfl
theorem eq_xcl {D:List Int} (hD:D.length=16) {B:List Int} (hB:B.length=130) (w:World):(Op.equalIn 10000 36 (.agg (xcl D B).toArray) (.agg (xcl D B).toArray)).run Tryz.prog w=.ok true w:=by
 rw [run_equalIn_struct w 9999 36 _ _ (by kernel_rfl) (by kernel_rfl)]
 refine eqFields_self _ _ _ _ (fun f hf=>?_)
 simp [Program.fieldsOf,Tryz.underlying36] at hf
 rcases hf with rfl | rfl
 ·exact ⟨by decide,_,part_row Tryz.underlying33 Tryz.info16_ _ _ _,eq_bytes Tryz.underlying33 9997 _ (by_mid (xcl_drop D B) rfl hD).ext w⟩
 ·exact ⟨by decide,_,part_row Tryz.underlying34 Tryz.info130 _ _ _,eq_bytes Tryz.underlying34 9997 _ (by_mid (xcl_body D B) (by rw [bv_len,hD]) hB).ext w⟩
theorem eq_evl (k a s:Int) {B:List Int} (hB:B.length=105) (w:World):(Op.equalIn 10000 30 (.agg (evl k a s B).toArray) (.agg (evl k a s B).toArray)).run Tryz.prog w=.ok true w:=by
 rw [run_equalIn_struct w 9999 30 _ _ (by kernel_rfl) (by kernel_rfl)]
 refine eqFields_self _ _ _ _ (fun f hf=>?_)
 simp [Program.fieldsOf,Tryz.underlying30] at hf
 rcases hf with rfl | rfl | rfl | rfl
 ·exact ⟨by decide,_,part_cell Tryz.underlying3 (v:=.int .i64 k) rfl w,eq_int Tryz.underlying3 _ _ _ w⟩
 ·exact ⟨by decide,_,part_cell Tryz.underlying27 (v:=.int .u32 a) rfl w,eq_int Tryz.underlying27 _ _ _ w⟩
 ·exact ⟨by decide,_,part_cell Tryz.underlying27 (v:=.int .u32 s) rfl w,eq_int Tryz.underlying27 _ _ _ w⟩
 ·exact ⟨by decide,_,part_row Tryz.underlying28 Tryz.info105 _ _ _,eq_bytes Tryz.underlying28 9997 _ (by_mid (evl_body k a s B) rfl hB).ext w⟩
theorem exec_eql_s {a:Act} {o:Oper} (w:World) (t:TypeId) (x y:Operand) (ho:o.op=.binOp .eql t x y t) {fs:Array Field} (hu:Tryz.prog.underlying t=some (.struct fs)) (c:Array Value) (hg:(eqGuard .eql t x y (.agg c) (.agg c)).run Tryz.prog w=.ok () w) (hx:a.eval x=.agg c) (hy:a.eval y=.agg c) (he:(Op.equalIn 10000 t (.agg c) (.agg c)).run Tryz.prog w=.ok true w):(execOp a.eval o).run Tryz.prog w=.ok (.value (.bool true)) w:=by
 unfold execOp
 simp only [ho,hx,hy]
 go_simp
theorem exec_eql_x {a:Act} {o:Oper} (w:World) (x y:Operand) (ho:o.op=.binOp .eql 36 x y 36) (c:Array Value) (hx:a.eval x=.agg c) (hy:a.eval y=.agg c) (he:(Op.equalIn 10000 36 (.agg c) (.agg c)).run Tryz.prog w=.ok true w):(execOp a.eval o).run Tryz.prog w=.ok (.value (.bool true)) w :=
 exec_eql_s w 36 x y ho Tryz.underlying36 c (by kernel_rfl) hx hy he
theorem exec_eql_e {a:Act} {o:Oper} (w:World) (x y:Operand) (ho:o.op=.binOp .eql 30 x y 30) (c:Array Value) (hx:a.eval x=.agg c) (hy:a.eval y=.agg c) (he:(Op.equalIn 10000 30 (.agg c) (.agg c)).run Tryz.prog w=.ok true w):(execOp a.eval o).run Tryz.prog w=.ok (.value (.bool true)) w :=
 exec_eql_s w 30 x y ho Tryz.underlying30 c (by kernel_rfl) hx hy he
end Go.Proofs.YthahhglbeafkmaaGreatDoor
