/-
  What the proof leans on.
-/
import Derived.Test.YtcefkkoombmndabVO4
namespace Go.Proofs.Ytcefkkoombmndab
open Go.RowKit
set_option maxRecDepth 100000
set_option linter.unusedSimpArgs false
set_option linter.unusedVariables false
theorem infS:(Try.prog.info? 9).map (fun i=>(i.zero,i.size,i.bytes))=some (some (.string ByteArray.empty),1,16):=by kernel_rfl
theorem ltS:Lw 39 9 1 16:=by
 obtain ⟨i,h1,h2,h3,h4⟩:=info_parts infS
 exact ⟨Try.underlying39,⟨i,_,h1,h2,h3,h4,rfl⟩,by decide⟩
theorem exec_bss {a:Act} {o:Oper} (w:World) (x:Operand) (ho:o.op=.buildSlice 39 1 #[(0,x)]) (s:ByteArray) (hx:a.eval x=.string s) :
  (execOp a.eval o).run Try.prog w=.ok (.value (.slice (some ⟨w.heap.size,0,none⟩) 1 1)) (w.alloc (.cells #[.string s] 9 (0,0))):=by
 unfold execOp
 simp only [ho,List.map_toArray,List.map_cons,List.map_nil,hx]
 kernel_rfl
def tr1 (s:ByteArray):List Value:=[.string s]
def Nt (w u:World):Prop:=w.heap.size≤u.heap.size∧∀ (i:Nat) (C:Array Value) (t:TypeId),w.heap[i]?=some (.cells C t (0,0))→t≠59→u.heap[i]?=some (.cells C t (0,0))
theorem Nt.refl (w:World):Nt w w:=⟨Nat.le_refl _,fun _ _ _ h _=>h⟩
theorem Nt.gr {w u v:World} (h:Nt w u) (g:Gr u v):Nt w v:=⟨Nat.le_trans h.1 g.size,fun i C t hi ht=>g.blk (h.2 i C t hi ht)⟩
theorem Nt.bn {w u v:World} {g:Nat} (h:Nt w u) {C:Array Value} {t:TypeId} (hg:u.heap[g]?=some (.cells C t (0,0))) (m:Bt g u v) (hge:w.heap.size≤g):Nt w v:=⟨Nat.le_trans h.1 m.size,fun i D s hi ht=>m.blk (h.2 i D s hi ht) (by have:=lt_of_block hi; omega)⟩
theorem Nt.go {w u v:World} (h:Nt w u) {k b:Nat} {e:TypeId} {x:Value} {R:List (List Value)} (ho:Or_ k e b u x R) (hb:w.heap.size≤b) (g:u.grownBy v x.ownBlock):Nt w v:=⟨Nat.le_trans h.1 g.size,fun i D s hi ht=>by
 have h1:=h.2 i D s hi ht
 rw [g.block i (lt_of_block h1) ?_]
 ·exact h1
 ·intro e1
  have h2:=(World.ownsRow.lt ho.2 i e1.symm).1
  have h3:=lt_of_block hi
  omega⟩
theorem Nt.bi {w u v:World} {g:Nat} (h:Nt w u) {C:Array Value} (hg:u.heap[g]?=some (.cells C 59 (0,0))) (m:Bt g u v):Nt w v:=⟨Nat.le_trans h.1 m.size,fun i D s hi ht=>m.blk (h.2 i D s hi ht) (fun e=>by
 have h1:=h.2 i D s hi ht
 rw [e,hg] at h1
 injection h1 with h1
 injection h1 with _ h1 _
 exact ht h1.symm)⟩
theorem or_ne9 {k b:Nat} {w:World} {x:Value} {R:List (List Value)} (h:Or_ k 59 b w x R) {i:Nat} {D:Array Value} {s:TypeId} (hi:w.heap[i]?=some (.cells D s (0,0))) (hs:s≠59):some i≠x.ownBlock:=by
 intro e1
 rcases h.2.2 with ⟨e2,_⟩ | ⟨q,cap,cur,e2,_,h3,_⟩
 ·rw [e2] at e1; cases e1
 ·rw [e2] at e1
  injection e1 with e1
  dsimp only at e1
  rw [e1,h3] at hi
  injection hi with hi
  injection hi with _ hi _
  exact hs hi.symm
theorem Nt.gi {w u v:World} (h:Nt w u) {k b:Nat} {x:Value} {R:List (List Value)} (ho:Or_ k 59 b u x R) (g:u.grownBy v x.ownBlock):Nt w v:=⟨Nat.le_trans h.1 g.size,fun i D s hi ht=>by
 have h1:=h.2 i D s hi ht
 rw [g.block i (lt_of_block h1) ?_]
 ·exact h1
 ·intro e1
  exact or_ne9 ho h1 ht e1⟩
theorem Own.newI {b:Nat} {w:World} {c:Cm} {x:Lc} (h:Own b w c x):blkOf x.ah≠some w.heap.size:=or_new h.h
def dvH:Int→List It→Int × List It × List ByteArray
 | d,[]=>(d,[],[])
 | d,s::H=>if s.n=d then ((dvH (d+1) H).1,(dvH (d+1) H).2.1,s.s::(dvH (d+1) H).2.2) else (d,s::H,[])
def dvC (c:Cm):Cm:={ c with dl:=(dvH c.dl c.H).1,H:=(dvH c.dl c.H).2.1 }
def Dl (d:Int) (H:List It):Prop:=Srt H∧(∀ s ∈ H,d≤s.n)∧(0≤d∧d+H.length<4294967296)∧H.length≤1000
theorem Dl.tail {d:Int} {s:It} {H:List It} (h:Dl d (s::H)) (hs:s.n=d):Dl (d+1) H:=by
 refine ⟨fun k l s t hkl h1 h2=>h.1 (k+1) (l+1) s t (by omega) (by simpa using h1) (by simpa using h2),fun t ht=>?_,?_,?_⟩
 ·obtain ⟨l,hl,rfl⟩:=List.getElem_of_mem ht
  have:=h.1 0 (l+1) s H[l] (by omega) rfl (by simp [hl])
  omega
 ·have h1:=h.2.2.1
  simp only [List.length_cons] at h1
  omega
 ·have h1:=h.2.2.2
  simp only [List.length_cons] at h1
  omega
theorem Dl.one {d:Int} {H:List It} (h:Dl d H) {j:Nat} {s:It} (hj:H[j]?=some s) (hs:s.n=d):j=0:=by
 rcases Nat.eq_zero_or_pos j with h0 | h0
 ·exact h0
 ·have hl:=(List.getElem?_eq_some_iff.1 hj).1
  have h1:H[0]?=some (H[0]'(by omega)):=List.getElem?_eq_getElem (by omega)
  have h2:=h.1 0 j _ s h0 h1 hj
  have h3:=h.2.1 _ (List.mem_of_getElem? h1)
  omega
theorem dvH_stop {d:Int} {H:List It} (h:∀ s,H[0]?=some s→s.n≠d):dvH d H=(d,H,[]):=by
 cases H with
 | nil=>rfl
 | cons s H=>unfold dvH; rw [if_neg (h s rfl)]
theorem dvH_go {d:Int} {s:It} {H:List It} (hs:s.n=d):dvH d (s::H)=((dvH (d+1) H).1,(dvH (d+1) H).2.1,s.s::(dvH (d+1) H).2.2):=by
 conv=>lhs; unfold dvH
 rw [if_pos hs]
theorem Bl.lo {w0 w u:World} {L:List Blk} (h:Bl w L u) (g:Gr w0 w):Bl w0 L u:=⟨g.trans h.gr,fun x hx=>⟨(h.at_ x hx).1,Nat.le_trans g.size (h.at_ x hx).2⟩,h.ne⟩
def sliceLen:Value→Nat
 | .slice _ n _=>n
 | _=>0
set_option maxHeartbeats 4000000 in
theorem deliver_ok (c:Cm) (x:Lc) (w0:World) (w:World) (h0:Gr w0 w) (hO:Own w0.heap.size w c x) (nm:Nums c) (hd:Dl c.dl c.H):Calls Try.prog 30 #[.agg (fl [[.int .u32 c.nx],[.slice x.ao x.no x.co],[.int .i64 c.tn],[.int .u32 c.dl],[.slice x.ah x.nh x.ch]])] w (fun r w'=>∃ x' a' n' c',r=.returned (.tuple #[.agg (fl (cvs (dvC c) x')),.slice a' n' c'])∧Own w0.heap.size w' (dvC c) x'∧Or_ 1 9 w0.heap.size w' (.slice a' n' c') ((dvH c.dl c.H).2.2.map tr1)∧Nt w w'∧Gr w0 w'):=by
 obtain ⟨T,hT⟩:∃ T:Ending→World→Prop,T=(fun r w'=>∃ x' a' n' c',r=.returned (.tuple #[.agg (fl (cvs (dvC c) x')),.slice a' n' c'])∧Own w0.heap.size w' (dvC c) x'∧Or_ 1 9 w0.heap.size w' (.slice a' n' c') ((dvH c.dl c.H).2.2.map tr1)∧Nt w w'∧Gr w0 w'):=⟨_,rfl⟩
 rw [← hT]
 replace hT:=hide hT
 replace h0:=hide h0; replace hO:=hide hO; replace nm:=hide nm; replace hd:=hide hd
 obtain ⟨A0_,hA0_⟩:∃ S_,S_=fl [[.int .u32 c.nx],[.slice x.ao x.no x.co],[.int .i64 c.tn],[.int .u32 c.dl],[.slice x.ah x.nh x.ch]]:=⟨_,rfl⟩
 rw [← hA0_]
 replace hA0_:=hide hA0_
 go_enter Try.func30,Try.ntmps30
 go_upto_region 1 with fail
 have hB:=(((Bl.nil w).new A0_ 26).new (fl [[.int .u32 0],[.slice none 0 0],[.int .i64 0],[.int .u32 0],[.slice none 0 0]]) 26)
 simp only [size_alloc,List.nil_append,List.cons_append] at hB
 rw [unhide hA0_] at hB
 generalize hu_:World.alloc _ _=u0
 replace hB:Bl w [⟨w.heap.size,fl [[.int .u32 c.nx],[.slice x.ao x.no x.co],[.int .i64 c.tn],[.int .u32 c.dl],[.slice x.ah x.nh x.ch]],26⟩,⟨w.heap.size+1,fl [[.int .u32 0],[.slice none 0 0],[.int .i64 0],[.int .u32 0],[.slice none 0 0]],26⟩] u0:=by
  rw [← hu_]
  rw [unhide hA0_]
  exact hB
 clear hu_ hA0_
 have hNt:=hide ((Nt.refl w).gr hB.gr)
 replace hO:=hide ((unhide hO).gr hB.gr)
 have hw00:=(unhide h0).size
 replace hB:Bl w0 [⟨w.heap.size,fl [[.int .u32 c.nx],[.slice x.ao x.no x.co],[.int .i64 c.tn],[.int .u32 c.dl],[.slice x.ah x.nh x.ch]],26⟩,⟨w.heap.size+1,fl [[.int .u32 0],[.slice none 0 0],[.int .i64 0],[.int .u32 0],[.slice none 0 0]],26⟩] u0:=Bl.lo hB (unhide h0)
 have hL:=hide (or_none 1 9 w.heap.size u0)
 replace hB:=hide hB
 go_wp2_with fail
 refine wp_scope_straight ?_
 go_wp2_with fail
 refine wp_label ?_
 go_wp2_with fail
 go_loopw [3] (fun q wr=>∃ (d:Int) (H:List It) (xk:Lc) (tx:List ByteArray) (la:Option Addr) (ln lc:Nat),q=.slice la ln lc∧Hid (dvH c.dl c.H=((dvH d H).1,(dvH d H).2.1,tx++(dvH d H).2.2))∧Hid (Dl d H∧∀ s ∈ H,s.Ok)∧Hid (Bl w0 [⟨w.heap.size,fl [[.int .u32 c.nx],[.slice xk.ao xk.no xk.co],[.int .i64 c.tn],[.int .u32 d],[.slice xk.ah xk.nh xk.ch]],26⟩,⟨w.heap.size+1,fl [[.int .u32 0],[.slice none 0 0],[.int .i64 0],[.int .u32 0],[.slice none 0 0]],26⟩] wr)∧Hid (Own w0.heap.size wr { c with dl:=d,H:=H } xk)∧Hid (Or_ 1 9 w.heap.size wr (.slice la ln lc) (tx.map tr1))∧Hid (Nt w wr)∧H.length=c.H.length - tx.length∧tx.length≤c.H.length) (fun q _=>c.H.length - (sliceLen q))
 case atStart=>exact ⟨c.dl,c.H,x,[],none,0,0,rfl,hide (by simp),hide ⟨unhide hd,(unhide nm).H⟩,hB,hO,hL,hNt,by simp,by simp⟩
 case round =>
 clear hB hO hL hNt
 obtain ⟨d,H,xk,tx,la,ln,lc,rfl,hdv,hD,hB,hO,hL,hNt,hHl,htl⟩:=hrel
 have hB:=unhide hB
 have hnh:H.length=xk.nh:=by
  have h9:=(or_slice (unhide hO).h).1
  dsimp only at h9
  rw [List.length_map] at h9
  exact h9.symm
 have hch:=(or_slice (unhide hO).h).2.cap
 have hcm:=(or_slice (unhide hO).h).2.max
 have hln:=(or_slice (unhide hL)).1
 have hdr:=(unhide hD).1.2.2
 rw [List.length_map] at hln
 replace hln:=hide hln
 replace hB:=hide hB
 go_upto_region 1 with fail
 replace hB:=unhide hB
 refine wp_region_lit ?_
 refine lvk (.pointer (some ⟨w.heap.size,4,none⟩)) ?_
 simp only [nrm]
 refine list_val (.slice xk.ah xk.nh xk.ch) (by kernel_rfl) (exec_csI _ (.tmp 6) rfl (w.heap.size) 4 (by kernel_rfl) xk.ah xk.nh xk.ch (seg_cell (nC  _ _ _ _ _) (hB.get 0 (x:=⟨w.heap.size,fl [[.int .u32 c.nx],[.slice xk.ao xk.no xk.co],[.int .i64 c.tn],[.int .u32 d],[.slice xk.ah xk.nh xk.ch]],26⟩) rfl) 4 (v:=.slice xk.ah xk.nh xk.ch) rfl rfl)) ?_
 simp only [nrm]
 refine lvk (.int .i64 (xk.nh:Int)) ?_
 simp only [nrm]
 refine lvk (.int .i64 0) ?_
 simp only [nrm]
 refine wpList_nil ?_
 have hM:=hide (show 0<0→∀ s,H[0]?=some s→s.n≠d from fun h=>absurd h (by omega))
 replace hB:=hide hB
 go_wp2_with fail
 go_loopw [3,9] (fun q i wr=>∃ j:Nat,j≤xk.nh∧q=.slice la ln lc∧i=.int .i64 (j:Int)∧Hid (0<j→∀ s,H[0]?=some s→s.n≠d)∧Hid (Bl w0 [⟨w.heap.size,fl [[.int .u32 c.nx],[.slice xk.ao xk.no xk.co],[.int .i64 c.tn],[.int .u32 d],[.slice xk.ah xk.nh xk.ch]],26⟩,⟨w.heap.size+1,fl [[.int .u32 0],[.slice none 0 0],[.int .i64 0],[.int .u32 0],[.slice none 0 0]],26⟩] wr)∧Hid (Own w0.heap.size wr { c with dl:=d,H:=H } xk)∧Hid (Or_ 1 9 w.heap.size wr (.slice la ln lc) (tx.map tr1))∧Hid (Nt w wr)) (fun _ i _=>xk.nh - (intOf i).toNat)
 case atStart=>exact ⟨0,by omega,rfl,rfl,hide (fun h=>absurd h (by omega)),hB,hO,hL,hNt⟩
 case round =>
 clear hB hO hL hNt hM
 obtain ⟨j,hj,rfl,rfl,hM,hB,hO,hL,hNt⟩:=hrel
 have hB:=unhide hB
 by_cases hlt:j<xk.nh
 ·have jI:(j:Int)<(xk.nh:Int):=by omega
  obtain ⟨s,hsj⟩:∃ s,H[j]?=some s:=⟨_,List.getElem?_eq_getElem (by omega)⟩
  have hIL:IL _ xk.ah xk.nh xk.ch H:=⟨(unhide hD).2,(or_slice (unhide hO).h).2⟩
  have hok:=hIL.ok j s hsj
  obtain ⟨p,o,ha,hr⟩:=hIL.at_ j s hsj
  clear hIL
  replace hr:=hide hr; replace hsj:=hide hsj; replace ha:=hide ha; replace hok:=hide hok
  replace hB:=hide hB
  go_upto_region 3 with fail
  replace hB:=unhide hB
  refine wp_region_lit ?_
  refine lvk (.int .i64 (j:Int)) ?_
  simp only [nrm]
  refine list_val (.pointer (some ⟨p,o+2 * j,none⟩)) (by kernel_rfl) (exec_isi _ (.tmp 7) (.tmp 9) rfl p o xk.nh xk.ch j (by rw [← unhide ha]; kernel_rfl) (by kernel_rfl) hlt) ?_
  simp only [nrm]
  refine list_val (.agg (fl [[.int .u32 s.n],[.string s.s]])) (by kernel_rfl) (exec_li _ (.tmp 12) rfl p (o+2 * j) (by kernel_rfl) s (unhide hr)) ?_
  simp only [nrm]
  have hne5:=(unhide hO).newI
  refine list_valw (.pointer (some ⟨wr.heap.size,0,none⟩)) (wr.alloc (.cells (fl [[.int .u32 0],[.string ByteArray.empty]]) 59 (0,0))) (by kernel_rfl) (by kernel_rfl) ?_
  replace hB:=hB.new (fl [[.int .u32 0],[.string ByteArray.empty]]) 59
  simp only [List.nil_append,List.cons_append] at hB
  have hg:=(Gr.refl wr).alloc (.cells (fl [[.int .u32 0],[.string ByteArray.empty]]) 59 (0,0))
  replace hO:=hide ((unhide hO).gr hg)
  replace hL:=hide ((unhide hL).gr hg)
  replace hNt:=hide ((unhide hNt).gr hg)
  clear hg
  generalize World.alloc _ _=u1 at *
  generalize wr.heap.size=g5 at *
  simp only [nrm]
  (refine wpList_step fun K hK=>?_; replace hK:=hide hK; go_simp; refine unhide hK _ _ ?_; clear hK K)
  have hzz_:Hid (u1.heap[g5]?=some (.cells (fl [[.int .u32 0],[.string ByteArray.empty]]) 59 (0,0))):=hide (hB.get 2 (x:=⟨g5,fl [[.int .u32 0],[.string ByteArray.empty]],59⟩) rfl)
  refine list_all 59 (.tmp 5) (.tmp 13) (g5) (S2:=[[.int .u32 s.n],[.string s.s]]) (by kernel_rfl) rfl (by kernel_rfl) (by kernel_rfl) hB 2 rfl NI (nI  _ _) (nI  _ _) (by kernel_rfl) (oI  rfl rfl) ?_
  intro u2 hB_ hbt_
  clear hB
  replace hB:Bl w0 [⟨w.heap.size,fl [[.int .u32 c.nx],[.slice xk.ao xk.no xk.co],[.int .i64 c.tn],[.int .u32 d],[.slice xk.ah xk.nh xk.ch]],26⟩,⟨w.heap.size+1,fl [[.int .u32 0],[.slice none 0 0],[.int .i64 0],[.int .u32 0],[.slice none 0 0]],26⟩,⟨g5,fl [[.int .u32 s.n],[.string s.s]],59⟩] u2:=hB_
  clear hB_
  replace hO:=hide ((unhide hO).bkI (unhide hzz_) hbt_ hne5)
  replace hL:=hide ((unhide hL).bz (unhide hzz_) hbt_)
  replace hNt:=hide ((unhide hNt).bi (unhide hzz_) hbt_ )
  clear hbt_ hzz_
  simp only [nrm]
  refine wpList_nil ?_
  clear hr ha hne5
  by_cases hm:s.n=d
  ·have hj0:=(unhide hD).1.one (unhide hsj) hm
   subst hj0
   obtain ⟨H2,rfl⟩:∃ H2,H=s::H2:=by
    have h9:=unhide hsj
    cases H with
    | nil=>simp at h9
    | cons t H2=>simp only [List.getElem?_cons_zero,Option.some.injEq] at h9; exact ⟨H2,by rw [h9]⟩
   have hl2:H2.length+1=xk.nh:=by rw [← hnh]; rfl
   replace hB:=hide hB
   go_upto_region 4 with fail
   replace hB:=unhide hB
   refine wp_region_lit ?_
   refine lvk (.pointer (some ⟨g5,0,none⟩)) ?_
   simp only [nrm]
   refine list_val (.int .u32 s.n) (by kernel_rfl) (exec_c32 _ (.tmp 14) rfl (g5) 0 (by kernel_rfl) s.n (seg_cell (nI  _ _) (hB.get 2 (x:=⟨g5,fl [[.int .u32 s.n],[.string s.s]],59⟩) rfl) 0 (v:=.int .u32 s.n) rfl rfl)) ?_
   simp only [nrm]
   refine lvk (.pointer (some ⟨w.heap.size,3,none⟩)) ?_
   simp only [nrm]
   refine list_val (.int .u32 d) (by kernel_rfl) (exec_c32 _ (.tmp 16) rfl (w.heap.size) 3 (by kernel_rfl) d (seg_cell (nC  _ _ _ _ _) (hB.get 0 (x:=⟨w.heap.size,fl [[.int .u32 c.nx],[.slice xk.ao xk.no xk.co],[.int .i64 c.tn],[.int .u32 d],[.slice xk.ah xk.nh xk.ch]],26⟩) rfl) 3 (v:=.int .u32 d) rfl rfl)) ?_
   simp only [nrm]
   refine list_val (.bool true) (by kernel_rfl) (eql_32 _ (.tmp 15) (.tmp 17) s.n d true rfl (by kernel_rfl) (by kernel_rfl) (decide_eq_true hm)) ?_
   simp only [nrm]
   refine wpList_nil ?_
   replace hB:=hide hB
   go_upto_region 5 with fail
   replace hB:=unhide hB
   refine wp_region_lit ?_
   refine lvk (.slice la ln lc) ?_
   simp only [nrm]
   refine lvk (.pointer (some ⟨g5,1,none⟩)) ?_
   simp only [nrm]
   refine list_val (.string s.s) (by kernel_rfl) (exec_cst _ (.tmp 20) rfl (g5) 1 (by kernel_rfl) s.s (seg_cell (nI  _ _) (hB.get 2 (x:=⟨g5,fl [[.int .u32 s.n],[.string s.s]],59⟩) rfl) 1 (v:=.string s.s) rfl rfl)) ?_
   simp only [nrm]
   refine list_valw (.slice (some ⟨u2.heap.size,0,none⟩) 1 1) (u2.alloc (.cells #[.string s.s] 9 (0,0))) (by kernel_rfl) (exec_bss _ (.tmp 21) rfl s.s (by kernel_rfl)) ?_
   have hS:=hide (blk_new u2 (.cells #[.string s.s] 9 (0,0)))
   have hg:=(Gr.refl u2).alloc (.cells #[.string s.s] 9 (0,0))
   replace hO:=hide ((unhide hO).gr hg)
   replace hL:=hide ((unhide hL).gr hg)
   replace hNt:=hide ((unhide hNt).gr hg)
   replace hB:=hB.more hg
   clear hg
   generalize World.alloc _ _=u3 at *
   generalize u2.heap.size=gs at *
   simp only [nrm]
   have hls:Lz 1 u3 (some ⟨gs,0,none⟩) 1 1 [tr1 s.s]:=⟨rfl,by intro r_ hr_; obtain rfl:=List.mem_singleton.1 hr_; rfl,.inr ⟨gs,0,rfl,by rw [List.flatten_cons,List.flatten_nil,List.append_nil]; exact range_row (unhide hS)⟩,by omega,by omega⟩
   refine wpList_step fun K hK=>?_
   rw [if_pos (by kernel_rfl)]
   refine app_rowsW ltS (.tmp 19) (.tmp 22) rfl w.heap.size _ (tx.map tr1) (by kernel_rfl) (unhide hL) (some ⟨gs,0,none⟩) 1 1 [tr1 s.s] (by kernel_rfl) hls (by
    intro r_ hr_ u_ hu_
    obtain rfl:=List.mem_singleton.1 hr_
    obtain rfl:=List.mem_singleton.1 hu_
    rfl) (by rw [List.length_map]; have h9:=(unhide hd).2.2.2; omega) (unhide hNt).1 ?_
   intro v1 u4 hL1 hgr
   refine hK _ _ ?_
   clear hK K hls hS
   replace hB:=hB.grownR (unhide hL) hw00 hgr (by intro y_ hy_; simp only [List.mem_cons,List.not_mem_nil,or_false] at hy_; rcases hy_ with rfl | rfl | rfl <;> (dsimp only; decide))
   replace hO:=hide (show Own w0.heap.size u4 { c with dl:=d,H:=s::H2 } xk from ⟨or_grown (unhide hO).o (unhide hL) hgr (by decide),or_grown (unhide hO).h (unhide hL) hgr (by decide)⟩)
   replace hNt:=hide ((unhide hNt).go (unhide hL) (Nat.le_refl _) hgr)
   clear hL hgr
   have e1:tx.map tr1++[tr1 s.s]=(tx++[s.s]).map tr1:=by simp
   rw [e1] at hL1
   obtain ⟨l8,c8,rfl,hls8⟩:=hL1.lz
   clear e1 hls8
   have e2:((tx++[s.s]).map tr1).length=tx.length+1:=by simp
   rw [e2] at hL1 ⊢
   have hL:=hide hL1
   clear hL1 e2
   simp only [nrm]
   (refine wpList_step fun K hK=>?_; replace hK:=hide hK; go_simp; refine unhide hK _ _ ?_; clear hK K)
   refine wpList_nil ?_
   replace hB:=Bl.left (L:=[⟨w.heap.size,fl [[.int .u32 c.nx],[.slice xk.ao xk.no xk.co],[.int .i64 c.tn],[.int .u32 d],[.slice xk.ah xk.nh xk.ch]],26⟩,⟨w.heap.size+1,fl [[.int .u32 0],[.slice none 0 0],[.int .i64 0],[.int .u32 0],[.slice none 0 0]],26⟩]) (M:=[⟨g5,fl [[.int .u32 s.n],[.string s.s]],59⟩]) hB
   replace hB:=hide hB
   go_upto_region 6 with fail
   replace hB:=unhide hB
   refine wp_region_lit ?_
   refine lvk (.pointer (some ⟨w.heap.size,4,none⟩)) ?_
   simp only [nrm]
   refine list_val (.slice xk.ah xk.nh xk.ch) (by kernel_rfl) (exec_csI _ (.tmp 24) rfl (w.heap.size) 4 (by kernel_rfl) xk.ah xk.nh xk.ch (seg_cell (nC  _ _ _ _ _) (hB.get 0 (x:=⟨w.heap.size,fl [[.int .u32 c.nx],[.slice xk.ao xk.no xk.co],[.int .i64 c.tn],[.int .u32 d],[.slice xk.ah xk.nh xk.ch]],26⟩) rfl) 4 (v:=.slice xk.ah xk.nh xk.ch) rfl rfl)) ?_
   simp only [nrm]
   refine lvk (.int .i64 ((0:Nat):Int)) ?_
   simp only [nrm]
   refine lvk (.int .i64 ((0:Nat):Int)) ?_
   simp only [nrm]
   refine lvk (.int .i64 1) ?_
   simp only [nrm]
   refine list_call 36 #[.slice xk.ah xk.nh xk.ch,.int .i64 0,.int .i64 1] (by kernel_rfl) (by kernel_rfl) ((delete_ok _ xk.ah xk.nh xk.ch w0.heap.size (by have h9:=(unhide hd).2.2.2; omega) (by omega) u4 (unhide hO).h (fun r_ hr_ u_ hu_=>(by obtain ⟨s_,_,rfl⟩:=List.mem_map.1 hr_; exact itr_one s_ u_ hu_))).mono ?_)
   rintro r_ u5 ⟨a9,c9,rfl,hO9,hgr⟩
   replace hB:=hB.grownR (unhide hO).h (Nat.le_refl _) hgr (by intro y_ hy_; simp only [List.mem_cons,List.not_mem_nil,or_false] at hy_; rcases hy_ with rfl | rfl <;> (dsimp only; decide))
   replace hL:=hide (or_grown (unhide hL) (unhide hO).h hgr (by decide))
   replace hNt:=hide ((unhide hNt).gi (unhide hO).h hgr)
   replace hO:=hide (show Own w0.heap.size u5 { c with dl:=d,H:=H2 } ⟨xk.ao,xk.no,xk.co,a9,xk.nh - 1,c9⟩ from ⟨or_grown (unhide hO).o (unhide hO).h hgr (by decide),hO9⟩)
   clear hgr hO9
   refine ⟨_,rfl,?_⟩
   simp only [nrm]
   refine lvk (.pointer (some ⟨w.heap.size,4,none⟩)) ?_
   simp only [nrm]
   have hzz_:Hid (u5.heap[w.heap.size]?=some (.cells (fl [[.int .u32 c.nx],[.slice xk.ao xk.no xk.co],[.int .i64 c.tn],[.int .u32 d],[.slice xk.ah xk.nh xk.ch]]) 26 (0,0))):=hide (hB.get 0 (x:=⟨w.heap.size,fl [[.int .u32 c.nx],[.slice xk.ao xk.no xk.co],[.int .i64 c.tn],[.int .u32 d],[.slice xk.ah xk.nh xk.ch]],26⟩) rfl)
   refine list_csI (.tmp 30) (.tmp 29) (w.heap.size) 4 a9 (xk.nh - 1) c9 (by kernel_rfl) rfl (by kernel_rfl) (by kernel_rfl) hB 0 rfl NC (nC  _ _ _ _ _) 4 _ rfl rfl ?_
   intro u6 hB_ hbt_
   clear hB
   replace hB:Bl w0 [⟨w.heap.size,fl [[.int .u32 c.nx],[.slice xk.ao xk.no xk.co],[.int .i64 c.tn],[.int .u32 d],[.slice a9 (xk.nh - 1) c9]],26⟩,⟨w.heap.size+1,fl [[.int .u32 0],[.slice none 0 0],[.int .i64 0],[.int .u32 0],[.slice none 0 0]],26⟩] u6:=hB_
   clear hB_
   replace hO:=hide ((unhide hO).bz (unhide hzz_) hbt_)
   replace hL:=hide ((unhide hL).bz (unhide hzz_) hbt_)
   replace hNt:=hide ((unhide hNt).bn (unhide hzz_) hbt_ (Nat.le_refl _))
   clear hbt_ hzz_
   simp only [nrm]
   refine wpList_nil ?_
   replace hB:=hide hB
   go_upto_region 7 with fail
   replace hB:=unhide hB
   refine wp_region_lit ?_
   refine lvk (.pointer (some ⟨w.heap.size,3,none⟩)) ?_
   simp only [nrm]
   refine list_val (.int .u32 d) (by kernel_rfl) (exec_c32 _ (.tmp 31) rfl (w.heap.size) 3 (by kernel_rfl) d (seg_cell (nC  _ _ _ _ _) (hB.get 0 (x:=⟨w.heap.size,fl [[.int .u32 c.nx],[.slice xk.ao xk.no xk.co],[.int .i64 c.tn],[.int .u32 d],[.slice a9 (xk.nh - 1) c9]],26⟩) rfl) 3 (v:=.int .u32 d) rfl rfl)) ?_
   simp only [nrm]
   refine list_val (.int .u32 (d+1)) (by kernel_rfl) (add_32 _ (.tmp 32) (.const (.int .u32 1)) d 1 rfl (by kernel_rfl) (by kernel_rfl) _ rfl (by simp only [List.length_cons] at hdr; omega)) ?_
   simp only [nrm]
   refine lvk (.pointer (some ⟨w.heap.size,3,none⟩)) ?_
   simp only [nrm]
   have hzz_:Hid (u6.heap[w.heap.size]?=some (.cells (fl [[.int .u32 c.nx],[.slice xk.ao xk.no xk.co],[.int .i64 c.tn],[.int .u32 d],[.slice a9 (xk.nh - 1) c9]]) 26 (0,0))):=hide (hB.get 0 (x:=⟨w.heap.size,fl [[.int .u32 c.nx],[.slice xk.ao xk.no xk.co],[.int .i64 c.tn],[.int .u32 d],[.slice a9 (xk.nh - 1) c9]],26⟩) rfl)
   refine list_c32 (.tmp 34) (.tmp 33) (w.heap.size) 3 (d+1) (by kernel_rfl) rfl (by kernel_rfl) (by kernel_rfl) hB 0 rfl NC (nC  _ _ _ _ _) 3 _ rfl rfl ?_
   intro u7 hB_ hbt_
   clear hB
   replace hB:Bl w0 [⟨w.heap.size,fl [[.int .u32 c.nx],[.slice xk.ao xk.no xk.co],[.int .i64 c.tn],[.int .u32 (d+1)],[.slice a9 (xk.nh - 1) c9]],26⟩,⟨w.heap.size+1,fl [[.int .u32 0],[.slice none 0 0],[.int .i64 0],[.int .u32 0],[.slice none 0 0]],26⟩] u7:=hB_
   clear hB_
   replace hO:=hide ((unhide hO).bz (unhide hzz_) hbt_)
   replace hL:=hide ((unhide hL).bz (unhide hzz_) hbt_)
   replace hNt:=hide ((unhide hNt).bn (unhide hzz_) hbt_ (Nat.le_refl _))
   clear hbt_ hzz_
   simp only [nrm]
   refine wpList_nil ?_
   replace hO:=hide (show Own w0.heap.size u7 { c with dl:=d+1,H:=H2 } ⟨xk.ao,xk.no,xk.co,a9,xk.nh - 1,c9⟩ from ⟨(unhide hO).o,(unhide hO).h⟩)
   have hdv2:Hid (dvH c.dl c.H=((dvH (d+1) H2).1,(dvH (d+1) H2).2.1,(tx++[s.s])++(dvH (d+1) H2).2.2)):=hide (by rw [unhide hdv,dvH_go hm]; simp)
   have hD2:Hid (Dl (d+1) H2∧∀ s ∈ H2,s.Ok):=hide ⟨(unhide hD).1.tail hm,fun t ht=>(unhide hD).2 t (List.mem_cons_of_mem _ ht)⟩
   replace hB:=hide hB
   have hHl2:H2.length=c.H.length - (tx++[s.s]).length:=by simp only [List.length_cons] at hHl; rw [List.length_append,List.length_singleton]; omega
   have htl2:(tx++[s.s]).length≤c.H.length:=by simp only [List.length_cons] at hHl; rw [List.length_append,List.length_singleton]; omega
   have hlnx:=unhide hln
   clear hsj hok hM hdv hD hm
   go_wp2_with fail
   go_roundw
   case rel=>exact ⟨d+1,H2,⟨xk.ao,xk.no,xk.co,a9,xk.nh - 1,c9⟩,tx++[s.s],l8,tx.length+1,c8,rfl,hdv2,hD2,hB,hO,hL,hNt,hHl2,htl2⟩
   case measure=>simp only [sliceLen]; rw [List.length_append,List.length_singleton] at htl2; omega
  ·have hM2:Hid (0<j+1→∀ s,H[0]?=some s→s.n≠d):=hide (fun _ t ht=>by
    rcases Nat.eq_zero_or_pos j with h9 | h9
    ·subst h9
     have h8:=ht.symm.trans (unhide hsj)
     injection h8 with h8
     rw [h8]; exact hm
    ·exact (unhide hM) h9 t ht)
   replace hB:=hide hB
   go_upto_region 4 with fail
   replace hB:=unhide hB
   refine wp_region_lit ?_
   refine lvk (.pointer (some ⟨g5,0,none⟩)) ?_
   simp only [nrm]
   refine list_val (.int .u32 s.n) (by kernel_rfl) (exec_c32 _ (.tmp 14) rfl (g5) 0 (by kernel_rfl) s.n (seg_cell (nI  _ _) (hB.get 2 (x:=⟨g5,fl [[.int .u32 s.n],[.string s.s]],59⟩) rfl) 0 (v:=.int .u32 s.n) rfl rfl)) ?_
   simp only [nrm]
   refine lvk (.pointer (some ⟨w.heap.size,3,none⟩)) ?_
   simp only [nrm]
   refine list_val (.int .u32 d) (by kernel_rfl) (exec_c32 _ (.tmp 16) rfl (w.heap.size) 3 (by kernel_rfl) d (seg_cell (nC  _ _ _ _ _) (hB.get 0 (x:=⟨w.heap.size,fl [[.int .u32 c.nx],[.slice xk.ao xk.no xk.co],[.int .i64 c.tn],[.int .u32 d],[.slice xk.ah xk.nh xk.ch]],26⟩) rfl) 3 (v:=.int .u32 d) rfl rfl)) ?_
   simp only [nrm]
   refine list_val (.bool false) (by kernel_rfl) (eql_32 _ (.tmp 15) (.tmp 17) s.n d false rfl (by kernel_rfl) (by kernel_rfl) (decide_eq_false hm)) ?_
   simp only [nrm]
   refine wpList_nil ?_
   replace hB:=Bl.left (L:=[⟨w.heap.size,fl [[.int .u32 c.nx],[.slice xk.ao xk.no xk.co],[.int .i64 c.tn],[.int .u32 d],[.slice xk.ah xk.nh xk.ch]],26⟩,⟨w.heap.size+1,fl [[.int .u32 0],[.slice none 0 0],[.int .i64 0],[.int .u32 0],[.slice none 0 0]],26⟩]) (M:=[⟨g5,fl [[.int .u32 s.n],[.string s.s]],59⟩]) hB
   have jw:IntKind.i64.wrap ((j:Int)+1)=(j:Int)+1:=by rw [IntKind.wrap_i64]; omega
   replace hB:=hide hB
   clear hsj hok hM hm
   go_wp2_with fail
   go_roundw
   case rel=>exact ⟨j+1,by omega,rfl,by simp,hM2,hB,hO,hL,hNt⟩
   case measure=>simp [intOf]; omega
 ·have jI:¬ (j:Int)<(xk.nh:Int):=by omega
  have hst:=dvH_stop (d:=d) (H:=H) (fun s hs=>(by
   rcases Nat.eq_zero_or_pos j with h9 | h9
   ·have h8:=(List.getElem?_eq_some_iff.1 hs).1
    omega
   ·exact (unhide hM) h9 s hs))
  replace hst:=hide hst
  clear hM
  replace hB:=hide hB
  go_upto_region 9 with fail
  replace hB:=unhide hB
  refine wp_region_lit ?_
  refine list_val (.agg (fl [[.int .u32 c.nx],[.slice xk.ao xk.no xk.co],[.int .i64 c.tn],[.int .u32 d],[.slice xk.ah xk.nh xk.ch]])) (by kernel_rfl) (exec_sw _ 26 (.tmp 1) rfl (w.heap.size) (by kernel_rfl) (hB.get 0 (x:=⟨w.heap.size,fl [[.int .u32 c.nx],[.slice xk.ao xk.no xk.co],[.int .i64 c.tn],[.int .u32 d],[.slice xk.ah xk.nh xk.ch]],26⟩) rfl) NC (nC  _ _ _ _ _) Try.underlying26 rfl (by kernel_rfl)) ?_
  simp only [nrm]
  refine lvk (.slice la ln lc) ?_
  simp only [nrm]
  have hzz_:Hid (wr.heap[w.heap.size+1]?=some (.cells (fl [[.int .u32 0],[.slice none 0 0],[.int .i64 0],[.int .u32 0],[.slice none 0 0]]) 26 (0,0))):=hide (hB.get 1 (x:=⟨w.heap.size+1,fl [[.int .u32 0],[.slice none 0 0],[.int .i64 0],[.int .u32 0],[.slice none 0 0]],26⟩) rfl)
  refine list_all 26 (.tmp 2) (.tmp 36) (w.heap.size+1) (S2:=[[.int .u32 c.nx],[.slice xk.ao xk.no xk.co],[.int .i64 c.tn],[.int .u32 d],[.slice xk.ah xk.nh xk.ch]]) (by kernel_rfl) rfl (by kernel_rfl) (by kernel_rfl) hB 1 rfl NC (nC  _ _ _ _ _) (nC  _ _ _ _ _) (by kernel_rfl) (oC  rfl rfl rfl rfl rfl) ?_
  intro u3 hB_ hbt_
  clear hB
  replace hB:Bl w0 [⟨w.heap.size,fl [[.int .u32 c.nx],[.slice xk.ao xk.no xk.co],[.int .i64 c.tn],[.int .u32 d],[.slice xk.ah xk.nh xk.ch]],26⟩,⟨w.heap.size+1,fl [[.int .u32 c.nx],[.slice xk.ao xk.no xk.co],[.int .i64 c.tn],[.int .u32 d],[.slice xk.ah xk.nh xk.ch]],26⟩] u3:=hB_
  clear hB_
  replace hO:=hide ((unhide hO).bz (unhide hzz_) hbt_)
  replace hL:=hide ((unhide hL).bz (unhide hzz_) hbt_)
  replace hNt:=hide ((unhide hNt).bn (unhide hzz_) hbt_ (Nat.le_succ _))
  clear hbt_ hzz_
  simp only [nrm]
  (refine wpList_step fun K hK=>?_; replace hK:=hide hK; go_simp; refine unhide hK _ _ ?_; clear hK K)
  refine wpList_nil ?_
  have hf:=unhide hdv
  rw [unhide hst] at hf
  have e1:dvC c={ c with dl:=d,H:=H }:=by unfold dvC; rw [hf]
  have e2:(dvH c.dl c.H).2.2=tx:=by rw [hf]; simp
  clear hf
  replace e1:=hide e1; replace e2:=hide e2
  replace hB:=hide hB
  go_wp2_with fail
  replace hB:=unhide hB
  rw [unhide hT]
  rw [unhide e1]
  exact bodyPost_ret (v:=.tuple #[.agg (fl [[.int .u32 c.nx],[.slice xk.ao xk.no xk.co],[.int .i64 c.tn],[.int .u32 d],[.slice xk.ah xk.nh xk.ch]]),.slice la ln lc]) (res2 Try.results30 (rv_cell (by kernel_rfl) (hB.get 1 (x:=⟨w.heap.size+1,fl [[.int .u32 c.nx],[.slice xk.ao xk.no xk.co],[.int .i64 c.tn],[.int .u32 d],[.slice xk.ah xk.nh xk.ch]],26⟩) rfl) Try.underlying26 rfl (by rw [fl_size (nC  _ _ _ _ _)]; kernel_rfl)) (rv_tmp (by kernel_rfl))) rfl (⟨xk,la,ln,lc,rfl,(unhide hO),(by rw [unhide e2]; exact or_base (unhide hL) hw00),(unhide hNt),hB.gr⟩)
end Go.Proofs.Ytcefkkoombmndab
namespace Go.Proofs.Ytcefkkoombmndab
open Go.RowKit
set_option maxRecDepth 100000
set_option linter.unusedSimpArgs false
set_option linter.unusedVariables false
theorem Bl.dr {w v:World} {x y:Blk} {L:List Blk} (h:Bl w (x::y::L) v):Bl w (x::L) v :=
 ⟨h.gr,fun z hz=>h.at_ z (by rcases List.mem_cons.1 hz with h1 | h1; exact h1 ▸ List.mem_cons_self; exact List.mem_cons_of_mem _ (List.mem_cons_of_mem _ h1)),by
  have h1:=List.pairwise_cons.1 h.ne
  have h2:=List.pairwise_cons.1 h1.2
  exact List.pairwise_cons.2 ⟨fun z hz=>h1.1 z (List.mem_cons_of_mem _ hz),h2.2⟩⟩
theorem Bl.nt {w u v:World} {L:List Blk} (h:Bl w L u) (n:Nt u v) (g:Gr w v) (ht:∀ y ∈ L,y.t≠59):Bl w L v :=
 ⟨g,fun x hx=>⟨n.2 _ _ _ (h.at_ x hx).1 (ht x hx),(h.at_ x hx).2⟩,h.ne⟩
def insL (H:List It) (s:It):List It:=H.take (pos H s.n)++[s]++H.drop (pos H s.n)
def tkC (c:Cm) (s:It):Cm:={ c with H:=insL c.H s }
def tk (c:Cm) (s:It) (r:Int):Cm × List ByteArray × Int:=if unt c s r=0 then (dvC (tkC c s),(dvH c.dl (insL c.H s)).2.2,0) else (cz,[],unt c s r)
theorem srt_pw {H:List It} : Srt H ↔ H.Pairwise (fun s t=>s.n<t.n):=by
 rw [List.pairwise_iff_getElem]
 constructor
 ·intro h i j hi hj hij
  exact h i j _ _ hij (List.getElem?_eq_getElem hi) (List.getElem?_eq_getElem hj)
 ·intro h k l s t hkl h1 h2
  obtain ⟨a1,rfl⟩:=List.getElem?_eq_some_iff.1 h1
  obtain ⟨a2,rfl⟩:=List.getElem?_eq_some_iff.1 h2
  exact h k l a1 a2 hkl
theorem pos_lo {H:List It} {m:Int} {s:It} (h:s ∈ H.take (pos H m)):s.n<m:=by
 obtain ⟨i,hi,rfl⟩:=List.getElem_of_mem h
 rw [List.length_take] at hi
 have h1:i<pos H m:=by omega
 have h2:=List.not_of_lt_findIdx (p:=fun s:It=>decide (m≤s.n)) h1
 rw [List.getElem_take]
 simpa using h2
theorem pos_hi {H:List It} {m:Int} (hs:Srt H) (hn:isIn H m=false) {s:It} (h:s ∈ H.drop (pos H m)):m<s.n:=by
 obtain ⟨i,hi,rfl⟩:=List.getElem_of_mem h
 rw [List.length_drop] at hi
 rw [List.getElem_drop]
 have hp:pos H m<H.length:=by omega
 have h2:=List.findIdx_getElem (p:=fun s:It=>decide (m≤s.n)) (w:=hp)
 have h3:m≤(H[pos H m]'hp).n:=of_decide_eq_true h2
 have h4:H[pos H m+i].n≠m:=by
  unfold isIn at hn
  rw [List.any_eq_false] at hn
  have:=hn _ (List.getElem_mem (h:=show pos H m+i<H.length by omega))
  simpa using this
 rcases Nat.eq_zero_or_pos i with h5 | h5
 ·subst h5
  simp only [Nat.add_zero] at h4 ⊢
  omega
 ·have h6:=hs (pos H m) (pos H m+i) _ _ (by omega) (List.getElem?_eq_getElem hp) (List.getElem?_eq_getElem (show pos H m+i<H.length by omega))
  omega
theorem ins_srt {H:List It} {s:It} (hs:Srt H) (hn:isIn H s.n=false):Srt (insL H s):=by
 rw [srt_pw] at hs ⊢
 unfold insL
 rw [List.append_assoc,List.pairwise_append]
 refine ⟨hs.sublist (List.take_sublist _ _),?_,fun a ha b hb=>?_⟩
 ·rw [List.singleton_append,List.pairwise_cons]
  exact ⟨fun b hb=>pos_hi (srt_pw.2 hs) hn hb,hs.sublist (List.drop_sublist _ _)⟩
 ·have h1:=pos_lo ha
  rcases List.mem_append.1 hb with h | h
  ·rw [List.mem_singleton.1 h]; exact h1
  ·have:=pos_hi (srt_pw.2 hs) hn h
   omega
theorem ins_mem {H:List It} {s t:It} (h:t ∈ insL H s):t=s∨t ∈ H:=by
 unfold insL at h
 rcases List.mem_append.1 h with h | h
 ·rcases List.mem_append.1 h with h | h
  ·exact .inr (List.mem_of_mem_take h)
  ·exact .inl (List.mem_singleton.1 h)
 ·exact .inr (List.mem_of_mem_drop h)
theorem pos_le (H:List It) (m:Int):pos H m≤H.length:=List.findIdx_le_length
theorem ins_len (H:List It) (s:It):(insL H s).length=H.length+1:=by
 have h:=pos_le H s.n
 unfold insL
 simp only [List.length_append,List.length_take,List.length_drop,List.length_singleton]
 omega
theorem unt_0 {c:Cm} {s:It} {r:Int} (h:unt c s r=0):rt c=true∧wt c s.n r=true∧szB s.s=true:=by
 unfold unt at h
 split at h
 ·simp at h
 ·rename_i h1
  split at h
  ·simp at h
  ·rename_i h2
   split at h
   ·simp at h
   ·rename_i h3
    exact ⟨by simpa using h1,by simpa using h2,by simpa using h3⟩
theorem wt_t {c:Cm} {m r:Int} (h:wt c m r=true):c.dl≤m∧m<2147483648∧m - c.dl<min 4 r∧isIn c.H m=false:=by
 unfold wt at h
 simp only [Bool.and_eq_true,decide_eq_true_eq,Bool.not_eq_true'] at h
 exact ⟨h.2.1,h.2.2.1,h.2.2.2.1,h.2.2.2.2⟩
theorem tk_dl {c:Cm} {s:It} {r:Int} (n:Nums c) (h:unt c s r=0):Dl c.dl (insL c.H s):=by
 obtain ⟨h1,h2,h3⟩:=unt_0 h
 have h4:=wt_t h2
 have h5:=rt_le h1
 have h6:=n.dl
 refine ⟨ins_srt (rt_srt h1) h4.2.2.2,fun t ht=>?_,?_,?_⟩
 ·rcases ins_mem ht with rfl | h
  ·exact h4.1
  ·obtain ⟨k,hk,rfl⟩:=List.getElem_of_mem h
   have:=rises_lo _ _ _ (rt_rises h1) k _ (List.getElem?_eq_getElem hk)
   omega
 ·rw [ins_len]; omega
 ·rw [ins_len]; omega
theorem dvH_lt (d:Int) (h:d<4294967296):(dvH d []).1<4294967296:=h
theorem dvH_nums:∀ (H:List It) (d:Int),(∀ s ∈ H,s.Ok)→0≤d→d+H.length<4294967296→(∀ s ∈ (dvH d H).2.1,s.Ok)∧0≤(dvH d H).1∧(dvH d H).1<4294967296
 | [],d,h,h0,h1=>⟨h,h0,dvH_lt d (by simpa using h1)⟩
 | s::H,d,h,h0,h1=>by
  simp only [List.length_cons] at h1
  by_cases hs:s.n=d
  ·rw [dvH_go hs]
   exact dvH_nums H (d+1) (fun t ht=>h t (List.mem_cons_of_mem _ ht)) (by omega) (by omega)
  ·have:dvH d (s::H)=(d,s::H,[]):=by unfold dvH; rw [if_neg hs]
   rw [this]
   exact ⟨h,h0,by omega⟩
set_option maxHeartbeats 4000000 in
theorem take_ok (c:Cm) (x:Lc) (s:It) (r:Int) (w:World) (hc:Cin w c x) (hs:s.Ok):Calls Try.prog 22 #[.agg (fl [[.int .u32 c.nx],[.slice x.ao x.no x.co],[.int .i64 c.tn],[.int .u32 c.dl],[.slice x.ah x.nh x.ch]]),.agg (fl [[.int .u32 s.n],[.string s.s]]),.int .i64 r] w (fun r_ w'=>∃ x' a' n' c',r_=.returned (.tuple #[.agg (fl (cvs (tk c s r).1 x')),.slice a' n' c',.int .i64 (tk c s r).2.2])∧Cin w' (tk c s r).1 x'∧Owx w.heap.size w' x'∧Or_ 1 9 w.heap.size w' (.slice a' n' c') ((tk c s r).2.1.map tr1)∧Gr w w'):=by
 obtain ⟨T,hT⟩:∃ T:Ending→World→Prop,T=(fun r_ w'=>∃ x' a' n' c',r_=.returned (.tuple #[.agg (fl (cvs (tk c s r).1 x')),.slice a' n' c',.int .i64 (tk c s r).2.2])∧Cin w' (tk c s r).1 x'∧Owx w.heap.size w' x'∧Or_ 1 9 w.heap.size w' (.slice a' n' c') ((tk c s r).2.1.map tr1)∧Gr w w'):=⟨_,rfl⟩
 rw [← hT]
 replace hT:=hide hT
 have hn:=hc.o.len
 have hm:=hc.h.len
 replace hc:=hide hc
 obtain ⟨A0_,hA0_⟩:∃ S_,S_=fl [[.int .u32 c.nx],[.slice x.ao x.no x.co],[.int .i64 c.tn],[.int .u32 c.dl],[.slice x.ah x.nh x.ch]]:=⟨_,rfl⟩
 rw [← hA0_]
 replace hA0_:=hide hA0_
 obtain ⟨A1_,hA1_⟩:∃ S_,S_=fl [[.int .u32 s.n],[.string s.s]]:=⟨_,rfl⟩
 rw [← hA1_]
 replace hA1_:=hide hA1_
 go_enter Try.func22,Try.ntmps22
 go_upto_region 1 with fail
 have hB:=((((Bl.nil w).new A0_ 26).new A1_ 59).new (fl [[.int .u32 0],[.slice none 0 0],[.int .i64 0],[.int .u32 0],[.slice none 0 0]]) 26)
 simp only [size_alloc,List.nil_append,List.cons_append] at hB
 rw [unhide hA0_,unhide hA1_] at hB
 generalize hu_:World.alloc _ _=u0
 replace hB:Bl w [⟨w.heap.size,fl [[.int .u32 c.nx],[.slice x.ao x.no x.co],[.int .i64 c.tn],[.int .u32 c.dl],[.slice x.ah x.nh x.ch]],26⟩,⟨w.heap.size+1,fl [[.int .u32 s.n],[.string s.s]],59⟩,⟨w.heap.size+1+1,fl [[.int .u32 0],[.slice none 0 0],[.int .i64 0],[.int .u32 0],[.slice none 0 0]],26⟩] u0:=by
  rw [← hu_]
  rw [unhide hA0_,unhide hA1_]
  exact hB
 clear hu_ hA0_ hA1_
 refine wp_region_lit ?_
 refine list_val (.agg (fl [[.int .u32 c.nx],[.slice x.ao x.no x.co],[.int .i64 c.tn],[.int .u32 c.dl],[.slice x.ah x.nh x.ch]])) (by kernel_rfl) (exec_sw _ 26 (.tmp 3) rfl (w.heap.size) (by kernel_rfl) (hB.get 0 (x:=⟨w.heap.size,fl [[.int .u32 c.nx],[.slice x.ao x.no x.co],[.int .i64 c.tn],[.int .u32 c.dl],[.slice x.ah x.nh x.ch]],26⟩) rfl) NC (nC  _ _ _ _ _) Try.underlying26 rfl (by kernel_rfl)) ?_
 simp only [nrm]
 refine list_val (.agg (fl [[.int .u32 s.n],[.string s.s]])) (by kernel_rfl) (exec_sw _ 59 (.tmp 4) rfl (w.heap.size+1) (by kernel_rfl) (hB.get 1 (x:=⟨w.heap.size+1,fl [[.int .u32 s.n],[.string s.s]],59⟩) rfl) NI (nI  _ _) Try.underlying59 rfl (by kernel_rfl)) ?_
 simp only [nrm]
 refine lvk (.int .i64 r) ?_
 simp only [nrm]
 refine list_call 28 #[.agg (fl [[.int .u32 c.nx],[.slice x.ao x.no x.co],[.int .i64 c.tn],[.int .u32 c.dl],[.slice x.ah x.nh x.ch]]),.agg (fl [[.int .u32 s.n],[.string s.s]]),.int .i64 r] (by kernel_rfl) (by kernel_rfl) ((untaken_ok c x s r u0 ((unhide hc).gr hB.gr) hs).mono ?_)
 rintro r_ u1 ⟨rfl,hg⟩
 replace hB:=hB.more hg
 clear hg
 refine ⟨_,rfl,?_⟩
 simp only [nrm]
 (refine wpList_step fun K hK=>?_; replace hK:=hide hK; go_simp; refine unhide hK _ _ ?_; clear hK K)
 refine wpList_nil ?_
 by_cases h1:unt c s r=0
 rotate_left
 ·have hv:tk c s r=(cz,[],unt c s r):=by unfold tk; rw [if_neg h1]
  replace h1:=hide h1
  replace hB:=hide hB
  go_upto_region 2 with fail
  replace hB:=unhide hB
  refine wp_region_lit ?_
  refine lvk (.int .i64 (unt c s r)) ?_
  simp only [nrm]
  refine list_val (.bool true) (by kernel_rfl) (neq_e _ (.tmp 17) (.const (.int .i64 0)) (unt c s r) 0 true rfl (by kernel_rfl) (by kernel_rfl) (decide_eq_true (unhide h1))) ?_
  simp only [nrm]
  refine wpList_nil ?_
  replace hB:=hide hB
  go_upto_region 3 with fail
  replace hB:=unhide hB
  refine wp_region_lit ?_
  refine list_val (.agg (fl [[.int .u32 0],[.slice none 0 0],[.int .i64 0],[.int .u32 0],[.slice none 0 0]])) (by kernel_rfl) (bC _ rfl) ?_
  simp only [nrm]
  refine lvk (.int .i64 (unt c s r)) ?_
  simp only [nrm]
  refine list_all 26 (.tmp 6) (.tmp 19) (w.heap.size+1+1) (S2:=[[.int .u32 0],[.slice none 0 0],[.int .i64 0],[.int .u32 0],[.slice none 0 0]]) (by kernel_rfl) rfl (by kernel_rfl) (by kernel_rfl) hB 2 rfl NC (nC  _ _ _ _ _) (nC  _ _ _ _ _) (by kernel_rfl) (oC  rfl rfl rfl rfl rfl) ?_
  intro u2 hB_ hbt_
  clear hB
  replace hB:Bl w [⟨w.heap.size,fl [[.int .u32 c.nx],[.slice x.ao x.no x.co],[.int .i64 c.tn],[.int .u32 c.dl],[.slice x.ah x.nh x.ch]],26⟩,⟨w.heap.size+1,fl [[.int .u32 s.n],[.string s.s]],59⟩,⟨w.heap.size+1+1,fl [[.int .u32 0],[.slice none 0 0],[.int .i64 0],[.int .u32 0],[.slice none 0 0]],26⟩] u2:=hB_
  clear hB_
  clear hbt_
  simp only [nrm]
  (refine wpList_step fun K hK=>?_; replace hK:=hide hK; go_simp; refine unhide hK _ _ ?_; clear hK K)
  (refine wpList_step fun K hK=>?_; replace hK:=hide hK; go_simp; refine unhide hK _ _ ?_; clear hK K)
  refine wpList_nil ?_
  replace hB:=hide hB
  go_wp2_with fail
  replace hB:=unhide hB
  rw [unhide hT]
  rw [hv]
  exact bodyPost_ret (v:=.tuple #[.agg (fl [[.int .u32 0],[.slice none 0 0],[.int .i64 0],[.int .u32 0],[.slice none 0 0]]),.slice none 0 0,.int .i64 (unt c s r)]) (res3 Try.results22 (rv_cell (by kernel_rfl) (hB.get 2 (x:=⟨w.heap.size+1+1,fl [[.int .u32 0],[.slice none 0 0],[.int .i64 0],[.int .u32 0],[.slice none 0 0]],26⟩) rfl) Try.underlying26 rfl (by rw [fl_size (nC  _ _ _ _ _)]; kernel_rfl)) (rv_tmp (by kernel_rfl)) (rv_tmp (by kernel_rfl))) rfl (⟨xz,none,0,0,rfl,cin_z _,owx_z _ _,or_none _ _ _ _,hB.gr⟩)
 have hv:tk c s r=(dvC (tkC c s),(dvH c.dl (insL c.H s)).2.2,0):=by unfold tk; rw [if_pos h1]
 have hdl:=tk_dl (unhide hc).nums h1
 have hu:=unt_0 h1
 have hle:=rt_le hu.1
 have hsr:=rt_srt hu.1
 have hnm:Nums (tkC c s):=⟨(unhide hc).nums.O,fun t ht=>(by rcases ins_mem ht with rfl | h; exact hs; exact (unhide hc).nums.H t h),(unhide hc).nx,(unhide hc).tn,(unhide hc).dl⟩
 have hnh3:x.nh≤3:=by rw [← hm]; exact hle.2.2
 have hno4:x.no≤4:=by rw [← hn]; exact hle.2.1.1
 clear hu hle hn
 replace hv:=hide hv; replace hdl:=hide hdl; replace hsr:=hide hsr; replace hnm:=hide hnm; replace h1:=hide h1
 replace hB:=hide hB
 go_upto_region 2 with fail
 replace hB:=unhide hB
 refine wp_region_lit ?_
 refine lvk (.int .i64 (unt c s r)) ?_
 simp only [nrm]
 refine list_val (.bool false) (by kernel_rfl) (neq_e _ (.tmp 17) (.const (.int .i64 0)) (unt c s r) 0 false rfl (by kernel_rfl) (by kernel_rfl) (by simp [unhide h1])) ?_
 simp only [nrm]
 refine wpList_nil ?_
 replace hB:=hide hB
 go_upto_region 4 with fail
 replace hB:=unhide hB
 have hb0:w.heap.size≤u1.heap.size:=hB.gr.size
 refine wp_region_lit ?_
 refine list_val (.agg (fl [[.int .u32 c.nx],[.slice x.ao x.no x.co],[.int .i64 c.tn],[.int .u32 c.dl],[.slice x.ah x.nh x.ch]])) (by kernel_rfl) (exec_sw _ 26 (.tmp 3) rfl (w.heap.size) (by kernel_rfl) (hB.get 0 (x:=⟨w.heap.size,fl [[.int .u32 c.nx],[.slice x.ao x.no x.co],[.int .i64 c.tn],[.int .u32 c.dl],[.slice x.ah x.nh x.ch]],26⟩) rfl) NC (nC  _ _ _ _ _) Try.underlying26 rfl (by kernel_rfl)) ?_
 simp only [nrm]
 refine list_call 18 #[.agg (fl [[.int .u32 c.nx],[.slice x.ao x.no x.co],[.int .i64 c.tn],[.int .u32 c.dl],[.slice x.ah x.nh x.ch]])] (by kernel_rfl) (by kernel_rfl) ((copied_ok c x u1 ((unhide hc).gr hB.gr) (by omega) (by omega)).mono ?_)
 rintro r_ u2 ⟨x1,rfl,hW,hn1,hh1,hg⟩
 replace hB:=hB.more hg
 clear hg
 replace hW:=hide (show Own w.heap.size u2 c x1 from ⟨or_base hW.o hb0,or_base hW.h hb0⟩)
 refine ⟨_,rfl,?_⟩
 simp only [nrm]
 have hzz_:Hid (u2.heap[w.heap.size]?=some (.cells (fl [[.int .u32 c.nx],[.slice x.ao x.no x.co],[.int .i64 c.tn],[.int .u32 c.dl],[.slice x.ah x.nh x.ch]]) 26 (0,0))):=hide (hB.get 0 (x:=⟨w.heap.size,fl [[.int .u32 c.nx],[.slice x.ao x.no x.co],[.int .i64 c.tn],[.int .u32 c.dl],[.slice x.ah x.nh x.ch]],26⟩) rfl)
 refine list_all 26 (.tmp 3) (.tmp 22) (w.heap.size) (S2:=[[.int .u32 c.nx],[.slice x1.ao x1.no x1.co],[.int .i64 c.tn],[.int .u32 c.dl],[.slice x1.ah x1.nh x1.ch]]) (by kernel_rfl) rfl (by kernel_rfl) (by kernel_rfl) hB 0 rfl NC (nC  _ _ _ _ _) (nC  _ _ _ _ _) (by kernel_rfl) (oC  rfl rfl rfl rfl rfl) ?_
 intro u3 hB_ hbt_
 clear hB
 replace hB:Bl w [⟨w.heap.size,fl [[.int .u32 c.nx],[.slice x1.ao x1.no x1.co],[.int .i64 c.tn],[.int .u32 c.dl],[.slice x1.ah x1.nh x1.ch]],26⟩,⟨w.heap.size+1,fl [[.int .u32 s.n],[.string s.s]],59⟩,⟨w.heap.size+1+1,fl [[.int .u32 0],[.slice none 0 0],[.int .i64 0],[.int .u32 0],[.slice none 0 0]],26⟩] u3:=hB_
 clear hB_
 replace hW:=hide ((unhide hW).bz (unhide hzz_) hbt_)
 clear hbt_ hzz_
 simp only [nrm]
 refine wpList_nil ?_
 replace hB:=hide hB
 go_upto_region 5 with fail
 replace hB:=unhide hB
 refine wp_region_lit ?_
 refine lvk (.pointer (some ⟨w.heap.size,4,none⟩)) ?_
 simp only [nrm]
 refine list_val (.slice x1.ah x1.nh x1.ch) (by kernel_rfl) (exec_csI _ (.tmp 24) rfl (w.heap.size) 4 (by kernel_rfl) x1.ah x1.nh x1.ch (seg_cell (nC  _ _ _ _ _) (hB.get 0 (x:=⟨w.heap.size,fl [[.int .u32 c.nx],[.slice x1.ao x1.no x1.co],[.int .i64 c.tn],[.int .u32 c.dl],[.slice x1.ah x1.nh x1.ch]],26⟩) rfl) 4 (v:=.slice x1.ah x1.nh x1.ch) rfl rfl)) ?_
 simp only [nrm]
 refine lvk (.pointer (some ⟨w.heap.size+1,0,none⟩)) ?_
 simp only [nrm]
 refine list_val (.int .u32 s.n) (by kernel_rfl) (exec_c32 _ (.tmp 26) rfl (w.heap.size+1) 0 (by kernel_rfl) s.n (seg_cell (nI  _ _) (hB.get 1 (x:=⟨w.heap.size+1,fl [[.int .u32 s.n],[.string s.s]],59⟩) rfl) 0 (v:=.int .u32 s.n) rfl rfl)) ?_
 simp only [nrm]
 refine list_call 23 #[.slice x1.ah x1.nh x1.ch,.int .u32 s.n] (by kernel_rfl) (by kernel_rfl) ((place_ok c.H s.n x1.ah x1.nh x1.ch (by omega) u3 ⟨(unhide hc).h.1,(or_slice (unhide hW).h).2⟩ (unhide hsr)).mono ?_)
 rintro r_ u4 ⟨rfl,hg⟩
 replace hW:=hide ((unhide hW).gr hg)
 replace hB:=hB.more hg
 clear hg
 refine ⟨_,rfl,?_⟩
 simp only [nrm]
 refine lvk (.tuple #[.int .i64 (pos c.H s.n:Int),.bool (isIn c.H s.n)]) ?_
 simp only [nrm]
 refine lvk (.int .i64 (pos c.H s.n:Int)) ?_
 simp only [nrm]
 refine lvk (.bool (isIn c.H s.n)) ?_
 simp only [nrm]
 (refine wpList_step fun K hK=>?_; replace hK:=hide hK; go_simp; refine unhide hK _ _ ?_; clear hK K)
 (refine wpList_step fun K hK=>?_; replace hK:=hide hK; go_simp; refine unhide hK _ _ ?_; clear hK K)
 refine wpList_nil ?_
 replace hB:=hide hB
 go_upto_region 6 with fail
 replace hB:=unhide hB
 refine wp_region_lit ?_
 refine lvk (.pointer (some ⟨w.heap.size,4,none⟩)) ?_
 simp only [nrm]
 refine list_val (.slice x1.ah x1.nh x1.ch) (by kernel_rfl) (exec_csI _ (.tmp 31) rfl (w.heap.size) 4 (by kernel_rfl) x1.ah x1.nh x1.ch (seg_cell (nC  _ _ _ _ _) (hB.get 0 (x:=⟨w.heap.size,fl [[.int .u32 c.nx],[.slice x1.ao x1.no x1.co],[.int .i64 c.tn],[.int .u32 c.dl],[.slice x1.ah x1.nh x1.ch]],26⟩) rfl) 4 (v:=.slice x1.ah x1.nh x1.ch) rfl rfl)) ?_
 simp only [nrm]
 refine lvk (.int .i64 (pos c.H s.n:Int)) ?_
 simp only [nrm]
 refine list_val (.agg (fl [[.int .u32 s.n],[.string s.s]])) (by kernel_rfl) (exec_sw _ 59 (.tmp 4) rfl (w.heap.size+1) (by kernel_rfl) (hB.get 1 (x:=⟨w.heap.size+1,fl [[.int .u32 s.n],[.string s.s]],59⟩) rfl) NI (nI  _ _) Try.underlying59 rfl (by kernel_rfl)) ?_
 simp only [nrm]
 refine list_valw (.slice (some ⟨u4.heap.size,0,none⟩) 1 1) (u4.alloc (.cells (fl [[.int .u32 s.n],[.string s.s]]) 59 (0,0))) (by kernel_rfl) (exec_bsi _ (.tmp 34) rfl s (by kernel_rfl)) ?_
 have hS:=hide (blk_new u4 (.cells (fl [[.int .u32 s.n],[.string s.s]]) 59 (0,0)))
 have hnS:=(unhide hW).newI
 have hg:=(Gr.refl u4).alloc (.cells (fl [[.int .u32 s.n],[.string s.s]]) 59 (0,0))
 replace hW:=hide ((unhide hW).gr hg)
 replace hB:=Bl.dr (hB.more hg)
 clear hg
 generalize World.alloc _ _=u5 at *
 generalize u4.heap.size=gs at *
 simp only [nrm]
 refine list_call 29 #[.slice x1.ah x1.nh x1.ch,.int .i64 (pos c.H s.n:Int),.slice (some ⟨gs,0,none⟩) 1 1] (by kernel_rfl) (by kernel_rfl) ((insert_ok (c.H.map itr) s x1.ah x1.nh x1.ch (pos c.H s.n) w.heap.size gs (by omega) (by have h9:=pos_le c.H s.n; omega) u5 (unhide hW).h (fun r_ hr_ u_ hu_=>(by obtain ⟨s_,_,rfl⟩:=List.mem_map.1 hr_; exact itr_one s_ u_ hu_)) hB.gr.size (unhide hS) hnS).mono ?_)
 rintro r_ u6 ⟨a9,c9,rfl,hO9,hgr⟩
 replace hB:=hB.grownR (unhide hW).h (Nat.le_refl _) hgr (by intro y_ hy_; simp only [List.mem_cons,List.not_mem_nil,or_false] at hy_; rcases hy_ with rfl | rfl <;> (dsimp only; decide))
 have e9:(c.H.map itr).take (pos c.H s.n)++[itr s]++(c.H.map itr).drop (pos c.H s.n)=(insL c.H s).map itr:=by unfold insL; simp
 rw [e9] at hO9
 replace hW:=hide (show Own w.heap.size u6 (tkC c s) ⟨x1.ao,x1.no,x1.co,a9,x1.nh+1,c9⟩ from ⟨or_grown (unhide hW).o (unhide hW).h hgr (by decide),hO9⟩)
 clear hgr hO9 e9 hS hnS
 refine ⟨_,rfl,?_⟩
 simp only [nrm]
 refine lvk (.pointer (some ⟨w.heap.size,4,none⟩)) ?_
 simp only [nrm]
 have hzz_:Hid (u6.heap[w.heap.size]?=some (.cells (fl [[.int .u32 c.nx],[.slice x1.ao x1.no x1.co],[.int .i64 c.tn],[.int .u32 c.dl],[.slice x1.ah x1.nh x1.ch]]) 26 (0,0))):=hide (hB.get 0 (x:=⟨w.heap.size,fl [[.int .u32 c.nx],[.slice x1.ao x1.no x1.co],[.int .i64 c.tn],[.int .u32 c.dl],[.slice x1.ah x1.nh x1.ch]],26⟩) rfl)
 refine list_csI (.tmp 37) (.tmp 36) (w.heap.size) 4 a9 (x1.nh+1) c9 (by kernel_rfl) rfl (by kernel_rfl) (by kernel_rfl) hB 0 rfl NC (nC  _ _ _ _ _) 4 _ rfl rfl ?_
 intro u7 hB_ hbt_
 clear hB
 replace hB:Bl w [⟨w.heap.size,fl [[.int .u32 c.nx],[.slice x1.ao x1.no x1.co],[.int .i64 c.tn],[.int .u32 c.dl],[.slice a9 (x1.nh+1) c9]],26⟩,⟨w.heap.size+1+1,fl [[.int .u32 0],[.slice none 0 0],[.int .i64 0],[.int .u32 0],[.slice none 0 0]],26⟩] u7:=hB_
 clear hB_
 replace hW:=hide ((unhide hW).bz (unhide hzz_) hbt_)
 clear hbt_ hzz_
 simp only [nrm]
 refine wpList_nil ?_
 replace hB:=hide hB
 go_upto_region 7 with fail
 replace hB:=unhide hB
 refine wp_region_lit ?_
 refine list_val (.agg (fl [[.int .u32 c.nx],[.slice x1.ao x1.no x1.co],[.int .i64 c.tn],[.int .u32 c.dl],[.slice a9 (x1.nh+1) c9]])) (by kernel_rfl) (exec_sw _ 26 (.tmp 3) rfl (w.heap.size) (by kernel_rfl) (hB.get 0 (x:=⟨w.heap.size,fl [[.int .u32 c.nx],[.slice x1.ao x1.no x1.co],[.int .i64 c.tn],[.int .u32 c.dl],[.slice a9 (x1.nh+1) c9]],26⟩) rfl) NC (nC  _ _ _ _ _) Try.underlying26 rfl (by kernel_rfl)) ?_
 simp only [nrm]
 refine list_call 30 #[.agg (fl [[.int .u32 c.nx],[.slice x1.ao x1.no x1.co],[.int .i64 c.tn],[.int .u32 c.dl],[.slice a9 (x1.nh+1) c9]])] (by kernel_rfl) (by kernel_rfl) ((deliver_ok (tkC c s) ⟨x1.ao,x1.no,x1.co,a9,x1.nh+1,c9⟩ w u7 hB.gr (unhide hW) (unhide hnm) (unhide hdl)).mono ?_)
 rintro r_ u8 ⟨x2,l8,n8,c8,rfl,hO2,hL2,hNt,hg9⟩
 replace hB:=hB.nt hNt hg9 (by intro y_ hy_; simp only [List.mem_cons,List.not_mem_nil,or_false] at hy_; rcases hy_ with rfl | rfl <;> (dsimp only; decide))
 clear hW hNt hg9
 have hW:=hide hO2
 have hL:=hide hL2
 clear hO2 hL2
 obtain ⟨e,he⟩:∃ e,e=dvC (tkC c s):=⟨_,rfl⟩
 rw [← he] at hW hv ⊢
 replace he:=hide he
 refine ⟨_,rfl,?_⟩
 simp only [nrm]
 refine lvk (.tuple #[.agg (fl [[.int .u32 e.nx],[.slice x2.ao x2.no x2.co],[.int .i64 e.tn],[.int .u32 e.dl],[.slice x2.ah x2.nh x2.ch]]),.slice l8 n8 c8]) ?_
 simp only [nrm]
 refine lvk (.agg (fl [[.int .u32 e.nx],[.slice x2.ao x2.no x2.co],[.int .i64 e.tn],[.int .u32 e.dl],[.slice x2.ah x2.nh x2.ch]])) ?_
 simp only [nrm]
 refine lvk (.slice l8 n8 c8) ?_
 simp only [nrm]
 have hzz_:Hid (u8.heap[w.heap.size]?=some (.cells (fl [[.int .u32 c.nx],[.slice x1.ao x1.no x1.co],[.int .i64 c.tn],[.int .u32 c.dl],[.slice a9 (x1.nh+1) c9]]) 26 (0,0))):=hide (hB.get 0 (x:=⟨w.heap.size,fl [[.int .u32 c.nx],[.slice x1.ao x1.no x1.co],[.int .i64 c.tn],[.int .u32 c.dl],[.slice a9 (x1.nh+1) c9]],26⟩) rfl)
 refine list_all 26 (.tmp 3) (.tmp 41) (w.heap.size) (S2:=[[.int .u32 e.nx],[.slice x2.ao x2.no x2.co],[.int .i64 e.tn],[.int .u32 e.dl],[.slice x2.ah x2.nh x2.ch]]) (by kernel_rfl) rfl (by kernel_rfl) (by kernel_rfl) hB 0 rfl NC (nC  _ _ _ _ _) (nC  _ _ _ _ _) (by kernel_rfl) (oC  rfl rfl rfl rfl rfl) ?_
 intro u9 hB_ hbt_
 clear hB
 replace hB:Bl w [⟨w.heap.size,fl [[.int .u32 e.nx],[.slice x2.ao x2.no x2.co],[.int .i64 e.tn],[.int .u32 e.dl],[.slice x2.ah x2.nh x2.ch]],26⟩,⟨w.heap.size+1+1,fl [[.int .u32 0],[.slice none 0 0],[.int .i64 0],[.int .u32 0],[.slice none 0 0]],26⟩] u9:=hB_
 clear hB_
 replace hW:=hide ((unhide hW).bz (unhide hzz_) hbt_)
 replace hL:=hide ((unhide hL).bz (unhide hzz_) hbt_)
 clear hbt_ hzz_
 simp only [nrm]
 (refine wpList_step fun K hK=>?_; replace hK:=hide hK; go_simp; refine unhide hK _ _ ?_; clear hK K)
 refine wpList_nil ?_
 replace hB:=hide hB
 go_upto_region 8 with fail
 replace hB:=unhide hB
 refine wp_region_lit ?_
 refine list_val (.agg (fl [[.int .u32 e.nx],[.slice x2.ao x2.no x2.co],[.int .i64 e.tn],[.int .u32 e.dl],[.slice x2.ah x2.nh x2.ch]])) (by kernel_rfl) (exec_sw _ 26 (.tmp 3) rfl (w.heap.size) (by kernel_rfl) (hB.get 0 (x:=⟨w.heap.size,fl [[.int .u32 e.nx],[.slice x2.ao x2.no x2.co],[.int .i64 e.tn],[.int .u32 e.dl],[.slice x2.ah x2.nh x2.ch]],26⟩) rfl) NC (nC  _ _ _ _ _) Try.underlying26 rfl (by kernel_rfl)) ?_
 simp only [nrm]
 refine lvk (.slice l8 n8 c8) ?_
 simp only [nrm]
 have hzz_:Hid (u9.heap[w.heap.size+1+1]?=some (.cells (fl [[.int .u32 0],[.slice none 0 0],[.int .i64 0],[.int .u32 0],[.slice none 0 0]]) 26 (0,0))):=hide (hB.get 1 (x:=⟨w.heap.size+1+1,fl [[.int .u32 0],[.slice none 0 0],[.int .i64 0],[.int .u32 0],[.slice none 0 0]],26⟩) rfl)
 refine list_all 26 (.tmp 6) (.tmp 43) (w.heap.size+1+1) (S2:=[[.int .u32 e.nx],[.slice x2.ao x2.no x2.co],[.int .i64 e.tn],[.int .u32 e.dl],[.slice x2.ah x2.nh x2.ch]]) (by kernel_rfl) rfl (by kernel_rfl) (by kernel_rfl) hB 1 rfl NC (nC  _ _ _ _ _) (nC  _ _ _ _ _) (by kernel_rfl) (oC  rfl rfl rfl rfl rfl) ?_
 intro u10 hB_ hbt_
 clear hB
 replace hB:Bl w [⟨w.heap.size,fl [[.int .u32 e.nx],[.slice x2.ao x2.no x2.co],[.int .i64 e.tn],[.int .u32 e.dl],[.slice x2.ah x2.nh x2.ch]],26⟩,⟨w.heap.size+1+1,fl [[.int .u32 e.nx],[.slice x2.ao x2.no x2.co],[.int .i64 e.tn],[.int .u32 e.dl],[.slice x2.ah x2.nh x2.ch]],26⟩] u10:=hB_
 clear hB_
 replace hW:=hide ((unhide hW).bz (unhide hzz_) hbt_)
 replace hL:=hide ((unhide hL).bz (unhide hzz_) hbt_)
 clear hbt_ hzz_
 simp only [nrm]
 (refine wpList_step fun K hK=>?_; replace hK:=hide hK; go_simp; refine unhide hK _ _ ?_; clear hK K)
 (refine wpList_step fun K hK=>?_; replace hK:=hide hK; go_simp; refine unhide hK _ _ ?_; clear hK K)
 refine wpList_nil ?_
 have hne:Nums e:=by
  have h9:=dvH_nums (insL c.H s) c.dl (unhide hnm).H (unhide hdl).2.2.1.1 (unhide hdl).2.2.1.2
  rw [unhide he]
  exact ⟨(unhide hnm).O,h9.1,(unhide hnm).nx,(unhide hnm).tn,h9.2⟩
 replace hB:=hide hB
 go_wp2_with fail
 replace hB:=unhide hB
 rw [unhide hT]
 rw [unhide hv]
 exact bodyPost_ret (v:=.tuple #[.agg (fl [[.int .u32 e.nx],[.slice x2.ao x2.no x2.co],[.int .i64 e.tn],[.int .u32 e.dl],[.slice x2.ah x2.nh x2.ch]]),.slice l8 n8 c8,.int .i64 0]) (res3 Try.results22 (rv_cell (by kernel_rfl) (hB.get 1 (x:=⟨w.heap.size+1+1,fl [[.int .u32 e.nx],[.slice x2.ao x2.no x2.co],[.int .i64 e.tn],[.int .u32 e.dl],[.slice x2.ah x2.nh x2.ch]],26⟩) rfl) Try.underlying26 rfl (by rw [fl_size (nC  _ _ _ _ _)]; kernel_rfl)) (rv_tmp (by kernel_rfl)) (rv_tmp (by kernel_rfl))) rfl (⟨x2,l8,n8,c8,rfl,(unhide hW).cin hne,(unhide hW).owx,unhide hL,hB.gr⟩)
end Go.Proofs.Ytcefkkoombmndab
namespace Go.Proofs.Ytcefkkoombmndab
open Go.RowKit
set_option maxRecDepth 100000
set_option linter.unusedSimpArgs false
set_option linter.unusedVariables false
def tbo (s:ByteArray):List Int:=s.data.toList.map fun x=>((x.toNat:Nat):Int)
def bdy (t:ByteArray):List Int:=(t.size:Int)::(tbo t++List.replicate (104 - t.size) 0)
structure Un where
 ack:Int
 seq:Int
 B:List Int
 idle:Bool
structure Sd where
 c:Cm
 q:List ByteArray
 d:List ByteArray
 w:List Un
structure Rel (A B:Sd):Prop where
 rt:rt A.c=true
 nx:A.c.nx=(A.q.length:Int)
 few:A.q.length≤400
 sz:∀ t ∈ A.q,t.size=3
 out:∀ (i:Nat) (o:Ot),A.c.O[i]?=some o→∃ t,A.q[A.q.length - A.c.O.length+i]?=some t∧o.B=bdy t
 dl:B.c.dl=(B.d.length:Int)
 pre:B.d=A.q.take B.d.length
 le:B.d.length≤A.q.length
 ack:A.q.length≤B.d.length+A.c.O.length
 held:∀ h ∈ B.c.H,0≤h.n∧A.q[h.n.toNat]?=some h.s
 way:∀ u ∈ A.w,(0≤u.ack∧u.ack≤A.c.dl)∧(0≤u.seq∧u.seq<4294967296)∧(u.idle=false→∃ t,A.q[u.seq.toNat]?=some t∧u.B=bdy t)
def Inv (A B:Sd):Prop:=Rel A B∧Rel B A
theorem Inv.swap {A B:Sd} (h:Inv A B):Inv B A:=⟨h.2,h.1⟩
theorem Rel.ole {A B:Sd} (h:Rel A B):A.c.O.length≤A.q.length:=by
 have h1:=rt_le h.rt
 have h2:=h.nx
 omega
/-! ### queued -/
theorem oq_full {A B:Sd} (h:Rel A B) (X:List Int) (h4:A.c.O.length=4):qu A.c X=(cz,0,6):=by
 unfold qu
 rw [if_neg (by rw [h.rt]; simp),if_pos (.inl h4)]
theorem oq_go {A B:Sd} (h:Rel A B) (X:List Int) (h4:A.c.O.length≠4):qu A.c X=({ A.c with nx:=A.c.nx+1,O:=A.c.O++[⟨A.c.nx,X⟩] },A.c.nx,0):=by
 have h1:=h.nx
 have h2:=h.few
 unfold qu
 rw [if_neg (by rw [h.rt]; simp),if_neg (by omega)]
theorem oseqs_app:∀ (L:List Ot) (k:Int) (X:List Int),seqs k L=true→seqs k (L++[⟨k+L.length,X⟩])=true
 | [],k,X,_=>by simp [seqs]
 | o::L,k,X,h=>by
  unfold seqs at h
  simp only [Bool.and_eq_true,decide_eq_true_eq] at h
  have ih:=oseqs_app L (k+1) X h.2
  rw [List.cons_append]
  unfold seqs
  simp only [Bool.and_eq_true,decide_eq_true_eq]
  refine ⟨h.1,?_⟩
  rw [show k+((o::L).length:Int)=k+1+(L.length:Int) from by rw [List.length_cons]; omega]
  exact ih
theorem Inv.queue {A B:Sd} (h:Inv A B) (t:ByteArray) (ht:t.size=3) (hq:A.q.length<400) (h4:A.c.O.length≠4) :
  Inv { A with c:=(qu A.c (bdy t)).1,q:=A.q++[t] } B:=by
 have h1:=h.1
 have hl:=rt_le h1.rt
 have hn:=h1.nx
 have ho:=h1.ole
 rw [oq_go h1 (bdy t) h4]
 refine ⟨⟨?_,?_,?_,?_,?_,h1.dl,?_,?_,?_,?_,?_⟩,⟨h.2.rt,h.2.nx,h.2.few,h.2.sz,h.2.out,h.2.dl,h.2.pre,h.2.le,h.2.ack,h.2.held,h.2.way⟩⟩
 ·refine rt_mk ?_ ?_ ?_ ?_
  ·simp only [List.length_append,List.length_singleton]
   omega
  ·simp only [List.length_append,List.length_singleton]
   omega
  ·simp only [List.length_append,List.length_singleton]
   have e:=rt_seqs h1.rt
   have:=oseqs_app A.c.O (A.c.nx - A.c.O.length) (bdy t) e
   rw [show A.c.nx - (A.c.O.length:Int)+(A.c.O.length:Int)=A.c.nx from by omega] at this
   rw [show A.c.nx+1 - ((A.c.O.length+1:Nat):Int)=A.c.nx - (A.c.O.length:Int) from by omega]
   exact this
  ·show rises A.c.dl (min (A.c.dl+4) 2147483648) A.c.H=true
   exact rt_rises h1.rt
 ·simp only [List.length_append,List.length_singleton]
  omega
 ·simp only [List.length_append,List.length_singleton]
  omega
 ·intro u hu
  rcases List.mem_append.1 hu with hu | hu
  ·exact h1.sz u hu
  ·rw [List.mem_singleton.1 hu]; exact ht
 ·intro i o hi
  simp only [List.length_append,List.length_singleton] at hi ⊢
  by_cases hlt:i<A.c.O.length
  ·rw [List.getElem?_append_left hlt] at hi
   obtain ⟨s,hs,hb⟩:=h1.out i o hi
   refine ⟨s,?_,hb⟩
   rw [show A.q.length+1 - (A.c.O.length+1)+i=A.q.length - A.c.O.length+i from by omega]
   rw [List.getElem?_append_left (List.getElem?_eq_some_iff.1 hs).1]
   exact hs
  ·have hlen:=(List.getElem?_eq_some_iff.1 hi).1
   simp only [List.length_append,List.length_singleton] at hlen
   obtain rfl:i=A.c.O.length:=by omega
   rw [List.getElem?_append_right (Nat.le_refl _),Nat.sub_self] at hi
   simp only [List.getElem?_cons_zero,Option.some.injEq] at hi
   subst hi
   refine ⟨t,?_,rfl⟩
   rw [show A.q.length+1 - (A.c.O.length+1)+A.c.O.length=A.q.length from by omega,List.getElem?_append_right (Nat.le_refl _),Nat.sub_self]
   rfl
 ·rw [List.take_append_of_le_length h1.le]
  exact h1.pre
 ·simp only [List.length_append,List.length_singleton]
  have:=h1.le
  omega
 ·simp only [List.length_append,List.length_singleton]
  have:=h1.ack
  omega
 ·intro x hx
  obtain ⟨h2,h3⟩:=h1.held x hx
  exact ⟨h2,by rw [List.getElem?_append_left (List.getElem?_eq_some_iff.1 h3).1]; exact h3⟩
 ·intro u hu
  obtain ⟨h2,h3,h5⟩:=h1.way u hu
  refine ⟨h2,h3,fun hi=>?_⟩
  obtain ⟨s,hs,hb⟩:=h5 hi
  exact ⟨s,by rw [List.getElem?_append_left (List.getElem?_eq_some_iff.1 hs).1]; exact hs,hb⟩
/-! ### said -/
theorem ot_none {A B:Sd} (h:Rel A B) (h0:A.c.O.length=0):tu A.c=(cz,oZ,4):=by
 unfold tu
 rw [if_neg (by rw [h.rt]; simp),if_pos h0]
theorem ot_some {A B:Sd} (h:Rel A B) (h0:A.c.O.length≠0):tu A.c=({ A.c with tn:=(A.c.tn+1) % (A.c.O.length:Int) },A.c.O.getD A.c.tn.toNat oZ,0):=by
 unfold tu
 rw [if_neg (by rw [h.rt]; simp),if_neg h0]
theorem Rel.way_more {A B:Sd} (h:Rel A B) (c':Cm) (hrt:Go.Proofs.Ytcefkkoombmndab.rt c'=true) (hnx:c'.nx=A.c.nx) (hO:c'.O=A.c.O) (hdl:c'.dl=A.c.dl) (W:List Un) (hW:∀ u ∈ W,(0≤u.ack∧u.ack≤A.c.dl)∧(0≤u.seq∧u.seq<4294967296)∧(u.idle=false→∃ t,A.q[u.seq.toNat]?=some t∧u.B=bdy t)):Rel { A with c:=c',w:=W } B:=by
 refine ⟨hrt,by rw [← h.nx]; exact hnx,h.few,h.sz,?_,h.dl,h.pre,h.le,?_,h.held,?_⟩
 ·intro i o hi
  have hi2:A.c.O[i]?=some o:=by rw [← hO]; exact hi
  obtain ⟨t,ht,hb⟩:=h.out i o hi2
  exact ⟨t,by rw [← ht]; congr 2; show A.q.length - c'.O.length=_; rw [hO],hb⟩
 ·show A.q.length≤B.d.length+c'.O.length
  rw [hO]
  exact h.ack
 ·intro u hu
  obtain ⟨h1,h2⟩:=hW u hu
  exact ⟨⟨h1.1,by rw [hdl]; exact h1.2⟩,h2⟩
theorem Rel.same {A B:Sd} (h:Rel B A) (c':Cm) (hdl:c'.dl=A.c.dl) (hH:c'.H=A.c.H) (W:List Un):Rel B { A with c:=c',w:=W } :=
 ⟨h.rt,h.nx,h.few,h.sz,h.out,by rw [← h.dl]; exact hdl,h.pre,h.le,h.ack,fun x hx=>h.held x (by rw [← hH]; exact hx),h.way⟩
theorem Inv.say {A B:Sd} (h:Inv A B) (h0:A.c.O.length≠0) :
  Inv { A with c:=(tu A.c).1,w:=A.w++[⟨A.c.dl,(tu A.c).2.1.n,(tu A.c).2.1.B,false⟩] } B:=by
 have h1:=h.1
 have hl:=rt_le h1.rt
 have hn:=h1.nx
 have ho:=h1.ole
 have hdl:0≤A.c.dl:=by rw [h.2.dl]; omega
 rw [ot_some h1 h0]
 have hm:=Int.emod_nonneg (A.c.tn+1) (b:=(A.c.O.length:Int)) (by omega)
 have hm2:=Int.emod_lt_of_pos (A.c.tn+1) (b:=(A.c.O.length:Int)) (by omega)
 have hrt:Go.Proofs.Ytcefkkoombmndab.rt { A.c with tn:=(A.c.tn+1) % (A.c.O.length:Int) }=true:=rt_tn h1.rt _ (by omega)
 refine ⟨h1.way_more _ hrt rfl rfl rfl _ ?_,h.2.same { A.c with tn:=(A.c.tn+1) % (A.c.O.length:Int) } rfl rfl _⟩
 intro u hu
 rcases List.mem_append.1 hu with hu | hu
 ·exact h1.way u hu
 ·rw [List.mem_singleton.1 hu]
  have hlt:A.c.tn.toNat<A.c.O.length:=by omega
  have hg:A.c.O[A.c.tn.toNat]?=some (A.c.O.getD A.c.tn.toNat oZ):=by rw [List.getD_eq_getElem?_getD,List.getElem?_eq_getElem hlt]; rfl
  have hs:=seqs_at _ _ _ _ (rt_seqs h1.rt) hg
  obtain ⟨t,ht,hb⟩:=h1.out _ _ hg
  dsimp only
  refine ⟨⟨hdl,Int.le_refl _⟩,by omega,fun _=>⟨t,?_,hb⟩⟩
  rw [← ht,hs]
  congr 1
  omega
theorem Inv.idle {A B:Sd} (h:Inv A B):Inv { A with w:=A.w++[⟨A.c.dl,0,Z105,true⟩] } B:=by
 have h1:=h.1
 have hdl:0≤A.c.dl:=by rw [h.2.dl]; omega
 refine ⟨h1.way_more A.c h1.rt rfl rfl rfl _ ?_,h.2.same A.c rfl rfl _⟩
 intro u hu
 rcases List.mem_append.1 hu with hu | hu
 ·exact h1.way u hu
 ·rw [List.mem_singleton.1 hu]
  exact ⟨⟨hdl,Int.le_refl _⟩,⟨Int.le_refl 0,show (0:Int)<4294967296 by decide⟩,fun h=>by cases h⟩
theorem Inv.lose {A B:Sd} (h:Inv A B) (k:Nat):Inv { A with w:=A.w.take k++A.w.drop (k+1) } B:=by
 refine ⟨h.1.way_more A.c h.1.rt rfl rfl rfl _ ?_,h.2.same A.c rfl rfl _⟩
 intro u hu
 rcases List.mem_append.1 hu with hu | hu
 ·exact h.1.way u (List.mem_of_mem_take hu)
 ·exact h.1.way u (List.mem_of_mem_drop hu)
end Go.Proofs.Ytcefkkoombmndab
namespace Go.Proofs.Ytcefkkoombmndab
open Go.RowKit
set_option maxRecDepth 100000
set_option linter.unusedSimpArgs false
set_option linter.unusedVariables false
theorem seqs_drop:∀ (L:List Ot) (k:Int) (j:Nat),seqs k L=true→j≤L.length→seqs (k+(j:Int)) (L.drop j)=true
 | L,k,0,h,_=>by simpa using h
 | [],k,j+1,h,hj=>by simp at hj
 | o::L,k,j+1,h,hj=>by
  unfold seqs at h
  simp only [Bool.and_eq_true,decide_eq_true_eq] at h
  simp only [List.length_cons] at hj
  have:=seqs_drop L (k+1) j h.2 (by omega)
  rw [List.drop_succ_cons,show k+((j+1:Nat):Int)=k+1+(j:Int) from by omega]
  exact this
theorem ak_go {A B:Sd} (h:Inv A B) {n:Int} (hn:0≤n∧n≤A.c.dl):ak B.c n=({ B.c with O:=B.c.O.drop (gk B.c n),tn:=B.c.tn - min (gk B.c n:Int) B.c.tn },(gk B.c n:Int),0)∧gk B.c n≤B.c.O.length:=by
 have h2:=h.2
 have h1:=h2.dl
 have h3:=h2.le
 have h4:=h2.nx
 have h5:=rt_le h2.rt
 refine ⟨?_,?_⟩
 ·unfold ak
  rw [if_neg (by rw [h2.rt]; simp),if_neg (by omega)]
 ·unfold gk
  omega
theorem Inv.acked {A B:Sd} (h:Inv A B) {n:Int} (hn:0≤n∧n≤A.c.dl):Inv A { B with c:=(ak B.c n).1 }:=by
 obtain ⟨h1,h2⟩:=ak_go h hn
 rw [h1]
 have r:=h.2
 have hdl:=r.dl
 have hle:=r.le
 have hnx:=r.nx
 have hl:=rt_le r.rt
 have hol:=r.ole
 have hac:=r.ack
 have hgk:(gk B.c n:Int)=0∨(gk B.c n:Int)=n - (B.c.nx - B.c.O.length):=by
  unfold gk
  omega
 generalize gk B.c n=g at *
 refine ⟨⟨h.1.rt,h.1.nx,h.1.few,h.1.sz,h.1.out,h.1.dl,h.1.pre,h.1.le,h.1.ack,h.1.held,h.1.way⟩,?_,r.nx,r.few,r.sz,?_,r.dl,r.pre,r.le,?_,r.held,r.way⟩
 ·refine rt_mk ?_ ?_ ?_ (show rises B.c.dl (min (B.c.dl+4) 2147483648) B.c.H=true from rt_rises r.rt)
  ·simp only [List.length_drop]
   omega
  ·simp only [List.length_drop]
   omega
  ·have:=seqs_drop _ _ g (rt_seqs r.rt) h2
   simp only [List.length_drop]
   rw [show B.c.nx - ((B.c.O.length - g:Nat):Int)=B.c.nx - (B.c.O.length:Int)+(g:Int) from by omega]
   exact this
 ·intro i o hi
  simp only [List.length_drop] at hi ⊢
  rw [List.getElem?_drop] at hi
  obtain ⟨t,ht,hb⟩:=r.out _ o hi
  have hlt:=(List.getElem?_eq_some_iff.1 hi).1
  exact ⟨t,by rw [← ht]; congr 1; omega,hb⟩
 ·simp only [List.length_drop]
  omega
/-! ### what is delivered -/
theorem dvH_len:∀ (H:List It) (d:Int),(dvH d H).1=d+((dvH d H).2.2.length:Int)
 | [],d=>by simp [dvH]
 | s::H,d=>by
  by_cases hs:s.n=d
  ·rw [dvH_go hs]
   have:=dvH_len H (d+1)
   simp only [List.length_cons]
   omega
  ·have:dvH d (s::H)=(d,s::H,[]):=by unfold dvH; rw [if_neg hs]
   rw [this]
   simp
theorem dvH_txt (q:List ByteArray):∀ (H:List It) (d:Int),0≤d→(∀ h ∈ H,0≤h.n∧q[h.n.toNat]?=some h.s)→(q.drop d.toNat).take (dvH d H).2.2.length=(dvH d H).2.2∧(d≤q.length→d+((dvH d H).2.2.length:Int)≤q.length)
 | [],d,h0,h=>by simp [dvH]
 | s::H,d,h0,h=>by
  by_cases hs:s.n=d
  ·rw [dvH_go hs]
   obtain ⟨i1,i2⟩:=dvH_txt q H (d+1) (by omega) (fun x hx=>h x (List.mem_cons_of_mem _ hx))
   have hq:=(h s List.mem_cons_self).2
   rw [hs] at hq
   have hlt:=(List.getElem?_eq_some_iff.1 hq).1
   have e:=List.drop_eq_getElem_cons hlt
   rw [(List.getElem?_eq_some_iff.1 hq).2] at e
   refine ⟨?_,fun hd=>?_⟩
   ·simp only [List.length_cons]
    rw [e,List.take_succ_cons,show d.toNat+1=(d+1).toNat from by omega,i1]
   ·simp only [List.length_cons]
    have:=i2 (by omega)
    omega
  ·have:dvH d (s::H)=(d,s::H,[]):=by unfold dvH; rw [if_neg hs]
   rw [this]
   simp
theorem dvH_sub:∀ (H:List It) (d:Int),∀ h ∈ (dvH d H).2.1,h ∈ H
 | [],d,h,hh=>by simp [dvH] at hh
 | s::H,d,h,hh=>by
  by_cases hs:s.n=d
  ·rw [dvH_go hs] at hh
   exact List.mem_cons_of_mem _ (dvH_sub H (d+1) h hh)
  ·have:dvH d (s::H)=(d,s::H,[]):=by unfold dvH; rw [if_neg hs]
   rw [this] at hh
   exact hh
theorem srt_tail {s:It} {H:List It} (h:Srt (s::H)):Srt H∧∀ t ∈ H,s.n<t.n :=
 ⟨fun k l a b hkl h1 h2=>h (k+1) (l+1) a b (by omega) (by simpa using h1) (by simpa using h2),fun t ht=>by
  obtain ⟨l,hl,rfl⟩:=List.getElem_of_mem ht
  exact h 0 (l+1) s H[l] (by omega) rfl (by simp [hl])⟩
theorem dvH_up:∀ (H:List It) (d:Int),Srt H→(∀ s ∈ H,d≤s.n)→Srt (dvH d H).2.1∧∀ s ∈ (dvH d H).2.1,(dvH d H).1<s.n
 | [],d,h,h2=>by simp [dvH]; exact h
 | s::H,d,h,h2=>by
  obtain ⟨h3,h4⟩:=srt_tail h
  by_cases hs:s.n=d
  ·rw [dvH_go hs]
   exact dvH_up H (d+1) h3 (fun t ht=>by have:=h4 t ht; omega)
  ·have:dvH d (s::H)=(d,s::H,[]):=by unfold dvH; rw [if_neg hs]
   rw [this]
   refine ⟨h,fun t ht=>?_⟩
   have h5:=h2 s List.mem_cons_self
   rcases List.mem_cons.1 ht with rfl | ht
   ·dsimp only; omega
   ·have:=h4 t ht
    dsimp only; omega
theorem rises_of:∀ (H:List It) (f e:Int),Srt H→(∀ s ∈ H,f<s.n∧s.n<e∧szB s.s=true)→rises f e H=true
 | [],f,e,_,_=>rfl
 | s::H,f,e,h,h2=>by
  obtain ⟨h3,h4⟩:=srt_tail h
  have h5:=h2 s List.mem_cons_self
  unfold rises
  simp only [Bool.and_eq_true,decide_eq_true_eq]
  exact ⟨⟨⟨h5.1,h5.2.1⟩,h5.2.2⟩,rises_of H s.n e h3 fun t ht=>⟨h4 t ht,(h2 t (List.mem_cons_of_mem _ ht)).2⟩⟩
theorem srt_few {H:List It} {f:Int} (h:Srt H) (h2:∀ s ∈ H,f<s.n∧s.n<f+4):H.length≤3:=by
 rcases Nat.lt_or_ge 3 H.length with hl | hl
 ·have g:∀ i,(hi:i<H.length)→H[i]?=some H[i]:=fun i hi=>List.getElem?_eq_getElem hi
  have a:=h 0 1 _ _ (by omega) (g 0 (by omega)) (g 1 (by omega))
  have b:=h 1 2 _ _ (by omega) (g 1 (by omega)) (g 2 (by omega))
  have c:=h 2 3 _ _ (by omega) (g 2 (by omega)) (g 3 (by omega))
  have d:=h2 _ (List.getElem_mem (show 0<H.length by omega))
  have e:=h2 _ (List.getElem_mem (show 3<H.length by omega))
  omega
 ·exact hl
theorem take_add' {α:Type} (q:List α) (i j:Nat):q.take (i+j)=q.take i++(q.drop i).take j:=List.take_add
theorem Inv.took {A B:Sd} (h:Inv A B) {m r:Int} {t:ByteArray} (hw:wt B.c m r=true) (ht:A.q[m.toNat]?=some t) :
  unt B.c ⟨m,t⟩ r=0∧(dvC (tkC B.c ⟨m,t⟩)).dl=B.c.dl+((dvH B.c.dl (insL B.c.H ⟨m,t⟩)).2.2.length:Int)∧Inv A { B with c:=dvC (tkC B.c ⟨m,t⟩),d:=B.d++(dvH B.c.dl (insL B.c.H ⟨m,t⟩)).2.2 }:=by
 have a:=h.1
 have hw2:=wt_t hw
 have hdl:=a.dl
 have hle:=a.le
 have hfew:=a.few
 have hlim:=rt_le h.2.rt
 have hsz:∀ u ∈ A.q,szB u=true:=fun u hu=>by
  unfold szB
  rw [a.sz u hu]
  decide
 have h0:unt B.c ⟨m,t⟩ r=0:=by
  unfold unt
  rw [if_neg (by rw [h.2.rt]; simp),if_neg (by rw [hw]; simp),if_neg (by rw [hsz t (List.mem_of_getElem? ht)]; simp)]
 obtain ⟨H,hH⟩:∃ H,H=insL B.c.H ⟨m,t⟩:=⟨_,rfl⟩
 obtain ⟨d,hd⟩:∃ d,d=B.c.dl:=⟨_,rfl⟩
 have hsrt:Srt H:=by rw [hH]; exact ins_srt (rt_srt h.2.rt) hw2.2.2.2
 have hin:∀ s ∈ H,(d≤s.n∧s.n<min (d+4) 2147483648∧szB s.s=true)∧0≤s.n∧A.q[s.n.toNat]?=some s.s:=by
  intro s hs
  rw [hH] at hs
  rw [hd]
  rcases ins_mem hs with rfl | hs
  ·exact ⟨⟨hw2.1,by dsimp only; omega,hsz t (List.mem_of_getElem? ht)⟩,by dsimp only; omega,ht⟩
  ·obtain ⟨k,hk,rfl⟩:=List.getElem_of_mem hs
   have h5:=rises_lo _ _ _ (rt_rises h.2.rt) k _ (List.getElem?_eq_getElem hk)
   have h6:=a.held _ (List.getElem_mem hk)
   exact ⟨⟨by omega,h5.2⟩,h6⟩
 have hd0:0≤d:=by omega
 obtain ⟨x1,x2⟩:=dvH_txt A.q H d hd0 (fun s hs=>(hin s hs).2)
 have x3:=dvH_len H d
 have x4:=dvH_sub H d
 obtain ⟨x5,x6⟩:=dvH_up H d hsrt (fun s hs=>(hin s hs).1.1)
 have x7:=x2 (by omega)
 refine ⟨h0,by show (dvH B.c.dl (insL B.c.H ⟨m,t⟩)).1=_; rw [← hH,← hd]; exact x3,?_⟩
 have e1:dvC (tkC B.c ⟨m,t⟩)={ B.c with dl:=(dvH d H).1,H:=(dvH d H).2.1 }:=by rw [hH,hd]; rfl
 rw [e1,← hH,← hd]
 clear e1
 generalize (dvH d H).1=d' at *
 generalize (dvH d H).2.1=H' at *
 generalize (dvH d H).2.2=l at *
 have hH':∀ s ∈ H',d'<s.n∧s.n<min (d'+4) 2147483648∧szB s.s=true:=fun s hs=>by
  have y1:=(hin s (x4 s hs)).1
  exact ⟨x6 s hs,by omega,y1.2.2⟩
 refine ⟨⟨a.rt,a.nx,a.few,a.sz,a.out,?_,?_,?_,?_,fun s hs=>(hin s (x4 s hs)).2,a.way⟩,?_,h.2.nx,h.2.few,h.2.sz,h.2.out,h.2.dl,h.2.pre,h.2.le,h.2.ack,h.2.held,?_⟩
 ·simp only [List.length_append]
  omega
 ·simp only [List.length_append]
  rw [take_add',← a.pre,show B.d.length=d.toNat from by omega,x1]
 ·simp only [List.length_append]
  omega
 ·have:=a.ack
  simp only [List.length_append]
  omega
 ·refine rt_mk ?_ ?_ (show seqs (B.c.nx - B.c.O.length) B.c.O=true from rt_seqs h.2.rt) (rises_of H' d' _ x5 hH')
  ·have:=srt_few (f:=d') x5 (fun s hs=>by have:=hH' s hs; omega)
   dsimp only
   omega
  ·dsimp only
   omega
 ·intro u hu
  obtain ⟨z1,z2⟩:=h.2.way u hu
  exact ⟨⟨z1.1,by dsimp only; omega⟩,z2⟩
end Go.Proofs.Ytcefkkoombmndab
namespace Go.Proofs.Ytcefkkoombmndab
open Go.RowKit
set_option maxRecDepth 100000
set_option linter.unusedSimpArgs false
set_option linter.unusedVariables false
def unr (u:Un):List Value:=[[.int .u32 u.ack],[.int .u32 u.seq],bw u.B,[.bool u.idle]].flatten
theorem unr_len {u:Un} (h:u.B.length=105):(unr u).length=108:=by unfold unr; simp [bw_len,h]
theorem unr_one (u:Un):∀ x ∈ unr u,x.oneCell'=true:=by
 intro x hx
 unfold unr bw at hx
 simp at hx
 rcases hx with rfl | rfl | ⟨y,_,rfl⟩ | rfl <;> rfl
structure En where
 k:Nat
 e:TypeId
 v:Value
 R:List (List Value)
structure Fam (b:Nat) (w:World) (L:List En):Prop where
 own:∀ (i:Nat) (y:En),L[i]?=some y→Or_ y.k y.e b w y.v y.R
 ne:∀ (i j:Nat) (y z:En),L[i]?=some y→L[j]?=some z→i≠j→∀ g,y.v.ownBlock=some g→z.v.ownBlock≠some g
theorem own_lt {k:Nat} {e:TypeId} {b:Nat} {w:World} {v:Value} {R:List (List Value)} (h:Or_ k e b w v R) {g:Nat} (hg:v.ownBlock=some g):b≤g∧∃ cur,w.heap[g]?=some (.cells cur e (0,0)):=by
 rcases h.2.2 with ⟨e1,_⟩ | ⟨g',cap,cur,e1,h1,h2,_⟩
 ·subst e1
  simp [Value.ownBlock] at hg
 ·subst e1
  simp only [Value.ownBlock,Option.some.injEq] at hg
  subst hg
  exact ⟨h1,cur,h2⟩
theorem own_keep {k:Nat} {e:TypeId} {b:Nat} {w u:World} {v:Value} {R:List (List Value)} (h:Or_ k e b w v R) (hk:∀ g,v.ownBlock=some g→u.heap[g]?=w.heap[g]?):Or_ k e b u v R:=by
 refine ⟨h.1,h.2.1,?_⟩
 rcases h.2.2 with h1 | ⟨g,cap,cur,e1,h1,h2,h3⟩
 ·exact .inl h1
 ·refine .inr ⟨g,cap,cur,e1,h1,?_,h3⟩
  rw [hk g (by rw [e1]; rfl)]
  exact h2
theorem Fam.gr {b:Nat} {w u:World} {L:List En} (h:Fam b w L) (k:Gr w u):Fam b u L:=⟨fun i y hy=>(h.own i y hy).gr k,h.ne⟩
theorem Fam.bt {b:Nat} {w u:World} {L:List En} (h:Fam b w L) {g:Nat} {C:Array Value} {t:TypeId} (hg:w.heap[g]?=some (.cells C t (0,0))) (m:Bt g w u) (ht:∀ y ∈ L,t≠y.e):Fam b u L :=
 ⟨fun i y hy=>or_bt (h.own i y hy) hg (ht y (List.mem_of_getElem? hy)) m,h.ne⟩
theorem Fam.put {b:Nat} {w u:World} {L:List En} (h:Fam b w L) (i:Nat) {y:En} (hi:L[i]?=some y) {v':Value} {R':List (List Value)} (h':Or_ y.k y.e b u v' R') (k:w.grownBy u y.v.ownBlock) (hs:∀ g,v'.ownBlock=some g→y.v.ownBlock=some g∨w.heap.size≤g):Fam b u (L.set i ⟨y.k,y.e,v',R'⟩):=by
 have hil:i<L.length:=(List.getElem?_eq_some_iff.1 hi).1
 have hlt:∀ (j:Nat) (z:En),L[j]?=some z→∀ g,z.v.ownBlock=some g→g<w.heap.size:=fun j z hz g hg=>by
  obtain ⟨_,cur,h2⟩:=own_lt (h.own j z hz) hg
  exact lt_of_block h2
 refine ⟨fun j z hz=>?_,fun j l a c ha hc hjl g hg=>?_⟩
 ·by_cases hj:j=i
  ·subst hj
   rw [List.getElem?_set_self hil] at hz
   cases hz
   exact h'
  ·rw [List.getElem?_set_ne (Ne.symm hj)] at hz
   refine own_keep (h.own j z hz) fun g hg=>k.block g (hlt j z hz g hg) fun e=>?_
   exact h.ne j i z y hz hi hj g hg e.symm
 ·by_cases hj:j=i
  ·subst hj
   rw [List.getElem?_set_self hil] at ha
   cases ha
   rw [List.getElem?_set_ne hjl] at hc
   intro e
   rcases hs g hg with h1 | h1
   ·exact h.ne j l y c hi hc hjl g h1 e
   ·have:=hlt l c hc g e
    omega
  ·rw [List.getElem?_set_ne (Ne.symm hj)] at ha
   by_cases hl:l=i
   ·subst hl
    rw [List.getElem?_set_self hil] at hc
    cases hc
    intro e
    rcases hs g e with h1 | h1
    ·exact h.ne j l a y ha hi hjl g hg h1
    ·have:=hlt j a ha g hg
     omega
   ·rw [List.getElem?_set_ne (Ne.symm hl)] at hc
    exact h.ne j l a c ha hc hjl g hg
theorem grown_bt {w u:World} {g:Nat} (k:w.grownBy u (some g)):Bt g w u:=⟨k.os,k.tape,k.output,k.size,fun i hi hn=>k.block i hi (by simpa using hn)⟩
theorem grown_none {w u:World} (k:w.grownBy u none):Gr w u:=⟨k.os,k.tape,k.output,k.size,fun i hi=>k.block i hi (by simp)⟩
theorem Co.grown {b b':Nat} {w u:World} {c:Cm} {x:Lc} (h:Co b w c x) {k:Nat} {e:TypeId} {v:Value} {R:List (List Value)} (ho:Or_ k e b' w v R) (g:w.grownBy u v.ownBlock) (h1:e≠33:=by decide) (h2:e≠59:=by decide):Co b u c x:=by
 cases hv:v.ownBlock with
 | none=>exact h.gr (grown_none (hv ▸ g))
 | some q =>
  obtain ⟨_,cur,hq⟩:=own_lt ho hv
  exact h.bz hq (grown_bt (hv ▸ g)) h1 h2
def sdc (c:Cm) (x:Lc) (q d v:Value):List (List Value):=[[.int .u32 c.nx],[.slice x.ao x.no x.co],[.int .i64 c.tn],[.int .u32 c.dl],[.slice x.ah x.nh x.ch],[q],[d],[v]]
def fam (A B:Sd) (qA dA vA qB dB vB:Value):List En:=[⟨1,9,qA,A.q.map tr1⟩,⟨1,9,dA,A.d.map tr1⟩,⟨108,53,vA,A.w.map unr⟩,⟨1,9,qB,B.q.map tr1⟩,⟨1,9,dB,B.d.map tr1⟩,⟨108,53,vB,B.w.map unr⟩]
structure Cg (g b:Nat) (w u:World):Prop where
 os:u.os=w.os
 tape:u.tape=w.tape
 output:u.output=w.output
 size:w.heap.size≤u.heap.size
 low:∀ i,i<b→u.heap[i]?=w.heap[i]?
 block:∀ (i:Nat) (C:Array Value) (t:TypeId),w.heap[i]?=some (.cells C t (0,0))→i≠g→t≠9→t≠53→u.heap[i]?=some (.cells C t (0,0))
theorem Cg.refl (g b:Nat) (w:World):Cg g b w w:=⟨rfl,rfl,rfl,Nat.le_refl _,fun _ _=>rfl,fun _ _ _ h _ _ _=>h⟩
theorem Cg.gr {g b:Nat} {w u v:World} (h:Cg g b w u) (k:Gr u v) (hb:b≤w.heap.size):Cg g b w v :=
 ⟨k.os.trans h.os,k.tape.trans h.tape,k.output.trans h.output,Nat.le_trans h.size k.size,fun i hi=>(k.block i (by have:=h.size; omega)).trans (h.low i hi),fun i C t hi hn h1 h2=>k.blk (h.block i C t hi hn h1 h2)⟩
theorem Cg.bt {g b:Nat} {w u v:World} (h:Cg g b w u) {j:Nat} (m:Bt j u v) (hb:b≤w.heap.size) (hj:j=g∧b≤g∨w.heap.size≤j):Cg g b w v:=by
 have hs:=h.size
 have hbj:b≤j:=by omega
 refine ⟨m.os.trans h.os,m.tape.trans h.tape,m.output.trans h.output,Nat.le_trans h.size m.size,fun i hi=>(m.block i (by omega) (by omega)).trans (h.low i hi),fun i C t hi hn h1 h2=>?_⟩
 have hil:=lt_of_block hi
 exact m.blk (h.block i C t hi hn h1 h2) (by omega)
theorem Cg.grown {g b b':Nat} {w u v:World} (h:Cg g b w u) {k:Nat} {e:TypeId} {x:Value} {R:List (List Value)} (ho:Or_ k e b' u x R) (hb':b≤b') (hb:b≤w.heap.size) (m:u.grownBy v x.ownBlock) (he:e=9∨e=53):Cg g b w v:=by
 cases hx:x.ownBlock with
 | none=>exact h.gr (grown_none (hx ▸ m)) hb
 | some q =>
  obtain ⟨hq1,cur,hq⟩:=own_lt ho hx
  have m2:=grown_bt (hx ▸ m)
  have hs:=h.size
  refine ⟨m2.os.trans h.os,m2.tape.trans h.tape,m2.output.trans h.output,Nat.le_trans h.size m2.size,fun i hi=>(m2.block i (by omega) (by omega)).trans (h.low i hi),fun i C t hi hn h1 h2=>?_⟩
  have h3:=h.block i C t hi hn h1 h2
  refine m2.blk h3 fun e1=>?_
  subst e1
  rw [hq] at h3
  cases h3
  rcases he with rfl | rfl
  ·exact h1 rfl
  ·exact h2 rfl
theorem Cg.trans {g b:Nat} {w u v:World} (h:Cg g b w u) (k:Cg g b u v):Cg g b w v :=
 ⟨k.os.trans h.os,k.tape.trans h.tape,k.output.trans h.output,Nat.le_trans h.size k.size,fun i hi=>(k.low i hi).trans (h.low i hi),fun i C t hi hn h1 h2=>k.block i C t (h.block i C t hi hn h1 h2) hn h1 h2⟩
end Go.Proofs.Ytcefkkoombmndab
namespace Go.Proofs.Ytcefkkoombmndab
open Go.RowKit
set_option maxRecDepth 100000
set_option linter.unusedSimpArgs false
set_option linter.unusedVariables false
theorem exec_csS {op:Oper} {a:Act} (w:World) (x:Operand) (ho:op.op=.load 39 x) (g i:Nat) (hx:a.eval x=.pointer (some ⟨g,i,none⟩)) (p:Option Addr) (n c:Nat) (hc:w.cell? ⟨g,i,none⟩=some (.slice p n c)):(execOp a.eval op).run Try.prog w=.ok (.value (.slice p n c)) w:=by
 unfold execOp
 simp only [ho,hx,Instr.loadAt,Instr.sureAddr,Sem.run_bind,Sem.run_pure,Result.andThen_ok]
 go_simp
theorem exec_csU {op:Oper} {a:Act} (w:World) (x:Operand) (ho:op.op=.load 40 x) (g i:Nat) (hx:a.eval x=.pointer (some ⟨g,i,none⟩)) (p:Option Addr) (n c:Nat) (hc:w.cell? ⟨g,i,none⟩=some (.slice p n c)):(execOp a.eval op).run Try.prog w=.ok (.value (.slice p n c)) w:=by
 unfold execOp
 simp only [ho,hx,Instr.loadAt,Instr.sureAddr,Sem.run_bind,Sem.run_pure,Result.andThen_ok]
 go_simp
section
variable {N:List Nat} {ops:Array Oper} {Q:Exit→Act→World→Prop} {a:Act} {w w0:World} {o:Oper} {rest:List Oper} {L:List Blk} {S:List (List Value)} {t:TypeId} {K:Act→World→Prop}
theorem step_csS (x y:Operand) (g off:Nat) (p:Option Addr) (n c:Nat) (hw:Region.wanted o (yielded ops a.tmps)=true) (ho:o.op=.store 39 x y)
  (hx:a.eval x=.pointer (some ⟨g,off,none⟩)) (hy:a.eval y=.slice p n c) (hB:Bl w0 L w) (b:Nat) (hb:L[b]?=some ⟨g,fl S,t⟩) (N:List Nat) (hN:S.map List.length=N) (i:Nat) (q:Value) (hi:S[i]?=some [q]) (hof:(N.take i).sum=off)
  (h:∀ v_,Bl w0 (L.set b ⟨g,fl (S.set i [.slice p n c]),t⟩) v_→Bt g w v_→K (a.put o.dst undef) v_):if Region.wanted o (yielded ops a.tmps)=true then Oper.wp Try.prog o a w K Q else K (a.put o.dst undef) w:=by
 have h2:=h _ (seg_left hN i hi hof hB b hb (.slice p n c)) (setCells_bt [.slice p n c] w g off)
 have c4:=seg_cell hN (hB.get b hb) i hi hof
 have fz:=froz_of (i:=off) (hB.get b hb)
 dsimp only at c4 fz
 rw [if_pos hw]
 unfold Oper.wp execOp
 simp only [ho,hx,hy]
 go_simp
 exact h2
theorem list_csS (x y:Operand) (g off:Nat) (p:Option Addr) (n c:Nat) (hw:Region.wanted o (yielded ops a.tmps)=true) (ho:o.op=.store 39 x y)
  (hx:a.eval x=.pointer (some ⟨g,off,none⟩)) (hy:a.eval y=.slice p n c) (hB:Bl w0 L w) (b:Nat) (hb:L[b]?=some ⟨g,fl S,t⟩) (N:List Nat) (hN:S.map List.length=N) (i:Nat) (q:Value) (hi:S[i]?=some [q]) (hof:(N.take i).sum=off)
  (h:∀ v_,Bl w0 (L.set b ⟨g,fl (S.set i [.slice p n c]),t⟩) v_→Bt g w v_→wpList Try.prog ops Q rest (a.put o.dst undef) v_):wpList Try.prog ops Q (o::rest) a w :=
 wpList_step fun K hK=>step_csS x y g off p n c hw ho hx hy hB b hb N hN i q hi hof fun v_ hv hb=>hK _ _ (h v_ hv hb)
theorem step_csU (x y:Operand) (g off:Nat) (p:Option Addr) (n c:Nat) (hw:Region.wanted o (yielded ops a.tmps)=true) (ho:o.op=.store 40 x y)
  (hx:a.eval x=.pointer (some ⟨g,off,none⟩)) (hy:a.eval y=.slice p n c) (hB:Bl w0 L w) (b:Nat) (hb:L[b]?=some ⟨g,fl S,t⟩) (N:List Nat) (hN:S.map List.length=N) (i:Nat) (q:Value) (hi:S[i]?=some [q]) (hof:(N.take i).sum=off)
  (h:∀ v_,Bl w0 (L.set b ⟨g,fl (S.set i [.slice p n c]),t⟩) v_→Bt g w v_→K (a.put o.dst undef) v_):if Region.wanted o (yielded ops a.tmps)=true then Oper.wp Try.prog o a w K Q else K (a.put o.dst undef) w:=by
 have h2:=h _ (seg_left hN i hi hof hB b hb (.slice p n c)) (setCells_bt [.slice p n c] w g off)
 have c4:=seg_cell hN (hB.get b hb) i hi hof
 have fz:=froz_of (i:=off) (hB.get b hb)
 dsimp only at c4 fz
 rw [if_pos hw]
 unfold Oper.wp execOp
 simp only [ho,hx,hy]
 go_simp
 exact h2
theorem step_cb (x y:Operand) (g off:Nat) (v:Bool) (hw:Region.wanted o (yielded ops a.tmps)=true) (ho:o.op=.store 4 x y)
  (hx:a.eval x=.pointer (some ⟨g,off,none⟩)) (hy:a.eval y=.bool v) (hB:Bl w0 L w) (b:Nat) (hb:L[b]?=some ⟨g,fl S,t⟩) (N:List Nat) (hN:S.map List.length=N) (i:Nat) (q:Value) (hi:S[i]?=some [q]) (hof:(N.take i).sum=off)
  (h:∀ v_,Bl w0 (L.set b ⟨g,fl (S.set i [.bool v]),t⟩) v_→Bt g w v_→K (a.put o.dst undef) v_):if Region.wanted o (yielded ops a.tmps)=true then Oper.wp Try.prog o a w K Q else K (a.put o.dst undef) w:=by
 have h2:=h _ (seg_left hN i hi hof hB b hb (.bool v)) (setCells_bt [.bool v] w g off)
 have c4:=seg_cell hN (hB.get b hb) i hi hof
 have fz:=froz_of (i:=off) (hB.get b hb)
 dsimp only at c4 fz
 rw [if_pos hw]
 unfold Oper.wp execOp
 simp only [ho,hx,hy]
 go_simp
 exact h2
theorem fl_three (S:List (List Value)) (i m:Nat) (M:List (List Value)) (hm:M.length=m) (h:i+m≤S.length):fl (S.take i++M++S.drop (i+m))=fl [(S.take i).flatten,M.flatten,(S.drop (i+m)).flatten]:=by
 unfold fl
 congr 1
 simp [List.flatten_append]
theorem fl_mid (S:List (List Value)) (i m:Nat) (h:i+m≤S.length):fl S=fl [(S.take i).flatten,((S.drop i).take m).flatten,(S.drop (i+m)).flatten]:=by
 have e:S=S.take i++(S.drop i).take m++S.drop (i+m):=by
  rw [List.append_assoc,← List.drop_drop,List.take_append_drop,List.take_append_drop]
 have h2:=fl_three S i m ((S.drop i).take m) (by rw [List.length_take,List.length_drop]; omega) h
 rw [← h2,← e]
theorem step_sr (ty:TypeId) (x y:Operand) (g off:Nat) (M:List (List Value)) (hw:Region.wanted o (yielded ops a.tmps)=true) (ho:o.op=.store ty x y)
  (hx:a.eval x=.pointer (some ⟨g,off,none⟩)) (hy:a.eval y=.agg (fl M)) (hB:Bl w0 L w) (b:Nat) (hb:L[b]?=some ⟨g,fl S,t⟩) (i m:Nat) (him:i+m≤S.length) (hm:M.length=m) (hof:(S.take i).flatten.length=off) (hl:((S.drop i).take m).flatten.length=M.flatten.length)
  (hn:(Try.prog.info? ty).map (·.size)=some M.flatten.length) (h1:(fl M).all (·.oneCell')=true)
  (h:∀ v_,Bl w0 (L.set b ⟨g,fl (S.take i++M++S.drop (i+m)),t⟩) v_→Bt g w v_→K (a.put o.dst undef) v_):if Region.wanted o (yielded ops a.tmps)=true then Oper.wp Try.prog o a w K Q else K (a.put o.dst undef) w:=by
 rw [fl_mid S i m him] at hb
 refine step_seg ty x y g off M.flatten hw ho hx hy hB b hb [(S.take i).flatten.length,M.flatten.length,(S.drop (i+m)).flatten.length] (by simp [hl]) 1 rfl (by simp [hof]) hn h1 ?_
 intro v_ h2 h3
 refine h v_ ?_ h3
 rw [fl_three S i m M hm him]
 exact h2
theorem list_sr (ty:TypeId) (x y:Operand) (g off:Nat) (M:List (List Value)) (hw:Region.wanted o (yielded ops a.tmps)=true) (ho:o.op=.store ty x y)
  (hx:a.eval x=.pointer (some ⟨g,off,none⟩)) (hy:a.eval y=.agg (fl M)) (hB:Bl w0 L w) (b:Nat) (hb:L[b]?=some ⟨g,fl S,t⟩) (i m:Nat) (him:i+m≤S.length) (hm:M.length=m) (hof:(S.take i).flatten.length=off) (hl:((S.drop i).take m).flatten.length=M.flatten.length)
  (hn:(Try.prog.info? ty).map (·.size)=some M.flatten.length) (h1:(fl M).all (·.oneCell')=true)
  (h:∀ v_,Bl w0 (L.set b ⟨g,fl (S.take i++M++S.drop (i+m)),t⟩) v_→Bt g w v_→wpList Try.prog ops Q rest (a.put o.dst undef) v_):wpList Try.prog ops Q (o::rest) a w :=
 wpList_step fun K hK=>step_sr ty x y g off M hw ho hx hy hB b hb i m him hm hof hl hn h1 fun v_ hv hb=>hK _ _ (h v_ hv hb)
theorem step_sgb (ty:TypeId) (x y:Operand) (g off:Nat) (B:List Int) (hw:Region.wanted o (yielded ops a.tmps)=true) (ho:o.op=.store ty x y)
  (hx:a.eval x=.pointer (some ⟨g,off,none⟩)) (hy:a.eval y=.agg (fl [bw B])) (hB:Bl w0 L w) (b:Nat) (hb:L[b]?=some ⟨g,fl S,t⟩) (N:List Nat) (hN:S.map List.length=N) (i:Nat) (hi:N[i]?=some (bw B).length) (hof:(N.take i).sum=off)
  (hn:(Try.prog.info? ty).map (·.size)=some (bw B).length)
  (h:∀ v,Bl w0 (L.set b ⟨g,fl (S.set i (bw B)),t⟩) v→Bt g w v→K (a.put o.dst undef) v):if Region.wanted o (yielded ops a.tmps)=true then Oper.wp Try.prog o a w K Q else K (a.put o.dst undef) w :=
 step_seg ty x y g off (bw B) hw ho hx (by rw [hy]; simp [fl]) hB b hb N hN i hi hof hn (bw_one B) h
end
theorem exec_sr {op:Oper} {a:Act} (w:World) (ty:TypeId) (x:Operand) (ho:op.op=.load ty x) (g o:Nat) (hx:a.eval x=.pointer (some ⟨g,o,none⟩)) {S:List (List Value)} {t:TypeId} (h:w.heap[g]?=some (.cells (fl S) t (0,0))) (i m:Nat) (him:i+m≤S.length) (hof:(S.take i).flatten.length=o) {d:TypeDesc} (hu:Try.prog.underlying ty=some d) (hd:d.isRow=true) (hin:(Try.prog.info? ty).map (·.size)=some ((S.drop i).take m).flatten.length) :
  (execOp a.eval op).run Try.prog w=.ok (.value (.agg (fl ((S.drop i).take m)))) w:=by
 rw [fl_mid S i m him] at h
 exact exec_row (P:=Try.prog) w ty x ho g o hx ((S.drop i).take m).flatten _ (seg_range (N:=[(S.take i).flatten.length,((S.drop i).take m).flatten.length,(S.drop (i+m)).flatten.length]) (by simp) h 1 rfl (by simp [hof])) hu hd hin
theorem ltU:Lw 40 53 108 116:=⟨Try.underlying40,by
 have h:(Try.prog.info? 53).map (fun i=>(i.size,i.bytes,i.zero.map (·.cells.size)))=some (108,116,some 108):=by kernel_rfl
 cases hi:Try.prog.info? 53 with
 | none=>rw [hi] at h; cases h
 | some i =>
  rw [hi] at h
  simp only [Option.map_some,Option.some.injEq,Prod.mk.injEq] at h
  obtain ⟨h1,h2,h3⟩:=h
  cases hz:i.zero with
  | none=>rw [hz] at h3; cases h3
  | some z =>
   rw [hz] at h3
   simp only [Option.map_some,Option.some.injEq] at h3
   exact ⟨i,z,rfl,hz,h1,h2,h3⟩,by omega⟩
theorem app_row1B {t e:TypeId} {k nb:Nat} (L:Lw t e k nb) {w:World} {o:Oper} {a:Act} {K:Act→World→Prop} {Q:Exit→Act→World→Prop} (s x:Operand)
  (ho:o.op=.call { callee:=.builtin .append,args:=#[s,x],argTypes:=#[t,t] }) (b:Nat) (hBb:b≤w.heap.size) (v:Value) (R:List (List Value)) (hs:a.eval s=v) (hown:Or_ k e b w v R)
  (p q sc:Nat) (r:List Value) (hx:a.eval x=.slice (some ⟨p,q,none⟩) 1 sc) (hrow:r.length=k) (hat:w.rangeAt p q r) (h1:∀ u ∈ r,u.oneCell'=true) (hbig:((R.length+1)+(R.length+1) / 4+192) * nb≤281474976710656∧R.length+1≤4611686018427387904)
  (h:∀ v' w',Or_ k e b w' v' (R++[r])→w.grownBy w' v.ownBlock→(v'.ownBlock=v.ownBlock∨v'.ownBlock=some w.heap.size)→K (a.put o.dst v') w'):o.wp Try.prog a w K Q:=by
 obtain ⟨i0,z0,hi,hz0,hz1,hz2,hz3⟩:=L.hi
 have hat2:∀ j u,r[j]?=some u→w.cell? ((⟨p,q,none⟩:Addr).add j)=some u:=fun j u hj=>by rw [Addr.add_mid]; exact hat j u hj
 have hrl:r.length=1 * k:=by omega
 obtain ⟨v',w',hr,h2,h3,-⟩:=run_append_own_wide (P:=Try.prog) w b t o.type e i0 z0 k nb L.ht hi hz0 hz1 hz2 hz3 L.hk v R.length _ hown.2 ⟨p,q,none⟩ 1 sc r hrl hat2 h1 (by unfold maxLen; omega) hbig.1 hBb
 have hwh:v'.ownBlock=v.ownBlock∨v'.ownBlock=some w.heap.size:=by
  subst hz1 hz2
  rcases hown.2.2 with ⟨e1,e2⟩ | ⟨g,cap,cur,e1,hbg,hg,hnc,hcm,hcs,htake⟩
  ·subst e1
   have hr2:=run_append_nil (P:=Try.prog) w t o.type e i0 z0 L.ht hi hz0 ⟨p,q,none⟩ 1 sc r hrl hat2 (by omega) (by omega) (Nat.le_trans (Nat.mul_le_mul_right _ (by omega)) hbig.1)
   rw [hr2] at hr
   injection hr with hr _
   rw [← hr]
   exact .inr rfl
  ·subst e1
   by_cases hroom:R.length+1≤cap
   ·have hfit:R.length * i0.size+r.length≤cur.size:=by rw [hrl,hcs,← Nat.add_mul]; exact Nat.mul_le_mul_right _ hroom
    have hr2:=run_append_room (P:=Try.prog) w t o.type e i0 L.ht hi g R.length cap cur hg ⟨p,q,none⟩ 1 sc r hrl hat2 h1 hroom hfit
    rw [hr2] at hr
    injection hr with hr _
    rw [← hr]
    exact .inl rfl
   ·have hr2:=run_append_grow (P:=Try.prog) w t o.type e i0 z0 L.ht hi hz0 ⟨g,0,none⟩ R.length cap _ hown.2.1 (hown.2.cells (g:=g) rfl) ⟨p,q,none⟩ 1 sc r hrl hat2 (by omega) (by omega) (growslice_fits_wide (by omega) hbig.1)
    rw [hr2] at hr
    injection hr with hr _
    rw [← hr]
    exact .inr rfl
 unfold Oper.wp execOp
 simp only [ho,resolve,invoke,builtin,Sem.run_bind,Sem.run_pure,Result.andThen_ok,List.map_toArray,List.map_cons,List.map_nil,hs,hx,hr]
 refine h v' w' ⟨?_,?_⟩ h3 hwh
 ·intro x hx
  rcases List.mem_append.1 hx with hx | hx
  ·exact hown.1 x hx
  ·rw [List.mem_singleton] at hx
   rw [hx]
   exact hrow
 ·rw [List.length_append,List.flatten_append]
  simpa using h2
def uZ:Un:=⟨0,0,Z105,false⟩
theorem infU:(Try.prog.info? 53).map (fun i=>(i.zero,i.size))=some (some (.agg (fl [[.int .u32 0],[.int .u32 0],bw Z105,[.bool false]])),108):=by kernel_rfl
theorem exec_bsu {a:Act} {o:Oper} (w:World) (x:Operand) (ho:o.op=.buildSlice 40 1 #[(0,x)]) (u:Un) (hu:u.B.length=105) (hx:a.eval x=.agg (fl [[.int .u32 u.ack],[.int .u32 u.seq],bw u.B,[.bool u.idle]])) :
  (execOp a.eval o).run Try.prog w=.ok (.value (.slice (some ⟨w.heap.size,0,none⟩) 1 1)) (w.alloc (.cells (fl [[.int .u32 u.ack],[.int .u32 u.seq],bw u.B,[.bool u.idle]]) 53 (0,0))):=by
 obtain ⟨i,h1,h2⟩:=Option.map_eq_some_iff.1 infU
 have h3:i.zero=some (.agg (fl [[.int .u32 0],[.int .u32 0],bw Z105,[.bool false]])):=congrArg Prod.fst h2
 have h4:i.size=108:=congrArg Prod.snd h2
 have hl:=unr_len hu
 have hf:=fill_seg (place:=fun i=>some (i * 108,108)) (S:=[unr uZ]) (N:=[108]) (by kernel_rfl) (v:=.agg (fl [[.int .u32 u.ack],[.int .u32 u.seq],bw u.B,[.bool u.idle]])) (vs:=unr u) rfl 0 0 (by rw [hl]; rfl) (by rw [hl]; rfl) []
 rw [fill_nil] at hf
 have h:=run_buildSlice (P:=Try.prog) w 40 53 1 #[(0,.agg (fl [[.int .u32 u.ack],[.int .u32 u.seq],bw u.B,[.bool u.idle]]))] (fl [unr u]) i _ Try.underlying40 h1 h3 (by rw [h4]; decide) (by rw [h4]; decide) (by
  rw [h4,← show fl ([unr uZ].set 0 (unr u))=fl [unr u] from rfl,← hf]
  congr 1
  kernel_rfl)
 rw [show fl [unr u]=fl [[.int .u32 u.ack],[.int .u32 u.seq],bw u.B,[.bool u.idle]] from by simp [fl,unr]] at h
 unfold execOp
 simp only [ho,List.map_toArray,List.map_cons,List.map_nil,hx,Sem.run_bind,h,Result.andThen_ok,Sem.run_pure]
def ND:List Nat:=[1,1,105,1]
def NS2:List Nat:=[1,1,1,1,1,1,1,1,1,1,1,1,1,1,1,1]
theorem nD {B:List Int} (h:B.length=105) (a b c:Value):[[a],[b],bw B,[c]].map List.length=ND:=by simp [bw_len,ND,h]
theorem nS2 (a b c d e f g h i j k l m n o p:Value):[[a],[b],[c],[d],[e],[f],[g],[h],[i],[j],[k],[l],[m],[n],[o],[p]].map List.length=NS2:=rfl
theorem oD (B:List Int) {a b c:Value} (h1:a.oneCell'=true) (h2:b.oneCell'=true) (h3:c.oneCell'=true):(fl [[a],[b],bw B,[c]]).all (·.oneCell')=true:=by simp [fl,bw,u8_one,h1,h2,h3]
theorem bltD (vs:List (Nat × Value)):Try.prog.built 53 vs=Instr.fill (#[(0,1),(1,1),(2,105),(107,1)][·]?) (fl [[.int .u32 0],[.int .u32 0],bw Z105,[.bool false]]) vs:=by kernel_rfl
theorem bD03 {z0:Int} {z3:Bool} (w:World) {a:Act} {o:Oper} (x0 x3:Operand) (ho:o.op=.build 53 #[(0,x0),(3,x3)]) (e0:a.eval x0=.int .u32 z0) (e3:a.eval x3=.bool z3) :
  (execOp a.eval o).run Try.prog w=.ok (.value (.agg (fl [[.int .u32 z0],[.int .u32 0],bw Z105,[.bool z3]]))) w:=by
 refine exec_bld w _ _ [(0,.int .u32 z0),(3,.bool z3)] ho (by simp [e0,e3]) _ ?_
 rw [bltD]
 rw [fill_seg (N:=ND) (nD Z105_len _ _ _) (vs:=[.int .u32 z0]) rfl 0 0 rfl rfl]
 simp only [List.set_cons_zero,List.set_cons_succ]
 rw [fill_seg (N:=ND) (nD Z105_len _ _ _) (vs:=[.bool z3]) rfl 3 3 rfl rfl]
 simp only [List.set_cons_zero,List.set_cons_succ]
 exact fill_nil _ _
abbrev cg (c:Cm) (x:Lc):Array Value:=fl [[.int .u32 c.nx],[.slice x.ao x.no x.co],[.int .i64 c.tn],[.int .u32 c.dl],[.slice x.ah x.nh x.ch]]
abbrev sd (c:Cm) (x:Lc) (q d v:Value):Array Value:=fl [[.int .u32 c.nx],[.slice x.ao x.no x.co],[.int .i64 c.tn],[.int .u32 c.dl],[.slice x.ah x.nh x.ch],[q],[d],[v]]
abbrev sg (c:Cm) (x:Lc) (q d v:Value) (e:Cm) (y:Lc) (r s t:Value):Array Value:=fl [[.int .u32 c.nx],[.slice x.ao x.no x.co],[.int .i64 c.tn],[.int .u32 c.dl],[.slice x.ah x.nh x.ch],[q],[d],[v],[.int .u32 e.nx],[.slice y.ao y.no y.co],[.int .i64 e.tn],[.int .u32 e.dl],[.slice y.ah y.nh y.ch],[r],[s],[t]]
abbrev cg0:Array Value:=fl [[.int .u32 0],[.slice none 0 0],[.int .i64 0],[.int .u32 0],[.slice none 0 0]]
abbrev cu0:Array Value:=fl [[.int .u32 0],[.int .u32 0],bw Z105,[.bool false]]
abbrev cst (k i r:Int) (l:Bool):Array Value:=fl [[.int .i64 k],[.int .i64 i],[.int .i64 r],[.bool l]]
end Go.Proofs.Ytcefkkoombmndab
