/-
  What the proof leans on.
-/
import Derived.Lib.AppendStr
import Derived.Test.YthahhglbeafkmaaGreatDoorMK5
namespace Go.Proofs.YthahhglbeafkmaaGreatDoor
open Go.RowKit
set_option maxRecDepth 100000
set_option linter.unusedSimpArgs false
set_option linter.unusedVariables false
def lastT (K I:List Int):Nat→List Int
 | 0=>[]
 | i+1=>hmacL K (lastT K I i++(I++[(((i+1) % 256:Nat):Int)]))
def outT (K I:List Int):Nat→List Int
 | 0=>[]
 | i+1=>outT K I i++lastT K I (i+1)
theorem outT_len (K I:List Int):∀ i,(outT K I i).length=32 * i
 | 0=>rfl
 | i+1=>by
  rw [outT,List.length_append,outT_len K I i,lastT,hmacL_len]
  omega
theorem outT_add (K I:List Int) (m:Nat):∀ d,∃ r,outT K I (m+d)=outT K I m++r
 | 0=>⟨[],by simp⟩
 | d+1=>by
  obtain ⟨r,hr⟩:=outT_add K I m d
  refine ⟨r++lastT K I (m+d+1),?_⟩
  rw [← Nat.add_assoc,outT,hr,List.append_assoc]
def spL (K I:List Int) (n:Nat):List Int:=(outT K I ((n+31) / 32)).take n
theorem spL_len (K I:List Int) (n:Nat):(spL K I n).length=n:=by
 unfold spL
 rw [List.length_take,outT_len]
 omega
theorem spL_of (K I:List Int) (n m:Nat) (h:n≤32 * m):(outT K I m).take n=spL K I n:=by
 obtain ⟨d,hd⟩:∃ d,m=(n+31) / 32+d:=⟨m - (n+31) / 32,by omega⟩
 obtain ⟨r,hr⟩:=outT_add K I ((n+31) / 32) d
 unfold spL
 rw [hd,hr,List.take_append_of_le_length (by rw [outT_len]; omega)]
theorem spL_fewer (K I:List Int) (n m:Nat) (h:n≤m):(spL K I m).take n=spL K I n:=by
 unfold spL
 rw [List.take_take,Nat.min_eq_left h]
 exact spL_of K I n _ (by omega)
theorem lastT_isB (K I:List Int):∀ i,IsB (lastT K I i)
 | 0=>by intro x hx; cases hx
 | i+1=>by rw [lastT]; exact sumL_isB _
theorem outT_isB (K I:List Int):∀ i,IsB (outT K I i)
 | 0=>by intro x hx; cases hx
 | i+1=>by rw [outT]; exact isB_append (outT_isB K I i) (lastT_isB K I (i+1))
theorem spL_isB (K I:List Int) (n:Nat):IsB (spL K I n):=isB_take (outT_isB _ _ _) n
theorem lastT_len (K I:List Int) (i:Nat):(lastT K I (i+1)).length=32:=by rw [lastT]; exact hmacL_len _ _
def Spr (K I:List Int) (n:Nat) (w:World) (r:Ending) (w':World):Prop:=∃ a,r=.returned (.slice a n n)∧Lb w' a n n (spL K I n)∧(∀ x,a=some x→w.heap.size≤x.block)∧Gr w w'
structure SI (w:World) (b gk:Nat) (K I:List Int) (i:Nat) (v7:Value) (a8:Option Addr) (n8 c8:Nat) (v:World):Prop where
 ob:Ob b v v7 (outT K I i)
 la:Lb v a8 n8 c8 (lastT K I i)
 bk:v.heap[gk]?=some (.cells (kc K) 23 (0,0))
 gr:Gr w v
 sz:b≤v.heap.size
theorem SI.more {w:World} {b gk:Nat} {K I:List Int} {i:Nat} {v7:Value} {a8:Option Addr} {n8 c8:Nat} {u v:World} (h:SI w b gk K I i v7 a8 n8 c8 u) (k:Gr u v):SI w b gk K I i v7 a8 n8 c8 v :=
 ⟨h.ob.gr k,h.la.gr k,k.blk h.bk,h.gr.trans k,Nat.le_trans h.sz k.size⟩
set_option maxHeartbeats 2000000 in
theorem spread_ok (K:List Int) (hKl:K.length=32) (hKb:IsB K) (I:List Int) (a:Option Addr) (ni ci:Nat) (n:Nat) (hn:n≤8160) (hni:ni≤1152921504606830000) (w:World) (hF:Fst w) (hI:Lb w a ni ci I) :
  Calls Tryz.prog 106 #[.agg (kc K),.slice a ni ci,.int .i64 n] w (Spr K I n w):=by
 obtain ⟨T,hT⟩:∃ T,T=Spr K I n w:=⟨_,rfl⟩
 rw [← hT]
 obtain ⟨KK,hKK⟩:∃ KK,KK=kc K:=⟨_,rfl⟩
 rw [← hKK]
 have hKs:KK.size=32:=by rw [hKK,kc_size,hKl]
 replace hT:=hide hT
 replace hF:=hide hF
 replace hI:=hide hI
 replace hKK:=hide hKK
 replace hKb:=hide hKb
 have w1:IntKind.i64.wrap ((n:Int)+32)=(n:Int)+32:=by rw [IntKind.wrap_i64]; omega
 have w2:(0:Int)≤(n:Int)+32:=by omega
 go_enter Tryz.func106,Tryz.ntmps106
 go_upto_region 1 with fail
 have hB:=(Bl.nil w).new KK 23
 simp only [List.nil_append] at hB
 generalize World.alloc _ _=u1 at *
 refine wp_region_lit ?_
 iterate 2 (refine wpList_step fun K hK=>?_; replace hK:=hide hK; go_simp; refine unhide hK _ _ ?_; clear hK K)
 refine wpList_make_room u1 rfl (.const (.int .i64 0)) (.tmp 12) rfl 0 ((n:Int)+32) 0 (n+32) (by kernel_rfl) (by kernel_rfl) (by omega) (by omega) (by omega) (by omega) ?_
 have hO:Ob u1.heap.size (u1.alloc (.cells (kc (List.replicate (n+32) 0)) 5 (0,0))) (.slice (some ⟨u1.heap.size,0,none⟩) 0 (n+32)) [] :=
  ⟨rfl,.inr ⟨u1.heap.size,n+32,_,rfl,Nat.le_refl _,blk_new _ _,by simp,by unfold maxLen; omega,by rw [kc_size]; simp,by simp⟩⟩
 have hg:=(Gr.refl u1).alloc (.cells (kc (List.replicate (n+32) 0)) 5 (0,0))
 have hgk:w.heap.size<u1.heap.size:=by have:=lt_of_block (hB.get 0 (x:=⟨w.heap.size,KK,23⟩) rfl); exact this
 replace hB:=hB.more hg
 have hbs:=hg.size
 generalize World.alloc _ _=u2 at *
 generalize u1.heap.size=b at *
 clear hg
 simp only [nrm]
 have hS:SI w b w.heap.size K I 0 (.slice (some ⟨b,0,none⟩) 0 (n+32)) none 0 0 u2:=⟨hO,Lb.nil _,(by rw [← unhide hKK]; exact hB.get 0 (x:=⟨w.heap.size,KK,23⟩) rfl),hB.gr,hbs⟩
 clear hO hB hbs
 replace hS:=hide hS
 iterate 1 (refine wpList_step fun K hK=>?_; replace hK:=hide hK; go_simp; refine unhide hK _ _ ?_; clear hK K)
 refine wpList_nil ?_
 go_wp2_with fail
 go_loopw [7,8,9] (fun x y z wr=>∃ (i:Nat) (a7:Option Addr) (c7:Nat) (a8:Option Addr) (n8 c8:Nat),i≤(n+31) / 32∧x=.slice a7 (32 * i) c7∧y=.slice a8 n8 c8∧z=.int .i64 ((i+1:Nat):Int)∧Hid (SI w b w.heap.size K I i (.slice a7 (32 * i) c7) a8 n8 c8 wr)) (fun x _ _ _=>n+32 - slenV x)
 case atStart=>exact ⟨0,_,n+32,none,0,0,by omega,rfl,rfl,rfl,hS⟩
 case round =>
 clear hS
 obtain ⟨i,a7,c7,a8,n8,c8,hi,rfl,rfl,rfl,hS⟩:=hrel
 by_cases hl:32 * i<n
 ·have lI:32 * (i:Int)<(n:Int):=by omega
  have e1:IntKind.i64.wrap ((i:Int)+1+1)=(i:Int)+1+1:=by rw [IntKind.wrap_i64]; omega
  obtain ⟨y,hy⟩:∃ y:Int,y=(((i+1) % 256:Nat):Int):=⟨_,rfl⟩
  have e2:IntKind.u8.wrap ((i:Int)+1)=y:=by rw [IntKind.wrap_u8',hy]; omega
  have hyb:0≤y∧y<256:=by omega
  have hnx:Hid (hmacL K ([lastT K I i,I,[y]]:List (List Int)).flatten=lastT K I (i+1)):=by
   have e:([lastT K I i,I,[y]]:List (List Int)).flatten=lastT K I i++(I++[y]):=by simp
   rw [e,hy]
   exact rfl
  replace hy:=hide hy
  go_upto_region 6 with fail
  refine wp_region_lit ?_
  iterate 5 (refine wpList_step fun K hK=>?_; replace hK:=hide hK; go_simp; refine unhide hK _ _ ?_; clear hK K)
  refine list_valw (.slice (some ⟨wr.heap.size,0,none⟩) 1 1) (wr.alloc (.cells (kc [y]) 5 (0,0))) (by kernel_rfl) (by kernel_rfl) ?_
  simp only [nrm]
  have hg:=(Gr.refl wr).alloc (.cells (kc [y]) 5 (0,0))
  have l3:Lb (wr.alloc (.cells (kc [y]) 5 (0,0))) (some ⟨wr.heap.size,0,none⟩) 1 1 [y]:=⟨rfl,(by intro x hx; simp at hx; subst hx; exact hyb),.inr ⟨_,0,rfl,kc_at (blk_new _ _)⟩,by omega,by omega⟩
  replace hS:=(unhide hS).more hg
  generalize World.alloc _ _=v1 at *
  generalize wr.heap.size=g1 at *
  clear hg
  refine list_valw (.slice (some ⟨v1.heap.size,0,none⟩) 3 3) (v1.alloc (.cells #[.slice a8 n8 c8,.slice a ni ci,.slice (some ⟨g1,0,none⟩) 1 1] 43 (0,0))) (by kernel_rfl) (by kernel_rfl) ?_
  simp only [nrm]
  have hg:=(Gr.refl v1).alloc (.cells #[.slice a8 n8 c8,.slice a ni ci,.slice (some ⟨g1,0,none⟩) 1 1] 43 (0,0))
  have hnew:=blk_new v1 (.cells #[.slice a8 n8 c8,.slice a ni ci,.slice (some ⟨g1,0,none⟩) 1 1] 43 (0,0))
  replace hS:=hS.more hg
  replace l3:=l3.gr hg
  generalize World.alloc _ _=v2 at *
  generalize v1.heap.size=g2 at *
  clear hg
  have hP:=Pr.three hnew hS.la ((unhide hI).gr hS.gr) l3
  refine list_call 124 #[.slice (some ⟨w.heap.size,0,none⟩) 32 32,.slice (some ⟨g2,0,none⟩) 3 3] (by kernel_rfl) (by kernel_rfl) ((hmac_ok K (unhide hKb) 32 hKl (by omega) _ 32 (by omega) (by omega) [lastT K I i,I,[y]] _ 3 3 rfl (by omega) (by have h1:(lastT K I i).length≤32:=(by cases i with | zero=>simp [lastT] | succ j=>rw [lastT_len]; omega); have h2:=(unhide hI).len; simp only [List.flatten_cons,List.flatten_nil,List.length_append,List.length_nil,List.length_cons]; omega) _ ((unhide hF).gr hS.gr) (.inr ⟨_,0,rfl,kc_at hS.bk⟩) hP).mono ?_)
  rintro r v3 ⟨rfl,hg⟩
  refine ⟨_,rfl,?_⟩
  replace hS:=hS.more hg
  clear hg hP hnew l3
  rw [unhide hnx]
  simp only [nrm]
  obtain ⟨M,hM⟩:∃ M,M=lastT K I (i+1):=⟨_,rfl⟩
  have hMl:M.length=32:=by rw [hM]; exact lastT_len _ _ _
  have hMb:IsB M:=by rw [hM]; exact lastT_isB _ _ _
  rw [← hM]
  replace hM:=hide hM
  replace hS:=hide hS
  replace hMb:=hide hMb
  iterate 1 (refine wpList_step fun K hK=>?_; replace hK:=hide hK; go_simp; refine unhide hK _ _ ?_; clear hK K)
  have hL:=(Bl.nil v3).new #[.int .u8 0,.int .u8 0,.int .u8 0,.int .u8 0,.int .u8 0,.int .u8 0,.int .u8 0,.int .u8 0,.int .u8 0,.int .u8 0,.int .u8 0,.int .u8 0,.int .u8 0,.int .u8 0,.int .u8 0,.int .u8 0,.int .u8 0,.int .u8 0,.int .u8 0,.int .u8 0,.int .u8 0,.int .u8 0,.int .u8 0,.int .u8 0,.int .u8 0,.int .u8 0,.int .u8 0,.int .u8 0,.int .u8 0,.int .u8 0,.int .u8 0,.int .u8 0] 23
  simp only [List.nil_append] at hL
  generalize World.alloc _ _=v4 at *
  replace hL:Bl v3 [⟨v3.heap.size,kc Z32,23⟩] v4:=hL
  refine list_store 23 (.tmp 10) (.tmp 27) v3.heap.size (kc M) 23 (kc Z32) (by kernel_rfl) rfl (by kernel_rfl) (by kernel_rfl) (hL.get 0 (x:=⟨v3.heap.size,kc Z32,23⟩) rfl) (by rw [Tryz.infoKey,kc_size,hMl]) ((show (kc Z32).size=32 from rfl).trans ((kc_size _).trans hMl).symm) (kc_one _) ?_
  replace hL:=hL.set 0 (x:=⟨v3.heap.size,kc Z32,23⟩) rfl (kc M)
  simp only [List.set_cons_zero,List.set_cons_succ] at hL
  generalize World.setRow _ _ _=v5 at *
  simp only [nrm]
  refine wpList_nil ?_
  have hks:=hL.get 0 (x:=⟨v3.heap.size,kc M,23⟩) rfl
  dsimp only at hks
  have hobl:∀ q,(Value.slice a7 (32 * i) c7).ownBlock=some q→q≠v3.heap.size:=fun q hq=>by have:=(World.ownsRow.lt (unhide hS).ob q hq).2; omega
  replace hS:=hide ((unhide hS).more hL.gr)
  generalize v3.heap.size=gc at *
  clear hL
  replace hobl:=hide hobl
  replace hks:=hide hks
  go_upto_region 8 with fail
  replace hS:=unhide hS
  replace hks:=unhide hks
  replace hobl:=unhide hobl
  refine wp_region_lit ?_
  iterate 2 (refine wpList_step fun K hK=>?_; replace hK:=hide hK; go_simp; refine unhide hK _ _ ?_; clear hK K)
  refine app_bs (by kernel_rfl) (.tmp 29) (.tmp 30) rfl b (.slice a7 (32 * i) c7) (outT K I i) (by kernel_rfl) hS.ob (some ⟨gc,0,none⟩) 32 32 M (by kernel_rfl) hMl (.inr ⟨gc,0,rfl,kc_at hks⟩) (by rw [outT_len]; omega) hS.sz ?_
  intro x5 v6 hO2 hgb
  have hks2:v6.heap[gc]?=some (.cells (kc M) 23 (0,0)):=by rw [hgb.block gc (lt_of_block hks) (fun e=>hobl gc e.symm rfl)]; exact hks
  have hbk2:v6.heap[w.heap.size]?=some (.cells (kc K) 23 (0,0)):=by
   rw [hgb.block w.heap.size (lt_of_block hS.bk) (fun e=>by have:=(World.ownsRow.lt hS.ob _ e.symm).1; omega)]; exact hS.bk
  have hG2:=hS.ob.grown (by omega) hS.gr hgb
  have hsz2:=Nat.le_trans hS.sz hgb.size
  obtain ⟨a5,c5,rfl,_,_,_⟩:=hO2.slice
  have hO3:Ob b v6 (.slice a5 (32 * (i+1)) c5) (outT K I (i+1)):=by
   have e:outT K I (i+1)=outT K I i++M:=by rw [outT,unhide hM]
   rw [← e] at hO2
   rw [outT_len] at hO2
   exact hO2
  have hlen:(outT K I i++M).length=32 * (i+1):=by rw [List.length_append,outT_len,hMl]; omega
  rw [hlen]
  have hS2:SI w b w.heap.size K I (i+1) (.slice a5 (32 * (i+1)) c5) (some ⟨gc,0,none⟩) 32 32 v6:=⟨hO3,⟨lastT_len _ _ _,lastT_isB _ _ _,.inr ⟨gc,0,rfl,by rw [← unhide hM]; exact kc_at hks2⟩,by omega,by omega⟩,hbk2,hG2,hsz2⟩
  clear hS hO2 hO3 hgb hks hks2 hbk2 hG2 hsz2 hobl hlen
  simp only [nrm]
  replace hS2:=hide hS2
  iterate 1 (refine wpList_step fun K hK=>?_; replace hK:=hide hK; go_simp; refine unhide hK _ _ ?_; clear hK K)
  refine wpList_nil ?_
  go_wp2_with fail
  refine ⟨⟨i+1,a5,c5,some ⟨gc,0,none⟩,32,32,by omega,rfl,rfl,by congr 1,hS2⟩,?_⟩
  show n+32 - 32 * (i+1)<n+32 - 32 * i
  omega
 ·have lI:¬ 32 * (i:Int)<(n:Int):=by omega
  obtain ⟨a6,c6,e6,hc6,hm6,hs6⟩:=(unhide hS).ob.slice
  rw [outT_len] at e6 hc6
  obtain ⟨rfl,_,rfl⟩:=(Value.slice.injEq _ _ _ _ _ _).mp e6
  have n1:(n:Int)≤(c7:Int):=by omega
  have n2:n≤c7:=by omega
  have hP:Hid (Spr K I n w (.returned (.slice a7 n n)) wr):=by
   refine ⟨a7,rfl,⟨spL_len _ _ _,spL_isB _ _ _,?_,Nat.le_refl _,by omega⟩,(fun x hx=>by have:=(World.ownsRow.lt (unhide hS).ob x.block (by rw [hx]; rfl)).1; omega),(unhide hS).gr⟩
   rw [← spL_of K I n i (by omega)]
   rcases hs6 with h | ⟨p,o,h1,h2⟩
   ·left; rw [h]; simp
   ·exact .inr ⟨p,o,h1,h2.take n⟩
  clear hs6 hm6 hc6 e6 hS
  go_wp2_with fail
  rw [unhide hT]
  exact unhide hP
end Go.Proofs.YthahhglbeafkmaaGreatDoor
namespace Go.Proofs.YthahhglbeafkmaaGreatDoor
open Go.RowKit
set_option maxRecDepth 100000
set_option linter.unusedSimpArgs false
set_option linter.unusedVariables false
def lw (X:Nat):Nat→List Int
 | 0=>[]
 | k+1=>lw X k++[((X / 256 ^ k % 256:Nat):Int)]
theorem lw_len (X:Nat):∀ k,(lw X k).length=k
 | 0=>rfl
 | k+1=>by rw [lw,List.length_append,lw_len X k]; rfl
theorem lw_isB (X:Nat):∀ k,IsB (lw X k)
 | 0=>by intro x hx; cases hx
 | k+1=>by
  intro x hx
  rw [lw] at hx
  rcases List.mem_append.1 hx with h | h
  ·exact lw_isB X k x h
  ·have:x=((X / 256 ^ k % 256:Nat):Int):=by simpa using h
   omega
def lwz (B:List Int) (X k:Nat):List Int:=B++(lw X k++List.replicate (4 - k) 0)
theorem lwz_len (B:List Int) (X k:Nat) (hk:k≤4):(lwz B X k).length=B.length+4:=by
 unfold lwz
 rw [List.length_append,List.length_append,lw_len,List.length_replicate]
 omega
theorem lwz_next (B:List Int) (X k:Nat) (hk:k<4):(lwz B X k).set (B.length+k) ((X / 256 ^ k % 256:Nat):Int)=lwz B X (k+1):=by
 obtain ⟨m,hm⟩:∃ m,4 - k=m+1:=⟨3 - k,by omega⟩
 have hm2:4 - (k+1)=m:=by omega
 unfold lwz
 rw [hm,hm2,List.set_append_right _ _ (by omega),Nat.add_sub_cancel_left,List.set_append_right _ _ (by rw [lw_len]; omega),lw_len,Nat.sub_self,List.replicate_succ,List.set_cons_zero,lw,List.append_assoc]
 rfl
theorem lwz_zero (B:List Int) (X:Nat):lwz B X 0=B++List.replicate 4 0:=rfl
theorem lwz_all (B:List Int) (X:Nat):lwz B X 4=B++lw X 4:=by unfold lwz; simp
def Putd (B:List Int) (X:Nat) (n:Nat) (w:World) (r:Ending) (w':World):Prop:=∃ g,r=.returned (.slice (some ⟨g,0,none⟩) (n+4) (n+4))∧w.heap.size≤g∧w'.heap[g]?=some (.cells (kc (B++lw X 4)) 5 (0,0))∧Gr w w'
set_option maxHeartbeats 2000000 in
theorem put_ok (B:List Int) (a:Option Addr) (n c:Nat) (X:Nat) (hX:X<4294967296) (hn:n≤140737488351232) (w:World) (hB:Lb w a n c B):Calls Tryz.prog 68 #[.slice a n c,.int .u64 X,.int .i64 4] w (Putd B X n w):=by
 obtain ⟨T,hT⟩:∃ T,T=Putd B X n w:=⟨_,rfl⟩
 rw [← hT]
 replace hT:=hide hT
 have hl:=hB.len
 replace hB:=hide hB
 have w1:IntKind.i64.wrap ((n:Int)+4)=(n:Int)+4:=by rw [IntKind.wrap_i64]; omega
 have w2:(0:Int)≤(n:Int)+4:=by omega
 replace hl:=hide hl
 go_enter Tryz.func68,Tryz.ntmps68
 go_upto_region 1 with fail
 refine wp_region_lit ?_
 iterate 4 (refine wpList_step fun K hK=>?_; replace hK:=hide hK; go_simp; refine unhide hK _ _ ?_; clear hK K)
 refine wpList_make_room w rfl (.tmp 12) (.tmp 12) rfl ((n:Int)+4) ((n:Int)+4) (n+4) (n+4) (by kernel_rfl) (by kernel_rfl) (by omega) (by omega) (by omega) (by omega) ?_
 have hv:=blk_new w (.cells (kc (List.replicate (n+4) 0)) 5 (0,0))
 have hg:=(Gr.refl w).alloc (.cells (kc (List.replicate (n+4) 0)) 5 (0,0))
 generalize World.alloc _ _=u1 at *
 simp only [nrm]
 replace hv:=hide hv
 replace hg:=hide hg
 iterate 1 (refine wpList_step fun K hK=>?_; replace hK:=hide hK; go_simp; refine unhide hK _ _ ?_; clear hK K)
 refine wpList_nil ?_
 go_upto_region 2 with fail
 refine wp_region_lit ?_
 iterate 2 (refine wpList_step fun K hK=>?_; replace hK:=hide hK; go_simp; refine unhide hK _ _ ?_; clear hK K)
 refine wpList_plain rfl fun K hK=>?_
 refine copy_wp (.tmp 14) (.tmp 15) rfl w.heap.size 0 (n+4) (n+4) a n c (by kernel_rfl) (by kernel_rfl) ((List.replicate (n+4) (0:Int)).map (Value.int .u8)) 5 (unhide hv) B (by rw [unhide hl]; exact (Nat.min_eq_left (by omega)).symm) (by rcases ((unhide hB).gr (unhide hg)).sl with h | ⟨p,o,h1,h2⟩; exact .inl h; exact .inr ⟨p,o,h1,h2⟩) (by rw [List.length_map,List.length_replicate,unhide hl]; omega) ?_
 have hv2:=setCells_heap (B.map (Value.int .u8)) u1 w.heap.size 0 _ _ (unhide hv)
 rw [sp_kc B _ (by rw [List.length_replicate,unhide hl]; omega)] at hv2
 have e0:B++(List.replicate (n+4) (0:Int)).drop B.length=lwz B X 0:=by
  rw [lwz_zero,List.drop_replicate,unhide hl]
  congr 2
  omega
 rw [e0] at hv2
 have hg2:=(setCells_bt (B.map (Value.int .u8)) u1 w.heap.size 0).gr (unhide hg) (Nat.le_refl _)
 refine hK _ _ ?_
 clear hK K hv hg e0
 simp only [nrm]
 generalize World.setCells _ _ _ _=u2 at *
 rw [unhide hl]
 replace hv2:Hid (u2.heap[w.heap.size]?=some (.cells (kc (lwz B X 0)) 5 (0,0))):=hv2
 replace hg2:=hide hg2
 iterate 1 (refine wpList_step fun K hK=>?_; replace hK:=hide hK; go_simp; refine unhide hK _ _ ?_; clear hK K)
 refine wpList_nil ?_
 go_wp2_with fail
 go_loopw [8,1] (fun i x wr=>∃ k:Nat,k≤4∧i=.int .i64 ((n+k:Nat):Int)∧x=.int .u64 ((X / 256 ^ k:Nat):Int)∧Hid (wr.heap[w.heap.size]?=some (.cells (kc (lwz B X k)) 5 (0,0)))∧Hid (Gr w wr)) (fun i _ _=>n+4 - (intOf i).toNat)
 case atStart=>exact ⟨0,by omega,rfl,by simp,hv2,hg2⟩
 case round =>
 clear hv2 hg2
 obtain ⟨k,hk,rfl,rfl,hv,hg⟩:=hrel
 by_cases hlt:k<4
 ·obtain ⟨q,hq⟩:∃ q,q=n+k:=⟨_,rfl⟩
  obtain ⟨Y,hY⟩:∃ Y,Y=X / 256 ^ k:=⟨_,rfl⟩
  obtain ⟨y,hy⟩:∃ y:Int,y=((Y % 256:Nat):Int):=⟨_,rfl⟩
  have q1:(q:Int)<(n:Int)+4:=by omega
  have q2:q<n+4:=by omega
  have q3:0≤(q:Int)∧(q:Int)<((n+4:Nat):Int):=by omega
  have q4:IntKind.i64.wrap ((q:Int)+1)=(q:Int)+1:=by rw [IntKind.wrap_i64]; omega
  have e1:IntKind.u8.wrap (Y:Int)=y:=by rw [IntKind.wrap_u8',hy]; omega
  obtain ⟨Z,hZ⟩:∃ Z,Z=X / 256 ^ (k+1):=⟨_,rfl⟩
  have e2:(Y:Int) / 256=(Z:Int):=by rw [hZ,hY,Nat.pow_succ,← Nat.div_div_eq_div_mul]; omega
  have cs:=kc_cell (unhide hv) q (by rw [lwz_len _ _ _ (by omega),unhide hl]; omega)
  have fs:=froz_of (i:=q) (unhide hv)
  have hv2:=heap_setCell_same wr w.heap.size q _ _ (.int .u8 y) (unhide hv)
  rw [kc_set] at hv2
  have hnx:(lwz B X k).set q y=lwz B X (k+1):=by
   rw [hq,hy,hY,← unhide hl]
   exact lwz_next B X k hlt
  rw [hnx] at hv2
  have hg2:=(setCells_bt [.int .u8 y] wr w.heap.size q).gr (unhide hg) (Nat.le_refl _)
  replace hg2:Hid (Gr w (wr.setCell ⟨w.heap.size,q,none⟩ (.int .u8 y))):=hg2
  replace hv2:=hide hv2
  rw [← hq,← hY]
  generalize (lwz B X k).getD q 0=old at cs
  clear hnx
  replace hq:=hide hq
  replace hY:=hide hY
  replace hy:=hide hy
  replace hZ:=hide hZ
  go_wp2_with fail
  have h1:=unhide hq
  refine ⟨⟨k+1,by omega,by congr 1; omega,by rw [unhide hZ],hv2,hg2⟩,?_⟩
  show n+4 - ((q:Int)+1).toNat<n+4 - (q:Int).toNat
  omega
 ·have e:k=4:=by omega
  subst e
  have hP:Hid (Putd B X n w (.returned (.slice (some ⟨w.heap.size,0,none⟩) (n+4) (n+4))) wr):=⟨_,rfl,Nat.le_refl _,by rw [← lwz_all]; exact unhide hv,unhide hg⟩
  clear hlt hv hg
  go_wp2_with fail
  rw [unhide hT]
  exact unhide hP
theorem put32_ok (B:List Int) (a:Option Addr) (n c:Nat) (X:Nat) (hX:X<4294967296) (hn:n≤140737488351232) (w:World) (hB:Lb w a n c B):Calls Tryz.prog 41 #[.slice a n c,.int .u32 X] w (Putd B X n w):=by
 obtain ⟨T,hT⟩:∃ T,T=Putd B X n w:=⟨_,rfl⟩
 rw [← hT]
 replace hT:=hide hT
 replace hB:=hide hB
 go_enter Tryz.func41,Tryz.ntmps41
 go_wp2_with (go_at_call 68; refine (put_ok B a n c X hX hn _ (unhide hB)).mono ?_; rintro e u1 ⟨g,rfl,h1,h2,h3⟩)
 rw [unhide hT]
 exact ⟨g,rfl,h1,h2,h3⟩
theorem length_ok (X:Nat) (hX:X<4294967296) (w:World):Calls Tryz.prog 125 #[.int .i64 X] w (Putd [] X 0 w):=by
 obtain ⟨T,hT⟩:∃ T,T=Putd [] X 0 w:=⟨_,rfl⟩
 rw [← hT]
 replace hT:=hide hT
 have e1:IntKind.u32.wrap (X:Int)=(X:Int):=by rw [IntKind.wrap_u32]; omega
 go_enter Tryz.func125,Tryz.ntmps125
 go_wp2_with (go_at_call 41; refine (put32_ok [] none 0 0 X hX (by omega) _ (Lb.nil _)).mono ?_; rintro e u1 ⟨g,rfl,h1,h2,h3⟩)
 rw [unhide hT]
 exact ⟨g,rfl,h1,h2,h3⟩
def tb (s:ByteArray):List Int:=s.data.toList.map fun x=>((x.toNat:Nat):Int)
theorem tb_len (s:ByteArray):(tb s).length=s.size:=by unfold tb; simp
theorem tb_isB (s:ByteArray):IsB (tb s):=by
 intro x hx
 obtain ⟨y,_,rfl⟩:=List.mem_map.1 hx
 have:=y.toNat_lt
 omega
theorem tb_cells (s:ByteArray):Lib.strCells s=(tb s).map (Value.int .u8):=by unfold Lib.strCells tb; simp
theorem app_str {w:World} {ops:Array Oper} {rest:List Oper} {o:Oper} {a:Act} {Q:Exit→Act→World→Prop} (hgd:o.guard=none) (s x:Operand)
  (ho:o.op=.call { callee:=.builtin .append,args:=#[s,x],argTypes:=#[43,9] }) (b:Nat) (v:Value) (L:List Int) (hs:a.eval s=v) (hown:Ob b w v L)
  (t:ByteArray) (hx:a.eval x=.string t) (hbig:L.length+t.size≤140737488355328) (hB:b≤w.heap.size)
  (h:∀ v' w',Ob b w' v' (L++tb t)→w.grownBy w' v.ownBlock→wpList Tryz.prog ops Q rest (a.put o.dst v') w') :
  wpList Tryz.prog ops Q (o::rest) a w:=by
 obtain ⟨i0,hi,hz0,hz1,hz2⟩:=info_parts Tryz.info5
 refine Lib.wpList_append_own_string w hgd s x 43 9 ho b 5 i0 Tryz.underlying43 Tryz.underlying9 hi hz0 hz1 hz2 v L.length _ hs hown t hx (by unfold maxLen; omega) hbig hB ?_
 intro v' w' h1 h2 _
 refine h v' w' ?_ h2
 unfold Ob
 rw [List.length_append,List.map_append,tb_len,← tb_cells]
 exact h1
theorem Putd.ob {w w':World} {B:List Int} {X n g:Nat} (hn:B.length=n) (hg:w.heap.size≤g) (h:w'.heap[g]?=some (.cells (kc (B++lw X 4)) 5 (0,0))) (hb:n≤281474976710656):Ob w.heap.size w' (.slice (some ⟨g,0,none⟩) (n+4) (n+4)) (B++lw X 4):=by
 have hl:(B++lw X 4).length=n+4:=by rw [List.length_append,lw_len,hn]
 refine ⟨by simp,.inr ⟨g,n+4,kc (B++lw X 4),by rw [hl],hg,h,by omega,by unfold maxLen; omega,by rw [kc_size,hl]; omega,?_⟩⟩
 unfold kc
 rw [Nat.mul_one]
 exact List.take_of_length_le (by simp)
theorem Ob.up {b b':Nat} {w:World} {v:Value} {L:List Int} (h:Ob b w v L) (k:b'≤b):Ob b' w v L:=by
 obtain ⟨h1,h2 | ⟨g,cap,cur,h2,h3,h4,h5⟩⟩:=h
 ·exact ⟨h1,.inl h2⟩
 ·exact ⟨h1,.inr ⟨g,cap,cur,h2,by omega,h4,h5⟩⟩
theorem Ob.lb {b:Nat} {w:World} {v:Value} {L:List Int} (h:Ob b w v L) (hb:IsB L):∃ a c,v=.slice a L.length c∧Lb w a L.length c L:=by
 obtain ⟨a,c,h1,h2,h3,h4⟩:=h.slice
 exact ⟨a,c,h1,rfl,hb,h4,h2,by unfold maxLen at h3; omega⟩
def tpart (p:List Int):List Int:=lw p.length 4++p
theorem tpart_isB {p:List Int} (h:IsB p):IsB (tpart p):=isB_append (lw_isB _ _) h
def infL (l:List Int) (ps:List (List Int)) (k:Nat):List Int:=tpart l++((ps.take k).map tpart).flatten
theorem infL_next (l:List Int) (ps:List (List Int)) (k:Nat) (h:k<ps.length):infL l ps (k+1)=infL l ps k++tpart (ps.getD k []):=by
 unfold infL
 rw [List.take_add_one,List.getElem?_eq_getElem h,List.map_append,List.flatten_append,← List.append_assoc]
 simp [h]
def infoL (l:List Int) (ps:List (List Int)):List Int:=infL l ps ps.length
def small4 (ps:List (List Int)):Prop:=ps.length≤100∧∀ p ∈ ps,p.length≤4096
theorem infL_len (l:List Int) (ps:List (List Int)) (hl:l.length≤1000) (hp:small4 ps):∀ k,k≤ps.length→(infL l ps k).length≤1004+4100 * k
 | 0,_=>by unfold infL tpart; simp [lw_len]; omega
 | k+1,h=>by
  rw [infL_next l ps k (by omega),List.length_append]
  have h1:=infL_len l ps hl hp k (by omega)
  have h2:(tpart (ps.getD k [])).length≤4100:=by
   have h3:(ps.getD k []) ∈ ps:=by rw [List.getD_eq_getElem?_getD,List.getElem?_eq_getElem (by omega)]; exact List.getElem_mem _
   have:=hp.2 _ h3
   unfold tpart
   rw [List.length_append,lw_len]
   omega
  omega
def Infd (L:List Int) (w:World) (r:Ending) (w':World):Prop:=∃ v,r=.returned v∧Ob w.heap.size w' v L∧Gr w w'
set_option maxHeartbeats 2000000 in
theorem infoOf_ok (t:ByteArray) (ht:t.size≤1000) (ps:List (List Int)) (ap:Option Addr) (m cp:Nat) (hm:ps.length=m) (hp:small4 ps) (w:World) (hP:Pr w ap ps):Calls Tryz.prog 107 #[.string t,.slice ap m cp] w (Infd (infoL (tb t) ps) w):=by
 obtain ⟨T,hT⟩:∃ T,T=Infd (infoL (tb t) ps) w:=⟨_,rfl⟩
 rw [← hT]
 have hmb:m≤100:=by rw [← hm]; exact hp.1
 have htl:(tb t).length≤1000:=by rw [tb_len]; exact ht
 replace hT:=hide hT
 replace hP:=hide hP
 replace hp:=hide hp
 replace hm:=hide hm
 replace htl:=hide htl
 go_enter Tryz.func107,Tryz.ntmps107
 go_upto_region 1 with fail
 refine wp_region_lit ?_
 iterate 2 (refine wpList_step fun K hK=>?_; replace hK:=hide hK; go_simp; refine unhide hK _ _ ?_; clear hK K)
 refine list_call 125 #[.int .i64 t.size] (by kernel_rfl) (by kernel_rfl) ((length_ok t.size (by omega) _).mono ?_)
 rintro r u1 ⟨g,rfl,h1,h2,hg⟩
 refine ⟨_,rfl,?_⟩
 have hO:=Putd.ob (B:=[]) (n:=0) rfl h1 h2 (by omega)
 rw [List.nil_append] at hO
 clear h1 h2
 simp only [nrm]
 replace hO:=hide hO
 replace hg:=hide hg
 iterate 1 (refine wpList_step fun K hK=>?_; replace hK:=hide hK; go_simp; refine unhide hK _ _ ?_; clear hK K)
 refine app_str rfl (.tmp 10) (.tmp 11) rfl w.heap.size _ (lw t.size 4) (by kernel_rfl) (unhide hO) t (by kernel_rfl) (by rw [lw_len]; omega) (unhide hg).size ?_
 intro v2 u2 hO2 hgb
 have hG:=(unhide hO).grown (Nat.le_refl _) (unhide hg) hgb
 clear hgb hO hg
 have hO3:Ob w.heap.size u2 v2 (infL (tb t) ps 0):=by
  have e:infL (tb t) ps 0=lw t.size 4++tb t:=by unfold infL tpart; rw [tb_len]; simp
  rw [e]; exact hO2
 clear hO2
 obtain ⟨a2,c2,rfl,_,_,_⟩:=hO3.slice
 simp only [nrm]
 replace hO3:=hide hO3
 replace hG:=hide hG
 obtain ⟨n2,hn2⟩:∃ n2,n2=(infL (tb t) ps 0).length:=⟨_,rfl⟩
 rw [← hn2] at hO3
 rw [← hn2]
 replace hn2:=hide hn2
 iterate 1 (refine wpList_step fun K hK=>?_; replace hK:=hide hK; go_simp; refine unhide hK _ _ ?_; clear hK K)
 refine wpList_nil ?_
 go_wp2_with fail
 go_loopw [5,15] (fun x i wr=>∃ (k n:Nat) (a:Option Addr) (c:Nat),k≤m∧i=.int .i64 k∧x=.slice a n c∧Hid (n=(infL (tb t) ps k).length)∧Hid (Ob w.heap.size wr (.slice a n c) (infL (tb t) ps k))∧Hid (Gr w wr)) (fun _ i _=>m - (intOf i).toNat)
 case atStart=>exact ⟨0,n2,a2,c2,by omega,rfl,rfl,hn2,hO3,hG⟩
 case round =>
 clear hO3 hG hn2
 obtain ⟨k,n,a,c,hk,rfl,rfl,hn,hO,hG⟩:=hrel
 by_cases hl:k<m
 ·have kI:(k:Int)<(m:Int):=by omega
  obtain ⟨p,o,rfl,hq⟩:∃ p o,ap=some ⟨p,o,none⟩∧Pq w p o ps:=by
   rcases (unhide hP) with h | ⟨p,o,h1,h2⟩
   ·have:=unhide hm; rw [h] at this; simp at this; omega
   ·exact ⟨p,o,h1,h2⟩
  obtain ⟨aP,nP,cP,cc,hPl,hPb,hPs,hPc,hPm⟩:=hq k (by rw [unhide hm]; exact hl)
  replace cc:=(unhide hG).cell cc
  clear hq
  have hnx:=hide (infL_next (tb t) ps k (by rw [unhide hm]; exact hl))
  have hPs4:(ps.getD k []).length≤4096:=(unhide hp).2 _ (by rw [List.getD_eq_getElem?_getD,List.getElem?_eq_getElem (by rw [unhide hm]; exact hl)]; exact List.getElem_mem _)
  have hlen:=infL_len (tb t) ps (unhide htl) (unhide hp) k (by rw [unhide hm]; omega)
  generalize ps.getD k []=P at *
  have hPI:nP≤4096:=by omega
  replace hPs:=hide hPs
  replace hPb:=hide hPb
  replace hPl:=hide hPl
  replace hPs4:=hide hPs4
  replace hlen:=hide hlen
  go_upto_region 5 with fail
  refine wp_region_lit ?_
  iterate 3 (refine wpList_step fun K hK=>?_; replace hK:=hide hK; go_simp; refine unhide hK _ _ ?_; clear hK K)
  refine list_call 125 #[.int .i64 nP] (by kernel_rfl) (by kernel_rfl) ((length_ok nP (by omega) _).mono ?_)
  rintro r v1 ⟨g1,rfl,h1,h2,hg⟩
  refine ⟨_,rfl,?_⟩
  replace hO:=(unhide hO).gr hg
  replace hG:=(unhide hG).trans hg
  have hs1:Sl v1 (some ⟨g1,0,none⟩) (lw nP 4):=.inr ⟨g1,0,rfl,by rw [List.nil_append] at h2; exact kc_at h2⟩
  clear hg h1 h2
  simp only [nrm]
  refine app_bs (by kernel_rfl) (.tmp 19) (.tmp 22) rfl w.heap.size (.slice a n c) (infL (tb t) ps k) (by kernel_rfl) hO (some ⟨g1,0,none⟩) 4 4 (lw nP 4) (by kernel_rfl) (lw_len _ _) hs1 (by have:=unhide hlen; omega) hG.size ?_
  intro x2 v2 hO2 hgb
  replace hG:=hO.grown (Nat.le_refl _) hG hgb
  clear hgb hO hs1
  simp only [nrm]
  replace hO2:=hide hO2
  replace hG:=hide hG
  iterate 1 (refine wpList_step fun K hK=>?_; replace hK:=hide hK; go_simp; refine unhide hK _ _ ?_; clear hK K)
  replace hO2:=unhide hO2
  replace hG:=unhide hG
  refine app_bs (by kernel_rfl) (.tmp 23) (.tmp 24) rfl w.heap.size x2 (infL (tb t) ps k++lw nP 4) (by kernel_rfl) hO2 aP nP cP P (by kernel_rfl) (unhide hPl) ((unhide hPs).gr hG) (by rw [List.length_append,lw_len]; have:=unhide hlen; omega) hG.size ?_
  intro x3 v3 hO3 hgb
  replace hG:=hO2.grown (Nat.le_refl _) hG hgb
  clear hgb hO2
  have hO4:Ob w.heap.size v3 x3 (infL (tb t) ps (k+1)):=by
   rw [unhide hnx]
   unfold tpart
   rw [unhide hPl,← List.append_assoc]
   exact hO3
  obtain ⟨a5,c5,rfl,_,_,_⟩:=hO4.slice
  clear hO3
  obtain ⟨n5,hn5⟩:∃ n5,n5=(infL (tb t) ps (k+1)).length:=⟨_,rfl⟩
  rw [← hn5] at hO4
  rw [← hn5]
  replace hn5:=hide hn5
  simp only [nrm]
  replace hO4:=hide hO4
  replace hG:=hide hG
  iterate 1 (refine wpList_step fun K hK=>?_; replace hK:=hide hK; go_simp; refine unhide hK _ _ ?_; clear hK K)
  refine wpList_nil ?_
  go_wp2_with fail
  go_roundw
  case rel=>exact ⟨k+1,n5,a5,c5,by omega,by go_num,rfl,hn5,hO4,hG⟩
  case measure=>simp [intOf]; omega
 ·have e:k=m:=by omega
  subst e
  have hPd:Hid (Infd (infoL (tb t) ps) w (.returned (.slice a n c)) wr):=⟨_,rfl,by unfold infoL; rw [unhide hm]; exact unhide hO,unhide hG⟩
  clear hO hG hn
  go_wp2_with fail
  rw [unhide hT]
  exact unhide hPd
end Go.Proofs.YthahhglbeafkmaaGreatDoor
namespace Go.Proofs.YthahhglbeafkmaaGreatDoor
open Go.RowKit
set_option maxRecDepth 100000
set_option linter.unusedSimpArgs false
set_option linter.unusedVariables false
theorem results_two {P:Program} {fn:Func} {p q:Tmp} {ty:TypeId} (h:fn.results=#[.cell p ty,.cell q ty]) (tmps:Array Value) (w:World) (g g2:Nat) (t t2:TypeId) (cs cs2:Array Value) (fr fr2:Nat × Nat) (d:TypeDesc)
  (hp:tmps.getD p undef=.pointer (some ⟨g,0,none⟩)) (hq:tmps.getD q undef=.pointer (some ⟨g2,0,none⟩)) (hg:w.heap[g]?=some (.cells cs t fr)) (hg2:w.heap[g2]?=some (.cells cs2 t2 fr2))
  (hu:P.underlying ty=some d) (hd:(match d with | .struct _ | .array _ _=>true | _=>false)=true) (hi:(P.info? ty).map (·.size)=some cs.size) (hi2:(P.info? ty).map (·.size)=some cs2.size) :
  (results fn tmps).run P w=.ok (.tuple #[.agg cs,.agg cs2]) w:=by
 have hp':tmps[p]?.getD undef=.pointer (some ⟨g,0,none⟩):=by simpa using hp
 have hq':tmps[q]?.getD undef=.pointer (some ⟨g2,0,none⟩):=by simpa using hq
 simp [results,h,hp',hq',asAddr,run_loadVar_row w g t ty cs fr d hg hu hd hi,run_loadVar_row w g2 t2 ty cs2 fr2 d hg2 hu hd hi2]
theorem infoL_isB {l:List Int} {ps:List (List Int)} (hl:IsB l) (hp:∀ p ∈ ps,IsB p):IsB (infoL l ps):=by
 unfold infoL infL
 refine isB_append (tpart_isB hl) ?_
 intro x hx
 obtain ⟨q,hq,hx⟩:=List.mem_flatten.1 hx
 obtain ⟨p,hp2,rfl⟩:=List.mem_map.1 hq
 exact tpart_isB (hp p (List.mem_of_mem_take hp2)) x hx
theorem Pr.isB {w:World} {a:Option Addr} {ps:List (List Int)} (h:Pr w a ps):∀ p ∈ ps,IsB p:=by
 intro p hp
 rcases h with h | ⟨q,o,_,h2⟩
 ·rw [h] at hp; cases hp
 ·obtain ⟨j,hj⟩:=List.getElem?_of_mem hp
  have hj2:=(List.getElem?_eq_some_iff.1 hj).1
  obtain ⟨_,_,_,_,_,h3,_⟩:=h2 j hj2
  have e:ps.getD j []=p:=by rw [List.getD_eq_getElem?_getD,hj]; rfl
  rw [e] at h3
  exact h3
theorem Bl.copy {w v:World} {L:List Blk} (h:Bl w L v) (k:Nat) {g:Nat} {Z D:List Int} (hk:L[k]?=some ⟨g,kc Z,23⟩) (hZ:Z.length=32) (hD:D.length=32):Bl w (L.set k ⟨g,kc D,23⟩) (v.setCells g 0 (D.map (Value.int .u8))):=by
 have hv:=setCells_heap (D.map (Value.int .u8)) v g 0 (Z.map (Value.int .u8)) 23 (h.get k hk)
 rw [sp_kc D Z (by omega),List.drop_eq_nil_of_le (by omega),List.append_nil] at hv
 exact h.but (setCells_bt (D.map (Value.int .u8)) v g 0) k hk rfl hv
theorem add_block (x:Addr) (k:Nat):(x.add k).block=x.block:=by
 unfold Addr.add
 split <;> rfl
def Derd (D:List Int) (w:World) (r:Ending) (w':World):Prop:=r=.returned (.agg (kc D))∧Gr w w'
def Twod (D E:List Int) (w:World) (r:Ending) (w':World):Prop:=r=.returned (.tuple #[.agg (kc D),.agg (kc E)])∧Gr w w'
set_option maxHeartbeats 2000000 in
theorem derive_ok (Ky:List Int) (hKl:Ky.length=32) (hKb:IsB Ky) (t:ByteArray) (ht:t.size≤1000) (ps:List (List Int)) (ap:Option Addr) (m cp:Nat) (hm:ps.length=m) (hp:small4 ps) (w:World) (hF:Fst w) (hP:Pr w ap ps) :
  Calls Tryz.prog 85 #[.agg (kc Ky),.string t,.slice ap m cp] w (Derd (spL Ky (infoL (tb t) ps) 32) w):=by
 obtain ⟨T,hT⟩:∃ T,T=Derd (spL Ky (infoL (tb t) ps) 32) w:=⟨_,rfl⟩
 rw [← hT]
 obtain ⟨KK,hKK⟩:∃ KK,KK=kc Ky:=⟨_,rfl⟩
 rw [← hKK]
 have hKs:KK.size=32:=by rw [hKK,kc_size,hKl]
 have hIb:IsB (infoL (tb t) ps):=infoL_isB (tb_isB t) hP.isB
 have hIl:(infoL (tb t) ps).length≤1004+4100 * ps.length:=infL_len (tb t) ps (by rw [tb_len]; exact ht) hp ps.length (Nat.le_refl _)
 have hm100:=hp.1
 replace hT:=hide hT
 replace hF:=hide hF
 replace hP:=hide hP
 replace hp:=hide hp
 replace hm:=hide hm
 replace hKK:=hide hKK
 replace hKb:=hide hKb
 replace hIb:=hide hIb
 go_enter Tryz.func85,Tryz.ntmps85
 go_upto_region 2 with fail
 have hB:=(((Bl.nil w).new KK 23).new #[.int .u8 0,.int .u8 0,.int .u8 0,.int .u8 0,.int .u8 0,.int .u8 0,.int .u8 0,.int .u8 0,.int .u8 0,.int .u8 0,.int .u8 0,.int .u8 0,.int .u8 0,.int .u8 0,.int .u8 0,.int .u8 0,.int .u8 0,.int .u8 0,.int .u8 0,.int .u8 0,.int .u8 0,.int .u8 0,.int .u8 0,.int .u8 0,.int .u8 0,.int .u8 0,.int .u8 0,.int .u8 0,.int .u8 0,.int .u8 0,.int .u8 0,.int .u8 0] 23).new #[.int .u8 0,.int .u8 0,.int .u8 0,.int .u8 0,.int .u8 0,.int .u8 0,.int .u8 0,.int .u8 0,.int .u8 0,.int .u8 0,.int .u8 0,.int .u8 0,.int .u8 0,.int .u8 0,.int .u8 0,.int .u8 0,.int .u8 0,.int .u8 0,.int .u8 0,.int .u8 0,.int .u8 0,.int .u8 0,.int .u8 0,.int .u8 0,.int .u8 0,.int .u8 0,.int .u8 0,.int .u8 0,.int .u8 0,.int .u8 0,.int .u8 0,.int .u8 0] 23
 simp only [List.nil_append,List.cons_append,size_alloc] at hB
 generalize World.alloc _ _=u1 at *
 replace hB:Bl w [⟨w.heap.size,KK,23⟩,⟨w.heap.size+1,kc Z32,23⟩,⟨w.heap.size+1+1,kc Z32,23⟩] u1:=hB
 refine any_start (S:=fun v=>v.heap[w.heap.size]?=some (.cells KK 23 (0,0))) (by kernel_rfl) ?_
 replace hB:=hB.drew
 generalize World.drew _=u2 at *
 simp only [List.size_toArray,List.length_cons,List.length_nil,Array.replicate,List.replicate]
 refine any_take (i:=0) (v:=(.slice (some ⟨w.heap.size+1+1,0,none⟩) 32 32)) #[false,false,false,false,false,false,false] rfl (by kernel_rfl) (by kernel_rfl) (by kernel_rfl) (by kernel_rfl) (fun _ _ _ h=>h) (.inl ⟨by kernel_rfl,fun x_ hu=>by go_simp⟩) (hB.get 0 (x:=⟨w.heap.size,KK,23⟩) rfl) ?_
 simp only [nrm]
 refine any_take (i:=1) (v:=(.agg KK)) #[true,false,false,false,false,false,false] rfl (by kernel_rfl) (by kernel_rfl) (by kernel_rfl) (by kernel_rfl) (fun _ _ _ h=>h) (.inl ⟨by kernel_rfl,fun x_ hu=>exec_arr x_ 23 (.tmp 3) rfl w.heap.size (by kernel_rfl) KK 23 _ hu Tryz.underlying23 rfl (by rw [Tryz.infoKey,hKs])⟩) (hB.get 0 (x:=⟨w.heap.size,KK,23⟩) rfl) ?_
 simp only [nrm]
 refine any_take (i:=2) (v:=(.string t)) #[true,true,false,false,false,false,false] rfl (by kernel_rfl) (by kernel_rfl) (by kernel_rfl) (by kernel_rfl) (fun _ _ _ h=>h) (.inl ⟨by kernel_rfl,fun x_ hu=>by kernel_rfl⟩) (hB.get 0 (x:=⟨w.heap.size,KK,23⟩) rfl) ?_
 simp only [nrm]
 refine any_take (i:=3) (v:=(.slice ap m cp)) #[true,true,true,false,false,false,false] rfl (by kernel_rfl) (by kernel_rfl) (by kernel_rfl) (by kernel_rfl) (fun _ _ _ h=>h) (.inl ⟨by kernel_rfl,fun x_ hu=>by kernel_rfl⟩) (hB.get 0 (x:=⟨w.heap.size,KK,23⟩) rfl) ?_
 simp only [nrm]
 refine any_one (i:=4) (by kernel_rfl) rfl (fun K hK=>?_)
 refine step_callw (by kernel_rfl) 107 #[.string t,.slice ap m cp] (by kernel_rfl) ((infoOf_ok t ht ps ap m cp (unhide hm) (unhide hp) _ ((unhide hP).gr hB.gr)).mono ?_)
 rintro r y1 ⟨v1,rfl,hO,hg⟩
 refine ⟨_,rfl,?_⟩
 obtain ⟨a1,c1,rfl,l1⟩:=hO.lb (unhide hIb)
 clear hO
 obtain ⟨n1,hn1⟩:∃ n1,n1=(infoL (tb t) ps).length:=⟨_,rfl⟩
 rw [← hn1] at hIl l1
 rw [← hn1]
 replace hn1:=hide hn1
 replace hB:=hB.more hg
 clear hg
 refine hK.out _ _ (hB.get 0 (x:=⟨w.heap.size,KK,23⟩) rfl) (fun _=>?_)
 clear hK K
 simp only [nrm]
 refine any_one (i:=5) (by kernel_rfl) rfl (fun K hK=>?_)
 rw [unhide hKK]
 refine step_callw (by kernel_rfl) 106 #[.agg (kc Ky),.slice a1 n1 c1,.int .i64 32] (by kernel_rfl) ((spread_ok Ky hKl (unhide hKb) (infoL (tb t) ps) a1 n1 c1 32 (by omega) (by omega) _ ((unhide hF).gr hB.gr) l1).mono ?_)
 rintro r y2 ⟨a2,rfl,l2,hfr,hg⟩
 refine ⟨_,rfl,?_⟩
 rw [← unhide hKK]
 replace hB:=hB.more hg
 clear hg l1
 refine hK.out _ _ (hB.get 0 (x:=⟨w.heap.size,KK,23⟩) rfl) (fun _=>?_)
 clear hK K
 simp only [nrm]
 refine any_one (i:=6) (by kernel_rfl) rfl (fun K hK=>?_)
 obtain ⟨D,hD⟩:∃ D,D=spL Ky (infoL (tb t) ps) 32:=⟨_,rfl⟩
 have hDl:D.length=32:=by rw [hD]; exact spL_len _ _ _
 rw [← hD] at l2
 replace hD:=hide hD
 rw [if_pos (by kernel_rfl)]
 refine copy_wp (.tmp 8) (.tmp 13) rfl (w.heap.size+1+1) 0 32 32 a2 32 32 (by kernel_rfl) (by kernel_rfl) (Z32.map (Value.int .u8)) 23 (hB.get 2 (x:=⟨w.heap.size+1+1,kc Z32,23⟩) rfl) D (by rw [hDl]; rfl) (by rcases l2.sl with h | ⟨p,o,h1,h2⟩; exact .inl h; exact .inr ⟨p,o,h1,h2⟩) (by rw [hDl]; decide) ?_
 replace hB:=hB.copy 2 (Z:=Z32) (D:=D) rfl rfl hDl
 simp only [List.set_cons_zero,List.set_cons_succ] at hB
 refine hK.out _ _ (hB.get 0 (x:=⟨w.heap.size,KK,23⟩) rfl) (fun _=>?_)
 clear hK K l2
 generalize World.setCells _ _ _ _=y3 at *
 try simp only [nrm]
 refine any_done (by kernel_rfl) ?_
 replace hB:=hide hB
 go_upto_region 3 with fail
 replace hB:=unhide hB
 refine wp_region_lit ?_
 refine list_val (.agg (kc D)) (by kernel_rfl) (exec_arr _ 23 (.tmp 7) rfl (w.heap.size+1+1) (by kernel_rfl) (kc D) 23 _ (hB.get 2 (x:=⟨w.heap.size+1+1,kc D,23⟩) rfl) Tryz.underlying23 rfl (by rw [Tryz.infoKey,kc_size,hDl])) ?_
 simp only [nrm]
 refine list_store 23 (.tmp 6) (.tmp 15) (w.heap.size+1) (kc D) 23 (kc Z32) (by kernel_rfl) rfl (by kernel_rfl) (by kernel_rfl) (hB.get 1 (x:=⟨w.heap.size+1,kc Z32,23⟩) rfl) (by rw [Tryz.infoKey,kc_size,hDl]) ((show (kc Z32).size=32 from rfl).trans ((kc_size _).trans hDl).symm) (kc_one _) ?_
 replace hB:=hB.set 1 (x:=⟨w.heap.size+1,kc Z32,23⟩) rfl (kc D)
 simp only [List.set_cons_zero,List.set_cons_succ] at hB
 generalize World.setRow _ _ _=y4 at *
 simp only [nrm]
 refine wpList_nil ?_
 go_wp2_with fail
 rw [unhide hT]
 exact bodyPost_ret (v:=.agg (kc D)) (results_cell_row Tryz.results85 _ _ (w.heap.size+1) 23 (kc D) (0,0) _ rfl (hB.get 1 (x:=⟨w.heap.size+1,kc D,23⟩) rfl) Tryz.underlying23 rfl (by rw [Tryz.infoKey,kc_size,hDl])) rfl ⟨by rw [unhide hD],hB.gr⟩
end Go.Proofs.YthahhglbeafkmaaGreatDoor
namespace Go.Proofs.YthahhglbeafkmaaGreatDoor
open Go.RowKit
set_option maxRecDepth 100000
set_option linter.unusedSimpArgs false
set_option linter.unusedVariables false
theorem Lb.cellAt {w:World} {a:Option Addr} {n c:Nat} {B:List Int} (h:Lb w a n c B) {k:Nat} (hk:k<n):∃ p o,a=some ⟨p,o,none⟩∧w.cell? ⟨p,o+k,none⟩=some (.int .u8 (B.getD k 0)):=by
 have hl:=h.len
 rcases h.sl with h1 | ⟨p,o,h1,h2⟩
 ·rw [h1] at hl; simp at hl; omega
 ·exact ⟨p,o,h1,h2 k (by omega)⟩
theorem take_next (B:List Int) (k:Nat) (h:k<B.length):B.take (k+1)=B.take k++[B.getD k 0]:=by
 rw [List.take_add_one,List.getElem?_eq_getElem h]
 simp [h]
set_option maxHeartbeats 2000000 in
theorem both_ok (A B:List Int) (a b:Option Addr) (n c m d:Nat) (hb:n+m≤140737488355328) (w:World) (hA:Lb w a n c A) (hB:Lb w b m d B):Calls Tryz.prog 19 #[.slice a n c,.slice b m d] w (Infd (A++B) w):=by
 obtain ⟨T,hT⟩:∃ T,T=Infd (A++B) w:=⟨_,rfl⟩
 rw [← hT]
 have la:=hide hA.len
 have lb:=hide hB.len
 replace hT:=hide hT
 replace hA:=hide hA
 replace hB:=hide hB
 have w1:IntKind.i64.wrap ((n:Int)+(m:Int))=(n:Int)+(m:Int):=by rw [IntKind.wrap_i64]; omega
 have w2:(0:Int)≤(n:Int)+(m:Int):=by omega
 go_enter Tryz.func19,Tryz.ntmps19
 go_upto_region 1 with fail
 refine wp_region_lit ?_
 iterate 5 (refine wpList_step fun K hK=>?_; replace hK:=hide hK; go_simp; refine unhide hK _ _ ?_; clear hK K)
 refine wpList_make_room w rfl (.const (.int .i64 0)) (.tmp 12) rfl 0 ((n:Int)+(m:Int)) 0 (n+m) (by kernel_rfl) (by kernel_rfl) (by omega) (by omega) (by omega) (by omega) ?_
 have hO:Ob w.heap.size (w.alloc (.cells (kc (List.replicate (n+m) 0)) 5 (0,0))) (.slice (some ⟨w.heap.size,0,none⟩) 0 (n+m)) (A.take 0) :=
  ⟨rfl,.inr ⟨w.heap.size,n+m,_,rfl,Nat.le_refl _,blk_new _ _,by simp,by unfold maxLen; omega,by rw [kc_size]; simp,by simp⟩⟩
 have hG:=(Gr.refl w).alloc (.cells (kc (List.replicate (n+m) 0)) 5 (0,0))
 generalize World.alloc _ _=u at *
 simp only [nrm]
 replace hO:=hide hO
 replace hG:=hide hG
 iterate 1 (refine wpList_step fun K hK=>?_; replace hK:=hide hK; go_simp; refine unhide hK _ _ ?_; clear hK K)
 refine wpList_nil ?_
 go_wp2_with fail
 go_loopw [6,5] (fun i x wr=>∃ (k:Nat) (a5:Option Addr) (c5:Nat),k≤n∧i=.int .i64 k∧x=.slice a5 k c5∧Hid (Ob w.heap.size wr (.slice a5 k c5) (A.take k))∧Hid (Gr w wr)) (fun i _ _=>n - (intOf i).toNat)
 case atStart=>exact ⟨0,_,n+m,by omega,rfl,rfl,hO,hG⟩
 case round =>
 clear hO hG
 obtain ⟨k,a5,c5,hk,rfl,rfl,hO,hG⟩:=hrel
 by_cases hl:k<n
 ·have kI:(k:Int)<(n:Int):=by omega
  have kJ:0≤(k:Int)∧(k:Int)<(n:Int):=by omega
  have kw:IntKind.i64.wrap ((k:Int)+1)=(k:Int)+1:=by rw [IntKind.wrap_i64]; omega
  obtain ⟨p,o,rfl,cc⟩:=((unhide hA).gr (unhide hG)).cellAt hl
  have hnx:=hide (take_next A k (by rw [unhide la]; exact hl))
  have htl:Hid ((A.take k).length=k):=by rw [List.length_take,unhide la]; exact Nat.min_eq_left (by omega)
  generalize A.getD k 0=x at *
  go_upto_region 5 with fail
  refine wp_region_lit ?_
  iterate 6 (refine wpList_step fun K hK=>?_; replace hK:=hide hK; go_simp; refine unhide hK _ _ ?_; clear hK K)
  have hO2:=(unhide hO).gr ((Gr.refl wr).alloc (.cells #[.int .u8 x] 5))
  refine app_bs (by kernel_rfl) (.tmp 20) (.tmp 25) rfl w.heap.size (.slice a5 k c5) (A.take k) (by kernel_rfl) hO2 (some ⟨wr.heap.size,0,none⟩) 1 1 [x] (by kernel_rfl) rfl (.inr ⟨_,0,rfl,kc_at (l:=[x]) (blk_new _ _)⟩) (by rw [unhide htl]; omega) (by have:=(unhide hG).size; simp only [size_alloc]; omega) ?_
  intro v' w2 hO3 hgb
  have hG4:=hO2.grown (Nat.le_refl _) ((unhide hG).alloc _) hgb
  rw [← unhide hnx] at hO3
  obtain ⟨a6,c6,hv',_,_,_⟩:=hO3.slice
  have hl2:(A.take (k+1)).length=k+1:=by rw [List.length_take,unhide la]; omega
  rw [hl2] at hv'
  subst hv'
  clear hO hG hO2 hgb hl2 htl hnx
  replace hO3:=hide hO3
  replace hG4:=hide hG4
  simp only [nrm]
  iterate 1 (refine wpList_step fun K hK=>?_; replace hK:=hide hK; go_simp; refine unhide hK _ _ ?_; clear hK K)
  refine wpList_nil ?_
  go_wp2_with fail
  exact ⟨⟨k+1,a6,c6,by omega,by congr 1,rfl,hO3,hG4⟩,by show n - ((k:Int)+1).toNat<n - (k:Int).toNat; omega⟩
 ·have e:k=n:=by omega
  subst e
  have hO2:Hid (Ob w.heap.size wr (.slice a5 (k+0) c5) (A++B.take 0)):=by
   have h:=unhide hO
   rw [List.take_of_length_le (by rw [unhide la]; omega)] at h
   rw [List.take_zero,List.append_nil]
   exact h
  clear hO hl
  go_wp2_with fail
  go_loopw [7,5] (fun i x wr=>∃ (j:Nat) (a5:Option Addr) (c5:Nat),j≤m∧i=.int .i64 j∧x=.slice a5 (k+j) c5∧Hid (Ob w.heap.size wr (.slice a5 (k+j) c5) (A++B.take j))∧Hid (Gr w wr)) (fun i _ _=>m - (intOf i).toNat)
  case atStart=>exact ⟨0,a5,c5,by omega,rfl,rfl,hO2,hG⟩
  case round =>
  clear hO2 hG
  obtain ⟨j,a5,c5,hj,rfl,rfl,hO,hG⟩:=hrel
  by_cases hl:j<m
  ·have kI:(j:Int)<(m:Int):=by omega
   have kJ:0≤(j:Int)∧(j:Int)<(m:Int):=by omega
   have kw:IntKind.i64.wrap ((j:Int)+1)=(j:Int)+1:=by rw [IntKind.wrap_i64]; omega
   obtain ⟨p,o,rfl,cc⟩:=((unhide hB).gr (unhide hG)).cellAt hl
   have hnx:=hide (take_next B j (by rw [unhide lb]; exact hl))
   have htl:Hid ((A++B.take j).length=k+j):=by rw [List.length_append,List.length_take,unhide la,unhide lb,Nat.min_eq_left (by omega)]; exact rfl
   generalize B.getD j 0=x at *
   go_upto_region 9 with fail
   refine wp_region_lit ?_
   iterate 6 (refine wpList_step fun K hK=>?_; replace hK:=hide hK; go_simp; refine unhide hK _ _ ?_; clear hK K)
   have hO2:=(unhide hO).gr ((Gr.refl wr).alloc (.cells #[.int .u8 x] 5))
   refine app_bs (by kernel_rfl) (.tmp 33) (.tmp 38) rfl w.heap.size (.slice a5 (k+j) c5) (A++B.take j) (by kernel_rfl) hO2 (some ⟨wr.heap.size,0,none⟩) 1 1 [x] (by kernel_rfl) rfl (.inr ⟨_,0,rfl,kc_at (l:=[x]) (blk_new _ _)⟩) (by rw [unhide htl]; omega) (by have:=(unhide hG).size; simp only [size_alloc]; omega) ?_
   intro v' w2 hO3 hgb
   have hG4:=hO2.grown (Nat.le_refl _) ((unhide hG).alloc _) hgb
   rw [List.append_assoc,← unhide hnx] at hO3
   obtain ⟨a6,c6,hv',_,_,_⟩:=hO3.slice
   have hl2:(A++B.take (j+1)).length=k+(j+1):=by rw [List.length_append,List.length_take,unhide la,unhide lb]; omega
   rw [hl2] at hv'
   subst hv'
   clear hO hG hO2 hgb hl2 htl hnx
   replace hO3:=hide hO3
   replace hG4:=hide hG4
   simp only [nrm]
   iterate 1 (refine wpList_step fun K hK=>?_; replace hK:=hide hK; go_simp; refine unhide hK _ _ ?_; clear hK K)
   refine wpList_nil ?_
   go_wp2_with fail
   exact ⟨⟨j+1,a6,c6,by omega,by congr 1,rfl,hO3,hG4⟩,by show m - ((j:Int)+1).toNat<m - (j:Int).toNat; omega⟩
  ·have e:j=m:=by omega
   subst e
   have hP:Hid (Infd (A++B) w (.returned (.slice a5 (k+j) c5)) wr):=by
    have h:=unhide hO
    rw [List.take_of_length_le (by rw [unhide lb]; omega)] at h
    exact ⟨_,rfl,h,unhide hG⟩
   clear hO hG hl
   go_wp2_with fail
   rw [unhide hT]
   exact unhide hP
end Go.Proofs.YthahhglbeafkmaaGreatDoor
namespace Go.Proofs.YthahhglbeafkmaaGreatDoor
open Go.RowKit
set_option maxRecDepth 100000
set_option linter.unusedSimpArgs false
set_option linter.unusedVariables false
def Mk (s:Nat) (u:World) (q:Value):Prop:=∃ g,q=.slice (some ⟨g,0,none⟩) 64 64∧u.heap[g]?=some (.cells (kc Z6) 5 (0,0))∧s≤g
def Mk2 (s gi:Nat) (u:World) (q:Value):Prop:=∃ g,q=.slice (some ⟨g,0,none⟩) 64 64∧u.heap[g]?=some (.cells (kc Z6) 5 (0,0))∧s≤g∧g≠gi
def YK (f:Nat→Int):Nat→List Int
 | 0=>Z6
 | n+1=>(YK f n).set n (f n)
theorem YK_len (f:Nat→Int):∀ n,(YK f n).length=64
 | 0=>rfl
 | n+1=>by rw [YK,List.length_set,YK_len f n]
theorem YK_get (f:Nat→Int) (j:Nat):∀ n,n≤64→j<n→(YK f n).getD j 0=f j
 | 0,_,h=>by omega
 | n+1,h,hj=>by
  rw [YK,getD_set _ _ _ _ (by rw [YK_len]; omega)]
  by_cases e:j=n
  ·rw [if_pos e,e]
  ·rw [if_neg e]
   exact YK_get f j n (by omega) (by omega)
def kxf (B:List Int) (x:Int) (i:Nat):Int:=kxb ((k6 B).getD i 0) x
theorem YK_all (B:List Int) (x:Int):YK (kxf B x) 64=padK B x:=by
 apply List.ext_getElem (by rw [YK_len,padK_len])
 intro i h1 h2
 have hi:i<64:=by rw [padK_len] at h2; exact h2
 have h3:=YK_get (kxf B x) i 64 (Nat.le_refl _) hi
 rw [List.getD_eq_getElem?_getD,List.getElem?_eq_getElem h1] at h3
 simp only [Option.getD_some] at h3
 rw [h3]
 unfold padK kxf
 simp
theorem kc5_lb {w:World} {g:Nat} {D:List Int} (h:w.heap[g]?=some (.cells (kc D) 5 (0,0))) (hl:D.length=64) (hb:IsB D):Lb w (some ⟨g,0,none⟩) 64 64 D:=⟨hl,hb,.inr ⟨g,0,rfl,kc_at h⟩,Nat.le_refl _,by omega⟩
theorem k6_isB {B:List Int} (h:IsB B):IsB (k6 B):=by
 unfold k6
 split
 ·exact sumL_isB _
 ·exact h
set_option maxHeartbeats 4000000 in
theorem rhmac_ok (B X:List Int) (a b:Option Addr) (n c m d:Nat) (hnb:n≤1000000) (hmb:m≤1000000) (w:World) (hA:Lb w a n c B) (hX:Lb w b m d X):Calls Tryz.prog 119 #[.slice a n c,.slice b m d] w (Coded B X w):=by
 obtain ⟨T,hT⟩:∃ T,T=Coded B X w:=⟨_,rfl⟩
 rw [← hT]
 have la:=hide hA.len
 replace hT:=hide hT
 replace hA:=hide hA
 replace hX:=hide hX
 by_cases hl64:64<n
 ·have lI:64<(n:Int):=by omega
  go_enter Tryz.func119,Tryz.ntmps119
  go_upto_region 3 with fail
  have hB:=(Bl.nil w).new #[.int .u8 0,.int .u8 0,.int .u8 0,.int .u8 0,.int .u8 0,.int .u8 0,.int .u8 0,.int .u8 0,.int .u8 0,.int .u8 0,.int .u8 0,.int .u8 0,.int .u8 0,.int .u8 0,.int .u8 0,.int .u8 0,.int .u8 0,.int .u8 0,.int .u8 0,.int .u8 0,.int .u8 0,.int .u8 0,.int .u8 0,.int .u8 0,.int .u8 0,.int .u8 0,.int .u8 0,.int .u8 0,.int .u8 0,.int .u8 0,.int .u8 0,.int .u8 0] 23
  simp only [List.nil_append] at hB
  generalize World.alloc _ _=u1 at *
  replace hB:Bl w [⟨w.heap.size,kc Z32,23⟩] u1:=hB
  refine wp_region_lit ?_
  replace hB:=hide hB
  iterate 1 (refine wpList_step fun K hK=>?_; replace hK:=hide hK; go_simp; refine unhide hK _ _ ?_; clear hK K)
  replace hB:=unhide hB
  have lA:=(unhide hA).gr hB.gr
  refine list_call 37 #[.slice a n c] (by kernel_rfl) (by kernel_rfl) ((rsum_ok B lA.isB n lA.len (by omega) a c _ lA.sl).mono ?_)
  rintro r u2 ⟨rfl,hg⟩
  refine ⟨_,rfl,?_⟩
  replace hB:=hB.more hg
  clear hg lA
  simp only [nrm]
  have hk6:Hid (k6 B=sumL B):=by unfold k6; rw [if_pos (by rw [unhide la]; exact hl64)]; exact rfl
  obtain ⟨S,hS⟩:∃ M,M=sumL B:=⟨_,rfl⟩
  have hSl:S.length=32:=by rw [hS]; exact sumL_len B
  rw [← hS] at hk6
  rw [← hS]
  clear hS
  replace hB:=hide hB
  iterate 1 (refine wpList_step fun K hK=>?_; replace hK:=hide hK; go_simp; refine unhide hK _ _ ?_; clear hK K)
  have hL:=(Bl.nil u2).new #[.int .u8 0,.int .u8 0,.int .u8 0,.int .u8 0,.int .u8 0,.int .u8 0,.int .u8 0,.int .u8 0,.int .u8 0,.int .u8 0,.int .u8 0,.int .u8 0,.int .u8 0,.int .u8 0,.int .u8 0,.int .u8 0,.int .u8 0,.int .u8 0,.int .u8 0,.int .u8 0,.int .u8 0,.int .u8 0,.int .u8 0,.int .u8 0,.int .u8 0,.int .u8 0,.int .u8 0,.int .u8 0,.int .u8 0,.int .u8 0,.int .u8 0,.int .u8 0] 23
  simp only [List.nil_append] at hL
  generalize World.alloc _ _=u3 at *
  replace hL:Bl u2 [⟨u2.heap.size,kc Z32,23⟩] u3:=hL
  refine list_store 23 (.tmp 6) (.tmp 17) u2.heap.size (kc S) 23 (kc Z32) (by kernel_rfl) rfl (by kernel_rfl) (by kernel_rfl) (hL.get 0 (x:=⟨u2.heap.size,kc Z32,23⟩) rfl) (by rw [Tryz.infoKey,kc_size,hSl]) ((show (kc Z32).size=32 from rfl).trans ((kc_size _).trans hSl).symm) (kc_one _) ?_
  replace hL:=hL.set 0 (x:=⟨u2.heap.size,kc Z32,23⟩) rfl (kc S)
  simp only [List.set_cons_zero,List.set_cons_succ] at hL
  generalize World.setRow _ _ _=u4 at *
  simp only [nrm]
  refine wpList_nil ?_
  replace hB:=(unhide hB).more hL.gr
  have lk:Lb u4 (some ⟨u2.heap.size,0,none⟩) 32 32 (k6 B):=by
   rw [unhide hk6]
   exact ⟨hSl,(by rw [← unhide hk6]; exact k6_isB (unhide hA).isB),.inr ⟨_,0,rfl,kc_at (hL.get 0 (x:=⟨u2.heap.size,kc S,23⟩) rfl)⟩,by omega,by omega⟩
  have hlt:=lt_of_block (hL.get 0 (x:=⟨u2.heap.size,kc S,23⟩) rfl)
  dsimp only at hlt
  clear hL hk6
  generalize u2.heap.size=gk at *
  replace hB:=hide hB
  replace lk:=hide lk
  go_upto_region 5 with fail
  replace hB:=unhide hB
  replace lk:=unhide lk
  refine any_start (S:=fun _=>True) (by kernel_rfl) ?_
  replace hB:=hB.drew
  replace lk:=lk.gr (Gr.refl _).drew
  generalize World.drew _=W0 at *
  have hold:∀ y:Addr,k6 B≠[]→(some ⟨gk,0,none⟩)=some y→y.block<W0.heap.size:=by
   intro y h1 h2
   rcases lk.sl with h | ⟨p,o,e,h⟩
   ·exact absurd h h1
   ·rw [e] at h2
    have hy:y=⟨p,o,none⟩:=(Option.some.inj h2).symm
    have:=lt_of_cell (h 0 (by cases hh:k6 B with | nil=>exact absurd hh h1 | cons x r=>simp))
    rw [hy]
    exact this
  simp only [List.size_toArray,List.length_cons,List.length_nil,Array.replicate,List.replicate]
  refine float_first (fun q u=>Mk W0.heap.size u q) 20 (fun b_=>#[false,b_,false,false]) 1 0 false rfl rfl (fun _ _=>trivial) (by kernel_rfl) (fun b_=>by cases b_ <;> rfl) ?_ ?_
  all_goals simp only [fw1,Act.put,List.setIfInBounds_toArray,List.set_cons_zero,List.set_cons_succ,List.getElem_toArray,List.getElem_cons_zero,List.getElem_cons_succ]
  ·intro q_ x_ hgx K hK
   refine wpOp_step (o:=_) rfl (fun K' hK'=>?_)
   refine step_val (.slice (some ⟨x_.heap.size,0,none⟩) 64 64) (x_.alloc (.cells (kc Z6) 5 (0,0))) (by kernel_rfl) (by kernel_rfl) ?_
   exact hK' _ _ (hK _ _ ((Gr.refl _).alloc _) ⟨_,rfl,blk_new _ _,hgx.size⟩)
  intro b1 q1 x1 hg1 hTq _
  refine wpOp_step (o:=_) rfl (fun K hK=>?_)
  refine step_val (.slice (some ⟨x1.heap.size,0,none⟩) 64 64) (x1.alloc (.cells (kc Z6) 5 (0,0))) (by kernel_rfl) (by kernel_rfl) ?_
  refine hK _ _ ⟨trivial,?_⟩
  clear hK K
  simp only [nrm]
  have hg:=(Gr.refl x1).alloc (.cells (kc Z6) 5 (0,0))
  have hin:=blk_new x1 (.cells (kc Z6) 5 (0,0))
  have hgi:W0.heap.size≤x1.heap.size:=hg1.size
  have hT2:b1=true→Mk2 W0.heap.size x1.heap.size (x1.alloc (.cells (kc Z6) 5 (0,0))) q1:=by
   intro e
   obtain ⟨g,h1,h2,h3⟩:=hTq e
   exact ⟨g,h1,hg.blk h2,h3,by have:=lt_of_block h2; omega⟩
  have hG0:=hg1.trans hg
  generalize World.alloc _ _=x2 at *
  generalize x1.heap.size=gi at *
  clear hTq hg hg1
  refine float_again (fun q u=>Mk2 W0.heap.size gi u q) 20 (fun b_=>#[true,b_,false,false]) 1 2 false (b:=b1) (q:=q1) rfl rfl hT2 (fun _ _=>trivial) (by kernel_rfl) (fun b_=>by cases b_ <;> rfl) ?_ ?_
  all_goals simp only [fw1,Act.put,List.setIfInBounds_toArray,List.set_cons_zero,List.set_cons_succ,List.getElem_toArray,List.getElem_cons_zero,List.getElem_cons_succ]
  ·intro q_ x_ hgx K hK
   refine wpOp_step (o:=_) rfl (fun K' hK'=>?_)
   refine step_val (.slice (some ⟨x_.heap.size,0,none⟩) 64 64) (x_.alloc (.cells (kc Z6) 5 (0,0))) (by kernel_rfl) (by kernel_rfl) ?_
   exact hK' _ _ (hK _ _ ((Gr.refl _).alloc _) ⟨_,rfl,blk_new _ _,Nat.le_trans hG0.size hgx.size,by have:=lt_of_block (hgx.blk hin); omega⟩)
  clear hT2
  intro b2 q2 x3 hg hT2 _
  replace hin:=hg.blk hin
  replace hG0:=hG0.trans hg
  clear hg
  refine wpOp_step (o:=_) rfl (fun K hK=>?_)
  refine step_val (.slice (some ⟨gi,0,none⟩) 64 64) x3 (by kernel_rfl) (by kernel_rfl) ?_
  refine hK _ _ ⟨trivial,?_⟩
  clear hK K
  simp only [nrm]
  refine float_again (fun q u=>Mk2 W0.heap.size gi u q) 20 (fun b_=>#[true,b_,true,false]) 1 3 true (b:=b2) (q:=q2) rfl rfl hT2 (fun _ _=>trivial) (by kernel_rfl) (fun b_=>by cases b_ <;> rfl) ?_ ?_
  all_goals simp only [fw1,Act.put,List.setIfInBounds_toArray,List.set_cons_zero,List.set_cons_succ,List.getElem_toArray,List.getElem_cons_zero,List.getElem_cons_succ]
  ·intro q_ x_ hgx K hK
   refine wpOp_step (o:=_) rfl (fun K' hK'=>?_)
   refine step_val (.slice (some ⟨x_.heap.size,0,none⟩) 64 64) (x_.alloc (.cells (kc Z6) 5 (0,0))) (by kernel_rfl) (by kernel_rfl) ?_
   exact hK' _ _ (hK _ _ ((Gr.refl _).alloc _) ⟨_,rfl,blk_new _ _,Nat.le_trans hG0.size hgx.size,by have:=lt_of_block (hgx.blk hin); omega⟩)
  clear hT2
  intro b3 q3 x4 hg hT2 hall
  obtain rfl:b3=true:=hall (by trivial)
  obtain ⟨go,rfl,hon,hgo,hne⟩:=hT2 rfl
  clear hall hT2
  replace hin:=hg.blk hin
  replace hG0:=hG0.trans hg
  clear hg
  refine wpOp_step (o:=_) rfl (fun K hK=>?_)
  refine step_val (.slice (some ⟨go,0,none⟩) 64 64) x4 (by kernel_rfl) (by kernel_rfl) ?_
  refine hK _ _ ⟨trivial,?_⟩
  clear hK K
  simp only [nrm]
  refine any_done (by kernel_rfl) ?_
  have hB2:Bl w [⟨w.heap.size,kc Z32,23⟩,⟨gi,kc Z6,5⟩,⟨go,kc Z6,5⟩] x4:=hB.join hG0 [⟨gi,kc Z6,5⟩,⟨go,kc Z6,5⟩] (fun x hx=>by
    simp only [List.mem_cons,List.not_mem_nil,or_false] at hx
    rcases hx with rfl | rfl
    ·exact ⟨hin,hgi⟩
    ·exact ⟨hon,hgo⟩) (List.pairwise_cons.2 ⟨fun y hy=>by simp at hy; subst hy; exact fun e=>hne e.symm,List.pairwise_singleton _ _⟩)
  replace lk:=lk.gr hG0
  have hfar:Hid (∀ y:Addr,k6 B≠[]→(some ⟨gk,0,none⟩)=some y→y.block≠gi∧y.block≠go):=fun y h1 h2=>by have:=hold y h1 h2; exact ⟨by omega,by omega⟩
  clear hold hB hG0 hin hon hgi hgo hne
  have hB:=hB2
  clear hB2
  replace hB:Hid (Bl w [⟨w.heap.size,kc Z32,23⟩,⟨gi,kc (YK (kxf B 54) 0),5⟩,⟨go,kc (YK (kxf B 92) 0),5⟩] x4):=hB
  have hgx4:=hide (Gr.refl x4)
  replace lk:=hide lk
  go_wp2_with fail
  go_loopw [9] (fun i wr=>∃ (k:Nat) (m1 m2:List Int),k≤64∧i=.int .i64 k∧Hid (m1=YK (kxf B 54) k)∧Hid (m2=YK (kxf B 92) k)∧Hid (Lb wr (some ⟨gk,0,none⟩) 32 32 (k6 B))∧Hid (Bl w [⟨w.heap.size,kc Z32,23⟩,⟨gi,kc m1,5⟩,⟨go,kc m2,5⟩] wr)) (fun i _=>64 - (intOf i).toNat)
  case atStart=>exact ⟨0,_,_,by omega,rfl,rfl,rfl,lk,hB⟩
  case round =>
  clear hB lk hgx4
  obtain ⟨k,m1,m2,hk,rfl,hm1,hm2,lk,hB⟩:=hrel
  have hl1:m1.length=64:=by rw [unhide hm1]; exact YK_len _ _
  have hl2:m2.length=64:=by rw [unhide hm2]; exact YK_len _ _
  by_cases hl:k<64
  ·have kI:(k:Int)<64:=by omega
   have kJ:0≤(k:Int)∧(k:Int)<64:=by omega
   have h1:=(unhide hB).get 1 (x:=⟨gi,kc m1,5⟩) rfl
   have c1:=kc_cell h1 k (by omega)
   have f1:=froz_of (i:=k) h1
   have hn1:Hid (m1.set k (kxb ((k6 B).getD k 0) 54)=YK (kxf B 54) (k+1)):=by rw [unhide hm1]; exact rfl
   have hn2:Hid (m2.set k (kxb ((k6 B).getD k 0) 92)=YK (kxf B 92) (k+1)):=by rw [unhide hm2]; exact rfl
   have hB2:=(unhide hB).cell 1 (x:=⟨gi,kc m1,5⟩) rfl k (.int .u8 (kxb ((k6 B).getD k 0) 54))
   simp only [List.set_cons_zero,List.set_cons_succ,kc_set] at hB2
   have h2:=hB2.get 2 (x:=⟨go,kc m2,5⟩) rfl
   have c2:=kc_cell h2 k (by omega)
   have f2:=froz_of (i:=k) h2
   have hB3:=hB2.cell 2 (x:=⟨go,kc m2,5⟩) rfl k (.int .u8 (kxb ((k6 B).getD k 0) 92))
   simp only [List.set_cons_zero,List.set_cons_succ,kc_set] at hB3
   have hne:gi≠go:=by
    have:=List.pairwise_cons.1 (List.pairwise_cons.1 hB3.ne).2
    exact this.1 _ List.mem_cons_self
   have lk2:Hid (Lb ((wr.setCell ⟨gi,k,none⟩ (.int .u8 (kxb ((k6 B).getD k 0) 54))).setCell ⟨go,k,none⟩ (.int .u8 (kxb ((k6 B).getD k 0) 92))) (some ⟨gk,0,none⟩) 32 32 (k6 B)):=by
    refine ⟨(unhide lk).len,(unhide lk).isB,?_,(unhide lk).cap,(unhide lk).max⟩
    rcases (unhide lk).sl with h | ⟨p,o,e,h⟩
    ·exact .inl h
    ·refine .inr ⟨p,o,e,fun j hj=>?_⟩
     have hp:=(unhide hfar) ⟨p,o,none⟩ (by intro e0; rw [e0] at hj; simp at hj) e
     have n1:p≠gi:=by have:=hp.1; exact this
     have n2:p≠go:=by have:=hp.2; exact this
     rw [cell_heap (Below.heap_setCell _ ⟨go,k,none⟩ _ p n2),cell_heap (Below.heap_setCell _ ⟨gi,k,none⟩ _ p n1)]
     exact h j hj
   generalize m1.getD k 0=o1 at c1
   generalize m2.getD k 0=o2 at c2
   clear h1 h2 hB2 hm1 hm2
   replace hB3:=hide hB3
   by_cases hlk:k<32
   ·have kn:(k:Int)<32:=by omega
    have kn2:0≤(k:Int)∧(k:Int)<32:=by omega
    obtain ⟨p,o,hpo,cc⟩:=(unhide lk).cellAt hlk
    cases hpo
    try rw [Nat.zero_add] at cc
    clear lk
    generalize (k6 B).getD k 0=y at *
    unfold kxb at *
    go_wp2_with fail
    go_roundw
    case rel=>exact ⟨k+1,_,_,by omega,by go_num,hn1,hn2,lk2,hB3⟩
    case measure=>simp [intOf]; omega
   ·have kn:¬ (k:Int)<32:=by omega
    have h0:(k6 B).getD k 0=0:=by rw [List.getD_eq_getElem?_getD,List.getElem?_eq_none (by rw [(unhide lk).len]; omega)]; rfl
    rw [h0] at hn1 hn2 lk2 hB3 c2 f2
    clear lk
    unfold kxb at *
    go_wp2_with fail
    go_roundw
    case rel=>exact ⟨k+1,_,_,by omega,by go_num,hn1,hn2,lk2,hB3⟩
    case measure=>simp [intOf]; omega
  ·have e:k=64:=by omega
   subst e
   have e1:m1=padK B 54:=(unhide hm1).trans (YK_all B 54)
   have e2:m2=padK B 92:=(unhide hm2).trans (YK_all B 92)
   have hB2:Bl w [⟨w.heap.size,kc Z32,23⟩,⟨gi,kc (padK B 54),5⟩,⟨go,kc (padK B 92),5⟩] wr:=by rw [← e1,← e2]; exact unhide hB
   clear hB hm1 hm2 e1 e2 lk hl1 hl2 hl hfar
   have hB:=hide hB2
   clear hB2
   go_upto_region 14 with fail
   replace hB:=unhide hB
   refine wp_region_lit ?_
   replace hB:=hide hB
   iterate 2 (refine wpList_step fun K hK=>?_; replace hK:=hide hK; go_simp; refine unhide hK _ _ ?_; clear hK K)
   replace hB:=unhide hB
   refine list_call 19 #[.slice (some ⟨gi,0,none⟩) 64 64,.slice b m d] (by kernel_rfl) (by kernel_rfl) ((both_ok (padK B 54) X (some ⟨gi,0,none⟩) b 64 64 m d (by omega) _ (kc5_lb (hB.get 1 (x:=⟨gi,kc (padK B 54),5⟩) rfl) (padK_len _ _) (padK_isB _ _)) ((unhide hX).gr hB.gr)).mono ?_)
   rintro r v1 ⟨y1,rfl,hO,hg⟩
   refine ⟨_,rfl,?_⟩
   obtain ⟨a1,c1,rfl,l1⟩:=hO.lb (isB_append (padK_isB _ _) (unhide hX).isB)
   have hl1:(padK B 54++X).length=64+m:=by rw [List.length_append,padK_len,(unhide hX).len]
   rw [hl1] at l1
   rw [hl1]
   replace hB:=hB.more hg
   clear hg hO hl1
   simp only [nrm]
   refine list_call 37 #[.slice a1 (64+m) c1] (by kernel_rfl) (by kernel_rfl) ((rsum_ok (padK B 54++X) l1.isB (64+m) l1.len (by omega) a1 c1 _ l1.sl).mono ?_)
   rintro r v2 ⟨rfl,hg⟩
   refine ⟨_,rfl,?_⟩
   replace hB:=hB.more hg
   clear hg l1
   simp only [nrm]
   have hSum:Hid (sumL (padK B 92++sumL (padK B 54++X))=hmacL B X):=rfl
   obtain ⟨M,hM⟩:∃ M,M=sumL (padK B 54++X):=⟨_,rfl⟩
   have hMl:M.length=32:=by rw [hM]; exact sumL_len _
   have hMb:Hid (IsB M):=by rw [hM]; exact sumL_isB _
   rw [← hM] at hSum
   rw [← hM]
   clear hM
   replace hB:=hide hB
   iterate 1 (refine wpList_step fun K hK=>?_; replace hK:=hide hK; go_simp; refine unhide hK _ _ ?_; clear hK K)
   replace hB:=(unhide hB).new #[.int .u8 0,.int .u8 0,.int .u8 0,.int .u8 0,.int .u8 0,.int .u8 0,.int .u8 0,.int .u8 0,.int .u8 0,.int .u8 0,.int .u8 0,.int .u8 0,.int .u8 0,.int .u8 0,.int .u8 0,.int .u8 0,.int .u8 0,.int .u8 0,.int .u8 0,.int .u8 0,.int .u8 0,.int .u8 0,.int .u8 0,.int .u8 0,.int .u8 0,.int .u8 0,.int .u8 0,.int .u8 0,.int .u8 0,.int .u8 0,.int .u8 0,.int .u8 0] 23
   simp only [List.cons_append,List.nil_append] at hB
   generalize World.alloc _ _=v3 at *
   generalize v2.heap.size=gs at *
   replace hB:Bl w [⟨w.heap.size,kc Z32,23⟩,⟨gi,kc (padK B 54),5⟩,⟨go,kc (padK B 92),5⟩,⟨gs,kc Z32,23⟩] v3:=hB
   refine list_store 23 (.tmp 11) (.tmp 46) gs (kc M) 23 (kc Z32) (by kernel_rfl) rfl (by kernel_rfl) (by kernel_rfl) (hB.get 3 (x:=⟨gs,kc Z32,23⟩) rfl) (by rw [Tryz.infoKey,kc_size,hMl]) ((show (kc Z32).size=32 from rfl).trans ((kc_size _).trans hMl).symm) (kc_one _) ?_
   replace hB:=hB.set 3 (x:=⟨gs,kc Z32,23⟩) rfl (kc M)
   simp only [List.set_cons_zero,List.set_cons_succ] at hB
   generalize World.setRow _ _ _=v4 at *
   simp only [nrm]
   refine wpList_nil ?_
   replace hB:=hide hB
   go_upto_region 15 with fail
   refine wp_region_lit ?_
   iterate 2 (refine wpList_step fun K hK=>?_; replace hK:=hide hK; go_simp; refine unhide hK _ _ ?_; clear hK K)
   replace hB:=unhide hB
   refine list_call 19 #[.slice (some ⟨go,0,none⟩) 64 64,.slice (some ⟨gs,0,none⟩) 32 32] (by kernel_rfl) (by kernel_rfl) ((both_ok (padK B 92) M (some ⟨go,0,none⟩) (some ⟨gs,0,none⟩) 64 64 32 32 (by omega) _ (kc5_lb (hB.get 2 (x:=⟨go,kc (padK B 92),5⟩) rfl) (padK_len _ _) (padK_isB _ _)) ⟨hMl,unhide hMb,.inr ⟨gs,0,rfl,kc_at (hB.get 3 (x:=⟨gs,kc M,23⟩) rfl)⟩,by omega,by omega⟩).mono ?_)
   rintro r v5 ⟨y5,rfl,hO,hg⟩
   refine ⟨_,rfl,?_⟩
   obtain ⟨a5,c5,rfl,l5⟩:=hO.lb (isB_append (padK_isB _ _) (unhide hMb))
   have hl5:(padK B 92++M).length=96:=by rw [List.length_append,padK_len,hMl]
   rw [hl5] at l5
   rw [hl5]
   replace hB:=hB.more hg
   clear hg hO hl5
   simp only [nrm]
   refine list_call 37 #[.slice a5 96 c5] (by kernel_rfl) (by kernel_rfl) ((rsum_ok (padK B 92++M) l5.isB 96 l5.len (by omega) a5 c5 _ l5.sl).mono ?_)
   rintro r v6 ⟨rfl,hg⟩
   refine ⟨_,rfl,?_⟩
   replace hB:=hB.more hg
   clear hg l5
   rw [unhide hSum]
   simp only [nrm]
   have hRl:(hmacL B X).length=32:=hmacL_len _ _
   obtain ⟨R,hR⟩:∃ R,R=hmacL B X:=⟨_,rfl⟩
   rw [← hR] at hRl
   rw [← hR]
   refine list_store 23 (.tmp 4) (.tmp 50) w.heap.size (kc R) 23 (kc Z32) (by kernel_rfl) rfl (by kernel_rfl) (by kernel_rfl) (hB.get 0 (x:=⟨w.heap.size,kc Z32,23⟩) rfl) (by rw [Tryz.infoKey,kc_size,hRl]) ((show (kc Z32).size=32 from rfl).trans ((kc_size _).trans hRl).symm) (kc_one _) ?_
   replace hB:=hB.set 0 (x:=⟨w.heap.size,kc Z32,23⟩) rfl (kc R)
   simp only [List.set_cons_zero,List.set_cons_succ] at hB
   generalize World.setRow _ _ _=v7 at *
   simp only [nrm]
   refine wpList_nil ?_
   go_wp2_with fail
   rw [unhide hT]
   exact bodyPost_ret (v:=.agg (kc R)) (results_cell_row Tryz.results119 _ _ w.heap.size 23 (kc R) (0,0) _ rfl (hB.get 0 (x:=⟨w.heap.size,kc R,23⟩) rfl) Tryz.underlying23 rfl (by rw [Tryz.infoKey,kc_size,hRl])) rfl ⟨by rw [hR],hB.gr⟩
 ·have lI:¬ 64<(n:Int):=by omega
  have hk6:Hid (k6 B=B):=by unfold k6; rw [if_neg (by rw [unhide la]; exact hl64)]; exact rfl
  go_enter Tryz.func119,Tryz.ntmps119
  go_upto_region 5 with fail
  have hB:=(Bl.nil w).new #[.int .u8 0,.int .u8 0,.int .u8 0,.int .u8 0,.int .u8 0,.int .u8 0,.int .u8 0,.int .u8 0,.int .u8 0,.int .u8 0,.int .u8 0,.int .u8 0,.int .u8 0,.int .u8 0,.int .u8 0,.int .u8 0,.int .u8 0,.int .u8 0,.int .u8 0,.int .u8 0,.int .u8 0,.int .u8 0,.int .u8 0,.int .u8 0,.int .u8 0,.int .u8 0,.int .u8 0,.int .u8 0,.int .u8 0,.int .u8 0,.int .u8 0,.int .u8 0] 23
  simp only [List.nil_append] at hB
  generalize World.alloc _ _=u4 at *
  replace hB:Bl w [⟨w.heap.size,kc Z32,23⟩] u4:=hB
  have lk:Lb u4 a n c (k6 B):=by rw [unhide hk6]; exact (unhide hA).gr hB.gr
  clear hk6
  refine any_start (S:=fun _=>True) (by kernel_rfl) ?_
  replace hB:=hB.drew
  replace lk:=lk.gr (Gr.refl _).drew
  generalize World.drew _=W0 at *
  have hold:∀ y:Addr,k6 B≠[]→a=some y→y.block<W0.heap.size:=by
   intro y h1 h2
   rcases lk.sl with h | ⟨p,o,e,h⟩
   ·exact absurd h h1
   ·rw [e] at h2
    have hy:y=⟨p,o,none⟩:=(Option.some.inj h2).symm
    have:=lt_of_cell (h 0 (by cases hh:k6 B with | nil=>exact absurd hh h1 | cons x r=>simp))
    rw [hy]
    exact this
  simp only [List.size_toArray,List.length_cons,List.length_nil,Array.replicate,List.replicate]
  refine float_first (fun q u=>Mk W0.heap.size u q) 20 (fun b_=>#[false,b_,false,false]) 1 0 false rfl rfl (fun _ _=>trivial) (by kernel_rfl) (fun b_=>by cases b_ <;> rfl) ?_ ?_
  all_goals simp only [fw1,Act.put,List.setIfInBounds_toArray,List.set_cons_zero,List.set_cons_succ,List.getElem_toArray,List.getElem_cons_zero,List.getElem_cons_succ]
  ·intro q_ x_ hgx K hK
   refine wpOp_step (o:=_) rfl (fun K' hK'=>?_)
   refine step_val (.slice (some ⟨x_.heap.size,0,none⟩) 64 64) (x_.alloc (.cells (kc Z6) 5 (0,0))) (by kernel_rfl) (by kernel_rfl) ?_
   exact hK' _ _ (hK _ _ ((Gr.refl _).alloc _) ⟨_,rfl,blk_new _ _,hgx.size⟩)
  intro b1 q1 x1 hg1 hTq _
  refine wpOp_step (o:=_) rfl (fun K hK=>?_)
  refine step_val (.slice (some ⟨x1.heap.size,0,none⟩) 64 64) (x1.alloc (.cells (kc Z6) 5 (0,0))) (by kernel_rfl) (by kernel_rfl) ?_
  refine hK _ _ ⟨trivial,?_⟩
  clear hK K
  simp only [nrm]
  have hg:=(Gr.refl x1).alloc (.cells (kc Z6) 5 (0,0))
  have hin:=blk_new x1 (.cells (kc Z6) 5 (0,0))
  have hgi:W0.heap.size≤x1.heap.size:=hg1.size
  have hT2:b1=true→Mk2 W0.heap.size x1.heap.size (x1.alloc (.cells (kc Z6) 5 (0,0))) q1:=by
   intro e
   obtain ⟨g,h1,h2,h3⟩:=hTq e
   exact ⟨g,h1,hg.blk h2,h3,by have:=lt_of_block h2; omega⟩
  have hG0:=hg1.trans hg
  generalize World.alloc _ _=x2 at *
  generalize x1.heap.size=gi at *
  clear hTq hg hg1
  refine float_again (fun q u=>Mk2 W0.heap.size gi u q) 20 (fun b_=>#[true,b_,false,false]) 1 2 false (b:=b1) (q:=q1) rfl rfl hT2 (fun _ _=>trivial) (by kernel_rfl) (fun b_=>by cases b_ <;> rfl) ?_ ?_
  all_goals simp only [fw1,Act.put,List.setIfInBounds_toArray,List.set_cons_zero,List.set_cons_succ,List.getElem_toArray,List.getElem_cons_zero,List.getElem_cons_succ]
  ·intro q_ x_ hgx K hK
   refine wpOp_step (o:=_) rfl (fun K' hK'=>?_)
   refine step_val (.slice (some ⟨x_.heap.size,0,none⟩) 64 64) (x_.alloc (.cells (kc Z6) 5 (0,0))) (by kernel_rfl) (by kernel_rfl) ?_
   exact hK' _ _ (hK _ _ ((Gr.refl _).alloc _) ⟨_,rfl,blk_new _ _,Nat.le_trans hG0.size hgx.size,by have:=lt_of_block (hgx.blk hin); omega⟩)
  clear hT2
  intro b2 q2 x3 hg hT2 _
  replace hin:=hg.blk hin
  replace hG0:=hG0.trans hg
  clear hg
  refine wpOp_step (o:=_) rfl (fun K hK=>?_)
  refine step_val (.slice (some ⟨gi,0,none⟩) 64 64) x3 (by kernel_rfl) (by kernel_rfl) ?_
  refine hK _ _ ⟨trivial,?_⟩
  clear hK K
  simp only [nrm]
  refine float_again (fun q u=>Mk2 W0.heap.size gi u q) 20 (fun b_=>#[true,b_,true,false]) 1 3 true (b:=b2) (q:=q2) rfl rfl hT2 (fun _ _=>trivial) (by kernel_rfl) (fun b_=>by cases b_ <;> rfl) ?_ ?_
  all_goals simp only [fw1,Act.put,List.setIfInBounds_toArray,List.set_cons_zero,List.set_cons_succ,List.getElem_toArray,List.getElem_cons_zero,List.getElem_cons_succ]
  ·intro q_ x_ hgx K hK
   refine wpOp_step (o:=_) rfl (fun K' hK'=>?_)
   refine step_val (.slice (some ⟨x_.heap.size,0,none⟩) 64 64) (x_.alloc (.cells (kc Z6) 5 (0,0))) (by kernel_rfl) (by kernel_rfl) ?_
   exact hK' _ _ (hK _ _ ((Gr.refl _).alloc _) ⟨_,rfl,blk_new _ _,Nat.le_trans hG0.size hgx.size,by have:=lt_of_block (hgx.blk hin); omega⟩)
  clear hT2
  intro b3 q3 x4 hg hT2 hall
  obtain rfl:b3=true:=hall (by trivial)
  obtain ⟨go,rfl,hon,hgo,hne⟩:=hT2 rfl
  clear hall hT2
  replace hin:=hg.blk hin
  replace hG0:=hG0.trans hg
  clear hg
  refine wpOp_step (o:=_) rfl (fun K hK=>?_)
  refine step_val (.slice (some ⟨go,0,none⟩) 64 64) x4 (by kernel_rfl) (by kernel_rfl) ?_
  refine hK _ _ ⟨trivial,?_⟩
  clear hK K
  simp only [nrm]
  refine any_done (by kernel_rfl) ?_
  have hB2:Bl w [⟨w.heap.size,kc Z32,23⟩,⟨gi,kc Z6,5⟩,⟨go,kc Z6,5⟩] x4:=hB.join hG0 [⟨gi,kc Z6,5⟩,⟨go,kc Z6,5⟩] (fun x hx=>by
    simp only [List.mem_cons,List.not_mem_nil,or_false] at hx
    rcases hx with rfl | rfl
    ·exact ⟨hin,hgi⟩
    ·exact ⟨hon,hgo⟩) (List.pairwise_cons.2 ⟨fun y hy=>by simp at hy; subst hy; exact fun e=>hne e.symm,List.pairwise_singleton _ _⟩)
  replace lk:=lk.gr hG0
  have hfar:Hid (∀ y:Addr,k6 B≠[]→a=some y→y.block≠gi∧y.block≠go):=fun y h1 h2=>by have:=hold y h1 h2; exact ⟨by omega,by omega⟩
  clear hold hB hG0 hin hon hgi hgo hne
  have hB:=hB2
  clear hB2
  replace hB:Hid (Bl w [⟨w.heap.size,kc Z32,23⟩,⟨gi,kc (YK (kxf B 54) 0),5⟩,⟨go,kc (YK (kxf B 92) 0),5⟩] x4):=hB
  have hgx4:=hide (Gr.refl x4)
  replace lk:=hide lk
  go_wp2_with fail
  go_loopw [9] (fun i wr=>∃ (k:Nat) (m1 m2:List Int),k≤64∧i=.int .i64 k∧Hid (m1=YK (kxf B 54) k)∧Hid (m2=YK (kxf B 92) k)∧Hid (Lb wr a n c (k6 B))∧Hid (Bl w [⟨w.heap.size,kc Z32,23⟩,⟨gi,kc m1,5⟩,⟨go,kc m2,5⟩] wr)) (fun i _=>64 - (intOf i).toNat)
  case atStart=>exact ⟨0,_,_,by omega,rfl,rfl,rfl,lk,hB⟩
  case round =>
  clear hB lk hgx4
  obtain ⟨k,m1,m2,hk,rfl,hm1,hm2,lk,hB⟩:=hrel
  have hl1:m1.length=64:=by rw [unhide hm1]; exact YK_len _ _
  have hl2:m2.length=64:=by rw [unhide hm2]; exact YK_len _ _
  by_cases hl:k<64
  ·have kI:(k:Int)<64:=by omega
   have kJ:0≤(k:Int)∧(k:Int)<64:=by omega
   have h1:=(unhide hB).get 1 (x:=⟨gi,kc m1,5⟩) rfl
   have c1:=kc_cell h1 k (by omega)
   have f1:=froz_of (i:=k) h1
   have hn1:Hid (m1.set k (kxb ((k6 B).getD k 0) 54)=YK (kxf B 54) (k+1)):=by rw [unhide hm1]; exact rfl
   have hn2:Hid (m2.set k (kxb ((k6 B).getD k 0) 92)=YK (kxf B 92) (k+1)):=by rw [unhide hm2]; exact rfl
   have hB2:=(unhide hB).cell 1 (x:=⟨gi,kc m1,5⟩) rfl k (.int .u8 (kxb ((k6 B).getD k 0) 54))
   simp only [List.set_cons_zero,List.set_cons_succ,kc_set] at hB2
   have h2:=hB2.get 2 (x:=⟨go,kc m2,5⟩) rfl
   have c2:=kc_cell h2 k (by omega)
   have f2:=froz_of (i:=k) h2
   have hB3:=hB2.cell 2 (x:=⟨go,kc m2,5⟩) rfl k (.int .u8 (kxb ((k6 B).getD k 0) 92))
   simp only [List.set_cons_zero,List.set_cons_succ,kc_set] at hB3
   have hne:gi≠go:=by
    have:=List.pairwise_cons.1 (List.pairwise_cons.1 hB3.ne).2
    exact this.1 _ List.mem_cons_self
   have lk2:Hid (Lb ((wr.setCell ⟨gi,k,none⟩ (.int .u8 (kxb ((k6 B).getD k 0) 54))).setCell ⟨go,k,none⟩ (.int .u8 (kxb ((k6 B).getD k 0) 92))) a n c (k6 B)):=by
    refine ⟨(unhide lk).len,(unhide lk).isB,?_,(unhide lk).cap,(unhide lk).max⟩
    rcases (unhide lk).sl with h | ⟨p,o,e,h⟩
    ·exact .inl h
    ·refine .inr ⟨p,o,e,fun j hj=>?_⟩
     have hp:=(unhide hfar) ⟨p,o,none⟩ (by intro e0; rw [e0] at hj; simp at hj) e
     have n1:p≠gi:=by have:=hp.1; exact this
     have n2:p≠go:=by have:=hp.2; exact this
     rw [cell_heap (Below.heap_setCell _ ⟨go,k,none⟩ _ p n2),cell_heap (Below.heap_setCell _ ⟨gi,k,none⟩ _ p n1)]
     exact h j hj
   generalize m1.getD k 0=o1 at c1
   generalize m2.getD k 0=o2 at c2
   clear h1 h2 hB2 hm1 hm2
   replace hB3:=hide hB3
   by_cases hlk:k<n
   ·have kn:(k:Int)<(n:Int):=by omega
    have kn2:0≤(k:Int)∧(k:Int)<(n:Int):=by omega
    obtain ⟨p,o,hpo,cc⟩:=(unhide lk).cellAt hlk
    cases hpo
    try rw [Nat.zero_add] at cc
    clear lk
    generalize (k6 B).getD k 0=y at *
    unfold kxb at *
    go_wp2_with fail
    go_roundw
    case rel=>exact ⟨k+1,_,_,by omega,by go_num,hn1,hn2,lk2,hB3⟩
    case measure=>simp [intOf]; omega
   ·have kn:¬ (k:Int)<(n:Int):=by omega
    have h0:(k6 B).getD k 0=0:=by rw [List.getD_eq_getElem?_getD,List.getElem?_eq_none (by rw [(unhide lk).len]; omega)]; rfl
    rw [h0] at hn1 hn2 lk2 hB3 c2 f2
    clear lk
    unfold kxb at *
    go_wp2_with fail
    go_roundw
    case rel=>exact ⟨k+1,_,_,by omega,by go_num,hn1,hn2,lk2,hB3⟩
    case measure=>simp [intOf]; omega
  ·have e:k=64:=by omega
   subst e
   have e1:m1=padK B 54:=(unhide hm1).trans (YK_all B 54)
   have e2:m2=padK B 92:=(unhide hm2).trans (YK_all B 92)
   have hB2:Bl w [⟨w.heap.size,kc Z32,23⟩,⟨gi,kc (padK B 54),5⟩,⟨go,kc (padK B 92),5⟩] wr:=by rw [← e1,← e2]; exact unhide hB
   clear hB hm1 hm2 e1 e2 lk hl1 hl2 hl hfar
   have hB:=hide hB2
   clear hB2
   go_upto_region 14 with fail
   replace hB:=unhide hB
   refine wp_region_lit ?_
   replace hB:=hide hB
   iterate 2 (refine wpList_step fun K hK=>?_; replace hK:=hide hK; go_simp; refine unhide hK _ _ ?_; clear hK K)
   replace hB:=unhide hB
   refine list_call 19 #[.slice (some ⟨gi,0,none⟩) 64 64,.slice b m d] (by kernel_rfl) (by kernel_rfl) ((both_ok (padK B 54) X (some ⟨gi,0,none⟩) b 64 64 m d (by omega) _ (kc5_lb (hB.get 1 (x:=⟨gi,kc (padK B 54),5⟩) rfl) (padK_len _ _) (padK_isB _ _)) ((unhide hX).gr hB.gr)).mono ?_)
   rintro r v1 ⟨y1,rfl,hO,hg⟩
   refine ⟨_,rfl,?_⟩
   obtain ⟨a1,c1,rfl,l1⟩:=hO.lb (isB_append (padK_isB _ _) (unhide hX).isB)
   have hl1:(padK B 54++X).length=64+m:=by rw [List.length_append,padK_len,(unhide hX).len]
   rw [hl1] at l1
   rw [hl1]
   replace hB:=hB.more hg
   clear hg hO hl1
   simp only [nrm]
   refine list_call 37 #[.slice a1 (64+m) c1] (by kernel_rfl) (by kernel_rfl) ((rsum_ok (padK B 54++X) l1.isB (64+m) l1.len (by omega) a1 c1 _ l1.sl).mono ?_)
   rintro r v2 ⟨rfl,hg⟩
   refine ⟨_,rfl,?_⟩
   replace hB:=hB.more hg
   clear hg l1
   simp only [nrm]
   have hSum:Hid (sumL (padK B 92++sumL (padK B 54++X))=hmacL B X):=rfl
   obtain ⟨M,hM⟩:∃ M,M=sumL (padK B 54++X):=⟨_,rfl⟩
   have hMl:M.length=32:=by rw [hM]; exact sumL_len _
   have hMb:Hid (IsB M):=by rw [hM]; exact sumL_isB _
   rw [← hM] at hSum
   rw [← hM]
   clear hM
   replace hB:=hide hB
   iterate 1 (refine wpList_step fun K hK=>?_; replace hK:=hide hK; go_simp; refine unhide hK _ _ ?_; clear hK K)
   replace hB:=(unhide hB).new #[.int .u8 0,.int .u8 0,.int .u8 0,.int .u8 0,.int .u8 0,.int .u8 0,.int .u8 0,.int .u8 0,.int .u8 0,.int .u8 0,.int .u8 0,.int .u8 0,.int .u8 0,.int .u8 0,.int .u8 0,.int .u8 0,.int .u8 0,.int .u8 0,.int .u8 0,.int .u8 0,.int .u8 0,.int .u8 0,.int .u8 0,.int .u8 0,.int .u8 0,.int .u8 0,.int .u8 0,.int .u8 0,.int .u8 0,.int .u8 0,.int .u8 0,.int .u8 0] 23
   simp only [List.cons_append,List.nil_append] at hB
   generalize World.alloc _ _=v3 at *
   generalize v2.heap.size=gs at *
   replace hB:Bl w [⟨w.heap.size,kc Z32,23⟩,⟨gi,kc (padK B 54),5⟩,⟨go,kc (padK B 92),5⟩,⟨gs,kc Z32,23⟩] v3:=hB
   refine list_store 23 (.tmp 11) (.tmp 46) gs (kc M) 23 (kc Z32) (by kernel_rfl) rfl (by kernel_rfl) (by kernel_rfl) (hB.get 3 (x:=⟨gs,kc Z32,23⟩) rfl) (by rw [Tryz.infoKey,kc_size,hMl]) ((show (kc Z32).size=32 from rfl).trans ((kc_size _).trans hMl).symm) (kc_one _) ?_
   replace hB:=hB.set 3 (x:=⟨gs,kc Z32,23⟩) rfl (kc M)
   simp only [List.set_cons_zero,List.set_cons_succ] at hB
   generalize World.setRow _ _ _=v4 at *
   simp only [nrm]
   refine wpList_nil ?_
   replace hB:=hide hB
   go_upto_region 15 with fail
   refine wp_region_lit ?_
   iterate 2 (refine wpList_step fun K hK=>?_; replace hK:=hide hK; go_simp; refine unhide hK _ _ ?_; clear hK K)
   replace hB:=unhide hB
   refine list_call 19 #[.slice (some ⟨go,0,none⟩) 64 64,.slice (some ⟨gs,0,none⟩) 32 32] (by kernel_rfl) (by kernel_rfl) ((both_ok (padK B 92) M (some ⟨go,0,none⟩) (some ⟨gs,0,none⟩) 64 64 32 32 (by omega) _ (kc5_lb (hB.get 2 (x:=⟨go,kc (padK B 92),5⟩) rfl) (padK_len _ _) (padK_isB _ _)) ⟨hMl,unhide hMb,.inr ⟨gs,0,rfl,kc_at (hB.get 3 (x:=⟨gs,kc M,23⟩) rfl)⟩,by omega,by omega⟩).mono ?_)
   rintro r v5 ⟨y5,rfl,hO,hg⟩
   refine ⟨_,rfl,?_⟩
   obtain ⟨a5,c5,rfl,l5⟩:=hO.lb (isB_append (padK_isB _ _) (unhide hMb))
   have hl5:(padK B 92++M).length=96:=by rw [List.length_append,padK_len,hMl]
   rw [hl5] at l5
   rw [hl5]
   replace hB:=hB.more hg
   clear hg hO hl5
   simp only [nrm]
   refine list_call 37 #[.slice a5 96 c5] (by kernel_rfl) (by kernel_rfl) ((rsum_ok (padK B 92++M) l5.isB 96 l5.len (by omega) a5 c5 _ l5.sl).mono ?_)
   rintro r v6 ⟨rfl,hg⟩
   refine ⟨_,rfl,?_⟩
   replace hB:=hB.more hg
   clear hg l5
   rw [unhide hSum]
   simp only [nrm]
   have hRl:(hmacL B X).length=32:=hmacL_len _ _
   obtain ⟨R,hR⟩:∃ R,R=hmacL B X:=⟨_,rfl⟩
   rw [← hR] at hRl
   rw [← hR]
   refine list_store 23 (.tmp 4) (.tmp 50) w.heap.size (kc R) 23 (kc Z32) (by kernel_rfl) rfl (by kernel_rfl) (by kernel_rfl) (hB.get 0 (x:=⟨w.heap.size,kc Z32,23⟩) rfl) (by rw [Tryz.infoKey,kc_size,hRl]) ((show (kc Z32).size=32 from rfl).trans ((kc_size _).trans hRl).symm) (kc_one _) ?_
   replace hB:=hB.set 0 (x:=⟨w.heap.size,kc Z32,23⟩) rfl (kc R)
   simp only [List.set_cons_zero,List.set_cons_succ] at hB
   generalize World.setRow _ _ _=v7 at *
   simp only [nrm]
   refine wpList_nil ?_
   go_wp2_with fail
   rw [unhide hT]
   exact bodyPost_ret (v:=.agg (kc R)) (results_cell_row Tryz.results119 _ _ w.heap.size 23 (kc R) (0,0) _ rfl (hB.get 0 (x:=⟨w.heap.size,kc R,23⟩) rfl) Tryz.underlying23 rfl (by rw [Tryz.infoKey,kc_size,hRl])) rfl ⟨by rw [hR],hB.gr⟩
end Go.Proofs.YthahhglbeafkmaaGreatDoor
namespace Go.Proofs.YthahhglbeafkmaaGreatDoor
open Go.RowKit
set_option maxRecDepth 100000
set_option linter.unusedSimpArgs false
set_option linter.unusedVariables false
theorem Lb.old {w:World} {a:Option Addr} {n c:Nat} {D:List Int} (h:Lb w a n c D):∀ y,a=some y→y.block<w.heap.size∨D=[]:=by
 intro y hy
 rcases h.sl with h1 | ⟨p,o,e,h2⟩
 ·exact .inr h1
 ·by_cases h0:D=[]
  ·exact .inr h0
  ·rw [e] at hy
   have hy2:y=⟨p,o,none⟩:=(Option.some.inj hy).symm
   have:=lt_of_cell (h2 0 (by cases hh:D with | nil=>exact absurd hh h0 | cons x r=>simp))
   rw [hy2]
   exact .inl this
end Go.Proofs.YthahhglbeafkmaaGreatDoor
namespace Go.Proofs.YthahhglbeafkmaaGreatDoor
open Go.RowKit
set_option maxRecDepth 100000
set_option linter.unusedSimpArgs false
set_option linter.unusedVariables false
def chkF2 (md:Region.Mode) (ops:Array Oper) (F:Bool→Bool→Array Bool) (i1 i2 c:Nat) (all:Bool):Bool :=
 [false,true].all fun b1=>[false,true].all fun b2 =>
  !(Region.ready md ops (F b1 b2)).isEmpty && (Region.ready md ops (F b1 b2)).all fun i=>(i == i1 && !b1) || (i == i2 && !b2) || (i == c && (!all || b1))
theorem chkF2_spec {md:Region.Mode} {ops:Array Oper} {F:Bool→Bool→Array Bool} {i1 i2 c:Nat} {all:Bool} (h:chkF2 md ops F i1 i2 c all=true) :
  ∀ b1 b2,Region.ready md ops (F b1 b2)≠[]∧∀ i ∈ Region.ready md ops (F b1 b2),(i=i1∧b1=false)∨(i=i2∧b2=false)∨(i=c∧(all=true→b1=true)):=by
 have mb:∀ b:Bool,b ∈ [false,true]:=by intro b; cases b <;> simp
 intro b1 b2
 have h1:=(List.all_eq_true.1 (List.all_eq_true.1 h b1 (mb b1)) b2 (mb b2))
 rw [Bool.and_eq_true] at h1
 refine ⟨fun e=>?_,fun i hi=>?_⟩
 ·rw [e] at h1
  exact absurd h1.1 (by decide)
 ·have h2:=List.all_eq_true.1 h1.2 i hi
  rw [Bool.or_eq_true] at h2
  rcases h2 with h2 | h2
  ·simp only [Bool.or_eq_true,Bool.and_eq_true,beq_iff_eq,Bool.not_eq_true'] at h2
   exact h2.elim .inl (fun h=>.inr (.inl h))
  ·rw [Bool.and_eq_true,beq_iff_eq] at h2
   obtain ⟨rfl,h3⟩:=h2
   refine .inr (.inr ⟨rfl,fun ha=>?_⟩)
   rw [ha] at h3
   simpa using h3
section
variable {P:Program} {md:Region.Mode} {ops:Array Oper} {Q:Exit→Act→World→Prop} {S:World→Prop}
theorem float2 (T1 T2:Value→World→Prop) (p1 p2:Nat) (F:Bool→Bool→Array Bool) (i1 i2 c:Nat) (all:Bool) {b1 b2:Bool} {q1 q2:Value} {l:Array Bool} {a:Act} {W:World}
  (hl:l=F b1 b2) (ha:fw1 (fw1 a p1 q1) p2 q2=a) (h1:b1=true→T1 q1 W) (h2:b2=true→T2 q2 W)
  (t1:∀ q u v,T1 q u→Gr u v→T1 q v) (t2:∀ q u v,T2 q u→Gr u v→T2 q v)
  (hS:∀ v,Gr W v→S v) (hchk:chkF2 md ops F i1 i2 c all=true) (hF1:∀ b1 b2,(F b1 b2).setIfInBounds i1 true=F true b2) (hF2:∀ b1 b2,(F b1 b2).setIfInBounds i2 true=F b1 true)
  (new1:∀ q q2 w,Gr W w→∀ K:Act→World→Prop,(∀ v w',Gr w w'→T1 v w'→K (fw1 (fw1 a p1 v) p2 q2) w')→wpOp P ops Q i1 K (fw1 (fw1 a p1 q) p2 q2) w)
  (new2:∀ q q2 w,Gr W w→∀ K:Act→World→Prop,(∀ v w',Gr w w'→T2 v w'→K (fw1 (fw1 a p1 q) p2 v) w')→wpOp P ops Q i2 K (fw1 (fw1 a p1 q) p2 q2) w)
  (next:∀ b1 b2 q1 q2 w,Gr W w→(b1=true→T1 q1 w)→(b2=true→T2 q2 w)→(all=true→b1=true)→wpOp P ops Q c (fun a' w'=>S w'∧Any P md ops Q S ((F b1 b2).setIfInBounds c true) a' w') (fw1 (fw1 a p1 q1) p2 q2) w):Any P md ops Q S l a W:=by
 refine any_stage (fun l a' w=>∃ b1 b2 q1 q2,l=F b1 b2∧a'=fw1 (fw1 a p1 q1) p2 q2∧Gr W w∧(b1=true→T1 q1 w)∧(b2=true→T2 q2 w)) ?_ ⟨b1,b2,q1,q2,hl,ha.symm,Gr.refl W,h1,h2⟩
 rintro l a' w ⟨b1,b2,q1,q2,rfl,rfl,gr,h1,h2⟩
 obtain ⟨hne,hr⟩:=chkF2_spec hchk b1 b2
 refine ⟨hne,fun i hi=>?_⟩
 rcases hr i hi with ⟨rfl,e⟩ | ⟨rfl,e⟩ | ⟨rfl,e⟩
 ·exact new1 q1 q2 w gr _ (fun v w' g t=>⟨hS _ (gr.trans g),.inl ⟨true,b2,v,q2,hF1 b1 b2,rfl,gr.trans g,fun _=>t,fun e=>t2 _ _ _ (h2 e) g⟩⟩)
 ·exact new2 q1 q2 w gr _ (fun v w' g t=>⟨hS _ (gr.trans g),.inl ⟨b1,true,q1,v,hF2 b1 b2,rfl,gr.trans g,fun e=>t1 _ _ _ (h1 e) g,fun _=>t⟩⟩)
 ·exact wpOp_mono (fun a' w' k=>⟨k.1,.inr k.2⟩) (next b1 b2 q1 q2 w gr h1 h2 e)
end
end Go.Proofs.YthahhglbeafkmaaGreatDoor
namespace Go.Proofs.YthahhglbeafkmaaGreatDoor
open Go.RowKit
set_option maxRecDepth 100000
set_option linter.unusedSimpArgs false
set_option linter.unusedVariables false
def Yl (u:World) (q:Value) (y:Int):Prop:=∃ g,q=.slice (some ⟨g,0,none⟩) 1 1∧u.heap[g]?=some (.cells (kc [y]) 5 (0,0))
theorem Yl.gr {u v:World} {q:Value} {y:Int} (h:Yl u q y) (k:Gr u v):Yl v q y:=by
 obtain ⟨g,h1,h2⟩:=h
 exact ⟨g,h1,k.blk h2⟩
def Kl (s:Nat) (u:World) (q:Value):Prop:=∃ g,q=.pointer (some ⟨g,0,none⟩)∧u.heap[g]?=some (.cells (kc Z32) 23 (0,0))∧s≤g
theorem Kl.gr {s:Nat} {u v:World} {q:Value} (h:Kl s u q) (k:Gr u v):Kl s v q:=by
 obtain ⟨g,h1,h2,h3⟩:=h
 exact ⟨g,h1,k.blk h2,h3⟩
def Rexp (K I:List Int) (n:Nat) (w:World) (r:Ending) (w':World):Prop:=∃ a c,r=.returned (.slice a n c)∧Lb w' a n c (spL K I n)∧Gr w w'
structure EI (w:World) (K I:List Int) (i:Nat) (a7:Option Addr) (c7:Nat) (a8:Option Addr) (n8 c8:Nat) (v:World):Prop where
 la:Lb v a7 (32 * i) c7 (outT K I i)
 lb:Lb v a8 n8 c8 (lastT K I i)
 bk:v.heap[w.heap.size]?=some (.cells (kc K) 23 (0,0))
 gr:Gr w v
theorem EI.more {w:World} {K I:List Int} {i:Nat} {a7:Option Addr} {c7:Nat} {a8:Option Addr} {n8 c8:Nat} {u v:World} (h:EI w K I i a7 c7 a8 n8 c8 u) (k:Gr u v):EI w K I i a7 c7 a8 n8 c8 v :=
 ⟨h.la.gr k,h.lb.gr k,k.blk h.bk,h.gr.trans k⟩
set_option maxHeartbeats 4000000 in
theorem rexpand_ok (K:List Int) (hKl:K.length=32) (hKb:IsB K) (I:List Int) (a:Option Addr) (ni ci:Nat) (n:Nat) (hn:n≤8160) (hni:ni≤900000) (w:World) (hI:Lb w a ni ci I) :
  Calls Tryz.prog 93 #[.agg (kc K),.slice a ni ci,.int .i64 n] w (Rexp K I n w):=by
 obtain ⟨T,hT⟩:∃ T,T=Rexp K I n w:=⟨_,rfl⟩
 rw [← hT]
 obtain ⟨KK,hKK⟩:∃ KK,KK=kc K:=⟨_,rfl⟩
 rw [← hKK]
 have hKs:KK.size=32:=by rw [hKK,kc_size,hKl]
 replace hT:=hide hT
 replace hI:=hide hI
 replace hKK:=hide hKK
 replace hKb:=hide hKb
 go_enter Tryz.func93,Tryz.ntmps93
 go_upto_region 1 with fail
 have hB:=(Bl.nil w).new KK 23
 simp only [List.nil_append] at hB
 generalize World.alloc _ _=u1 at *
 have hS:Hid (EI w K I 0 none 0 none 0 0 u1):=⟨Lb.nil _,Lb.nil _,(by rw [← unhide hKK]; exact hB.get 0 (x:=⟨w.heap.size,KK,23⟩) rfl),hB.gr⟩
 clear hB
 go_wp2_with fail
 go_loopw [7,8,9] (fun x y z wr=>∃ (i:Nat) (a7:Option Addr) (c7:Nat) (a8:Option Addr) (n8 c8:Nat),i≤(n+31) / 32∧x=.slice a7 (32 * i) c7∧y=.slice a8 n8 c8∧z=.int .i64 ((i+1:Nat):Int)∧Hid (EI w K I i a7 c7 a8 n8 c8 wr)) (fun x _ _ _=>n+32 - slenV x)
 case atStart=>exact ⟨0,none,0,none,0,0,by omega,rfl,rfl,rfl,hS⟩
 case round =>
 clear hS
 obtain ⟨i,a7,c7,a8,n8,c8,hi,rfl,rfl,rfl,hS⟩:=hrel
 by_cases hl:32 * i<n
 ·have lI:32 * (i:Int)<(n:Int):=by omega
  have e1:IntKind.i64.wrap ((i:Int)+1+1)=(i:Int)+1+1:=by rw [IntKind.wrap_i64]; omega
  obtain ⟨y,hy⟩:∃ y:Int,y=(((i+1) % 256:Nat):Int):=⟨_,rfl⟩
  have e2:IntKind.u8.wrap ((i:Int)+1)=y:=by rw [IntKind.wrap_u8',hy]; omega
  have hyb:0≤y∧y<256:=by omega
  have h8:n8≤32:=by
   have h1:(lastT K I i).length≤32:=by
    cases i with
    | zero=>simp [lastT]
    | succ j=>rw [lastT_len]; omega
   rw [← (unhide hS).lb.len]
   exact h1
  have hnx:Hid (hmacL K (lastT K I i++I++[y])=lastT K I (i+1)):=by
   rw [List.append_assoc,hy]
   exact rfl
  replace hy:=hide hy
  go_upto_region 5 with fail
  refine any_start (S:=fun _=>True) (by kernel_rfl) ?_
  replace hS:=(unhide hS).more (Gr.refl _).drew
  generalize World.drew _=W0 at *
  have hS0:=hide hS
  simp only [List.size_toArray,List.length_cons,List.length_nil,Array.replicate,List.replicate]
  refine any_take (i:=0) (v:=(.slice (some ⟨w.heap.size,0,none⟩) 32 32)) #[false,false,false,false,false,false,false,false,false,false,false] rfl (by kernel_rfl) (by kernel_rfl) (by kernel_rfl) (by kernel_rfl) (fun _ _ _ h=>h) (.inl ⟨by kernel_rfl,fun x_ hu=>by go_simp⟩) trivial ?_
  simp only [nrm]
  refine any_take (i:=1) (v:=(.slice a8 n8 c8)) #[true,false,false,false,false,false,false,false,false,false,false] rfl (by kernel_rfl) (by kernel_rfl) (by kernel_rfl) (by kernel_rfl) (fun _ _ _ h=>h) (.inl ⟨by kernel_rfl,fun x_ hu=>by kernel_rfl⟩) trivial ?_
  simp only [nrm]
  refine any_take (i:=2) (v:=(.slice a ni ci)) #[true,true,false,false,false,false,false,false,false,false,false] rfl (by kernel_rfl) (by kernel_rfl) (by kernel_rfl) (by kernel_rfl) (fun _ _ _ h=>h) (.inl ⟨by kernel_rfl,fun x_ hu=>by kernel_rfl⟩) trivial ?_
  simp only [nrm]
  refine any_take (i:=4) (v:=(.int .i64 ((i+1:Nat):Int))) #[true,true,true,false,false,false,false,false,false,false,false] rfl (by kernel_rfl) (by kernel_rfl) (by kernel_rfl) (by kernel_rfl) (fun _ _ _ h=>h) (.inl ⟨by kernel_rfl,fun x_ hu=>by kernel_rfl⟩) trivial ?_
  simp only [nrm]
  refine any_take (i:=5) (v:=(.int .u8 y)) #[true,true,true,false,true,false,false,false,false,false,false] rfl (by kernel_rfl) (by kernel_rfl) (by kernel_rfl) (by kernel_rfl) (fun _ _ _ h=>h) (.inl ⟨by kernel_rfl,fun x_ hu=>by go_simp⟩) trivial ?_
  simp only [nrm]
  refine float2 (fun q u=>Yl u q y) (fun q u=>Kl W0.heap.size u q) 23 10 (fun b_ d_=>#[true,true,true,false,true,true,b_,false,false,d_,false]) 6 9 3 false (b1:=false) (b2:=false) (q1:=u23) (q2:=u10) rfl rfl (fun e=>by cases e) (fun e=>by cases e) (fun _ _ _ h k=>h.gr k) (fun _ _ _ h k=>h.gr k) (fun _ _=>trivial) (by kernel_rfl) (fun b_ d_=>by cases b_ <;> cases d_ <;> rfl) (fun b_ d_=>by cases b_ <;> cases d_ <;> rfl) ?_ ?_ ?_
  all_goals simp only [fw1,Act.put,List.setIfInBounds_toArray,List.set_cons_zero,List.set_cons_succ,List.getElem_toArray,List.getElem_cons_zero,List.getElem_cons_succ]
  ·intro q_ p_ x_ hgx K hK
   refine wpOp_step (o:=_) rfl (fun K' hK'=>?_)
   refine step_val (.slice (some ⟨x_.heap.size,0,none⟩) 1 1) (x_.alloc (.cells (kc [y]) 5 (0,0))) (by kernel_rfl) (by kernel_rfl) ?_
   exact hK' _ _ (hK _ _ ((Gr.refl _).alloc _) ⟨_,rfl,blk_new _ _⟩)
  ·intro q_ p_ x_ hgx K hK
   refine wpOp_step (o:=_) rfl (fun K' hK'=>?_)
   refine step_val (.pointer (some ⟨x_.heap.size,0,none⟩)) (x_.alloc (.cells (kc Z32) 23 (0,0))) (by kernel_rfl) (by kernel_rfl) ?_
   exact hK' _ _ (hK _ _ ((Gr.refl _).alloc _) ⟨_,rfl,blk_new _ _,hgx.size⟩)
  intro b1 b2 q1 q2 x1 hg h1 h2 _
  have hG0:=hg
  replace hS:=hS.more hg
  clear hg
  refine wpOp_step (o:=_) rfl (fun Kc hK=>?_)
  refine step_callw (by kernel_rfl) 19 #[.slice a8 n8 c8,.slice a ni ci] (by kernel_rfl) ((both_ok (lastT K I i) I a8 a n8 c8 ni ci (by omega) _ hS.lb ((unhide hI).gr hS.gr)).mono ?_)
  rintro r x2 ⟨v2,rfl,hO,hg⟩
  refine ⟨_,rfl,?_⟩
  obtain ⟨a2,c2,rfl,l2⟩:=hO.lb (isB_append (lastT_isB _ _ _) (unhide hI).isB)
  have hl2:(lastT K I i++I).length=n8+ni:=by rw [List.length_append,hS.lb.len,(unhide hI).len]
  rw [hl2] at l2
  rw [hl2]
  replace h1:b1=true→Yl x2 q1 y:=fun e=>(h1 e).gr hg
  replace h2:b2=true→Kl W0.heap.size x2 q2:=fun e=>(h2 e).gr hg
  replace hS:=hS.more hg
  replace hG0:=hG0.trans hg
  clear hg hO hl2
  refine hK _ _ ⟨trivial,?_⟩
  clear hK Kc
  simp only [nrm]
  refine float2 (fun q u=>Yl u q y) (fun q u=>Kl W0.heap.size u q) 23 10 (fun b_ d_=>#[true,true,true,true,true,true,b_,false,false,d_,false]) 6 9 7 true (b1:=b1) (b2:=b2) (q1:=q1) (q2:=q2) rfl rfl h1 h2 (fun _ _ _ h k=>h.gr k) (fun _ _ _ h k=>h.gr k) (fun _ _=>trivial) (by kernel_rfl) (fun b_ d_=>by cases b_ <;> cases d_ <;> rfl) (fun b_ d_=>by cases b_ <;> cases d_ <;> rfl) ?_ ?_ ?_
  all_goals simp only [fw1,Act.put,List.setIfInBounds_toArray,List.set_cons_zero,List.set_cons_succ,List.getElem_toArray,List.getElem_cons_zero,List.getElem_cons_succ]
  ·intro q_ p_ x_ hgx K hK
   refine wpOp_step (o:=_) rfl (fun K' hK'=>?_)
   refine step_val (.slice (some ⟨x_.heap.size,0,none⟩) 1 1) (x_.alloc (.cells (kc [y]) 5 (0,0))) (by kernel_rfl) (by kernel_rfl) ?_
   exact hK' _ _ (hK _ _ ((Gr.refl _).alloc _) ⟨_,rfl,blk_new _ _⟩)
  ·intro q_ p_ x_ hgx K hK
   refine wpOp_step (o:=_) rfl (fun K' hK'=>?_)
   refine step_val (.pointer (some ⟨x_.heap.size,0,none⟩)) (x_.alloc (.cells (kc Z32) 23 (0,0))) (by kernel_rfl) (by kernel_rfl) ?_
   exact hK' _ _ (hK _ _ ((Gr.refl _).alloc _) ⟨_,rfl,blk_new _ _,Nat.le_trans hG0.size hgx.size⟩)
  clear h1 h2
  intro b1 b2 q1 q2 x3 hg h1 h2 hall
  obtain rfl:b1=true:=hall (by trivial)
  obtain ⟨g1,rfl,hc1⟩:=h1 rfl
  clear hall h1
  replace hG0:=hG0.trans hg
  replace hS:=hS.more hg
  replace l2:=l2.gr hg
  clear hg
  refine wpOp_step (o:=_) rfl (fun Kc hK=>?_)
  refine step_callw (by kernel_rfl) 19 #[.slice a2 (n8+ni) c2,.slice (some ⟨g1,0,none⟩) 1 1] (by kernel_rfl) ((both_ok (lastT K I i++I) [y] a2 (some ⟨g1,0,none⟩) (n8+ni) c2 1 1 (by omega) _ l2 ⟨rfl,(by intro x hx; simp at hx; subst hx; exact hyb),.inr ⟨_,0,rfl,kc_at hc1⟩,by omega,by omega⟩).mono ?_)
  rintro r x4 ⟨v4,rfl,hO,hg⟩
  refine ⟨_,rfl,?_⟩
  obtain ⟨a4,c4,rfl,l4⟩:=hO.lb (isB_append l2.isB (by intro x hx; simp at hx; subst hx; exact hyb))
  have hl4:(lastT K I i++I++[y]).length=n8+ni+1:=by rw [List.length_append,l2.len]; rfl
  rw [hl4] at l4
  rw [hl4]
  replace h2:b2=true→Kl W0.heap.size x4 q2:=fun e=>(h2 e).gr hg
  replace hS:=hS.more hg
  replace hG0:=hG0.trans hg
  clear hg hO hl4 l2 hc1
  refine hK _ _ ⟨trivial,?_⟩
  clear hK Kc
  simp only [nrm]
  refine float_again (fun q u=>Kl W0.heap.size u q) 10 (fun b_=>#[true,true,true,true,true,true,true,true,false,b_,false]) 9 8 false (b:=b2) (q:=q2) rfl rfl h2 (fun _ _=>trivial) (by kernel_rfl) (fun b_=>by cases b_ <;> rfl) ?_ ?_
  all_goals simp only [fw1,Act.put,List.setIfInBounds_toArray,List.set_cons_zero,List.set_cons_succ,List.getElem_toArray,List.getElem_cons_zero,List.getElem_cons_succ]
  ·intro q_ x_ hgx K hK
   refine wpOp_step (o:=_) rfl (fun K' hK'=>?_)
   refine step_val (.pointer (some ⟨x_.heap.size,0,none⟩)) (x_.alloc (.cells (kc Z32) 23 (0,0))) (by kernel_rfl) (by kernel_rfl) ?_
   exact hK' _ _ (hK _ _ ((Gr.refl _).alloc _) ⟨_,rfl,blk_new _ _,Nat.le_trans hG0.size hgx.size⟩)
  clear h2
  intro b2 q2 x5 hg h2 _
  replace hG0:=hG0.trans hg
  replace hS:=hS.more hg
  replace l4:=l4.gr hg
  clear hg
  refine wpOp_step (o:=_) rfl (fun Kc hK=>?_)
  refine step_callw (by kernel_rfl) 119 #[.slice (some ⟨w.heap.size,0,none⟩) 32 32,.slice a4 (n8+ni+1) c4] (by kernel_rfl) ((rhmac_ok K (lastT K I i++I++[y]) (some ⟨w.heap.size,0,none⟩) a4 32 32 (n8+ni+1) c4 (by omega) (by omega) _ ⟨hKl,unhide hKb,.inr ⟨_,0,rfl,kc_at hS.bk⟩,by omega,by omega⟩ l4).mono ?_)
  rintro r x6 ⟨rfl,hg⟩
  refine ⟨_,rfl,?_⟩
  rw [unhide hnx]
  obtain ⟨M,hM⟩:∃ M,M=lastT K I (i+1):=⟨_,rfl⟩
  have hMl:M.length=32:=by rw [hM]; exact lastT_len _ _ _
  have hMb:IsB M:=by rw [hM]; exact lastT_isB _ _ _
  rw [← hM]
  replace hM:=hide hM
  replace hMb:=hide hMb
  replace h2:b2=true→Kl W0.heap.size x6 q2:=fun e=>(h2 e).gr hg
  replace hS:=hS.more hg
  replace hG0:=hG0.trans hg
  clear hg l4
  refine hK _ _ ⟨trivial,?_⟩
  clear hK Kc
  simp only [nrm]
  refine float_again (fun q u=>Kl W0.heap.size u q) 10 (fun b_=>#[true,true,true,true,true,true,true,true,true,b_,false]) 9 10 true (b:=b2) (q:=q2) rfl rfl h2 (fun _ _=>trivial) (by kernel_rfl) (fun b_=>by cases b_ <;> rfl) ?_ ?_
  all_goals simp only [fw1,Act.put,List.setIfInBounds_toArray,List.set_cons_zero,List.set_cons_succ,List.getElem_toArray,List.getElem_cons_zero,List.getElem_cons_succ]
  ·intro q_ x_ hgx K hK
   refine wpOp_step (o:=_) rfl (fun K' hK'=>?_)
   refine step_val (.pointer (some ⟨x_.heap.size,0,none⟩)) (x_.alloc (.cells (kc Z32) 23 (0,0))) (by kernel_rfl) (by kernel_rfl) ?_
   exact hK' _ _ (hK _ _ ((Gr.refl _).alloc _) ⟨_,rfl,blk_new _ _,Nat.le_trans hG0.size hgx.size⟩)
  clear h2
  intro b2 q2 x7 hg h2 hall
  obtain rfl:b2=true:=hall (by trivial)
  obtain ⟨gt,rfl,hct,hgt⟩:=h2 rfl
  clear hall h2
  replace hG0:=hG0.trans hg
  replace hS:=hS.more hg
  clear hg
  have hL:Bl W0 [⟨gt,kc Z32,23⟩] x7:=(Bl.nil W0).join hG0 [⟨gt,kc Z32,23⟩] (fun x hx=>by simp at hx; subst hx; exact ⟨hct,hgt⟩) (List.pairwise_singleton _ _)
  refine wpOp_step (o:=_) rfl (fun Kc hK=>?_)
  rw [if_pos (by kernel_rfl)]
  refine wp_store_row 23 (.tmp 10) (.tmp 25) rfl gt (kc M) (by kernel_rfl) (by kernel_rfl) 23 (kc Z32) hct (by rw [Tryz.infoKey,kc_size,hMl]) ((show (kc Z32).size=32 from rfl).trans ((kc_size _).trans hMl).symm) (kc_one _) ?_
  replace hL:=hL.set 0 (x:=⟨gt,kc Z32,23⟩) rfl (kc M)
  simp only [List.set_cons_zero,List.set_cons_succ] at hL
  refine hK _ _ ⟨trivial,?_⟩
  clear hK Kc
  generalize World.setRow _ _ _=x8 at *
  simp only [nrm]
  refine any_done (by kernel_rfl) ?_
  have hct2:=hL.get 0 (x:=⟨gt,kc M,23⟩) rfl
  replace hS:=hide ((unhide hS0).more hL.gr)
  have lm:Hid (Lb x8 (some ⟨gt,0,none⟩) 32 32 M):=⟨hMl,unhide hMb,.inr ⟨_,0,rfl,kc_at hct2⟩,by omega,by omega⟩
  clear hct2 hct hL hG0 hS0 hgt
  go_upto_region 6 with fail
  refine wp_region_lit ?_
  iterate 1 (refine wpList_step fun K hK=>?_; replace hK:=hide hK; go_simp; refine unhide hK _ _ ?_; clear hK K)
  refine list_call 19 #[.slice (some ⟨gt,0,none⟩) 32 32,.slice none 0 0] (by kernel_rfl) (by kernel_rfl) ((both_ok M [] (some ⟨gt,0,none⟩) none 32 32 0 0 (by omega) _ (unhide lm) (Lb.nil _)).mono ?_)
  rintro r x9 ⟨v9,rfl,hO,hg⟩
  refine ⟨_,rfl,?_⟩
  rw [List.append_nil] at hO
  obtain ⟨a9,c9,rfl,l9⟩:=hO.lb (unhide hMb)
  rw [hMl] at l9
  rw [hMl]
  replace hS:=hide ((unhide hS).more hg)
  replace l9:=hide l9
  clear lm hO hg
  simp only [nrm]
  iterate 1 (refine wpList_step fun K hK=>?_; replace hK:=hide hK; go_simp; refine unhide hK _ _ ?_; clear hK K)
  refine wpList_nil ?_
  go_upto_region 7 with fail
  refine wp_region_lit ?_
  iterate 2 (refine wpList_step fun K hK=>?_; replace hK:=hide hK; go_simp; refine unhide hK _ _ ?_; clear hK K)
  refine list_call 19 #[.slice a7 (32 * i) c7,.slice a9 32 c9] (by kernel_rfl) (by kernel_rfl) ((both_ok (outT K I i) M a7 a9 (32 * i) c7 32 c9 (by omega) _ (unhide hS).la (unhide l9)).mono ?_)
  rintro r y1 ⟨v10,rfl,hO,hg⟩
  refine ⟨_,rfl,?_⟩
  obtain ⟨a10,c10,rfl,l10⟩:=hO.lb (isB_append (outT_isB _ _ _) (unhide hMb))
  have hl10:(outT K I i++M).length=32 * (i+1):=by rw [List.length_append,outT_len,hMl]; omega
  rw [hl10] at l10
  rw [hl10]
  replace hS:=(unhide hS).more hg
  have hE:Hid (EI w K I (i+1) a10 c10 a9 32 c9 y1):=⟨by rw [outT,← unhide hM]; exact l10,by rw [← unhide hM]; exact (unhide l9).gr hg,hS.bk,hS.gr⟩
  clear hS hO hg l9 l10 hl10
  simp only [nrm]
  iterate 1 (refine wpList_step fun K hK=>?_; replace hK:=hide hK; go_simp; refine unhide hK _ _ ?_; clear hK K)
  refine wpList_nil ?_
  go_wp2_with fail
  go_roundw
  case rel=>exact ⟨i+1,a10,c10,a9,32,c9,by omega,rfl,rfl,by go_num,hE⟩
  case measure=>simp [slenV]; omega
 ·have lI:¬ 32 * (i:Int)<(n:Int):=by omega
  have hlt:n≤32 * i:=by omega
  have hsp:Hid ((outT K I i).take n=spL K I n):=spL_of K I n i hlt
  have hnc:n≤c7:=by have:=(unhide hS).la.cap; omega
  go_upto_region 8 with fail
  refine wp_region_lit ?_
  iterate 3 (refine wpList_step fun K hK=>?_; replace hK:=hide hK; go_simp; refine unhide hK _ _ ?_; clear hK K)
  have lc:=Sl.cutl (unhide hS).la n hlt
  rw [unhide hsp] at lc
  refine list_call 19 #[.slice a7 n c7,.slice none 0 0] (by kernel_rfl) (by kernel_rfl) ((both_ok (spL K I n) [] a7 none n c7 0 0 (by omega) _ lc (Lb.nil _)).mono ?_)
  rintro r y1 ⟨v1,rfl,hO,hg⟩
  refine ⟨_,rfl,?_⟩
  rw [List.append_nil] at hO
  obtain ⟨a1,c1,rfl,l1⟩:=hO.lb (spL_isB _ _ _)
  rw [spL_len] at l1
  rw [spL_len]
  have hP:Hid (Rexp K I n w (.returned (.slice a1 n c1)) y1):=⟨a1,c1,rfl,l1,(unhide hS).gr.trans hg⟩
  clear hS hg hO l1 lc
  simp only [nrm]
  iterate 1 (refine wpList_step fun K hK=>?_; replace hK:=hide hK; go_simp; refine unhide hK _ _ ?_; clear hK K)
  refine wpList_nil ?_
  go_wp2_with fail
  rw [unhide hT]
  exact unhide hP
end Go.Proofs.YthahhglbeafkmaaGreatDoor
