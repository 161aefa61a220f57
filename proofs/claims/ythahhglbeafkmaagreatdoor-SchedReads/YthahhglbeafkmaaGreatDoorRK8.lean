/-
  What the proof leans on.
-/
import Derived.Test.YthahhglbeafkmaaGreatDoorRK7
namespace Go.Proofs.YthahhglbeafkmaaGreatDoor
open Go.RowKit
set_option maxRecDepth 100000
set_option linter.unusedSimpArgs false
set_option linter.unusedVariables false
theorem Lb.short {v:World} {s:Option Addr} {len cap:Nat} {B:List Int} (h:Lb v s len cap B) (n:Nat) (hn:n≤len):Lb v s n cap (B.take n):=by
 refine ⟨by rw [List.length_take,h.len]; omega,h.isB.take n,?_,Nat.le_trans hn h.cap,h.max⟩
 rcases h.sl with rfl | ⟨p,o,rfl,hat⟩
 ·exact .inl (by simp)
 ·refine .inr ⟨p,o,rfl,fun j hj=>?_⟩
  rw [List.length_take] at hj
  rw [hat j (by omega)]
  congr 2
  rw [List.getD_eq_getElem?_getD,List.getD_eq_getElem?_getD,List.getElem?_take,if_pos (by omega)]
theorem list_mid {ops:Array Oper} {Q:Exit→Act→World→Prop} {a:Act} {w:World} {o:Oper} {rest:List Oper} (x y z:Operand) (hw:Region.wanted o (yielded ops a.tmps)=true) (ho:o.op=.slice 43 x (some y) (some z) none)
  (s:Option Addr) (len cap q e:Nat) (hx:a.eval x=.slice s len cap) (hy:a.eval y=.int .i64 q) (hz0:a.eval z=.int .i64 e) (B:List Int) (hb:Lb w s len cap B) (hqe:q≤e) (he:e≤len)
  (h:∀ s',(∀ v,Lb v s len cap B→Lb v s' (e - q) (cap - q) ((B.drop q).take (e - q)))→wpList Tryz.prog ops Q rest (a.put o.dst (.slice s' (e - q) (cap - q))) w):wpList Tryz.prog ops Q (o::rest) a w:=by
 refine list_val (.slice (if cap=q then s else s.map (·.add q)) (e - q) (cap - q)) hw ?_ (h _ fun v hv=>(hv.rest q (by omega)).short (e - q) (by omega))
 have hc:=hb.cap
 have h1:(0:Int)≤q:=by omega
 have h2:(q:Int)≤e:=by omega
 have h3:(e:Int)≤cap:=by omega
 have hu:Tryz.prog.underlying 43=some (.slice (Tryz.prog.elem 43)):=by kernel_rfl
 have hz:(sizeOf (Tryz.prog.elem 43)).run Tryz.prog w=.ok 1 w:=by kernel_rfl
 simp [execOp,ho,hx,hy,hz0,run_sliceAt_slice _ _ _ _ _ _ hu,run_slice_lh _ _ _ _ _ hu _ _ _ _ h1 h2 h3,hz,sliced]
theorem key_tail {w:World} {g:Nat} {K:List Int} {t:TypeId} (h:w.heap[g]?=some (.cells (kc K) t (0,0))) (hK:K.length=32) (hb:IsB K):Lb w (some ⟨g,16,none⟩) 16 16 (K.drop 16):=by
 refine ⟨by rw [List.length_drop,hK],hb.drop 16,.inr ⟨g,16,rfl,?_⟩,Nat.le_refl _,by omega⟩
 intro j hj
 rw [List.length_drop,hK] at hj
 have h1:=kc_cell h (16+j) (by omega)
 have e:(K.drop 16).getD j 0=K.getD (16+j) 0:=by rw [List.getD_eq_getElem?_getD,List.getElem?_drop,← List.getD_eq_getElem?_getD]
 rw [e]
 exact h1
def bN (B:List Int) (k:Nat):Nat:=V (nb ((B.drop (16 * k)).take 16)++[1])
def acN (r:Nat) (B:List Int):Nat→Nat
 | 0=>0
 | k+1=>(acN r B k+bN B k) * r % P5
def nk (n:Nat):Nat:=(n+15) / 16
def mcN (K B:List Int):Nat:=acN (V (nb (clL K))) B (nk B.length)+V (nb (K.drop 16))
def tgf (n i:Nat):Int:=((n / 256 ^ i % 256:Nat):Int)
def tgL (n:Nat):List Int:=(List.range 16).map (tgf n)
theorem tgL_len (n:Nat):(tgL n).length=16:=by simp [tgL]
def mcL (K B:List Int):List Int:=tgL (mcN K B)
theorem V_digit:∀ (l:List Nat),AllB l→∀ i,l.getD i 0=V l / 256 ^ i % 256
 | [],_,i=>by simp [V]
 | x::l,h,0=>by
  have:=h x List.mem_cons_self
  rw [V]
  simp
  omega
 | x::l,h,i+1=>by
  have h1:=V_digit l (fun y hy=>h y (List.mem_cons_of_mem _ hy)) i
  have hx:=h x List.mem_cons_self
  rw [List.getD_cons_succ,h1,V,Nat.pow_succ,Nat.mul_comm (256 ^ i) 256,← Nat.div_div_eq_div_mul,show (x+256 * V l) / 256=V l from by omega]
set_option maxHeartbeats 8000000 in
theorem rmac_ok (K B:List Int) (hK:K.length=32) (hKb:IsB K) (s:Option Addr) (n cap:Nat) (hbig:n≤100000) (w:World) (lb:Lb w s n cap B):Calls Tryz.prog 76 #[.agg (kc K),.slice s n cap] w (Tg (mcL K B) w):=by
 obtain ⟨T,hT⟩:∃ T,T=Tg (mcL K B) w:=⟨_,rfl⟩
 rw [← hT]
 replace hT:=hide hT
 obtain ⟨SK,hSK⟩:∃ S,S=kc K:=⟨_,rfl⟩
 rw [← hSK]
 replace hSK:=hide hSK
 replace hKb:=hide hKb
 have hn:=hide lb.len
 replace lb:=hide lb
 go_enter Tryz.func76,Tryz.ntmps76
 go_upto_region 1 with fail
 have hB:=((Bl.nil w).new SK 23).new #[.int .u8 0,.int .u8 0,.int .u8 0,.int .u8 0,.int .u8 0,.int .u8 0,.int .u8 0,.int .u8 0,.int .u8 0,.int .u8 0,.int .u8 0,.int .u8 0,.int .u8 0,.int .u8 0,.int .u8 0,.int .u8 0] 94
 simp only [size_alloc,List.nil_append,List.cons_append] at hB
 generalize World.alloc _ _=u at *
 rw [unhide hSK] at hB
 replace hB:Bl w [⟨w.heap.size,kc K,23⟩,⟨w.heap.size+1,kc ZT,94⟩] u:=hB
 refine wp_region_lit ?_
 refine list_val (.agg (kc K)) (by kernel_rfl) (exec_arr _ 23 (.tmp 2) rfl (w.heap.size) (by kernel_rfl) (kc K) 23 _ (hB.get 0 (x:=⟨w.heap.size,kc K,23⟩) rfl) Tryz.underlying23 rfl (by rw [Tryz.infoKey,kc_size,hK])) ?_
 simp only [nrm]
 refine list_call 95 #[.agg (kc K)] (by kernel_rfl) (by kernel_rfl) ((rclamp_ok K hK (unhide hKb) _).mono ?_)
 rintro r w1 ⟨rfl,hg⟩
 refine ⟨_,rfl,?_⟩
 replace hB:=hB.more hg
 clear hg
 obtain ⟨R,hR⟩:∃ R,R=clL K:=⟨_,rfl⟩
 have hRl:R.length=16:=by rw [hR]; exact clL_len K
 have hRb:Hid (IsB R):=by rw [hR]; exact clL_isB K (unhide hKb)
 rw [← hR]
 replace hR:=hide hR
 simp only [nrm]
 replace hB:=hide hB
 (refine wpList_step fun K hK=>?_; replace hK:=hide hK; go_simp; refine unhide hK _ _ ?_; clear hK K)
 replace hB:=(unhide hB).new #[.int .u8 0,.int .u8 0,.int .u8 0,.int .u8 0,.int .u8 0,.int .u8 0,.int .u8 0,.int .u8 0,.int .u8 0,.int .u8 0,.int .u8 0,.int .u8 0,.int .u8 0,.int .u8 0,.int .u8 0,.int .u8 0] 94
 simp only [List.nil_append,List.cons_append] at hB
 generalize World.alloc _ _=w2 at *
 generalize w1.heap.size=h5 at *
 replace hB:Bl w [⟨w.heap.size,kc K,23⟩,⟨w.heap.size+1,kc ZT,94⟩,⟨h5,kc ZT,94⟩] w2:=hB
 refine list_store 94 (.tmp 5) (.tmp 12) (h5) (kc R) 94 (kc ZT) (by kernel_rfl) rfl (by kernel_rfl) (by kernel_rfl) (hB.get 2 (x:=⟨h5,kc ZT,94⟩) rfl) (by rw [Tryz.infoT,kc_size,hRl]) ((show (kc ZT).size=16 from rfl).trans ((kc_size _).trans hRl).symm) (kc_one _) ?_
 replace hB:=hB.set 2 (x:=⟨h5,kc ZT,94⟩) rfl (kc R)
 simp only [List.set_cons_zero,List.set_cons_succ] at hB
 generalize World.setRow _ _ _=w3 at *
 simp only [nrm]
 refine wpList_nil ?_
 replace hB:=hide hB
 have rN:Hid (V (nb R)=V (nb (clL K))):=by rw [unhide hR]; exact rfl
 generalize hrn:V (nb (clL K))=r at *
 replace hrn:=hide hrn
 go_wp2_with fail
 go_loopw [7,6] (fun i o wr=>∃ kk q:Nat,∃ v:Value,∃ Acc:List Nat,Hid (q=16 * kk)∧q≤n+15∧i=.int .i64 q∧v=o∧Hid (V Acc=acN r B kk)∧Hid (AllB Acc)∧Hid (Acc.length≤17)∧Hid (Oi w.heap.size wr v Acc)∧Hid (Bl w [⟨w.heap.size,kc K,23⟩,⟨w.heap.size+1,kc ZT,94⟩,⟨h5,kc R,94⟩] wr)) (fun i _ _=>n+16 - (intOf i).toNat)
 case atStart=>exact ⟨0,0,_,[],rfl,by omega,rfl,rfl,rfl,(fun x hx=>by cases hx),(show ([]:List Nat).length≤17 by simp),Oi.nil _ _,hB⟩
 case round =>
 clear hB
 obtain ⟨kk,q,v,Acc,hq,hqn,rfl,rfl,hV,bA,lA,ob,hB⟩:=hrel
 obtain ⟨a6,c6,rfl,li6h⟩:=(unhide ob).li
 obtain ⟨n6,hn6e⟩:∃ x,x=Acc.length:=⟨_,rfl⟩
 rw [← hn6e] at li6h ⊢
 have hn6:Hid (n6≤17):=by rw [hn6e]; exact unhide lA
 replace hn6e:=hide hn6e
 replace li6h:=hide li6h
 by_cases hl:q<n
 ·have qI:(q:Int)<(n:Int):=by omega
  obtain ⟨q16,hq16⟩:∃ x,x=q+16:=⟨_,rfl⟩
  obtain ⟨e,he⟩:∃ x,x=min q16 n:=⟨_,rfl⟩
  obtain ⟨p,hp⟩:∃ x,x=e - q:=⟨_,rfl⟩
  have i1:(q:Int)+16=(q16:Int):=by omega
  have i2:IntKind.i64.wrap (q16:Int)=(q16:Int):=by rw [IntKind.wrap_i64]; omega
  have i3:(if (n:Int)<(q16:Int) then (n:Int) else (q16:Int))=(e:Int):=by split <;> omega
  have i4:(if n<q16 then (n:Int) else (q16:Int))=(e:Int):=by split <;> omega
  have i5:q≤e:=by omega
  have i6:e≤n:=by omega
  have i9:e - q=p:=hp.symm
  have hp16:p≤16:=by omega
  have hpt:List.take 16 (List.drop q B)=List.take p (List.drop q B):=by
   rcases Nat.lt_or_ge p 16 with h | h
   ·have hlen:(List.drop q B).length=p:=by rw [List.length_drop,unhide hn]; omega
    rw [List.take_of_length_le (by omega),List.take_of_length_le (by omega)]
   ·rw [show p=16 from by omega]
  replace hp:=hide hp
  replace he:=hide he
  replace hq16:=hide hq16
  go_upto_region 6 with fail
  replace hB:=unhide hB
  refine wp_region_lit ?_
  refine list_val (.slice s n cap) (by kernel_rfl) (by kernel_rfl) ?_
  simp only [nrm]
  refine list_val (.int .i64 q) (by kernel_rfl) (by kernel_rfl) ?_
  simp only [nrm]
  refine list_val (.int .i64 q) (by kernel_rfl) (by kernel_rfl) ?_
  simp only [nrm]
  refine list_val (.int .i64 q16) (by kernel_rfl) (by go_simp) ?_
  simp only [nrm]
  refine list_val (.slice s n cap) (by kernel_rfl) (by kernel_rfl) ?_
  simp only [nrm]
  refine list_val (.int .i64 n) (by kernel_rfl) (by kernel_rfl) ?_
  simp only [nrm]
  refine list_val (.int .i64 e) (by kernel_rfl) (by go_simp) ?_
  simp only [nrm]
  refine list_mid (.tmp 19) (.tmp 20) (.tmp 25) (by kernel_rfl) rfl s n cap q e rfl rfl rfl B ((unhide lb).gr hB.gr) i5 i6 ?_
  intro s1 hs1
  simp only [nrm]
  have lp:=hs1 _ ((unhide lb).gr hB.gr)
  clear hs1
  rw [i9] at lp ⊢
  have hG:=Gr.refl wr
  refine list_call 96 #[.slice s1 p (cap - q)] (by kernel_rfl) (by kernel_rfl) ((rrow_ok _ s1 p (cap - q) (by omega) _ lp).mono ?_)
  rintro r u1 ⟨vn,Ln,rfl,obn,pn,hg⟩
  refine ⟨_,rfl,?_⟩
  replace hG:=hG.trans hg
  clear hg
  subst pn
  simp only [nrm]
  (refine wpList_step fun K hK=>?_; replace hK:=hide hK; go_simp; refine unhide hK _ _ ?_; clear hK K)
  refine wpList_nil ?_
  replace hG:=hide hG
  replace obn:=hide obn
  replace hB:=hide hB
  go_upto_region 7 with fail
  replace hG:=unhide hG
  replace obn:=unhide obn
  replace hB:=unhide hB
  refine wp_region_lit ?_
  refine list_val vn (by kernel_rfl) (by kernel_rfl) ?_
  simp only [nrm]
  refine list_valw (.slice (some ⟨u1.heap.size,0,none⟩) 1 1) (u1.alloc (.cells #[.int .i64 ((1:Nat):Int)] 3 (0,0))) (by kernel_rfl) (by kernel_rfl) ?_
  simp only [nrm]
  have hnew:=blk_new u1 (.cells #[.int .i64 ((1:Nat):Int)] 3 (0,0))
  have hgx:=(Gr.refl u1).alloc (.cells #[.int .i64 ((1:Nat):Int)] 3 (0,0))
  replace hG:=hG.trans hgx
  replace obn:=obn.gr hgx
  clear hgx
  generalize World.alloc _ _=u2 at *
  generalize u1.heap.size=g1 at *
  refine app_int rfl (.tmp 28) (.tmp 29) rfl wr.heap.size vn _ rfl obn g1 1 _ rfl hnew (by rw [nb_len,lp.len]; omega) hG.size ?_
  intro vn2 u3 obN hgr
  simp only [nrm]
  replace hG:=Oi.grown obn (Nat.le_refl _) hG hgr
  clear hgr hnew obn
  have hNb:AllB (nb (List.take p (List.drop q B))++[1]):=(nb_allB _ lp.isB).snoc (by omega)
  have hNl:(nb (List.take p (List.drop q B))++[1]).length=p+1:=by rw [List.length_append,nb_len,lp.len]; rfl
  obtain ⟨a8,c8,rfl,liN⟩:=obN.li
  rw [hNl] at liN ⊢
  have hBN:V (nb (List.take p (List.drop q B))++[1])=bN B kk:=by
   unfold bN
   rw [← unhide hq,show List.take 16 (List.drop q B)=List.take p (List.drop q B) from ?_]
   exact hpt
  generalize nb (List.take p (List.drop q B))++[1]=NN at *
  replace hB:=hB.more hG
  have li6:=(unhide li6h).gr hG
  clear hG obN lp hNl
  (refine wpList_step fun K hK=>?_; replace hK:=hide hK; go_simp; refine unhide hK _ _ ?_; clear hK K)
  refine wpList_nil ?_
  replace hB:=hide hB
  replace li6:=hide li6
  replace liN:=hide liN
  go_upto_region 8 with fail
  replace hB:=unhide hB
  replace li6:=unhide li6
  replace liN:=unhide liN
  refine any_start (S:=fun _=>True) (by kernel_rfl) ?_
  replace hB:=hB.drew
  replace li6:=li6.gr (Gr.refl _).drew
  replace liN:=liN.gr (Gr.refl _).drew
  generalize World.drew _=u4 at *
  simp only [List.size_toArray,List.length_cons,List.length_nil,Array.replicate,List.replicate]
  refine any_take (i:=0) (v:=(.slice a6 n6 c6)) #[false,false,false,false,false,false,false,false] rfl (by kernel_rfl) (by kernel_rfl) (by kernel_rfl) (by kernel_rfl) (fun _ _ _ h=>h) (.inl ⟨by kernel_rfl,fun x_ hu=>by kernel_rfl⟩) trivial ?_
  simp only [nrm]
  refine any_take (i:=1) (v:=(.slice a8 (p+1) c8)) #[true,false,false,false,false,false,false,false] rfl (by kernel_rfl) (by kernel_rfl) (by kernel_rfl) (by kernel_rfl) (fun _ _ _ h=>h) (.inl ⟨by kernel_rfl,fun x_ hu=>by kernel_rfl⟩) trivial ?_
  simp only [nrm]
  refine any_take (i:=3) (v:=(.slice (some ⟨h5,0,none⟩) 16 16)) #[true,true,false,false,false,false,false,false] rfl (by kernel_rfl) (by kernel_rfl) (by kernel_rfl) (by kernel_rfl) (fun _ _ _ h=>h) (.inl ⟨by kernel_rfl,fun x_ hu=>by kernel_rfl⟩) trivial ?_
  simp only [nrm]
  refine any_one (i:=2) (by kernel_rfl) rfl (fun K_ hK=>?_)
  refine step_callw (by kernel_rfl) 99 #[.slice a6 n6 c6,.slice a8 (p+1) c8] (by kernel_rfl) ((rplus_ok Acc NN (unhide bA) hNb a6 a8 n6 (p+1) c6 c8 (by have:=unhide hn6; omega) (by omega) _ li6 liN).mono ?_)
  rintro r u5 ⟨vp,P,rfl,obP,pP,hg⟩
  refine ⟨_,rfl,?_⟩
  obtain ⟨ap,cp,rfl,liP⟩:=obP.li
  obtain ⟨np,hnp⟩:∃ x,x=P.length:=⟨_,rfl⟩
  rw [← hnp] at liP ⊢
  replace hnp:=hide hnp
  have hnp2:np≤100:=by have h:=pP.2.2; rw [← unhide hnp,liN.len,li6.len] at h; have:=unhide hn6; omega
  clear li6 liN obP
  replace hB:=hB.more hg
  clear hg
  refine hK.out _ _ trivial (fun _=>?_)
  clear hK K_
  simp only [nrm]
  refine any_one (i:=4) (by kernel_rfl) rfl (fun K_ hK=>?_)
  refine step_callw (by kernel_rfl) 96 #[.slice (some ⟨h5,0,none⟩) 16 16] (by kernel_rfl) ((rrow_ok R _ 16 16 (by omega) _ (kc_lb (hB.get 2 (x:=⟨h5,kc R,94⟩) rfl) hRl (unhide hRb) (by omega))).mono ?_)
  rintro r u6 ⟨vr,RR,rfl,obRR,pRR,hg⟩
  refine ⟨_,rfl,?_⟩
  subst pRR
  obtain ⟨ar,cr,rfl,liR⟩:=obRR.li
  rw [nb_len,hRl] at liR ⊢
  replace liP:=liP.gr hg
  clear obRR
  replace hB:=hB.more hg
  clear hg
  refine hK.out _ _ trivial (fun _=>?_)
  clear hK K_
  simp only [nrm]
  refine any_one (i:=5) (by kernel_rfl) rfl (fun K_ hK=>?_)
  refine step_callw (by kernel_rfl) 98 #[.slice ap np cp,.slice ar 16 cr] (by kernel_rfl) ((rtimes_ok P (nb R) pP.1 (nb_allB R (unhide hRb)) ap ar np 16 cp cr (by omega) (by omega) _ liP liR).mono ?_)
  rintro r u7 ⟨vt,Tt,rfl,obTt,pTt,hg⟩
  refine ⟨_,rfl,?_⟩
  obtain ⟨at_,ct,rfl,liTt⟩:=obTt.li
  obtain ⟨nt,hnt⟩:∃ x,x=Tt.length:=⟨_,rfl⟩
  rw [← hnt] at liTt ⊢
  replace hnt:=hide hnt
  have hnt2:nt≤1000:=by rw [unhide hnt,pTt.2.2,← unhide hnp,nb_len,hRl]; omega
  clear liP liR obTt
  replace hB:=hB.more hg
  clear hg
  refine hK.out _ _ trivial (fun _=>?_)
  clear hK K_
  simp only [nrm]
  refine any_one (i:=6) (by kernel_rfl) rfl (fun K_ hK=>?_)
  refine step_callw (by kernel_rfl) 97 #[.slice at_ nt ct] (by kernel_rfl) ((rrest_ok Tt pTt.1 at_ nt ct hnt2 _ liTt).mono ?_)
  rintro r u8 ⟨vw,W,rfl,obW,pW,hg⟩
  refine ⟨_,rfl,?_⟩
  replace obW:=obW.up hB.gr.size
  clear liTt
  replace hB:=hB.more hg
  clear hg
  refine hK.out _ _ trivial (fun _=>?_)
  clear hK K_
  simp only [nrm]
  refine any_one (i:=7) (by kernel_rfl) rfl (fun K_ hK=>?_)
  replace hK:=hide hK
  go_simp
  refine (unhide hK).out _ _ trivial (fun _=>?_)
  clear hK K_
  refine any_done (by kernel_rfl) ?_
  have hV2:Hid (V W=acN r B (kk+1)):=by
   rw [pW.2.1,pTt.2.1,pP.2.1,hBN,acN,unhide hV,unhide rN]
   exact rfl
  have hq2:Hid (q16=16 * (kk+1)):=by have h1:=unhide hq; have h2:=unhide hq16; exact (show q16=16 * (kk+1) by omega)
  have hq3:q16≤n+15:=by have:=unhide hq16; omega
  have hq4:q<q16:=by have:=unhide hq16; omega
  have bW:Hid (AllB W):=pW.1
  have lW:Hid (W.length≤17):=by rw [pW.2.2]; exact Nat.le_refl _
  replace obW:=hide obW
  replace hB:=hide hB
  clear pW pTt pP hBN
  go_wp2_with fail
  go_roundw
  case rel=>exact ⟨kk+1,q16,vw,W,hq2,hq3,rfl,rfl,hV2,bW,lW,obW,hB⟩
  case measure=>simp [intOf]; omega
 have qI:¬ (q:Int)<(n:Int):=by omega
 have hkn:kk=nk n:=by have:=unhide hq; unfold nk; omega
 go_upto_region 9 with fail
 replace hB:=unhide hB
 have li6:=unhide li6h
 have lk:=key_tail (hB.get 0 (x:=⟨w.heap.size,kc K,23⟩) rfl) hK (unhide hKb)
 refine wp_region_lit ?_
 refine list_val (.slice a6 n6 c6) (by kernel_rfl) (by kernel_rfl) ?_
 simp only [nrm]
 refine list_val (.slice (some ⟨w.heap.size,16,none⟩) 16 16) (by kernel_rfl) (by kernel_rfl) ?_
 simp only [nrm]
 refine list_call 96 #[.slice (some ⟨w.heap.size,16,none⟩) 16 16] (by kernel_rfl) (by kernel_rfl) ((rrow_ok (K.drop 16) _ 16 16 (by omega) _ lk).mono ?_)
 rintro r u1 ⟨vn,Ln,rfl,obn,pn,hg⟩
 refine ⟨_,rfl,?_⟩
 subst pn
 obtain ⟨a9,c9,rfl,li9⟩:=obn.li
 rw [nb_len,lk.len] at li9 ⊢
 replace hB:=hB.more hg
 replace li6:=li6.gr hg
 clear hg obn
 simp only [nrm]
 refine list_call 99 #[.slice a6 n6 c6,.slice a9 16 c9] (by kernel_rfl) (by kernel_rfl) ((rplus_ok Acc (nb (K.drop 16)) (unhide bA) (nb_allB _ lk.isB) a6 a9 n6 16 c6 c9 (by have:=unhide hn6; omega) (by omega) _ li6 li9).mono ?_)
 rintro r u2 ⟨vp,P,rfl,obP,pP,hg⟩
 refine ⟨_,rfl,?_⟩
 obtain ⟨ap,cp,rfl,liP⟩:=obP.li
 obtain ⟨np,hnp⟩:∃ x,x=P.length:=⟨_,rfl⟩
 rw [← hnp] at liP ⊢
 replace hnp:=hide hnp
 replace hB:=hB.more hg
 clear hg obP li6 li9
 simp only [nrm]
 (refine wpList_step fun K hK=>?_; replace hK:=hide hK; go_simp; refine unhide hK _ _ ?_; clear hK K)
 refine wpList_nil ?_
 have hPv:Hid (V P=mcN K B):=by
  rw [pP.2.1,unhide hV,hkn]
  unfold mcN
  rw [unhide hrn,unhide hn]
  exact rfl
 have bP:Hid (AllB P):=pP.1
 clear pP lk
 replace liP:=hide liP
 replace hB:=hide hB
 go_upto_region 10 with fail
 refine wp_region_lit ?_
 (refine wpList_step fun K hK=>?_; replace hK:=hide hK; go_simp; refine unhide hK _ _ ?_; clear hK K)
 have h99:=(Bl.nil u2).new #[.int .u8 0,.int .u8 0,.int .u8 0,.int .u8 0,.int .u8 0,.int .u8 0,.int .u8 0,.int .u8 0,.int .u8 0,.int .u8 0,.int .u8 0,.int .u8 0,.int .u8 0,.int .u8 0,.int .u8 0,.int .u8 0] 94
 simp only [List.nil_append] at h99
 replace hB:=(unhide hB).new #[.int .u8 0,.int .u8 0,.int .u8 0,.int .u8 0,.int .u8 0,.int .u8 0,.int .u8 0,.int .u8 0,.int .u8 0,.int .u8 0,.int .u8 0,.int .u8 0,.int .u8 0,.int .u8 0,.int .u8 0,.int .u8 0] 94
 simp only [List.nil_append,List.cons_append] at hB
 generalize World.alloc _ _=u3 at *
 generalize u2.heap.size=h9 at *
 replace hB:Hid (Bl w [⟨w.heap.size,kc K,23⟩,⟨w.heap.size+1,kc ZT,94⟩,⟨h5,kc R,94⟩,⟨h9,kc ZT,94⟩] u3):=hB
 replace h99:Hid (Bl u2 [⟨h9,kc ZT,94⟩] u3):=h99
 refine wpList_nil ?_
 go_wp2_with fail
 go_loopw [10] (fun i wr=>∃ i':Nat,∃ m:List Int,i'≤16∧i=.int .i64 i'∧Hid (m=fil (tgf (mcN K B)) i' ZT)∧Hid (Bl w [⟨w.heap.size,kc K,23⟩,⟨w.heap.size+1,kc ZT,94⟩,⟨h5,kc R,94⟩,⟨h9,kc m,94⟩] wr)∧Hid (Bl u2 [⟨h9,kc m,94⟩] wr)) (fun i _=>16 - (intOf i).toNat)
 case atStart=>exact ⟨0,ZT,by omega,rfl,(fil_zero _ _).symm,hB,h99⟩
 case round =>
 clear hB h99
 obtain ⟨i,m,hi,rfl,hm,hB,h99⟩:=hrel
 have hzl:ZT.length=16:=rfl
 have hml:m.length=16:=by rw [unhide hm,fil_len _ _ _ (by omega)]; rfl
 by_cases hil:i<16
 ·obtain ⟨x,hx⟩:∃ x,x=P.getD i 0:=⟨_,rfl⟩
  have hx2:x<256:=by rw [hx]; exact (unhide bP).at_ i
  have hxt:tgf (mcN K B) i=(x:Int):=by
   unfold tgf
   rw [hx,V_digit P (unhide bP) i,unhide hPv]
  have c1:=kc_cell ((unhide hB).get 3 (x:=⟨h9,kc m,94⟩) rfl) i (by omega)
  have f1:=froz_of (i:=i) ((unhide hB).get 3 (x:=⟨h9,kc m,94⟩) rfl)
  generalize m.getD i 0=z at c1
  have hB2:=(unhide hB).cell 3 (x:=⟨h9,kc m,94⟩) rfl i (.int .u8 (x:Int))
  have h992:=(unhide h99).cell 0 (x:=⟨h9,kc m,94⟩) rfl i (.int .u8 (x:Int))
  simp only [List.set_cons_zero,List.set_cons_succ,kc_set] at hB2 h992
  have hm2:Hid (m.set i (x:Int)=fil (tgf (mcN K B)) (i+1) ZT):=by
   rw [← hxt,unhide hm]
   exact fil_set (tgf (mcN K B)) _ _ (by omega)
  have lx:=(unhide liP).gr (unhide h99).gr
  have iI:(i:Int)<16:=by omega
  have e1:(x:Int) % 256=(x:Int):=by omega
  have e2:IntKind.u8.wrap (x:Int)=(x:Int):=by rw [IntKind.wrap_u8]; exact e1
  clear hxt hB h99
  replace hx:=hide hx
  replace lx:=hide lx
  replace hB2:=hide hB2
  replace h992:=hide h992
  go_upto_region 14 with fail
  refine wp_region_lit ?_
  refine list_val (.int .i64 i) (by kernel_rfl) (by kernel_rfl) ?_
  simp only [nrm]
  refine list_val (.slice ap np cp) (by kernel_rfl) (by kernel_rfl) ?_
  simp only [nrm]
  refine list_val (.int .i64 i) (by kernel_rfl) (by kernel_rfl) ?_
  simp only [nrm]
  refine list_call 100 #[.slice ap np cp,.int .i64 i] (by kernel_rfl) (by kernel_rfl) ((rat_ok P ap np cp i _ (unhide lx)).mono ?_)
  rintro r wq ⟨rfl,rfl⟩
  refine ⟨_,rfl,?_⟩
  rw [← unhide hx]
  simp only [nrm]
  refine list_val (.int .u8 (x:Int)) (by kernel_rfl) (by go_simp) ?_
  simp only [nrm]
  refine list_val (.pointer (some ⟨h9,i,none⟩)) (by kernel_rfl) (by go_simp) ?_
  simp only [nrm]
  (refine wpList_step fun K hK=>?_; replace hK:=hide hK; go_simp; refine unhide hK _ _ ?_; clear hK K)
  refine wpList_nil ?_
  go_wp2_with fail
  go_roundw
  case rel=>exact ⟨i+1,_,by omega,by go_num,hm2,hB2,h992⟩
  case measure=>simp [intOf]; omega
 ·have e:i=16:=by omega
  subst e
  have hM:m=mcL K B:=by
   rw [unhide hm]
   have h:=fil_all (tgf (mcN K B)) ZT
   rw [hzl] at h
   exact h
  clear hm
  go_upto_region 15 with fail
  replace hB:=unhide hB
  refine wp_region_lit ?_
  refine list_val (.agg (kc m)) (by kernel_rfl) (exec_arr _ 94 (.tmp 9) rfl (h9) (by kernel_rfl) (kc m) 94 _ (hB.get 3 (x:=⟨h9,kc m,94⟩) rfl) Tryz.underlying94 rfl (by rw [Tryz.infoT,kc_size,hml])) ?_
  simp only [nrm]
  refine list_store 94 (.tmp 4) (.tmp 52) (w.heap.size+1) (kc m) 94 (kc ZT) (by kernel_rfl) rfl (by kernel_rfl) (by kernel_rfl) (hB.get 1 (x:=⟨w.heap.size+1,kc ZT,94⟩) rfl) (by rw [Tryz.infoT,kc_size,hml]) ((show (kc ZT).size=16 from rfl).trans ((kc_size _).trans hml).symm) (kc_one _) ?_
  replace hB:=hB.set 1 (x:=⟨w.heap.size+1,kc ZT,94⟩) rfl (kc m)
  simp only [List.set_cons_zero,List.set_cons_succ] at hB
  generalize World.setRow _ _ _=u5 at *
  simp only [nrm]
  refine wpList_nil ?_
  go_wp2_with fail
  rw [unhide hT,← hM]
  exact bodyPost_ret (v:=.agg (kc m)) (results_cell_row Tryz.results76 _ _ (w.heap.size+1) 94 (kc m) (0,0) _ rfl (hB.get 1 (x:=⟨w.heap.size+1,kc m,94⟩) rfl) Tryz.underlying94 rfl (by rw [Tryz.infoT,kc_size,hml])) rfl (⟨rfl,hB.gr⟩)
end Go.Proofs.YthahhglbeafkmaaGreatDoor
namespace Go.Proofs.YthahhglbeafkmaaGreatDoor
open Go.RowKit
set_option maxRecDepth 100000
set_option linter.unusedSimpArgs false
set_option linter.unusedVariables false
def v5 (a b c d e:Int):Int:=a+b * 67108864+c * 4503599627370496+d * 302231454903657293676544+e * 20282409603651670423947251286016
def Dg (x:Int):Prop:=0≤x∧x<67108864
theorem mask26 (a:Int) (h:0≤a) (h2:a<18446744073709551616):bits .and .u64 a 67108863=a % 67108864:=by
 obtain ⟨n,rfl⟩:=Int.eq_ofNat_of_zero_le h
 have h3:=bits_and_u64_nat n 67108863 (by omega) (by omega)
 have e:n &&& 67108863=n % 67108864:=Nat.and_two_pow_sub_one_eq_mod n 26
 rw [e] at h3
 simpa using h3
theorem passed_val (a b c d e o o1 o2 o3 o4 o5:Int) (e1:(o+a) / 67108864=o1) (e2:(o1+b) / 67108864=o2) (e3:(o2+c) / 67108864=o3) (e4:(o3+d) / 67108864=o4) (e5:(o4+e) / 67108864=o5) :
  v5 ((o+a) % 67108864) ((o1+b) % 67108864) ((o2+c) % 67108864) ((o3+d) % 67108864) ((o4+e) % 67108864)+1361129467683753853853498429727072845824 * o5=v5 a b c d e+o:=by
 unfold v5
 omega
def Psd (a b c d e o:Int) (w:World) (r:Ending) (w':World):Prop:=∃ y0 y1 y2 y3 y4 q,r=.returned (.tuple #[five y0 y1 y2 y3 y4,.int .u64 q])∧Dg y0∧Dg y1∧Dg y2∧Dg y3∧Dg y4∧0≤q∧v5 y0 y1 y2 y3 y4+1361129467683753853853498429727072845824 * q=v5 a b c d e+o∧Gr w w'
def Sm (x:Int):Prop:=0≤x∧x<4611686018427387904
set_option maxHeartbeats 4000000 in
theorem passed_ok (a b c d e o:Int) (ha:Sm a) (hb:Sm b) (hc:Sm c) (hd:Sm d) (he:Sm e) (ho:Sm o) (w:World):Calls Tryz.prog 129 #[five a b c d e,.int .u64 o] w (Psd a b c d e o w):=by
 unfold Sm at ha hb hc hd he ho
 have w1:=wrap_id (o+a) (by omega) (by omega)
 have m1:=mask26 (o+a) (by omega) (by omega)
 generalize e1:(o+a) / 67108864=o1 at *
 have w2:=wrap_id (o1+b) (by omega) (by omega)
 have m2:=mask26 (o1+b) (by omega) (by omega)
 generalize e2:(o1+b) / 67108864=o2 at *
 have w3:=wrap_id (o2+c) (by omega) (by omega)
 have m3:=mask26 (o2+c) (by omega) (by omega)
 generalize e3:(o2+c) / 67108864=o3 at *
 have w4:=wrap_id (o3+d) (by omega) (by omega)
 have m4:=mask26 (o3+d) (by omega) (by omega)
 generalize e4:(o3+d) / 67108864=o4 at *
 have w5:=wrap_id (o4+e) (by omega) (by omega)
 have m5:=mask26 (o4+e) (by omega) (by omega)
 generalize e5:(o4+e) / 67108864=o5 at *
 have fin:=passed_val a b c d e o o1 o2 o3 o4 o5 e1 e2 e3 e4 e5
 have hq:0≤o5:=by omega
 replace fin:=hide fin
 replace hq:=hide hq
 replace ha:=hide ha; replace hb:=hide hb; replace hc:=hide hc; replace hd:=hide hd; replace he:=hide he; replace ho:=hide ho
 obtain ⟨T,hT⟩:∃ T,T=Psd a b c d e o w:=⟨_,rfl⟩
 rw [← hT]
 replace hT:=hide hT
 unfold five at *
 go_enter Tryz.func129,Tryz.ntmps129
 go_wp2_with fail
 refine wp_loop_rounds 6 ?_
 rw [rounds_succ]
 go_wp2_with fail
 rw [rounds_succ]
 go_wp2_with fail
 rw [rounds_succ]
 go_wp2_with fail
 rw [rounds_succ]
 go_wp2_with fail
 rw [rounds_succ]
 go_wp2_with fail
 rw [rounds_succ]
 go_wp2_with fail
 rw [unhide hT]
 exact bodyPost_ret (v:=.tuple #[five ((o+a) % 67108864) ((o1+b) % 67108864) ((o2+c) % 67108864) ((o3+d) % 67108864) ((o4+e) % 67108864),.int .u64 o5]) (by simp [results,Tryz.results129,go_sem,five]) rfl
  ⟨_,_,_,_,_,_,rfl,by unfold Dg; omega,by unfold Dg; omega,by unfold Dg; omega,by unfold Dg; omega,by unfold Dg; omega,unhide hq,unhide fin,((Gr.refl w).alloc _).alloc _⟩
def Pls (a b c d e f g h i j:Int) (w:World) (r:Ending) (w':World):Prop:=r=.returned (five (a+f) (b+g) (c+h) (d+i) (e+j))∧Gr w w'
set_option maxHeartbeats 4000000 in
theorem plus_ok (a b c d e f g h i j:Int) (ha:Sm a) (hb:Sm b) (hc:Sm c) (hd:Sm d) (he:Sm e) (hf:Sm f) (hg:Sm g) (hh:Sm h) (hi:Sm i) (hj:Sm j) (w:World):Calls Tryz.prog 117 #[five a b c d e,five f g h i j] w (Pls a b c d e f g h i j w):=by
 unfold Sm at *
 have w1:=wrap_id (a+f) (by omega) (by omega)
 have w2:=wrap_id (b+g) (by omega) (by omega)
 have w3:=wrap_id (c+h) (by omega) (by omega)
 have w4:=wrap_id (d+i) (by omega) (by omega)
 have w5:=wrap_id (e+j) (by omega) (by omega)
 clear ha hb hc hd he hf hg hh hi hj
 have i0:∀ w,(Instr.index 160 (five f g h i j) (.int .i64 0)).run Tryz.prog w=.ok (.int .u64 f) w:=fun _=>by kernel_rfl
 have i1:∀ w,(Instr.index 160 (five f g h i j) (.int .i64 1)).run Tryz.prog w=.ok (.int .u64 g) w:=fun _=>by kernel_rfl
 have i2:∀ w,(Instr.index 160 (five f g h i j) (.int .i64 2)).run Tryz.prog w=.ok (.int .u64 h) w:=fun _=>by kernel_rfl
 have i3:∀ w,(Instr.index 160 (five f g h i j) (.int .i64 3)).run Tryz.prog w=.ok (.int .u64 i) w:=fun _=>by kernel_rfl
 have i4:∀ w,(Instr.index 160 (five f g h i j) (.int .i64 4)).run Tryz.prog w=.ok (.int .u64 j) w:=fun _=>by kernel_rfl
 obtain ⟨T,hT⟩:∃ T,T=Pls a b c d e f g h i j w:=⟨_,rfl⟩
 rw [← hT]
 replace hT:=hide hT
 unfold five at *
 go_enter Tryz.func117,Tryz.ntmps117
 go_wp2_with fail
 refine wp_loop_rounds 6 ?_
 rw [rounds_succ]
 go_wp2_with fail
 rw [rounds_succ]
 go_wp2_with fail
 rw [rounds_succ]
 go_wp2_with fail
 rw [rounds_succ]
 go_wp2_with fail
 rw [rounds_succ]
 go_wp2_with fail
 rw [rounds_succ]
 go_wp2_with fail
 rw [unhide hT]
 exact bodyPost_ret (v:=five (a+f) (b+g) (c+h) (d+i) (e+j)) (by simp [results,Tryz.results117,go_sem,five]) rfl ⟨rfl,(((Gr.refl w).alloc _).alloc _).alloc _⟩
end Go.Proofs.YthahhglbeafkmaaGreatDoor
namespace Go.Proofs.YthahhglbeafkmaaGreatDoor
open Go.RowKit
set_option maxRecDepth 100000
set_option linter.unusedSimpArgs false
set_option linter.unusedVariables false
theorem Tryz.infoPL:(Tryz.prog.info? 160).map (·.size)=some 5:=by kernel_rfl
def fc (a b c d e:Int):Array Value:=#[.int .u64 a,.int .u64 b,.int .u64 c,.int .u64 d,.int .u64 e]
theorem fc_one (a b c d e:Int):(fc a b c d e).all (·.oneCell')=true:=by unfold fc; simp [Value.oneCell']
theorem fc_set0 (a b c d e x:Int):(fc a b c d e).setIfInBounds 0 (.int .u64 x)=fc x b c d e:=rfl
theorem fc_set4 (a b c d e x:Int):(fc a b c d e).setIfInBounds 4 (.int .u64 x)=fc a b c d x:=rfl
def Car (n a b c d e:Int):Prop:=(0≤a∧a<67108869)∧Dg b∧Dg c∧Dg d∧Dg e∧v5 a b c d e<1361129467683753853853498429727072845824∧v5 a b c d e % 1361129467683753853853498429727072845819=n
def Crd (n:Int) (w:World) (r:Ending) (w':World):Prop:=∃ a b c d e,r=.returned (.agg (fc a b c d e))∧Car n a b c d e∧Gr w w'
def Mid (x:Int):Prop:=0≤x∧x<1152921504606846976
theorem carried_val (a b c d e y0 y1 y2 y3 y4 z0 z1 z2 z3 z4 o1 o2:Int) (ha:Mid a) (hb:Mid b) (hc:Mid c) (hd:Mid d) (he:Mid e) (hy0:Dg y0) (hy1:Dg y1) (hy2:Dg y2) (hy3:Dg y3) (hy4:Dg y4) (hz0:Dg z0) (hz1:Dg z1) (hz2:Dg z2) (hz3:Dg z3) (hz4:Dg z4)
  (h1:v5 y0 y1 y2 y3 y4+1361129467683753853853498429727072845824 * o1=v5 a b c d e+0) (h2:v5 z0 z1 z2 z3 z4+1361129467683753853853498429727072845824 * o2=v5 y0 y1 y2 y3 y4+o1 * 5) (ho1:0≤o1) (ho2:0≤o2) :
  Car (v5 a b c d e % 1361129467683753853853498429727072845819) (z0+o2 * 5) z1 z2 z3 z4∧o2≤1:=by
 unfold Dg at *
 unfold Mid at *
 have hv:v5 (z0+o2 * 5) z1 z2 z3 z4=v5 z0 z1 z2 z3 z4+o2 * 5:=by unfold v5; omega
 have b1:0≤v5 y0 y1 y2 y3 y4∧v5 y0 y1 y2 y3 y4<1361129467683753853853498429727072845824:=by unfold v5; omega
 have b2:0≤v5 z0 z1 z2 z3 z4∧v5 z0 z1 z2 z3 z4<1361129467683753853853498429727072845824:=by unfold v5; omega
 have b3:v5 a b c d e<1361129467683753853853498429727072845824 * 34359738368:=by unfold v5; omega
 have k1:o1<34359738369:=by omega
 have k2:o2≤1:=by omega
 refine ⟨⟨by omega,hz1,hz2,hz3,hz4,?_,?_⟩,k2⟩
 ·rw [hv]
  omega
 ·rw [hv]
  omega
set_option maxHeartbeats 4000000 in
theorem carried_ok (a b c d e:Int) (ha:Mid a) (hb:Mid b) (hc:Mid c) (hd:Mid d) (he:Mid e) (w:World):Calls Tryz.prog 133 #[.agg (fc a b c d e)] w (Crd (v5 a b c d e % 1361129467683753853853498429727072845819) w):=by
 obtain ⟨T,hT⟩:∃ T,T=Crd (v5 a b c d e % 1361129467683753853853498429727072845819) w:=⟨_,rfl⟩
 rw [← hT]
 replace hT:=hide hT
 obtain ⟨SK,hSK⟩:∃ S,S=fc a b c d e:=⟨_,rfl⟩
 rw [← hSK]
 replace hSK:=hide hSK
 replace ha:=hide ha; replace hb:=hide hb; replace hc:=hide hc; replace hd:=hide hd; replace he:=hide he
 go_enter Tryz.func133,Tryz.ntmps133
 go_upto_region 1 with fail
 have hB:=((Bl.nil w).new SK 160).new #[.int .u64 0,.int .u64 0,.int .u64 0,.int .u64 0,.int .u64 0] 160
 simp only [size_alloc,List.nil_append,List.cons_append] at hB
 generalize World.alloc _ _=u at *
 rw [unhide hSK] at hB
 replace hB:Bl w [⟨w.heap.size,fc a b c d e,160⟩,⟨w.heap.size+1,fc 0 0 0 0 0,160⟩] u:=hB
 refine wp_region_lit ?_
 refine list_val (.agg (fc a b c d e)) (by kernel_rfl) (exec_arr _ 160 (.tmp 1) rfl (w.heap.size) (by kernel_rfl) (fc a b c d e) 160 _ (hB.get 0 (x:=⟨w.heap.size,fc a b c d e,160⟩) rfl) Tryz.underlying160 rfl Tryz.infoPL) ?_
 simp only [nrm]
 refine list_call 129 #[.agg (fc a b c d e),.int .u64 0] (by kernel_rfl) (by kernel_rfl) ((passed_ok a b c d e 0 (by have:=unhide ha; unfold Mid at this; unfold Sm; omega) (by have:=unhide hb; unfold Mid at this; unfold Sm; omega) (by have:=unhide hc; unfold Mid at this; unfold Sm; omega) (by have:=unhide hd; unfold Mid at this; unfold Sm; omega) (by have:=unhide he; unfold Mid at this; unfold Sm; omega) (by unfold Sm; omega) _).mono ?_)
 rintro r u1 ⟨y0,y1,y2,y3,y4,o1,rfl,hy0,hy1,hy2,hy3,hy4,ho1,hv1,hg⟩
 refine ⟨_,rfl,?_⟩
 replace hB:=hB.more hg
 clear hg
 simp only [nrm]
 refine list_val (.tuple #[.agg (fc y0 y1 y2 y3 y4),.int .u64 o1]) (by kernel_rfl) (by kernel_rfl) ?_
 simp only [nrm]
 refine list_val (.agg (fc y0 y1 y2 y3 y4)) (by kernel_rfl) (by kernel_rfl) ?_
 simp only [nrm]
 refine list_val (.int .u64 o1) (by kernel_rfl) (by kernel_rfl) ?_
 simp only [nrm]
 refine list_store 160 (.tmp 1) (.tmp 7) (w.heap.size) (fc y0 y1 y2 y3 y4) 160 (fc a b c d e) (by kernel_rfl) rfl (by kernel_rfl) (by kernel_rfl) (hB.get 0 (x:=⟨w.heap.size,fc a b c d e,160⟩) rfl) Tryz.infoPL rfl (fc_one _ _ _ _ _) ?_
 replace hB:=hB.set 0 (x:=⟨w.heap.size,fc a b c d e,160⟩) rfl (fc y0 y1 y2 y3 y4)
 simp only [List.set_cons_zero,List.set_cons_succ] at hB
 generalize World.setRow _ _ _=u2 at *
 simp only [nrm]
 (refine wpList_step fun K hK=>?_; replace hK:=hide hK; go_simp; refine unhide hK _ _ ?_; clear hK K)
 refine wpList_nil ?_
 have k1:o1<34359738369:=by
  have b0:=unhide ha; have b1:=unhide hb; have b2:=unhide hc; have b3:=unhide hd; have b4:=unhide he
  unfold Mid at b0 b1 b2 b3 b4
  unfold Dg at hy0 hy1 hy2 hy3 hy4
  unfold v5 at hv1
  omega
 have wr1:=wrap_id (o1 * 5) (by omega) (by omega)
 replace hB:=hide hB; replace hv1:=hide hv1
 replace ho1:=hide ho1; replace k1:=hide k1
 go_upto_region 2 with fail
 replace hB:=unhide hB; replace hv1:=unhide hv1
 replace ho1:=unhide ho1; replace k1:=unhide k1
 refine wp_region_lit ?_
 refine list_val (.agg (fc y0 y1 y2 y3 y4)) (by kernel_rfl) (exec_arr _ 160 (.tmp 1) rfl (w.heap.size) (by kernel_rfl) (fc y0 y1 y2 y3 y4) 160 _ (hB.get 0 (x:=⟨w.heap.size,fc y0 y1 y2 y3 y4,160⟩) rfl) Tryz.underlying160 rfl Tryz.infoPL) ?_
 simp only [nrm]
 refine list_val (.int .u64 o1) (by kernel_rfl) (by kernel_rfl) ?_
 simp only [nrm]
 refine list_val (.int .u64 (o1 * 5)) (by kernel_rfl) (by go_simp) ?_
 simp only [nrm]
 refine list_call 129 #[.agg (fc y0 y1 y2 y3 y4),.int .u64 (o1 * 5)] (by kernel_rfl) (by kernel_rfl) ((passed_ok y0 y1 y2 y3 y4 (o1 * 5) (by have:=hy0; unfold Dg at this; unfold Sm; omega) (by have:=hy1; unfold Dg at this; unfold Sm; omega) (by have:=hy2; unfold Dg at this; unfold Sm; omega) (by have:=hy3; unfold Dg at this; unfold Sm; omega) (by have:=hy4; unfold Dg at this; unfold Sm; omega) (by unfold Sm; omega) _).mono ?_)
 rintro r u3 ⟨z0,z1,z2,z3,z4,o2,rfl,hz0,hz1,hz2,hz3,hz4,ho2,hv2,hg⟩
 refine ⟨_,rfl,?_⟩
 replace hB:=hB.more hg
 clear hg
 simp only [nrm]
 refine list_val (.tuple #[.agg (fc z0 z1 z2 z3 z4),.int .u64 o2]) (by kernel_rfl) (by kernel_rfl) ?_
 simp only [nrm]
 refine list_val (.agg (fc z0 z1 z2 z3 z4)) (by kernel_rfl) (by kernel_rfl) ?_
 simp only [nrm]
 refine list_val (.int .u64 o2) (by kernel_rfl) (by kernel_rfl) ?_
 simp only [nrm]
 refine list_store 160 (.tmp 1) (.tmp 14) (w.heap.size) (fc z0 z1 z2 z3 z4) 160 (fc y0 y1 y2 y3 y4) (by kernel_rfl) rfl (by kernel_rfl) (by kernel_rfl) (hB.get 0 (x:=⟨w.heap.size,fc y0 y1 y2 y3 y4,160⟩) rfl) Tryz.infoPL rfl (fc_one _ _ _ _ _) ?_
 replace hB:=hB.set 0 (x:=⟨w.heap.size,fc y0 y1 y2 y3 y4,160⟩) rfl (fc z0 z1 z2 z3 z4)
 simp only [List.set_cons_zero,List.set_cons_succ] at hB
 generalize World.setRow _ _ _=u4 at *
 simp only [nrm]
 (refine wpList_step fun K hK=>?_; replace hK:=hide hK; go_simp; refine unhide hK _ _ ?_; clear hK K)
 refine wpList_nil ?_
 obtain ⟨hcar,k2⟩:=carried_val a b c d e y0 y1 y2 y3 y4 z0 z1 z2 z3 z4 o1 o2 (unhide ha) (unhide hb) (unhide hc) (unhide hd) (unhide he) hy0 hy1 hy2 hy3 hy4 hz0 hz1 hz2 hz3 hz4 hv1 hv2 ho1 ho2
 have wr2:=wrap_id (o2 * 5) (by omega) (by omega)
 have wr3:=wrap_id (z0+o2 * 5) (by unfold Dg at hz0; omega) (by unfold Dg at hz0; omega)
 replace hB:=hide hB; replace hcar:=hide hcar
 clear hv1 hv2 ho1 ho2 k1 k2 hy0 hy1 hy2 hy3 hy4 hz0 hz1 hz2 hz3 hz4 wr1
 go_upto_region 3 with fail
 replace hB:=unhide hB
 refine wp_region_lit ?_
 refine list_val (.pointer (some ⟨w.heap.size,0,none⟩)) (by kernel_rfl) (by kernel_rfl) ?_
 simp only [nrm]
 refine list_val (.int .u64 z0) (by kernel_rfl) (by have hc:World.cell? _ ⟨w.heap.size,0,none⟩=some (.int .u64 z0):=cell_of (hB.get 0 (x:=⟨w.heap.size,fc z0 z1 z2 z3 z4,160⟩) rfl) rfl; go_simp) ?_
 simp only [nrm]
 refine list_val (.int .u64 o2) (by kernel_rfl) (by kernel_rfl) ?_
 simp only [nrm]
 refine list_val (.int .u64 (o2 * 5)) (by kernel_rfl) (by go_simp) ?_
 simp only [nrm]
 refine list_val (.int .u64 (z0+o2 * 5)) (by kernel_rfl) (by go_simp) ?_
 simp only [nrm]
 refine list_val (.pointer (some ⟨w.heap.size,0,none⟩)) (by kernel_rfl) (by kernel_rfl) ?_
 simp only [nrm]
 have c4:World.cell? _ ⟨w.heap.size,0,none⟩=some (.int .u64 z0):=cell_of (hB.get 0 (x:=⟨w.heap.size,fc z0 z1 z2 z3 z4,160⟩) rfl) rfl
 have fz:=froz_of (i:=0) (hB.get 0 (x:=⟨w.heap.size,fc z0 z1 z2 z3 z4,160⟩) rfl)
 have hB2:=hB.cell 0 (x:=⟨w.heap.size,fc z0 z1 z2 z3 z4,160⟩) rfl 0 (.int .u64 (z0+o2 * 5))
 simp only [List.set_cons_zero,List.set_cons_succ,fc_set0] at hB2
 clear hB
 replace hB2:=hide hB2
 (refine wpList_step fun K hK=>?_; replace hK:=hide hK; go_simp; refine unhide hK _ _ ?_; clear hK K)
 clear c4 fz
 refine wpList_nil ?_
 generalize World.setCell _ _ _=u5 at *
 go_upto_region 4 with fail
 have hB:=unhide hB2
 clear hB2
 refine wp_region_lit ?_
 refine list_val (.agg (fc (z0+o2 * 5) z1 z2 z3 z4)) (by kernel_rfl) (exec_arr _ 160 (.tmp 1) rfl (w.heap.size) (by kernel_rfl) (fc (z0+o2 * 5) z1 z2 z3 z4) 160 _ (hB.get 0 (x:=⟨w.heap.size,fc (z0+o2 * 5) z1 z2 z3 z4,160⟩) rfl) Tryz.underlying160 rfl Tryz.infoPL) ?_
 simp only [nrm]
 refine list_store 160 (.tmp 2) (.tmp 22) (w.heap.size+1) (fc (z0+o2 * 5) z1 z2 z3 z4) 160 (fc 0 0 0 0 0) (by kernel_rfl) rfl (by kernel_rfl) (by kernel_rfl) (hB.get 1 (x:=⟨w.heap.size+1,fc 0 0 0 0 0,160⟩) rfl) Tryz.infoPL rfl (fc_one _ _ _ _ _) ?_
 replace hB:=hB.set 1 (x:=⟨w.heap.size+1,fc 0 0 0 0 0,160⟩) rfl (fc (z0+o2 * 5) z1 z2 z3 z4)
 simp only [List.set_cons_zero,List.set_cons_succ] at hB
 generalize World.setRow _ _ _=u6 at *
 simp only [nrm]
 refine wpList_nil ?_
 replace hB:=hide hB
 go_wp2_with fail
 replace hB:=unhide hB
 rw [unhide hT]
 exact bodyPost_ret (v:=.agg (fc (z0+o2 * 5) z1 z2 z3 z4)) (results_cell_row Tryz.results133 _ _ (w.heap.size+1) 160 (fc (z0+o2 * 5) z1 z2 z3 z4) (0,0) _ rfl (hB.get 1 (x:=⟨w.heap.size+1,fc (z0+o2 * 5) z1 z2 z3 z4,160⟩) rfl) Tryz.underlying160 rfl Tryz.infoPL) rfl (⟨_,_,_,_,_,rfl,unhide hcar,hB.gr⟩)
def Lsd (n:Int) (w:World) (r:Ending) (w':World):Prop:=∃ a b c d e,r=.returned (.agg (fc a b c d e))∧Dg a∧Dg b∧Dg c∧Dg d∧Dg e∧v5 a b c d e=n∧Gr w w'
theorem least_num (n a b c d e y0 y1 y2 y3 y4 z0 z1 z2 z3 z4 o1 o2:Int) (hc:Car n a b c d e) (hy0:Dg y0) (hy1:Dg y1) (hy2:Dg y2) (hy3:Dg y3) (hy4:Dg y4) (hz0:Dg z0) (hz1:Dg z1) (hz2:Dg z2) (hz3:Dg z3) (hz4:Dg z4)
  (h1:v5 y0 y1 y2 y3 y4+1361129467683753853853498429727072845824 * o1=v5 a b c d e+5) (h2:v5 z0 z1 z2 z3 z4+1361129467683753853853498429727072845824 * o2=v5 a b c d e+o1 * 5) (ho1:0≤o1) (ho2:0≤o2):v5 z0 z1 z2 z3 z4=n:=by
 obtain ⟨h3,h4,h5,h6,h7,h8,h9⟩:=hc
 unfold Dg at *
 have b0:0≤v5 a b c d e:=by unfold v5; omega
 have b1:0≤v5 y0 y1 y2 y3 y4∧v5 y0 y1 y2 y3 y4<1361129467683753853853498429727072845824:=by unfold v5; omega
 have b2:0≤v5 z0 z1 z2 z3 z4∧v5 z0 z1 z2 z3 z4<1361129467683753853853498429727072845824:=by unfold v5; omega
 generalize v5 a b c d e=x at *
 generalize v5 y0 y1 y2 y3 y4=y at *
 generalize v5 z0 z1 z2 z3 z4=z at *
 have k1:o1=0∨o1=1:=by omega
 have k2:o2=0∨o2=1:=by omega
 clear hy0 hy1 hy2 hy3 hy4 hz0 hz1 hz2 hz3 hz4 h3 h4 h5 h6 h7
 rcases k1 with rfl | rfl <;> rcases k2 with rfl | rfl <;> omega
set_option maxHeartbeats 4000000 in
theorem least_ok (n a b c d e:Int) (hn:Car n a b c d e) (w:World):Calls Tryz.prog 116 #[.agg (fc a b c d e)] w (Lsd n w):=by
 obtain ⟨T,hT⟩:∃ T,T=Lsd n w:=⟨_,rfl⟩
 rw [← hT]
 replace hT:=hide hT
 obtain ⟨SK,hSK⟩:∃ S,S=fc a b c d e:=⟨_,rfl⟩
 rw [← hSK]
 replace hSK:=hide hSK
 have hn2:=hn
 obtain ⟨ha,hb,hc,hd,he,-,-⟩:=hn2
 replace hn:=hide hn
 replace ha:=hide ha; replace hb:=hide hb; replace hc:=hide hc; replace hd:=hide hd; replace he:=hide he
 go_enter Tryz.func116,Tryz.ntmps116
 go_upto_region 1 with fail
 have hB:=((Bl.nil w).new SK 160).new #[.int .u64 0,.int .u64 0,.int .u64 0,.int .u64 0,.int .u64 0] 160
 simp only [size_alloc,List.nil_append,List.cons_append] at hB
 generalize World.alloc _ _=u at *
 rw [unhide hSK] at hB
 replace hB:Bl w [⟨w.heap.size,fc a b c d e,160⟩,⟨w.heap.size+1,fc 0 0 0 0 0,160⟩] u:=hB
 refine wp_region_lit ?_
 refine list_val (.agg (fc a b c d e)) (by kernel_rfl) (exec_arr _ 160 (.tmp 1) rfl (w.heap.size) (by kernel_rfl) (fc a b c d e) 160 _ (hB.get 0 (x:=⟨w.heap.size,fc a b c d e,160⟩) rfl) Tryz.underlying160 rfl Tryz.infoPL) ?_
 simp only [nrm]
 refine list_call 129 #[.agg (fc a b c d e),.int .u64 5] (by kernel_rfl) (by kernel_rfl) ((passed_ok a b c d e 5 (by have:=unhide ha; unfold Sm; omega) (by have:=unhide hb; unfold Dg at this; unfold Sm; omega) (by have:=unhide hc; unfold Dg at this; unfold Sm; omega) (by have:=unhide hd; unfold Dg at this; unfold Sm; omega) (by have:=unhide he; unfold Dg at this; unfold Sm; omega) (by unfold Sm; omega) _).mono ?_)
 rintro r u1 ⟨y0,y1,y2,y3,y4,o1,rfl,hy0,hy1,hy2,hy3,hy4,ho1,hv1,hg⟩
 refine ⟨_,rfl,?_⟩
 replace hB:=hB.more hg
 clear hg
 simp only [nrm]
 refine list_val (.tuple #[.agg (fc y0 y1 y2 y3 y4),.int .u64 o1]) (by kernel_rfl) (by kernel_rfl) ?_
 simp only [nrm]
 refine list_val (.agg (fc y0 y1 y2 y3 y4)) (by kernel_rfl) (by kernel_rfl) ?_
 simp only [nrm]
 refine list_val (.int .u64 o1) (by kernel_rfl) (by kernel_rfl) ?_
 simp only [nrm]
 replace hB:=hide hB
 (refine wpList_step fun K hK=>?_; replace hK:=hide hK; go_simp; refine unhide hK _ _ ?_; clear hK K)
 replace hB:=(unhide hB).new #[.int .u64 0,.int .u64 0,.int .u64 0,.int .u64 0,.int .u64 0] 160
 simp only [List.nil_append,List.cons_append] at hB
 generalize World.alloc _ _=u2 at *
 generalize u1.heap.size=h5 at *
 replace hB:Bl w [⟨w.heap.size,fc a b c d e,160⟩,⟨w.heap.size+1,fc 0 0 0 0 0,160⟩,⟨h5,fc 0 0 0 0 0,160⟩] u2:=hB
 refine list_store 160 (.tmp 3) (.tmp 8) (h5) (fc y0 y1 y2 y3 y4) 160 (fc 0 0 0 0 0) (by kernel_rfl) rfl (by kernel_rfl) (by kernel_rfl) (hB.get 2 (x:=⟨h5,fc 0 0 0 0 0,160⟩) rfl) Tryz.infoPL rfl (fc_one _ _ _ _ _) ?_
 replace hB:=hB.set 2 (x:=⟨h5,fc 0 0 0 0 0,160⟩) rfl (fc y0 y1 y2 y3 y4)
 simp only [List.set_cons_zero,List.set_cons_succ] at hB
 generalize World.setRow _ _ _=u3 at *
 simp only [nrm]
 (refine wpList_step fun K hK=>?_; replace hK:=hide hK; go_simp; refine unhide hK _ _ ?_; clear hK K)
 refine wpList_nil ?_
 have k1:o1<3:=by
  have b0:=unhide ha; have b1:=unhide hb; have b2:=unhide hc; have b3:=unhide hd; have b4:=unhide he
  unfold Dg at hy0 hy1 hy2 hy3 hy4 b1 b2 b3 b4
  unfold v5 at hv1
  omega
 have wr1:=wrap_id (o1 * 5) (by omega) (by omega)
 replace hB:=hide hB; replace hv1:=hide hv1
 replace ho1:=hide ho1; replace k1:=hide k1
 go_upto_region 2 with fail
 replace hB:=unhide hB; replace hv1:=unhide hv1
 replace ho1:=unhide ho1; replace k1:=unhide k1
 refine wp_region_lit ?_
 refine list_val (.agg (fc a b c d e)) (by kernel_rfl) (exec_arr _ 160 (.tmp 1) rfl (w.heap.size) (by kernel_rfl) (fc a b c d e) 160 _ (hB.get 0 (x:=⟨w.heap.size,fc a b c d e,160⟩) rfl) Tryz.underlying160 rfl Tryz.infoPL) ?_
 simp only [nrm]
 refine list_val (.int .u64 o1) (by kernel_rfl) (by kernel_rfl) ?_
 simp only [nrm]
 refine list_val (.int .u64 (o1 * 5)) (by kernel_rfl) (by go_simp) ?_
 simp only [nrm]
 refine list_call 129 #[.agg (fc a b c d e),.int .u64 (o1 * 5)] (by kernel_rfl) (by kernel_rfl) ((passed_ok a b c d e (o1 * 5) (by have:=unhide ha; unfold Sm; omega) (by have:=unhide hb; unfold Dg at this; unfold Sm; omega) (by have:=unhide hc; unfold Dg at this; unfold Sm; omega) (by have:=unhide hd; unfold Dg at this; unfold Sm; omega) (by have:=unhide he; unfold Dg at this; unfold Sm; omega) (by unfold Sm; omega) _).mono ?_)
 rintro r u4 ⟨z0,z1,z2,z3,z4,o2,rfl,hz0,hz1,hz2,hz3,hz4,ho2,hv2,hg⟩
 refine ⟨_,rfl,?_⟩
 replace hB:=hB.more hg
 clear hg
 simp only [nrm]
 refine list_val (.tuple #[.agg (fc z0 z1 z2 z3 z4),.int .u64 o2]) (by kernel_rfl) (by kernel_rfl) ?_
 simp only [nrm]
 refine list_val (.agg (fc z0 z1 z2 z3 z4)) (by kernel_rfl) (by kernel_rfl) ?_
 simp only [nrm]
 refine list_val (.int .u64 o2) (by kernel_rfl) (by kernel_rfl) ?_
 simp only [nrm]
 refine list_store 160 (.tmp 1) (.tmp 15) (w.heap.size) (fc z0 z1 z2 z3 z4) 160 (fc a b c d e) (by kernel_rfl) rfl (by kernel_rfl) (by kernel_rfl) (hB.get 0 (x:=⟨w.heap.size,fc a b c d e,160⟩) rfl) Tryz.infoPL rfl (fc_one _ _ _ _ _) ?_
 replace hB:=hB.set 0 (x:=⟨w.heap.size,fc a b c d e,160⟩) rfl (fc z0 z1 z2 z3 z4)
 simp only [List.set_cons_zero,List.set_cons_succ] at hB
 generalize World.setRow _ _ _=u5 at *
 simp only [nrm]
 refine wpList_nil ?_
 have hfin:=hide (least_num n a b c d e y0 y1 y2 y3 y4 z0 z1 z2 z3 z4 o1 o2 (unhide hn) hy0 hy1 hy2 hy3 hy4 hz0 hz1 hz2 hz3 hz4 hv1 hv2 ho1 ho2)
 replace hB:=hide hB
 clear hv1 hv2 ho1 ho2 k1 wr1
 go_upto_region 3 with fail
 replace hB:=unhide hB
 refine wp_region_lit ?_
 refine list_val (.agg (fc z0 z1 z2 z3 z4)) (by kernel_rfl) (exec_arr _ 160 (.tmp 1) rfl (w.heap.size) (by kernel_rfl) (fc z0 z1 z2 z3 z4) 160 _ (hB.get 0 (x:=⟨w.heap.size,fc z0 z1 z2 z3 z4,160⟩) rfl) Tryz.underlying160 rfl Tryz.infoPL) ?_
 simp only [nrm]
 refine list_store 160 (.tmp 2) (.tmp 17) (w.heap.size+1) (fc z0 z1 z2 z3 z4) 160 (fc 0 0 0 0 0) (by kernel_rfl) rfl (by kernel_rfl) (by kernel_rfl) (hB.get 1 (x:=⟨w.heap.size+1,fc 0 0 0 0 0,160⟩) rfl) Tryz.infoPL rfl (fc_one _ _ _ _ _) ?_
 replace hB:=hB.set 1 (x:=⟨w.heap.size+1,fc 0 0 0 0 0,160⟩) rfl (fc z0 z1 z2 z3 z4)
 simp only [List.set_cons_zero,List.set_cons_succ] at hB
 generalize World.setRow _ _ _=u6 at *
 simp only [nrm]
 refine wpList_nil ?_
 replace hB:=hide hB
 go_wp2_with fail
 replace hB:=unhide hB
 rw [unhide hT]
 exact bodyPost_ret (v:=.agg (fc z0 z1 z2 z3 z4)) (results_cell_row Tryz.results116 _ _ (w.heap.size+1) 160 (fc z0 z1 z2 z3 z4) (0,0) _ rfl (hB.get 1 (x:=⟨w.heap.size+1,fc z0 z1 z2 z3 z4,160⟩) rfl) Tryz.underlying160 rfl Tryz.infoPL) rfl (⟨_,_,_,_,_,rfl,hz0,hz1,hz2,hz3,hz4,unhide hfin,hB.gr⟩)
end Go.Proofs.YthahhglbeafkmaaGreatDoor
namespace Go.Proofs.YthahhglbeafkmaaGreatDoor
open Go.RowKit
set_option maxRecDepth 100000
set_option linter.unusedSimpArgs false
set_option linter.unusedVariables false
theorem exec_u64 {op:Oper} {a:Act} (w:World) (x:Operand) (ho:op.op=.load 26 x) (g i:Nat) (hx:a.eval x=.pointer (some ⟨g,i,none⟩)) (v:Int) (hc:w.cell? ⟨g,i,none⟩=some (.int .u64 v)):(execOp a.eval op).run Tryz.prog w=.ok (.value (.int .u64 v)) w:=by
 unfold execOp
 simp only [ho,hx,Instr.loadAt,Instr.sureAddr,Sem.run_bind,Sem.run_pure,Result.andThen_ok]
 go_simp
def mu (a b:Int):Int:=IntKind.u64.wrap (a * b)
def su (a b:Int):Int:=IntKind.u64.wrap (a+b)
theorem mu_eq (a b:Int) (ha:0≤a∧a<268435456) (hb:0≤b∧b<335544320):mu a b=a * b∧0≤a * b∧a * b<90071992547409920:=by
 have h1:0≤a * b:=Int.mul_nonneg ha.1 hb.1
 have h2:a * b≤268435455 * 335544319:=Int.mul_le_mul (by omega) (by omega) hb.1 (by omega)
 exact ⟨wrap_id _ h1 (by omega),h1,by omega⟩
theorem su_eq (a b:Int) (ha:0≤a) (hb:0≤b) (h:a+b<18446744073709551616):su a b=a+b:=wrap_id _ (by omega) h
theorem wm (x:Int) (h:Dg x):mu x 5=x * 5∧0≤x * 5∧x * 5<335544320:=by
 unfold Dg at h
 have:=(mu_eq x 5 (by omega) (by omega)).1
 exact ⟨this,by omega,by omega⟩
theorem dl {x:Int} (h:Dg x):0≤x∧x<335544320:=by
 unfold Dg at h
 omega
theorem five_mu (a b c d e f g h i j:Int) (ha:0≤a∧a<268435456) (hb:0≤b∧b<268435456) (hc:0≤c∧c<268435456) (hd:0≤d∧d<268435456) (he:0≤e∧e<268435456) (hf:0≤f∧f<335544320) (hg:0≤g∧g<335544320) (hh:0≤h∧h<335544320) (hi:0≤i∧i<335544320) (hj:0≤j∧j<335544320) :
  su (su (su (su (mu a f) (mu b g)) (mu c h)) (mu d i)) (mu e j)=a * f+b * g+c * h+d * i+e * j∧Mid (a * f+b * g+c * h+d * i+e * j):=by
 obtain ⟨p1,p2,p3⟩:=mu_eq a f ha hf
 obtain ⟨q1,q2,q3⟩:=mu_eq b g hb hg
 obtain ⟨r1,r2,r3⟩:=mu_eq c h hc hh
 obtain ⟨s1,s2,s3⟩:=mu_eq d i hd hi
 obtain ⟨t1,t2,t3⟩:=mu_eq e j he hj
 rw [p1,q1,r1,s1,t1]
 generalize a * f=A at *
 generalize b * g=B at *
 generalize c * h=C at *
 generalize d * i=D at *
 generalize e * j=E at *
 rw [su_eq A B p2 q2 (by omega),su_eq (A+B) C (by omega) r2 (by omega),su_eq (A+B+C) D (by omega) s2 (by omega),su_eq (A+B+C+D) E (by omega) t2 (by omega)]
 exact ⟨rfl,by unfold Mid; omega⟩
theorem times_val (a b c d e f g h i j:Int):v5 (a * f+b * (j * 5)+c * (i * 5)+d * (h * 5)+e * (g * 5)) (a * g+b * f+c * (j * 5)+d * (i * 5)+e * (h * 5)) (a * h+b * g+c * f+d * (j * 5)+e * (i * 5)) (a * i+b * h+c * g+d * f+e * (j * 5)) (a * j+b * i+c * h+d * g+e * f)
  = v5 a b c d e * v5 f g h i j - 1361129467683753853853498429727072845819 * (b * j+c * i+d * h+e * g+67108864 * (c * j+d * i+e * h)+4503599627370496 * (d * j+e * i)+302231454903657293676544 * (e * j)):=by
 unfold v5
 grind
theorem times_mod (a b c d e f g h i j:Int):v5 (a * f+b * (j * 5)+c * (i * 5)+d * (h * 5)+e * (g * 5)) (a * g+b * f+c * (j * 5)+d * (i * 5)+e * (h * 5)) (a * h+b * g+c * f+d * (j * 5)+e * (i * 5)) (a * i+b * h+c * g+d * f+e * (j * 5)) (a * j+b * i+c * h+d * g+e * f) % 1361129467683753853853498429727072845819
  = v5 a b c d e * v5 f g h i j % 1361129467683753853853498429727072845819:=by
 rw [times_val,Int.sub_mul_emod_self_left]
set_option maxHeartbeats 40000000 in
theorem times_ok (a b c d e f g h i j:Int) (ha:0≤a∧a<268435456) (hb:0≤b∧b<268435456) (hc:0≤c∧c<268435456) (hd:0≤d∧d<268435456) (he:0≤e∧e<268435456) (hf:Dg f) (hg:Dg g) (hh:Dg h) (hi:Dg i) (hj:Dg j) (w:World):Calls Tryz.prog 128 #[.agg (fc a b c d e),.agg (fc f g h i j)] w (Crd (v5 a b c d e * v5 f g h i j % 1361129467683753853853498429727072845819) w):=by
 obtain ⟨T,hT⟩:∃ T,T=Crd (v5 a b c d e * v5 f g h i j % 1361129467683753853853498429727072845819) w:=⟨_,rfl⟩
 rw [← hT]
 replace hT:=hide hT
 obtain ⟨SK,hSK⟩:∃ S,S=fc a b c d e:=⟨_,rfl⟩
 rw [← hSK]
 replace hSK:=hide hSK
 obtain ⟨SM,hSM⟩:∃ S,S=fc f g h i j:=⟨_,rfl⟩
 rw [← hSM]
 replace hSM:=hide hSM
 replace ha:=hide ha; replace hb:=hide hb; replace hc:=hide hc; replace hd:=hide hd; replace he:=hide he
 replace hf:=hide hf; replace hg:=hide hg; replace hh:=hide hh; replace hi:=hide hi; replace hj:=hide hj
 go_enter Tryz.func128,Tryz.ntmps128
 go_upto_region 1 with fail
 have hB:=(((Bl.nil w).new SK 160).new SM 160).new #[.int .u64 0,.int .u64 0,.int .u64 0,.int .u64 0,.int .u64 0] 160
 simp only [size_alloc,List.nil_append,List.cons_append] at hB
 generalize World.alloc _ _=u at *
 rw [unhide hSK,unhide hSM] at hB
 replace hB:Bl w [⟨w.heap.size,fc a b c d e,160⟩,⟨w.heap.size+1,fc f g h i j,160⟩,⟨w.heap.size+1+1,fc 0 0 0 0 0,160⟩] u:=hB
 refine any_start (S:=fun v=>Bl w [⟨w.heap.size,fc a b c d e,160⟩,⟨w.heap.size+1,fc f g h i j,160⟩,⟨w.heap.size+1+1,fc 0 0 0 0 0,160⟩] v) (by kernel_rfl) ?_
 replace hB:=hB.drew
 generalize World.drew _=u0 at *
 simp only [List.size_toArray,List.length_cons,List.length_nil,Array.replicate,List.replicate]
 refine any_take (i:=0) (v:=(.pointer (some ⟨w.heap.size+1,1,none⟩))) #[false,false,false,false,false,false,false,false,false,false,false,false,false,false,false,false] rfl (by kernel_rfl) (by kernel_rfl) (by kernel_rfl) (by kernel_rfl) (fun _ _ _ h=>h) (.inl ⟨by kernel_rfl,fun x_ hu=>by kernel_rfl⟩) hB ?_
 simp only [nrm]
 refine any_take (i:=1) (v:=(.int .u64 g)) #[true,false,false,false,false,false,false,false,false,false,false,false,false,false,false,false] rfl (by kernel_rfl) (by kernel_rfl) (by kernel_rfl) (by kernel_rfl) (fun _ _ _ h=>h) (.inl ⟨by kernel_rfl,fun x_ hu=>exec_u64 _ (.tmp 9) rfl (w.heap.size+1) 1 (by kernel_rfl) g (cell_of (hu.get 1 (x:=⟨w.heap.size+1,fc f g h i j,160⟩) rfl) rfl)⟩) hB ?_
 simp only [nrm]
 refine any_take (i:=2) (v:=(.int .u64 (mu g 5))) #[true,true,false,false,false,false,false,false,false,false,false,false,false,false,false,false] rfl (by kernel_rfl) (by kernel_rfl) (by kernel_rfl) (by kernel_rfl) (fun _ _ _ h=>h) (.inl ⟨by kernel_rfl,fun x_ hu=>by kernel_rfl⟩) hB ?_
 simp only [nrm]
 refine any_take (i:=3) (v:=(.pointer (some ⟨w.heap.size+1,2,none⟩))) #[true,true,true,false,false,false,false,false,false,false,false,false,false,false,false,false] rfl (by kernel_rfl) (by kernel_rfl) (by kernel_rfl) (by kernel_rfl) (fun _ _ _ h=>h) (.inl ⟨by kernel_rfl,fun x_ hu=>by kernel_rfl⟩) hB ?_
 simp only [nrm]
 refine any_take (i:=4) (v:=(.int .u64 h)) #[true,true,true,true,false,false,false,false,false,false,false,false,false,false,false,false] rfl (by kernel_rfl) (by kernel_rfl) (by kernel_rfl) (by kernel_rfl) (fun _ _ _ h=>h) (.inl ⟨by kernel_rfl,fun x_ hu=>exec_u64 _ (.tmp 12) rfl (w.heap.size+1) 2 (by kernel_rfl) h (cell_of (hu.get 1 (x:=⟨w.heap.size+1,fc f g h i j,160⟩) rfl) rfl)⟩) hB ?_
 simp only [nrm]
 refine any_take (i:=5) (v:=(.int .u64 (mu h 5))) #[true,true,true,true,true,false,false,false,false,false,false,false,false,false,false,false] rfl (by kernel_rfl) (by kernel_rfl) (by kernel_rfl) (by kernel_rfl) (fun _ _ _ h=>h) (.inl ⟨by kernel_rfl,fun x_ hu=>by kernel_rfl⟩) hB ?_
 simp only [nrm]
 refine any_take (i:=6) (v:=(.pointer (some ⟨w.heap.size+1,3,none⟩))) #[true,true,true,true,true,true,false,false,false,false,false,false,false,false,false,false] rfl (by kernel_rfl) (by kernel_rfl) (by kernel_rfl) (by kernel_rfl) (fun _ _ _ h=>h) (.inl ⟨by kernel_rfl,fun x_ hu=>by kernel_rfl⟩) hB ?_
 simp only [nrm]
 refine any_take (i:=7) (v:=(.int .u64 i)) #[true,true,true,true,true,true,true,false,false,false,false,false,false,false,false,false] rfl (by kernel_rfl) (by kernel_rfl) (by kernel_rfl) (by kernel_rfl) (fun _ _ _ h=>h) (.inl ⟨by kernel_rfl,fun x_ hu=>exec_u64 _ (.tmp 15) rfl (w.heap.size+1) 3 (by kernel_rfl) i (cell_of (hu.get 1 (x:=⟨w.heap.size+1,fc f g h i j,160⟩) rfl) rfl)⟩) hB ?_
 simp only [nrm]
 refine any_take (i:=8) (v:=(.int .u64 (mu i 5))) #[true,true,true,true,true,true,true,true,false,false,false,false,false,false,false,false] rfl (by kernel_rfl) (by kernel_rfl) (by kernel_rfl) (by kernel_rfl) (fun _ _ _ h=>h) (.inl ⟨by kernel_rfl,fun x_ hu=>by kernel_rfl⟩) hB ?_
 simp only [nrm]
 refine any_take (i:=9) (v:=(.pointer (some ⟨w.heap.size+1,4,none⟩))) #[true,true,true,true,true,true,true,true,true,false,false,false,false,false,false,false] rfl (by kernel_rfl) (by kernel_rfl) (by kernel_rfl) (by kernel_rfl) (fun _ _ _ h=>h) (.inl ⟨by kernel_rfl,fun x_ hu=>by kernel_rfl⟩) hB ?_
 simp only [nrm]
 refine any_take (i:=10) (v:=(.int .u64 j)) #[true,true,true,true,true,true,true,true,true,true,false,false,false,false,false,false] rfl (by kernel_rfl) (by kernel_rfl) (by kernel_rfl) (by kernel_rfl) (fun _ _ _ h=>h) (.inl ⟨by kernel_rfl,fun x_ hu=>exec_u64 _ (.tmp 18) rfl (w.heap.size+1) 4 (by kernel_rfl) j (cell_of (hu.get 1 (x:=⟨w.heap.size+1,fc f g h i j,160⟩) rfl) rfl)⟩) hB ?_
 simp only [nrm]
 refine any_take (i:=11) (v:=(.int .u64 (mu j 5))) #[true,true,true,true,true,true,true,true,true,true,true,false,false,false,false,false] rfl (by kernel_rfl) (by kernel_rfl) (by kernel_rfl) (by kernel_rfl) (fun _ _ _ h=>h) (.inl ⟨by kernel_rfl,fun x_ hu=>by kernel_rfl⟩) hB ?_
 simp only [nrm]
 refine any_one (i:=12) (by kernel_rfl) rfl (fun K hK=>?_)
 replace hK:=hide hK
 go_simp
 refine (unhide hK).out _ _ hB (fun _=>?_)
 clear hK K
 refine any_one (i:=13) (by kernel_rfl) rfl (fun K hK=>?_)
 replace hK:=hide hK
 go_simp
 refine (unhide hK).out _ _ hB (fun _=>?_)
 clear hK K
 refine any_one (i:=14) (by kernel_rfl) rfl (fun K hK=>?_)
 replace hK:=hide hK
 go_simp
 refine (unhide hK).out _ _ hB (fun _=>?_)
 clear hK K
 refine any_one (i:=15) (by kernel_rfl) rfl (fun K hK=>?_)
 replace hK:=hide hK
 go_simp
 refine (unhide hK).out _ _ hB (fun _=>?_)
 clear hK K
 refine any_done (by kernel_rfl) ?_
 replace hB:=hide hB
 go_upto_region 2 with fail
 replace hB:=unhide hB
 simp only [List.append_eq,List.cons_append,List.nil_append]
 refine wp_region_lit ?_
 refine list_val (.pointer (some ⟨w.heap.size,0,none⟩)) (by kernel_rfl) (by kernel_rfl) ?_
 simp only [nrm]
 refine list_val (.int .u64 a) (by kernel_rfl) (exec_u64 _ (.tmp 21) rfl (w.heap.size) 0 (by kernel_rfl) a (cell_of (hB.get 0 (x:=⟨w.heap.size,fc a b c d e,160⟩) rfl) rfl)) ?_
 simp only [nrm]
 refine list_val (.pointer (some ⟨w.heap.size+1,0,none⟩)) (by kernel_rfl) (by kernel_rfl) ?_
 simp only [nrm]
 refine list_val (.int .u64 f) (by kernel_rfl) (exec_u64 _ (.tmp 23) rfl (w.heap.size+1) 0 (by kernel_rfl) f (cell_of (hB.get 1 (x:=⟨w.heap.size+1,fc f g h i j,160⟩) rfl) rfl)) ?_
 simp only [nrm]
 refine list_val (.int .u64 (mu a f)) (by kernel_rfl) (by kernel_rfl) ?_
 simp only [nrm]
 refine list_val (.pointer (some ⟨w.heap.size,1,none⟩)) (by kernel_rfl) (by kernel_rfl) ?_
 simp only [nrm]
 refine list_val (.int .u64 b) (by kernel_rfl) (exec_u64 _ (.tmp 26) rfl (w.heap.size) 1 (by kernel_rfl) b (cell_of (hB.get 0 (x:=⟨w.heap.size,fc a b c d e,160⟩) rfl) rfl)) ?_
 simp only [nrm]
 refine list_val (.int .u64 (mu j 5)) (by kernel_rfl) (by kernel_rfl) ?_
 simp only [nrm]
 refine list_val (.int .u64 (mu b (mu j 5))) (by kernel_rfl) (by kernel_rfl) ?_
 simp only [nrm]
 refine list_val (.int .u64 (su (mu a f) (mu b (mu j 5)))) (by kernel_rfl) (by kernel_rfl) ?_
 simp only [nrm]
 refine list_val (.pointer (some ⟨w.heap.size,2,none⟩)) (by kernel_rfl) (by kernel_rfl) ?_
 simp only [nrm]
 refine list_val (.int .u64 c) (by kernel_rfl) (exec_u64 _ (.tmp 31) rfl (w.heap.size) 2 (by kernel_rfl) c (cell_of (hB.get 0 (x:=⟨w.heap.size,fc a b c d e,160⟩) rfl) rfl)) ?_
 simp only [nrm]
 refine list_val (.int .u64 (mu i 5)) (by kernel_rfl) (by kernel_rfl) ?_
 simp only [nrm]
 refine list_val (.int .u64 (mu c (mu i 5))) (by kernel_rfl) (by kernel_rfl) ?_
 simp only [nrm]
 refine list_val (.int .u64 (su (su (mu a f) (mu b (mu j 5))) (mu c (mu i 5)))) (by kernel_rfl) (by kernel_rfl) ?_
 simp only [nrm]
 refine list_val (.pointer (some ⟨w.heap.size,3,none⟩)) (by kernel_rfl) (by kernel_rfl) ?_
 simp only [nrm]
 refine list_val (.int .u64 d) (by kernel_rfl) (exec_u64 _ (.tmp 36) rfl (w.heap.size) 3 (by kernel_rfl) d (cell_of (hB.get 0 (x:=⟨w.heap.size,fc a b c d e,160⟩) rfl) rfl)) ?_
 simp only [nrm]
 refine list_val (.int .u64 (mu h 5)) (by kernel_rfl) (by kernel_rfl) ?_
 simp only [nrm]
 refine list_val (.int .u64 (mu d (mu h 5))) (by kernel_rfl) (by kernel_rfl) ?_
 simp only [nrm]
 refine list_val (.int .u64 (su (su (su (mu a f) (mu b (mu j 5))) (mu c (mu i 5))) (mu d (mu h 5)))) (by kernel_rfl) (by kernel_rfl) ?_
 simp only [nrm]
 refine list_val (.pointer (some ⟨w.heap.size,4,none⟩)) (by kernel_rfl) (by kernel_rfl) ?_
 simp only [nrm]
 refine list_val (.int .u64 e) (by kernel_rfl) (exec_u64 _ (.tmp 41) rfl (w.heap.size) 4 (by kernel_rfl) e (cell_of (hB.get 0 (x:=⟨w.heap.size,fc a b c d e,160⟩) rfl) rfl)) ?_
 simp only [nrm]
 refine list_val (.int .u64 (mu g 5)) (by kernel_rfl) (by kernel_rfl) ?_
 simp only [nrm]
 refine list_val (.int .u64 (mu e (mu g 5))) (by kernel_rfl) (by kernel_rfl) ?_
 simp only [nrm]
 refine list_val (.int .u64 (su (su (su (su (mu a f) (mu b (mu j 5))) (mu c (mu i 5))) (mu d (mu h 5))) (mu e (mu g 5)))) (by kernel_rfl) (by kernel_rfl) ?_
 simp only [nrm]
 refine list_val (.pointer (some ⟨w.heap.size,0,none⟩)) (by kernel_rfl) (by kernel_rfl) ?_
 simp only [nrm]
 refine list_val (.int .u64 a) (by kernel_rfl) (exec_u64 _ (.tmp 46) rfl (w.heap.size) 0 (by kernel_rfl) a (cell_of (hB.get 0 (x:=⟨w.heap.size,fc a b c d e,160⟩) rfl) rfl)) ?_
 simp only [nrm]
 refine list_val (.pointer (some ⟨w.heap.size+1,1,none⟩)) (by kernel_rfl) (by kernel_rfl) ?_
 simp only [nrm]
 refine list_val (.int .u64 g) (by kernel_rfl) (exec_u64 _ (.tmp 48) rfl (w.heap.size+1) 1 (by kernel_rfl) g (cell_of (hB.get 1 (x:=⟨w.heap.size+1,fc f g h i j,160⟩) rfl) rfl)) ?_
 simp only [nrm]
 refine list_val (.int .u64 (mu a g)) (by kernel_rfl) (by kernel_rfl) ?_
 simp only [nrm]
 refine list_val (.pointer (some ⟨w.heap.size,1,none⟩)) (by kernel_rfl) (by kernel_rfl) ?_
 simp only [nrm]
 refine list_val (.int .u64 b) (by kernel_rfl) (exec_u64 _ (.tmp 51) rfl (w.heap.size) 1 (by kernel_rfl) b (cell_of (hB.get 0 (x:=⟨w.heap.size,fc a b c d e,160⟩) rfl) rfl)) ?_
 simp only [nrm]
 refine list_val (.pointer (some ⟨w.heap.size+1,0,none⟩)) (by kernel_rfl) (by kernel_rfl) ?_
 simp only [nrm]
 refine list_val (.int .u64 f) (by kernel_rfl) (exec_u64 _ (.tmp 53) rfl (w.heap.size+1) 0 (by kernel_rfl) f (cell_of (hB.get 1 (x:=⟨w.heap.size+1,fc f g h i j,160⟩) rfl) rfl)) ?_
 simp only [nrm]
 refine list_val (.int .u64 (mu b f)) (by kernel_rfl) (by kernel_rfl) ?_
 simp only [nrm]
 refine list_val (.int .u64 (su (mu a g) (mu b f))) (by kernel_rfl) (by kernel_rfl) ?_
 simp only [nrm]
 refine list_val (.pointer (some ⟨w.heap.size,2,none⟩)) (by kernel_rfl) (by kernel_rfl) ?_
 simp only [nrm]
 refine list_val (.int .u64 c) (by kernel_rfl) (exec_u64 _ (.tmp 57) rfl (w.heap.size) 2 (by kernel_rfl) c (cell_of (hB.get 0 (x:=⟨w.heap.size,fc a b c d e,160⟩) rfl) rfl)) ?_
 simp only [nrm]
 refine list_val (.int .u64 (mu j 5)) (by kernel_rfl) (by kernel_rfl) ?_
 simp only [nrm]
 refine list_val (.int .u64 (mu c (mu j 5))) (by kernel_rfl) (by kernel_rfl) ?_
 simp only [nrm]
 refine list_val (.int .u64 (su (su (mu a g) (mu b f)) (mu c (mu j 5)))) (by kernel_rfl) (by kernel_rfl) ?_
 simp only [nrm]
 refine list_val (.pointer (some ⟨w.heap.size,3,none⟩)) (by kernel_rfl) (by kernel_rfl) ?_
 simp only [nrm]
 refine list_val (.int .u64 d) (by kernel_rfl) (exec_u64 _ (.tmp 62) rfl (w.heap.size) 3 (by kernel_rfl) d (cell_of (hB.get 0 (x:=⟨w.heap.size,fc a b c d e,160⟩) rfl) rfl)) ?_
 simp only [nrm]
 refine list_val (.int .u64 (mu i 5)) (by kernel_rfl) (by kernel_rfl) ?_
 simp only [nrm]
 refine list_val (.int .u64 (mu d (mu i 5))) (by kernel_rfl) (by kernel_rfl) ?_
 simp only [nrm]
 refine list_val (.int .u64 (su (su (su (mu a g) (mu b f)) (mu c (mu j 5))) (mu d (mu i 5)))) (by kernel_rfl) (by kernel_rfl) ?_
 simp only [nrm]
 refine list_val (.pointer (some ⟨w.heap.size,4,none⟩)) (by kernel_rfl) (by kernel_rfl) ?_
 simp only [nrm]
 refine list_val (.int .u64 e) (by kernel_rfl) (exec_u64 _ (.tmp 67) rfl (w.heap.size) 4 (by kernel_rfl) e (cell_of (hB.get 0 (x:=⟨w.heap.size,fc a b c d e,160⟩) rfl) rfl)) ?_
 simp only [nrm]
 refine list_val (.int .u64 (mu h 5)) (by kernel_rfl) (by kernel_rfl) ?_
 simp only [nrm]
 refine list_val (.int .u64 (mu e (mu h 5))) (by kernel_rfl) (by kernel_rfl) ?_
 simp only [nrm]
 refine list_val (.int .u64 (su (su (su (su (mu a g) (mu b f)) (mu c (mu j 5))) (mu d (mu i 5))) (mu e (mu h 5)))) (by kernel_rfl) (by kernel_rfl) ?_
 simp only [nrm]
 refine list_val (.pointer (some ⟨w.heap.size,0,none⟩)) (by kernel_rfl) (by kernel_rfl) ?_
 simp only [nrm]
 refine list_val (.int .u64 a) (by kernel_rfl) (exec_u64 _ (.tmp 72) rfl (w.heap.size) 0 (by kernel_rfl) a (cell_of (hB.get 0 (x:=⟨w.heap.size,fc a b c d e,160⟩) rfl) rfl)) ?_
 simp only [nrm]
 refine list_val (.pointer (some ⟨w.heap.size+1,2,none⟩)) (by kernel_rfl) (by kernel_rfl) ?_
 simp only [nrm]
 refine list_val (.int .u64 h) (by kernel_rfl) (exec_u64 _ (.tmp 74) rfl (w.heap.size+1) 2 (by kernel_rfl) h (cell_of (hB.get 1 (x:=⟨w.heap.size+1,fc f g h i j,160⟩) rfl) rfl)) ?_
 simp only [nrm]
 refine list_val (.int .u64 (mu a h)) (by kernel_rfl) (by kernel_rfl) ?_
 simp only [nrm]
 refine list_val (.pointer (some ⟨w.heap.size,1,none⟩)) (by kernel_rfl) (by kernel_rfl) ?_
 simp only [nrm]
 refine list_val (.int .u64 b) (by kernel_rfl) (exec_u64 _ (.tmp 77) rfl (w.heap.size) 1 (by kernel_rfl) b (cell_of (hB.get 0 (x:=⟨w.heap.size,fc a b c d e,160⟩) rfl) rfl)) ?_
 simp only [nrm]
 refine list_val (.pointer (some ⟨w.heap.size+1,1,none⟩)) (by kernel_rfl) (by kernel_rfl) ?_
 simp only [nrm]
 refine list_val (.int .u64 g) (by kernel_rfl) (exec_u64 _ (.tmp 79) rfl (w.heap.size+1) 1 (by kernel_rfl) g (cell_of (hB.get 1 (x:=⟨w.heap.size+1,fc f g h i j,160⟩) rfl) rfl)) ?_
 simp only [nrm]
 refine list_val (.int .u64 (mu b g)) (by kernel_rfl) (by kernel_rfl) ?_
 simp only [nrm]
 refine list_val (.int .u64 (su (mu a h) (mu b g))) (by kernel_rfl) (by kernel_rfl) ?_
 simp only [nrm]
 refine list_val (.pointer (some ⟨w.heap.size,2,none⟩)) (by kernel_rfl) (by kernel_rfl) ?_
 simp only [nrm]
 refine list_val (.int .u64 c) (by kernel_rfl) (exec_u64 _ (.tmp 83) rfl (w.heap.size) 2 (by kernel_rfl) c (cell_of (hB.get 0 (x:=⟨w.heap.size,fc a b c d e,160⟩) rfl) rfl)) ?_
 simp only [nrm]
 refine list_val (.pointer (some ⟨w.heap.size+1,0,none⟩)) (by kernel_rfl) (by kernel_rfl) ?_
 simp only [nrm]
 refine list_val (.int .u64 f) (by kernel_rfl) (exec_u64 _ (.tmp 85) rfl (w.heap.size+1) 0 (by kernel_rfl) f (cell_of (hB.get 1 (x:=⟨w.heap.size+1,fc f g h i j,160⟩) rfl) rfl)) ?_
 simp only [nrm]
 refine list_val (.int .u64 (mu c f)) (by kernel_rfl) (by kernel_rfl) ?_
 simp only [nrm]
 refine list_val (.int .u64 (su (su (mu a h) (mu b g)) (mu c f))) (by kernel_rfl) (by kernel_rfl) ?_
 simp only [nrm]
 refine list_val (.pointer (some ⟨w.heap.size,3,none⟩)) (by kernel_rfl) (by kernel_rfl) ?_
 simp only [nrm]
 refine list_val (.int .u64 d) (by kernel_rfl) (exec_u64 _ (.tmp 89) rfl (w.heap.size) 3 (by kernel_rfl) d (cell_of (hB.get 0 (x:=⟨w.heap.size,fc a b c d e,160⟩) rfl) rfl)) ?_
 simp only [nrm]
 refine list_val (.int .u64 (mu j 5)) (by kernel_rfl) (by kernel_rfl) ?_
 simp only [nrm]
 refine list_val (.int .u64 (mu d (mu j 5))) (by kernel_rfl) (by kernel_rfl) ?_
 simp only [nrm]
 refine list_val (.int .u64 (su (su (su (mu a h) (mu b g)) (mu c f)) (mu d (mu j 5)))) (by kernel_rfl) (by kernel_rfl) ?_
 simp only [nrm]
 refine list_val (.pointer (some ⟨w.heap.size,4,none⟩)) (by kernel_rfl) (by kernel_rfl) ?_
 simp only [nrm]
 refine list_val (.int .u64 e) (by kernel_rfl) (exec_u64 _ (.tmp 94) rfl (w.heap.size) 4 (by kernel_rfl) e (cell_of (hB.get 0 (x:=⟨w.heap.size,fc a b c d e,160⟩) rfl) rfl)) ?_
 simp only [nrm]
 refine list_val (.int .u64 (mu i 5)) (by kernel_rfl) (by kernel_rfl) ?_
 simp only [nrm]
 refine list_val (.int .u64 (mu e (mu i 5))) (by kernel_rfl) (by kernel_rfl) ?_
 simp only [nrm]
 refine list_val (.int .u64 (su (su (su (su (mu a h) (mu b g)) (mu c f)) (mu d (mu j 5))) (mu e (mu i 5)))) (by kernel_rfl) (by kernel_rfl) ?_
 simp only [nrm]
 refine list_val (.pointer (some ⟨w.heap.size,0,none⟩)) (by kernel_rfl) (by kernel_rfl) ?_
 simp only [nrm]
 refine list_val (.int .u64 a) (by kernel_rfl) (exec_u64 _ (.tmp 99) rfl (w.heap.size) 0 (by kernel_rfl) a (cell_of (hB.get 0 (x:=⟨w.heap.size,fc a b c d e,160⟩) rfl) rfl)) ?_
 simp only [nrm]
 refine list_val (.pointer (some ⟨w.heap.size+1,3,none⟩)) (by kernel_rfl) (by kernel_rfl) ?_
 simp only [nrm]
 refine list_val (.int .u64 i) (by kernel_rfl) (exec_u64 _ (.tmp 101) rfl (w.heap.size+1) 3 (by kernel_rfl) i (cell_of (hB.get 1 (x:=⟨w.heap.size+1,fc f g h i j,160⟩) rfl) rfl)) ?_
 simp only [nrm]
 refine list_val (.int .u64 (mu a i)) (by kernel_rfl) (by kernel_rfl) ?_
 simp only [nrm]
 refine list_val (.pointer (some ⟨w.heap.size,1,none⟩)) (by kernel_rfl) (by kernel_rfl) ?_
 simp only [nrm]
 refine list_val (.int .u64 b) (by kernel_rfl) (exec_u64 _ (.tmp 104) rfl (w.heap.size) 1 (by kernel_rfl) b (cell_of (hB.get 0 (x:=⟨w.heap.size,fc a b c d e,160⟩) rfl) rfl)) ?_
 simp only [nrm]
 refine list_val (.pointer (some ⟨w.heap.size+1,2,none⟩)) (by kernel_rfl) (by kernel_rfl) ?_
 simp only [nrm]
 refine list_val (.int .u64 h) (by kernel_rfl) (exec_u64 _ (.tmp 106) rfl (w.heap.size+1) 2 (by kernel_rfl) h (cell_of (hB.get 1 (x:=⟨w.heap.size+1,fc f g h i j,160⟩) rfl) rfl)) ?_
 simp only [nrm]
 refine list_val (.int .u64 (mu b h)) (by kernel_rfl) (by kernel_rfl) ?_
 simp only [nrm]
 refine list_val (.int .u64 (su (mu a i) (mu b h))) (by kernel_rfl) (by kernel_rfl) ?_
 simp only [nrm]
 refine list_val (.pointer (some ⟨w.heap.size,2,none⟩)) (by kernel_rfl) (by kernel_rfl) ?_
 simp only [nrm]
 refine list_val (.int .u64 c) (by kernel_rfl) (exec_u64 _ (.tmp 110) rfl (w.heap.size) 2 (by kernel_rfl) c (cell_of (hB.get 0 (x:=⟨w.heap.size,fc a b c d e,160⟩) rfl) rfl)) ?_
 simp only [nrm]
 refine list_val (.pointer (some ⟨w.heap.size+1,1,none⟩)) (by kernel_rfl) (by kernel_rfl) ?_
 simp only [nrm]
 refine list_val (.int .u64 g) (by kernel_rfl) (exec_u64 _ (.tmp 112) rfl (w.heap.size+1) 1 (by kernel_rfl) g (cell_of (hB.get 1 (x:=⟨w.heap.size+1,fc f g h i j,160⟩) rfl) rfl)) ?_
 simp only [nrm]
 refine list_val (.int .u64 (mu c g)) (by kernel_rfl) (by kernel_rfl) ?_
 simp only [nrm]
 refine list_val (.int .u64 (su (su (mu a i) (mu b h)) (mu c g))) (by kernel_rfl) (by kernel_rfl) ?_
 simp only [nrm]
 refine list_val (.pointer (some ⟨w.heap.size,3,none⟩)) (by kernel_rfl) (by kernel_rfl) ?_
 simp only [nrm]
 refine list_val (.int .u64 d) (by kernel_rfl) (exec_u64 _ (.tmp 116) rfl (w.heap.size) 3 (by kernel_rfl) d (cell_of (hB.get 0 (x:=⟨w.heap.size,fc a b c d e,160⟩) rfl) rfl)) ?_
 simp only [nrm]
 refine list_val (.pointer (some ⟨w.heap.size+1,0,none⟩)) (by kernel_rfl) (by kernel_rfl) ?_
 simp only [nrm]
 refine list_val (.int .u64 f) (by kernel_rfl) (exec_u64 _ (.tmp 118) rfl (w.heap.size+1) 0 (by kernel_rfl) f (cell_of (hB.get 1 (x:=⟨w.heap.size+1,fc f g h i j,160⟩) rfl) rfl)) ?_
 simp only [nrm]
 refine list_val (.int .u64 (mu d f)) (by kernel_rfl) (by kernel_rfl) ?_
 simp only [nrm]
 refine list_val (.int .u64 (su (su (su (mu a i) (mu b h)) (mu c g)) (mu d f))) (by kernel_rfl) (by kernel_rfl) ?_
 simp only [nrm]
 refine list_val (.pointer (some ⟨w.heap.size,4,none⟩)) (by kernel_rfl) (by kernel_rfl) ?_
 simp only [nrm]
 refine list_val (.int .u64 e) (by kernel_rfl) (exec_u64 _ (.tmp 122) rfl (w.heap.size) 4 (by kernel_rfl) e (cell_of (hB.get 0 (x:=⟨w.heap.size,fc a b c d e,160⟩) rfl) rfl)) ?_
 simp only [nrm]
 refine list_val (.int .u64 (mu j 5)) (by kernel_rfl) (by kernel_rfl) ?_
 simp only [nrm]
 refine list_val (.int .u64 (mu e (mu j 5))) (by kernel_rfl) (by kernel_rfl) ?_
 simp only [nrm]
 refine list_val (.int .u64 (su (su (su (su (mu a i) (mu b h)) (mu c g)) (mu d f)) (mu e (mu j 5)))) (by kernel_rfl) (by kernel_rfl) ?_
 simp only [nrm]
 refine list_val (.pointer (some ⟨w.heap.size,0,none⟩)) (by kernel_rfl) (by kernel_rfl) ?_
 simp only [nrm]
 refine list_val (.int .u64 a) (by kernel_rfl) (exec_u64 _ (.tmp 127) rfl (w.heap.size) 0 (by kernel_rfl) a (cell_of (hB.get 0 (x:=⟨w.heap.size,fc a b c d e,160⟩) rfl) rfl)) ?_
 simp only [nrm]
 refine list_val (.pointer (some ⟨w.heap.size+1,4,none⟩)) (by kernel_rfl) (by kernel_rfl) ?_
 simp only [nrm]
 refine list_val (.int .u64 j) (by kernel_rfl) (exec_u64 _ (.tmp 129) rfl (w.heap.size+1) 4 (by kernel_rfl) j (cell_of (hB.get 1 (x:=⟨w.heap.size+1,fc f g h i j,160⟩) rfl) rfl)) ?_
 simp only [nrm]
 refine list_val (.int .u64 (mu a j)) (by kernel_rfl) (by kernel_rfl) ?_
 simp only [nrm]
 refine list_val (.pointer (some ⟨w.heap.size,1,none⟩)) (by kernel_rfl) (by kernel_rfl) ?_
 simp only [nrm]
 refine list_val (.int .u64 b) (by kernel_rfl) (exec_u64 _ (.tmp 132) rfl (w.heap.size) 1 (by kernel_rfl) b (cell_of (hB.get 0 (x:=⟨w.heap.size,fc a b c d e,160⟩) rfl) rfl)) ?_
 simp only [nrm]
 refine list_val (.pointer (some ⟨w.heap.size+1,3,none⟩)) (by kernel_rfl) (by kernel_rfl) ?_
 simp only [nrm]
 refine list_val (.int .u64 i) (by kernel_rfl) (exec_u64 _ (.tmp 134) rfl (w.heap.size+1) 3 (by kernel_rfl) i (cell_of (hB.get 1 (x:=⟨w.heap.size+1,fc f g h i j,160⟩) rfl) rfl)) ?_
 simp only [nrm]
 refine list_val (.int .u64 (mu b i)) (by kernel_rfl) (by kernel_rfl) ?_
 simp only [nrm]
 refine list_val (.int .u64 (su (mu a j) (mu b i))) (by kernel_rfl) (by kernel_rfl) ?_
 simp only [nrm]
 refine list_val (.pointer (some ⟨w.heap.size,2,none⟩)) (by kernel_rfl) (by kernel_rfl) ?_
 simp only [nrm]
 refine list_val (.int .u64 c) (by kernel_rfl) (exec_u64 _ (.tmp 138) rfl (w.heap.size) 2 (by kernel_rfl) c (cell_of (hB.get 0 (x:=⟨w.heap.size,fc a b c d e,160⟩) rfl) rfl)) ?_
 simp only [nrm]
 refine list_val (.pointer (some ⟨w.heap.size+1,2,none⟩)) (by kernel_rfl) (by kernel_rfl) ?_
 simp only [nrm]
 refine list_val (.int .u64 h) (by kernel_rfl) (exec_u64 _ (.tmp 140) rfl (w.heap.size+1) 2 (by kernel_rfl) h (cell_of (hB.get 1 (x:=⟨w.heap.size+1,fc f g h i j,160⟩) rfl) rfl)) ?_
 simp only [nrm]
 refine list_val (.int .u64 (mu c h)) (by kernel_rfl) (by kernel_rfl) ?_
 simp only [nrm]
 refine list_val (.int .u64 (su (su (mu a j) (mu b i)) (mu c h))) (by kernel_rfl) (by kernel_rfl) ?_
 simp only [nrm]
 refine list_val (.pointer (some ⟨w.heap.size,3,none⟩)) (by kernel_rfl) (by kernel_rfl) ?_
 simp only [nrm]
 refine list_val (.int .u64 d) (by kernel_rfl) (exec_u64 _ (.tmp 144) rfl (w.heap.size) 3 (by kernel_rfl) d (cell_of (hB.get 0 (x:=⟨w.heap.size,fc a b c d e,160⟩) rfl) rfl)) ?_
 simp only [nrm]
 refine list_val (.pointer (some ⟨w.heap.size+1,1,none⟩)) (by kernel_rfl) (by kernel_rfl) ?_
 simp only [nrm]
 refine list_val (.int .u64 g) (by kernel_rfl) (exec_u64 _ (.tmp 146) rfl (w.heap.size+1) 1 (by kernel_rfl) g (cell_of (hB.get 1 (x:=⟨w.heap.size+1,fc f g h i j,160⟩) rfl) rfl)) ?_
 simp only [nrm]
 refine list_val (.int .u64 (mu d g)) (by kernel_rfl) (by kernel_rfl) ?_
 simp only [nrm]
 refine list_val (.int .u64 (su (su (su (mu a j) (mu b i)) (mu c h)) (mu d g))) (by kernel_rfl) (by kernel_rfl) ?_
 simp only [nrm]
 refine list_val (.pointer (some ⟨w.heap.size,4,none⟩)) (by kernel_rfl) (by kernel_rfl) ?_
 simp only [nrm]
 refine list_val (.int .u64 e) (by kernel_rfl) (exec_u64 _ (.tmp 150) rfl (w.heap.size) 4 (by kernel_rfl) e (cell_of (hB.get 0 (x:=⟨w.heap.size,fc a b c d e,160⟩) rfl) rfl)) ?_
 simp only [nrm]
 refine list_val (.pointer (some ⟨w.heap.size+1,0,none⟩)) (by kernel_rfl) (by kernel_rfl) ?_
 simp only [nrm]
 refine list_val (.int .u64 f) (by kernel_rfl) (exec_u64 _ (.tmp 152) rfl (w.heap.size+1) 0 (by kernel_rfl) f (cell_of (hB.get 1 (x:=⟨w.heap.size+1,fc f g h i j,160⟩) rfl) rfl)) ?_
 simp only [nrm]
 refine list_val (.int .u64 (mu e f)) (by kernel_rfl) (by kernel_rfl) ?_
 simp only [nrm]
 refine list_val (.int .u64 (su (su (su (su (mu a j) (mu b i)) (mu c h)) (mu d g)) (mu e f))) (by kernel_rfl) (by kernel_rfl) ?_
 simp only [nrm]
 refine list_val (.agg (fc (su (su (su (su (mu a f) (mu b (mu j 5))) (mu c (mu i 5))) (mu d (mu h 5))) (mu e (mu g 5))) (su (su (su (su (mu a g) (mu b f)) (mu c (mu j 5))) (mu d (mu i 5))) (mu e (mu h 5))) (su (su (su (su (mu a h) (mu b g)) (mu c f)) (mu d (mu j 5))) (mu e (mu i 5))) (su (su (su (su (mu a i) (mu b h)) (mu c g)) (mu d f)) (mu e (mu j 5))) (su (su (su (su (mu a j) (mu b i)) (mu c h)) (mu d g)) (mu e f)))) (by kernel_rfl) (by kernel_rfl) ?_
 simp only [nrm]
 have w1:=wm g (unhide hg)
 have w2:=wm h (unhide hh)
 have w3:=wm i (unhide hi)
 have w4:=wm j (unhide hj)
 simp only [w1.1,w2.1,w3.1,w4.1]
 obtain ⟨s0,m0⟩:=five_mu a b c d e f (j * 5) (i * 5) (h * 5) (g * 5) (unhide ha) (unhide hb) (unhide hc) (unhide hd) (unhide he) (dl (unhide hf)) w4.2 w3.2 w2.2 w1.2
 obtain ⟨s1,m1⟩:=five_mu a b c d e g f (j * 5) (i * 5) (h * 5) (unhide ha) (unhide hb) (unhide hc) (unhide hd) (unhide he) (dl (unhide hg)) (dl (unhide hf)) w4.2 w3.2 w2.2
 obtain ⟨s2,m2⟩:=five_mu a b c d e h g f (j * 5) (i * 5) (unhide ha) (unhide hb) (unhide hc) (unhide hd) (unhide he) (dl (unhide hh)) (dl (unhide hg)) (dl (unhide hf)) w4.2 w3.2
 obtain ⟨s3,m3⟩:=five_mu a b c d e i h g f (j * 5) (unhide ha) (unhide hb) (unhide hc) (unhide hd) (unhide he) (dl (unhide hi)) (dl (unhide hh)) (dl (unhide hg)) (dl (unhide hf)) w4.2
 obtain ⟨s4,m4⟩:=five_mu a b c d e j i h g f (unhide ha) (unhide hb) (unhide hc) (unhide hd) (unhide he) (dl (unhide hj)) (dl (unhide hi)) (dl (unhide hh)) (dl (unhide hg)) (dl (unhide hf))
 rw [s0,s1,s2,s3,s4]
 have hmod:=hide (times_mod a b c d e f g h i j)
 clear w1 w2 w3 w4 s0 s1 s2 s3 s4
 generalize a * f+b * (j * 5)+c * (i * 5)+d * (h * 5)+e * (g * 5)=P0 at *
 generalize a * g+b * f+c * (j * 5)+d * (i * 5)+e * (h * 5)=P1 at *
 generalize a * h+b * g+c * f+d * (j * 5)+e * (i * 5)=P2 at *
 generalize a * i+b * h+c * g+d * f+e * (j * 5)=P3 at *
 generalize a * j+b * i+c * h+d * g+e * f=P4 at *
 refine list_call 133 #[.agg (fc P0 P1 P2 P3 P4)] (by kernel_rfl) (by kernel_rfl) ((carried_ok P0 P1 P2 P3 P4 m0 m1 m2 m3 m4 _).mono ?_)
 rintro r u1 ⟨y0,y1,y2,y3,y4,rfl,hcar,hgr⟩
 refine ⟨_,rfl,?_⟩
 replace hB:=hB.more hgr
 clear hgr
 rw [unhide hmod] at hcar
 replace hcar:=hide hcar
 simp only [nrm]
 refine list_store 160 (.tmp 4) (.tmp 157) (w.heap.size+1+1) (fc y0 y1 y2 y3 y4) 160 (fc 0 0 0 0 0) (by kernel_rfl) rfl (by kernel_rfl) (by kernel_rfl) (hB.get 2 (x:=⟨w.heap.size+1+1,fc 0 0 0 0 0,160⟩) rfl) Tryz.infoPL rfl (fc_one _ _ _ _ _) ?_
 replace hB:=hB.set 2 (x:=⟨w.heap.size+1+1,fc 0 0 0 0 0,160⟩) rfl (fc y0 y1 y2 y3 y4)
 simp only [List.set_cons_zero,List.set_cons_succ] at hB
 generalize World.setRow _ _ _=u2 at *
 simp only [nrm]
 refine wpList_nil ?_
 replace hB:=hide hB
 go_wp2_with fail
 replace hB:=unhide hB
 rw [unhide hT]
 exact bodyPost_ret (v:=.agg (fc y0 y1 y2 y3 y4)) (results_cell_row Tryz.results128 _ _ (w.heap.size+1+1) 160 (fc y0 y1 y2 y3 y4) (0,0) _ rfl (hB.get 2 (x:=⟨w.heap.size+1+1,fc y0 y1 y2 y3 y4,160⟩) rfl) Tryz.underlying160 rfl Tryz.infoPL) rfl (⟨_,_,_,_,_,rfl,unhide hcar,hB.gr⟩)
end Go.Proofs.YthahhglbeafkmaaGreatDoor
namespace Go.Proofs.YthahhglbeafkmaaGreatDoor
open Go.RowKit
set_option maxRecDepth 100000
set_option linter.unusedSimpArgs false
set_option linter.unusedVariables false
def lowN:List Int→Int
 | []=>0
 | x::r=>x+256 * lowN r
theorem lowN_V:∀ (l:List Int),IsB l→lowN l=((V (nb l):Nat):Int)
 | [],_=>rfl
 | x::r,h=>by
  have h1:=lowN_V r (fun y hy=>h y (List.mem_cons_of_mem _ hy))
  have hx:=h x List.mem_cons_self
  have e:nb (x::r)=x.toNat::nb r:=rfl
  rw [lowN,h1,e,V]
  omega
theorem lowN_bd (l:List Int) (h:IsB l):0≤lowN l∧lowN l<256 ^ l.length:=by
 induction l with
 | nil=>simp [lowN]
 | cons x r ih =>
  have:=ih (fun y hy=>h y (List.mem_cons_of_mem _ hy))
  have hx:=h x (List.mem_cons_self ..)
  simp only [lowN,List.length_cons]
  rw [Int.pow_succ]
  omega
theorem lowN_append (l m:List Int):lowN (l++m)=lowN l+256 ^ l.length * lowN m:=by
 induction l with
 | nil=>simp [lowN]
 | cons x r ih =>
  simp only [List.cons_append,lowN,ih,List.length_cons,Int.pow_succ,Int.mul_add]
  rw [Int.add_assoc,← Int.mul_assoc,Int.mul_comm 256 (256 ^ _)]
theorem lowN_snoc (l:List Int) (c:Int):lowN (l++[c])=lowN l+c * 256 ^ l.length:=by
 rw [lowN_append,Int.mul_comm]
 simp [lowN]
theorem or_add (x y:Int) (k:Nat) (hx:0≤x∧x<((2 ^ k:Nat):Int)) (hy0:0≤y) (hy1:y<18446744073709551616) (hx1:x<18446744073709551616) (hy:y % ((2 ^ k:Nat):Int)=0):bits .or .u64 x y=x+y:=by
 obtain ⟨X,rfl⟩:=Int.eq_ofNat_of_zero_le hx.1
 obtain ⟨Y,rfl⟩:=Int.eq_ofNat_of_zero_le hy0
 rw [u64_or_nat X Y (by omega) (by omega)]
 have hX:X<2 ^ k:=by have:=hx.2; exact_mod_cast this
 have hY:Y % 2 ^ k=0:=by
  have h:((Y % 2 ^ k:Nat):Int)=0:=by rw [Int.natCast_emod]; exact hy
  omega
 have:=nat_join k Y X hY hX
 rw [Nat.or_comm] at this
 rw [this]
 omega
theorem or_step (X y:Int) (k:Nat) (hk:k<8) (h0:0≤X) (h1:X<256 ^ k) (hy0:0≤y) (hy1:y<256) :
  bits .or .u64 X (IntKind.u64.wrap (y * 2 ^ (8 * k)))=X+y * 256 ^ k:=by
 obtain ⟨N,rfl⟩:=Int.eq_ofNat_of_zero_le h0
 obtain ⟨Y,rfl⟩:=Int.eq_ofNat_of_zero_le hy0
 have e:(256:Nat) ^ k=2 ^ (8 * k):=by rw [Nat.pow_mul]
 have e1:(256:Int) ^ k=((2 ^ (8 * k):Nat):Int):=by rw [← e]; simp
 have e2:(2:Int) ^ (8 * k)=((2 ^ (8 * k):Nat):Int):=by simp
 have hN:N<2 ^ (8 * k):=by rw [e1] at h1; omega
 have hY:Y<256:=by omega
 have hle:2 ^ (8 * k)≤2 ^ 56:=Nat.pow_le_pow_right (by omega) (by omega)
 rw [e1,e2]
 generalize hP:2 ^ (8 * k)=P at *
 have hYP:Y * P<18446744073709551616:=by
  have:Y * P≤255 * P:=Nat.mul_le_mul_right _ (by omega)
  omega
 have e3:IntKind.u64.wrap ((Y:Int) * (P:Int))=((Y * P:Nat):Int):=by
  rw [IntKind.wrap_u64]
  rw [← Int.natCast_mul]
  omega
 rw [e3,u64_or_nat N (Y * P) (by omega) hYP]
 have:=nat_join (8 * k) (Y * P) N (by rw [hP]; exact Nat.mul_mod_left _ _) (by rw [hP]; exact hN)
 rw [Nat.or_comm] at this
 rw [this]
 rw [← Int.natCast_mul]
 omega
theorem take_snoc_getD (l:List Int) (k:Nat) (h:k<l.length):l.take (k+1)=l.take k++[l.getD k 0]:=by
 rw [List.take_succ_eq_append_getElem h,List.getD_eq_getElem?_getD,List.getElem?_eq_getElem h]; rfl
theorem lowN_step (l:List Int) (k:Nat) (y:Int) (h:k<l.length) (h8:l.length≤8) (hb:IsB l) (hy:y=l.getD k 0) :
  bits .or .u64 (lowN (l.take k)) (IntKind.u64.wrap (y * 2 ^ (8 * k)))=lowN (l.take (k+1)):=by
 have hm:=hb.at_ k
 have hbd:=lowN_bd (l.take k) (hb.take k)
 have hlen:(l.take k).length=k:=by simp; omega
 rw [hlen] at hbd
 rw [take_snoc_getD l k h,lowN_snoc,hlen,← hy]
 rw [← hy] at hm
 exact or_step _ _ k (by omega) hbd.1 hbd.2 hm.1 hm.2
set_option maxHeartbeats 400000 in
theorem onum_ok (p o n c:Nat) (l:List Int) (w:World) (hl:l.length=n) (hn:n≤8) (hb:IsB l) (hat:At w p o l) :
  Calls Tryz.prog 79 #[.slice (some ⟨p,o,none⟩) n c] w fun e w'=>e=.returned (.int .u64 (lowN l))∧w'=w:=by
 have hc:∀ i,i<n→w.cell? ⟨p,o+i,none⟩=some (.int .u8 (l.getD i 0)):=fun i hi=>hat i (by omega)
 clear hat
 go_enter Tryz.func79,Tryz.ntmps79
 go_wp2
 go_loop [3,8] (fun x i=>∃ k:Nat,k≤n∧i=.int .i64 k∧x=.int .u64 (lowN (l.take k))) (fun _ i=>n - (intOf i).toNat)
 case atStart=>exact ⟨0,Nat.zero_le _,rfl,by simp [lowN]⟩
 case round =>
  obtain ⟨k,hk,rfl,rfl⟩:=hrel
  by_cases hlt:k<n
  ·have hck:=hc k hlt
   have hx:=hb.at_ k
   obtain ⟨y,hy⟩:∃ y,y=l.getD k 0:=⟨_,rfl⟩
   rw [← hy] at hck hx
   have HB:Hid (∀ y,y=l.getD k 0→bits .or .u64 (lowN (l.take k)) (IntKind.u64.wrap (y * 2 ^ (8 * k)))=lowN (l.take (k+1))):=fun y hy=>lowN_step l k y (by omega) (by omega) hb hy
   have HY:=hide hy
   obtain ⟨hx0,hx1⟩:=hx
   clear hy hc hb
   go_wp2
   go_round
   case rel=>exact ⟨k+1,by omega,by go_num,by rw [unhide HB y HY]⟩
   case measure=>simp [intOf]; omega
  ·go_wp2
   go_ret
   rw [List.take_of_length_le (by omega)]
   exact ⟨rfl,rfl⟩
theorem exec_to8 {a:Act} {op:Oper} (w:World) (x y:Operand) (ho:op.op=.slice 43 x none (some y) none) (p o n cap:Nat) (hx:a.eval x=.slice (some ⟨p,o,none⟩) n cap) (hy:a.eval y=.int .i64 (8:Nat)) (hc:n≤cap) (hn:8≤n) :
  (execOp a.eval op).run Tryz.prog w=.ok (.value (.slice (some ⟨p,o,none⟩) 8 cap)) w:=by
 have h:=exec_upto w x y ho (some ⟨p,o,none⟩) n cap 8 hx hy hc hn
 rw [if_neg (by omega),Option.map_some,add_zero] at h
 exact h
set_option maxHeartbeats 400000 in
theorem get64_ok (p o n c:Nat) (B:List Int) (w:World) (hl:B.length=n) (h8:8≤n) (hc:n≤c) (hcb:c<9223372036854775808) (hb:IsB B) (hat:At w p o B) :
  Calls Tryz.prog 78 #[.slice (some ⟨p,o,none⟩) n c] w fun e w'=>e=.returned (.int .u64 (lowN (B.take 8)))∧w'=w:=by
 have hcon:=hide (onum_ok p o 8 c (B.take 8) w (by rw [List.length_take]; omega) (by omega) (hb.take 8) (hat.take 8))
 have nI:¬ (n:Int)<8:=by omega
 have nI2:(8:Int)≤n:=by omega
 have cI:(8:Int)≤c:=by omega
 have cN:¬ c=0:=by omega
 clear hat
 generalize lowN (B.take 8)=x at *
 go_enter Tryz.func78,Tryz.ntmps78
 go_upto_region 1 with fail
 refine wp_region_lit ?_
 refine list_val (.slice (some ⟨p,o,none⟩) n c) (by kernel_rfl) (by kernel_rfl) ?_
 simp only [nrm]
 refine list_val (.slice (some ⟨p,o,none⟩) n c) (by kernel_rfl) (by kernel_rfl) ?_
 simp only [nrm]
 refine list_val (.int .i64 n) (by kernel_rfl) (by kernel_rfl) ?_
 simp only [nrm]
 refine list_val (.int .i64 (8:Nat)) (by kernel_rfl) (by go_simp; omega) ?_
 simp only [nrm]
 refine list_val (.slice (some ⟨p,o,none⟩) 8 c) (by kernel_rfl) (exec_to8 _ (.tmp 3) (.tmp 6) rfl p o n c (by kernel_rfl) (by kernel_rfl) hc h8) ?_
 simp only [nrm]
 refine list_call 79 #[.slice (some ⟨p,o,none⟩) 8 c] (by kernel_rfl) (by kernel_rfl) ((unhide hcon).mono ?_)
 rintro r u ⟨rfl,rfl⟩
 refine ⟨_,rfl,?_⟩
 simp only [nrm]
 (refine wpList_step fun K hK=>?_; replace hK:=hide hK; go_simp; refine unhide hK _ _ ?_; clear hK K)
 refine wpList_nil ?_
 go_wp2_with fail
 go_ret
 exact ⟨rfl,rfl⟩
theorem num_parts (lo hi:Int) (hl:0≤lo∧lo<18446744073709551616) (hh:0≤hi∧hi<18446744073709551616) :
  bits .and .u64 lo 67108863=lo % 67108864∧bits .and .u64 (lo / 2 ^ 26) 67108863=lo / 67108864 % 67108864∧bits .and .u64 (bits .or .u64 (lo / 2 ^ 52) (IntKind.u64.wrap (hi * 2 ^ 12))) 67108863=lo / 4503599627370496+hi % 16384 * 4096∧bits .and .u64 (hi / 2 ^ 14) 67108863=hi / 16384 % 67108864∧hi / 2 ^ 40=hi / 1099511627776:=by
 have e1:(2:Int) ^ 26=67108864:=by decide
 have e2:(2:Int) ^ 52=4503599627370496:=by decide
 have e3:(2:Int) ^ 12=4096:=by decide
 have e4:(2:Int) ^ 14=16384:=by decide
 have e5:(2:Int) ^ 40=1099511627776:=by decide
 rw [e1,e2,e3,e4,e5,mask26 lo (by omega) (by omega),mask26 (lo / 67108864) (by omega) (by omega),mask26 (hi / 16384) (by omega) (by omega),IntKind.wrap_u64]
 have e6:=or_add (lo / 4503599627370496) (hi * 4096 % 18446744073709551616) 12 (by rw [show ((2 ^ 12:Nat):Int)=4096 from rfl]; omega) (by omega) (by omega) (by omega) (by rw [show ((2 ^ 12:Nat):Int)=4096 from rfl]; omega)
 rw [e6,mask26 _ (by omega) (by omega)]
 refine ⟨rfl,rfl,?_,rfl,rfl⟩
 omega
theorem num_val (lo hi:Int) (hl:0≤lo∧lo<18446744073709551616) (hh:0≤hi∧hi<18446744073709551616):v5 (lo % 67108864) (lo / 67108864 % 67108864) (lo / 4503599627370496+hi % 16384 * 4096) (hi / 16384 % 67108864) (hi / 1099511627776)=lo+18446744073709551616 * hi:=by
 unfold v5
 omega
def Nmd (n:Int) (w:World) (r:Ending) (w':World):Prop:=∃ a b c d e,r=.returned (.agg (fc a b c d e))∧Dg a∧Dg b∧Dg c∧Dg d∧(0≤e∧e<16777216)∧v5 a b c d e=n∧Gr w w'
theorem exec_from8 {a:Act} {o:Oper} (w:World) (x y:Operand) (ho:o.op=.slice 43 x (some y) none none) (p q cap:Nat) (hx:a.eval x=.slice (some ⟨p,q,none⟩) 16 cap) (hy:a.eval y=.int .i64 (8:Nat)) (hc:16≤cap) :
  (execOp a.eval o).run Tryz.prog w=.ok (.value (.slice (some ⟨p,q+8,none⟩) 8 (cap - 8))) w:=by
 have h:=exec_from w x y ho (some ⟨p,q,none⟩) 16 cap 8 hx hy hc (by omega)
 rw [if_neg (by omega),Option.map_some,add_some] at h
 exact h
set_option maxHeartbeats 4000000 in
theorem number_ok (B:List Int) (p q cap:Nat) (hl:B.length=16) (hb:IsB B) (hc:16≤cap) (hcb:cap<9223372036854775808) (w:World) (hat:At w p q B):Calls Tryz.prog 112 #[.slice (some ⟨p,q,none⟩) 16 cap] w (Nmd (lowN B) w):=by
 obtain ⟨T,hT⟩:∃ T,T=Nmd (lowN B) w:=⟨_,rfl⟩
 rw [← hT]
 replace hT:=hide hT
 have hat2:=hide hat
 clear hat
 go_enter Tryz.func112,Tryz.ntmps112
 go_upto_region 1 with fail
 have hB:=(Bl.nil w).new #[.int .u64 0,.int .u64 0,.int .u64 0,.int .u64 0,.int .u64 0] 160
 simp only [List.nil_append,List.cons_append] at hB
 generalize World.alloc _ _=u at *
 replace hB:Bl w [⟨w.heap.size,fc 0 0 0 0 0,160⟩] u:=hB
 refine any_start (S:=fun _=>True) (by kernel_rfl) ?_
 replace hB:=hB.drew
 generalize World.drew _=u1 at *
 simp only [List.size_toArray,List.length_cons,List.length_nil,Array.replicate,List.replicate]
 refine any_take (i:=0) (v:=(.slice (some ⟨p,q,none⟩) 16 cap)) #[false,false,false,false,false,false,false] rfl (by kernel_rfl) (by kernel_rfl) (by kernel_rfl) (by kernel_rfl) (fun _ _ _ h=>h) (.inl ⟨by kernel_rfl,fun x_ hu=>by kernel_rfl⟩) trivial ?_
 simp only [nrm]
 refine any_take (i:=2) (v:=(.slice (some ⟨p,q,none⟩) 16 cap)) #[true,false,false,false,false,false,false] rfl (by kernel_rfl) (by kernel_rfl) (by kernel_rfl) (by kernel_rfl) (fun _ _ _ h=>h) (.inl ⟨by kernel_rfl,fun x_ hu=>by kernel_rfl⟩) trivial ?_
 simp only [nrm]
 refine any_take (i:=3) (v:=(.slice (some ⟨p,q+8,none⟩) 8 (cap - 8))) #[true,false,true,false,false,false,false] rfl (by kernel_rfl) (by kernel_rfl) (by kernel_rfl) (by kernel_rfl) (fun _ _ _ h=>h) (.inl ⟨by kernel_rfl,fun x_ hu=>exec_from8 _ (.tmp 7) (.const (.int .i64 8)) rfl p q cap (by kernel_rfl) (by kernel_rfl) hc⟩) trivial ?_
 simp only [nrm]
 refine any_one (i:=1) (by kernel_rfl) rfl (fun K hK=>?_)
 refine step_callw (by kernel_rfl) 78 #[.slice (some ⟨p,q,none⟩) 16 cap] (by kernel_rfl) ((get64_ok p q 16 cap B _ hl (by omega) hc hcb hb ((unhide hat2).gr hB.gr)).mono ?_)
 rintro r u2 ⟨rfl,rfl⟩
 refine ⟨_,rfl,?_⟩
 have hlo:=lowN_bd (B.take 8) (hb.take 8)
 have hlv:Hid (lowN (B.take 8)+18446744073709551616 * lowN (B.drop 8)=lowN B):=by
  have h:=lowN_append (B.take 8) (B.drop 8)
  rw [List.take_append_drop,List.length_take,hl] at h
  exact h.symm
 rw [List.length_take,hl] at hlo
 replace hlo:0≤lowN (B.take 8)∧lowN (B.take 8)<18446744073709551616:=hlo
 generalize lowN (B.take 8)=lo at *
 refine hK.out _ _ trivial (fun _=>?_)
 clear hK K
 simp only [nrm]
 refine any_one (i:=4) (by kernel_rfl) rfl (fun K hK=>?_)
 refine step_callw (by kernel_rfl) 78 #[.slice (some ⟨p,q+8,none⟩) 8 (cap - 8)] (by kernel_rfl) ((get64_ok p (q+8) 8 (cap - 8) (B.drop 8) _ (by rw [List.length_drop,hl]) (by omega) (by omega) (by omega) (hb.drop 8) (((unhide hat2).gr hB.gr).drop 8)).mono ?_)
 rintro r u3 ⟨rfl,rfl⟩
 refine ⟨_,rfl,?_⟩
 have hhi:=lowN_bd (B.drop 8) (hb.drop 8)
 have e8:(B.drop 8).length=8:=by rw [List.length_drop,hl]
 rw [e8] at hhi
 rw [show List.take 8 (B.drop 8)=B.drop 8 from List.take_of_length_le (by omega)]
 replace hhi:0≤lowN (B.drop 8)∧lowN (B.drop 8)<18446744073709551616:=hhi
 clear e8
 generalize lowN (B.drop 8)=hi at *
 refine hK.out _ _ trivial (fun _=>?_)
 clear hK K
 simp only [nrm]
 refine any_one (i:=5) (by kernel_rfl) rfl (fun K hK=>?_)
 replace hK:=hide hK
 go_simp
 refine (unhide hK).out _ _ trivial (fun _=>?_)
 clear hK K
 refine any_one (i:=6) (by kernel_rfl) rfl (fun K hK=>?_)
 replace hK:=hide hK
 go_simp
 refine (unhide hK).out _ _ trivial (fun _=>?_)
 clear hK K
 refine any_done (by kernel_rfl) ?_
 obtain ⟨t1,t2,t3,t4,t5⟩:=num_parts lo hi hlo hhi
 have hval:=num_val lo hi hlo hhi
 replace hB:=hide hB
 replace hlo:=hide hlo; replace hhi:=hide hhi; replace hval:=hide hval
 replace t1:=hide t1; replace t2:=hide t2; replace t3:=hide t3; replace t4:=hide t4; replace t5:=hide t5
 go_upto_region 2 with fail
 replace hB:=unhide hB
 refine wp_region_lit ?_
 refine list_val (.int .u64 lo) (by kernel_rfl) (by kernel_rfl) ?_
 simp only [nrm]
 refine list_val (.int .u64 (bits .and .u64 lo 67108863)) (by kernel_rfl) (by kernel_rfl) ?_
 simp only [nrm]
 refine list_val (.int .u64 lo) (by kernel_rfl) (by kernel_rfl) ?_
 simp only [nrm]
 refine list_val (.int .u64 (lo / 2 ^ 26)) (by kernel_rfl) (by have h1:=(unhide hlo).1; have h2:=(unhide hhi).1; go_simp) ?_
 simp only [nrm]
 refine list_val (.int .u64 (bits .and .u64 (lo / 2 ^ 26) 67108863)) (by kernel_rfl) (by kernel_rfl) ?_
 simp only [nrm]
 refine list_val (.int .u64 lo) (by kernel_rfl) (by kernel_rfl) ?_
 simp only [nrm]
 refine list_val (.int .u64 (lo / 2 ^ 52)) (by kernel_rfl) (by have h1:=(unhide hlo).1; have h2:=(unhide hhi).1; go_simp) ?_
 simp only [nrm]
 refine list_val (.int .u64 hi) (by kernel_rfl) (by kernel_rfl) ?_
 simp only [nrm]
 refine list_val (.int .u64 (IntKind.u64.wrap (hi * 2 ^ 12))) (by kernel_rfl) (by go_simp) ?_
 simp only [nrm]
 refine list_val (.int .u64 (bits .or .u64 (lo / 2 ^ 52) (IntKind.u64.wrap (hi * 2 ^ 12)))) (by kernel_rfl) (by kernel_rfl) ?_
 simp only [nrm]
 refine list_val (.int .u64 (bits .and .u64 (bits .or .u64 (lo / 2 ^ 52) (IntKind.u64.wrap (hi * 2 ^ 12))) 67108863)) (by kernel_rfl) (by kernel_rfl) ?_
 simp only [nrm]
 refine list_val (.int .u64 hi) (by kernel_rfl) (by kernel_rfl) ?_
 simp only [nrm]
 refine list_val (.int .u64 (hi / 2 ^ 14)) (by kernel_rfl) (by have h1:=(unhide hlo).1; have h2:=(unhide hhi).1; go_simp) ?_
 simp only [nrm]
 refine list_val (.int .u64 (bits .and .u64 (hi / 2 ^ 14) 67108863)) (by kernel_rfl) (by kernel_rfl) ?_
 simp only [nrm]
 refine list_val (.int .u64 hi) (by kernel_rfl) (by kernel_rfl) ?_
 simp only [nrm]
 refine list_val (.int .u64 (hi / 2 ^ 40)) (by kernel_rfl) (by have h1:=(unhide hlo).1; have h2:=(unhide hhi).1; go_simp) ?_
 simp only [nrm]
 refine list_val (.agg (fc (bits .and .u64 lo 67108863) (bits .and .u64 (lo / 2 ^ 26) 67108863) (bits .and .u64 (bits .or .u64 (lo / 2 ^ 52) (IntKind.u64.wrap (hi * 2 ^ 12))) 67108863) (bits .and .u64 (hi / 2 ^ 14) 67108863) (hi / 2 ^ 40))) (by kernel_rfl) (by kernel_rfl) ?_
 simp only [nrm]
 rw [unhide t1,unhide t2,unhide t3,unhide t4,unhide t5]
 have d0:Dg (lo % 67108864):=by unfold Dg; omega
 have d1:Dg (lo / 67108864 % 67108864):=by unfold Dg; omega
 have d2:Dg (lo / 4503599627370496+hi % 16384 * 4096):=by have:=unhide hlo; unfold Dg; omega
 have d3:Dg (hi / 16384 % 67108864):=by unfold Dg; omega
 have d4:0≤hi / 1099511627776∧hi / 1099511627776<16777216:=by have:=unhide hhi; omega
 clear t1 t2 t3 t4 t5
 generalize lo % 67108864=y0 at *
 generalize lo / 67108864 % 67108864=y1 at *
 generalize lo / 4503599627370496+hi % 16384 * 4096=y2 at *
 generalize hi / 16384 % 67108864=y3 at *
 generalize hi / 1099511627776=y4 at *
 refine list_store 160 (.tmp 2) (.tmp 26) (w.heap.size) (fc y0 y1 y2 y3 y4) 160 (fc 0 0 0 0 0) (by kernel_rfl) rfl (by kernel_rfl) (by kernel_rfl) (hB.get 0 (x:=⟨w.heap.size,fc 0 0 0 0 0,160⟩) rfl) Tryz.infoPL rfl (fc_one _ _ _ _ _) ?_
 replace hB:=hB.set 0 (x:=⟨w.heap.size,fc 0 0 0 0 0,160⟩) rfl (fc y0 y1 y2 y3 y4)
 simp only [List.set_cons_zero,List.set_cons_succ] at hB
 generalize World.setRow _ _ _=u4 at *
 simp only [nrm]
 refine wpList_nil ?_
 replace hB:=hide hB
 go_wp2_with fail
 replace hB:=unhide hB
 rw [unhide hT]
 exact bodyPost_ret (v:=.agg (fc y0 y1 y2 y3 y4)) (results_cell_row Tryz.results112 _ _ (w.heap.size) 160 (fc y0 y1 y2 y3 y4) (0,0) _ rfl (hB.get 0 (x:=⟨w.heap.size,fc y0 y1 y2 y3 y4,160⟩) rfl) Tryz.underlying160 rfl Tryz.infoPL) rfl (⟨_,_,_,_,_,rfl,d0,d1,d2,d3,d4,(unhide hval).trans (unhide hlv),hB.gr⟩)
end Go.Proofs.YthahhglbeafkmaaGreatDoor
namespace Go.Proofs.YthahhglbeafkmaaGreatDoor
open Go.RowKit
set_option maxRecDepth 100000
set_option linter.unusedSimpArgs false
set_option linter.unusedVariables false
def lowL (x:Int):Nat→List Int
 | 0=>[]
 | k+1=>x % 256::lowL (x / 256) k
theorem lowL_len (x:Int) (k:Nat):(lowL x k).length=k:=by
 induction k generalizing x with
 | zero=>rfl
 | succ k ih=>simp [lowL,ih]
theorem lowL_isB (x:Int) (k:Nat):IsB (lowL x k):=by
 induction k generalizing x with
 | zero=>intro y hy; cases hy
 | succ k ih =>
  intro y hy
  simp only [lowL,List.mem_cons] at hy
  rcases hy with rfl | hy
  ·omega
  ·exact ih _ y hy
theorem div_pow (x:Int) (k:Nat):x / 256 / 256 ^ k=x / 256 ^ (k+1):=by
 rw [Int.pow_succ,Int.mul_comm,Int.ediv_ediv_of_nonneg (by omega)]
theorem lowL_snoc (x:Int) (k:Nat):lowL x (k+1)=lowL x k++[x / 256 ^ k % 256]:=by
 induction k generalizing x with
 | zero=>simp [lowL]
 | succ k ih=>rw [lowL,ih,lowL,List.cons_append,div_pow]
def filled (l:List Int) (x:Int) (size k:Nat):List Int:=l++(lowL x k++List.replicate (size - k) 0)
theorem filled_len (l:List Int) (x:Int) (size k:Nat) (h:k≤size):(filled l x size k).length=l.length+size:=by simp [filled,lowL_len]; omega
theorem filled_step (l:List Int) (x:Int) (size k:Nat) (h:k<size):(filled l x size k).set (l.length+k) (x / 256 ^ k % 256)=filled l x size (k+1):=by
 unfold filled
 rw [List.set_append_right _ _ (by omega),Nat.add_sub_cancel_left,List.set_append_right _ _ (by rw [lowL_len]; exact Nat.le_refl _),lowL_len,Nat.sub_self,lowL_snoc]
 obtain ⟨j,hj⟩:∃ j,size - k=j+1:=⟨size - k - 1,by omega⟩
 rw [hj,show size - (k+1)=j by omega]
 simp [List.replicate_succ]
def lay (C:List Int) (o:Nat) (S:List Int):List Int:=C.take o++(S++C.drop (o+S.length))
theorem lay_len (C:List Int) (o:Nat) (S:List Int) (h:o+S.length≤C.length):(lay C o S).length=C.length:=by
 unfold lay
 simp only [List.length_append,List.length_take,List.length_drop]
 omega
theorem lay_isB {C:List Int} {o:Nat} {S:List Int} (hC:IsB C) (hS:IsB S):IsB (lay C o S):=fun x hx=>by
 unfold lay at hx
 rcases List.mem_append.1 hx with h | h
 ·exact hC.take _ x h
 ·rcases List.mem_append.1 h with h | h
  ·exact hS x h
  ·exact hC.drop _ x h
theorem sp_lay (C S:List Int) (o:Nat) (h:o+S.length≤C.length):sp (C.map (Value.int .u8)) o (S.map (Value.int .u8))=(lay C o S).map (Value.int .u8):=by
 have e:C=C.take o++((C.drop o).take S.length++C.drop (o+S.length)):=by rw [← List.drop_drop,List.take_append_drop,List.take_append_drop]
 have h1:=sp_mid (S.map (Value.int .u8)) ((C.take o).map (Value.int .u8)) (((C.drop o).take S.length).map (Value.int .u8)) ((C.drop (o+S.length)).map (Value.int .u8)) (by simp; omega)
 rw [List.length_map,List.length_take,Nat.min_eq_left (by omega),← List.map_append,← List.map_append,← e] at h1
 rw [h1]
 simp [lay]
theorem laid {w:World} {g o:Nat} {C S:List Int} {t:TypeId} (h:w.heap[g]?=some (.cells (kc C) t (0,0))) (ho:o+S.length≤C.length):(w.setCells g o (S.map (Value.int .u8))).heap[g]?=some (.cells (kc (lay C o S)) t (0,0)):=by
 rw [setCells_heap _ w g o (C.map (Value.int .u8)) t h,sp_lay C S o ho]
 rfl
theorem Lb.nil0 (w:World):Lb w none 0 0 []:=⟨rfl,(by intro x hx; cases hx),.inl rfl,by omega,by omega⟩
def Mkd (L:List Int) (w:World) (r:Ending) (w':World):Prop:=∃ g,r=.returned (.slice (some ⟨g,0,none⟩) L.length L.length)∧w.heap.size≤g∧w'.heap[g]?=some (.cells (kc L) 5 (0,0))∧Gr w w'
set_option maxHeartbeats 4000000 in
theorem pput_ok (B:List Int) (s:Option Addr) (n cap:Nat) (x:Int) (hx:0≤x) (hn:n≤1000) (w:World) (lb:Lb w s n cap B):Calls Tryz.prog 68 #[.slice s n cap,.int .u64 x,.int .i64 8] w (Mkd (B++lowL x 8) w):=by
 obtain ⟨T,hT⟩:∃ T,T=Mkd (B++lowL x 8) w:=⟨_,rfl⟩
 rw [← hT]
 replace hT:=hide hT
 obtain ⟨m,hm⟩:∃ m,m=n+8:=⟨_,rfl⟩
 have i1:(n:Int)+8=(m:Int):=by omega
 have i2:IntKind.i64.wrap (m:Int)=(m:Int):=by rw [IntKind.wrap_i64]; omega
 replace lb:=hide lb
 replace hm:=hide hm
 go_enter Tryz.func68,Tryz.ntmps68
 go_upto_region 1 with fail
 have hmb:m≤1008:=by have:=unhide hm; omega
 refine wp_region_lit ?_
 refine list_val (.slice s n cap) (by kernel_rfl) (by kernel_rfl) ?_
 simp only [nrm]
 refine list_val (.int .i64 n) (by kernel_rfl) (by kernel_rfl) ?_
 simp only [nrm]
 refine list_val (.int .i64 8) (by kernel_rfl) (by kernel_rfl) ?_
 simp only [nrm]
 refine list_val (.int .i64 m) (by kernel_rfl) (by go_simp) ?_
 simp only [nrm]
 refine wpList_make_room _ rfl (.tmp 12) (.tmp 12) rfl (m:Int) (m:Int) m m (by kernel_rfl) (by kernel_rfl) rfl rfl (Nat.le_refl _) (by omega) ?_
 simp only [nrm]
 have hB:=(Bl.nil w).new (kc (List.replicate m 0)) 5
 simp only [List.nil_append] at hB
 generalize World.alloc _ _=u at *
 replace hB:=hide hB
 (refine wpList_step fun K hK=>?_; replace hK:=hide hK; go_simp; refine unhide hK _ _ ?_; clear hK K)
 refine wpList_nil ?_
 go_upto_region 2 with fail
 replace hB:=unhide hB
 have hnm:n≤m:=by have:=unhide hm; omega
 have lb2:Hid (Lb u s n cap B):=(unhide lb).gr hB.gr
 refine wp_region_lit ?_
 refine list_val (.slice (some ⟨w.heap.size,0,none⟩) m m) (by kernel_rfl) (by kernel_rfl) ?_
 simp only [nrm]
 refine list_val (.slice s n cap) (by kernel_rfl) (by kernel_rfl) ?_
 simp only [nrm]
 refine wpList_plain rfl fun K hK=>?_
 refine copy_wp (.tmp 14) (.tmp 15) rfl w.heap.size 0 m m s n cap (by kernel_rfl) (by kernel_rfl) ((List.replicate m 0).map (Value.int .u8)) 5 (hB.get 0 (x:=⟨w.heap.size,kc (List.replicate m 0),5⟩) rfl) B (by rw [(unhide lb).len]; exact (Nat.min_eq_left (by omega)).symm) (unhide lb2).sl (by rw [(unhide lb).len,List.length_map,List.length_replicate]; omega) ?_
 have hcell:=laid (S:=B) (o:=0) (hB.get 0 (x:=⟨w.heap.size,kc (List.replicate m 0),5⟩) rfl) (by rw [(unhide lb).len,List.length_replicate]; omega)
 have hB2:=hB.but (setCells_bt (B.map (Value.int .u8)) u w.heap.size 0) 0 (x:=⟨w.heap.size,kc (List.replicate m 0),5⟩) rfl rfl hcell
 simp only [List.set_cons_zero] at hB2
 refine hK _ _ ?_
 clear hK K hcell hB
 simp only [nrm]
 generalize World.setCells _ _ _ _=u1 at *
 rw [(unhide lb).len]
 (refine wpList_step fun K hK=>?_; replace hK:=hide hK; go_simp; refine unhide hK _ _ ?_; clear hK K)
 refine wpList_nil ?_
 have hL:lay (List.replicate m 0) 0 B=filled B x 8 0:=by
  unfold lay filled
  rw [List.take_zero,List.nil_append,Nat.zero_add,List.drop_replicate,(unhide lb).len,show m - n=8 from by have:=unhide hm; omega]
  rfl
 rw [hL] at hB2
 replace hB2:=hide hB2
 clear hL lb2
 go_wp2_with fail
 go_loopw [1,8] (fun y i wr=>∃ k:Nat,k≤8∧y=.int .u64 (x / 256 ^ k)∧i=.int .i64 (n+k:Nat)∧Hid (Bl w [⟨w.heap.size,kc (filled B x 8 k),5⟩] wr)) (fun _ i _=>m - (intOf i).toNat)
 case atStart=>exact ⟨0,Nat.zero_le _,by simp,rfl,hB2⟩
 case round =>
 clear hB2
 obtain ⟨k,hk,rfl,rfl,hB⟩:=hrel
 have hBn:B.length=n:=(unhide lb).len
 have hlen:=filled_len B x 8 k hk
 rw [hBn] at hlen
 by_cases hlt:k<8
 ·obtain ⟨q,hq⟩:∃ q,q=n+k:=⟨_,rfl⟩
  rw [← hq]
  have hqm:q<m:=by have:=unhide hm; omega
  have qI:(q:Int)<(m:Int):=by omega
  have c1:=kc_cell ((unhide hB).get 0 (x:=⟨w.heap.size,kc (filled B x 8 k),5⟩) rfl) q (by omega)
  generalize (filled B x 8 k).getD q 0=z at c1
  have f1:=froz_of (i:=q) ((unhide hB).get 0 (x:=⟨w.heap.size,kc (filled B x 8 k),5⟩) rfl)
  have hy0:0≤x / 256 ^ k:=Int.ediv_nonneg hx (Int.pow_nonneg (by omega))
  have hst:=filled_step B x 8 k hlt
  have hdv:x / 256 ^ k / 256=x / 256 ^ (k+1):=by rw [Int.pow_succ,Int.ediv_ediv_of_nonneg (Int.pow_nonneg (by omega))]
  rw [hBn,← hq] at hst
  generalize x / 256 ^ k=y at *
  have hB1:=(unhide hB).cell 0 (x:=⟨w.heap.size,kc (filled B x 8 k),5⟩) rfl q (.int .u8 (y % 256))
  simp only [List.set_cons_zero,List.set_cons_succ,kc_set,hst] at hB1
  replace hB1:=hide hB1
  replace hdv:=hide hdv
  replace hq:=hide hq
  replace hy0:=hide hy0
  have i3:IntKind.i64.wrap ((q:Int)+1)=(q:Int)+1:=by rw [IntKind.wrap_i64]; omega
  have i4:IntKind.u8.wrap y=y % 256:=by rw [IntKind.wrap_u8]
  replace hy0:=unhide hy0
  clear hst hlen hB hBn
  go_wp2_with fail
  go_roundw
  case rel=>exact ⟨k+1,by omega,by rw [unhide hdv],by have:=unhide hq; go_num,hB1⟩
  case measure=>have:=unhide hq; simp [intOf]; omega
 ·have hqm:¬ n+k<m:=by have:=unhide hm; omega
  have qI:¬ ((n+k:Nat):Int)<(m:Int):=by omega
  have hk8:k=8:=by omega
  have hF:Hid (Mkd (B++lowL x 8) w (.returned (.slice (some ⟨w.heap.size,0,none⟩) m m)) wr):=by
   refine ⟨w.heap.size,?_,(unhide hB).own 0 (x:=⟨w.heap.size,kc (filled B x 8 k),5⟩) rfl,?_,(unhide hB).gr⟩
   ·rw [List.length_append,lowL_len,hBn,← unhide hm]
   ·have h:=(unhide hB).get 0 (x:=⟨w.heap.size,kc (filled B x 8 k),5⟩) rfl
    rw [hk8] at h
    have e:filled B x 8 8=B++lowL x 8:=by simp [filled]
    rw [e] at h
    exact h
  clear hlen hB hBn
  generalize n+k=q at *
  go_wp2_with fail
  rw [unhide hT]
  exact unhide hF
set_option maxHeartbeats 400000 in
theorem put64_ok (B:List Int) (s:Option Addr) (n cap:Nat) (x:Int) (hx:0≤x) (hn:n≤1000) (w:World) (lb:Lb w s n cap B):Calls Tryz.prog 69 #[.slice s n cap,.int .u64 x] w (Mkd (B++lowL x 8) w):=by
 have hp:=hide (pput_ok B s n cap x hx hn w lb)
 obtain ⟨T,hT⟩:∃ T,T=Mkd (B++lowL x 8) w:=⟨_,rfl⟩
 rw [← hT]
 rw [← hT] at hp
 replace hT:=hide hT
 go_enter Tryz.func69,Tryz.ntmps69
 go_upto_region 1 with fail
 refine wp_region_lit ?_
 refine list_val (.slice s n cap) (by kernel_rfl) (by kernel_rfl) ?_
 simp only [nrm]
 refine list_val (.int .u64 x) (by kernel_rfl) (by kernel_rfl) ?_
 simp only [nrm]
 refine list_call 68 #[.slice s n cap,.int .u64 x,.int .i64 8] (by kernel_rfl) (by kernel_rfl) ((unhide hp).mono ?_)
 rw [unhide hT]
 rintro r u ⟨g,rfl,hg1,hg2,hg3⟩
 have hF:Hid (Mkd (B++lowL x 8) w (.returned (.slice (some ⟨g,0,none⟩) (B++lowL x 8).length (B++lowL x 8).length)) u):=⟨g,rfl,hg1,hg2,hg3⟩
 refine ⟨_,rfl,?_⟩
 simp only [nrm]
 clear hg1 hg2 hg3
 generalize (B++lowL x 8).length=m at *
 generalize B++lowL x 8=L at *
 (refine wpList_step fun K hK=>?_; replace hK:=hide hK; go_simp; refine unhide hK _ _ ?_; clear hK K)
 refine wpList_nil ?_
 go_wp2_with fail
 rw [unhide hT]
 exact unhide hF
theorem tag_low (a b c:Int) (ha:Dg a) (hb:Dg b) (hc:Dg c):bits .or .u64 (bits .or .u64 a (IntKind.u64.wrap (b * 2 ^ 26))) (IntKind.u64.wrap (c * 2 ^ 52))=a+b * 67108864+c % 4096 * 4503599627370496:=by
 unfold Dg at *
 rw [show (2:Int) ^ 26=67108864 from by decide,show (2:Int) ^ 52=4503599627370496 from by decide,IntKind.wrap_u64,IntKind.wrap_u64]
 have e1:=or_add a (b * 67108864 % 18446744073709551616) 26 (by rw [show ((2 ^ 26:Nat):Int)=67108864 from rfl]; omega) (by omega) (by omega) (by omega) (by rw [show ((2 ^ 26:Nat):Int)=67108864 from rfl]; omega)
 rw [e1]
 have e2:=or_add (a+b * 67108864 % 18446744073709551616) (c * 4503599627370496 % 18446744073709551616) 52 (by rw [show ((2 ^ 52:Nat):Int)=4503599627370496 from rfl]; omega) (by omega) (by omega) (by omega) (by rw [show ((2 ^ 52:Nat):Int)=4503599627370496 from rfl]; omega)
 rw [e2]
 omega
theorem tag_high (c d e:Int) (hc:Dg c) (hd:Dg d) (he:Dg e):bits .or .u64 (bits .or .u64 (c / 2 ^ 12) (IntKind.u64.wrap (d * 2 ^ 14))) (IntKind.u64.wrap (e * 2 ^ 40))=c / 4096+d * 16384+e % 16777216 * 1099511627776:=by
 unfold Dg at *
 rw [show (2:Int) ^ 12=4096 from by decide,show (2:Int) ^ 14=16384 from by decide,show (2:Int) ^ 40=1099511627776 from by decide,IntKind.wrap_u64,IntKind.wrap_u64]
 have e1:=or_add (c / 4096) (d * 16384 % 18446744073709551616) 14 (by rw [show ((2 ^ 14:Nat):Int)=16384 from rfl]; omega) (by omega) (by omega) (by omega) (by rw [show ((2 ^ 14:Nat):Int)=16384 from rfl]; omega)
 rw [e1]
 have e2:=or_add (c / 4096+d * 16384 % 18446744073709551616) (e * 1099511627776 % 18446744073709551616) 40 (by rw [show ((2 ^ 40:Nat):Int)=1099511627776 from rfl]; omega) (by omega) (by omega) (by omega) (by rw [show ((2 ^ 40:Nat):Int)=1099511627776 from rfl]; omega)
 rw [e2]
 omega
theorem tag_bytes (n:Nat) (lo hi:Int) (k:Int) (h0:0≤lo∧lo<18446744073709551616) (h:(n:Int)=lo+18446744073709551616 * hi+340282366920938463463374607431768211456 * k):tgL n=lowL lo 8++lowL hi 8:=by
 have e:∀ j:Nat,tgf n j=(n:Int) / 256 ^ j % 256:=by
  intro j
  unfold tgf
  rw [Int.natCast_emod,Int.natCast_ediv,Int.natCast_pow]
  rfl
 have l1:lowL lo 8=[lo % 256,lo / 256 % 256,lo / 256 / 256 % 256,lo / 256 / 256 / 256 % 256,lo / 256 / 256 / 256 / 256 % 256,lo / 256 / 256 / 256 / 256 / 256 % 256,lo / 256 / 256 / 256 / 256 / 256 / 256 % 256,lo / 256 / 256 / 256 / 256 / 256 / 256 / 256 % 256]:=rfl
 have l2:lowL hi 8=[hi % 256,hi / 256 % 256,hi / 256 / 256 % 256,hi / 256 / 256 / 256 % 256,hi / 256 / 256 / 256 / 256 % 256,hi / 256 / 256 / 256 / 256 / 256 % 256,hi / 256 / 256 / 256 / 256 / 256 / 256 % 256,hi / 256 / 256 / 256 / 256 / 256 / 256 / 256 % 256]:=rfl
 have l3:tgL n=[tgf n 0,tgf n 1,tgf n 2,tgf n 3,tgf n 4,tgf n 5,tgf n 6,tgf n 7,tgf n 8,tgf n 9,tgf n 10,tgf n 11,tgf n 12,tgf n 13,tgf n 14,tgf n 15]:=rfl
 rw [l1,l2,l3]
 simp only [e,List.cons_append,List.nil_append,List.cons.injEq,and_true]
 generalize (n:Int)=N at *
 refine ⟨?_,?_,?_,?_,?_,?_,?_,?_,?_,?_,?_,?_,?_,?_,?_,?_⟩ <;> omega
set_option maxHeartbeats 4000000 in
theorem tag_ok (n:Nat) (a b c d e:Int) (ha:Sm a) (hb:Sm b) (hc:Sm c) (hd:Sm d) (he:Sm e) (hn:v5 a b c d e=(n:Int)) (w:World):Calls Tryz.prog 118 #[.agg (fc a b c d e)] w (Tg (tgL n) w):=by
 obtain ⟨T,hT⟩:∃ T,T=Tg (tgL n) w:=⟨_,rfl⟩
 rw [← hT]
 replace hT:=hide hT
 obtain ⟨SK,hSK⟩:∃ S,S=fc a b c d e:=⟨_,rfl⟩
 rw [← hSK]
 replace hSK:=hide hSK
 replace ha:=hide ha; replace hb:=hide hb; replace hc:=hide hc; replace hd:=hide hd; replace he:=hide he
 replace hn:=hide hn
 go_enter Tryz.func118,Tryz.ntmps118
 go_upto_region 1 with fail
 have hB:=((Bl.nil w).new SK 160).new #[.int .u8 0,.int .u8 0,.int .u8 0,.int .u8 0,.int .u8 0,.int .u8 0,.int .u8 0,.int .u8 0,.int .u8 0,.int .u8 0,.int .u8 0,.int .u8 0,.int .u8 0,.int .u8 0,.int .u8 0,.int .u8 0] 94
 simp only [size_alloc,List.nil_append,List.cons_append] at hB
 generalize World.alloc _ _=u at *
 rw [unhide hSK] at hB
 replace hB:Bl w [⟨w.heap.size,fc a b c d e,160⟩,⟨w.heap.size+1,kc ZT,94⟩] u:=hB
 refine wp_region_lit ?_
 refine list_val (.agg (fc a b c d e)) (by kernel_rfl) (exec_arr _ 160 (.tmp 1) rfl (w.heap.size) (by kernel_rfl) (fc a b c d e) 160 _ (hB.get 0 (x:=⟨w.heap.size,fc a b c d e,160⟩) rfl) Tryz.underlying160 rfl Tryz.infoPL) ?_
 simp only [nrm]
 refine list_call 129 #[.agg (fc a b c d e),.int .u64 0] (by kernel_rfl) (by kernel_rfl) ((passed_ok a b c d e 0 (unhide ha) (unhide hb) (unhide hc) (unhide hd) (unhide he) (by unfold Sm; omega) _).mono ?_)
 rintro r u1 ⟨y0,y1,y2,y3,y4,o1,rfl,hy0,hy1,hy2,hy3,hy4,ho1,hv1,hg⟩
 refine ⟨_,rfl,?_⟩
 replace hB:=hB.more hg
 clear hg
 simp only [nrm]
 refine list_val (.tuple #[.agg (fc y0 y1 y2 y3 y4),.int .u64 o1]) (by kernel_rfl) (by kernel_rfl) ?_
 simp only [nrm]
 refine list_val (.agg (fc y0 y1 y2 y3 y4)) (by kernel_rfl) (by kernel_rfl) ?_
 simp only [nrm]
 refine list_val (.int .u64 o1) (by kernel_rfl) (by kernel_rfl) ?_
 simp only [nrm]
 refine list_store 160 (.tmp 1) (.tmp 9) (w.heap.size) (fc y0 y1 y2 y3 y4) 160 (fc a b c d e) (by kernel_rfl) rfl (by kernel_rfl) (by kernel_rfl) (hB.get 0 (x:=⟨w.heap.size,fc a b c d e,160⟩) rfl) Tryz.infoPL rfl (fc_one _ _ _ _ _) ?_
 replace hB:=hB.set 0 (x:=⟨w.heap.size,fc a b c d e,160⟩) rfl (fc y0 y1 y2 y3 y4)
 simp only [List.set_cons_zero,List.set_cons_succ] at hB
 generalize World.setRow _ _ _=u2 at *
 simp only [nrm]
 refine wpList_nil ?_
 have tl:=hide (tag_low y0 y1 y2 hy0 hy1 hy2)
 have th:=hide (tag_high y2 y3 y4 hy2 hy3 hy4)
 have hN:Hid ((n:Int)=(y0+y1 * 67108864+y2 % 4096 * 4503599627370496)+18446744073709551616 * (y2 / 4096+y3 * 16384+y4 % 16777216 * 1099511627776)+340282366920938463463374607431768211456 * (y4 / 16777216+4 * o1)):=by
  have:=unhide hn
  rw [this] at hv1
  unfold v5 at hv1
  show (n:Int)=_
  omega
 have hl0:0≤y0+y1 * 67108864+y2 % 4096 * 4503599627370496:=by unfold Dg at hy0 hy1; omega
 have hl1:Hid (0≤y0+y1 * 67108864+y2 % 4096 * 4503599627370496∧y0+y1 * 67108864+y2 % 4096 * 4503599627370496<18446744073709551616):=by show _∧_; unfold Dg at hy0 hy1; omega
 have hh0:0≤y2 / 4096+y3 * 16384+y4 % 16777216 * 1099511627776:=by unfold Dg at hy2 hy3; omega
 have h20:0≤y2:=hy2.1
 replace hl0:=hide hl0; replace hh0:=hide hh0; replace h20:=hide h20
 clear hv1 ho1 hy0 hy1 hy2 hy3 hy4 hn ha hb hc hd he
 replace hB:=hide hB
 go_upto_region 2 with fail
 replace hB:=unhide hB
 refine wp_region_lit ?_
 refine list_val (.pointer (some ⟨w.heap.size,0,none⟩)) (by kernel_rfl) (by kernel_rfl) ?_
 simp only [nrm]
 refine list_val (.int .u64 y0) (by kernel_rfl) (exec_u64 _ (.tmp 11) rfl (w.heap.size) 0 (by kernel_rfl) y0 (cell_of (hB.get 0 (x:=⟨w.heap.size,fc y0 y1 y2 y3 y4,160⟩) rfl) rfl)) ?_
 simp only [nrm]
 refine list_val (.pointer (some ⟨w.heap.size,1,none⟩)) (by kernel_rfl) (by kernel_rfl) ?_
 simp only [nrm]
 refine list_val (.int .u64 y1) (by kernel_rfl) (exec_u64 _ (.tmp 13) rfl (w.heap.size) 1 (by kernel_rfl) y1 (cell_of (hB.get 0 (x:=⟨w.heap.size,fc y0 y1 y2 y3 y4,160⟩) rfl) rfl)) ?_
 simp only [nrm]
 refine list_val (.int .u64 (IntKind.u64.wrap (y1 * 2 ^ 26))) (by kernel_rfl) (by go_simp) ?_
 simp only [nrm]
 refine list_val (.int .u64 (bits .or .u64 y0 (IntKind.u64.wrap (y1 * 2 ^ 26)))) (by kernel_rfl) (by kernel_rfl) ?_
 simp only [nrm]
 refine list_val (.pointer (some ⟨w.heap.size,2,none⟩)) (by kernel_rfl) (by kernel_rfl) ?_
 simp only [nrm]
 refine list_val (.int .u64 y2) (by kernel_rfl) (exec_u64 _ (.tmp 17) rfl (w.heap.size) 2 (by kernel_rfl) y2 (cell_of (hB.get 0 (x:=⟨w.heap.size,fc y0 y1 y2 y3 y4,160⟩) rfl) rfl)) ?_
 simp only [nrm]
 refine list_val (.int .u64 (IntKind.u64.wrap (y2 * 2 ^ 52))) (by kernel_rfl) (by go_simp) ?_
 simp only [nrm]
 refine list_val (.int .u64 (bits .or .u64 (bits .or .u64 y0 (IntKind.u64.wrap (y1 * 2 ^ 26))) (IntKind.u64.wrap (y2 * 2 ^ 52)))) (by kernel_rfl) (by kernel_rfl) ?_
 simp only [nrm]
 rw [unhide tl]
 (refine wpList_step fun K hK=>?_; replace hK:=hide hK; go_simp; refine unhide hK _ _ ?_; clear hK K)
 refine wpList_nil ?_
 obtain ⟨lo,hlo⟩:∃ x,x=y0+y1 * 67108864+y2 % 4096 * 4503599627370496:=⟨_,rfl⟩
 rw [← hlo] at hN hl0 hl1 ⊢
 clear hlo tl
 replace hB:=hide hB
 go_upto_region 3 with fail
 replace hB:=unhide hB
 refine wp_region_lit ?_
 refine list_val (.pointer (some ⟨w.heap.size,2,none⟩)) (by kernel_rfl) (by kernel_rfl) ?_
 simp only [nrm]
 refine list_val (.int .u64 y2) (by kernel_rfl) (exec_u64 _ (.tmp 21) rfl (w.heap.size) 2 (by kernel_rfl) y2 (cell_of (hB.get 0 (x:=⟨w.heap.size,fc y0 y1 y2 y3 y4,160⟩) rfl) rfl)) ?_
 simp only [nrm]
 refine list_val (.int .u64 (y2 / 2 ^ 12)) (by kernel_rfl) (by have h1:=unhide h20; go_simp) ?_
 simp only [nrm]
 refine list_val (.pointer (some ⟨w.heap.size,3,none⟩)) (by kernel_rfl) (by kernel_rfl) ?_
 simp only [nrm]
 refine list_val (.int .u64 y3) (by kernel_rfl) (exec_u64 _ (.tmp 24) rfl (w.heap.size) 3 (by kernel_rfl) y3 (cell_of (hB.get 0 (x:=⟨w.heap.size,fc y0 y1 y2 y3 y4,160⟩) rfl) rfl)) ?_
 simp only [nrm]
 refine list_val (.int .u64 (IntKind.u64.wrap (y3 * 2 ^ 14))) (by kernel_rfl) (by go_simp) ?_
 simp only [nrm]
 refine list_val (.int .u64 (bits .or .u64 (y2 / 2 ^ 12) (IntKind.u64.wrap (y3 * 2 ^ 14)))) (by kernel_rfl) (by kernel_rfl) ?_
 simp only [nrm]
 refine list_val (.pointer (some ⟨w.heap.size,4,none⟩)) (by kernel_rfl) (by kernel_rfl) ?_
 simp only [nrm]
 refine list_val (.int .u64 y4) (by kernel_rfl) (exec_u64 _ (.tmp 28) rfl (w.heap.size) 4 (by kernel_rfl) y4 (cell_of (hB.get 0 (x:=⟨w.heap.size,fc y0 y1 y2 y3 y4,160⟩) rfl) rfl)) ?_
 simp only [nrm]
 refine list_val (.int .u64 (IntKind.u64.wrap (y4 * 2 ^ 40))) (by kernel_rfl) (by go_simp) ?_
 simp only [nrm]
 refine list_val (.int .u64 (bits .or .u64 (bits .or .u64 (y2 / 2 ^ 12) (IntKind.u64.wrap (y3 * 2 ^ 14))) (IntKind.u64.wrap (y4 * 2 ^ 40)))) (by kernel_rfl) (by kernel_rfl) ?_
 simp only [nrm]
 rw [unhide th]
 (refine wpList_step fun K hK=>?_; replace hK:=hide hK; go_simp; refine unhide hK _ _ ?_; clear hK K)
 refine wpList_nil ?_
 obtain ⟨hi,hhi⟩:∃ x,x=y2 / 4096+y3 * 16384+y4 % 16777216 * 1099511627776:=⟨_,rfl⟩
 rw [← hhi] at hN hh0 ⊢
 clear hhi th
 replace hB:=hide hB
 go_upto_region 5 with fail
 replace hB:=(unhide hB).new #[.int .u8 0,.int .u8 0,.int .u8 0,.int .u8 0,.int .u8 0,.int .u8 0,.int .u8 0,.int .u8 0,.int .u8 0,.int .u8 0,.int .u8 0,.int .u8 0,.int .u8 0,.int .u8 0,.int .u8 0,.int .u8 0] 94
 simp only [List.nil_append,List.cons_append] at hB
 generalize hz5:u2.heap.size=h5 at hB ⊢
 generalize World.alloc _ _=u3 at *
 clear hz5
 replace hB:Bl w [⟨w.heap.size,fc y0 y1 y2 y3 y4,160⟩,⟨w.heap.size+1,kc ZT,94⟩,⟨h5,kc ZT,94⟩] u3:=hB
 refine any_start (S:=fun _=>True) (by kernel_rfl) ?_
 replace hB:=hB.drew
 generalize World.drew _=u4 at *
 simp only [List.size_toArray,List.length_cons,List.length_nil,Array.replicate,List.replicate]
 refine any_take (i:=0) (v:=(.slice (some ⟨h5,0,none⟩) 16 16)) #[false,false,false,false,false,false] rfl (by kernel_rfl) (by kernel_rfl) (by kernel_rfl) (by kernel_rfl) (fun _ _ _ h=>h) (.inl ⟨by kernel_rfl,fun x_ hu=>by kernel_rfl⟩) trivial ?_
 simp only [nrm]
 refine any_take (i:=1) (v:=(.int .u64 lo)) #[true,false,false,false,false,false] rfl (by kernel_rfl) (by kernel_rfl) (by kernel_rfl) (by kernel_rfl) (fun _ _ _ h=>h) (.inl ⟨by kernel_rfl,fun x_ hu=>by kernel_rfl⟩) trivial ?_
 simp only [nrm]
 refine any_take (i:=3) (v:=(.int .u64 hi)) #[true,true,false,false,false,false] rfl (by kernel_rfl) (by kernel_rfl) (by kernel_rfl) (by kernel_rfl) (fun _ _ _ h=>h) (.inl ⟨by kernel_rfl,fun x_ hu=>by kernel_rfl⟩) trivial ?_
 simp only [nrm]
 refine any_one (i:=2) (by kernel_rfl) rfl (fun K hK=>?_)
 refine step_callw (by kernel_rfl) 69 #[.slice none 0 0,.int .u64 lo] (by kernel_rfl) ((put64_ok [] none 0 0 lo (unhide hl0) (by omega) _ (Lb.nil0 _)).mono ?_)
 rintro r u5 ⟨g6,rfl,hg1,hg2,hg3⟩
 refine ⟨_,rfl,?_⟩
 replace hB:=hB.more hg3
 rw [List.nil_append] at hg2 ⊢
 rw [lowL_len] at ⊢
 clear hg3 hg1
 refine hK.out _ _ trivial (fun _=>?_)
 clear hK K
 simp only [nrm]
 refine any_one (i:=4) (by kernel_rfl) rfl (fun K hK=>?_)
 refine step_callw (by kernel_rfl) 69 #[.slice (some ⟨g6,0,none⟩) 8 8,.int .u64 hi] (by kernel_rfl) ((put64_ok (lowL lo 8) (some ⟨g6,0,none⟩) 8 8 hi (unhide hh0) (by omega) _ (kc_lb hg2 (lowL_len _ _) (lowL_isB _ _) (by omega))).mono ?_)
 rintro r u6 ⟨g7,rfl,hk1,hk2,hk3⟩
 refine ⟨_,rfl,?_⟩
 replace hB:=hB.more hk3
 have hXl:(lowL lo 8++lowL hi 8).length=16:=by rw [List.length_append,lowL_len,lowL_len]
 rw [hXl] at ⊢
 have hX:Hid (tgL n=lowL lo 8++lowL hi 8):=tag_bytes n lo hi _ (unhide hl1) (unhide hN)
 have hXB:IsB (lowL lo 8++lowL hi 8):=fun x hx=>(List.mem_append.1 hx).elim (lowL_isB _ _ x) (lowL_isB _ _ x)
 generalize lowL lo 8++lowL hi 8=X at *
 clear hk3 hk1 hg2
 refine hK.out _ _ trivial (fun _=>?_)
 clear hK K
 simp only [nrm]
 refine any_one (i:=5) (by kernel_rfl) rfl (fun K hK=>?_)
 rw [if_pos (by kernel_rfl)]
 refine copy_wp (.tmp 32) (.tmp 36) rfl h5 0 16 16 (some ⟨g7,0,none⟩) 16 16 (by kernel_rfl) (by kernel_rfl) (ZT.map (Value.int .u8)) 94 (hB.get 2 (x:=⟨h5,kc ZT,94⟩) rfl) X (by rw [hXl]; rfl) (.inr ⟨g7,0,rfl,kc_at hk2⟩) (by rw [hXl]; decide) ?_
 have hcell:=laid (S:=X) (o:=0) (hB.get 2 (x:=⟨h5,kc ZT,94⟩) rfl) (by rw [hXl]; decide)
 have eL:lay ZT 0 X=X:=by unfold lay; rw [List.take_zero,List.nil_append,List.drop_eq_nil_of_le (by rw [hXl]; decide),List.append_nil]
 rw [eL] at hcell
 have hB2:=hB.but (setCells_bt (X.map (Value.int .u8)) u6 h5 0) 2 (x:=⟨h5,kc ZT,94⟩) rfl rfl hcell
 simp only [List.set_cons_zero,List.set_cons_succ] at hB2
 generalize World.setCells _ _ _ _=u7 at *
 clear hcell hB eL
 refine hK.out _ _ trivial (fun _=>?_)
 clear hK K
 simp only [nrm]
 refine any_done (by kernel_rfl) ?_
 replace hB2:=hide hB2
 go_upto_region 6 with fail
 have hB:=unhide hB2
 clear hB2
 refine wp_region_lit ?_
 refine list_val (.agg (kc X)) (by kernel_rfl) (exec_arr _ 94 (.tmp 5) rfl (h5) (by kernel_rfl) (kc X) 94 _ (hB.get 2 (x:=⟨h5,kc X,94⟩) rfl) Tryz.underlying94 rfl (by rw [Tryz.infoT,kc_size,hXl])) ?_
 simp only [nrm]
 refine list_store 94 (.tmp 2) (.tmp 38) (w.heap.size+1) (kc X) 94 (kc ZT) (by kernel_rfl) rfl (by kernel_rfl) (by kernel_rfl) (hB.get 1 (x:=⟨w.heap.size+1,kc ZT,94⟩) rfl) (by rw [Tryz.infoT,kc_size,hXl]) ((show (kc ZT).size=16 from rfl).trans ((kc_size _).trans hXl).symm) (kc_one _) ?_
 replace hB:=hB.set 1 (x:=⟨w.heap.size+1,kc ZT,94⟩) rfl (kc X)
 simp only [List.set_cons_zero,List.set_cons_succ] at hB
 generalize World.setRow _ _ _=u8 at *
 simp only [nrm]
 refine wpList_nil ?_
 replace hB:=hide hB
 go_wp2_with fail
 replace hB:=unhide hB
 rw [unhide hT,unhide hX]
 exact bodyPost_ret (v:=.agg (kc X)) (results_cell_row Tryz.results118 _ _ (w.heap.size+1) 94 (kc X) (0,0) _ rfl (hB.get 1 (x:=⟨w.heap.size+1,kc X,94⟩) rfl) Tryz.underlying94 rfl (by rw [Tryz.infoT,kc_size,hXl])) rfl (⟨rfl,hB.gr⟩)
end Go.Proofs.YthahhglbeafkmaaGreatDoor
