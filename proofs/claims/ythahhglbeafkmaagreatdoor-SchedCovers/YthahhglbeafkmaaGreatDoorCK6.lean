/-
  What the proof leans on.
-/
import Derived.OwnWalk
import Derived.Deep.DeepAppendWide
import Derived.Deep.LoopGhost
import Derived.Test.YthahhglbeafkmaaGreatDoorCK5
namespace Go.Proofs.YthahhglbeafkmaaGreatDoor
open Go.RowKit
set_option maxRecDepth 100000
set_option linter.unusedSimpArgs false
set_option linter.unusedVariables false
theorem infoL_isB {l:List Int} {ps:List (List Int)} (hl:IsB l) (hp:∀ p ∈ ps,IsB p):IsB (infoL l ps):=by
 unfold infoL infL
 refine isB_append (tpart_isB hl) ?_
 intro x hx
 obtain ⟨q,hq,hx⟩:=List.mem_flatten.1 hx
 obtain ⟨p,hp2,rfl⟩:=List.mem_map.1 hq
 exact tpart_isB (hp p (List.mem_of_mem_take hp2)) x hx
theorem Pr.isB {w:World} {a:Option Addr} {ps:List (List Int)} (h:Pr w a ps):∀ p ∈ ps,IsB p:=by
 intro p hp
 rcases h with h | ⟨q,o,_,h2⟩
 ·rw [h] at hp; cases hp
 ·obtain ⟨j,hj⟩:=List.getElem?_of_mem hp
  have hj2:=(List.getElem?_eq_some_iff.1 hj).1
  obtain ⟨_,_,_,_,_,h3,_⟩:=h2 j hj2
  have e:ps.getD j []=p:=by rw [List.getD_eq_getElem?_getD,hj]; rfl
  rw [e] at h3
  exact h3
theorem Bl.copy {w v:World} {L:List Blk} (h:Bl w L v) (k:Nat) {g:Nat} {Z D:List Int} (hk:L[k]?=some ⟨g,kc Z,23⟩) (hZ:Z.length=32) (hD:D.length=32):Bl w (L.set k ⟨g,kc D,23⟩) (v.setCells g 0 (D.map (Value.int .u8))):=by
 have hv:=setCells_heap (D.map (Value.int .u8)) v g 0 (Z.map (Value.int .u8)) 23 (h.get k hk)
 rw [sp_kc D Z (by omega),List.drop_eq_nil_of_le (by omega),List.append_nil] at hv
 exact h.but (setCells_bt (D.map (Value.int .u8)) v g 0) k hk rfl hv
def Derd (D:List Int) (w:World) (r:Ending) (w':World):Prop:=r=.returned (.agg (kc D))∧Gr w w'
set_option maxHeartbeats 2000000 in
theorem derive_ok (Ky:List Int) (hKl:Ky.length=32) (hKb:IsB Ky) (t:ByteArray) (ht:t.size≤1000) (ps:List (List Int)) (ap:Option Addr) (m cp:Nat) (hm:ps.length=m) (hp:small4 ps) (w:World) (hF:Fst w) (hP:Pr w ap ps) :
  Calls Tryz.prog 85 #[.agg (kc Ky),.string t,.slice ap m cp] w (Derd (spL Ky (infoL (tb t) ps) 32) w):=by
 obtain ⟨T,hT⟩:∃ T,T=Derd (spL Ky (infoL (tb t) ps) 32) w:=⟨_,rfl⟩
 rw [← hT]
 obtain ⟨KK,hKK⟩:∃ KK,KK=kc Ky:=⟨_,rfl⟩
 rw [← hKK]
 have hKs:KK.size=32:=by rw [hKK,kc_size,hKl]
 have hIb:IsB (infoL (tb t) ps):=infoL_isB (tb_isB t) hP.isB
 have hIl:(infoL (tb t) ps).length≤1004+4100 * ps.length:=infL_len (tb t) ps (by rw [tb_len]; exact ht) hp ps.length (Nat.le_refl _)
 have hm100:=hp.1
 replace hT:=hide hT
 replace hF:=hide hF
 replace hP:=hide hP
 replace hp:=hide hp
 replace hm:=hide hm
 replace hKK:=hide hKK
 replace hKb:=hide hKb
 replace hIb:=hide hIb
 go_enter Tryz.func85,Tryz.ntmps85
 go_upto_region 2 with fail
 have hB:=(((Bl.nil w).new KK 23).new #[.int .u8 0,.int .u8 0,.int .u8 0,.int .u8 0,.int .u8 0,.int .u8 0,.int .u8 0,.int .u8 0,.int .u8 0,.int .u8 0,.int .u8 0,.int .u8 0,.int .u8 0,.int .u8 0,.int .u8 0,.int .u8 0,.int .u8 0,.int .u8 0,.int .u8 0,.int .u8 0,.int .u8 0,.int .u8 0,.int .u8 0,.int .u8 0,.int .u8 0,.int .u8 0,.int .u8 0,.int .u8 0,.int .u8 0,.int .u8 0,.int .u8 0,.int .u8 0] 23).new #[.int .u8 0,.int .u8 0,.int .u8 0,.int .u8 0,.int .u8 0,.int .u8 0,.int .u8 0,.int .u8 0,.int .u8 0,.int .u8 0,.int .u8 0,.int .u8 0,.int .u8 0,.int .u8 0,.int .u8 0,.int .u8 0,.int .u8 0,.int .u8 0,.int .u8 0,.int .u8 0,.int .u8 0,.int .u8 0,.int .u8 0,.int .u8 0,.int .u8 0,.int .u8 0,.int .u8 0,.int .u8 0,.int .u8 0,.int .u8 0,.int .u8 0,.int .u8 0] 23
 simp only [List.nil_append,List.cons_append,size_alloc] at hB
 generalize World.alloc _ _=u1 at *
 replace hB:Bl w [⟨w.heap.size,KK,23⟩,⟨w.heap.size+1,kc Z32,23⟩,⟨w.heap.size+1+1,kc Z32,23⟩] u1:=hB
 refine any_start (S:=fun v=>v.heap[w.heap.size]?=some (.cells KK 23 (0,0))) (by kernel_rfl) ?_
 replace hB:=hB.drew
 generalize World.drew _=u2 at *
 simp only [List.size_toArray,List.length_cons,List.length_nil,Array.replicate,List.replicate]
 refine any_take (i:=0) (v:=(.slice (some ⟨w.heap.size+1+1,0,none⟩) 32 32)) #[false,false,false,false,false,false,false] rfl (by kernel_rfl) (by kernel_rfl) (by kernel_rfl) (by kernel_rfl) (fun _ _ _ h=>h) (.inl ⟨by kernel_rfl,fun x_ hu=>by go_simp⟩) (hB.get 0 (x:=⟨w.heap.size,KK,23⟩) rfl) ?_
 simp only [nrm]
 refine any_take (i:=1) (v:=(.agg KK)) #[true,false,false,false,false,false,false] rfl (by kernel_rfl) (by kernel_rfl) (by kernel_rfl) (by kernel_rfl) (fun _ _ _ h=>h) (.inl ⟨by kernel_rfl,fun x_ hu=>exec_arr x_ 23 (.tmp 3) rfl w.heap.size (by kernel_rfl) KK 23 _ hu Tryz.underlying23 rfl (by rw [Tryz.infoKey,hKs])⟩) (hB.get 0 (x:=⟨w.heap.size,KK,23⟩) rfl) ?_
 simp only [nrm]
 refine any_take (i:=2) (v:=(.string t)) #[true,true,false,false,false,false,false] rfl (by kernel_rfl) (by kernel_rfl) (by kernel_rfl) (by kernel_rfl) (fun _ _ _ h=>h) (.inl ⟨by kernel_rfl,fun x_ hu=>by kernel_rfl⟩) (hB.get 0 (x:=⟨w.heap.size,KK,23⟩) rfl) ?_
 simp only [nrm]
 refine any_take (i:=3) (v:=(.slice ap m cp)) #[true,true,true,false,false,false,false] rfl (by kernel_rfl) (by kernel_rfl) (by kernel_rfl) (by kernel_rfl) (fun _ _ _ h=>h) (.inl ⟨by kernel_rfl,fun x_ hu=>by kernel_rfl⟩) (hB.get 0 (x:=⟨w.heap.size,KK,23⟩) rfl) ?_
 simp only [nrm]
 refine any_one (i:=4) (by kernel_rfl) rfl (fun K hK=>?_)
 refine step_callw (by kernel_rfl) 107 #[.string t,.slice ap m cp] (by kernel_rfl) ((infoOf_ok t ht ps ap m cp (unhide hm) (unhide hp) _ ((unhide hP).gr hB.gr)).mono ?_)
 rintro r y1 ⟨v1,rfl,hO,hg⟩
 refine ⟨_,rfl,?_⟩
 obtain ⟨a1,c1,rfl,l1⟩:=hO.lb (unhide hIb)
 clear hO
 obtain ⟨n1,hn1⟩:∃ n1,n1=(infoL (tb t) ps).length:=⟨_,rfl⟩
 rw [← hn1] at hIl l1
 rw [← hn1]
 replace hn1:=hide hn1
 replace hB:=hB.more hg
 clear hg
 refine hK.out _ _ (hB.get 0 (x:=⟨w.heap.size,KK,23⟩) rfl) (fun _=>?_)
 clear hK K
 simp only [nrm]
 refine any_one (i:=5) (by kernel_rfl) rfl (fun K hK=>?_)
 rw [unhide hKK]
 refine step_callw (by kernel_rfl) 106 #[.agg (kc Ky),.slice a1 n1 c1,.int .i64 32] (by kernel_rfl) ((spread_ok Ky hKl (unhide hKb) (infoL (tb t) ps) a1 n1 c1 32 (by omega) (by omega) _ ((unhide hF).gr hB.gr) l1).mono ?_)
 rintro r y2 ⟨a2,rfl,l2,hfr,hg⟩
 refine ⟨_,rfl,?_⟩
 rw [← unhide hKK]
 replace hB:=hB.more hg
 clear hg l1
 refine hK.out _ _ (hB.get 0 (x:=⟨w.heap.size,KK,23⟩) rfl) (fun _=>?_)
 clear hK K
 simp only [nrm]
 refine any_one (i:=6) (by kernel_rfl) rfl (fun K hK=>?_)
 obtain ⟨D,hD⟩:∃ D,D=spL Ky (infoL (tb t) ps) 32:=⟨_,rfl⟩
 have hDl:D.length=32:=by rw [hD]; exact spL_len _ _ _
 rw [← hD] at l2
 replace hD:=hide hD
 rw [if_pos (by kernel_rfl)]
 refine copy_wp (.tmp 8) (.tmp 13) rfl (w.heap.size+1+1) 0 32 32 a2 32 32 (by kernel_rfl) (by kernel_rfl) (Z32.map (Value.int .u8)) 23 (hB.get 2 (x:=⟨w.heap.size+1+1,kc Z32,23⟩) rfl) D (by rw [hDl]; rfl) (by rcases l2.sl with h | ⟨p,o,h1,h2⟩; exact .inl h; exact .inr ⟨p,o,h1,h2⟩) (by rw [hDl]; decide) ?_
 replace hB:=hB.copy 2 (Z:=Z32) (D:=D) rfl rfl hDl
 simp only [List.set_cons_zero,List.set_cons_succ] at hB
 refine hK.out _ _ (hB.get 0 (x:=⟨w.heap.size,KK,23⟩) rfl) (fun _=>?_)
 clear hK K l2
 generalize World.setCells _ _ _ _=y3 at *
 try simp only [nrm]
 refine any_done (by kernel_rfl) ?_
 replace hB:=hide hB
 go_upto_region 3 with fail
 replace hB:=unhide hB
 refine wp_region_lit ?_
 refine list_val (.agg (kc D)) (by kernel_rfl) (exec_arr _ 23 (.tmp 7) rfl (w.heap.size+1+1) (by kernel_rfl) (kc D) 23 _ (hB.get 2 (x:=⟨w.heap.size+1+1,kc D,23⟩) rfl) Tryz.underlying23 rfl (by rw [Tryz.infoKey,kc_size,hDl])) ?_
 simp only [nrm]
 refine list_store 23 (.tmp 6) (.tmp 15) (w.heap.size+1) (kc D) 23 (kc Z32) (by kernel_rfl) rfl (by kernel_rfl) (by kernel_rfl) (hB.get 1 (x:=⟨w.heap.size+1,kc Z32,23⟩) rfl) (by rw [Tryz.infoKey,kc_size,hDl]) ((show (kc Z32).size=32 from rfl).trans ((kc_size _).trans hDl).symm) (kc_one _) ?_
 replace hB:=hB.set 1 (x:=⟨w.heap.size+1,kc Z32,23⟩) rfl (kc D)
 simp only [List.set_cons_zero,List.set_cons_succ] at hB
 generalize World.setRow _ _ _=y4 at *
 simp only [nrm]
 refine wpList_nil ?_
 go_wp2_with fail
 rw [unhide hT]
 exact bodyPost_ret (v:=.agg (kc D)) (results_cell_row Tryz.results85 _ _ (w.heap.size+1) 23 (kc D) (0,0) _ rfl (hB.get 1 (x:=⟨w.heap.size+1,kc D,23⟩) rfl) Tryz.underlying23 rfl (by rw [Tryz.infoKey,kc_size,hDl])) rfl ⟨by rw [unhide hD],hB.gr⟩
end Go.Proofs.YthahhglbeafkmaaGreatDoor
namespace Go.Proofs.YthahhglbeafkmaaGreatDoor
open Go.RowKit
set_option maxRecDepth 100000
set_option linter.unusedSimpArgs false
set_option linter.unusedVariables false
theorem Lb.cellAt {w:World} {a:Option Addr} {n c:Nat} {B:List Int} (h:Lb w a n c B) {k:Nat} (hk:k<n):∃ p o,a=some ⟨p,o,none⟩∧w.cell? ⟨p,o+k,none⟩=some (.int .u8 (B.getD k 0)):=by
 have hl:=h.len
 rcases h.sl with h1 | ⟨p,o,h1,h2⟩
 ·rw [h1] at hl; simp at hl; omega
 ·exact ⟨p,o,h1,h2 k (by omega)⟩
theorem take_next (B:List Int) (k:Nat) (h:k<B.length):B.take (k+1)=B.take k++[B.getD k 0]:=by
 rw [List.take_add_one,List.getElem?_eq_getElem h]
 simp [h]
set_option maxHeartbeats 2000000 in
theorem both_ok (A B:List Int) (a b:Option Addr) (n c m d:Nat) (hb:n+m≤140737488355328) (w:World) (hA:Lb w a n c A) (hB:Lb w b m d B):Calls Tryz.prog 19 #[.slice a n c,.slice b m d] w (Infd (A++B) w):=by
 obtain ⟨T,hT⟩:∃ T,T=Infd (A++B) w:=⟨_,rfl⟩
 rw [← hT]
 have la:=hide hA.len
 have lb:=hide hB.len
 replace hT:=hide hT
 replace hA:=hide hA
 replace hB:=hide hB
 have w1:IntKind.i64.wrap ((n:Int)+(m:Int))=(n:Int)+(m:Int):=by rw [IntKind.wrap_i64]; omega
 have w2:(0:Int)≤(n:Int)+(m:Int):=by omega
 go_enter Tryz.func19,Tryz.ntmps19
 go_upto_region 1 with fail
 refine wp_region_lit ?_
 iterate 5 (refine wpList_step fun K hK=>?_; replace hK:=hide hK; go_simp; refine unhide hK _ _ ?_; clear hK K)
 refine wpList_make_room w rfl (.const (.int .i64 0)) (.tmp 12) rfl 0 ((n:Int)+(m:Int)) 0 (n+m) (by kernel_rfl) (by kernel_rfl) (by omega) (by omega) (by omega) (by omega) ?_
 have hO:Ob w.heap.size (w.alloc (.cells (kc (List.replicate (n+m) 0)) 5 (0,0))) (.slice (some ⟨w.heap.size,0,none⟩) 0 (n+m)) (A.take 0) :=
  ⟨rfl,.inr ⟨w.heap.size,n+m,_,rfl,Nat.le_refl _,blk_new _ _,by simp,by unfold maxLen; omega,by rw [kc_size]; simp,by simp⟩⟩
 have hG:=(Gr.refl w).alloc (.cells (kc (List.replicate (n+m) 0)) 5 (0,0))
 generalize World.alloc _ _=u at *
 simp only [nrm]
 replace hO:=hide hO
 replace hG:=hide hG
 iterate 1 (refine wpList_step fun K hK=>?_; replace hK:=hide hK; go_simp; refine unhide hK _ _ ?_; clear hK K)
 refine wpList_nil ?_
 go_wp2_with fail
 go_loopw [6,5] (fun i x wr=>∃ (k:Nat) (a5:Option Addr) (c5:Nat),k≤n∧i=.int .i64 k∧x=.slice a5 k c5∧Hid (Ob w.heap.size wr (.slice a5 k c5) (A.take k))∧Hid (Gr w wr)) (fun i _ _=>n - (intOf i).toNat)
 case atStart=>exact ⟨0,_,n+m,by omega,rfl,rfl,hO,hG⟩
 case round =>
 clear hO hG
 obtain ⟨k,a5,c5,hk,rfl,rfl,hO,hG⟩:=hrel
 by_cases hl:k<n
 ·have kI:(k:Int)<(n:Int):=by omega
  have kJ:0≤(k:Int)∧(k:Int)<(n:Int):=by omega
  have kw:IntKind.i64.wrap ((k:Int)+1)=(k:Int)+1:=by rw [IntKind.wrap_i64]; omega
  obtain ⟨p,o,rfl,cc⟩:=((unhide hA).gr (unhide hG)).cellAt hl
  have hnx:=hide (take_next A k (by rw [unhide la]; exact hl))
  have htl:Hid ((A.take k).length=k):=by rw [List.length_take,unhide la]; exact Nat.min_eq_left (by omega)
  generalize A.getD k 0=x at *
  go_upto_region 5 with fail
  refine wp_region_lit ?_
  iterate 6 (refine wpList_step fun K hK=>?_; replace hK:=hide hK; go_simp; refine unhide hK _ _ ?_; clear hK K)
  have hO2:=(unhide hO).gr ((Gr.refl wr).alloc (.cells #[.int .u8 x] 5))
  refine app_bs (by kernel_rfl) (.tmp 20) (.tmp 25) rfl w.heap.size (.slice a5 k c5) (A.take k) (by kernel_rfl) hO2 (some ⟨wr.heap.size,0,none⟩) 1 1 [x] (by kernel_rfl) rfl (.inr ⟨_,0,rfl,kc_at (l:=[x]) (blk_new _ _)⟩) (by rw [unhide htl]; omega) (by have:=(unhide hG).size; simp only [size_alloc]; omega) ?_
  intro v' w2 hO3 hgb
  have hG4:=hO2.grown (Nat.le_refl _) ((unhide hG).alloc _) hgb
  rw [← unhide hnx] at hO3
  obtain ⟨a6,c6,hv',_,_,_⟩:=hO3.slice
  have hl2:(A.take (k+1)).length=k+1:=by rw [List.length_take,unhide la]; omega
  rw [hl2] at hv'
  subst hv'
  clear hO hG hO2 hgb hl2 htl hnx
  replace hO3:=hide hO3
  replace hG4:=hide hG4
  simp only [nrm]
  iterate 1 (refine wpList_step fun K hK=>?_; replace hK:=hide hK; go_simp; refine unhide hK _ _ ?_; clear hK K)
  refine wpList_nil ?_
  go_wp2_with fail
  exact ⟨⟨k+1,a6,c6,by omega,by congr 1,rfl,hO3,hG4⟩,by show n - ((k:Int)+1).toNat<n - (k:Int).toNat; omega⟩
 ·have e:k=n:=by omega
  subst e
  have hO2:Hid (Ob w.heap.size wr (.slice a5 (k+0) c5) (A++B.take 0)):=by
   have h:=unhide hO
   rw [List.take_of_length_le (by rw [unhide la]; omega)] at h
   rw [List.take_zero,List.append_nil]
   exact h
  clear hO hl
  go_wp2_with fail
  go_loopw [7,5] (fun i x wr=>∃ (j:Nat) (a5:Option Addr) (c5:Nat),j≤m∧i=.int .i64 j∧x=.slice a5 (k+j) c5∧Hid (Ob w.heap.size wr (.slice a5 (k+j) c5) (A++B.take j))∧Hid (Gr w wr)) (fun i _ _=>m - (intOf i).toNat)
  case atStart=>exact ⟨0,a5,c5,by omega,rfl,rfl,hO2,hG⟩
  case round =>
  clear hO2 hG
  obtain ⟨j,a5,c5,hj,rfl,rfl,hO,hG⟩:=hrel
  by_cases hl:j<m
  ·have kI:(j:Int)<(m:Int):=by omega
   have kJ:0≤(j:Int)∧(j:Int)<(m:Int):=by omega
   have kw:IntKind.i64.wrap ((j:Int)+1)=(j:Int)+1:=by rw [IntKind.wrap_i64]; omega
   obtain ⟨p,o,rfl,cc⟩:=((unhide hB).gr (unhide hG)).cellAt hl
   have hnx:=hide (take_next B j (by rw [unhide lb]; exact hl))
   have htl:Hid ((A++B.take j).length=k+j):=by rw [List.length_append,List.length_take,unhide la,unhide lb,Nat.min_eq_left (by omega)]; exact rfl
   generalize B.getD j 0=x at *
   go_upto_region 9 with fail
   refine wp_region_lit ?_
   iterate 6 (refine wpList_step fun K hK=>?_; replace hK:=hide hK; go_simp; refine unhide hK _ _ ?_; clear hK K)
   have hO2:=(unhide hO).gr ((Gr.refl wr).alloc (.cells #[.int .u8 x] 5))
   refine app_bs (by kernel_rfl) (.tmp 33) (.tmp 38) rfl w.heap.size (.slice a5 (k+j) c5) (A++B.take j) (by kernel_rfl) hO2 (some ⟨wr.heap.size,0,none⟩) 1 1 [x] (by kernel_rfl) rfl (.inr ⟨_,0,rfl,kc_at (l:=[x]) (blk_new _ _)⟩) (by rw [unhide htl]; omega) (by have:=(unhide hG).size; simp only [size_alloc]; omega) ?_
   intro v' w2 hO3 hgb
   have hG4:=hO2.grown (Nat.le_refl _) ((unhide hG).alloc _) hgb
   rw [List.append_assoc,← unhide hnx] at hO3
   obtain ⟨a6,c6,hv',_,_,_⟩:=hO3.slice
   have hl2:(A++B.take (j+1)).length=k+(j+1):=by rw [List.length_append,List.length_take,unhide la,unhide lb]; omega
   rw [hl2] at hv'
   subst hv'
   clear hO hG hO2 hgb hl2 htl hnx
   replace hO3:=hide hO3
   replace hG4:=hide hG4
   simp only [nrm]
   iterate 1 (refine wpList_step fun K hK=>?_; replace hK:=hide hK; go_simp; refine unhide hK _ _ ?_; clear hK K)
   refine wpList_nil ?_
   go_wp2_with fail
   exact ⟨⟨j+1,a6,c6,by omega,by congr 1,rfl,hO3,hG4⟩,by show m - ((j:Int)+1).toNat<m - (j:Int).toNat; omega⟩
  ·have e:j=m:=by omega
   subst e
   have hP:Hid (Infd (A++B) w (.returned (.slice a5 (k+j) c5)) wr):=by
    have h:=unhide hO
    rw [List.take_of_length_le (by rw [unhide lb]; omega)] at h
    exact ⟨_,rfl,h,unhide hG⟩
   clear hO hG hl
   go_wp2_with fail
   rw [unhide hT]
   exact unhide hP
set_option maxHeartbeats 1000000 in
theorem same_ok (B:List Int) (a b:Option Addr) (n c d:Nat) (w:World) (ha:Lb w a n c B) (hb:Lb w b n d B) (hn:n<4611686018427387904):Calls Tryz.prog 17 #[.slice a n c,.slice b n d] w (fun r w'=>r=.returned (.bool true)∧Gr w w'):=by
 replace ha:=hide ha
 replace hb:=hide hb
 go_enter Tryz.func17,Tryz.ntmps17
 go_wp2_with fail
 go_loopw [5] (fun i wr=>∃ k:Nat,k≤n∧i=.int .i64 k∧Hid (Gr w wr)) (fun i _=>n - (intOf i).toNat)
 case atStart=>exact ⟨0,by omega,rfl,Gr.refl w⟩
 case round =>
 obtain ⟨k,hk,rfl,hG⟩:=hrel
 by_cases hl:k<n
 ·have kI:(k:Int)<(n:Int):=by omega
  have kJ:0≤(k:Int)∧(k:Int)<(n:Int):=by omega
  have kw:IntKind.i64.wrap ((k:Int)+1)=(k:Int)+1:=by rw [IntKind.wrap_i64]; omega
  obtain ⟨p,o,rfl,h1⟩:=((unhide ha).gr (unhide hG)).cellAt hl
  obtain ⟨p2,o2,rfl,h2⟩:=((unhide hb).gr (unhide hG)).cellAt hl
  generalize B.getD k 0=x at *
  go_wp2_with fail
  go_quiet (fail)
  replace hG:=hide ((unhide hG).drewN nq)
  clear h1 h2
  generalize World.drewN _ _=v at *
  go_wp2_with fail
  go_roundw
  case rel=>exact ⟨k+1,by omega,by go_num,hG⟩
  case measure=>simp [intOf]; omega
 ·have e:k=n:=by omega
  subst e
  go_wp2_with fail
  refine bodyPost_ret (v:=.bool true) ?_ rfl ⟨rfl,unhide hG⟩
  simp [results,Tryz.results17,go_sem]
end Go.Proofs.YthahhglbeafkmaaGreatDoor
namespace Go.Proofs.YthahhglbeafkmaaGreatDoor
open Go.RowKit
set_option maxRecDepth 100000
set_option linter.unusedSimpArgs false
set_option linter.unusedVariables false
theorem add_zero (p o:Nat):(⟨p,o,none⟩:Addr).add 0=⟨p,o,none⟩:=rfl
theorem add_some (p o k:Nat):(⟨p,o,none⟩:Addr).add k=⟨p,o+k,none⟩:=by
 rcases Nat.eq_zero_or_pos k with h0 | h0
 ·subst h0; rfl
 ·simp [Addr.add]; omega
theorem IsB.take {B:List Int} (h:IsB B) (n:Nat):IsB (B.take n):=fun x hx=>h x (List.mem_of_mem_take hx)
theorem IsB.drop {B:List Int} (h:IsB B) (n:Nat):IsB (B.drop n):=fun x hx=>h x (List.mem_of_mem_drop hx)
theorem Lb.upto {v:World} {s:Option Addr} {len cap:Nat} {B:List Int} (h:Lb v s len cap B) (n:Nat) (hn:n≤len):Lb v (if cap=0 then s else s.map (·.add 0)) n cap (B.take n):=by
 refine ⟨by rw [List.length_take,h.len]; omega,h.isB.take n,?_,Nat.le_trans hn h.cap,h.max⟩
 rcases h.sl with rfl | ⟨p,o,rfl,hat⟩
 ·exact .inl (by simp)
 ·refine .inr ⟨p,o,?_,fun j hj=>?_⟩
  ·split
   ·rfl
   ·rfl
  ·rw [List.length_take] at hj
   rw [hat j (by omega)]
   congr 2
   rw [List.getD_eq_getElem?_getD,List.getD_eq_getElem?_getD,List.getElem?_take,if_pos (by omega)]
theorem Lb.rest {v:World} {s:Option Addr} {len cap:Nat} {B:List Int} (h:Lb v s len cap B) (n:Nat) (hn:n≤len):Lb v (if cap=n then s else s.map (·.add n)) (len - n) (cap - n) (B.drop n):=by
 have hc:=h.cap
 have hl:=h.len
 refine ⟨by rw [List.length_drop,h.len],h.isB.drop n,?_,by omega,by have:=h.max; omega⟩
 rcases h.sl with rfl | ⟨p,o,rfl,hat⟩
 ·exact .inl (by simp)
 ·by_cases hcn:cap=n
  ·exact .inl (List.drop_eq_nil_of_le (by omega))
  ·refine .inr ⟨p,o+n,by rw [if_neg hcn,Option.map_some,add_some],fun j hj=>?_⟩
   rw [List.length_drop] at hj
   rw [Nat.add_assoc,hat (n+j) (by omega)]
   congr 2
   rw [List.getD_eq_getElem?_getD,List.getD_eq_getElem?_getD,List.getElem?_drop]
theorem kc_lb {w:World} {g:Nat} {X:List Int} {t:TypeId} {n:Nat} (h:w.heap[g]?=some (.cells (kc X) t (0,0))) (hn:X.length=n) (hX:IsB X) (hb:n<9223372036854775808):Lb w (some ⟨g,0,none⟩) n n X:=⟨hn,hX,.inr ⟨g,0,rfl,kc_at h⟩,Nat.le_refl _,hb⟩
theorem ob_of {w:World} {b g n:Nat} {X:List Int} (h:w.heap[g]?=some (.cells (kc X) 5 (0,0))) (hn:X.length=n) (hg:b≤g) (hb:n≤140737488351232):Ob b w (.slice (some ⟨g,0,none⟩) n n) X:=by
 subst hn
 exact ⟨by simp,.inr ⟨g,X.length,kc X,rfl,hg,h,Nat.le_refl _,by unfold maxLen; omega,by rw [kc_size,Nat.mul_one],by unfold kc; rw [Nat.mul_one]; exact List.take_of_length_le (by simp)⟩⟩
theorem make_op {w:World} {o:Oper} {a:Act} {K:Act→World→Prop} {Q:Exit→Act→World→Prop} (l c:Operand) (hop:o.op=Op.makeSlice 43 l c) (n m:Nat) (hl:a.eval l=.int .i64 n) (hc:a.eval c=.int .i64 m) (hnm:n≤m) (hn:m≤281474976710656)
  (h:K (a.put o.dst (.slice (some ⟨w.heap.size,0,none⟩) n m)) (w.alloc (.cells (kc (List.replicate m 0)) 5 (0,0)))):o.wp Tryz.prog a w K Q:=by
 obtain ⟨i,h2,h3,h4,h5⟩:=info_parts Tryz.info5
 have hrun:=run_make (P:=Tryz.prog) w 43 5 i (.int .u8 0) Tryz.underlying43 h2 h3 .i64 .i64 (n:Int) (m:Int) (by omega) (by omega) (by rw [h5]; omega) (by omega)
 rw [h4] at hrun
 have e:madeCells (Value.int .u8 0).cells m=kc (List.replicate m 0):=by
  apply Array.ext
  ·simp [size_madeCells,kc]
  ·intro i h1 h2
   have:i % 1=0:=Nat.mod_one i
   simp [madeCells,Value.cells,this,kc]
 simp only [Int.toNat_natCast,Nat.mul_one,e] at hrun
 unfold Oper.wp
 simp [execOp,hop,hl,hc,hrun,Result.andThen]
 exact h
theorem exec_upto {a:Act} {o:Oper} (w:World) (x y:Operand) (ho:o.op=.slice 43 x none (some y) none) (s:Option Addr) (len cap n:Nat) (hx:a.eval x=.slice s len cap) (hy:a.eval y=.int .i64 n) (hc:len≤cap) (hn:n≤len) :
  (execOp a.eval o).run Tryz.prog w=.ok (.value (.slice (if cap=0 then s else s.map (·.add 0)) n cap)) w:=by
 have h1:(0:Int)≤n:=by omega
 have h2:(n:Int)≤cap:=by omega
 have hu:Tryz.prog.underlying 43=some (.slice (Tryz.prog.elem 43)):=by kernel_rfl
 have hz:(sizeOf (Tryz.prog.elem 43)).run Tryz.prog w=.ok 1 w:=by kernel_rfl
 simp [execOp,ho,hx,hy,run_sliceAt_slice _ _ _ _ _ _ hu,run_slice_h _ _ _ _ _ hu _ _ h1 h2,hz,sliced]
theorem exec_from {a:Act} {o:Oper} (w:World) (x y:Operand) (ho:o.op=.slice 43 x (some y) none none) (s:Option Addr) (len cap n:Nat) (hx:a.eval x=.slice s len cap) (hy:a.eval y=.int .i64 n) (hc:len≤cap) (hn:n≤len) :
  (execOp a.eval o).run Tryz.prog w=.ok (.value (.slice (if cap=n then s else s.map (·.add n)) (len - n) (cap - n))) w:=by
 have h1:(0:Int)≤n:=by omega
 have h2:(n:Int)≤len:=by omega
 have hu:Tryz.prog.underlying 43=some (.slice (Tryz.prog.elem 43)):=by kernel_rfl
 have hz:(sizeOf (Tryz.prog.elem 43)).run Tryz.prog w=.ok 1 w:=by kernel_rfl
 simp [execOp,ho,hx,hy,run_sliceAt_slice _ _ _ _ _ _ hu,run_slice_l _ _ _ _ _ hu _ _ h1 h2,hz,sliced]
def V:List Nat→Nat
 | []=>0
 | x::l=>x+256 * V l
theorem V_append:∀ (a b:List Nat),V (a++b)=V a+256 ^ a.length * V b
 | [],b=>by simp [V]
 | x::a,b=>by
  rw [List.cons_append,V,V,V_append a b,List.length_cons,Nat.pow_succ,Nat.mul_add,← Nat.mul_assoc,Nat.mul_comm 256 (256 ^ a.length)]
  omega
theorem V_snoc (a:List Nat) (x:Nat):V (a++[x])=V a+256 ^ a.length * x:=by rw [V_append]; simp [V]
end Go.Proofs.YthahhglbeafkmaaGreatDoor
namespace Go.Proofs.YthahhglbeafkmaaGreatDoor
open Go.RowKit
set_option maxRecDepth 100000
set_option linter.unusedSimpArgs false
set_option linter.unusedVariables false
def nb (B:List Int):List Nat:=B.map Int.toNat
theorem nb_len (B:List Int):(nb B).length=B.length:=by simp [nb]
end Go.Proofs.YthahhglbeafkmaaGreatDoor
namespace Go.Proofs.YthahhglbeafkmaaGreatDoor
open Go.RowKit
set_option maxRecDepth 100000
set_option linter.unusedSimpArgs false
set_option linter.unusedVariables false
def P5:Nat:=2 ^ 130 - 5
theorem P5_eq:P5=1361129467683753853853498429727072845819:=by decide
end Go.Proofs.YthahhglbeafkmaaGreatDoor
namespace Go.Proofs.YthahhglbeafkmaaGreatDoor
open Go.RowKit
set_option maxRecDepth 100000
set_option linter.unusedSimpArgs false
set_option linter.unusedVariables false
theorem Tryz.infoT:(Tryz.prog.info? 94).map (·.size)=some 16:=by kernel_rfl
def cl (i:Nat) (x:Int):Int:=if i=3∨i=7∨i=11∨i=15 then x % 16 else if i=4∨i=8∨i=12 then x / 4 * 4 else x
def clf (K:List Int) (i:Nat):Int:=cl i (K.getD i 0)
def clL (K:List Int):List Int:=(List.range 16).map (clf K)
def ZT:List Int:=List.replicate 16 0
theorem clL_len (K:List Int):(clL K).length=16:=by simp [clL]
theorem cl_rng (i:Nat) (x:Int) (h:0≤x∧x<256):0≤cl i x∧cl i x<256:=by
 unfold cl
 split
 ·omega
 ·split <;> omega
theorem clL_isB (K:List Int) (h:IsB K):IsB (clL K):=fun x hx=>by
 unfold clL at hx
 obtain ⟨i,_,rfl⟩:=List.mem_map.1 hx
 exact cl_rng _ _ (h.at_ i)
def Tg (L:List Int) (w:World) (r:Ending) (w':World):Prop:=r=.returned (.agg (kc L))∧Gr w w'
end Go.Proofs.YthahhglbeafkmaaGreatDoor
namespace Go.Proofs.YthahhglbeafkmaaGreatDoor
open Go.RowKit
set_option maxRecDepth 100000
set_option linter.unusedSimpArgs false
set_option linter.unusedVariables false
def bN (B:List Int) (k:Nat):Nat:=V (nb ((B.drop (16 * k)).take 16)++[1])
def acN (r:Nat) (B:List Int):Nat→Nat
 | 0=>0
 | k+1=>(acN r B k+bN B k) * r % P5
def nk (n:Nat):Nat:=(n+15) / 16
def mcN (K B:List Int):Nat:=acN (V (nb (clL K))) B (nk B.length)+V (nb (K.drop 16))
def tgf (n i:Nat):Int:=((n / 256 ^ i % 256:Nat):Int)
def tgL (n:Nat):List Int:=(List.range 16).map (tgf n)
theorem tgL_len (n:Nat):(tgL n).length=16:=by simp [tgL]
def mcL (K B:List Int):List Int:=tgL (mcN K B)
end Go.Proofs.YthahhglbeafkmaaGreatDoor
namespace Go.Proofs.YthahhglbeafkmaaGreatDoor
open Go.RowKit
set_option maxRecDepth 100000
set_option linter.unusedSimpArgs false
set_option linter.unusedVariables false
def v5 (a b c d e:Int):Int:=a+b * 67108864+c * 4503599627370496+d * 302231454903657293676544+e * 20282409603651670423947251286016
def Dg (x:Int):Prop:=0≤x∧x<67108864
theorem mask26 (a:Int) (h:0≤a) (h2:a<18446744073709551616):bits .and .u64 a 67108863=a % 67108864:=by
 obtain ⟨n,rfl⟩:=Int.eq_ofNat_of_zero_le h
 have h3:=bits_and_u64_nat n 67108863 (by omega) (by omega)
 have e:n &&& 67108863=n % 67108864:=Nat.and_two_pow_sub_one_eq_mod n 26
 rw [e] at h3
 simpa using h3
theorem passed_val (a b c d e o o1 o2 o3 o4 o5:Int) (e1:(o+a) / 67108864=o1) (e2:(o1+b) / 67108864=o2) (e3:(o2+c) / 67108864=o3) (e4:(o3+d) / 67108864=o4) (e5:(o4+e) / 67108864=o5) :
  v5 ((o+a) % 67108864) ((o1+b) % 67108864) ((o2+c) % 67108864) ((o3+d) % 67108864) ((o4+e) % 67108864)+1361129467683753853853498429727072845824 * o5=v5 a b c d e+o:=by
 unfold v5
 omega
def Psd (a b c d e o:Int) (w:World) (r:Ending) (w':World):Prop:=∃ y0 y1 y2 y3 y4 q,r=.returned (.tuple #[five y0 y1 y2 y3 y4,.int .u64 q])∧Dg y0∧Dg y1∧Dg y2∧Dg y3∧Dg y4∧0≤q∧v5 y0 y1 y2 y3 y4+1361129467683753853853498429727072845824 * q=v5 a b c d e+o∧Gr w w'
def Sm (x:Int):Prop:=0≤x∧x<4611686018427387904
set_option maxHeartbeats 4000000 in
theorem passed_ok (a b c d e o:Int) (ha:Sm a) (hb:Sm b) (hc:Sm c) (hd:Sm d) (he:Sm e) (ho:Sm o) (w:World):Calls Tryz.prog 129 #[five a b c d e,.int .u64 o] w (Psd a b c d e o w):=by
 unfold Sm at ha hb hc hd he ho
 have w1:=wrap_id (o+a) (by omega) (by omega)
 have m1:=mask26 (o+a) (by omega) (by omega)
 generalize e1:(o+a) / 67108864=o1 at *
 have w2:=wrap_id (o1+b) (by omega) (by omega)
 have m2:=mask26 (o1+b) (by omega) (by omega)
 generalize e2:(o1+b) / 67108864=o2 at *
 have w3:=wrap_id (o2+c) (by omega) (by omega)
 have m3:=mask26 (o2+c) (by omega) (by omega)
 generalize e3:(o2+c) / 67108864=o3 at *
 have w4:=wrap_id (o3+d) (by omega) (by omega)
 have m4:=mask26 (o3+d) (by omega) (by omega)
 generalize e4:(o3+d) / 67108864=o4 at *
 have w5:=wrap_id (o4+e) (by omega) (by omega)
 have m5:=mask26 (o4+e) (by omega) (by omega)
 generalize e5:(o4+e) / 67108864=o5 at *
 have fin:=passed_val a b c d e o o1 o2 o3 o4 o5 e1 e2 e3 e4 e5
 have hq:0≤o5:=by omega
 replace fin:=hide fin
 replace hq:=hide hq
 replace ha:=hide ha; replace hb:=hide hb; replace hc:=hide hc; replace hd:=hide hd; replace he:=hide he; replace ho:=hide ho
 obtain ⟨T,hT⟩:∃ T,T=Psd a b c d e o w:=⟨_,rfl⟩
 rw [← hT]
 replace hT:=hide hT
 unfold five at *
 go_enter Tryz.func129,Tryz.ntmps129
 go_wp2_with fail
 refine wp_loop_rounds 6 ?_
 rw [rounds_succ]
 go_wp2_with fail
 rw [rounds_succ]
 go_wp2_with fail
 rw [rounds_succ]
 go_wp2_with fail
 rw [rounds_succ]
 go_wp2_with fail
 rw [rounds_succ]
 go_wp2_with fail
 rw [rounds_succ]
 go_wp2_with fail
 rw [unhide hT]
 exact bodyPost_ret (v:=.tuple #[five ((o+a) % 67108864) ((o1+b) % 67108864) ((o2+c) % 67108864) ((o3+d) % 67108864) ((o4+e) % 67108864),.int .u64 o5]) (by simp [results,Tryz.results129,go_sem,five]) rfl
  ⟨_,_,_,_,_,_,rfl,by unfold Dg; omega,by unfold Dg; omega,by unfold Dg; omega,by unfold Dg; omega,by unfold Dg; omega,unhide hq,unhide fin,((Gr.refl w).alloc _).alloc _⟩
def Pls (a b c d e f g h i j:Int) (w:World) (r:Ending) (w':World):Prop:=r=.returned (five (a+f) (b+g) (c+h) (d+i) (e+j))∧Gr w w'
set_option maxHeartbeats 4000000 in
theorem plus_ok (a b c d e f g h i j:Int) (ha:Sm a) (hb:Sm b) (hc:Sm c) (hd:Sm d) (he:Sm e) (hf:Sm f) (hg:Sm g) (hh:Sm h) (hi:Sm i) (hj:Sm j) (w:World):Calls Tryz.prog 117 #[five a b c d e,five f g h i j] w (Pls a b c d e f g h i j w):=by
 unfold Sm at *
 have w1:=wrap_id (a+f) (by omega) (by omega)
 have w2:=wrap_id (b+g) (by omega) (by omega)
 have w3:=wrap_id (c+h) (by omega) (by omega)
 have w4:=wrap_id (d+i) (by omega) (by omega)
 have w5:=wrap_id (e+j) (by omega) (by omega)
 clear ha hb hc hd he hf hg hh hi hj
 have i0:∀ w,(Instr.index 160 (five f g h i j) (.int .i64 0)).run Tryz.prog w=.ok (.int .u64 f) w:=fun _=>by kernel_rfl
 have i1:∀ w,(Instr.index 160 (five f g h i j) (.int .i64 1)).run Tryz.prog w=.ok (.int .u64 g) w:=fun _=>by kernel_rfl
 have i2:∀ w,(Instr.index 160 (five f g h i j) (.int .i64 2)).run Tryz.prog w=.ok (.int .u64 h) w:=fun _=>by kernel_rfl
 have i3:∀ w,(Instr.index 160 (five f g h i j) (.int .i64 3)).run Tryz.prog w=.ok (.int .u64 i) w:=fun _=>by kernel_rfl
 have i4:∀ w,(Instr.index 160 (five f g h i j) (.int .i64 4)).run Tryz.prog w=.ok (.int .u64 j) w:=fun _=>by kernel_rfl
 obtain ⟨T,hT⟩:∃ T,T=Pls a b c d e f g h i j w:=⟨_,rfl⟩
 rw [← hT]
 replace hT:=hide hT
 unfold five at *
 go_enter Tryz.func117,Tryz.ntmps117
 go_wp2_with fail
 refine wp_loop_rounds 6 ?_
 rw [rounds_succ]
 go_wp2_with fail
 rw [rounds_succ]
 go_wp2_with fail
 rw [rounds_succ]
 go_wp2_with fail
 rw [rounds_succ]
 go_wp2_with fail
 rw [rounds_succ]
 go_wp2_with fail
 rw [rounds_succ]
 go_wp2_with fail
 rw [unhide hT]
 exact bodyPost_ret (v:=five (a+f) (b+g) (c+h) (d+i) (e+j)) (by simp [results,Tryz.results117,go_sem,five]) rfl ⟨rfl,(((Gr.refl w).alloc _).alloc _).alloc _⟩
end Go.Proofs.YthahhglbeafkmaaGreatDoor
namespace Go.Proofs.YthahhglbeafkmaaGreatDoor
open Go.RowKit
set_option maxRecDepth 100000
set_option linter.unusedSimpArgs false
set_option linter.unusedVariables false
theorem Tryz.infoPL:(Tryz.prog.info? 160).map (·.size)=some 5:=by kernel_rfl
def fc (a b c d e:Int):Array Value:=#[.int .u64 a,.int .u64 b,.int .u64 c,.int .u64 d,.int .u64 e]
theorem fc_one (a b c d e:Int):(fc a b c d e).all (·.oneCell')=true:=by unfold fc; simp [Value.oneCell']
theorem fc_set0 (a b c d e x:Int):(fc a b c d e).setIfInBounds 0 (.int .u64 x)=fc x b c d e:=rfl
theorem fc_set4 (a b c d e x:Int):(fc a b c d e).setIfInBounds 4 (.int .u64 x)=fc a b c d x:=rfl
def Car (n a b c d e:Int):Prop:=(0≤a∧a<67108869)∧Dg b∧Dg c∧Dg d∧Dg e∧v5 a b c d e<1361129467683753853853498429727072845824∧v5 a b c d e % 1361129467683753853853498429727072845819=n
def Crd (n:Int) (w:World) (r:Ending) (w':World):Prop:=∃ a b c d e,r=.returned (.agg (fc a b c d e))∧Car n a b c d e∧Gr w w'
def Mid (x:Int):Prop:=0≤x∧x<1152921504606846976
theorem carried_val (a b c d e y0 y1 y2 y3 y4 z0 z1 z2 z3 z4 o1 o2:Int) (ha:Mid a) (hb:Mid b) (hc:Mid c) (hd:Mid d) (he:Mid e) (hy0:Dg y0) (hy1:Dg y1) (hy2:Dg y2) (hy3:Dg y3) (hy4:Dg y4) (hz0:Dg z0) (hz1:Dg z1) (hz2:Dg z2) (hz3:Dg z3) (hz4:Dg z4)
  (h1:v5 y0 y1 y2 y3 y4+1361129467683753853853498429727072845824 * o1=v5 a b c d e+0) (h2:v5 z0 z1 z2 z3 z4+1361129467683753853853498429727072845824 * o2=v5 y0 y1 y2 y3 y4+o1 * 5) (ho1:0≤o1) (ho2:0≤o2) :
  Car (v5 a b c d e % 1361129467683753853853498429727072845819) (z0+o2 * 5) z1 z2 z3 z4∧o2≤1:=by
 unfold Dg at *
 unfold Mid at *
 have hv:v5 (z0+o2 * 5) z1 z2 z3 z4=v5 z0 z1 z2 z3 z4+o2 * 5:=by unfold v5; omega
 have b1:0≤v5 y0 y1 y2 y3 y4∧v5 y0 y1 y2 y3 y4<1361129467683753853853498429727072845824:=by unfold v5; omega
 have b2:0≤v5 z0 z1 z2 z3 z4∧v5 z0 z1 z2 z3 z4<1361129467683753853853498429727072845824:=by unfold v5; omega
 have b3:v5 a b c d e<1361129467683753853853498429727072845824 * 34359738368:=by unfold v5; omega
 have k1:o1<34359738369:=by omega
 have k2:o2≤1:=by omega
 refine ⟨⟨by omega,hz1,hz2,hz3,hz4,?_,?_⟩,k2⟩
 ·rw [hv]
  omega
 ·rw [hv]
  omega
set_option maxHeartbeats 4000000 in
theorem carried_ok (a b c d e:Int) (ha:Mid a) (hb:Mid b) (hc:Mid c) (hd:Mid d) (he:Mid e) (w:World):Calls Tryz.prog 133 #[.agg (fc a b c d e)] w (Crd (v5 a b c d e % 1361129467683753853853498429727072845819) w):=by
 obtain ⟨T,hT⟩:∃ T,T=Crd (v5 a b c d e % 1361129467683753853853498429727072845819) w:=⟨_,rfl⟩
 rw [← hT]
 replace hT:=hide hT
 obtain ⟨SK,hSK⟩:∃ S,S=fc a b c d e:=⟨_,rfl⟩
 rw [← hSK]
 replace hSK:=hide hSK
 replace ha:=hide ha; replace hb:=hide hb; replace hc:=hide hc; replace hd:=hide hd; replace he:=hide he
 go_enter Tryz.func133,Tryz.ntmps133
 go_upto_region 1 with fail
 have hB:=((Bl.nil w).new SK 160).new #[.int .u64 0,.int .u64 0,.int .u64 0,.int .u64 0,.int .u64 0] 160
 simp only [size_alloc,List.nil_append,List.cons_append] at hB
 generalize World.alloc _ _=u at *
 rw [unhide hSK] at hB
 replace hB:Bl w [⟨w.heap.size,fc a b c d e,160⟩,⟨w.heap.size+1,fc 0 0 0 0 0,160⟩] u:=hB
 refine wp_region_lit ?_
 refine list_val (.agg (fc a b c d e)) (by kernel_rfl) (exec_arr _ 160 (.tmp 1) rfl (w.heap.size) (by kernel_rfl) (fc a b c d e) 160 _ (hB.get 0 (x:=⟨w.heap.size,fc a b c d e,160⟩) rfl) Tryz.underlying160 rfl Tryz.infoPL) ?_
 simp only [nrm]
 refine list_call 129 #[.agg (fc a b c d e),.int .u64 0] (by kernel_rfl) (by kernel_rfl) ((passed_ok a b c d e 0 (by have:=unhide ha; unfold Mid at this; unfold Sm; omega) (by have:=unhide hb; unfold Mid at this; unfold Sm; omega) (by have:=unhide hc; unfold Mid at this; unfold Sm; omega) (by have:=unhide hd; unfold Mid at this; unfold Sm; omega) (by have:=unhide he; unfold Mid at this; unfold Sm; omega) (by unfold Sm; omega) _).mono ?_)
 rintro r u1 ⟨y0,y1,y2,y3,y4,o1,rfl,hy0,hy1,hy2,hy3,hy4,ho1,hv1,hg⟩
 refine ⟨_,rfl,?_⟩
 replace hB:=hB.more hg
 clear hg
 simp only [nrm]
 refine list_val (.tuple #[.agg (fc y0 y1 y2 y3 y4),.int .u64 o1]) (by kernel_rfl) (by kernel_rfl) ?_
 simp only [nrm]
 refine list_val (.agg (fc y0 y1 y2 y3 y4)) (by kernel_rfl) (by kernel_rfl) ?_
 simp only [nrm]
 refine list_val (.int .u64 o1) (by kernel_rfl) (by kernel_rfl) ?_
 simp only [nrm]
 refine list_store 160 (.tmp 1) (.tmp 7) (w.heap.size) (fc y0 y1 y2 y3 y4) 160 (fc a b c d e) (by kernel_rfl) rfl (by kernel_rfl) (by kernel_rfl) (hB.get 0 (x:=⟨w.heap.size,fc a b c d e,160⟩) rfl) Tryz.infoPL rfl (fc_one _ _ _ _ _) ?_
 replace hB:=hB.set 0 (x:=⟨w.heap.size,fc a b c d e,160⟩) rfl (fc y0 y1 y2 y3 y4)
 simp only [List.set_cons_zero,List.set_cons_succ] at hB
 generalize World.setRow _ _ _=u2 at *
 simp only [nrm]
 (refine wpList_step fun K hK=>?_; replace hK:=hide hK; go_simp; refine unhide hK _ _ ?_; clear hK K)
 refine wpList_nil ?_
 have k1:o1<34359738369:=by
  have b0:=unhide ha; have b1:=unhide hb; have b2:=unhide hc; have b3:=unhide hd; have b4:=unhide he
  unfold Mid at b0 b1 b2 b3 b4
  unfold Dg at hy0 hy1 hy2 hy3 hy4
  unfold v5 at hv1
  omega
 have wr1:=wrap_id (o1 * 5) (by omega) (by omega)
 replace hB:=hide hB; replace hv1:=hide hv1
 replace ho1:=hide ho1; replace k1:=hide k1
 go_upto_region 2 with fail
 replace hB:=unhide hB; replace hv1:=unhide hv1
 replace ho1:=unhide ho1; replace k1:=unhide k1
 refine wp_region_lit ?_
 refine list_val (.agg (fc y0 y1 y2 y3 y4)) (by kernel_rfl) (exec_arr _ 160 (.tmp 1) rfl (w.heap.size) (by kernel_rfl) (fc y0 y1 y2 y3 y4) 160 _ (hB.get 0 (x:=⟨w.heap.size,fc y0 y1 y2 y3 y4,160⟩) rfl) Tryz.underlying160 rfl Tryz.infoPL) ?_
 simp only [nrm]
 refine list_val (.int .u64 o1) (by kernel_rfl) (by kernel_rfl) ?_
 simp only [nrm]
 refine list_val (.int .u64 (o1 * 5)) (by kernel_rfl) (by go_simp) ?_
 simp only [nrm]
 refine list_call 129 #[.agg (fc y0 y1 y2 y3 y4),.int .u64 (o1 * 5)] (by kernel_rfl) (by kernel_rfl) ((passed_ok y0 y1 y2 y3 y4 (o1 * 5) (by have:=hy0; unfold Dg at this; unfold Sm; omega) (by have:=hy1; unfold Dg at this; unfold Sm; omega) (by have:=hy2; unfold Dg at this; unfold Sm; omega) (by have:=hy3; unfold Dg at this; unfold Sm; omega) (by have:=hy4; unfold Dg at this; unfold Sm; omega) (by unfold Sm; omega) _).mono ?_)
 rintro r u3 ⟨z0,z1,z2,z3,z4,o2,rfl,hz0,hz1,hz2,hz3,hz4,ho2,hv2,hg⟩
 refine ⟨_,rfl,?_⟩
 replace hB:=hB.more hg
 clear hg
 simp only [nrm]
 refine list_val (.tuple #[.agg (fc z0 z1 z2 z3 z4),.int .u64 o2]) (by kernel_rfl) (by kernel_rfl) ?_
 simp only [nrm]
 refine list_val (.agg (fc z0 z1 z2 z3 z4)) (by kernel_rfl) (by kernel_rfl) ?_
 simp only [nrm]
 refine list_val (.int .u64 o2) (by kernel_rfl) (by kernel_rfl) ?_
 simp only [nrm]
 refine list_store 160 (.tmp 1) (.tmp 14) (w.heap.size) (fc z0 z1 z2 z3 z4) 160 (fc y0 y1 y2 y3 y4) (by kernel_rfl) rfl (by kernel_rfl) (by kernel_rfl) (hB.get 0 (x:=⟨w.heap.size,fc y0 y1 y2 y3 y4,160⟩) rfl) Tryz.infoPL rfl (fc_one _ _ _ _ _) ?_
 replace hB:=hB.set 0 (x:=⟨w.heap.size,fc y0 y1 y2 y3 y4,160⟩) rfl (fc z0 z1 z2 z3 z4)
 simp only [List.set_cons_zero,List.set_cons_succ] at hB
 generalize World.setRow _ _ _=u4 at *
 simp only [nrm]
 (refine wpList_step fun K hK=>?_; replace hK:=hide hK; go_simp; refine unhide hK _ _ ?_; clear hK K)
 refine wpList_nil ?_
 obtain ⟨hcar,k2⟩:=carried_val a b c d e y0 y1 y2 y3 y4 z0 z1 z2 z3 z4 o1 o2 (unhide ha) (unhide hb) (unhide hc) (unhide hd) (unhide he) hy0 hy1 hy2 hy3 hy4 hz0 hz1 hz2 hz3 hz4 hv1 hv2 ho1 ho2
 have wr2:=wrap_id (o2 * 5) (by omega) (by omega)
 have wr3:=wrap_id (z0+o2 * 5) (by unfold Dg at hz0; omega) (by unfold Dg at hz0; omega)
 replace hB:=hide hB; replace hcar:=hide hcar
 clear hv1 hv2 ho1 ho2 k1 k2 hy0 hy1 hy2 hy3 hy4 hz0 hz1 hz2 hz3 hz4 wr1
 go_upto_region 3 with fail
 replace hB:=unhide hB
 refine wp_region_lit ?_
 refine list_val (.pointer (some ⟨w.heap.size,0,none⟩)) (by kernel_rfl) (by kernel_rfl) ?_
 simp only [nrm]
 refine list_val (.int .u64 z0) (by kernel_rfl) (by have hc:World.cell? _ ⟨w.heap.size,0,none⟩=some (.int .u64 z0):=cell_of (hB.get 0 (x:=⟨w.heap.size,fc z0 z1 z2 z3 z4,160⟩) rfl) rfl; go_simp) ?_
 simp only [nrm]
 refine list_val (.int .u64 o2) (by kernel_rfl) (by kernel_rfl) ?_
 simp only [nrm]
 refine list_val (.int .u64 (o2 * 5)) (by kernel_rfl) (by go_simp) ?_
 simp only [nrm]
 refine list_val (.int .u64 (z0+o2 * 5)) (by kernel_rfl) (by go_simp) ?_
 simp only [nrm]
 refine list_val (.pointer (some ⟨w.heap.size,0,none⟩)) (by kernel_rfl) (by kernel_rfl) ?_
 simp only [nrm]
 have c4:World.cell? _ ⟨w.heap.size,0,none⟩=some (.int .u64 z0):=cell_of (hB.get 0 (x:=⟨w.heap.size,fc z0 z1 z2 z3 z4,160⟩) rfl) rfl
 have fz:=froz_of (i:=0) (hB.get 0 (x:=⟨w.heap.size,fc z0 z1 z2 z3 z4,160⟩) rfl)
 have hB2:=hB.cell 0 (x:=⟨w.heap.size,fc z0 z1 z2 z3 z4,160⟩) rfl 0 (.int .u64 (z0+o2 * 5))
 simp only [List.set_cons_zero,List.set_cons_succ,fc_set0] at hB2
 clear hB
 replace hB2:=hide hB2
 (refine wpList_step fun K hK=>?_; replace hK:=hide hK; go_simp; refine unhide hK _ _ ?_; clear hK K)
 clear c4 fz
 refine wpList_nil ?_
 generalize World.setCell _ _ _=u5 at *
 go_upto_region 4 with fail
 have hB:=unhide hB2
 clear hB2
 refine wp_region_lit ?_
 refine list_val (.agg (fc (z0+o2 * 5) z1 z2 z3 z4)) (by kernel_rfl) (exec_arr _ 160 (.tmp 1) rfl (w.heap.size) (by kernel_rfl) (fc (z0+o2 * 5) z1 z2 z3 z4) 160 _ (hB.get 0 (x:=⟨w.heap.size,fc (z0+o2 * 5) z1 z2 z3 z4,160⟩) rfl) Tryz.underlying160 rfl Tryz.infoPL) ?_
 simp only [nrm]
 refine list_store 160 (.tmp 2) (.tmp 22) (w.heap.size+1) (fc (z0+o2 * 5) z1 z2 z3 z4) 160 (fc 0 0 0 0 0) (by kernel_rfl) rfl (by kernel_rfl) (by kernel_rfl) (hB.get 1 (x:=⟨w.heap.size+1,fc 0 0 0 0 0,160⟩) rfl) Tryz.infoPL rfl (fc_one _ _ _ _ _) ?_
 replace hB:=hB.set 1 (x:=⟨w.heap.size+1,fc 0 0 0 0 0,160⟩) rfl (fc (z0+o2 * 5) z1 z2 z3 z4)
 simp only [List.set_cons_zero,List.set_cons_succ] at hB
 generalize World.setRow _ _ _=u6 at *
 simp only [nrm]
 refine wpList_nil ?_
 replace hB:=hide hB
 go_wp2_with fail
 replace hB:=unhide hB
 rw [unhide hT]
 exact bodyPost_ret (v:=.agg (fc (z0+o2 * 5) z1 z2 z3 z4)) (results_cell_row Tryz.results133 _ _ (w.heap.size+1) 160 (fc (z0+o2 * 5) z1 z2 z3 z4) (0,0) _ rfl (hB.get 1 (x:=⟨w.heap.size+1,fc (z0+o2 * 5) z1 z2 z3 z4,160⟩) rfl) Tryz.underlying160 rfl Tryz.infoPL) rfl (⟨_,_,_,_,_,rfl,unhide hcar,hB.gr⟩)
def Lsd (n:Int) (w:World) (r:Ending) (w':World):Prop:=∃ a b c d e,r=.returned (.agg (fc a b c d e))∧Dg a∧Dg b∧Dg c∧Dg d∧Dg e∧v5 a b c d e=n∧Gr w w'
theorem least_num (n a b c d e y0 y1 y2 y3 y4 z0 z1 z2 z3 z4 o1 o2:Int) (hc:Car n a b c d e) (hy0:Dg y0) (hy1:Dg y1) (hy2:Dg y2) (hy3:Dg y3) (hy4:Dg y4) (hz0:Dg z0) (hz1:Dg z1) (hz2:Dg z2) (hz3:Dg z3) (hz4:Dg z4)
  (h1:v5 y0 y1 y2 y3 y4+1361129467683753853853498429727072845824 * o1=v5 a b c d e+5) (h2:v5 z0 z1 z2 z3 z4+1361129467683753853853498429727072845824 * o2=v5 a b c d e+o1 * 5) (ho1:0≤o1) (ho2:0≤o2):v5 z0 z1 z2 z3 z4=n:=by
 obtain ⟨h3,h4,h5,h6,h7,h8,h9⟩:=hc
 unfold Dg at *
 have b0:0≤v5 a b c d e:=by unfold v5; omega
 have b1:0≤v5 y0 y1 y2 y3 y4∧v5 y0 y1 y2 y3 y4<1361129467683753853853498429727072845824:=by unfold v5; omega
 have b2:0≤v5 z0 z1 z2 z3 z4∧v5 z0 z1 z2 z3 z4<1361129467683753853853498429727072845824:=by unfold v5; omega
 generalize v5 a b c d e=x at *
 generalize v5 y0 y1 y2 y3 y4=y at *
 generalize v5 z0 z1 z2 z3 z4=z at *
 have k1:o1=0∨o1=1:=by omega
 have k2:o2=0∨o2=1:=by omega
 clear hy0 hy1 hy2 hy3 hy4 hz0 hz1 hz2 hz3 hz4 h3 h4 h5 h6 h7
 rcases k1 with rfl | rfl <;> rcases k2 with rfl | rfl <;> omega
set_option maxHeartbeats 4000000 in
theorem least_ok (n a b c d e:Int) (hn:Car n a b c d e) (w:World):Calls Tryz.prog 116 #[.agg (fc a b c d e)] w (Lsd n w):=by
 obtain ⟨T,hT⟩:∃ T,T=Lsd n w:=⟨_,rfl⟩
 rw [← hT]
 replace hT:=hide hT
 obtain ⟨SK,hSK⟩:∃ S,S=fc a b c d e:=⟨_,rfl⟩
 rw [← hSK]
 replace hSK:=hide hSK
 have hn2:=hn
 obtain ⟨ha,hb,hc,hd,he,-,-⟩:=hn2
 replace hn:=hide hn
 replace ha:=hide ha; replace hb:=hide hb; replace hc:=hide hc; replace hd:=hide hd; replace he:=hide he
 go_enter Tryz.func116,Tryz.ntmps116
 go_upto_region 1 with fail
 have hB:=((Bl.nil w).new SK 160).new #[.int .u64 0,.int .u64 0,.int .u64 0,.int .u64 0,.int .u64 0] 160
 simp only [size_alloc,List.nil_append,List.cons_append] at hB
 generalize World.alloc _ _=u at *
 rw [unhide hSK] at hB
 replace hB:Bl w [⟨w.heap.size,fc a b c d e,160⟩,⟨w.heap.size+1,fc 0 0 0 0 0,160⟩] u:=hB
 refine wp_region_lit ?_
 refine list_val (.agg (fc a b c d e)) (by kernel_rfl) (exec_arr _ 160 (.tmp 1) rfl (w.heap.size) (by kernel_rfl) (fc a b c d e) 160 _ (hB.get 0 (x:=⟨w.heap.size,fc a b c d e,160⟩) rfl) Tryz.underlying160 rfl Tryz.infoPL) ?_
 simp only [nrm]
 refine list_call 129 #[.agg (fc a b c d e),.int .u64 5] (by kernel_rfl) (by kernel_rfl) ((passed_ok a b c d e 5 (by have:=unhide ha; unfold Sm; omega) (by have:=unhide hb; unfold Dg at this; unfold Sm; omega) (by have:=unhide hc; unfold Dg at this; unfold Sm; omega) (by have:=unhide hd; unfold Dg at this; unfold Sm; omega) (by have:=unhide he; unfold Dg at this; unfold Sm; omega) (by unfold Sm; omega) _).mono ?_)
 rintro r u1 ⟨y0,y1,y2,y3,y4,o1,rfl,hy0,hy1,hy2,hy3,hy4,ho1,hv1,hg⟩
 refine ⟨_,rfl,?_⟩
 replace hB:=hB.more hg
 clear hg
 simp only [nrm]
 refine list_val (.tuple #[.agg (fc y0 y1 y2 y3 y4),.int .u64 o1]) (by kernel_rfl) (by kernel_rfl) ?_
 simp only [nrm]
 refine list_val (.agg (fc y0 y1 y2 y3 y4)) (by kernel_rfl) (by kernel_rfl) ?_
 simp only [nrm]
 refine list_val (.int .u64 o1) (by kernel_rfl) (by kernel_rfl) ?_
 simp only [nrm]
 replace hB:=hide hB
 (refine wpList_step fun K hK=>?_; replace hK:=hide hK; go_simp; refine unhide hK _ _ ?_; clear hK K)
 replace hB:=(unhide hB).new #[.int .u64 0,.int .u64 0,.int .u64 0,.int .u64 0,.int .u64 0] 160
 simp only [List.nil_append,List.cons_append] at hB
 generalize World.alloc _ _=u2 at *
 generalize u1.heap.size=h5 at *
 replace hB:Bl w [⟨w.heap.size,fc a b c d e,160⟩,⟨w.heap.size+1,fc 0 0 0 0 0,160⟩,⟨h5,fc 0 0 0 0 0,160⟩] u2:=hB
 refine list_store 160 (.tmp 3) (.tmp 8) (h5) (fc y0 y1 y2 y3 y4) 160 (fc 0 0 0 0 0) (by kernel_rfl) rfl (by kernel_rfl) (by kernel_rfl) (hB.get 2 (x:=⟨h5,fc 0 0 0 0 0,160⟩) rfl) Tryz.infoPL rfl (fc_one _ _ _ _ _) ?_
 replace hB:=hB.set 2 (x:=⟨h5,fc 0 0 0 0 0,160⟩) rfl (fc y0 y1 y2 y3 y4)
 simp only [List.set_cons_zero,List.set_cons_succ] at hB
 generalize World.setRow _ _ _=u3 at *
 simp only [nrm]
 (refine wpList_step fun K hK=>?_; replace hK:=hide hK; go_simp; refine unhide hK _ _ ?_; clear hK K)
 refine wpList_nil ?_
 have k1:o1<3:=by
  have b0:=unhide ha; have b1:=unhide hb; have b2:=unhide hc; have b3:=unhide hd; have b4:=unhide he
  unfold Dg at hy0 hy1 hy2 hy3 hy4 b1 b2 b3 b4
  unfold v5 at hv1
  omega
 have wr1:=wrap_id (o1 * 5) (by omega) (by omega)
 replace hB:=hide hB; replace hv1:=hide hv1
 replace ho1:=hide ho1; replace k1:=hide k1
 go_upto_region 2 with fail
 replace hB:=unhide hB; replace hv1:=unhide hv1
 replace ho1:=unhide ho1; replace k1:=unhide k1
 refine wp_region_lit ?_
 refine list_val (.agg (fc a b c d e)) (by kernel_rfl) (exec_arr _ 160 (.tmp 1) rfl (w.heap.size) (by kernel_rfl) (fc a b c d e) 160 _ (hB.get 0 (x:=⟨w.heap.size,fc a b c d e,160⟩) rfl) Tryz.underlying160 rfl Tryz.infoPL) ?_
 simp only [nrm]
 refine list_val (.int .u64 o1) (by kernel_rfl) (by kernel_rfl) ?_
 simp only [nrm]
 refine list_val (.int .u64 (o1 * 5)) (by kernel_rfl) (by go_simp) ?_
 simp only [nrm]
 refine list_call 129 #[.agg (fc a b c d e),.int .u64 (o1 * 5)] (by kernel_rfl) (by kernel_rfl) ((passed_ok a b c d e (o1 * 5) (by have:=unhide ha; unfold Sm; omega) (by have:=unhide hb; unfold Dg at this; unfold Sm; omega) (by have:=unhide hc; unfold Dg at this; unfold Sm; omega) (by have:=unhide hd; unfold Dg at this; unfold Sm; omega) (by have:=unhide he; unfold Dg at this; unfold Sm; omega) (by unfold Sm; omega) _).mono ?_)
 rintro r u4 ⟨z0,z1,z2,z3,z4,o2,rfl,hz0,hz1,hz2,hz3,hz4,ho2,hv2,hg⟩
 refine ⟨_,rfl,?_⟩
 replace hB:=hB.more hg
 clear hg
 simp only [nrm]
 refine list_val (.tuple #[.agg (fc z0 z1 z2 z3 z4),.int .u64 o2]) (by kernel_rfl) (by kernel_rfl) ?_
 simp only [nrm]
 refine list_val (.agg (fc z0 z1 z2 z3 z4)) (by kernel_rfl) (by kernel_rfl) ?_
 simp only [nrm]
 refine list_val (.int .u64 o2) (by kernel_rfl) (by kernel_rfl) ?_
 simp only [nrm]
 refine list_store 160 (.tmp 1) (.tmp 15) (w.heap.size) (fc z0 z1 z2 z3 z4) 160 (fc a b c d e) (by kernel_rfl) rfl (by kernel_rfl) (by kernel_rfl) (hB.get 0 (x:=⟨w.heap.size,fc a b c d e,160⟩) rfl) Tryz.infoPL rfl (fc_one _ _ _ _ _) ?_
 replace hB:=hB.set 0 (x:=⟨w.heap.size,fc a b c d e,160⟩) rfl (fc z0 z1 z2 z3 z4)
 simp only [List.set_cons_zero,List.set_cons_succ] at hB
 generalize World.setRow _ _ _=u5 at *
 simp only [nrm]
 refine wpList_nil ?_
 have hfin:=hide (least_num n a b c d e y0 y1 y2 y3 y4 z0 z1 z2 z3 z4 o1 o2 (unhide hn) hy0 hy1 hy2 hy3 hy4 hz0 hz1 hz2 hz3 hz4 hv1 hv2 ho1 ho2)
 replace hB:=hide hB
 clear hv1 hv2 ho1 ho2 k1 wr1
 go_upto_region 3 with fail
 replace hB:=unhide hB
 refine wp_region_lit ?_
 refine list_val (.agg (fc z0 z1 z2 z3 z4)) (by kernel_rfl) (exec_arr _ 160 (.tmp 1) rfl (w.heap.size) (by kernel_rfl) (fc z0 z1 z2 z3 z4) 160 _ (hB.get 0 (x:=⟨w.heap.size,fc z0 z1 z2 z3 z4,160⟩) rfl) Tryz.underlying160 rfl Tryz.infoPL) ?_
 simp only [nrm]
 refine list_store 160 (.tmp 2) (.tmp 17) (w.heap.size+1) (fc z0 z1 z2 z3 z4) 160 (fc 0 0 0 0 0) (by kernel_rfl) rfl (by kernel_rfl) (by kernel_rfl) (hB.get 1 (x:=⟨w.heap.size+1,fc 0 0 0 0 0,160⟩) rfl) Tryz.infoPL rfl (fc_one _ _ _ _ _) ?_
 replace hB:=hB.set 1 (x:=⟨w.heap.size+1,fc 0 0 0 0 0,160⟩) rfl (fc z0 z1 z2 z3 z4)
 simp only [List.set_cons_zero,List.set_cons_succ] at hB
 generalize World.setRow _ _ _=u6 at *
 simp only [nrm]
 refine wpList_nil ?_
 replace hB:=hide hB
 go_wp2_with fail
 replace hB:=unhide hB
 rw [unhide hT]
 exact bodyPost_ret (v:=.agg (fc z0 z1 z2 z3 z4)) (results_cell_row Tryz.results116 _ _ (w.heap.size+1) 160 (fc z0 z1 z2 z3 z4) (0,0) _ rfl (hB.get 1 (x:=⟨w.heap.size+1,fc z0 z1 z2 z3 z4,160⟩) rfl) Tryz.underlying160 rfl Tryz.infoPL) rfl (⟨_,_,_,_,_,rfl,hz0,hz1,hz2,hz3,hz4,unhide hfin,hB.gr⟩)
end Go.Proofs.YthahhglbeafkmaaGreatDoor
namespace Go.Proofs.YthahhglbeafkmaaGreatDoor
open Go.RowKit
set_option maxRecDepth 100000
set_option linter.unusedSimpArgs false
set_option linter.unusedVariables false
theorem exec_u64 {op:Oper} {a:Act} (w:World) (x:Operand) (ho:op.op=.load 26 x) (g i:Nat) (hx:a.eval x=.pointer (some ⟨g,i,none⟩)) (v:Int) (hc:w.cell? ⟨g,i,none⟩=some (.int .u64 v)):(execOp a.eval op).run Tryz.prog w=.ok (.value (.int .u64 v)) w:=by
 unfold execOp
 simp only [ho,hx,Instr.loadAt,Instr.sureAddr,Sem.run_bind,Sem.run_pure,Result.andThen_ok]
 go_simp
def mu (a b:Int):Int:=IntKind.u64.wrap (a * b)
def su (a b:Int):Int:=IntKind.u64.wrap (a+b)
theorem mu_eq (a b:Int) (ha:0≤a∧a<268435456) (hb:0≤b∧b<335544320):mu a b=a * b∧0≤a * b∧a * b<90071992547409920:=by
 have h1:0≤a * b:=Int.mul_nonneg ha.1 hb.1
 have h2:a * b≤268435455 * 335544319:=Int.mul_le_mul (by omega) (by omega) hb.1 (by omega)
 exact ⟨wrap_id _ h1 (by omega),h1,by omega⟩
theorem su_eq (a b:Int) (ha:0≤a) (hb:0≤b) (h:a+b<18446744073709551616):su a b=a+b:=wrap_id _ (by omega) h
theorem wm (x:Int) (h:Dg x):mu x 5=x * 5∧0≤x * 5∧x * 5<335544320:=by
 unfold Dg at h
 have:=(mu_eq x 5 (by omega) (by omega)).1
 exact ⟨this,by omega,by omega⟩
theorem dl {x:Int} (h:Dg x):0≤x∧x<335544320:=by
 unfold Dg at h
 omega
theorem five_mu (a b c d e f g h i j:Int) (ha:0≤a∧a<268435456) (hb:0≤b∧b<268435456) (hc:0≤c∧c<268435456) (hd:0≤d∧d<268435456) (he:0≤e∧e<268435456) (hf:0≤f∧f<335544320) (hg:0≤g∧g<335544320) (hh:0≤h∧h<335544320) (hi:0≤i∧i<335544320) (hj:0≤j∧j<335544320) :
  su (su (su (su (mu a f) (mu b g)) (mu c h)) (mu d i)) (mu e j)=a * f+b * g+c * h+d * i+e * j∧Mid (a * f+b * g+c * h+d * i+e * j):=by
 obtain ⟨p1,p2,p3⟩:=mu_eq a f ha hf
 obtain ⟨q1,q2,q3⟩:=mu_eq b g hb hg
 obtain ⟨r1,r2,r3⟩:=mu_eq c h hc hh
 obtain ⟨s1,s2,s3⟩:=mu_eq d i hd hi
 obtain ⟨t1,t2,t3⟩:=mu_eq e j he hj
 rw [p1,q1,r1,s1,t1]
 generalize a * f=A at *
 generalize b * g=B at *
 generalize c * h=C at *
 generalize d * i=D at *
 generalize e * j=E at *
 rw [su_eq A B p2 q2 (by omega),su_eq (A+B) C (by omega) r2 (by omega),su_eq (A+B+C) D (by omega) s2 (by omega),su_eq (A+B+C+D) E (by omega) t2 (by omega)]
 exact ⟨rfl,by unfold Mid; omega⟩
theorem times_val (a b c d e f g h i j:Int):v5 (a * f+b * (j * 5)+c * (i * 5)+d * (h * 5)+e * (g * 5)) (a * g+b * f+c * (j * 5)+d * (i * 5)+e * (h * 5)) (a * h+b * g+c * f+d * (j * 5)+e * (i * 5)) (a * i+b * h+c * g+d * f+e * (j * 5)) (a * j+b * i+c * h+d * g+e * f)
  = v5 a b c d e * v5 f g h i j - 1361129467683753853853498429727072845819 * (b * j+c * i+d * h+e * g+67108864 * (c * j+d * i+e * h)+4503599627370496 * (d * j+e * i)+302231454903657293676544 * (e * j)):=by
 unfold v5
 grind
theorem times_mod (a b c d e f g h i j:Int):v5 (a * f+b * (j * 5)+c * (i * 5)+d * (h * 5)+e * (g * 5)) (a * g+b * f+c * (j * 5)+d * (i * 5)+e * (h * 5)) (a * h+b * g+c * f+d * (j * 5)+e * (i * 5)) (a * i+b * h+c * g+d * f+e * (j * 5)) (a * j+b * i+c * h+d * g+e * f) % 1361129467683753853853498429727072845819
  = v5 a b c d e * v5 f g h i j % 1361129467683753853853498429727072845819:=by
 rw [times_val,Int.sub_mul_emod_self_left]
set_option maxHeartbeats 40000000 in
theorem times_ok (a b c d e f g h i j:Int) (ha:0≤a∧a<268435456) (hb:0≤b∧b<268435456) (hc:0≤c∧c<268435456) (hd:0≤d∧d<268435456) (he:0≤e∧e<268435456) (hf:Dg f) (hg:Dg g) (hh:Dg h) (hi:Dg i) (hj:Dg j) (w:World):Calls Tryz.prog 128 #[.agg (fc a b c d e),.agg (fc f g h i j)] w (Crd (v5 a b c d e * v5 f g h i j % 1361129467683753853853498429727072845819) w):=by
 obtain ⟨T,hT⟩:∃ T,T=Crd (v5 a b c d e * v5 f g h i j % 1361129467683753853853498429727072845819) w:=⟨_,rfl⟩
 rw [← hT]
 replace hT:=hide hT
 obtain ⟨SK,hSK⟩:∃ S,S=fc a b c d e:=⟨_,rfl⟩
 rw [← hSK]
 replace hSK:=hide hSK
 obtain ⟨SM,hSM⟩:∃ S,S=fc f g h i j:=⟨_,rfl⟩
 rw [← hSM]
 replace hSM:=hide hSM
 replace ha:=hide ha; replace hb:=hide hb; replace hc:=hide hc; replace hd:=hide hd; replace he:=hide he
 replace hf:=hide hf; replace hg:=hide hg; replace hh:=hide hh; replace hi:=hide hi; replace hj:=hide hj
 go_enter Tryz.func128,Tryz.ntmps128
 go_upto_region 1 with fail
 have hB:=(((Bl.nil w).new SK 160).new SM 160).new #[.int .u64 0,.int .u64 0,.int .u64 0,.int .u64 0,.int .u64 0] 160
 simp only [size_alloc,List.nil_append,List.cons_append] at hB
 generalize World.alloc _ _=u at *
 rw [unhide hSK,unhide hSM] at hB
 replace hB:Bl w [⟨w.heap.size,fc a b c d e,160⟩,⟨w.heap.size+1,fc f g h i j,160⟩,⟨w.heap.size+1+1,fc 0 0 0 0 0,160⟩] u:=hB
 refine any_start (S:=fun v=>Bl w [⟨w.heap.size,fc a b c d e,160⟩,⟨w.heap.size+1,fc f g h i j,160⟩,⟨w.heap.size+1+1,fc 0 0 0 0 0,160⟩] v) (by kernel_rfl) ?_
 replace hB:=hB.drew
 generalize World.drew _=u0 at *
 simp only [List.size_toArray,List.length_cons,List.length_nil,Array.replicate,List.replicate]
 refine any_take (i:=0) (v:=(.pointer (some ⟨w.heap.size+1,1,none⟩))) #[false,false,false,false,false,false,false,false,false,false,false,false,false,false,false,false] rfl (by kernel_rfl) (by kernel_rfl) (by kernel_rfl) (by kernel_rfl) (fun _ _ _ h=>h) (.inl ⟨by kernel_rfl,fun x_ hu=>by kernel_rfl⟩) hB ?_
 simp only [nrm]
 refine any_take (i:=1) (v:=(.int .u64 g)) #[true,false,false,false,false,false,false,false,false,false,false,false,false,false,false,false] rfl (by kernel_rfl) (by kernel_rfl) (by kernel_rfl) (by kernel_rfl) (fun _ _ _ h=>h) (.inl ⟨by kernel_rfl,fun x_ hu=>exec_u64 _ (.tmp 9) rfl (w.heap.size+1) 1 (by kernel_rfl) g (cell_of (hu.get 1 (x:=⟨w.heap.size+1,fc f g h i j,160⟩) rfl) rfl)⟩) hB ?_
 simp only [nrm]
 refine any_take (i:=2) (v:=(.int .u64 (mu g 5))) #[true,true,false,false,false,false,false,false,false,false,false,false,false,false,false,false] rfl (by kernel_rfl) (by kernel_rfl) (by kernel_rfl) (by kernel_rfl) (fun _ _ _ h=>h) (.inl ⟨by kernel_rfl,fun x_ hu=>by kernel_rfl⟩) hB ?_
 simp only [nrm]
 refine any_take (i:=3) (v:=(.pointer (some ⟨w.heap.size+1,2,none⟩))) #[true,true,true,false,false,false,false,false,false,false,false,false,false,false,false,false] rfl (by kernel_rfl) (by kernel_rfl) (by kernel_rfl) (by kernel_rfl) (fun _ _ _ h=>h) (.inl ⟨by kernel_rfl,fun x_ hu=>by kernel_rfl⟩) hB ?_
 simp only [nrm]
 refine any_take (i:=4) (v:=(.int .u64 h)) #[true,true,true,true,false,false,false,false,false,false,false,false,false,false,false,false] rfl (by kernel_rfl) (by kernel_rfl) (by kernel_rfl) (by kernel_rfl) (fun _ _ _ h=>h) (.inl ⟨by kernel_rfl,fun x_ hu=>exec_u64 _ (.tmp 12) rfl (w.heap.size+1) 2 (by kernel_rfl) h (cell_of (hu.get 1 (x:=⟨w.heap.size+1,fc f g h i j,160⟩) rfl) rfl)⟩) hB ?_
 simp only [nrm]
 refine any_take (i:=5) (v:=(.int .u64 (mu h 5))) #[true,true,true,true,true,false,false,false,false,false,false,false,false,false,false,false] rfl (by kernel_rfl) (by kernel_rfl) (by kernel_rfl) (by kernel_rfl) (fun _ _ _ h=>h) (.inl ⟨by kernel_rfl,fun x_ hu=>by kernel_rfl⟩) hB ?_
 simp only [nrm]
 refine any_take (i:=6) (v:=(.pointer (some ⟨w.heap.size+1,3,none⟩))) #[true,true,true,true,true,true,false,false,false,false,false,false,false,false,false,false] rfl (by kernel_rfl) (by kernel_rfl) (by kernel_rfl) (by kernel_rfl) (fun _ _ _ h=>h) (.inl ⟨by kernel_rfl,fun x_ hu=>by kernel_rfl⟩) hB ?_
 simp only [nrm]
 refine any_take (i:=7) (v:=(.int .u64 i)) #[true,true,true,true,true,true,true,false,false,false,false,false,false,false,false,false] rfl (by kernel_rfl) (by kernel_rfl) (by kernel_rfl) (by kernel_rfl) (fun _ _ _ h=>h) (.inl ⟨by kernel_rfl,fun x_ hu=>exec_u64 _ (.tmp 15) rfl (w.heap.size+1) 3 (by kernel_rfl) i (cell_of (hu.get 1 (x:=⟨w.heap.size+1,fc f g h i j,160⟩) rfl) rfl)⟩) hB ?_
 simp only [nrm]
 refine any_take (i:=8) (v:=(.int .u64 (mu i 5))) #[true,true,true,true,true,true,true,true,false,false,false,false,false,false,false,false] rfl (by kernel_rfl) (by kernel_rfl) (by kernel_rfl) (by kernel_rfl) (fun _ _ _ h=>h) (.inl ⟨by kernel_rfl,fun x_ hu=>by kernel_rfl⟩) hB ?_
 simp only [nrm]
 refine any_take (i:=9) (v:=(.pointer (some ⟨w.heap.size+1,4,none⟩))) #[true,true,true,true,true,true,true,true,true,false,false,false,false,false,false,false] rfl (by kernel_rfl) (by kernel_rfl) (by kernel_rfl) (by kernel_rfl) (fun _ _ _ h=>h) (.inl ⟨by kernel_rfl,fun x_ hu=>by kernel_rfl⟩) hB ?_
 simp only [nrm]
 refine any_take (i:=10) (v:=(.int .u64 j)) #[true,true,true,true,true,true,true,true,true,true,false,false,false,false,false,false] rfl (by kernel_rfl) (by kernel_rfl) (by kernel_rfl) (by kernel_rfl) (fun _ _ _ h=>h) (.inl ⟨by kernel_rfl,fun x_ hu=>exec_u64 _ (.tmp 18) rfl (w.heap.size+1) 4 (by kernel_rfl) j (cell_of (hu.get 1 (x:=⟨w.heap.size+1,fc f g h i j,160⟩) rfl) rfl)⟩) hB ?_
 simp only [nrm]
 refine any_take (i:=11) (v:=(.int .u64 (mu j 5))) #[true,true,true,true,true,true,true,true,true,true,true,false,false,false,false,false] rfl (by kernel_rfl) (by kernel_rfl) (by kernel_rfl) (by kernel_rfl) (fun _ _ _ h=>h) (.inl ⟨by kernel_rfl,fun x_ hu=>by kernel_rfl⟩) hB ?_
 simp only [nrm]
 refine any_one (i:=12) (by kernel_rfl) rfl (fun K hK=>?_)
 replace hK:=hide hK
 go_simp
 refine (unhide hK).out _ _ hB (fun _=>?_)
 clear hK K
 refine any_one (i:=13) (by kernel_rfl) rfl (fun K hK=>?_)
 replace hK:=hide hK
 go_simp
 refine (unhide hK).out _ _ hB (fun _=>?_)
 clear hK K
 refine any_one (i:=14) (by kernel_rfl) rfl (fun K hK=>?_)
 replace hK:=hide hK
 go_simp
 refine (unhide hK).out _ _ hB (fun _=>?_)
 clear hK K
 refine any_one (i:=15) (by kernel_rfl) rfl (fun K hK=>?_)
 replace hK:=hide hK
 go_simp
 refine (unhide hK).out _ _ hB (fun _=>?_)
 clear hK K
 refine any_done (by kernel_rfl) ?_
 replace hB:=hide hB
 go_upto_region 2 with fail
 replace hB:=unhide hB
 simp only [List.append_eq,List.cons_append,List.nil_append]
 refine wp_region_lit ?_
 refine list_val (.pointer (some ⟨w.heap.size,0,none⟩)) (by kernel_rfl) (by kernel_rfl) ?_
 simp only [nrm]
 refine list_val (.int .u64 a) (by kernel_rfl) (exec_u64 _ (.tmp 21) rfl (w.heap.size) 0 (by kernel_rfl) a (cell_of (hB.get 0 (x:=⟨w.heap.size,fc a b c d e,160⟩) rfl) rfl)) ?_
 simp only [nrm]
 refine list_val (.pointer (some ⟨w.heap.size+1,0,none⟩)) (by kernel_rfl) (by kernel_rfl) ?_
 simp only [nrm]
 refine list_val (.int .u64 f) (by kernel_rfl) (exec_u64 _ (.tmp 23) rfl (w.heap.size+1) 0 (by kernel_rfl) f (cell_of (hB.get 1 (x:=⟨w.heap.size+1,fc f g h i j,160⟩) rfl) rfl)) ?_
 simp only [nrm]
 refine list_val (.int .u64 (mu a f)) (by kernel_rfl) (by kernel_rfl) ?_
 simp only [nrm]
 refine list_val (.pointer (some ⟨w.heap.size,1,none⟩)) (by kernel_rfl) (by kernel_rfl) ?_
 simp only [nrm]
 refine list_val (.int .u64 b) (by kernel_rfl) (exec_u64 _ (.tmp 26) rfl (w.heap.size) 1 (by kernel_rfl) b (cell_of (hB.get 0 (x:=⟨w.heap.size,fc a b c d e,160⟩) rfl) rfl)) ?_
 simp only [nrm]
 refine list_val (.int .u64 (mu j 5)) (by kernel_rfl) (by kernel_rfl) ?_
 simp only [nrm]
 refine list_val (.int .u64 (mu b (mu j 5))) (by kernel_rfl) (by kernel_rfl) ?_
 simp only [nrm]
 refine list_val (.int .u64 (su (mu a f) (mu b (mu j 5)))) (by kernel_rfl) (by kernel_rfl) ?_
 simp only [nrm]
 refine list_val (.pointer (some ⟨w.heap.size,2,none⟩)) (by kernel_rfl) (by kernel_rfl) ?_
 simp only [nrm]
 refine list_val (.int .u64 c) (by kernel_rfl) (exec_u64 _ (.tmp 31) rfl (w.heap.size) 2 (by kernel_rfl) c (cell_of (hB.get 0 (x:=⟨w.heap.size,fc a b c d e,160⟩) rfl) rfl)) ?_
 simp only [nrm]
 refine list_val (.int .u64 (mu i 5)) (by kernel_rfl) (by kernel_rfl) ?_
 simp only [nrm]
 refine list_val (.int .u64 (mu c (mu i 5))) (by kernel_rfl) (by kernel_rfl) ?_
 simp only [nrm]
 refine list_val (.int .u64 (su (su (mu a f) (mu b (mu j 5))) (mu c (mu i 5)))) (by kernel_rfl) (by kernel_rfl) ?_
 simp only [nrm]
 refine list_val (.pointer (some ⟨w.heap.size,3,none⟩)) (by kernel_rfl) (by kernel_rfl) ?_
 simp only [nrm]
 refine list_val (.int .u64 d) (by kernel_rfl) (exec_u64 _ (.tmp 36) rfl (w.heap.size) 3 (by kernel_rfl) d (cell_of (hB.get 0 (x:=⟨w.heap.size,fc a b c d e,160⟩) rfl) rfl)) ?_
 simp only [nrm]
 refine list_val (.int .u64 (mu h 5)) (by kernel_rfl) (by kernel_rfl) ?_
 simp only [nrm]
 refine list_val (.int .u64 (mu d (mu h 5))) (by kernel_rfl) (by kernel_rfl) ?_
 simp only [nrm]
 refine list_val (.int .u64 (su (su (su (mu a f) (mu b (mu j 5))) (mu c (mu i 5))) (mu d (mu h 5)))) (by kernel_rfl) (by kernel_rfl) ?_
 simp only [nrm]
 refine list_val (.pointer (some ⟨w.heap.size,4,none⟩)) (by kernel_rfl) (by kernel_rfl) ?_
 simp only [nrm]
 refine list_val (.int .u64 e) (by kernel_rfl) (exec_u64 _ (.tmp 41) rfl (w.heap.size) 4 (by kernel_rfl) e (cell_of (hB.get 0 (x:=⟨w.heap.size,fc a b c d e,160⟩) rfl) rfl)) ?_
 simp only [nrm]
 refine list_val (.int .u64 (mu g 5)) (by kernel_rfl) (by kernel_rfl) ?_
 simp only [nrm]
 refine list_val (.int .u64 (mu e (mu g 5))) (by kernel_rfl) (by kernel_rfl) ?_
 simp only [nrm]
 refine list_val (.int .u64 (su (su (su (su (mu a f) (mu b (mu j 5))) (mu c (mu i 5))) (mu d (mu h 5))) (mu e (mu g 5)))) (by kernel_rfl) (by kernel_rfl) ?_
 simp only [nrm]
 refine list_val (.pointer (some ⟨w.heap.size,0,none⟩)) (by kernel_rfl) (by kernel_rfl) ?_
 simp only [nrm]
 refine list_val (.int .u64 a) (by kernel_rfl) (exec_u64 _ (.tmp 46) rfl (w.heap.size) 0 (by kernel_rfl) a (cell_of (hB.get 0 (x:=⟨w.heap.size,fc a b c d e,160⟩) rfl) rfl)) ?_
 simp only [nrm]
 refine list_val (.pointer (some ⟨w.heap.size+1,1,none⟩)) (by kernel_rfl) (by kernel_rfl) ?_
 simp only [nrm]
 refine list_val (.int .u64 g) (by kernel_rfl) (exec_u64 _ (.tmp 48) rfl (w.heap.size+1) 1 (by kernel_rfl) g (cell_of (hB.get 1 (x:=⟨w.heap.size+1,fc f g h i j,160⟩) rfl) rfl)) ?_
 simp only [nrm]
 refine list_val (.int .u64 (mu a g)) (by kernel_rfl) (by kernel_rfl) ?_
 simp only [nrm]
 refine list_val (.pointer (some ⟨w.heap.size,1,none⟩)) (by kernel_rfl) (by kernel_rfl) ?_
 simp only [nrm]
 refine list_val (.int .u64 b) (by kernel_rfl) (exec_u64 _ (.tmp 51) rfl (w.heap.size) 1 (by kernel_rfl) b (cell_of (hB.get 0 (x:=⟨w.heap.size,fc a b c d e,160⟩) rfl) rfl)) ?_
 simp only [nrm]
 refine list_val (.pointer (some ⟨w.heap.size+1,0,none⟩)) (by kernel_rfl) (by kernel_rfl) ?_
 simp only [nrm]
 refine list_val (.int .u64 f) (by kernel_rfl) (exec_u64 _ (.tmp 53) rfl (w.heap.size+1) 0 (by kernel_rfl) f (cell_of (hB.get 1 (x:=⟨w.heap.size+1,fc f g h i j,160⟩) rfl) rfl)) ?_
 simp only [nrm]
 refine list_val (.int .u64 (mu b f)) (by kernel_rfl) (by kernel_rfl) ?_
 simp only [nrm]
 refine list_val (.int .u64 (su (mu a g) (mu b f))) (by kernel_rfl) (by kernel_rfl) ?_
 simp only [nrm]
 refine list_val (.pointer (some ⟨w.heap.size,2,none⟩)) (by kernel_rfl) (by kernel_rfl) ?_
 simp only [nrm]
 refine list_val (.int .u64 c) (by kernel_rfl) (exec_u64 _ (.tmp 57) rfl (w.heap.size) 2 (by kernel_rfl) c (cell_of (hB.get 0 (x:=⟨w.heap.size,fc a b c d e,160⟩) rfl) rfl)) ?_
 simp only [nrm]
 refine list_val (.int .u64 (mu j 5)) (by kernel_rfl) (by kernel_rfl) ?_
 simp only [nrm]
 refine list_val (.int .u64 (mu c (mu j 5))) (by kernel_rfl) (by kernel_rfl) ?_
 simp only [nrm]
 refine list_val (.int .u64 (su (su (mu a g) (mu b f)) (mu c (mu j 5)))) (by kernel_rfl) (by kernel_rfl) ?_
 simp only [nrm]
 refine list_val (.pointer (some ⟨w.heap.size,3,none⟩)) (by kernel_rfl) (by kernel_rfl) ?_
 simp only [nrm]
 refine list_val (.int .u64 d) (by kernel_rfl) (exec_u64 _ (.tmp 62) rfl (w.heap.size) 3 (by kernel_rfl) d (cell_of (hB.get 0 (x:=⟨w.heap.size,fc a b c d e,160⟩) rfl) rfl)) ?_
 simp only [nrm]
 refine list_val (.int .u64 (mu i 5)) (by kernel_rfl) (by kernel_rfl) ?_
 simp only [nrm]
 refine list_val (.int .u64 (mu d (mu i 5))) (by kernel_rfl) (by kernel_rfl) ?_
 simp only [nrm]
 refine list_val (.int .u64 (su (su (su (mu a g) (mu b f)) (mu c (mu j 5))) (mu d (mu i 5)))) (by kernel_rfl) (by kernel_rfl) ?_
 simp only [nrm]
 refine list_val (.pointer (some ⟨w.heap.size,4,none⟩)) (by kernel_rfl) (by kernel_rfl) ?_
 simp only [nrm]
 refine list_val (.int .u64 e) (by kernel_rfl) (exec_u64 _ (.tmp 67) rfl (w.heap.size) 4 (by kernel_rfl) e (cell_of (hB.get 0 (x:=⟨w.heap.size,fc a b c d e,160⟩) rfl) rfl)) ?_
 simp only [nrm]
 refine list_val (.int .u64 (mu h 5)) (by kernel_rfl) (by kernel_rfl) ?_
 simp only [nrm]
 refine list_val (.int .u64 (mu e (mu h 5))) (by kernel_rfl) (by kernel_rfl) ?_
 simp only [nrm]
 refine list_val (.int .u64 (su (su (su (su (mu a g) (mu b f)) (mu c (mu j 5))) (mu d (mu i 5))) (mu e (mu h 5)))) (by kernel_rfl) (by kernel_rfl) ?_
 simp only [nrm]
 refine list_val (.pointer (some ⟨w.heap.size,0,none⟩)) (by kernel_rfl) (by kernel_rfl) ?_
 simp only [nrm]
 refine list_val (.int .u64 a) (by kernel_rfl) (exec_u64 _ (.tmp 72) rfl (w.heap.size) 0 (by kernel_rfl) a (cell_of (hB.get 0 (x:=⟨w.heap.size,fc a b c d e,160⟩) rfl) rfl)) ?_
 simp only [nrm]
 refine list_val (.pointer (some ⟨w.heap.size+1,2,none⟩)) (by kernel_rfl) (by kernel_rfl) ?_
 simp only [nrm]
 refine list_val (.int .u64 h) (by kernel_rfl) (exec_u64 _ (.tmp 74) rfl (w.heap.size+1) 2 (by kernel_rfl) h (cell_of (hB.get 1 (x:=⟨w.heap.size+1,fc f g h i j,160⟩) rfl) rfl)) ?_
 simp only [nrm]
 refine list_val (.int .u64 (mu a h)) (by kernel_rfl) (by kernel_rfl) ?_
 simp only [nrm]
 refine list_val (.pointer (some ⟨w.heap.size,1,none⟩)) (by kernel_rfl) (by kernel_rfl) ?_
 simp only [nrm]
 refine list_val (.int .u64 b) (by kernel_rfl) (exec_u64 _ (.tmp 77) rfl (w.heap.size) 1 (by kernel_rfl) b (cell_of (hB.get 0 (x:=⟨w.heap.size,fc a b c d e,160⟩) rfl) rfl)) ?_
 simp only [nrm]
 refine list_val (.pointer (some ⟨w.heap.size+1,1,none⟩)) (by kernel_rfl) (by kernel_rfl) ?_
 simp only [nrm]
 refine list_val (.int .u64 g) (by kernel_rfl) (exec_u64 _ (.tmp 79) rfl (w.heap.size+1) 1 (by kernel_rfl) g (cell_of (hB.get 1 (x:=⟨w.heap.size+1,fc f g h i j,160⟩) rfl) rfl)) ?_
 simp only [nrm]
 refine list_val (.int .u64 (mu b g)) (by kernel_rfl) (by kernel_rfl) ?_
 simp only [nrm]
 refine list_val (.int .u64 (su (mu a h) (mu b g))) (by kernel_rfl) (by kernel_rfl) ?_
 simp only [nrm]
 refine list_val (.pointer (some ⟨w.heap.size,2,none⟩)) (by kernel_rfl) (by kernel_rfl) ?_
 simp only [nrm]
 refine list_val (.int .u64 c) (by kernel_rfl) (exec_u64 _ (.tmp 83) rfl (w.heap.size) 2 (by kernel_rfl) c (cell_of (hB.get 0 (x:=⟨w.heap.size,fc a b c d e,160⟩) rfl) rfl)) ?_
 simp only [nrm]
 refine list_val (.pointer (some ⟨w.heap.size+1,0,none⟩)) (by kernel_rfl) (by kernel_rfl) ?_
 simp only [nrm]
 refine list_val (.int .u64 f) (by kernel_rfl) (exec_u64 _ (.tmp 85) rfl (w.heap.size+1) 0 (by kernel_rfl) f (cell_of (hB.get 1 (x:=⟨w.heap.size+1,fc f g h i j,160⟩) rfl) rfl)) ?_
 simp only [nrm]
 refine list_val (.int .u64 (mu c f)) (by kernel_rfl) (by kernel_rfl) ?_
 simp only [nrm]
 refine list_val (.int .u64 (su (su (mu a h) (mu b g)) (mu c f))) (by kernel_rfl) (by kernel_rfl) ?_
 simp only [nrm]
 refine list_val (.pointer (some ⟨w.heap.size,3,none⟩)) (by kernel_rfl) (by kernel_rfl) ?_
 simp only [nrm]
 refine list_val (.int .u64 d) (by kernel_rfl) (exec_u64 _ (.tmp 89) rfl (w.heap.size) 3 (by kernel_rfl) d (cell_of (hB.get 0 (x:=⟨w.heap.size,fc a b c d e,160⟩) rfl) rfl)) ?_
 simp only [nrm]
 refine list_val (.int .u64 (mu j 5)) (by kernel_rfl) (by kernel_rfl) ?_
 simp only [nrm]
 refine list_val (.int .u64 (mu d (mu j 5))) (by kernel_rfl) (by kernel_rfl) ?_
 simp only [nrm]
 refine list_val (.int .u64 (su (su (su (mu a h) (mu b g)) (mu c f)) (mu d (mu j 5)))) (by kernel_rfl) (by kernel_rfl) ?_
 simp only [nrm]
 refine list_val (.pointer (some ⟨w.heap.size,4,none⟩)) (by kernel_rfl) (by kernel_rfl) ?_
 simp only [nrm]
 refine list_val (.int .u64 e) (by kernel_rfl) (exec_u64 _ (.tmp 94) rfl (w.heap.size) 4 (by kernel_rfl) e (cell_of (hB.get 0 (x:=⟨w.heap.size,fc a b c d e,160⟩) rfl) rfl)) ?_
 simp only [nrm]
 refine list_val (.int .u64 (mu i 5)) (by kernel_rfl) (by kernel_rfl) ?_
 simp only [nrm]
 refine list_val (.int .u64 (mu e (mu i 5))) (by kernel_rfl) (by kernel_rfl) ?_
 simp only [nrm]
 refine list_val (.int .u64 (su (su (su (su (mu a h) (mu b g)) (mu c f)) (mu d (mu j 5))) (mu e (mu i 5)))) (by kernel_rfl) (by kernel_rfl) ?_
 simp only [nrm]
 refine list_val (.pointer (some ⟨w.heap.size,0,none⟩)) (by kernel_rfl) (by kernel_rfl) ?_
 simp only [nrm]
 refine list_val (.int .u64 a) (by kernel_rfl) (exec_u64 _ (.tmp 99) rfl (w.heap.size) 0 (by kernel_rfl) a (cell_of (hB.get 0 (x:=⟨w.heap.size,fc a b c d e,160⟩) rfl) rfl)) ?_
 simp only [nrm]
 refine list_val (.pointer (some ⟨w.heap.size+1,3,none⟩)) (by kernel_rfl) (by kernel_rfl) ?_
 simp only [nrm]
 refine list_val (.int .u64 i) (by kernel_rfl) (exec_u64 _ (.tmp 101) rfl (w.heap.size+1) 3 (by kernel_rfl) i (cell_of (hB.get 1 (x:=⟨w.heap.size+1,fc f g h i j,160⟩) rfl) rfl)) ?_
 simp only [nrm]
 refine list_val (.int .u64 (mu a i)) (by kernel_rfl) (by kernel_rfl) ?_
 simp only [nrm]
 refine list_val (.pointer (some ⟨w.heap.size,1,none⟩)) (by kernel_rfl) (by kernel_rfl) ?_
 simp only [nrm]
 refine list_val (.int .u64 b) (by kernel_rfl) (exec_u64 _ (.tmp 104) rfl (w.heap.size) 1 (by kernel_rfl) b (cell_of (hB.get 0 (x:=⟨w.heap.size,fc a b c d e,160⟩) rfl) rfl)) ?_
 simp only [nrm]
 refine list_val (.pointer (some ⟨w.heap.size+1,2,none⟩)) (by kernel_rfl) (by kernel_rfl) ?_
 simp only [nrm]
 refine list_val (.int .u64 h) (by kernel_rfl) (exec_u64 _ (.tmp 106) rfl (w.heap.size+1) 2 (by kernel_rfl) h (cell_of (hB.get 1 (x:=⟨w.heap.size+1,fc f g h i j,160⟩) rfl) rfl)) ?_
 simp only [nrm]
 refine list_val (.int .u64 (mu b h)) (by kernel_rfl) (by kernel_rfl) ?_
 simp only [nrm]
 refine list_val (.int .u64 (su (mu a i) (mu b h))) (by kernel_rfl) (by kernel_rfl) ?_
 simp only [nrm]
 refine list_val (.pointer (some ⟨w.heap.size,2,none⟩)) (by kernel_rfl) (by kernel_rfl) ?_
 simp only [nrm]
 refine list_val (.int .u64 c) (by kernel_rfl) (exec_u64 _ (.tmp 110) rfl (w.heap.size) 2 (by kernel_rfl) c (cell_of (hB.get 0 (x:=⟨w.heap.size,fc a b c d e,160⟩) rfl) rfl)) ?_
 simp only [nrm]
 refine list_val (.pointer (some ⟨w.heap.size+1,1,none⟩)) (by kernel_rfl) (by kernel_rfl) ?_
 simp only [nrm]
 refine list_val (.int .u64 g) (by kernel_rfl) (exec_u64 _ (.tmp 112) rfl (w.heap.size+1) 1 (by kernel_rfl) g (cell_of (hB.get 1 (x:=⟨w.heap.size+1,fc f g h i j,160⟩) rfl) rfl)) ?_
 simp only [nrm]
 refine list_val (.int .u64 (mu c g)) (by kernel_rfl) (by kernel_rfl) ?_
 simp only [nrm]
 refine list_val (.int .u64 (su (su (mu a i) (mu b h)) (mu c g))) (by kernel_rfl) (by kernel_rfl) ?_
 simp only [nrm]
 refine list_val (.pointer (some ⟨w.heap.size,3,none⟩)) (by kernel_rfl) (by kernel_rfl) ?_
 simp only [nrm]
 refine list_val (.int .u64 d) (by kernel_rfl) (exec_u64 _ (.tmp 116) rfl (w.heap.size) 3 (by kernel_rfl) d (cell_of (hB.get 0 (x:=⟨w.heap.size,fc a b c d e,160⟩) rfl) rfl)) ?_
 simp only [nrm]
 refine list_val (.pointer (some ⟨w.heap.size+1,0,none⟩)) (by kernel_rfl) (by kernel_rfl) ?_
 simp only [nrm]
 refine list_val (.int .u64 f) (by kernel_rfl) (exec_u64 _ (.tmp 118) rfl (w.heap.size+1) 0 (by kernel_rfl) f (cell_of (hB.get 1 (x:=⟨w.heap.size+1,fc f g h i j,160⟩) rfl) rfl)) ?_
 simp only [nrm]
 refine list_val (.int .u64 (mu d f)) (by kernel_rfl) (by kernel_rfl) ?_
 simp only [nrm]
 refine list_val (.int .u64 (su (su (su (mu a i) (mu b h)) (mu c g)) (mu d f))) (by kernel_rfl) (by kernel_rfl) ?_
 simp only [nrm]
 refine list_val (.pointer (some ⟨w.heap.size,4,none⟩)) (by kernel_rfl) (by kernel_rfl) ?_
 simp only [nrm]
 refine list_val (.int .u64 e) (by kernel_rfl) (exec_u64 _ (.tmp 122) rfl (w.heap.size) 4 (by kernel_rfl) e (cell_of (hB.get 0 (x:=⟨w.heap.size,fc a b c d e,160⟩) rfl) rfl)) ?_
 simp only [nrm]
 refine list_val (.int .u64 (mu j 5)) (by kernel_rfl) (by kernel_rfl) ?_
 simp only [nrm]
 refine list_val (.int .u64 (mu e (mu j 5))) (by kernel_rfl) (by kernel_rfl) ?_
 simp only [nrm]
 refine list_val (.int .u64 (su (su (su (su (mu a i) (mu b h)) (mu c g)) (mu d f)) (mu e (mu j 5)))) (by kernel_rfl) (by kernel_rfl) ?_
 simp only [nrm]
 refine list_val (.pointer (some ⟨w.heap.size,0,none⟩)) (by kernel_rfl) (by kernel_rfl) ?_
 simp only [nrm]
 refine list_val (.int .u64 a) (by kernel_rfl) (exec_u64 _ (.tmp 127) rfl (w.heap.size) 0 (by kernel_rfl) a (cell_of (hB.get 0 (x:=⟨w.heap.size,fc a b c d e,160⟩) rfl) rfl)) ?_
 simp only [nrm]
 refine list_val (.pointer (some ⟨w.heap.size+1,4,none⟩)) (by kernel_rfl) (by kernel_rfl) ?_
 simp only [nrm]
 refine list_val (.int .u64 j) (by kernel_rfl) (exec_u64 _ (.tmp 129) rfl (w.heap.size+1) 4 (by kernel_rfl) j (cell_of (hB.get 1 (x:=⟨w.heap.size+1,fc f g h i j,160⟩) rfl) rfl)) ?_
 simp only [nrm]
 refine list_val (.int .u64 (mu a j)) (by kernel_rfl) (by kernel_rfl) ?_
 simp only [nrm]
 refine list_val (.pointer (some ⟨w.heap.size,1,none⟩)) (by kernel_rfl) (by kernel_rfl) ?_
 simp only [nrm]
 refine list_val (.int .u64 b) (by kernel_rfl) (exec_u64 _ (.tmp 132) rfl (w.heap.size) 1 (by kernel_rfl) b (cell_of (hB.get 0 (x:=⟨w.heap.size,fc a b c d e,160⟩) rfl) rfl)) ?_
 simp only [nrm]
 refine list_val (.pointer (some ⟨w.heap.size+1,3,none⟩)) (by kernel_rfl) (by kernel_rfl) ?_
 simp only [nrm]
 refine list_val (.int .u64 i) (by kernel_rfl) (exec_u64 _ (.tmp 134) rfl (w.heap.size+1) 3 (by kernel_rfl) i (cell_of (hB.get 1 (x:=⟨w.heap.size+1,fc f g h i j,160⟩) rfl) rfl)) ?_
 simp only [nrm]
 refine list_val (.int .u64 (mu b i)) (by kernel_rfl) (by kernel_rfl) ?_
 simp only [nrm]
 refine list_val (.int .u64 (su (mu a j) (mu b i))) (by kernel_rfl) (by kernel_rfl) ?_
 simp only [nrm]
 refine list_val (.pointer (some ⟨w.heap.size,2,none⟩)) (by kernel_rfl) (by kernel_rfl) ?_
 simp only [nrm]
 refine list_val (.int .u64 c) (by kernel_rfl) (exec_u64 _ (.tmp 138) rfl (w.heap.size) 2 (by kernel_rfl) c (cell_of (hB.get 0 (x:=⟨w.heap.size,fc a b c d e,160⟩) rfl) rfl)) ?_
 simp only [nrm]
 refine list_val (.pointer (some ⟨w.heap.size+1,2,none⟩)) (by kernel_rfl) (by kernel_rfl) ?_
 simp only [nrm]
 refine list_val (.int .u64 h) (by kernel_rfl) (exec_u64 _ (.tmp 140) rfl (w.heap.size+1) 2 (by kernel_rfl) h (cell_of (hB.get 1 (x:=⟨w.heap.size+1,fc f g h i j,160⟩) rfl) rfl)) ?_
 simp only [nrm]
 refine list_val (.int .u64 (mu c h)) (by kernel_rfl) (by kernel_rfl) ?_
 simp only [nrm]
 refine list_val (.int .u64 (su (su (mu a j) (mu b i)) (mu c h))) (by kernel_rfl) (by kernel_rfl) ?_
 simp only [nrm]
 refine list_val (.pointer (some ⟨w.heap.size,3,none⟩)) (by kernel_rfl) (by kernel_rfl) ?_
 simp only [nrm]
 refine list_val (.int .u64 d) (by kernel_rfl) (exec_u64 _ (.tmp 144) rfl (w.heap.size) 3 (by kernel_rfl) d (cell_of (hB.get 0 (x:=⟨w.heap.size,fc a b c d e,160⟩) rfl) rfl)) ?_
 simp only [nrm]
 refine list_val (.pointer (some ⟨w.heap.size+1,1,none⟩)) (by kernel_rfl) (by kernel_rfl) ?_
 simp only [nrm]
 refine list_val (.int .u64 g) (by kernel_rfl) (exec_u64 _ (.tmp 146) rfl (w.heap.size+1) 1 (by kernel_rfl) g (cell_of (hB.get 1 (x:=⟨w.heap.size+1,fc f g h i j,160⟩) rfl) rfl)) ?_
 simp only [nrm]
 refine list_val (.int .u64 (mu d g)) (by kernel_rfl) (by kernel_rfl) ?_
 simp only [nrm]
 refine list_val (.int .u64 (su (su (su (mu a j) (mu b i)) (mu c h)) (mu d g))) (by kernel_rfl) (by kernel_rfl) ?_
 simp only [nrm]
 refine list_val (.pointer (some ⟨w.heap.size,4,none⟩)) (by kernel_rfl) (by kernel_rfl) ?_
 simp only [nrm]
 refine list_val (.int .u64 e) (by kernel_rfl) (exec_u64 _ (.tmp 150) rfl (w.heap.size) 4 (by kernel_rfl) e (cell_of (hB.get 0 (x:=⟨w.heap.size,fc a b c d e,160⟩) rfl) rfl)) ?_
 simp only [nrm]
 refine list_val (.pointer (some ⟨w.heap.size+1,0,none⟩)) (by kernel_rfl) (by kernel_rfl) ?_
 simp only [nrm]
 refine list_val (.int .u64 f) (by kernel_rfl) (exec_u64 _ (.tmp 152) rfl (w.heap.size+1) 0 (by kernel_rfl) f (cell_of (hB.get 1 (x:=⟨w.heap.size+1,fc f g h i j,160⟩) rfl) rfl)) ?_
 simp only [nrm]
 refine list_val (.int .u64 (mu e f)) (by kernel_rfl) (by kernel_rfl) ?_
 simp only [nrm]
 refine list_val (.int .u64 (su (su (su (su (mu a j) (mu b i)) (mu c h)) (mu d g)) (mu e f))) (by kernel_rfl) (by kernel_rfl) ?_
 simp only [nrm]
 refine list_val (.agg (fc (su (su (su (su (mu a f) (mu b (mu j 5))) (mu c (mu i 5))) (mu d (mu h 5))) (mu e (mu g 5))) (su (su (su (su (mu a g) (mu b f)) (mu c (mu j 5))) (mu d (mu i 5))) (mu e (mu h 5))) (su (su (su (su (mu a h) (mu b g)) (mu c f)) (mu d (mu j 5))) (mu e (mu i 5))) (su (su (su (su (mu a i) (mu b h)) (mu c g)) (mu d f)) (mu e (mu j 5))) (su (su (su (su (mu a j) (mu b i)) (mu c h)) (mu d g)) (mu e f)))) (by kernel_rfl) (by kernel_rfl) ?_
 simp only [nrm]
 have w1:=wm g (unhide hg)
 have w2:=wm h (unhide hh)
 have w3:=wm i (unhide hi)
 have w4:=wm j (unhide hj)
 simp only [w1.1,w2.1,w3.1,w4.1]
 obtain ⟨s0,m0⟩:=five_mu a b c d e f (j * 5) (i * 5) (h * 5) (g * 5) (unhide ha) (unhide hb) (unhide hc) (unhide hd) (unhide he) (dl (unhide hf)) w4.2 w3.2 w2.2 w1.2
 obtain ⟨s1,m1⟩:=five_mu a b c d e g f (j * 5) (i * 5) (h * 5) (unhide ha) (unhide hb) (unhide hc) (unhide hd) (unhide he) (dl (unhide hg)) (dl (unhide hf)) w4.2 w3.2 w2.2
 obtain ⟨s2,m2⟩:=five_mu a b c d e h g f (j * 5) (i * 5) (unhide ha) (unhide hb) (unhide hc) (unhide hd) (unhide he) (dl (unhide hh)) (dl (unhide hg)) (dl (unhide hf)) w4.2 w3.2
 obtain ⟨s3,m3⟩:=five_mu a b c d e i h g f (j * 5) (unhide ha) (unhide hb) (unhide hc) (unhide hd) (unhide he) (dl (unhide hi)) (dl (unhide hh)) (dl (unhide hg)) (dl (unhide hf)) w4.2
 obtain ⟨s4,m4⟩:=five_mu a b c d e j i h g f (unhide ha) (unhide hb) (unhide hc) (unhide hd) (unhide he) (dl (unhide hj)) (dl (unhide hi)) (dl (unhide hh)) (dl (unhide hg)) (dl (unhide hf))
 rw [s0,s1,s2,s3,s4]
 have hmod:=hide (times_mod a b c d e f g h i j)
 clear w1 w2 w3 w4 s0 s1 s2 s3 s4
 generalize a * f+b * (j * 5)+c * (i * 5)+d * (h * 5)+e * (g * 5)=P0 at *
 generalize a * g+b * f+c * (j * 5)+d * (i * 5)+e * (h * 5)=P1 at *
 generalize a * h+b * g+c * f+d * (j * 5)+e * (i * 5)=P2 at *
 generalize a * i+b * h+c * g+d * f+e * (j * 5)=P3 at *
 generalize a * j+b * i+c * h+d * g+e * f=P4 at *
 refine list_call 133 #[.agg (fc P0 P1 P2 P3 P4)] (by kernel_rfl) (by kernel_rfl) ((carried_ok P0 P1 P2 P3 P4 m0 m1 m2 m3 m4 _).mono ?_)
 rintro r u1 ⟨y0,y1,y2,y3,y4,rfl,hcar,hgr⟩
 refine ⟨_,rfl,?_⟩
 replace hB:=hB.more hgr
 clear hgr
 rw [unhide hmod] at hcar
 replace hcar:=hide hcar
 simp only [nrm]
 refine list_store 160 (.tmp 4) (.tmp 157) (w.heap.size+1+1) (fc y0 y1 y2 y3 y4) 160 (fc 0 0 0 0 0) (by kernel_rfl) rfl (by kernel_rfl) (by kernel_rfl) (hB.get 2 (x:=⟨w.heap.size+1+1,fc 0 0 0 0 0,160⟩) rfl) Tryz.infoPL rfl (fc_one _ _ _ _ _) ?_
 replace hB:=hB.set 2 (x:=⟨w.heap.size+1+1,fc 0 0 0 0 0,160⟩) rfl (fc y0 y1 y2 y3 y4)
 simp only [List.set_cons_zero,List.set_cons_succ] at hB
 generalize World.setRow _ _ _=u2 at *
 simp only [nrm]
 refine wpList_nil ?_
 replace hB:=hide hB
 go_wp2_with fail
 replace hB:=unhide hB
 rw [unhide hT]
 exact bodyPost_ret (v:=.agg (fc y0 y1 y2 y3 y4)) (results_cell_row Tryz.results128 _ _ (w.heap.size+1+1) 160 (fc y0 y1 y2 y3 y4) (0,0) _ rfl (hB.get 2 (x:=⟨w.heap.size+1+1,fc y0 y1 y2 y3 y4,160⟩) rfl) Tryz.underlying160 rfl Tryz.infoPL) rfl (⟨_,_,_,_,_,rfl,unhide hcar,hB.gr⟩)
end Go.Proofs.YthahhglbeafkmaaGreatDoor
namespace Go.Proofs.YthahhglbeafkmaaGreatDoor
open Go.RowKit
set_option maxRecDepth 100000
set_option linter.unusedSimpArgs false
set_option linter.unusedVariables false
def lowN:List Int→Int
 | []=>0
 | x::r=>x+256 * lowN r
theorem lowN_V:∀ (l:List Int),IsB l→lowN l=((V (nb l):Nat):Int)
 | [],_=>rfl
 | x::r,h=>by
  have h1:=lowN_V r (fun y hy=>h y (List.mem_cons_of_mem _ hy))
  have hx:=h x List.mem_cons_self
  have e:nb (x::r)=x.toNat::nb r:=rfl
  rw [lowN,h1,e,V]
  omega
theorem lowN_bd (l:List Int) (h:IsB l):0≤lowN l∧lowN l<256 ^ l.length:=by
 induction l with
 | nil=>simp [lowN]
 | cons x r ih =>
  have:=ih (fun y hy=>h y (List.mem_cons_of_mem _ hy))
  have hx:=h x (List.mem_cons_self ..)
  simp only [lowN,List.length_cons]
  rw [Int.pow_succ]
  omega
theorem lowN_append (l m:List Int):lowN (l++m)=lowN l+256 ^ l.length * lowN m:=by
 induction l with
 | nil=>simp [lowN]
 | cons x r ih =>
  simp only [List.cons_append,lowN,ih,List.length_cons,Int.pow_succ,Int.mul_add]
  rw [Int.add_assoc,← Int.mul_assoc,Int.mul_comm 256 (256 ^ _)]
theorem lowN_snoc (l:List Int) (c:Int):lowN (l++[c])=lowN l+c * 256 ^ l.length:=by
 rw [lowN_append,Int.mul_comm]
 simp [lowN]
theorem or_add (x y:Int) (k:Nat) (hx:0≤x∧x<((2 ^ k:Nat):Int)) (hy0:0≤y) (hy1:y<18446744073709551616) (hx1:x<18446744073709551616) (hy:y % ((2 ^ k:Nat):Int)=0):bits .or .u64 x y=x+y:=by
 obtain ⟨X,rfl⟩:=Int.eq_ofNat_of_zero_le hx.1
 obtain ⟨Y,rfl⟩:=Int.eq_ofNat_of_zero_le hy0
 rw [u64_or_nat X Y (by omega) (by omega)]
 have hX:X<2 ^ k:=by have:=hx.2; exact_mod_cast this
 have hY:Y % 2 ^ k=0:=by
  have h:((Y % 2 ^ k:Nat):Int)=0:=by rw [Int.natCast_emod]; exact hy
  omega
 have:=nat_join k Y X hY hX
 rw [Nat.or_comm] at this
 rw [this]
 omega
theorem or_step (X y:Int) (k:Nat) (hk:k<8) (h0:0≤X) (h1:X<256 ^ k) (hy0:0≤y) (hy1:y<256) :
  bits .or .u64 X (IntKind.u64.wrap (y * 2 ^ (8 * k)))=X+y * 256 ^ k:=by
 obtain ⟨N,rfl⟩:=Int.eq_ofNat_of_zero_le h0
 obtain ⟨Y,rfl⟩:=Int.eq_ofNat_of_zero_le hy0
 have e:(256:Nat) ^ k=2 ^ (8 * k):=by rw [Nat.pow_mul]
 have e1:(256:Int) ^ k=((2 ^ (8 * k):Nat):Int):=by rw [← e]; simp
 have e2:(2:Int) ^ (8 * k)=((2 ^ (8 * k):Nat):Int):=by simp
 have hN:N<2 ^ (8 * k):=by rw [e1] at h1; omega
 have hY:Y<256:=by omega
 have hle:2 ^ (8 * k)≤2 ^ 56:=Nat.pow_le_pow_right (by omega) (by omega)
 rw [e1,e2]
 generalize hP:2 ^ (8 * k)=P at *
 have hYP:Y * P<18446744073709551616:=by
  have:Y * P≤255 * P:=Nat.mul_le_mul_right _ (by omega)
  omega
 have e3:IntKind.u64.wrap ((Y:Int) * (P:Int))=((Y * P:Nat):Int):=by
  rw [IntKind.wrap_u64]
  rw [← Int.natCast_mul]
  omega
 rw [e3,u64_or_nat N (Y * P) (by omega) hYP]
 have:=nat_join (8 * k) (Y * P) N (by rw [hP]; exact Nat.mul_mod_left _ _) (by rw [hP]; exact hN)
 rw [Nat.or_comm] at this
 rw [this]
 rw [← Int.natCast_mul]
 omega
theorem take_snoc_getD (l:List Int) (k:Nat) (h:k<l.length):l.take (k+1)=l.take k++[l.getD k 0]:=by
 rw [List.take_succ_eq_append_getElem h,List.getD_eq_getElem?_getD,List.getElem?_eq_getElem h]; rfl
theorem lowN_step (l:List Int) (k:Nat) (y:Int) (h:k<l.length) (h8:l.length≤8) (hb:IsB l) (hy:y=l.getD k 0) :
  bits .or .u64 (lowN (l.take k)) (IntKind.u64.wrap (y * 2 ^ (8 * k)))=lowN (l.take (k+1)):=by
 have hm:=hb.at_ k
 have hbd:=lowN_bd (l.take k) (hb.take k)
 have hlen:(l.take k).length=k:=by simp; omega
 rw [hlen] at hbd
 rw [take_snoc_getD l k h,lowN_snoc,hlen,← hy]
 rw [← hy] at hm
 exact or_step _ _ k (by omega) hbd.1 hbd.2 hm.1 hm.2
set_option maxHeartbeats 400000 in
theorem onum_ok (p o n c:Nat) (l:List Int) (w:World) (hl:l.length=n) (hn:n≤8) (hb:IsB l) (hat:At w p o l) :
  Calls Tryz.prog 79 #[.slice (some ⟨p,o,none⟩) n c] w fun e w'=>e=.returned (.int .u64 (lowN l))∧w'=w:=by
 have hc:∀ i,i<n→w.cell? ⟨p,o+i,none⟩=some (.int .u8 (l.getD i 0)):=fun i hi=>hat i (by omega)
 clear hat
 go_enter Tryz.func79,Tryz.ntmps79
 go_wp2
 go_loop [3,8] (fun x i=>∃ k:Nat,k≤n∧i=.int .i64 k∧x=.int .u64 (lowN (l.take k))) (fun _ i=>n - (intOf i).toNat)
 case atStart=>exact ⟨0,Nat.zero_le _,rfl,by simp [lowN]⟩
 case round =>
  obtain ⟨k,hk,rfl,rfl⟩:=hrel
  by_cases hlt:k<n
  ·have hck:=hc k hlt
   have hx:=hb.at_ k
   obtain ⟨y,hy⟩:∃ y,y=l.getD k 0:=⟨_,rfl⟩
   rw [← hy] at hck hx
   have HB:Hid (∀ y,y=l.getD k 0→bits .or .u64 (lowN (l.take k)) (IntKind.u64.wrap (y * 2 ^ (8 * k)))=lowN (l.take (k+1))):=fun y hy=>lowN_step l k y (by omega) (by omega) hb hy
   have HY:=hide hy
   obtain ⟨hx0,hx1⟩:=hx
   clear hy hc hb
   go_wp2
   go_round
   case rel=>exact ⟨k+1,by omega,by go_num,by rw [unhide HB y HY]⟩
   case measure=>simp [intOf]; omega
  ·go_wp2
   go_ret
   rw [List.take_of_length_le (by omega)]
   exact ⟨rfl,rfl⟩
theorem exec_to8 {a:Act} {op:Oper} (w:World) (x y:Operand) (ho:op.op=.slice 43 x none (some y) none) (p o n cap:Nat) (hx:a.eval x=.slice (some ⟨p,o,none⟩) n cap) (hy:a.eval y=.int .i64 (8:Nat)) (hc:n≤cap) (hn:8≤n) :
  (execOp a.eval op).run Tryz.prog w=.ok (.value (.slice (some ⟨p,o,none⟩) 8 cap)) w:=by
 have h:=exec_upto w x y ho (some ⟨p,o,none⟩) n cap 8 hx hy hc hn
 rw [if_neg (by omega),Option.map_some,add_zero] at h
 exact h
set_option maxHeartbeats 400000 in
theorem get64_ok (p o n c:Nat) (B:List Int) (w:World) (hl:B.length=n) (h8:8≤n) (hc:n≤c) (hcb:c<9223372036854775808) (hb:IsB B) (hat:At w p o B) :
  Calls Tryz.prog 78 #[.slice (some ⟨p,o,none⟩) n c] w fun e w'=>e=.returned (.int .u64 (lowN (B.take 8)))∧w'=w:=by
 have hcon:=hide (onum_ok p o 8 c (B.take 8) w (by rw [List.length_take]; omega) (by omega) (hb.take 8) (hat.take 8))
 have nI:¬ (n:Int)<8:=by omega
 have nI2:(8:Int)≤n:=by omega
 have cI:(8:Int)≤c:=by omega
 have cN:¬ c=0:=by omega
 clear hat
 generalize lowN (B.take 8)=x at *
 go_enter Tryz.func78,Tryz.ntmps78
 go_upto_region 1 with fail
 refine wp_region_lit ?_
 refine list_val (.slice (some ⟨p,o,none⟩) n c) (by kernel_rfl) (by kernel_rfl) ?_
 simp only [nrm]
 refine list_val (.slice (some ⟨p,o,none⟩) n c) (by kernel_rfl) (by kernel_rfl) ?_
 simp only [nrm]
 refine list_val (.int .i64 n) (by kernel_rfl) (by kernel_rfl) ?_
 simp only [nrm]
 refine list_val (.int .i64 (8:Nat)) (by kernel_rfl) (by go_simp; omega) ?_
 simp only [nrm]
 refine list_val (.slice (some ⟨p,o,none⟩) 8 c) (by kernel_rfl) (exec_to8 _ (.tmp 3) (.tmp 6) rfl p o n c (by kernel_rfl) (by kernel_rfl) hc h8) ?_
 simp only [nrm]
 refine list_call 79 #[.slice (some ⟨p,o,none⟩) 8 c] (by kernel_rfl) (by kernel_rfl) ((unhide hcon).mono ?_)
 rintro r u ⟨rfl,rfl⟩
 refine ⟨_,rfl,?_⟩
 simp only [nrm]
 (refine wpList_step fun K hK=>?_; replace hK:=hide hK; go_simp; refine unhide hK _ _ ?_; clear hK K)
 refine wpList_nil ?_
 go_wp2_with fail
 go_ret
 exact ⟨rfl,rfl⟩
theorem num_parts (lo hi:Int) (hl:0≤lo∧lo<18446744073709551616) (hh:0≤hi∧hi<18446744073709551616) :
  bits .and .u64 lo 67108863=lo % 67108864∧bits .and .u64 (lo / 2 ^ 26) 67108863=lo / 67108864 % 67108864∧bits .and .u64 (bits .or .u64 (lo / 2 ^ 52) (IntKind.u64.wrap (hi * 2 ^ 12))) 67108863=lo / 4503599627370496+hi % 16384 * 4096∧bits .and .u64 (hi / 2 ^ 14) 67108863=hi / 16384 % 67108864∧hi / 2 ^ 40=hi / 1099511627776:=by
 have e1:(2:Int) ^ 26=67108864:=by decide
 have e2:(2:Int) ^ 52=4503599627370496:=by decide
 have e3:(2:Int) ^ 12=4096:=by decide
 have e4:(2:Int) ^ 14=16384:=by decide
 have e5:(2:Int) ^ 40=1099511627776:=by decide
 rw [e1,e2,e3,e4,e5,mask26 lo (by omega) (by omega),mask26 (lo / 67108864) (by omega) (by omega),mask26 (hi / 16384) (by omega) (by omega),IntKind.wrap_u64]
 have e6:=or_add (lo / 4503599627370496) (hi * 4096 % 18446744073709551616) 12 (by rw [show ((2 ^ 12:Nat):Int)=4096 from rfl]; omega) (by omega) (by omega) (by omega) (by rw [show ((2 ^ 12:Nat):Int)=4096 from rfl]; omega)
 rw [e6,mask26 _ (by omega) (by omega)]
 refine ⟨rfl,rfl,?_,rfl,rfl⟩
 omega
theorem num_val (lo hi:Int) (hl:0≤lo∧lo<18446744073709551616) (hh:0≤hi∧hi<18446744073709551616):v5 (lo % 67108864) (lo / 67108864 % 67108864) (lo / 4503599627370496+hi % 16384 * 4096) (hi / 16384 % 67108864) (hi / 1099511627776)=lo+18446744073709551616 * hi:=by
 unfold v5
 omega
def Nmd (n:Int) (w:World) (r:Ending) (w':World):Prop:=∃ a b c d e,r=.returned (.agg (fc a b c d e))∧Dg a∧Dg b∧Dg c∧Dg d∧(0≤e∧e<16777216)∧v5 a b c d e=n∧Gr w w'
theorem exec_from8 {a:Act} {o:Oper} (w:World) (x y:Operand) (ho:o.op=.slice 43 x (some y) none none) (p q cap:Nat) (hx:a.eval x=.slice (some ⟨p,q,none⟩) 16 cap) (hy:a.eval y=.int .i64 (8:Nat)) (hc:16≤cap) :
  (execOp a.eval o).run Tryz.prog w=.ok (.value (.slice (some ⟨p,q+8,none⟩) 8 (cap - 8))) w:=by
 have h:=exec_from w x y ho (some ⟨p,q,none⟩) 16 cap 8 hx hy hc (by omega)
 rw [if_neg (by omega),Option.map_some,add_some] at h
 exact h
set_option maxHeartbeats 4000000 in
theorem number_ok (B:List Int) (p q cap:Nat) (hl:B.length=16) (hb:IsB B) (hc:16≤cap) (hcb:cap<9223372036854775808) (w:World) (hat:At w p q B):Calls Tryz.prog 112 #[.slice (some ⟨p,q,none⟩) 16 cap] w (Nmd (lowN B) w):=by
 obtain ⟨T,hT⟩:∃ T,T=Nmd (lowN B) w:=⟨_,rfl⟩
 rw [← hT]
 replace hT:=hide hT
 have hat2:=hide hat
 clear hat
 go_enter Tryz.func112,Tryz.ntmps112
 go_upto_region 1 with fail
 have hB:=(Bl.nil w).new #[.int .u64 0,.int .u64 0,.int .u64 0,.int .u64 0,.int .u64 0] 160
 simp only [List.nil_append,List.cons_append] at hB
 generalize World.alloc _ _=u at *
 replace hB:Bl w [⟨w.heap.size,fc 0 0 0 0 0,160⟩] u:=hB
 refine any_start (S:=fun _=>True) (by kernel_rfl) ?_
 replace hB:=hB.drew
 generalize World.drew _=u1 at *
 simp only [List.size_toArray,List.length_cons,List.length_nil,Array.replicate,List.replicate]
 refine any_take (i:=0) (v:=(.slice (some ⟨p,q,none⟩) 16 cap)) #[false,false,false,false,false,false,false] rfl (by kernel_rfl) (by kernel_rfl) (by kernel_rfl) (by kernel_rfl) (fun _ _ _ h=>h) (.inl ⟨by kernel_rfl,fun x_ hu=>by kernel_rfl⟩) trivial ?_
 simp only [nrm]
 refine any_take (i:=2) (v:=(.slice (some ⟨p,q,none⟩) 16 cap)) #[true,false,false,false,false,false,false] rfl (by kernel_rfl) (by kernel_rfl) (by kernel_rfl) (by kernel_rfl) (fun _ _ _ h=>h) (.inl ⟨by kernel_rfl,fun x_ hu=>by kernel_rfl⟩) trivial ?_
 simp only [nrm]
 refine any_take (i:=3) (v:=(.slice (some ⟨p,q+8,none⟩) 8 (cap - 8))) #[true,false,true,false,false,false,false] rfl (by kernel_rfl) (by kernel_rfl) (by kernel_rfl) (by kernel_rfl) (fun _ _ _ h=>h) (.inl ⟨by kernel_rfl,fun x_ hu=>exec_from8 _ (.tmp 7) (.const (.int .i64 8)) rfl p q cap (by kernel_rfl) (by kernel_rfl) hc⟩) trivial ?_
 simp only [nrm]
 refine any_one (i:=1) (by kernel_rfl) rfl (fun K hK=>?_)
 refine step_callw (by kernel_rfl) 78 #[.slice (some ⟨p,q,none⟩) 16 cap] (by kernel_rfl) ((get64_ok p q 16 cap B _ hl (by omega) hc hcb hb ((unhide hat2).gr hB.gr)).mono ?_)
 rintro r u2 ⟨rfl,rfl⟩
 refine ⟨_,rfl,?_⟩
 have hlo:=lowN_bd (B.take 8) (hb.take 8)
 have hlv:Hid (lowN (B.take 8)+18446744073709551616 * lowN (B.drop 8)=lowN B):=by
  have h:=lowN_append (B.take 8) (B.drop 8)
  rw [List.take_append_drop,List.length_take,hl] at h
  exact h.symm
 rw [List.length_take,hl] at hlo
 replace hlo:0≤lowN (B.take 8)∧lowN (B.take 8)<18446744073709551616:=hlo
 generalize lowN (B.take 8)=lo at *
 refine hK.out _ _ trivial (fun _=>?_)
 clear hK K
 simp only [nrm]
 refine any_one (i:=4) (by kernel_rfl) rfl (fun K hK=>?_)
 refine step_callw (by kernel_rfl) 78 #[.slice (some ⟨p,q+8,none⟩) 8 (cap - 8)] (by kernel_rfl) ((get64_ok p (q+8) 8 (cap - 8) (B.drop 8) _ (by rw [List.length_drop,hl]) (by omega) (by omega) (by omega) (hb.drop 8) (((unhide hat2).gr hB.gr).drop 8)).mono ?_)
 rintro r u3 ⟨rfl,rfl⟩
 refine ⟨_,rfl,?_⟩
 have hhi:=lowN_bd (B.drop 8) (hb.drop 8)
 have e8:(B.drop 8).length=8:=by rw [List.length_drop,hl]
 rw [e8] at hhi
 rw [show List.take 8 (B.drop 8)=B.drop 8 from List.take_of_length_le (by omega)]
 replace hhi:0≤lowN (B.drop 8)∧lowN (B.drop 8)<18446744073709551616:=hhi
 clear e8
 generalize lowN (B.drop 8)=hi at *
 refine hK.out _ _ trivial (fun _=>?_)
 clear hK K
 simp only [nrm]
 refine any_one (i:=5) (by kernel_rfl) rfl (fun K hK=>?_)
 replace hK:=hide hK
 go_simp
 refine (unhide hK).out _ _ trivial (fun _=>?_)
 clear hK K
 refine any_one (i:=6) (by kernel_rfl) rfl (fun K hK=>?_)
 replace hK:=hide hK
 go_simp
 refine (unhide hK).out _ _ trivial (fun _=>?_)
 clear hK K
 refine any_done (by kernel_rfl) ?_
 obtain ⟨t1,t2,t3,t4,t5⟩:=num_parts lo hi hlo hhi
 have hval:=num_val lo hi hlo hhi
 replace hB:=hide hB
 replace hlo:=hide hlo; replace hhi:=hide hhi; replace hval:=hide hval
 replace t1:=hide t1; replace t2:=hide t2; replace t3:=hide t3; replace t4:=hide t4; replace t5:=hide t5
 go_upto_region 2 with fail
 replace hB:=unhide hB
 refine wp_region_lit ?_
 refine list_val (.int .u64 lo) (by kernel_rfl) (by kernel_rfl) ?_
 simp only [nrm]
 refine list_val (.int .u64 (bits .and .u64 lo 67108863)) (by kernel_rfl) (by kernel_rfl) ?_
 simp only [nrm]
 refine list_val (.int .u64 lo) (by kernel_rfl) (by kernel_rfl) ?_
 simp only [nrm]
 refine list_val (.int .u64 (lo / 2 ^ 26)) (by kernel_rfl) (by have h1:=(unhide hlo).1; have h2:=(unhide hhi).1; go_simp) ?_
 simp only [nrm]
 refine list_val (.int .u64 (bits .and .u64 (lo / 2 ^ 26) 67108863)) (by kernel_rfl) (by kernel_rfl) ?_
 simp only [nrm]
 refine list_val (.int .u64 lo) (by kernel_rfl) (by kernel_rfl) ?_
 simp only [nrm]
 refine list_val (.int .u64 (lo / 2 ^ 52)) (by kernel_rfl) (by have h1:=(unhide hlo).1; have h2:=(unhide hhi).1; go_simp) ?_
 simp only [nrm]
 refine list_val (.int .u64 hi) (by kernel_rfl) (by kernel_rfl) ?_
 simp only [nrm]
 refine list_val (.int .u64 (IntKind.u64.wrap (hi * 2 ^ 12))) (by kernel_rfl) (by go_simp) ?_
 simp only [nrm]
 refine list_val (.int .u64 (bits .or .u64 (lo / 2 ^ 52) (IntKind.u64.wrap (hi * 2 ^ 12)))) (by kernel_rfl) (by kernel_rfl) ?_
 simp only [nrm]
 refine list_val (.int .u64 (bits .and .u64 (bits .or .u64 (lo / 2 ^ 52) (IntKind.u64.wrap (hi * 2 ^ 12))) 67108863)) (by kernel_rfl) (by kernel_rfl) ?_
 simp only [nrm]
 refine list_val (.int .u64 hi) (by kernel_rfl) (by kernel_rfl) ?_
 simp only [nrm]
 refine list_val (.int .u64 (hi / 2 ^ 14)) (by kernel_rfl) (by have h1:=(unhide hlo).1; have h2:=(unhide hhi).1; go_simp) ?_
 simp only [nrm]
 refine list_val (.int .u64 (bits .and .u64 (hi / 2 ^ 14) 67108863)) (by kernel_rfl) (by kernel_rfl) ?_
 simp only [nrm]
 refine list_val (.int .u64 hi) (by kernel_rfl) (by kernel_rfl) ?_
 simp only [nrm]
 refine list_val (.int .u64 (hi / 2 ^ 40)) (by kernel_rfl) (by have h1:=(unhide hlo).1; have h2:=(unhide hhi).1; go_simp) ?_
 simp only [nrm]
 refine list_val (.agg (fc (bits .and .u64 lo 67108863) (bits .and .u64 (lo / 2 ^ 26) 67108863) (bits .and .u64 (bits .or .u64 (lo / 2 ^ 52) (IntKind.u64.wrap (hi * 2 ^ 12))) 67108863) (bits .and .u64 (hi / 2 ^ 14) 67108863) (hi / 2 ^ 40))) (by kernel_rfl) (by kernel_rfl) ?_
 simp only [nrm]
 rw [unhide t1,unhide t2,unhide t3,unhide t4,unhide t5]
 have d0:Dg (lo % 67108864):=by unfold Dg; omega
 have d1:Dg (lo / 67108864 % 67108864):=by unfold Dg; omega
 have d2:Dg (lo / 4503599627370496+hi % 16384 * 4096):=by have:=unhide hlo; unfold Dg; omega
 have d3:Dg (hi / 16384 % 67108864):=by unfold Dg; omega
 have d4:0≤hi / 1099511627776∧hi / 1099511627776<16777216:=by have:=unhide hhi; omega
 clear t1 t2 t3 t4 t5
 generalize lo % 67108864=y0 at *
 generalize lo / 67108864 % 67108864=y1 at *
 generalize lo / 4503599627370496+hi % 16384 * 4096=y2 at *
 generalize hi / 16384 % 67108864=y3 at *
 generalize hi / 1099511627776=y4 at *
 refine list_store 160 (.tmp 2) (.tmp 26) (w.heap.size) (fc y0 y1 y2 y3 y4) 160 (fc 0 0 0 0 0) (by kernel_rfl) rfl (by kernel_rfl) (by kernel_rfl) (hB.get 0 (x:=⟨w.heap.size,fc 0 0 0 0 0,160⟩) rfl) Tryz.infoPL rfl (fc_one _ _ _ _ _) ?_
 replace hB:=hB.set 0 (x:=⟨w.heap.size,fc 0 0 0 0 0,160⟩) rfl (fc y0 y1 y2 y3 y4)
 simp only [List.set_cons_zero,List.set_cons_succ] at hB
 generalize World.setRow _ _ _=u4 at *
 simp only [nrm]
 refine wpList_nil ?_
 replace hB:=hide hB
 go_wp2_with fail
 replace hB:=unhide hB
 rw [unhide hT]
 exact bodyPost_ret (v:=.agg (fc y0 y1 y2 y3 y4)) (results_cell_row Tryz.results112 _ _ (w.heap.size) 160 (fc y0 y1 y2 y3 y4) (0,0) _ rfl (hB.get 0 (x:=⟨w.heap.size,fc y0 y1 y2 y3 y4,160⟩) rfl) Tryz.underlying160 rfl Tryz.infoPL) rfl (⟨_,_,_,_,_,rfl,d0,d1,d2,d3,d4,(unhide hval).trans (unhide hlv),hB.gr⟩)
end Go.Proofs.YthahhglbeafkmaaGreatDoor
