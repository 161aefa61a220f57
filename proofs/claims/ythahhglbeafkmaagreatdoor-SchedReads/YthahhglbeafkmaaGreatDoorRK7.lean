/-
  What the proof leans on.
-/
import Derived.Laws.IdiomStrings
import Derived.OwnWalk
import Derived.Deep.DeepAppendWide
import Derived.Deep.LoopGhost
import Derived.Test.YthahhglbeafkmaaGreatDoorRK6
namespace Go.Proofs.YthahhglbeafkmaaGreatDoor
open Go.RowKit
set_option maxRecDepth 100000
set_option linter.unusedSimpArgs false
set_option linter.unusedVariables false
set_option maxHeartbeats 2000000 in
theorem rlow_ok (X:Nat) (hX:X<4294967296) (w:World):Calls Tryz.prog 47 #[.int .u64 X,.int .i64 4] w (Putd [] X 0 w):=by
 obtain ⟨T,hT⟩:∃ T,T=Putd [] X 0 w:=⟨_,rfl⟩
 rw [← hT]
 replace hT:=hide hT
 go_enter Tryz.func47,Tryz.ntmps47
 go_upto_region 1 with fail
 refine wp_region_lit ?_
 iterate 1 (refine wpList_step fun K hK=>?_; replace hK:=hide hK; go_simp; refine unhide hK _ _ ?_; clear hK K)
 refine wpList_make_room w rfl (.tmp 7) (.tmp 7) rfl 4 4 4 4 (by kernel_rfl) (by kernel_rfl) (by omega) (by omega) (by omega) (by omega) ?_
 have hv:=blk_new w (.cells (kc (List.replicate 4 0)) 5 (0,0))
 have hg:=(Gr.refl w).alloc (.cells (kc (List.replicate 4 0)) 5 (0,0))
 generalize World.alloc _ _=u1 at *
 simp only [nrm]
 replace hv:Hid (u1.heap[w.heap.size]?=some (.cells (kc (lwz [] X 0)) 5 (0,0))):=hv
 replace hg:=hide hg
 iterate 1 (refine wpList_step fun K hK=>?_; replace hK:=hide hK; go_simp; refine unhide hK _ _ ?_; clear hK K)
 refine wpList_nil ?_
 go_wp2_with fail
 go_loopw [6,0] (fun i x wr=>∃ k:Nat,k≤4∧i=.int .i64 (k:Int)∧x=.int .u64 ((X / 256 ^ k:Nat):Int)∧Hid (wr.heap[w.heap.size]?=some (.cells (kc (lwz [] X k)) 5 (0,0)))∧Hid (Gr w wr)) (fun i _ _=>4 - (intOf i).toNat)
 case atStart=>exact ⟨0,by omega,rfl,by simp,hv,hg⟩
 case round =>
 clear hv hg
 obtain ⟨k,hk,rfl,rfl,hv,hg⟩:=hrel
 by_cases hlt:k<4
 ·obtain ⟨Y,hY⟩:∃ Y,Y=X / 256 ^ k:=⟨_,rfl⟩
  obtain ⟨y,hy⟩:∃ y:Int,y=((Y % 256:Nat):Int):=⟨_,rfl⟩
  have hYb:Y<4294967296:=by rw [hY]; exact Nat.lt_of_le_of_lt (Nat.div_le_self _ _) hX
  have q1:(k:Int)<4:=by omega
  have q3:0≤(k:Int)∧(k:Int)<4:=by omega
  have q4:IntKind.i64.wrap ((k:Int)+1)=(k:Int)+1:=by rw [IntKind.wrap_i64]; omega
  obtain ⟨Z,hZ⟩:∃ Z,Z=X / 256 ^ (k+1):=⟨_,rfl⟩
  have e2:(Y:Int) / 256=(Z:Int):=by rw [hZ,hY,Nat.pow_succ,← Nat.div_div_eq_div_mul]; omega
  have e3:(Y:Int).tdiv 256=(Z:Int):=by rw [Int.tdiv_eq_ediv_of_nonneg (by omega)]; exact e2
  have e4:(Y:Int).tmod 256=y:=by rw [Int.tmod_eq_emod_of_nonneg (by omega),hy]; omega
  have e5:(Y:Int) % 256=y:=by rw [hy]; omega
  have e6:IntKind.u64.wrap y=y:=by rw [IntKind.wrap_u64]; omega
  have e7:IntKind.u8.wrap y=y:=by rw [IntKind.wrap_u8']; omega
  have e8:IntKind.u64.wrap (Z:Int)=(Z:Int):=by rw [IntKind.wrap_u64]; omega
  have cs:=kc_cell (unhide hv) k (by rw [lwz_len _ _ _ (by omega)]; simp; omega)
  have fs:=froz_of (i:=k) (unhide hv)
  have hv2:=heap_setCell_same wr w.heap.size k _ _ (.int .u8 y) (unhide hv)
  rw [kc_set] at hv2
  have hnx:(lwz [] X k).set k y=lwz [] X (k+1):=by
   have:=lwz_next [] X k hlt
   rw [List.length_nil,Nat.zero_add] at this
   rw [hy,hY]
   exact this
  rw [hnx] at hv2
  have hg2:=(setCells_bt [.int .u8 y] wr w.heap.size k).gr (unhide hg) (Nat.le_refl _)
  replace hg2:Hid (Gr w (wr.setCell ⟨w.heap.size,k,none⟩ (.int .u8 y))):=hg2
  replace hv2:=hide hv2
  rw [← hY]
  generalize (lwz [] X k).getD k 0=old at cs
  clear hnx
  replace hY:=hide hY
  replace hy:=hide hy
  replace hZ:=hide hZ
  go_wp2_with fail
  go_roundw
  case rel=>exact ⟨k+1,by omega,by go_num,by rw [unhide hZ],hv2,hg2⟩
  case measure=>simp [intOf]; omega
 ·have e:k=4:=by omega
  subst e
  have hP:Hid (Putd [] X 0 w (.returned (.slice (some ⟨w.heap.size,0,none⟩) 4 4)) wr):=⟨_,rfl,Nat.le_refl _,by rw [← lwz_all]; exact unhide hv,unhide hg⟩
  clear hlt hv hg
  go_wp2_with fail
  rw [unhide hT]
  exact unhide hP
theorem conv_text (w:World) (t:ByteArray) (ht:t.size≤1000):∃ c w',(convert 9 43 (.string t)).run Tryz.prog w=.ok (.slice (some ⟨w.heap.size,0,none⟩) t.size c) w'∧Lb w' (some ⟨w.heap.size,0,none⟩) t.size c (tb t)∧Gr w w':=by
 refine ⟨_,_,run_bytes_of_string w 9 43 5 t Tryz.underlying9 Tryz.underlying43 Tryz.underlying5,⟨tb_len t,tb_isB t,.inr ⟨_,0,rfl,fun j hj=>?_⟩,grownCap_ge _ _ _ _,?_⟩,(Gr.refl w).drew.alloc _⟩
 ·rw [tb_len] at hj
  rw [Nat.zero_add]
  refine cell_of (blk_new w.drew _) ?_
  have hj2:j<t.data.size:=hj
  unfold bytesRow tb
  rw [Array.getElem?_append_left (by simpa using hj2)]
  simp [hj2,Array.getElem?_eq_getElem hj2]
 ·have:=grownCap_le_maxLen w t.size 0 5 (by unfold maxLen; omega)
  unfold maxLen at this
  omega
theorem exec_conv {P:Program} {o:Oper} {a:Act} {w w':World} {s d:TypeId} (x:Operand) (ho:o.op=.convert s d x) (v r:Value) (hx:a.eval x=v) (h:(convert s d v).run P w=.ok r w'):(execOp a.eval o).run P w=.ok (.value r) w':=by
 simp [execOp,ho,hx,h]
def Rinf (L:List Int) (w:World) (r:Ending) (w':World):Prop:=∃ a n c,r=.returned (.slice a n c)∧Lb w' a n c L∧Gr w w'
set_option maxHeartbeats 2000000 in
theorem rinfo_ok (t:ByteArray) (ht:t.size≤1000) (ps:List (List Int)) (ap:Option Addr) (m cp:Nat) (hm:ps.length=m) (hp:small4 ps) (w:World) (hP:Pr w ap ps):Calls Tryz.prog 94 #[.string t,.slice ap m cp] w (Rinf (infoL (tb t) ps) w):=by
 obtain ⟨T,hT⟩:∃ T,T=Rinf (infoL (tb t) ps) w:=⟨_,rfl⟩
 rw [← hT]
 have hmb:m≤100:=by rw [← hm]; exact hp.1
 have htl:(tb t).length≤1000:=by rw [tb_len]; exact ht
 have e1:IntKind.u64.wrap (t.size:Int)=(t.size:Int):=by rw [IntKind.wrap_u64]; omega
 replace hT:=hide hT
 replace hP:=hide hP
 replace hp:=hide hp
 replace hm:=hide hm
 replace htl:=hide htl
 go_enter Tryz.func94,Tryz.ntmps94
 go_upto_region 1 with fail
 refine wp_region_lit ?_
 iterate 3 (refine wpList_step fun K hK=>?_; replace hK:=hide hK; go_simp; refine unhide hK _ _ ?_; clear hK K)
 refine list_call 47 #[.int .u64 t.size,.int .i64 4] (by kernel_rfl) (by kernel_rfl) ((rlow_ok t.size (by omega) _).mono ?_)
 rintro r u1 ⟨g,rfl,h1,h2,hg⟩
 refine ⟨_,rfl,?_⟩
 rw [List.nil_append] at h2
 have hl1:Hid (Lb u1 (some ⟨g,0,none⟩) 4 4 (lw t.size 4)):=⟨lw_len _ _,lw_isB _ _,.inr ⟨g,0,rfl,kc_at h2⟩,by omega,by omega⟩
 replace hg:=hide hg
 clear h1 h2
 simp only [nrm]
 iterate 1 (refine wpList_step fun K hK=>?_; replace hK:=hide hK; go_simp; refine unhide hK _ _ ?_; clear hK K)
 obtain ⟨c2,u2,hrun,hl2,hg2⟩:=conv_text u1 t ht
 refine list_valw (.slice (some ⟨u1.heap.size,0,none⟩) t.size c2) u2 (by kernel_rfl) (exec_conv (.tmp 11) rfl (.string t) _ (by kernel_rfl) hrun) ?_
 replace hl1:=(unhide hl1).gr hg2
 have hG:=(unhide hg).trans hg2
 clear hg hrun hg2
 simp only [nrm]
 refine list_call 19 #[.slice (some ⟨g,0,none⟩) 4 4,.slice (some ⟨u1.heap.size,0,none⟩) t.size c2] (by kernel_rfl) (by kernel_rfl) ((both_ok (lw t.size 4) (tb t) (some ⟨g,0,none⟩) (some ⟨u1.heap.size,0,none⟩) 4 4 t.size c2 (by omega) _ hl1 hl2).mono ?_)
 rintro r u3 ⟨v3,rfl,hO,hg⟩
 refine ⟨_,rfl,?_⟩
 obtain ⟨a3,c3,rfl,l3⟩:=hO.lb (isB_append (lw_isB _ _) (tb_isB _))
 have e3:infL (tb t) ps 0=lw t.size 4++tb t:=by unfold infL tpart; rw [tb_len]; simp
 rw [← e3] at l3
 rw [← e3]
 obtain ⟨n3,hn3⟩:∃ n3,n3=(infL (tb t) ps 0).length:=⟨_,rfl⟩
 rw [← hn3] at l3
 rw [← hn3]
 replace l3:=hide l3
 replace hG:=hide (hG.trans hg)
 clear hl1 hl2 hO hg e3 hn3
 simp only [nrm]
 iterate 1 (refine wpList_step fun K hK=>?_; replace hK:=hide hK; go_simp; refine unhide hK _ _ ?_; clear hK K)
 refine wpList_nil ?_
 go_wp2_with fail
 go_loopw [5,6] (fun x i wr=>∃ (k n:Nat) (a:Option Addr) (c:Nat),k≤m∧i=.int .i64 k∧x=.slice a n c∧Hid (Lb wr a n c (infL (tb t) ps k))∧Hid (Gr w wr)) (fun _ i _=>m - (intOf i).toNat)
 case atStart=>exact ⟨0,n3,a3,c3,by omega,rfl,rfl,l3,hG⟩
 case round =>
 clear l3 hG
 obtain ⟨k,n,a,c,hk,rfl,rfl,hO,hG⟩:=hrel
 by_cases hl:k<m
 ·have kI:(k:Int)<(m:Int):=by omega
  obtain ⟨p,o,rfl,hq⟩:∃ p o,ap=some ⟨p,o,none⟩∧Pq w p o ps:=by
   rcases (unhide hP) with h | ⟨p,o,h1,h2⟩
   ·have:=unhide hm; rw [h] at this; simp at this; omega
   ·exact ⟨p,o,h1,h2⟩
  obtain ⟨aP,nP,cP,cc0,hPl,hPb,hPs,hPc,hPm⟩:=hq k (by rw [unhide hm]; exact hl)
  have cc:=(unhide hG).cell cc0
  clear hq
  have hnx:=hide (infL_next (tb t) ps k (by rw [unhide hm]; exact hl))
  have hPs4:(ps.getD k []).length≤4096:=(unhide hp).2 _ (by rw [List.getD_eq_getElem?_getD,List.getElem?_eq_getElem (by rw [unhide hm]; exact hl)]; exact List.getElem_mem _)
  have hlen:=infL_len (tb t) ps (unhide htl) (unhide hp) k (by rw [unhide hm]; omega)
  rw [(unhide hO).len] at hlen
  generalize ps.getD k []=P at *
  have hPI:nP≤4096:=by omega
  have hLP:Hid (Lb w aP nP cP P):=⟨hPl,hPb,hPs,hPc,hPm⟩
  have e2:IntKind.u64.wrap (nP:Int)=(nP:Int):=by rw [IntKind.wrap_u64]; omega
  clear hPs hPb hPs4 hPc hPm
  replace hPl:=hide hPl
  go_upto_region 5 with fail
  refine wp_region_lit ?_
  iterate 7 (refine wpList_step fun K hK=>?_; replace hK:=hide hK; go_simp; refine unhide hK _ _ ?_; clear hK K)
  refine list_call 47 #[.int .u64 nP,.int .i64 4] (by kernel_rfl) (by kernel_rfl) ((rlow_ok nP (by omega) _).mono ?_)
  rintro r v1 ⟨g1,rfl,h1,h2,hg⟩
  refine ⟨_,rfl,?_⟩
  rw [List.nil_append] at h2
  have hl1:Lb v1 (some ⟨g1,0,none⟩) 4 4 (lw nP 4):=⟨lw_len _ _,lw_isB _ _,.inr ⟨g1,0,rfl,kc_at h2⟩,by omega,by omega⟩
  replace hO:=(unhide hO).gr hg
  replace hG:=(unhide hG).trans hg
  replace cc:=hg.cell cc
  clear hg h1 h2
  simp only [nrm]
  refine list_call 19 #[.slice a n c,.slice (some ⟨g1,0,none⟩) 4 4] (by kernel_rfl) (by kernel_rfl) ((both_ok (infL (tb t) ps k) (lw nP 4) a (some ⟨g1,0,none⟩) n c 4 4 (by omega) _ hO hl1).mono ?_)
  rintro r v2 ⟨x2,rfl,hO2,hg⟩
  refine ⟨_,rfl,?_⟩
  obtain ⟨a2,c2',rfl,l2⟩:=hO2.lb (isB_append hO.isB (lw_isB _ _))
  have hl2:(infL (tb t) ps k++lw nP 4).length=n+4:=by rw [List.length_append,lw_len,hO.len]
  rw [hl2] at l2
  rw [hl2]
  replace l2:=hide l2
  replace hG:=hide (hG.trans hg)
  replace cc:=hg.cell cc
  clear hg hO hO2 hl1 hl2
  simp only [nrm]
  iterate 1 (refine wpList_step fun K hK=>?_; replace hK:=hide hK; go_simp; refine unhide hK _ _ ?_; clear hK K)
  refine wpList_nil ?_
  go_upto_region 6 with fail
  refine wp_region_lit ?_
  iterate 5 (refine wpList_step fun K hK=>?_; replace hK:=hide hK; go_simp; refine unhide hK _ _ ?_; clear hK K)
  refine list_call 19 #[.slice a2 (n+4) c2',.slice aP nP cP] (by kernel_rfl) (by kernel_rfl) ((both_ok (infL (tb t) ps k++lw nP 4) P a2 aP (n+4) c2' nP cP (by omega) _ (unhide l2) ((unhide hLP).gr (unhide hG))).mono ?_)
  rintro r v3 ⟨x3,rfl,hO3,hg⟩
  refine ⟨_,rfl,?_⟩
  have e5:infL (tb t) ps k++lw nP 4++P=infL (tb t) ps (k+1):=by
   rw [unhide hnx]
   unfold tpart
   rw [unhide hPl,← List.append_assoc]
  have hb5:=isB_append (unhide l2).isB (unhide hLP).isB
  rw [e5] at hO3 hb5
  obtain ⟨a5,c5,rfl,l5⟩:=hO3.lb hb5
  obtain ⟨n5,hn5⟩:∃ n5,n5=(infL (tb t) ps (k+1)).length:=⟨_,rfl⟩
  rw [← hn5] at l5
  rw [← hn5]
  replace l5:=hide l5
  replace hG:=hide ((unhide hG).trans hg)
  clear hg hO3 l2 hn5 e5 hb5
  simp only [nrm]
  iterate 1 (refine wpList_step fun K hK=>?_; replace hK:=hide hK; go_simp; refine unhide hK _ _ ?_; clear hK K)
  refine wpList_nil ?_
  clear cc cc0
  go_wp2_with fail
  go_roundw
  case rel=>exact ⟨k+1,n5,a5,c5,by omega,by go_num,rfl,l5,hG⟩
  case measure=>simp [intOf]; omega
 ·have e:k=m:=by omega
  subst e
  have hPd:Hid (Rinf (infoL (tb t) ps) w (.returned (.slice a n c)) wr):=⟨a,n,c,rfl,by unfold infoL; rw [unhide hm]; exact unhide hO,unhide hG⟩
  clear hO hG
  go_wp2_with fail
  rw [unhide hT]
  exact unhide hPd
end Go.Proofs.YthahhglbeafkmaaGreatDoor
/-
 The document's labelled pair.
-/
namespace Go.Proofs.YthahhglbeafkmaaGreatDoor
open Go.RowKit
set_option maxRecDepth 100000
set_option linter.unusedSimpArgs false
set_option linter.unusedVariables false
theorem Sl.other {v:World} {a:Option Addr} {D:List Int} {g:Nat} (vs:List Value) (h:Sl v a D) (hf:∀ x,a=some x→x.block≠g):Sl (v.setCells g 0 vs) a D:=by
 rcases h with h | ⟨p,o,h1,h2⟩
 ·exact .inl h
 ·have hp:=hf _ h1
  exact .inr ⟨p,o,h1,fun j hj=>(setCells_bt vs v g 0).cell (h2 j hj) hp⟩
set_option maxHeartbeats 2000000 in
theorem rtwo_ok (Ky:List Int) (hKl:Ky.length=32) (hKb:IsB Ky) (t:ByteArray) (ht:t.size≤1000) (ps:List (List Int)) (ap:Option Addr) (m cp:Nat) (hm:ps.length=m) (hp:small4 ps) (w:World) (hF:Fst w) (hP:Pr w ap ps) :
  Calls Tryz.prog 73 #[.agg (kc Ky),.string t,.slice ap m cp] w (Twod ((spL Ky (infoL (tb t) ps) 64).take 32) ((spL Ky (infoL (tb t) ps) 64).drop 32) w):=by
 obtain ⟨T,hT⟩:∃ T,T=Twod ((spL Ky (infoL (tb t) ps) 64).take 32) ((spL Ky (infoL (tb t) ps) 64).drop 32) w:=⟨_,rfl⟩
 rw [← hT]
 obtain ⟨KK,hKK⟩:∃ KK,KK=kc Ky:=⟨_,rfl⟩
 rw [← hKK]
 have hKs:KK.size=32:=by rw [hKK,kc_size,hKl]
 have hIb:IsB (infoL (tb t) ps):=infoL_isB (tb_isB t) hP.isB
 have hIl:(infoL (tb t) ps).length≤1004+4100 * ps.length:=infL_len (tb t) ps (by rw [tb_len]; exact ht) hp ps.length (Nat.le_refl _)
 have hm100:=hp.1
 replace hT:=hide hT
 replace hF:=hide hF
 replace hP:=hide hP
 replace hp:=hide hp
 replace hm:=hide hm
 replace hKK:=hide hKK
 replace hKb:=hide hKb
 replace hIb:=hide hIb
 go_enter Tryz.func73,Tryz.ntmps73
 go_upto_region 1 with fail
 have hB:=(((Bl.nil w).new KK 23).new #[.int .u8 0,.int .u8 0,.int .u8 0,.int .u8 0,.int .u8 0,.int .u8 0,.int .u8 0,.int .u8 0,.int .u8 0,.int .u8 0,.int .u8 0,.int .u8 0,.int .u8 0,.int .u8 0,.int .u8 0,.int .u8 0,.int .u8 0,.int .u8 0,.int .u8 0,.int .u8 0,.int .u8 0,.int .u8 0,.int .u8 0,.int .u8 0,.int .u8 0,.int .u8 0,.int .u8 0,.int .u8 0,.int .u8 0,.int .u8 0,.int .u8 0,.int .u8 0] 23).new #[.int .u8 0,.int .u8 0,.int .u8 0,.int .u8 0,.int .u8 0,.int .u8 0,.int .u8 0,.int .u8 0,.int .u8 0,.int .u8 0,.int .u8 0,.int .u8 0,.int .u8 0,.int .u8 0,.int .u8 0,.int .u8 0,.int .u8 0,.int .u8 0,.int .u8 0,.int .u8 0,.int .u8 0,.int .u8 0,.int .u8 0,.int .u8 0,.int .u8 0,.int .u8 0,.int .u8 0,.int .u8 0,.int .u8 0,.int .u8 0,.int .u8 0,.int .u8 0] 23
 simp only [List.nil_append,List.cons_append,size_alloc] at hB
 generalize World.alloc _ _=u1 at *
 replace hB:Bl w [⟨w.heap.size,KK,23⟩,⟨w.heap.size+1,kc Z32,23⟩,⟨w.heap.size+1+1,kc Z32,23⟩] u1:=hB
 refine any_start (S:=fun v=>v.heap[w.heap.size]?=some (.cells KK 23 (0,0))) (by kernel_rfl) ?_
 replace hB:=hB.drew
 generalize World.drew _=u2 at *
 simp only [List.size_toArray,List.length_cons,List.length_nil,Array.replicate,List.replicate]
 refine any_take (i:=0) (v:=(.agg KK)) #[false,false,false,false,false,false] rfl (by kernel_rfl) (by kernel_rfl) (by kernel_rfl) (by kernel_rfl) (fun _ _ _ h=>h) (.inl ⟨by kernel_rfl,fun x_ hu=>exec_arr x_ 23 (.tmp 3) rfl w.heap.size (by kernel_rfl) KK 23 _ hu Tryz.underlying23 rfl (by rw [Tryz.infoKey,hKs])⟩) (hB.get 0 (x:=⟨w.heap.size,KK,23⟩) rfl) ?_
 simp only [nrm]
 refine any_take (i:=1) (v:=(.string t)) #[true,false,false,false,false,false] rfl (by kernel_rfl) (by kernel_rfl) (by kernel_rfl) (by kernel_rfl) (fun _ _ _ h=>h) (.inl ⟨by kernel_rfl,fun x_ hu=>by kernel_rfl⟩) (hB.get 0 (x:=⟨w.heap.size,KK,23⟩) rfl) ?_
 simp only [nrm]
 refine any_take (i:=2) (v:=(.slice ap m cp)) #[true,true,false,false,false,false] rfl (by kernel_rfl) (by kernel_rfl) (by kernel_rfl) (by kernel_rfl) (fun _ _ _ h=>h) (.inl ⟨by kernel_rfl,fun x_ hu=>by kernel_rfl⟩) (hB.get 0 (x:=⟨w.heap.size,KK,23⟩) rfl) ?_
 simp only [nrm]
 refine any_one (i:=3) (by kernel_rfl) rfl (fun K hK=>?_)
 refine step_callw (by kernel_rfl) 94 #[.string t,.slice ap m cp] (by kernel_rfl) ((rinfo_ok t ht ps ap m cp (unhide hm) (unhide hp) _ ((unhide hP).gr hB.gr)).mono ?_)
 rintro r y1 ⟨a1,n1,c1,rfl,l1,hg⟩
 refine ⟨_,rfl,?_⟩
 replace hB:=hB.more hg
 have hn1:=l1.len
 clear hg
 refine hK.out _ _ (hB.get 0 (x:=⟨w.heap.size,KK,23⟩) rfl) (fun _=>?_)
 clear hK K
 simp only [nrm]
 refine any_one (i:=4) (by kernel_rfl) rfl (fun K hK=>?_)
 rw [unhide hKK]
 refine step_callw (by kernel_rfl) 93 #[.agg (kc Ky),.slice a1 n1 c1,.int .i64 64] (by kernel_rfl) ((rexpand_ok Ky hKl (unhide hKb) (infoL (tb t) ps) a1 n1 c1 64 (by omega) (by omega) _ l1).mono ?_)
 rintro r y2 ⟨a2,c2,rfl,l2,hg⟩
 refine ⟨_,rfl,?_⟩
 rw [← unhide hKK]
 replace hB:=hB.more hg
 clear hg l1
 replace l2:=hide l2
 refine hK.out _ _ (hB.get 0 (x:=⟨w.heap.size,KK,23⟩) rfl) (fun _=>?_)
 clear hK K
 simp only [nrm]
 refine any_one (i:=5) (by kernel_rfl) rfl (fun K hK=>?_)
 replace hK:=hide hK
 go_simp
 refine (unhide hK).out _ _ (hB.get 0 (x:=⟨w.heap.size,KK,23⟩) rfl) (fun _=>?_)
 clear hK K
 refine any_done (by kernel_rfl) ?_
 replace l2:=unhide l2
 obtain ⟨E,hE⟩:∃ E,E=spL Ky (infoL (tb t) ps) 64:=⟨_,rfl⟩
 have hEl:E.length=64:=by rw [hE]; exact spL_len _ _ _
 rw [← hE] at l2 hT
 clear hE
 have lD:=Sl.cutl l2 32 (by omega)
 have lE:=Sl.cutr l2 32 (by omega)
 obtain ⟨D1,hD1⟩:∃ D,D=E.take 32:=⟨_,rfl⟩
 obtain ⟨D2,hD2⟩:∃ D,D=E.drop 32:=⟨_,rfl⟩
 have hDl1:D1.length=32:=by rw [hD1,List.length_take,hEl]; rfl
 have hDl2:D2.length=32:=by rw [hD2,List.length_drop,hEl]
 rw [← hD1] at lD hT
 rw [← hD2] at lE hT
 have hold:=l2.old
 have hfr2:Hid (∀ x,a2=some x→x.block<y2.heap.size):=fun x hx=>by
  rcases hold x hx with h | h
  ·exact h
  ·rw [h] at hEl; simp at hEl
 have hc64:=l2.cap
 have lD2:Sl y2 a2 D1:=lD.sl
 obtain ⟨a3,ha3⟩:∃ a3,a3=Option.map (fun x=>x.add 32) a2:=⟨_,rfl⟩
 have lE2:Sl y2 a3 D2:=by
  have:=lE.sl
  rw [if_neg (by omega)] at this
  rw [ha3]
  exact this
 have hfr3:Hid (∀ x,a3=some x→x.block<y2.heap.size):=by
  intro x hx
  rw [ha3] at hx
  cases ha2:a2 with
  | none=>rw [ha2] at hx; cases hx
  | some y =>
   rw [ha2] at hx
   have h5:y.add 32=x:=by simpa using hx
   rw [← h5,add_block]
   exact (unhide hfr2) y ha2
 have hc32:¬ c2=32:=by omega
 have hcI:(32:Int)≤(c2:Int):=by omega
 clear hD1 hD2 l2 lD lE hold
 replace ha3:=hide ha3
 replace lD2:=hide lD2
 replace lE2:=hide lE2
 replace hB:=hide hB
 go_upto_region 3 with fail
 replace hB:=((unhide hB).new #[.int .u8 0,.int .u8 0,.int .u8 0,.int .u8 0,.int .u8 0,.int .u8 0,.int .u8 0,.int .u8 0,.int .u8 0,.int .u8 0,.int .u8 0,.int .u8 0,.int .u8 0,.int .u8 0,.int .u8 0,.int .u8 0,.int .u8 0,.int .u8 0,.int .u8 0,.int .u8 0,.int .u8 0,.int .u8 0,.int .u8 0,.int .u8 0,.int .u8 0,.int .u8 0,.int .u8 0,.int .u8 0,.int .u8 0,.int .u8 0,.int .u8 0,.int .u8 0] 23).new #[.int .u8 0,.int .u8 0,.int .u8 0,.int .u8 0,.int .u8 0,.int .u8 0,.int .u8 0,.int .u8 0,.int .u8 0,.int .u8 0,.int .u8 0,.int .u8 0,.int .u8 0,.int .u8 0,.int .u8 0,.int .u8 0,.int .u8 0,.int .u8 0,.int .u8 0,.int .u8 0,.int .u8 0,.int .u8 0,.int .u8 0,.int .u8 0,.int .u8 0,.int .u8 0,.int .u8 0,.int .u8 0,.int .u8 0,.int .u8 0,.int .u8 0,.int .u8 0] 23
 simp only [List.nil_append,List.cons_append,size_alloc] at hB
 have hga:=((Gr.refl y2).alloc (.cells #[.int .u8 0,.int .u8 0,.int .u8 0,.int .u8 0,.int .u8 0,.int .u8 0,.int .u8 0,.int .u8 0,.int .u8 0,.int .u8 0,.int .u8 0,.int .u8 0,.int .u8 0,.int .u8 0,.int .u8 0,.int .u8 0,.int .u8 0,.int .u8 0,.int .u8 0,.int .u8 0,.int .u8 0,.int .u8 0,.int .u8 0,.int .u8 0,.int .u8 0,.int .u8 0,.int .u8 0,.int .u8 0,.int .u8 0,.int .u8 0,.int .u8 0,.int .u8 0] 23)).alloc (.cells #[.int .u8 0,.int .u8 0,.int .u8 0,.int .u8 0,.int .u8 0,.int .u8 0,.int .u8 0,.int .u8 0,.int .u8 0,.int .u8 0,.int .u8 0,.int .u8 0,.int .u8 0,.int .u8 0,.int .u8 0,.int .u8 0,.int .u8 0,.int .u8 0,.int .u8 0,.int .u8 0,.int .u8 0,.int .u8 0,.int .u8 0,.int .u8 0,.int .u8 0,.int .u8 0,.int .u8 0,.int .u8 0,.int .u8 0,.int .u8 0,.int .u8 0,.int .u8 0] 23)
 replace lD2:=(unhide lD2).gr hga
 replace lE2:=(unhide lE2).gr hga
 clear hga
 generalize World.alloc _ _=y5 at *
 generalize y2.heap.size=h9 at *
 replace hB:Bl w [⟨w.heap.size,KK,23⟩,⟨w.heap.size+1,kc Z32,23⟩,⟨w.heap.size+1+1,kc Z32,23⟩,⟨h9,kc Z32,23⟩,⟨h9+1,kc Z32,23⟩] y5:=hB
 refine any_start (S:=fun _=>True) (by kernel_rfl) ?_
 replace hB:=hB.drew
 replace lD2:=lD2.gr (Gr.refl _).drew
 replace lE2:=lE2.gr (Gr.refl _).drew
 generalize World.drew _=y5b at *
 simp only [List.size_toArray,List.length_cons,List.length_nil,Array.replicate,List.replicate]
 refine any_take (i:=0) (v:=(.slice (some ⟨h9,0,none⟩) 32 32)) #[false,false,false,false] rfl (by kernel_rfl) (by kernel_rfl) (by kernel_rfl) (by kernel_rfl) (fun _ _ _ h=>h) (.inl ⟨by kernel_rfl,fun x_ hu=>by go_simp⟩) trivial ?_
 simp only [nrm]
 refine any_take (i:=1) (v:=(.slice a2 64 c2)) #[true,false,false,false] rfl (by kernel_rfl) (by kernel_rfl) (by kernel_rfl) (by kernel_rfl) (fun _ _ _ h=>h) (.inl ⟨by kernel_rfl,fun x_ hu=>by kernel_rfl⟩) trivial ?_
 simp only [nrm]
 refine any_take (i:=2) (v:=(.slice a2 32 c2)) #[true,true,false,false] rfl (by kernel_rfl) (by kernel_rfl) (by kernel_rfl) (by kernel_rfl) (fun _ _ _ h=>h) (.inl ⟨by kernel_rfl,fun x_ hu=>by go_simp⟩) trivial ?_
 simp only [nrm]
 refine any_one (i:=3) (by kernel_rfl) rfl (fun K hK=>?_)
 rw [if_pos (by kernel_rfl)]
 refine copy_wp (.tmp 16) (.tmp 18) rfl (h9) 0 32 32 a2 32 c2 (by kernel_rfl) (by kernel_rfl) (Z32.map (Value.int .u8)) 23 (hB.get 3 (x:=⟨h9,kc Z32,23⟩) rfl) D1 (by rw [hDl1]; rfl) (by rcases lD2 with h | ⟨p,o,h1,h2⟩; exact .inl h; exact .inr ⟨p,o,h1,h2⟩) (by rw [hDl1]; decide) ?_
 replace lE2:=lE2.other (g:=h9) (D1.map (Value.int .u8)) (fun x hx=>by have:=(unhide hfr3) x hx; omega)
 replace hB:=hB.copy 3 (Z:=Z32) (D:=D1) rfl rfl hDl1
 simp only [List.set_cons_zero,List.set_cons_succ] at hB
 rw [hDl1]
 refine hK.out _ _ trivial (fun _=>?_)
 clear hK K lD2
 generalize World.setCells _ _ _ _=y6 at *
 try simp only [nrm]
 refine any_done (by kernel_rfl) ?_
 replace hB:=hide hB
 replace lE2:=hide lE2
 go_upto_region 4 with fail
 replace hB:=unhide hB
 replace lE2:=unhide lE2
 refine any_start (S:=fun _=>True) (by kernel_rfl) ?_
 replace hB:=hB.drew
 replace lE2:=lE2.gr (Gr.refl _).drew
 generalize World.drew _=y6b at *
 simp only [List.size_toArray,List.length_cons,List.length_nil,Array.replicate,List.replicate]
 refine any_take (i:=0) (v:=(.slice (some ⟨h9+1,0,none⟩) 32 32)) #[false,false,false,false] rfl (by kernel_rfl) (by kernel_rfl) (by kernel_rfl) (by kernel_rfl) (fun _ _ _ h=>h) (.inl ⟨by kernel_rfl,fun x_ hu=>by go_simp⟩) trivial ?_
 simp only [nrm]
 refine any_take (i:=1) (v:=(.slice a2 64 c2)) #[true,false,false,false] rfl (by kernel_rfl) (by kernel_rfl) (by kernel_rfl) (by kernel_rfl) (fun _ _ _ h=>h) (.inl ⟨by kernel_rfl,fun x_ hu=>by kernel_rfl⟩) trivial ?_
 simp only [nrm]
 refine any_take (i:=2) (v:=(.slice a3 32 (c2 - 32))) #[true,true,false,false] rfl (by kernel_rfl) (by kernel_rfl) (by kernel_rfl) (by kernel_rfl) (fun _ _ _ h=>h) (.inl ⟨by kernel_rfl,fun x_ hu=>by rw [unhide ha3]; go_simp⟩) trivial ?_
 simp only [nrm]
 refine any_one (i:=3) (by kernel_rfl) rfl (fun K hK=>?_)
 rw [if_pos (by kernel_rfl)]
 refine copy_wp (.tmp 20) (.tmp 22) rfl (h9+1) 0 32 32 a3 32 (c2 - 32) (by kernel_rfl) (by kernel_rfl) (Z32.map (Value.int .u8)) 23 (hB.get 4 (x:=⟨h9+1,kc Z32,23⟩) rfl) D2 (by rw [hDl2]; rfl) (by rcases lE2 with h | ⟨p,o,h1,h2⟩; exact .inl h; exact .inr ⟨p,o,h1,h2⟩) (by rw [hDl2]; decide) ?_
 replace hB:=hB.copy 4 (Z:=Z32) (D:=D2) rfl rfl hDl2
 simp only [List.set_cons_zero,List.set_cons_succ] at hB
 rw [hDl2]
 refine hK.out _ _ trivial (fun _=>?_)
 clear hK K lE2
 generalize World.setCells _ _ _ _=y7 at *
 try simp only [nrm]
 refine any_done (by kernel_rfl) ?_
 replace hB:=hide hB
 go_upto_region 5 with fail
 replace hB:=unhide hB
 refine any_start (S:=fun v=>v.heap[h9]?=some (.cells (kc D1) 23 (0,0))∧v.heap[h9+1]?=some (.cells (kc D2) 23 (0,0))) (by kernel_rfl) ?_
 replace hB:=hB.drew
 generalize World.drew _=y8 at *
 simp only [List.size_toArray,List.length_cons,List.length_nil,Array.replicate,List.replicate]
 refine any_take (i:=0) (v:=(.agg (kc D1))) #[false,false,false,false] rfl (by kernel_rfl) (by kernel_rfl) (by kernel_rfl) (by kernel_rfl) (fun _ _ _ h=>h) (.inl ⟨by kernel_rfl,fun x_ hu=>exec_arr x_ 23 (.tmp 9) rfl (h9) (by kernel_rfl) (kc D1) 23 _ hu.1 Tryz.underlying23 rfl (by rw [Tryz.infoKey,kc_size,hDl1])⟩) ⟨hB.get 3 (x:=⟨h9,kc D1,23⟩) rfl,hB.get 4 (x:=⟨h9+1,kc D2,23⟩) rfl⟩ ?_
 simp only [nrm]
 refine any_take (i:=1) (v:=(.agg (kc D2))) #[true,false,false,false] rfl (by kernel_rfl) (by kernel_rfl) (by kernel_rfl) (by kernel_rfl) (fun _ _ _ h=>h) (.inl ⟨by kernel_rfl,fun x_ hu=>exec_arr x_ 23 (.tmp 10) rfl (h9+1) (by kernel_rfl) (kc D2) 23 _ hu.2 Tryz.underlying23 rfl (by rw [Tryz.infoKey,kc_size,hDl2])⟩) ⟨hB.get 3 (x:=⟨h9,kc D1,23⟩) rfl,hB.get 4 (x:=⟨h9+1,kc D2,23⟩) rfl⟩ ?_
 simp only [nrm]
 refine any_one (i:=2) (by kernel_rfl) rfl (fun K hK=>?_)
 rw [if_pos (by kernel_rfl)]
 refine wp_store_row 23 (.tmp 6) (.tmp 24) rfl (w.heap.size+1) (kc D1) (by kernel_rfl) (by kernel_rfl) 23 (kc Z32) (hB.get 1 (x:=⟨w.heap.size+1,kc Z32,23⟩) rfl) (by rw [Tryz.infoKey,kc_size,hDl1]) ((show (kc Z32).size=32 from rfl).trans ((kc_size _).trans hDl1).symm) (kc_one _) ?_
 replace hB:=hB.set 1 (x:=⟨w.heap.size+1,kc Z32,23⟩) rfl (kc D1)
 simp only [List.set_cons_zero,List.set_cons_succ] at hB
 refine hK.out _ _ ⟨hB.get 3 (x:=⟨h9,kc D1,23⟩) rfl,hB.get 4 (x:=⟨h9+1,kc D2,23⟩) rfl⟩ (fun _=>?_)
 clear hK K
 generalize World.setRow _ _ _=z1 at *
 try simp only [nrm]
 refine any_one (i:=3) (by kernel_rfl) rfl (fun K hK=>?_)
 rw [if_pos (by kernel_rfl)]
 refine wp_store_row 23 (.tmp 7) (.tmp 25) rfl (w.heap.size+1+1) (kc D2) (by kernel_rfl) (by kernel_rfl) 23 (kc Z32) (hB.get 2 (x:=⟨w.heap.size+1+1,kc Z32,23⟩) rfl) (by rw [Tryz.infoKey,kc_size,hDl2]) ((show (kc Z32).size=32 from rfl).trans ((kc_size _).trans hDl2).symm) (kc_one _) ?_
 replace hB:=hB.set 2 (x:=⟨w.heap.size+1+1,kc Z32,23⟩) rfl (kc D2)
 simp only [List.set_cons_zero,List.set_cons_succ] at hB
 refine hK.out _ _ ⟨hB.get 3 (x:=⟨h9,kc D1,23⟩) rfl,hB.get 4 (x:=⟨h9+1,kc D2,23⟩) rfl⟩ (fun _=>?_)
 clear hK K
 generalize World.setRow _ _ _=z2 at *
 try simp only [nrm]
 refine any_done (by kernel_rfl) ?_
 go_wp2_with fail
 rw [unhide hT]
 exact bodyPost_ret (v:=.tuple #[.agg (kc D1),.agg (kc D2)]) (results_two Tryz.results73 _ _ (w.heap.size+1) (w.heap.size+1+1) 23 23 (kc D1) (kc D2) (0,0) (0,0) _ rfl rfl (hB.get 1 (x:=⟨w.heap.size+1,kc D1,23⟩) rfl) (hB.get 2 (x:=⟨w.heap.size+1+1,kc D2,23⟩) rfl) Tryz.underlying23 rfl (by rw [Tryz.infoKey,kc_size,hDl1]) (by rw [Tryz.infoKey,kc_size,hDl2])) rfl ⟨rfl,hB.gr⟩
end Go.Proofs.YthahhglbeafkmaaGreatDoor
/-
 The steps of a chain.
-/
namespace Go.Proofs.YthahhglbeafkmaaGreatDoor
open Go.RowKit
set_option maxRecDepth 100000
set_option linter.unusedSimpArgs false
set_option linter.unusedVariables false
end Go.Proofs.YthahhglbeafkmaaGreatDoor
/-
 Two keys that are made while a region's chain goes on: they stay two.
-/
namespace Go.Proofs.YthahhglbeafkmaaGreatDoor
open Go.RowKit
set_option maxRecDepth 100000
set_option linter.unusedVariables false
section
variable {P:Program} {md:Region.Mode} {ops:Array Oper} {Q:Exit→Act→World→Prop} {S:World→Prop}
end
end Go.Proofs.YthahhglbeafkmaaGreatDoor
namespace Go.Proofs.YthahhglbeafkmaaGreatDoor
open Go.RowKit
set_option maxRecDepth 100000
set_option linter.unusedSimpArgs false
set_option linter.unusedVariables false
theorem add_zero (p o:Nat):(⟨p,o,none⟩:Addr).add 0=⟨p,o,none⟩:=rfl
theorem add_some (p o k:Nat):(⟨p,o,none⟩:Addr).add k=⟨p,o+k,none⟩:=by
 rcases Nat.eq_zero_or_pos k with h0 | h0
 ·subst h0; rfl
 ·simp [Addr.add]; omega
theorem IsB.take {B:List Int} (h:IsB B) (n:Nat):IsB (B.take n):=fun x hx=>h x (List.mem_of_mem_take hx)
theorem IsB.drop {B:List Int} (h:IsB B) (n:Nat):IsB (B.drop n):=fun x hx=>h x (List.mem_of_mem_drop hx)
theorem Lb.upto {v:World} {s:Option Addr} {len cap:Nat} {B:List Int} (h:Lb v s len cap B) (n:Nat) (hn:n≤len):Lb v (if cap=0 then s else s.map (·.add 0)) n cap (B.take n):=by
 refine ⟨by rw [List.length_take,h.len]; omega,h.isB.take n,?_,Nat.le_trans hn h.cap,h.max⟩
 rcases h.sl with rfl | ⟨p,o,rfl,hat⟩
 ·exact .inl (by simp)
 ·refine .inr ⟨p,o,?_,fun j hj=>?_⟩
  ·split
   ·rfl
   ·rfl
  ·rw [List.length_take] at hj
   rw [hat j (by omega)]
   congr 2
   rw [List.getD_eq_getElem?_getD,List.getD_eq_getElem?_getD,List.getElem?_take,if_pos (by omega)]
theorem Lb.rest {v:World} {s:Option Addr} {len cap:Nat} {B:List Int} (h:Lb v s len cap B) (n:Nat) (hn:n≤len):Lb v (if cap=n then s else s.map (·.add n)) (len - n) (cap - n) (B.drop n):=by
 have hc:=h.cap
 have hl:=h.len
 refine ⟨by rw [List.length_drop,h.len],h.isB.drop n,?_,by omega,by have:=h.max; omega⟩
 rcases h.sl with rfl | ⟨p,o,rfl,hat⟩
 ·exact .inl (by simp)
 ·by_cases hcn:cap=n
  ·exact .inl (List.drop_eq_nil_of_le (by omega))
  ·refine .inr ⟨p,o+n,by rw [if_neg hcn,Option.map_some,add_some],fun j hj=>?_⟩
   rw [List.length_drop] at hj
   rw [Nat.add_assoc,hat (n+j) (by omega)]
   congr 2
   rw [List.getD_eq_getElem?_getD,List.getD_eq_getElem?_getD,List.getElem?_drop]
theorem kc_lb {w:World} {g:Nat} {X:List Int} {t:TypeId} {n:Nat} (h:w.heap[g]?=some (.cells (kc X) t (0,0))) (hn:X.length=n) (hX:IsB X) (hb:n<9223372036854775808):Lb w (some ⟨g,0,none⟩) n n X:=⟨hn,hX,.inr ⟨g,0,rfl,kc_at h⟩,Nat.le_refl _,hb⟩
theorem ob_of {w:World} {b g n:Nat} {X:List Int} (h:w.heap[g]?=some (.cells (kc X) 5 (0,0))) (hn:X.length=n) (hg:b≤g) (hb:n≤140737488351232):Ob b w (.slice (some ⟨g,0,none⟩) n n) X:=by
 subst hn
 exact ⟨by simp,.inr ⟨g,X.length,kc X,rfl,hg,h,Nat.le_refl _,by unfold maxLen; omega,by rw [kc_size,Nat.mul_one],by unfold kc; rw [Nat.mul_one]; exact List.take_of_length_le (by simp)⟩⟩
theorem exec_upto {a:Act} {o:Oper} (w:World) (x y:Operand) (ho:o.op=.slice 43 x none (some y) none) (s:Option Addr) (len cap n:Nat) (hx:a.eval x=.slice s len cap) (hy:a.eval y=.int .i64 n) (hc:len≤cap) (hn:n≤len) :
  (execOp a.eval o).run Tryz.prog w=.ok (.value (.slice (if cap=0 then s else s.map (·.add 0)) n cap)) w:=by
 have h1:(0:Int)≤n:=by omega
 have h2:(n:Int)≤cap:=by omega
 have hu:Tryz.prog.underlying 43=some (.slice (Tryz.prog.elem 43)):=by kernel_rfl
 have hz:(sizeOf (Tryz.prog.elem 43)).run Tryz.prog w=.ok 1 w:=by kernel_rfl
 simp [execOp,ho,hx,hy,run_sliceAt_slice _ _ _ _ _ _ hu,run_slice_h _ _ _ _ _ hu _ _ h1 h2,hz,sliced]
theorem exec_from {a:Act} {o:Oper} (w:World) (x y:Operand) (ho:o.op=.slice 43 x (some y) none none) (s:Option Addr) (len cap n:Nat) (hx:a.eval x=.slice s len cap) (hy:a.eval y=.int .i64 n) (hc:len≤cap) (hn:n≤len) :
  (execOp a.eval o).run Tryz.prog w=.ok (.value (.slice (if cap=n then s else s.map (·.add n)) (len - n) (cap - n))) w:=by
 have h1:(0:Int)≤n:=by omega
 have h2:(n:Int)≤len:=by omega
 have hu:Tryz.prog.underlying 43=some (.slice (Tryz.prog.elem 43)):=by kernel_rfl
 have hz:(sizeOf (Tryz.prog.elem 43)).run Tryz.prog w=.ok 1 w:=by kernel_rfl
 simp [execOp,ho,hx,hy,run_sliceAt_slice _ _ _ _ _ _ hu,run_slice_l _ _ _ _ _ hu _ _ h1 h2,hz,sliced]
def nc (l:List Nat):List Value:=l.map (fun x:Nat=>Value.int .i64 (x:Int))
def Ati (w:World) (p o:Nat) (L:List Nat):Prop:=∀ j,j<L.length→w.cell? ⟨p,o+j,none⟩=some (.int .i64 ((L.getD j 0:Nat):Int))
theorem Ati.gr {w v:World} {p o:Nat} {L:List Nat} (h:Ati w p o L) (g:Gr w v):Ati v p o L:=fun j hj=>g.cell (h j hj)
structure Li (w:World) (a:Option Addr) (n c:Nat) (L:List Nat):Prop where
 len:L.length=n
 sl:L=[]∨∃ p o,a=some ⟨p,o,none⟩∧Ati w p o L
 cap:n≤c
 max:c<9223372036854775808
theorem Li.gr {w v:World} {a:Option Addr} {n c:Nat} {L:List Nat} (h:Li w a n c L) (k:Gr w v):Li v a n c L:=by
 refine ⟨h.len,?_,h.cap,h.max⟩
 rcases h.sl with h | ⟨p,o,h1,h2⟩
 ·exact .inl h
 ·exact .inr ⟨p,o,h1,h2.gr k⟩
theorem Li.at_ {w:World} {a:Option Addr} {n c:Nat} {L:List Nat} (h:Li w a n c L) (j:Nat) (hj:j<n):∃ p o,a=some ⟨p,o,none⟩∧w.cell? ⟨p,o+j,none⟩=some (.int .i64 ((L.getD j 0:Nat):Int)):=by
 have hl:=h.len
 rcases h.sl with h | ⟨p,o,h1,h2⟩
 ·rw [h] at hl
  simp at hl
  omega
 ·exact ⟨p,o,h1,h2 j (by omega)⟩
theorem Tryz.infoI:(Tryz.prog.info? 3).map (fun i=>(i.zero,i.size,i.bytes))=some (some (.int .i64 0),1,8):=by kernel_rfl
def Oi (b:Nat) (w:World) (v:Value) (L:List Nat):Prop:=w.ownsRow b 3 1 v L.length (nc L)
theorem Oi.gr {b:Nat} {w u:World} {v:Value} {L:List Nat} (h:Oi b w v L) (k:Gr w u):Oi b u v L:=by
 obtain ⟨h1,h2 | ⟨g,cap,cur,h2,h3,h4,h5⟩⟩:=h
 ·exact ⟨h1,.inl h2⟩
 ·exact ⟨h1,.inr ⟨g,cap,cur,h2,h3,k.blk h4,h5⟩⟩
theorem Oi.up {b b':Nat} {w:World} {v:Value} {L:List Nat} (h:Oi b w v L) (k:b'≤b):Oi b' w v L:=by
 obtain ⟨h1,h2 | ⟨g,cap,cur,h2,h3,h4⟩⟩:=h
 ·exact ⟨h1,.inl h2⟩
 ·exact ⟨h1,.inr ⟨g,cap,cur,h2,Nat.le_trans k h3,h4⟩⟩
theorem Oi.grown {b:Nat} {w u u':World} {v:Value} {L:List Nat} (h:Oi b u v L) (hb:w.heap.size≤b) (k:Gr w u) (g:u.grownBy u' v.ownBlock):Gr w u':=by
 refine ⟨g.os.trans k.os,g.tape.trans k.tape,g.output.trans k.output,Nat.le_trans k.size g.size,fun i hi=>(g.block i (Nat.lt_of_lt_of_le hi k.size) ?_).trans (k.block i hi)⟩
 intro e
 have:=(World.ownsRow.lt h i e.symm).1
 omega
theorem Oi.li {b:Nat} {w:World} {v:Value} {L:List Nat} (h:Oi b w v L):∃ a c,v=.slice a L.length c∧Li w a L.length c L:=by
 rcases h.2 with ⟨h1,h2⟩ | ⟨g,cap,cur,h1,h2,h3,h4,h5,h6,h7⟩
 ·have:L=[]:=List.eq_nil_of_length_eq_zero h2
  subst this
  exact ⟨none,0,h1,rfl,.inl rfl,Nat.le_refl _,by omega⟩
 ·refine ⟨_,cap,h1,rfl,.inr ⟨g,0,rfl,fun j hj=>?_⟩,h4,by unfold maxLen at h5; omega⟩
  rw [Nat.zero_add]
  refine cell_of h3 ?_
  rw [← Array.getElem?_toList]
  have e:(nc L)[j]?=some (.int .i64 ((L.getD j 0:Nat):Int)):=by unfold nc; simp [hj]
  rw [← h7,Nat.mul_one,List.getElem?_take,if_pos hj] at e
  exact e
theorem Oi.nil (b:Nat) (w:World):Oi b w (.slice none 0 0) []:=⟨rfl,.inl ⟨rfl,rfl⟩⟩
theorem app_int {w:World} {ops:Array Oper} {rest:List Oper} {o:Oper} {a:Act} {Q:Exit→Act→World→Prop} (hgd:o.guard=none) (s x:Operand)
  (ho:o.op=.call { callee:=.builtin .append,args:=#[s,x],argTypes:=#[146,146] }) (b:Nat) (v:Value) (L:List Nat) (hs:a.eval s=v) (hown:Oi b w v L)
  (g:Nat) (y:Nat) (t:TypeId) (hx:a.eval x=.slice (some ⟨g,0,none⟩) 1 1) (hg:w.heap[g]?=some (.cells #[.int .i64 (y:Int)] t (0,0))) (hbig:L.length≤1000000) (hB:b≤w.heap.size)
  (h:∀ v' w',Oi b w' v' (L++[y])→w.grownBy w' v.ownBlock→wpList Tryz.prog ops Q rest (a.put o.dst v') w') :
  wpList Tryz.prog ops Q (o::rest) a w:=by
 obtain ⟨i0,hi,hz0,hz1,hz2⟩:=info_parts Tryz.infoI
 refine wpList_append_own_wide w hgd s x 146 ho b 3 i0 (.int .i64 0) 1 8 Tryz.underlying146 hi hz0 hz1 hz2 rfl (by decide) v L.length _ hs hown ⟨g,0,none⟩ 1 1 [.int .i64 (y:Int)] hx rfl ?_ ?_ (by unfold maxLen; omega) (by omega) hB ?_
 ·intro j u hj
  have hj0:j=0:=by have:=(List.getElem?_eq_some_iff.1 hj).1; simp at this; exact this
  subst hj0
  have hu:Value.int .i64 (y:Int)=u:=by simpa using hj
  subst hu
  rw [Addr.add_mid]
  exact cell_of hg rfl
 ·intro u hu
  have:u=.int .i64 (y:Int):=by simpa using hu
  subst this
  rfl
 ·intro v' w' h1 h2 _
  refine h v' w' ?_ h2
  unfold Oi
  have e:nc (L++[y])=nc L++[.int .i64 (y:Int)]:=by simp [nc]
  rw [List.length_append,e]
  exact h1
def V:List Nat→Nat
 | []=>0
 | x::l=>x+256 * V l
def AllB (l:List Nat):Prop:=∀ x ∈ l,x<256
theorem AllB.at_ {l:List Nat} (h:AllB l) (j:Nat):l.getD j 0<256:=by
 rcases Nat.lt_or_ge j l.length with hj | hj
 ·have:l.getD j 0=l[j]:=by simp [hj]
  rw [this]
  exact h _ (List.getElem_mem hj)
 ·rw [List.getD_eq_getElem?_getD,List.getElem?_eq_none hj]
  decide
theorem AllB.snoc {l:List Nat} (h:AllB l) {x:Nat} (hx:x<256):AllB (l++[x]):=fun y hy=>by
 rcases List.mem_append.1 hy with h1 | h1
 ·exact h y h1
 ·have:y=x:=by simpa using h1
  omega
theorem V_append:∀ (a b:List Nat),V (a++b)=V a+256 ^ a.length * V b
 | [],b=>by simp [V]
 | x::a,b=>by
  rw [List.cons_append,V,V,V_append a b,List.length_cons,Nat.pow_succ,Nat.mul_add,← Nat.mul_assoc,Nat.mul_comm 256 (256 ^ a.length)]
  omega
theorem V_snoc (a:List Nat) (x:Nat):V (a++[x])=V a+256 ^ a.length * x:=by rw [V_append]; simp [V]
theorem V_lt:∀ (a:List Nat),AllB a→V a<256 ^ a.length
 | [],_=>by simp [V]
 | x::a,h=>by
  have h1:=V_lt a (fun y hy=>h y (List.mem_cons_of_mem _ hy))
  have h2:=h x (List.mem_cons_self)
  rw [V,List.length_cons,Nat.pow_succ]
  omega
theorem V_take_succ (a:List Nat) (i:Nat):V (a.take (i+1))=V (a.take i)+256 ^ i * a.getD i 0:=by
 rcases Nat.lt_or_ge i a.length with h | h
 ·rw [List.take_add_one,List.getElem?_eq_getElem h,Option.toList_some,V_snoc,List.length_take,Nat.min_eq_left (by omega)]
  congr 2
  simp [h]
 ·rw [List.take_of_length_le (by omega),List.take_of_length_le h,List.getD_eq_getElem?_getD,List.getElem?_eq_none h]
  simp
theorem V_take_all (a:List Nat) (i:Nat) (h:a.length≤i):V (a.take i)=V a:=by rw [List.take_of_length_le h]
end Go.Proofs.YthahhglbeafkmaaGreatDoor
namespace Go.Proofs.YthahhglbeafkmaaGreatDoor
open Go.RowKit
set_option maxRecDepth 100000
set_option linter.unusedSimpArgs false
set_option linter.unusedVariables false
theorem rat_ok (A:List Nat) (a:Option Addr) (n c i:Nat) (w:World) (h:Li w a n c A):Calls Tryz.prog 100 #[.slice a n c,.int .i64 i] w (fun r w'=>r=.returned (.int .i64 ((A.getD i 0:Nat):Int))∧w'=w):=by
 by_cases hi:i<n
 ·obtain ⟨p,o,rfl,c0⟩:=h.at_ i hi
  generalize A.getD i 0=x at *
  have iI:(i:Int)<(n:Int):=by omega
  go_enter Tryz.func100,Tryz.ntmps100
  go_wp2_with fail
  exact bodyPost_ret (v:=.int .i64 (x:Int)) (by simp [results,Tryz.results100,go_sem]) rfl ⟨rfl,rfl⟩
 ·have iI:¬ (i:Int)<(n:Int):=by omega
  have e:A.getD i 0=0:=by rw [List.getD_eq_getElem?_getD,List.getElem?_eq_none (by rw [h.len]; omega)]; rfl
  rw [e]
  go_enter Tryz.func100,Tryz.ntmps100
  go_wp2_with fail
  exact bodyPost_ret (v:=.int .i64 0) (by simp [results,Tryz.results100,go_sem]) rfl ⟨rfl,rfl⟩
def Ri (P:List Nat→Prop) (w:World) (r:Ending) (w':World):Prop:=∃ v L,r=.returned v∧Oi w.heap.size w' v L∧P L∧Gr w w'
def nb (B:List Int):List Nat:=B.map Int.toNat
theorem nb_get (B:List Int) (hb:IsB B) (i:Nat):(((nb B).getD i 0:Nat):Int)=B.getD i 0:=by
 have h:=hb.at_ i
 rcases Nat.lt_or_ge i B.length with hi | hi
 ·unfold nb
  simp [hi] at h ⊢
  omega
 ·unfold nb
  simp [List.getElem?_eq_none hi]
theorem nb_allB (B:List Int) (hb:IsB B):AllB (nb B):=fun x hx=>by
 unfold nb at hx
 obtain ⟨y,hy,rfl⟩:=List.mem_map.1 hx
 have:=hb y hy
 omega
theorem nb_len (B:List Int):(nb B).length=B.length:=by simp [nb]
set_option maxHeartbeats 4000000 in
theorem rrow_ok (B:List Int) (a:Option Addr) (n cap:Nat) (hbig:n≤100000) (w:World) (lb:Lb w a n cap B):Calls Tryz.prog 96 #[.slice a n cap] w (Ri (fun L=>L=nb B) w):=by
 obtain ⟨T,hT⟩:∃ T,T=Ri (fun L=>L=nb B) w:=⟨_,rfl⟩
 rw [← hT]
 unfold Ri at hT
 replace hT:=hide hT
 have hn:=hide lb.len
 have hb:=hide lb.isB
 replace lb:=hide lb
 have hG:Hid (Gr w w):=Gr.refl w
 go_enter Tryz.func96,Tryz.ntmps96
 go_wp2_with fail
 go_loopw [4,3] (fun i o wr=>∃ i':Nat,∃ v:Value,∃ L:List Nat,i'≤n∧i=.int .i64 i'∧v=o∧Hid (L=(nb B).take i')∧Hid (Oi w.heap.size wr v L)∧Hid (Gr w wr)) (fun i _ _=>n - (intOf i).toNat)
 case atStart=>exact ⟨0,_,[],by omega,rfl,rfl,(show ([]:List Nat)=(nb B).take 0 from by simp),Oi.nil _ _,hG⟩
 case round =>
 clear hG
 obtain ⟨i,v,L,hi,rfl,rfl,hL,ob,hG⟩:=hrel
 have hLl:L.length=i:=by rw [unhide hL,List.length_take,nb_len,unhide hn]; omega
 by_cases hl:i<n
 ·have iI:(i:Int)<(n:Int):=by omega
  obtain ⟨bp,bo,rfl,hat⟩:∃ bp bo,a=some ⟨bp,bo,none⟩∧Hid (At w bp bo B):=by
   rcases (unhide lb).sl with h | h
   ·have:=unhide hn
    rw [h] at this
    simp at this
    omega
   ·exact h
  obtain ⟨x,hx⟩:∃ x:Nat,(x:Int)=B.getD i 0:=⟨(nb B).getD i 0,nb_get B (unhide hb) i⟩
  have hL2:L++[x]=(nb B).take (i+1):=by
   have e:(nb B).getD i 0=x:=by have:=nb_get B (unhide hb) i; omega
   have hi2:i<(nb B).length:=by rw [nb_len,unhide hn]; exact hl
   rw [unhide hL,List.take_add_one,← e,List.getElem?_eq_getElem hi2]
   simp [hi2]
  replace hL2:=hide hL2
  have hxr:(x:Int)<256:=by rw [hx]; exact ((unhide hb).at_ i).2
  replace hx:=hide hx
  have e1:IntKind.i64.wrap (x:Int)=(x:Int):=by rw [IntKind.wrap_i64]; omega
  go_upto_region 5 with fail
  replace hG:=unhide hG
  replace ob:=unhide ob
  refine wp_region_lit ?_
  refine list_val v (by kernel_rfl) (by kernel_rfl) ?_
  simp only [nrm]
  refine list_val (.slice (some ⟨bp,bo,none⟩) n cap) (by kernel_rfl) (by kernel_rfl) ?_
  simp only [nrm]
  refine list_val (.int .i64 i) (by kernel_rfl) (by kernel_rfl) ?_
  simp only [nrm]
  refine list_val (.pointer (some ⟨bp,bo+i,none⟩)) (by kernel_rfl) (by go_simp) ?_
  simp only [nrm]
  have c0:=((unhide hat).gr hG) i (by rw [unhide hn]; exact hl)
  rw [← unhide hx] at c0
  refine list_val (.int .u8 (x:Int)) (by kernel_rfl) (by go_simp) ?_
  simp only [nrm]
  clear c0
  refine list_val (.int .i64 (x:Int)) (by kernel_rfl) (by go_simp) ?_
  simp only [nrm]
  refine list_valw (.slice (some ⟨wr.heap.size,0,none⟩) 1 1) (wr.alloc (.cells #[.int .i64 (x:Int)] 3 (0,0))) (by kernel_rfl) (by kernel_rfl) ?_
  simp only [nrm]
  have hnew:=blk_new wr (.cells #[.int .i64 (x:Int)] 3 (0,0))
  have hgx:=(Gr.refl wr).alloc (.cells #[.int .i64 (x:Int)] 3 (0,0))
  replace hG:=hG.trans hgx
  replace ob:=ob.gr hgx
  clear hgx
  generalize World.alloc _ _=w1 at *
  generalize wr.heap.size=g1 at *
  refine app_int rfl (.tmp 11) (.tmp 17) rfl w.heap.size v L rfl ob g1 x _ rfl hnew (by omega) hG.size ?_
  intro v2 w2 ob2 hgr
  simp only [nrm]
  replace hG:=Oi.grown ob (Nat.le_refl _) hG hgr
  clear hgr hnew ob
  (refine wpList_step fun K hK=>?_; replace hK:=hide hK; go_simp; refine unhide hK _ _ ?_; clear hK K)
  refine wpList_nil ?_
  replace hG:=hide hG
  replace ob2:=hide ob2
  clear hx
  go_wp2_with fail
  go_roundw
  case rel=>exact ⟨i+1,v2,_,by omega,by go_num,rfl,hL2,ob2,hG⟩
  case measure=>simp [intOf]; omega
 ·have iI:¬ (i:Int)<(n:Int):=by omega
  have hP:Hid (∃ v' L,Ending.returned v=.returned v'∧Oi w.heap.size wr v' L∧L=nb B∧Gr w wr):=⟨v,L,rfl,unhide ob,by rw [unhide hL]; exact List.take_of_length_le (by rw [nb_len,unhide hn]; omega),unhide hG⟩
  clear ob hG hL
  go_wp2_with fail
  rw [unhide hT]
  exact unhide hP
end Go.Proofs.YthahhglbeafkmaaGreatDoor
namespace Go.Proofs.YthahhglbeafkmaaGreatDoor
open Go.RowKit
set_option maxRecDepth 100000
set_option linter.unusedSimpArgs false
set_option linter.unusedVariables false
theorem plus_step (P VL c x y s d c2 X Y:Nat) (h:VL+P * c=X+Y) (hs:s=x+y+c) (hd:d=s % 256) (hc:c2=s / 256):VL+P * d+P * 256 * c2=X+P * x+(Y+P * y):=by
 have e:s=d+256 * c2:=by omega
 have e2:P * s=P * d+P * 256 * c2:=by rw [e,Nat.mul_add,Nat.mul_assoc]
 have e3:P * s=P * x+P * y+P * c:=by rw [hs,Nat.mul_add,Nat.mul_add]
 omega
def PlusP (A B L:List Nat):Prop:=AllB L∧V L=V A+V B∧L.length≤max A.length B.length+1
set_option maxHeartbeats 4000000 in
theorem rplus_ok (A B:List Nat) (hA:AllB A) (hB:AllB B) (a b:Option Addr) (n m ca cb:Nat) (hbn:n≤100000) (hbm:m≤100000) (w:World) (la:Li w a n ca A) (lb:Li w b m cb B):Calls Tryz.prog 99 #[.slice a n ca,.slice b m cb] w (Ri (PlusP A B) w):=by
 obtain ⟨T,hT⟩:∃ T,T=Ri (PlusP A B) w:=⟨_,rfl⟩
 rw [← hT]
 unfold Ri at hT
 replace hT:=hide hT
 have hn:=hide la.len
 have hm:=hide lb.len
 replace la:=hide la
 replace lb:=hide lb
 replace hA:=hide hA
 replace hB:=hide hB
 have hG:Hid (Gr w w):=Gr.refl w
 go_enter Tryz.func99,Tryz.ntmps99
 go_wp2_with fail
 go_loopw [7,5,6] (fun i o e wr=>∃ i':Nat,∃ v:Value,∃ L:List Nat,∃ c:Nat,i'≤max n m+1∧i=.int .i64 i'∧v=o∧e=.int .i64 c∧Hid (L.length=i')∧Hid (AllB L)∧Hid (V L+256 ^ i' * c=V (A.take i')+V (B.take i'))∧c≤1∧(max n m<i'→c=0)∧Hid (Oi w.heap.size wr v L)∧Hid (Gr w wr)) (fun i _ _ _=>max n m+1 - (intOf i).toNat)
 case atStart=>exact ⟨0,_,[],0,by omega,rfl,rfl,rfl,rfl,(fun x hx=>by cases hx),(show V []+256 ^ 0 * 0=V (A.take 0)+V (B.take 0) from by simp [V]),by omega,by omega,Oi.nil _ _,hG⟩
 case round =>
 clear hG
 obtain ⟨i,v,L,c,hi,rfl,rfl,rfl,hL,hLB,hV,hc,hcm,ob,hG⟩:=hrel
 obtain ⟨x,hx⟩:∃ x,x=A.getD i 0:=⟨_,rfl⟩
 obtain ⟨y,hy⟩:∃ y,y=B.getD i 0:=⟨_,rfl⟩
 obtain ⟨xy,hxy⟩:∃ z,z=x+y:=⟨_,rfl⟩
 obtain ⟨s,hs⟩:∃ s,s=x+y+c:=⟨_,rfl⟩
 obtain ⟨d,hd⟩:∃ d,d=s % 256:=⟨_,rfl⟩
 obtain ⟨c2,hc2⟩:∃ c2,c2=s / 256:=⟨_,rfl⟩
 have hx2:x<256:=by rw [hx]; exact (unhide hA).at_ i
 have hy2:y<256:=by rw [hy]; exact (unhide hB).at_ i
 have hx0:n≤i→x=0:=fun h=>by rw [hx,List.getD_eq_getElem?_getD,List.getElem?_eq_none (by rw [unhide hn]; exact h)]; rfl
 have hy0:m≤i→y=0:=fun h=>by rw [hy,List.getD_eq_getElem?_getD,List.getElem?_eq_none (by rw [unhide hm]; exact h)]; rfl
 have hc3:c2≤1∧(max n m≤i→c2=0):=by
  refine ⟨by omega,fun h=>?_⟩
  have:=hx0 (by omega)
  have:=hy0 (by omega)
  omega
 have e1:(x:Int)+(y:Int)=(xy:Int):=by omega
 have e2:(xy:Int)+(c:Int)=(s:Int):=by omega
 have e3:(s:Int).tmod 256=(d:Int):=by rw [Int.tmod_eq_emod_of_nonneg (by omega)]; omega
 have e4:(s:Int).tdiv 256=(c2:Int):=by rw [Int.tdiv_eq_ediv_of_nonneg (by omega)]; omega
 have g1':IntKind.i64.wrap (xy:Int)=(xy:Int):=by rw [IntKind.wrap_i64]; omega
 have g2':IntKind.i64.wrap (s:Int)=(s:Int):=by rw [IntKind.wrap_i64]; omega
 have g3':IntKind.i64.wrap (d:Int)=(d:Int):=by rw [IntKind.wrap_i64]; omega
 have g4':IntKind.i64.wrap (c2:Int)=(c2:Int):=by rw [IntKind.wrap_i64]; omega
 have hL2:Hid ((L++[d]).length=i+1):=by rw [List.length_append,unhide hL]; exact rfl
 have hB2:Hid (AllB (L++[d])):=(unhide hLB).snoc (by omega)
 have hV2:Hid (V (L++[d])+256 ^ (i+1) * c2=V (A.take (i+1))+V (B.take (i+1))):=by
  rw [V_snoc,V_take_succ,V_take_succ,unhide hL,← hx,← hy,Nat.pow_succ]
  exact plus_step (256 ^ i) (V L) c x y s d c2 _ _ (unhide hV) hs hd hc2
 have hLl:L.length≤1000000:=by rw [unhide hL]; omega
 clear hx0 hy0
 replace hx:=hide hx
 replace hy:=hide hy
 replace hxy:=hide hxy
 replace hs:=hide hs
 replace hd:=hide hd
 replace hc2:=hide hc2
 by_cases h1:i<n
 ·have f1:(i:Int)<(n:Int):=by omega
  go_upto_region 6 with fail
  replace hG:=unhide hG
  replace ob:=unhide ob
  refine wp_region_lit ?_
  refine list_val (.slice a n ca) (by kernel_rfl) (by kernel_rfl) ?_
  simp only [nrm]
  refine list_val (.int .i64 i) (by kernel_rfl) (by kernel_rfl) ?_
  simp only [nrm]
  refine list_call 100 #[.slice a n ca,.int .i64 i] (by kernel_rfl) (by kernel_rfl) ((rat_ok A a n ca i _ ((unhide la).gr hG)).mono ?_)
  rintro r wq ⟨rfl,rfl⟩
  refine ⟨_,rfl,?_⟩
  rw [← unhide hx]
  simp only [nrm]
  refine list_val (.slice b m cb) (by kernel_rfl) (by kernel_rfl) ?_
  simp only [nrm]
  refine list_val (.int .i64 i) (by kernel_rfl) (by kernel_rfl) ?_
  simp only [nrm]
  refine list_call 100 #[.slice b m cb,.int .i64 i] (by kernel_rfl) (by kernel_rfl) ((rat_ok B b m cb i _ ((unhide lb).gr hG)).mono ?_)
  rintro r wq ⟨rfl,rfl⟩
  refine ⟨_,rfl,?_⟩
  rw [← unhide hy]
  simp only [nrm]
  refine list_val (.int .i64 xy) (by kernel_rfl) (by go_simp) ?_
  simp only [nrm]
  refine list_val (.int .i64 c) (by kernel_rfl) (by kernel_rfl) ?_
  simp only [nrm]
  refine list_val (.int .i64 s) (by kernel_rfl) (by go_simp) ?_
  simp only [nrm]
  (refine wpList_step fun K hK=>?_; replace hK:=hide hK; go_simp; refine unhide hK _ _ ?_; clear hK K)
  refine wpList_nil ?_
  replace hG:=hide hG
  replace ob:=hide ob
  go_upto_region 7 with fail
  replace hG:=unhide hG
  replace ob:=unhide ob
  refine wp_region_lit ?_
  refine list_val v (by kernel_rfl) (by kernel_rfl) ?_
  simp only [nrm]
  refine list_val (.int .i64 s) (by kernel_rfl) (by kernel_rfl) ?_
  simp only [nrm]
  refine list_val (.int .i64 d) (by kernel_rfl) (by go_simp) ?_
  simp only [nrm]
  refine list_valw (.slice (some ⟨wq.heap.size,0,none⟩) 1 1) (wq.alloc (.cells #[.int .i64 (d:Int)] 3 (0,0))) (by kernel_rfl) (by kernel_rfl) ?_
  simp only [nrm]
  have hnew:=blk_new wq (.cells #[.int .i64 (d:Int)] 3 (0,0))
  have hgx:=(Gr.refl wq).alloc (.cells #[.int .i64 (d:Int)] 3 (0,0))
  replace hG:=hG.trans hgx
  replace ob:=ob.gr hgx
  clear hgx
  generalize World.alloc _ _=w1 at *
  generalize wq.heap.size=g1 at *
  refine app_int rfl (.tmp 34) (.tmp 37) rfl w.heap.size v L rfl ob g1 d _ rfl hnew (by omega) hG.size ?_
  intro v2 w2 ob2 hgr
  simp only [nrm]
  replace hG:=Oi.grown ob (Nat.le_refl _) hG hgr
  clear hgr hnew ob
  (refine wpList_step fun K hK=>?_; replace hK:=hide hK; go_simp; refine unhide hK _ _ ?_; clear hK K)
  refine wpList_nil ?_
  replace hG:=hide hG
  replace ob2:=hide ob2
  go_wp2_with fail
  go_roundw
  case rel=>exact ⟨i+1,v2,_,c2,by omega,by go_num,rfl,rfl,hL2,hB2,hV2,by omega,by omega,ob2,hG⟩
  case measure=>simp [intOf]; omega
 by_cases h2:i<m
 ·have f1:¬ (i:Int)<(n:Int):=by omega
  have f2:(i:Int)<(m:Int):=by omega
  go_upto_region 6 with fail
  replace hG:=unhide hG
  replace ob:=unhide ob
  refine wp_region_lit ?_
  refine list_val (.slice a n ca) (by kernel_rfl) (by kernel_rfl) ?_
  simp only [nrm]
  refine list_val (.int .i64 i) (by kernel_rfl) (by kernel_rfl) ?_
  simp only [nrm]
  refine list_call 100 #[.slice a n ca,.int .i64 i] (by kernel_rfl) (by kernel_rfl) ((rat_ok A a n ca i _ ((unhide la).gr hG)).mono ?_)
  rintro r wq ⟨rfl,rfl⟩
  refine ⟨_,rfl,?_⟩
  rw [← unhide hx]
  simp only [nrm]
  refine list_val (.slice b m cb) (by kernel_rfl) (by kernel_rfl) ?_
  simp only [nrm]
  refine list_val (.int .i64 i) (by kernel_rfl) (by kernel_rfl) ?_
  simp only [nrm]
  refine list_call 100 #[.slice b m cb,.int .i64 i] (by kernel_rfl) (by kernel_rfl) ((rat_ok B b m cb i _ ((unhide lb).gr hG)).mono ?_)
  rintro r wq ⟨rfl,rfl⟩
  refine ⟨_,rfl,?_⟩
  rw [← unhide hy]
  simp only [nrm]
  refine list_val (.int .i64 xy) (by kernel_rfl) (by go_simp) ?_
  simp only [nrm]
  refine list_val (.int .i64 c) (by kernel_rfl) (by kernel_rfl) ?_
  simp only [nrm]
  refine list_val (.int .i64 s) (by kernel_rfl) (by go_simp) ?_
  simp only [nrm]
  (refine wpList_step fun K hK=>?_; replace hK:=hide hK; go_simp; refine unhide hK _ _ ?_; clear hK K)
  refine wpList_nil ?_
  replace hG:=hide hG
  replace ob:=hide ob
  go_upto_region 7 with fail
  replace hG:=unhide hG
  replace ob:=unhide ob
  refine wp_region_lit ?_
  refine list_val v (by kernel_rfl) (by kernel_rfl) ?_
  simp only [nrm]
  refine list_val (.int .i64 s) (by kernel_rfl) (by kernel_rfl) ?_
  simp only [nrm]
  refine list_val (.int .i64 d) (by kernel_rfl) (by go_simp) ?_
  simp only [nrm]
  refine list_valw (.slice (some ⟨wq.heap.size,0,none⟩) 1 1) (wq.alloc (.cells #[.int .i64 (d:Int)] 3 (0,0))) (by kernel_rfl) (by kernel_rfl) ?_
  simp only [nrm]
  have hnew:=blk_new wq (.cells #[.int .i64 (d:Int)] 3 (0,0))
  have hgx:=(Gr.refl wq).alloc (.cells #[.int .i64 (d:Int)] 3 (0,0))
  replace hG:=hG.trans hgx
  replace ob:=ob.gr hgx
  clear hgx
  generalize World.alloc _ _=w1 at *
  generalize wq.heap.size=g1 at *
  refine app_int rfl (.tmp 34) (.tmp 37) rfl w.heap.size v L rfl ob g1 d _ rfl hnew (by omega) hG.size ?_
  intro v2 w2 ob2 hgr
  simp only [nrm]
  replace hG:=Oi.grown ob (Nat.le_refl _) hG hgr
  clear hgr hnew ob
  (refine wpList_step fun K hK=>?_; replace hK:=hide hK; go_simp; refine unhide hK _ _ ?_; clear hK K)
  refine wpList_nil ?_
  replace hG:=hide hG
  replace ob2:=hide ob2
  go_wp2_with fail
  go_roundw
  case rel=>exact ⟨i+1,v2,_,c2,by omega,by go_num,rfl,rfl,hL2,hB2,hV2,by omega,by omega,ob2,hG⟩
  case measure=>simp [intOf]; omega
 by_cases h3:0<c
 ·have f1:¬ (i:Int)<(n:Int):=by omega
  have f2:¬ (i:Int)<(m:Int):=by omega
  have f3:0<(c:Int):=by omega
  go_upto_region 6 with fail
  replace hG:=unhide hG
  replace ob:=unhide ob
  refine wp_region_lit ?_
  refine list_val (.slice a n ca) (by kernel_rfl) (by kernel_rfl) ?_
  simp only [nrm]
  refine list_val (.int .i64 i) (by kernel_rfl) (by kernel_rfl) ?_
  simp only [nrm]
  refine list_call 100 #[.slice a n ca,.int .i64 i] (by kernel_rfl) (by kernel_rfl) ((rat_ok A a n ca i _ ((unhide la).gr hG)).mono ?_)
  rintro r wq ⟨rfl,rfl⟩
  refine ⟨_,rfl,?_⟩
  rw [← unhide hx]
  simp only [nrm]
  refine list_val (.slice b m cb) (by kernel_rfl) (by kernel_rfl) ?_
  simp only [nrm]
  refine list_val (.int .i64 i) (by kernel_rfl) (by kernel_rfl) ?_
  simp only [nrm]
  refine list_call 100 #[.slice b m cb,.int .i64 i] (by kernel_rfl) (by kernel_rfl) ((rat_ok B b m cb i _ ((unhide lb).gr hG)).mono ?_)
  rintro r wq ⟨rfl,rfl⟩
  refine ⟨_,rfl,?_⟩
  rw [← unhide hy]
  simp only [nrm]
  refine list_val (.int .i64 xy) (by kernel_rfl) (by go_simp) ?_
  simp only [nrm]
  refine list_val (.int .i64 c) (by kernel_rfl) (by kernel_rfl) ?_
  simp only [nrm]
  refine list_val (.int .i64 s) (by kernel_rfl) (by go_simp) ?_
  simp only [nrm]
  (refine wpList_step fun K hK=>?_; replace hK:=hide hK; go_simp; refine unhide hK _ _ ?_; clear hK K)
  refine wpList_nil ?_
  replace hG:=hide hG
  replace ob:=hide ob
  go_upto_region 7 with fail
  replace hG:=unhide hG
  replace ob:=unhide ob
  refine wp_region_lit ?_
  refine list_val v (by kernel_rfl) (by kernel_rfl) ?_
  simp only [nrm]
  refine list_val (.int .i64 s) (by kernel_rfl) (by kernel_rfl) ?_
  simp only [nrm]
  refine list_val (.int .i64 d) (by kernel_rfl) (by go_simp) ?_
  simp only [nrm]
  refine list_valw (.slice (some ⟨wq.heap.size,0,none⟩) 1 1) (wq.alloc (.cells #[.int .i64 (d:Int)] 3 (0,0))) (by kernel_rfl) (by kernel_rfl) ?_
  simp only [nrm]
  have hnew:=blk_new wq (.cells #[.int .i64 (d:Int)] 3 (0,0))
  have hgx:=(Gr.refl wq).alloc (.cells #[.int .i64 (d:Int)] 3 (0,0))
  replace hG:=hG.trans hgx
  replace ob:=ob.gr hgx
  clear hgx
  generalize World.alloc _ _=w1 at *
  generalize wq.heap.size=g1 at *
  refine app_int rfl (.tmp 34) (.tmp 37) rfl w.heap.size v L rfl ob g1 d _ rfl hnew (by omega) hG.size ?_
  intro v2 w2 ob2 hgr
  simp only [nrm]
  replace hG:=Oi.grown ob (Nat.le_refl _) hG hgr
  clear hgr hnew ob
  (refine wpList_step fun K hK=>?_; replace hK:=hide hK; go_simp; refine unhide hK _ _ ?_; clear hK K)
  refine wpList_nil ?_
  replace hG:=hide hG
  replace ob2:=hide ob2
  go_wp2_with fail
  go_roundw
  case rel=>exact ⟨i+1,v2,_,c2,by omega,by go_num,rfl,rfl,hL2,hB2,hV2,by omega,by omega,ob2,hG⟩
  case measure=>simp [intOf]; omega
 have f1:¬ (i:Int)<(n:Int):=by omega
 have f2:¬ (i:Int)<(m:Int):=by omega
 have f3:¬ 0<(c:Int):=by omega
 have hP:Hid (∃ v' L,Ending.returned v=.returned v'∧Oi w.heap.size wr v' L∧PlusP A B L∧Gr w wr):=by
  refine ⟨v,L,rfl,unhide ob,⟨unhide hLB,?_,by rw [unhide hL,unhide hn,unhide hm]; exact hi⟩,unhide hG⟩
  have h:=unhide hV
  rw [show c=0 from by omega,V_take_all A i (by rw [unhide hn]; omega),V_take_all B i (by rw [unhide hm]; omega)] at h
  exact h
 clear ob hG hL hLB hV hL2 hB2 hV2
 go_wp2_with fail
 rw [unhide hT]
 exact unhide hP
end Go.Proofs.YthahhglbeafkmaaGreatDoor
namespace Go.Proofs.YthahhglbeafkmaaGreatDoor
open Go.RowKit
set_option maxRecDepth 100000
set_option linter.unusedSimpArgs false
set_option linter.unusedVariables false
theorem V_ne:∀ (a:List Nat),V a≠0→∃ j,j<a.length∧a.getD j 0≠0∧∀ i,i<j→a.getD i 0=0
 | [],h=>absurd rfl h
 | x::a,h=>by
  by_cases hx:x=0
  ·have h1:V a≠0:=by intro e; apply h; rw [V,hx,e]
   obtain ⟨j,h2,h3,h4⟩:=V_ne a h1
   refine ⟨j+1,by simp; omega,by simpa using h3,fun i hi=>?_⟩
   rcases i with _ | i
   ·simpa using hx
   ·simpa using h4 i (by omega)
  ·exact ⟨0,by simp,by simpa using hx,fun i hi=>by omega⟩
theorem zero_all:∀ (a:List Nat),V a=0→∀ j,a.getD j 0=0
 | [],_,j=>by simp
 | x::a,h,j=>by
  rw [V] at h
  rcases j with _ | j
  ·simp; omega
  ·simpa using zero_all a (by omega) j
set_option maxHeartbeats 4000000 in
theorem rsome_no (A:List Nat) (hV:V A=0) (a:Option Addr) (n c:Nat) (w:World) (la:Li w a n c A) (hbig:n≤1000000):Calls Tryz.prog 121 #[.slice a n c] w (fun r w'=>r=.returned (.bool false)∧w'=w):=by
 have hz:=hide (zero_all A hV)
 replace la:=hide la
 go_enter Tryz.func121,Tryz.ntmps121
 go_wp2_with fail
 go_loopw [3] (fun i wr=>∃ i':Nat,i'≤n∧i=.int .i64 i'∧wr=w) (fun i _=>n - (intOf i).toNat)
 case atStart=>exact ⟨0,by omega,rfl,rfl⟩
 case round =>
 obtain ⟨i,hi,rfl,rfl⟩:=hrel
 by_cases hl:i<n
 ·have iI:(i:Int)<(n:Int):=by omega
  obtain ⟨p,o,rfl,c0⟩:=(unhide la).at_ i hl
  rw [(unhide hz) i] at c0
  replace c0:World.cell? _ ⟨p,o+i,none⟩=some (.int .i64 0):=c0
  go_wp2_with fail
  go_roundw
  case rel=>exact ⟨i+1,by omega,by go_num,by first | trivial | rfl⟩
  case measure=>simp [intOf]; omega
 ·have iI:¬ (i:Int)<(n:Int):=by omega
  go_wp2_with fail
  exact bodyPost_ret (v:=.bool false) (by simp [results,Tryz.results121,go_sem]) rfl ⟨rfl,rfl⟩
set_option maxHeartbeats 4000000 in
theorem rsome_yes (A:List Nat) (hV:V A≠0) (a:Option Addr) (n c:Nat) (w:World) (la:Li w a n c A) (hbig:n≤1000000):Calls Tryz.prog 121 #[.slice a n c] w (fun r w'=>r=.returned (.bool true)∧w'=w):=by
 obtain ⟨t,ht,ht2,hz⟩:=V_ne A hV
 rw [la.len] at ht
 replace hz:=hide hz
 replace ht2:=hide ht2
 replace la:=hide la
 go_enter Tryz.func121,Tryz.ntmps121
 go_wp2_with fail
 go_loopw [3] (fun i wr=>∃ i':Nat,i'≤t∧i=.int .i64 i'∧wr=w) (fun i _=>n - (intOf i).toNat)
 case atStart=>exact ⟨0,by omega,rfl,rfl⟩
 case round =>
 obtain ⟨i,hi,rfl,rfl⟩:=hrel
 have iI:(i:Int)<(n:Int):=by omega
 obtain ⟨p,o,rfl,c0⟩:=(unhide la).at_ i (by omega)
 by_cases hl:i<t
 ·rw [(unhide hz) i hl] at c0
  replace c0:World.cell? _ ⟨p,o+i,none⟩=some (.int .i64 0):=c0
  go_wp2_with fail
  go_roundw
  case rel=>exact ⟨i+1,by omega,by go_num,by first | trivial | rfl⟩
  case measure=>simp [intOf]; omega
 ·have e:i=t:=by omega
  subst e
  have ht3:=unhide ht2
  generalize A.getD i 0=x at *
  have ht4:¬ (x:Int)=0:=by omega
  clear ht2 hl
  go_wp2_with fail
  exact bodyPost_ret (v:=.bool true) (by simp [results,Tryz.results121,go_sem]) rfl ⟨rfl,rfl⟩
def upL:List Nat→List Nat
 | []=>[]
 | x::l=>(x / 4+l.getD 0 0 % 4 * 64)::upL l
theorem upL_len:∀ l,(upL l).length=l.length
 | []=>rfl
 | x::l=>by rw [upL,List.length_cons,List.length_cons,upL_len l]
theorem V_mod4:∀ l:List Nat,V l % 4=l.getD 0 0 % 4
 | []=>rfl
 | x::l=>by rw [V]; simp; omega
theorem V_up:∀ l:List Nat,V (upL l)=V l / 4
 | []=>rfl
 | x::l=>by
  rw [upL,V,V,V_up l]
  have:=V_mod4 l
  omega
theorem upL_allB:∀ l:List Nat,AllB l→AllB (upL l)
 | [],_=>fun x hx=>by cases hx
 | x::l,h=>fun y hy=>by
  rw [upL] at hy
  have hx:=h x List.mem_cons_self
  rcases List.mem_cons.1 hy with h1 | h1
  ·omega
  ·exact upL_allB l (fun z hz=>h z (List.mem_cons_of_mem _ hz)) y h1
theorem upL_get:∀ (l:List Nat) (j:Nat),j<l.length→(upL l).getD j 0=l.getD j 0 / 4+l.getD (j+1) 0 % 4 * 64
 | [],j,h=>by simp at h
 | x::l,0,h=>by simp [upL]
 | x::l,j+1,h=>by
  have:=upL_get l j (by simp at h; omega)
  rw [upL]
  simpa using this
def Q130:Nat:=2 ^ 130
def loL (A:List Nat):List Nat:=(List.range 16).map (fun i=>A.getD i 0)++[A.getD 16 0 % 4]
theorem loL_allB (A:List Nat) (h:AllB A):AllB (loL A):=by
 refine AllB.snoc (fun x hx=>?_) (by omega)
 obtain ⟨i,_,rfl⟩:=List.mem_map.1 hx
 exact h.at_ i
theorem V_range (A:List Nat):∀ n,V ((List.range n).map (fun i=>A.getD i 0))=V (A.take n)
 | 0=>by simp [V]
 | n+1=>by
  rw [List.range_succ,List.map_append,List.map_cons,List.map_nil,V_snoc,V_range A n,List.length_map,List.length_range,V_take_succ]
theorem V_split (A:List Nat) (n:Nat):V A=V (A.take n)+256 ^ n * V (A.drop n):=by
 rcases Nat.lt_or_ge n A.length with h | h
 ·have e:=V_append (A.take n) (A.drop n)
  rw [List.take_append_drop,List.length_take,Nat.min_eq_left (by omega)] at e
  exact e
 ·rw [List.take_of_length_le h,List.drop_of_length_le h]
  simp [V]
theorem take_lt (A:List Nat) (h:AllB A) (n:Nat):V (A.take n)<256 ^ n:=by
 have h1:=V_lt (A.take n) (fun x hx=>h x (List.mem_of_mem_take hx))
 exact Nat.lt_of_lt_of_le h1 (Nat.pow_le_pow_right (by omega) (by rw [List.length_take]; omega))
theorem V_lo (A:List Nat) (h:AllB A):V (loL A)=V A % Q130∧V (upL (A.drop 16))=V A / Q130:=by
 have h1:=V_split A 16
 have h2:=take_lt A h 16
 have h3:=V_mod4 (A.drop 16)
 have h4:(A.drop 16).getD 0 0=A.getD 16 0:=by rw [List.getD_eq_getElem?_getD,List.getElem?_drop,← List.getD_eq_getElem?_getD]
 rw [h4] at h3
 unfold loL
 rw [V_snoc,V_range,List.length_map,List.length_range,V_up,h1]
 unfold Q130
 generalize V (A.take 16)=x at *
 generalize V (A.drop 16)=y at *
 generalize A.getD 16 0 % 4=z at *
 have e:(256:Nat) ^ 16=340282366920938463463374607431768211456:=by decide
 have e2:(2:Nat) ^ 130=1361129467683753853853498429727072845824:=by decide
 rw [e] at h2 ⊢
 rw [e2]
 omega
end Go.Proofs.YthahhglbeafkmaaGreatDoor
namespace Go.Proofs.YthahhglbeafkmaaGreatDoor
open Go.RowKit
set_option maxRecDepth 100000
set_option linter.unusedSimpArgs false
set_option linter.unusedVariables false
def Hi (A:List Nat) (w:World) (r:Ending) (w':World):Prop:=∃ vu vl U L,r=.returned (.tuple #[vu,vl])∧Oi w.heap.size w' vu U∧Oi w.heap.size w' vl L∧AllB U∧AllB L∧V U=V A / Q130∧V L=V A % Q130∧U.length=A.length - 16∧L.length=17∧Gr w w'
set_option maxHeartbeats 4000000 in
theorem rhigh_ok (A:List Nat) (hA:AllB A) (a:Option Addr) (n ca:Nat) (hbn:n≤100000) (w:World) (la:Li w a n ca A):Calls Tryz.prog 120 #[.slice a n ca] w (Hi A w):=by
 obtain ⟨T,hT⟩:∃ T,T=Hi A w:=⟨_,rfl⟩
 rw [← hT]
 unfold Hi at hT
 replace hT:=hide hT
 have hn:=hide la.len
 replace la:=hide la
 replace hA:=hide hA
 have hG:Hid (Gr w w):=Gr.refl w
 go_enter Tryz.func120,Tryz.ntmps120
 go_wp2_with fail
 go_loopw [6,4] (fun i o wr=>∃ i':Nat,∃ v:Value,∃ L:List Nat,i'≤16∧i=.int .i64 i'∧v=o∧Hid (L=(List.range i').map (fun j=>A.getD j 0))∧Hid (Oi w.heap.size wr v L)∧Hid (Gr w wr)) (fun i _ _=>16 - (intOf i).toNat)
 case atStart=>exact ⟨0,_,[],by omega,rfl,rfl,rfl,Oi.nil _ _,hG⟩
 case round =>
 clear hG
 obtain ⟨i,v,L,hi,rfl,rfl,hL,ob,hG⟩:=hrel
 have hLl:L.length=i:=by rw [unhide hL]; simp
 by_cases hl:i<16
 ·have iI:(i:Int)<16:=by omega
  obtain ⟨x,hx⟩:∃ x,x=A.getD i 0:=⟨_,rfl⟩
  have hL2:Hid (L++[x]=(List.range (i+1)).map (fun j=>A.getD j 0)):=by
   rw [unhide hL,List.range_succ,List.map_append,hx]
   exact rfl
  replace hx:=hide hx
  go_upto_region 5 with fail
  replace hG:=unhide hG
  replace ob:=unhide ob
  refine wp_region_lit ?_
  refine list_val v (by kernel_rfl) (by kernel_rfl) ?_
  simp only [nrm]
  refine list_val (.slice a n ca) (by kernel_rfl) (by kernel_rfl) ?_
  simp only [nrm]
  refine list_val (.int .i64 i) (by kernel_rfl) (by kernel_rfl) ?_
  simp only [nrm]
  refine list_call 100 #[.slice a n ca,.int .i64 i] (by kernel_rfl) (by kernel_rfl) ((rat_ok A a n ca i _ ((unhide la).gr hG)).mono ?_)
  rintro r wq ⟨rfl,rfl⟩
  refine ⟨_,rfl,?_⟩
  rw [← unhide hx]
  simp only [nrm]
  refine list_valw (.slice (some ⟨wq.heap.size,0,none⟩) 1 1) (wq.alloc (.cells #[.int .i64 (x:Int)] 3 (0,0))) (by kernel_rfl) (by kernel_rfl) ?_
  simp only [nrm]
  have hnew:=blk_new wq (.cells #[.int .i64 (x:Int)] 3 (0,0))
  have hgx:=(Gr.refl wq).alloc (.cells #[.int .i64 (x:Int)] 3 (0,0))
  replace hG:=hG.trans hgx
  replace ob:=ob.gr hgx
  clear hgx
  generalize World.alloc _ _=w1 at *
  generalize wq.heap.size=g1 at *
  refine app_int rfl (.tmp 12) (.tmp 16) rfl w.heap.size v L rfl ob g1 x _ rfl hnew (by omega) hG.size ?_
  intro v2 w2 ob2 hgr
  simp only [nrm]
  replace hG:=Oi.grown ob (Nat.le_refl _) hG hgr
  clear hgr hnew ob
  (refine wpList_step fun K hK=>?_; replace hK:=hide hK; go_simp; refine unhide hK _ _ ?_; clear hK K)
  refine wpList_nil ?_
  replace hG:=hide hG
  replace ob2:=hide ob2
  go_wp2_with fail
  go_roundw
  case rel=>exact ⟨i+1,v2,_,by omega,by go_num,rfl,hL2,ob2,hG⟩
  case measure=>simp [intOf]; omega
 ·have e:i=16:=by omega
  subst e
  obtain ⟨x,hx⟩:∃ x,x=A.getD 16 0:=⟨_,rfl⟩
  obtain ⟨d,hd⟩:∃ d,d=x % 4:=⟨_,rfl⟩
  have hL2:Hid (L++[d]=loL A):=by
   rw [unhide hL,hd,hx]
   exact rfl
  have e3:(x:Int).tmod 4=(d:Int):=by rw [Int.tmod_eq_emod_of_nonneg (by omega)]; omega
  replace hx:=hide hx
  replace hd:=hide hd
  go_upto_region 6 with fail
  replace hG:=unhide hG
  replace ob:=unhide ob
  refine wp_region_lit ?_
  refine list_val v (by kernel_rfl) (by kernel_rfl) ?_
  simp only [nrm]
  refine list_val (.slice a n ca) (by kernel_rfl) (by kernel_rfl) ?_
  simp only [nrm]
  refine list_call 100 #[.slice a n ca,.int .i64 16] (by kernel_rfl) (by kernel_rfl) ((rat_ok A a n ca 16 _ ((unhide la).gr hG)).mono ?_)
  rintro r wq ⟨rfl,rfl⟩
  refine ⟨_,rfl,?_⟩
  rw [← unhide hx]
  simp only [nrm]
  refine list_val (.int .i64 d) (by kernel_rfl) (by go_simp) ?_
  simp only [nrm]
  refine list_valw (.slice (some ⟨wq.heap.size,0,none⟩) 1 1) (wq.alloc (.cells #[.int .i64 (d:Int)] 3 (0,0))) (by kernel_rfl) (by kernel_rfl) ?_
  simp only [nrm]
  have hnew:=blk_new wq (.cells #[.int .i64 (d:Int)] 3 (0,0))
  have hgx:=(Gr.refl wq).alloc (.cells #[.int .i64 (d:Int)] 3 (0,0))
  replace hG:=hG.trans hgx
  replace ob:=ob.gr hgx
  clear hgx
  generalize World.alloc _ _=w1 at *
  generalize wq.heap.size=g1 at *
  refine app_int rfl (.tmp 18) (.tmp 22) rfl w.heap.size v L rfl ob g1 d _ rfl hnew (by omega) hG.size ?_
  intro vw w2 ob2 hgr
  simp only [nrm]
  replace hG:=Oi.grown ob (Nat.le_refl _) hG hgr
  clear hgr hnew ob
  (refine wpList_step fun K hK=>?_; replace hK:=hide hK; go_simp; refine unhide hK _ _ ?_; clear hK K)
  refine wpList_nil ?_
  obtain ⟨wb,hwb⟩:∃ x,x=w2:=⟨_,rfl⟩
  subst hwb
  have hGb:Hid (Gr w wb):=hG
  have obl:Hid (Oi w.heap.size wb vw (loL A)):=by rw [← unhide hL2]; exact ob2
  have hG0:Hid (Gr wb wb):=Gr.refl wb
  clear hG ob2 hL2 hL hLl e3 hx hd L hl
  go_wp2_with fail
  go_loopw [7,5] (fun i o wr=>∃ i':Nat,∃ v:Value,∃ U:List Nat,16≤i'∧(i'≤n∨i'=16)∧i=.int .i64 i'∧v=o∧Hid (U=(upL (A.drop 16)).take (i' - 16))∧Hid (Oi wb.heap.size wr v U)∧Hid (Gr wb wr)) (fun i _ _=>n - (intOf i).toNat)
  case atStart=>exact ⟨16,_,[],by omega,.inr rfl,rfl,rfl,(show ([]:List Nat)=(upL (A.drop 16)).take (16 - 16) from by simp),Oi.nil _ _,hG0⟩
  case round =>
  clear hG0
  obtain ⟨i,vu,U,hi16,hin,rfl,rfl,hU,ob,hG⟩:=hrel
  have hUl:U.length≤n:=by rw [unhide hU,List.length_take,upL_len,List.length_drop,unhide hn]; omega
  by_cases hl:i<n
  ·have iI:(i:Int)<(n:Int):=by omega
   obtain ⟨i1,hi1⟩:∃ x,x=i+1:=⟨_,rfl⟩
   obtain ⟨x,hx⟩:∃ x,x=A.getD i 0:=⟨_,rfl⟩
   obtain ⟨y,hy⟩:∃ x,x=A.getD i1 0:=⟨_,rfl⟩
   have hx2:x<256:=by rw [hx]; exact (unhide hA).at_ i
   have hy2:y<256:=by rw [hy]; exact (unhide hA).at_ i1
   obtain ⟨x4,hx4⟩:∃ z,z=x / 4:=⟨_,rfl⟩
   obtain ⟨y4,hy4⟩:∃ z,z=y % 4:=⟨_,rfl⟩
   obtain ⟨y64,hy64⟩:∃ z,z=y4 * 64:=⟨_,rfl⟩
   obtain ⟨d,hd⟩:∃ d,d=x4+y64:=⟨_,rfl⟩
   have hU2:U++[d]=(upL (A.drop 16)).take (i1 - 16):=by
    have hlen:i - 16<(upL (A.drop 16)).length:=by rw [upL_len,List.length_drop,unhide hn]; omega
    have hg:=upL_get (A.drop 16) (i - 16) (by rw [← upL_len]; exact hlen)
    have e1:(A.drop 16).getD (i - 16) 0=x:=by rw [hx,List.getD_eq_getElem?_getD,List.getElem?_drop,show 16+(i - 16)=i from by omega,← List.getD_eq_getElem?_getD]
    have e2:(A.drop 16).getD (i - 16+1) 0=y:=by rw [hy,List.getD_eq_getElem?_getD,List.getElem?_drop,show 16+(i - 16+1)=i1 from by omega,← List.getD_eq_getElem?_getD]
    rw [e1,e2] at hg
    have hd2:(upL (A.drop 16))[i - 16]=d:=by
     rw [hd,hx4,hy64,hy4,← hg]
     simp [hlen]
    rw [unhide hU,show i1 - 16=i - 16+1 from by omega,List.take_add_one,List.getElem?_eq_getElem hlen,hd2]
    rfl
   replace hU2:=hide hU2
   have f1:(x:Int).tdiv 4=(x4:Int):=by rw [Int.tdiv_eq_ediv_of_nonneg (by omega)]; omega
   have f2:(y:Int).tmod 4=(y4:Int):=by rw [Int.tmod_eq_emod_of_nonneg (by omega)]; omega
   have f3:(y4:Int) * 64=(y64:Int):=by omega
   have f4:(x4:Int)+(y64:Int)=(d:Int):=by omega
   have f5:(i:Int)+1=(i1:Int):=by omega
   have g1':IntKind.i64.wrap (x4:Int)=(x4:Int):=by rw [IntKind.wrap_i64]; omega
   have g2':IntKind.i64.wrap (y64:Int)=(y64:Int):=by rw [IntKind.wrap_i64]; omega
   have g3':IntKind.i64.wrap (d:Int)=(d:Int):=by rw [IntKind.wrap_i64]; omega
   have g4':IntKind.i64.wrap (i1:Int)=(i1:Int):=by rw [IntKind.wrap_i64]; omega
   replace hx:=hide hx
   replace hy:=hide hy
   replace hx4:=hide hx4
   replace hy4:=hide hy4
   replace hy64:=hide hy64
   replace hd:=hide hd
   replace hi1:=hide hi1
   go_upto_region 10 with fail
   replace hG:=unhide hG
   replace ob:=unhide ob
   refine wp_region_lit ?_
   refine list_val vu (by kernel_rfl) (by kernel_rfl) ?_
   simp only [nrm]
   refine list_val (.slice a n ca) (by kernel_rfl) (by kernel_rfl) ?_
   simp only [nrm]
   refine list_val (.int .i64 i) (by kernel_rfl) (by kernel_rfl) ?_
   simp only [nrm]
   refine list_call 100 #[.slice a n ca,.int .i64 i] (by kernel_rfl) (by kernel_rfl) ((rat_ok A a n ca i _ (((unhide la).gr (unhide hGb)).gr hG)).mono ?_)
   rintro r wq ⟨rfl,rfl⟩
   refine ⟨_,rfl,?_⟩
   rw [← unhide hx]
   simp only [nrm]
   refine list_val (.int .i64 x4) (by kernel_rfl) (by go_simp) ?_
   simp only [nrm]
   refine list_val (.slice a n ca) (by kernel_rfl) (by kernel_rfl) ?_
   simp only [nrm]
   refine list_val (.int .i64 i) (by kernel_rfl) (by kernel_rfl) ?_
   simp only [nrm]
   refine list_val (.int .i64 i1) (by kernel_rfl) (by go_simp) ?_
   simp only [nrm]
   refine list_call 100 #[.slice a n ca,.int .i64 i1] (by kernel_rfl) (by kernel_rfl) ((rat_ok A a n ca i1 _ (((unhide la).gr (unhide hGb)).gr hG)).mono ?_)
   rintro r wq ⟨rfl,rfl⟩
   refine ⟨_,rfl,?_⟩
   rw [← unhide hy]
   simp only [nrm]
   refine list_val (.int .i64 y4) (by kernel_rfl) (by go_simp) ?_
   simp only [nrm]
   refine list_val (.int .i64 y64) (by kernel_rfl) (by go_simp) ?_
   simp only [nrm]
   refine list_val (.int .i64 d) (by kernel_rfl) (by go_simp) ?_
   simp only [nrm]
   refine list_valw (.slice (some ⟨wq.heap.size,0,none⟩) 1 1) (wq.alloc (.cells #[.int .i64 (d:Int)] 3 (0,0))) (by kernel_rfl) (by kernel_rfl) ?_
   simp only [nrm]
   have hnew:=blk_new wq (.cells #[.int .i64 (d:Int)] 3 (0,0))
   have hgx:=(Gr.refl wq).alloc (.cells #[.int .i64 (d:Int)] 3 (0,0))
   replace hG:=hG.trans hgx
   replace ob:=ob.gr hgx
   clear hgx
   generalize World.alloc _ _=w1 at *
   generalize wq.heap.size=g1 at *
   refine app_int rfl (.tmp 30) (.tmp 42) rfl wb.heap.size vu U rfl ob g1 d _ rfl hnew (by omega) hG.size ?_
   intro v2 w2 ob2 hgr
   simp only [nrm]
   replace hG:=Oi.grown ob (Nat.le_refl _) hG hgr
   clear hgr hnew ob
   (refine wpList_step fun K hK=>?_; replace hK:=hide hK; go_simp; refine unhide hK _ _ ?_; clear hK K)
   refine wpList_nil ?_
   replace hG:=hide hG
   replace ob2:=hide ob2
   go_wp2_with fail
   go_roundw
   case rel=>exact ⟨i1,v2,_,by have:=unhide hi1; omega,.inl (by have:=unhide hi1; omega),rfl,rfl,hU2,ob2,hG⟩
   case measure=>have:=unhide hi1; simp [intOf]; omega
  ·have iI:¬ (i:Int)<(n:Int):=by omega
   have hUe:U=upL (A.drop 16):=by rw [unhide hU]; exact List.take_of_length_le (by rw [upL_len,List.length_drop,unhide hn]; omega)
   have hvl:=V_lo A (unhide hA)
   have hP:Hid (∃ vu' vl U L,Ending.returned (.tuple #[vu,vw])=.returned (.tuple #[vu',vl])∧Oi w.heap.size wr vu' U∧Oi w.heap.size wr vl L∧AllB U∧AllB L∧V U=V A / Q130∧V L=V A % Q130∧U.length=A.length - 16∧L.length=17∧Gr w wr) :=
    ⟨vu,vw,U,loL A,rfl,(unhide ob).up (unhide hGb).size,(unhide obl).gr (unhide hG),by rw [hUe]; exact upL_allB _ (fun x hx=>(unhide hA) x (List.mem_of_mem_drop hx)),loL_allB A (unhide hA),by rw [hUe]; exact hvl.2,hvl.1,by rw [hUe,upL_len,List.length_drop],by simp [loL],(unhide hGb).trans (unhide hG)⟩
   clear ob obl hG hGb hU hUe hvl
   go_wp2_with fail
   rw [unhide hT]
   exact unhide hP
end Go.Proofs.YthahhglbeafkmaaGreatDoor
namespace Go.Proofs.YthahhglbeafkmaaGreatDoor
open Go.RowKit
set_option maxRecDepth 100000
set_option linter.unusedSimpArgs false
set_option linter.unusedVariables false
def ni (l:List Nat):Array Value:=(nc l).toArray
theorem ni_size (l:List Nat):(ni l).size=l.length:=by simp [ni,nc]
theorem ni_set (l:List Nat) (i x:Nat):(ni l).setIfInBounds i (.int .i64 (x:Int))=ni (l.set i x):=by
 unfold ni nc
 rw [List.setIfInBounds_toArray,List.map_set]
theorem ni_cell {v:World} {g:Nat} {l:List Nat} {t:TypeId} (h:v.heap[g]?=some (.cells (ni l) t (0,0))) (i:Nat) (hi:i<l.length):v.cell? ⟨g,i,none⟩=some (.int .i64 ((l.getD i 0:Nat):Int)):=by
 refine cell_of h ?_
 unfold ni nc
 simp [hi]
theorem oi_of {w:World} {b g n:Nat} {L:List Nat} (h:w.heap[g]?=some (.cells (ni L) 3 (0,0))) (hn:L.length=n) (hg:b≤g) (hb:n≤140737488351232):Oi b w (.slice (some ⟨g,0,none⟩) n n) L:=by
 subst hn
 exact ⟨by simp [nc],.inr ⟨g,L.length,ni L,rfl,hg,h,Nat.le_refl _,by unfold maxLen; omega,by rw [ni_size,Nat.mul_one],by unfold ni; rw [Nat.mul_one]; exact List.take_of_length_le (by simp [nc])⟩⟩
theorem wpList_make_ints (w:World) {ops:Array Oper} {rest:List Oper} {o:Oper} {a:Act} {Q:Exit→Act→World→Prop}
  (hg:o.guard=none) (l c:Operand) (hop:o.op=Op.makeSlice 146 l c) (n:Nat) (hl:a.eval l=.int .i64 n) (hc:a.eval c=.int .i64 n) (hn:n≤1000000)
  (hK:wpList Tryz.prog ops Q rest (a.put o.dst (.slice (some ⟨w.heap.size,0,none⟩) n n)) (w.alloc (.cells (ni (List.replicate n 0)) 3 (0,0)))) :
  wpList Tryz.prog ops Q (o::rest) a w:=by
 obtain ⟨i,h2,h3,h4,h5⟩:=info_parts Tryz.infoI
 refine wpList_plain hg fun K hK'=>?_
 have hrun:=run_make (P:=Tryz.prog) w 146 3 i (.int .i64 0) Tryz.underlying146 h2 h3 .i64 .i64 (n:Int) (n:Int) (by omega) (by omega) (by rw [h5]; omega) (by omega)
 rw [h4] at hrun
 have e:madeCells (Value.int .i64 0).cells n=ni (List.replicate n 0):=by
  apply Array.ext
  ·simp [size_madeCells,ni,nc]
  ·intro i h1 h2
   have:i % 1=0:=Nat.mod_one i
   simp [madeCells,Value.cells,this,ni,nc]
 simp only [Int.toNat_natCast,Nat.mul_one,e] at hrun
 unfold Oper.wp
 simp [execOp,hop,hl,hc,hrun,Result.andThen]
 exact hK' _ _ hK
theorem V_set:∀ (l:List Nat) (j d:Nat),j<l.length→V (l.set j d)+256 ^ j * l.getD j 0=V l+256 ^ j * d
 | [],j,d,h=>by simp at h
 | x::l,0,d,h=>by simp [V]; omega
 | x::l,j+1,d,h=>by
  have h1:=V_set l j d (by simp at h; omega)
  rw [List.set_cons_succ,V,V,Nat.pow_succ,Nat.mul_comm (256 ^ j) 256,Nat.mul_assoc,Nat.mul_assoc,List.getD_cons_succ]
  omega
theorem AllB.set {l:List Nat} (h:AllB l) (j:Nat) {d:Nat} (hd:d<256):AllB (l.set j d):=fun x hx=>by
 rcases List.mem_or_eq_of_mem_set hx with h1 | h1
 ·exact h x h1
 ·omega
theorem V_rep:∀ n,V (List.replicate n 0)=0
 | 0=>rfl
 | n+1=>by rw [List.replicate_succ,V,V_rep n]
theorem rep_allB (n:Nat):AllB (List.replicate n 0):=fun x hx=>by have:=List.eq_of_mem_replicate hx; omega
theorem times_step (Pi Pk VL VL2 o x y c s d c2 X Y:Nat) (hv:VL2+Pi * Pk * o=VL+Pi * Pk * d) (h:VL+Pi * Pk * c=X+x * Pi * Y) (hs:s=o+x * y+c) (hd:d=s % 256) (hc:c2=s / 256):VL2+Pi * (Pk * 256) * c2=X+x * Pi * (Y+Pk * y):=by
 have e:s=d+256 * c2:=by omega
 have e2:Pi * Pk * s=Pi * Pk * d+Pi * (Pk * 256) * c2:=by rw [e,Nat.mul_add]; congr 1; simp only [Nat.mul_assoc]
 have e3:Pi * Pk * s=Pi * Pk * o+Pi * Pk * (x * y)+Pi * Pk * c:=by rw [hs,Nat.mul_add,Nat.mul_add]
 have e4:x * Pi * (Y+Pk * y)=x * Pi * Y+Pi * Pk * (x * y):=by
  rw [Nat.mul_add]
  congr 1
  rw [Nat.mul_comm x Pi,Nat.mul_assoc,Nat.mul_assoc]
  congr 1
  rw [← Nat.mul_assoc,Nat.mul_comm x Pk,Nat.mul_assoc]
 omega
theorem times_top (A B:List Nat) (hA:AllB A) (hB:AllB B) (i k c VL:Nat) (hk:B.length<k) (h:VL+256 ^ i * 256 ^ k * c=V (A.take i) * V B+A.getD i 0 * 256 ^ i * V B):c=0:=by
 have h1:V (A.take i) * V B+A.getD i 0 * 256 ^ i * V B=V (A.take (i+1)) * V B:=by
  rw [V_take_succ,Nat.add_mul,Nat.mul_comm (A.getD i 0) (256 ^ i)]
 have h2:=take_lt A hA (i+1)
 have h3:=V_lt B hB
 rw [h1] at h
 rcases Nat.eq_zero_or_pos c with hc | hc
 ·exact hc
 ·exfalso
  have h4:V (A.take (i+1)) * V B<256 ^ (i+1) * 256 ^ B.length:=by
   rcases Nat.eq_zero_or_pos (V B) with hb | hb
   ·rw [hb,Nat.mul_zero]; exact Nat.mul_pos (Nat.pow_pos (by omega)) (Nat.pow_pos (by omega))
   ·exact Nat.lt_of_lt_of_le (Nat.mul_lt_mul_of_pos_right h2 hb) (Nat.mul_le_mul_left _ (Nat.le_of_lt h3))
  have h5:256 ^ (i+1) * 256 ^ B.length≤256 ^ i * 256 ^ k:=by
   rw [← Nat.pow_add,← Nat.pow_add]
   exact Nat.pow_le_pow_right (by omega) (by omega)
  have h6:256 ^ i * 256 ^ k≤256 ^ i * 256 ^ k * c:=Nat.le_mul_of_pos_right _ hc
  omega
def TimesP (A B L:List Nat):Prop:=AllB L∧V L=V A * V B∧L.length=A.length+B.length+1
set_option maxHeartbeats 8000000 in
theorem rtimes_ok (A B:List Nat) (hA:AllB A) (hB0:AllB B) (a b:Option Addr) (n m ca cb:Nat) (hbn:n≤100000) (hbm:m≤100000) (w:World) (la:Li w a n ca A) (lb:Li w b m cb B):Calls Tryz.prog 98 #[.slice a n ca,.slice b m cb] w (Ri (TimesP A B) w):=by
 obtain ⟨T,hT⟩:∃ T,T=Ri (TimesP A B) w:=⟨_,rfl⟩
 rw [← hT]
 unfold Ri at hT
 replace hT:=hide hT
 have hn:=hide la.len
 have hm:=hide lb.len
 replace la:=hide la
 replace lb:=hide lb
 replace hA:=hide hA
 replace hB0:=hide hB0
 obtain ⟨q0,hq0⟩:∃ x,x=n+m:=⟨_,rfl⟩
 obtain ⟨q1,hq1⟩:∃ x,x=n+m+1:=⟨_,rfl⟩
 have e1:(n:Int)+(m:Int)=(q0:Int):=by omega
 have e2:(q0:Int)+1=(q1:Int):=by omega
 have e3:IntKind.i64.wrap (q0:Int)=(q0:Int):=by rw [IntKind.wrap_i64]; omega
 have e4:IntKind.i64.wrap (q1:Int)=(q1:Int):=by rw [IntKind.wrap_i64]; omega
 have hq2:q1≤1000000:=by omega
 replace hq0:=hide hq0
 replace hq1:=hide hq1
 go_enter Tryz.func98,Tryz.ntmps98
 go_upto_region 1 with fail
 refine wp_region_lit ?_
 refine list_val (.slice a n ca) (by kernel_rfl) (by kernel_rfl) ?_
 simp only [nrm]
 refine list_val (.int .i64 n) (by kernel_rfl) (by kernel_rfl) ?_
 simp only [nrm]
 refine list_val (.slice b m cb) (by kernel_rfl) (by kernel_rfl) ?_
 simp only [nrm]
 refine list_val (.int .i64 m) (by kernel_rfl) (by kernel_rfl) ?_
 simp only [nrm]
 refine list_val (.int .i64 q0) (by kernel_rfl) (by go_simp) ?_
 simp only [nrm]
 refine list_val (.int .i64 q1) (by kernel_rfl) (by go_simp) ?_
 simp only [nrm]
 refine wpList_make_ints w rfl (.tmp 15) (.tmp 15) rfl q1 rfl rfl (by omega) ?_
 simp only [nrm]
 have hB:=(Bl.nil w).new (ni (List.replicate q1 0)) 3
 simp only [List.nil_append] at hB
 generalize World.alloc _ _=u at *
 generalize w.heap.size=g5 at hB ⊢
 (refine wpList_step fun K hK=>?_; replace hK:=hide hK; go_simp; refine unhide hK _ _ ?_; clear hK K)
 refine wpList_nil ?_
 clear e1 e2 e3 e4
 replace hB:=hide hB
 go_wp2_with fail
 go_loopw [6] (fun i wr=>∃ i':Nat,∃ L:List Nat,i'≤n∧i=.int .i64 i'∧Hid (L.length=q1)∧Hid (AllB L)∧Hid (V L=V (A.take i') * V B)∧Hid (Bl w [⟨g5,ni L,3⟩] wr)) (fun i _=>n - (intOf i).toNat)
 case atStart=>exact ⟨0,_,by omega,rfl,(by rw [List.length_replicate]; exact rfl),rep_allB _,(by rw [V_rep,List.take_zero,V,Nat.zero_mul]; exact rfl),hB⟩
 case round =>
 clear hB
 obtain ⟨i,L,hi,rfl,hL,hAB,hV,hB⟩:=hrel
 by_cases hl:i<n
 ·have iI:(i:Int)<(n:Int):=by omega
  obtain ⟨pa,oa,rfl,hca⟩:=(unhide la).at_ i hl
  obtain ⟨x,hx⟩:∃ x,x=A.getD i 0:=⟨_,rfl⟩
  rw [← hx] at hca
  have hx2:x<256:=by rw [hx]; exact (unhide hA).at_ i
  replace hca:=hide hca
  replace hx:=hide hx
  have hV0:Hid (V L+256 ^ i * 256 ^ 0 * 0=V (A.take i) * V B+x * 256 ^ i * V (B.take 0)):=by
   rw [Nat.mul_zero,Nat.add_zero,List.take_zero,V,Nat.mul_zero,Nat.add_zero]
   exact unhide hV
  go_wp2_with fail
  go_loopw [8,7] (fun e f wr=>∃ k c:Nat,∃ L:List Nat,k≤m+1∧e=.int .i64 k∧f=.int .i64 c∧Hid (L.length=q1)∧Hid (AllB L)∧c≤255∧Hid (V L+256 ^ i * 256 ^ k * c=V (A.take i) * V B+x * 256 ^ i * V (B.take k))∧Hid (Bl w [⟨g5,ni L,3⟩] wr)) (fun e _ _=>m+1 - (intOf e).toNat)
  case atStart=>exact ⟨0,0,L,by omega,rfl,rfl,hL,hAB,by omega,hV0,hB⟩
  case round =>
  clear hB hV0 hV hAB hL L
  obtain ⟨k,c,L,hk,rfl,rfl,hL,hAB,hc,hV,hB⟩:=hrel
  have hck:k=m+1→c=0:=fun e=>by
   refine times_top A B (unhide hA) (unhide hB0) i k c (V L) (by rw [unhide hm]; omega) ?_
   have h:=unhide hV
   rw [V_take_all B k (by rw [unhide hm]; omega),unhide hx] at h
   exact h
  by_cases hcond:k<m∨0<c
  ·have hk2:k≤m:=by
    rcases Nat.lt_or_ge m k with h | h
    ·have:=hck (by omega)
     omega
    ·exact h
   obtain ⟨j,hj⟩:∃ j,j=i+k:=⟨_,rfl⟩
   obtain ⟨o,ho⟩:∃ o,o=L.getD j 0:=⟨_,rfl⟩
   obtain ⟨y,hy⟩:∃ y,y=B.getD k 0:=⟨_,rfl⟩
   have ho2:o<256:=by rw [ho]; exact (unhide hAB).at_ j
   have hy2:y<256:=by rw [hy]; exact (unhide hB0).at_ k
   obtain ⟨xy,hxy⟩:∃ z,z=x * y:=⟨_,rfl⟩
   have hxy2:xy≤65025:=by rw [hxy]; exact Nat.mul_le_mul (by omega:x≤255) (by omega:y≤255)
   obtain ⟨s1,hs1⟩:∃ z,z=o+xy:=⟨_,rfl⟩
   obtain ⟨s,hs⟩:∃ z,z=s1+c:=⟨_,rfl⟩
   obtain ⟨d,hd⟩:∃ d,d=s % 256:=⟨_,rfl⟩
   obtain ⟨c2,hc2⟩:∃ c2,c2=s / 256:=⟨_,rfl⟩
   have hjq:j<q1:=by have:=unhide hq1; omega
   have hLl:=unhide hL
   have hL2:Hid ((L.set j d).length=q1):=by rw [List.length_set]; exact hL
   have hAB2:Hid (AllB (L.set j d)):=(unhide hAB).set j (by omega)
   have hV2:Hid (V (L.set j d)+256 ^ i * 256 ^ (k+1) * c2=V (A.take i) * V B+x * 256 ^ i * V (B.take (k+1))):=by
    have h1:=V_set L j d (by omega)
    rw [← ho,hj,Nat.pow_add] at h1
    rw [V_take_succ,← hy,Nat.pow_succ]
    rw [hj]
    exact times_step (256 ^ i) (256 ^ k) (V L) _ o x y c s d c2 _ _ h1 (unhide hV) (by rw [hs,hs1,hxy]) hd hc2
   have e1:(i:Int)+(k:Int)=(j:Int):=by omega
   have e2:(x:Int) * (y:Int)=(xy:Int):=by rw [hxy,Int.natCast_mul]
   have e3:(o:Int)+(xy:Int)=(s1:Int):=by omega
   have e4:(s1:Int)+(c:Int)=(s:Int):=by omega
   have e5:(s:Int).tmod 256=(d:Int):=by rw [Int.tmod_eq_emod_of_nonneg (by omega)]; omega
   have e6:(s:Int).tdiv 256=(c2:Int):=by rw [Int.tdiv_eq_ediv_of_nonneg (by omega)]; omega
   have g1':IntKind.i64.wrap (j:Int)=(j:Int):=by rw [IntKind.wrap_i64]; omega
   have g2':IntKind.i64.wrap (xy:Int)=(xy:Int):=by rw [IntKind.wrap_i64]; omega
   have g3':IntKind.i64.wrap (s1:Int)=(s1:Int):=by rw [IntKind.wrap_i64]; omega
   have g4':IntKind.i64.wrap (s:Int)=(s:Int):=by rw [IntKind.wrap_i64]; omega
   have g5':IntKind.i64.wrap (c2:Int)=(c2:Int):=by rw [IntKind.wrap_i64]; omega
   have jI:(j:Int)<(q1:Int):=by omega
   have hc3:c2≤255:=by omega
   replace hj:=hide hj
   replace ho:=hide ho
   replace hy:=hide hy
   replace hxy:=hide hxy
   replace hs1:=hide hs1
   replace hs:=hide hs
   replace hd:=hide hd
   replace hc2:=hide hc2
   replace hck:=hide hck
   by_cases h1:k<m
   ·have f1:(k:Int)<(m:Int):=by omega
    go_upto_region 9 with fail
    replace hB:=unhide hB
    refine any_start (S:=fun v=>Bl w [⟨g5,ni L,3⟩] v) (by kernel_rfl) ?_
    replace hB:=hB.drew
    generalize World.drew _=v0 at *
    simp only [List.size_toArray,List.length_cons,List.length_nil,Array.replicate,List.replicate]
    refine any_take (i:=0) (v:=(.slice (some ⟨g5,0,none⟩) q1 q1)) #[false,false,false,false,false,false,false,false,false,false,false,false,false,false,false,false,false,false] rfl (by kernel_rfl) (by kernel_rfl) (by kernel_rfl) (by kernel_rfl) (fun _ _ _ h=>h) (.inl ⟨by kernel_rfl,fun x_ hu=>by kernel_rfl⟩) hB ?_
    simp only [nrm]
    refine any_take (i:=1) (v:=(.int .i64 i)) #[true,false,false,false,false,false,false,false,false,false,false,false,false,false,false,false,false,false] rfl (by kernel_rfl) (by kernel_rfl) (by kernel_rfl) (by kernel_rfl) (fun _ _ _ h=>h) (.inl ⟨by kernel_rfl,fun x_ hu=>by kernel_rfl⟩) hB ?_
    simp only [nrm]
    refine any_take (i:=2) (v:=(.int .i64 k)) #[true,true,false,false,false,false,false,false,false,false,false,false,false,false,false,false,false,false] rfl (by kernel_rfl) (by kernel_rfl) (by kernel_rfl) (by kernel_rfl) (fun _ _ _ h=>h) (.inl ⟨by kernel_rfl,fun x_ hu=>by kernel_rfl⟩) hB ?_
    simp only [nrm]
    refine any_take (i:=3) (v:=(.int .i64 j)) #[true,true,true,false,false,false,false,false,false,false,false,false,false,false,false,false,false,false] rfl (by kernel_rfl) (by kernel_rfl) (by kernel_rfl) (by kernel_rfl) (fun _ _ _ h=>h) (.inl ⟨by kernel_rfl,fun x_ hu=>by go_simp⟩) hB ?_
    simp only [nrm]
    refine any_take (i:=4) (v:=(.pointer (some ⟨g5,j,none⟩))) #[true,true,true,true,false,false,false,false,false,false,false,false,false,false,false,false,false,false] rfl (by kernel_rfl) (by kernel_rfl) (by kernel_rfl) (by kernel_rfl) (fun _ _ _ h=>h) (.inl ⟨by kernel_rfl,fun x_ hu=>by go_simp⟩) hB ?_
    simp only [nrm]
    refine any_take (i:=5) (v:=(.int .i64 o)) #[true,true,true,true,true,false,false,false,false,false,false,false,false,false,false,false,false,false] rfl (by kernel_rfl) (by kernel_rfl) (by kernel_rfl) (by kernel_rfl) (fun _ _ _ h=>h) (.inl ⟨by kernel_rfl,fun x_ hu=>by have c0:=ni_cell (hu.get 0 (x:=⟨g5,ni L,3⟩) rfl) j (by omega); rw [← unhide ho] at c0; go_simp⟩) hB ?_
    simp only [nrm]
    refine any_take (i:=6) (v:=(.slice (some ⟨pa,oa,none⟩) n ca)) #[true,true,true,true,true,true,false,false,false,false,false,false,false,false,false,false,false,false] rfl (by kernel_rfl) (by kernel_rfl) (by kernel_rfl) (by kernel_rfl) (fun _ _ _ h=>h) (.inl ⟨by kernel_rfl,fun x_ hu=>by kernel_rfl⟩) hB ?_
    simp only [nrm]
    refine any_take (i:=7) (v:=(.int .i64 i)) #[true,true,true,true,true,true,true,false,false,false,false,false,false,false,false,false,false,false] rfl (by kernel_rfl) (by kernel_rfl) (by kernel_rfl) (by kernel_rfl) (fun _ _ _ h=>h) (.inl ⟨by kernel_rfl,fun x_ hu=>by kernel_rfl⟩) hB ?_
    simp only [nrm]
    refine any_take (i:=8) (v:=(.pointer (some ⟨pa,oa+i,none⟩))) #[true,true,true,true,true,true,true,true,false,false,false,false,false,false,false,false,false,false] rfl (by kernel_rfl) (by kernel_rfl) (by kernel_rfl) (by kernel_rfl) (fun _ _ _ h=>h) (.inl ⟨by kernel_rfl,fun x_ hu=>by go_simp⟩) hB ?_
    simp only [nrm]
    refine any_take (i:=9) (v:=(.int .i64 x)) #[true,true,true,true,true,true,true,true,true,false,false,false,false,false,false,false,false,false] rfl (by kernel_rfl) (by kernel_rfl) (by kernel_rfl) (by kernel_rfl) (fun _ _ _ h=>h) (.inl ⟨by kernel_rfl,fun x_ hu=>by have c0:=hu.gr.cell (unhide hca); go_simp⟩) hB ?_
    simp only [nrm]
    refine any_take (i:=10) (v:=(.slice b m cb)) #[true,true,true,true,true,true,true,true,true,true,false,false,false,false,false,false,false,false] rfl (by kernel_rfl) (by kernel_rfl) (by kernel_rfl) (by kernel_rfl) (fun _ _ _ h=>h) (.inl ⟨by kernel_rfl,fun x_ hu=>by kernel_rfl⟩) hB ?_
    simp only [nrm]
    refine any_take (i:=11) (v:=(.int .i64 k)) #[true,true,true,true,true,true,true,true,true,true,true,false,false,false,false,false,false,false] rfl (by kernel_rfl) (by kernel_rfl) (by kernel_rfl) (by kernel_rfl) (fun _ _ _ h=>h) (.inl ⟨by kernel_rfl,fun x_ hu=>by kernel_rfl⟩) hB ?_
    simp only [nrm]
    refine any_take (i:=15) (v:=(.int .i64 c)) #[true,true,true,true,true,true,true,true,true,true,true,true,false,false,false,false,false,false] rfl (by kernel_rfl) (by kernel_rfl) (by kernel_rfl) (by kernel_rfl) (fun _ _ _ h=>h) (.inl ⟨by kernel_rfl,fun x_ hu=>by kernel_rfl⟩) hB ?_
    simp only [nrm]
    refine any_one (i:=12) (by kernel_rfl) rfl (fun K_ hK=>?_)
    refine step_callw (by kernel_rfl) 100 #[.slice b m cb,.int .i64 k] (by kernel_rfl) ((rat_ok B b m cb k _ ((unhide lb).gr hB.gr)).mono ?_)
    rintro r wq ⟨rfl,rfl⟩
    refine ⟨_,rfl,?_⟩
    rw [← unhide hy]
    refine hK.out _ _ hB (fun _=>?_)
    clear hK K_
    simp only [nrm]
    refine any_take (i:=13) (v:=(.int .i64 xy)) #[true,true,true,true,true,true,true,true,true,true,true,true,true,false,false,true,false,false] rfl (by kernel_rfl) (by kernel_rfl) (by kernel_rfl) (by kernel_rfl) (fun _ _ _ h=>h) (.inl ⟨by kernel_rfl,fun x_ hu=>by go_simp⟩) hB ?_
    simp only [nrm]
    refine any_take (i:=14) (v:=(.int .i64 s1)) #[true,true,true,true,true,true,true,true,true,true,true,true,true,true,false,true,false,false] rfl (by kernel_rfl) (by kernel_rfl) (by kernel_rfl) (by kernel_rfl) (fun _ _ _ h=>h) (.inl ⟨by kernel_rfl,fun x_ hu=>by go_simp⟩) hB ?_
    simp only [nrm]
    refine any_take (i:=16) (v:=(.int .i64 s)) #[true,true,true,true,true,true,true,true,true,true,true,true,true,true,true,true,false,false] rfl (by kernel_rfl) (by kernel_rfl) (by kernel_rfl) (by kernel_rfl) (fun _ _ _ h=>h) (.inl ⟨by kernel_rfl,fun x_ hu=>by go_simp⟩) hB ?_
    simp only [nrm]
    refine any_one (i:=17) (by kernel_rfl) rfl (fun K_ hK=>?_)
    replace hK:=hide hK
    go_simp
    refine (unhide hK).out _ _ hB (fun _=>?_)
    clear hK K_
    refine any_done (by kernel_rfl) ?_
    have c5:=ni_cell (hB.get 0 (x:=⟨g5,ni L,3⟩) rfl) j (by omega)
    generalize L.getD j 0=z5 at c5
    have fz:=froz_of (i:=j) (hB.get 0 (x:=⟨g5,ni L,3⟩) rfl)
    have hB2:=hB.cell 0 (x:=⟨g5,ni L,3⟩) rfl j (.int .i64 (d:Int))
    simp only [List.set_cons_zero,ni_set] at hB2
    clear hB
    replace hB2:=hide hB2
    go_wp2_with fail
    go_roundw
    case rel=>exact ⟨k+1,c2,_,by omega,by go_num,rfl,hL2,hAB2,by omega,hV2,hB2⟩
    case measure=>simp [intOf]; omega
   have f1:¬ (k:Int)<(m:Int):=by omega
   have f2:0<(c:Int):=by omega
   go_upto_region 9 with fail
   replace hB:=unhide hB
   refine any_start (S:=fun v=>Bl w [⟨g5,ni L,3⟩] v) (by kernel_rfl) ?_
   replace hB:=hB.drew
   generalize World.drew _=v0 at *
   simp only [List.size_toArray,List.length_cons,List.length_nil,Array.replicate,List.replicate]
   refine any_take (i:=0) (v:=(.slice (some ⟨g5,0,none⟩) q1 q1)) #[false,false,false,false,false,false,false,false,false,false,false,false,false,false,false,false,false,false] rfl (by kernel_rfl) (by kernel_rfl) (by kernel_rfl) (by kernel_rfl) (fun _ _ _ h=>h) (.inl ⟨by kernel_rfl,fun x_ hu=>by kernel_rfl⟩) hB ?_
   simp only [nrm]
   refine any_take (i:=1) (v:=(.int .i64 i)) #[true,false,false,false,false,false,false,false,false,false,false,false,false,false,false,false,false,false] rfl (by kernel_rfl) (by kernel_rfl) (by kernel_rfl) (by kernel_rfl) (fun _ _ _ h=>h) (.inl ⟨by kernel_rfl,fun x_ hu=>by kernel_rfl⟩) hB ?_
   simp only [nrm]
   refine any_take (i:=2) (v:=(.int .i64 k)) #[true,true,false,false,false,false,false,false,false,false,false,false,false,false,false,false,false,false] rfl (by kernel_rfl) (by kernel_rfl) (by kernel_rfl) (by kernel_rfl) (fun _ _ _ h=>h) (.inl ⟨by kernel_rfl,fun x_ hu=>by kernel_rfl⟩) hB ?_
   simp only [nrm]
   refine any_take (i:=3) (v:=(.int .i64 j)) #[true,true,true,false,false,false,false,false,false,false,false,false,false,false,false,false,false,false] rfl (by kernel_rfl) (by kernel_rfl) (by kernel_rfl) (by kernel_rfl) (fun _ _ _ h=>h) (.inl ⟨by kernel_rfl,fun x_ hu=>by go_simp⟩) hB ?_
   simp only [nrm]
   refine any_take (i:=4) (v:=(.pointer (some ⟨g5,j,none⟩))) #[true,true,true,true,false,false,false,false,false,false,false,false,false,false,false,false,false,false] rfl (by kernel_rfl) (by kernel_rfl) (by kernel_rfl) (by kernel_rfl) (fun _ _ _ h=>h) (.inl ⟨by kernel_rfl,fun x_ hu=>by go_simp⟩) hB ?_
   simp only [nrm]
   refine any_take (i:=5) (v:=(.int .i64 o)) #[true,true,true,true,true,false,false,false,false,false,false,false,false,false,false,false,false,false] rfl (by kernel_rfl) (by kernel_rfl) (by kernel_rfl) (by kernel_rfl) (fun _ _ _ h=>h) (.inl ⟨by kernel_rfl,fun x_ hu=>by have c0:=ni_cell (hu.get 0 (x:=⟨g5,ni L,3⟩) rfl) j (by omega); rw [← unhide ho] at c0; go_simp⟩) hB ?_
   simp only [nrm]
   refine any_take (i:=6) (v:=(.slice (some ⟨pa,oa,none⟩) n ca)) #[true,true,true,true,true,true,false,false,false,false,false,false,false,false,false,false,false,false] rfl (by kernel_rfl) (by kernel_rfl) (by kernel_rfl) (by kernel_rfl) (fun _ _ _ h=>h) (.inl ⟨by kernel_rfl,fun x_ hu=>by kernel_rfl⟩) hB ?_
   simp only [nrm]
   refine any_take (i:=7) (v:=(.int .i64 i)) #[true,true,true,true,true,true,true,false,false,false,false,false,false,false,false,false,false,false] rfl (by kernel_rfl) (by kernel_rfl) (by kernel_rfl) (by kernel_rfl) (fun _ _ _ h=>h) (.inl ⟨by kernel_rfl,fun x_ hu=>by kernel_rfl⟩) hB ?_
   simp only [nrm]
   refine any_take (i:=8) (v:=(.pointer (some ⟨pa,oa+i,none⟩))) #[true,true,true,true,true,true,true,true,false,false,false,false,false,false,false,false,false,false] rfl (by kernel_rfl) (by kernel_rfl) (by kernel_rfl) (by kernel_rfl) (fun _ _ _ h=>h) (.inl ⟨by kernel_rfl,fun x_ hu=>by go_simp⟩) hB ?_
   simp only [nrm]
   refine any_take (i:=9) (v:=(.int .i64 x)) #[true,true,true,true,true,true,true,true,true,false,false,false,false,false,false,false,false,false] rfl (by kernel_rfl) (by kernel_rfl) (by kernel_rfl) (by kernel_rfl) (fun _ _ _ h=>h) (.inl ⟨by kernel_rfl,fun x_ hu=>by have c0:=hu.gr.cell (unhide hca); go_simp⟩) hB ?_
   simp only [nrm]
   refine any_take (i:=10) (v:=(.slice b m cb)) #[true,true,true,true,true,true,true,true,true,true,false,false,false,false,false,false,false,false] rfl (by kernel_rfl) (by kernel_rfl) (by kernel_rfl) (by kernel_rfl) (fun _ _ _ h=>h) (.inl ⟨by kernel_rfl,fun x_ hu=>by kernel_rfl⟩) hB ?_
   simp only [nrm]
   refine any_take (i:=11) (v:=(.int .i64 k)) #[true,true,true,true,true,true,true,true,true,true,true,false,false,false,false,false,false,false] rfl (by kernel_rfl) (by kernel_rfl) (by kernel_rfl) (by kernel_rfl) (fun _ _ _ h=>h) (.inl ⟨by kernel_rfl,fun x_ hu=>by kernel_rfl⟩) hB ?_
   simp only [nrm]
   refine any_take (i:=15) (v:=(.int .i64 c)) #[true,true,true,true,true,true,true,true,true,true,true,true,false,false,false,false,false,false] rfl (by kernel_rfl) (by kernel_rfl) (by kernel_rfl) (by kernel_rfl) (fun _ _ _ h=>h) (.inl ⟨by kernel_rfl,fun x_ hu=>by kernel_rfl⟩) hB ?_
   simp only [nrm]
   refine any_one (i:=12) (by kernel_rfl) rfl (fun K_ hK=>?_)
   refine step_callw (by kernel_rfl) 100 #[.slice b m cb,.int .i64 k] (by kernel_rfl) ((rat_ok B b m cb k _ ((unhide lb).gr hB.gr)).mono ?_)
   rintro r wq ⟨rfl,rfl⟩
   refine ⟨_,rfl,?_⟩
   rw [← unhide hy]
   refine hK.out _ _ hB (fun _=>?_)
   clear hK K_
   simp only [nrm]
   refine any_take (i:=13) (v:=(.int .i64 xy)) #[true,true,true,true,true,true,true,true,true,true,true,true,true,false,false,true,false,false] rfl (by kernel_rfl) (by kernel_rfl) (by kernel_rfl) (by kernel_rfl) (fun _ _ _ h=>h) (.inl ⟨by kernel_rfl,fun x_ hu=>by go_simp⟩) hB ?_
   simp only [nrm]
   refine any_take (i:=14) (v:=(.int .i64 s1)) #[true,true,true,true,true,true,true,true,true,true,true,true,true,true,false,true,false,false] rfl (by kernel_rfl) (by kernel_rfl) (by kernel_rfl) (by kernel_rfl) (fun _ _ _ h=>h) (.inl ⟨by kernel_rfl,fun x_ hu=>by go_simp⟩) hB ?_
   simp only [nrm]
   refine any_take (i:=16) (v:=(.int .i64 s)) #[true,true,true,true,true,true,true,true,true,true,true,true,true,true,true,true,false,false] rfl (by kernel_rfl) (by kernel_rfl) (by kernel_rfl) (by kernel_rfl) (fun _ _ _ h=>h) (.inl ⟨by kernel_rfl,fun x_ hu=>by go_simp⟩) hB ?_
   simp only [nrm]
   refine any_one (i:=17) (by kernel_rfl) rfl (fun K_ hK=>?_)
   replace hK:=hide hK
   go_simp
   refine (unhide hK).out _ _ hB (fun _=>?_)
   clear hK K_
   refine any_done (by kernel_rfl) ?_
   have c5:=ni_cell (hB.get 0 (x:=⟨g5,ni L,3⟩) rfl) j (by omega)
   generalize L.getD j 0=z5 at c5
   have fz:=froz_of (i:=j) (hB.get 0 (x:=⟨g5,ni L,3⟩) rfl)
   have hB2:=hB.cell 0 (x:=⟨g5,ni L,3⟩) rfl j (.int .i64 (d:Int))
   simp only [List.set_cons_zero,ni_set] at hB2
   clear hB
   replace hB2:=hide hB2
   go_wp2_with fail
   go_roundw
   case rel=>exact ⟨k+1,c2,_,by omega,by go_num,rfl,hL2,hAB2,by omega,hV2,hB2⟩
   case measure=>simp [intOf]; omega
  have f1:¬ (k:Int)<(m:Int):=by omega
  have f2:¬ 0<(c:Int):=by omega
  have hV3:Hid (V L=V (A.take (i+1)) * V B):=by
   have h:=unhide hV
   rw [show c=0 from by omega,Nat.mul_zero,Nat.add_zero,V_take_all B k (by rw [unhide hm]; omega)] at h
   rw [h,V_take_succ,Nat.add_mul,unhide hx,Nat.mul_comm (A.getD i 0) (256 ^ i)]
   exact rfl
  clear hV
  go_wp2_with fail
  go_roundw
  case rel=>exact ⟨i+1,L,by omega,by go_num,hL,hAB,hV3,hB⟩
  case measure=>simp [intOf]; omega
 ·have iI:¬ (i:Int)<(n:Int):=by omega
  have hP:Hid (∃ v' L,Ending.returned (.slice (some ⟨g5,0,none⟩) q1 q1)=.returned v'∧Oi w.heap.size wr v' L∧TimesP A B L∧Gr w wr):=by
   refine ⟨_,L,rfl,oi_of ((unhide hB).get 0 (x:=⟨g5,ni L,3⟩) rfl) (unhide hL) ((unhide hB).own 0 (x:=⟨g5,ni L,3⟩) rfl) (by omega),⟨unhide hAB,?_,?_⟩,(unhide hB).gr⟩
   ·rw [unhide hV,V_take_all A i (by rw [unhide hn]; omega)]
   ·rw [unhide hL,unhide hn,unhide hm]; exact unhide hq1
  clear hB hV hAB hL
  go_wp2_with fail
  rw [unhide hT]
  exact unhide hP
end Go.Proofs.YthahhglbeafkmaaGreatDoor
namespace Go.Proofs.YthahhglbeafkmaaGreatDoor
open Go.RowKit
set_option maxRecDepth 100000
set_option linter.unusedSimpArgs false
set_option linter.unusedVariables false
def P5:Nat:=2 ^ 130 - 5
theorem li_one (w:World) (x:Nat):Li (w.alloc (.cells #[.int .i64 (x:Int)] 3 (0,0))) (some ⟨w.heap.size,0,none⟩) 1 1 [x]:=by
 refine ⟨rfl,.inr ⟨_,0,rfl,fun j hj=>?_⟩,Nat.le_refl _,by omega⟩
 have hj0:j=0:=by simpa using hj
 subst hj0
 exact cell_of (blk_new _ _) rfl
theorem five_allB:AllB [5]:=fun x hx=>by
 have h:x=5:=by simpa using hx
 omega
theorem Q130_eq:Q130=1361129467683753853853498429727072845824:=by decide
theorem P5_eq:P5=1361129467683753853853498429727072845819:=by decide
theorem rest_mod (VL VU X:Nat) (h:(VL+Q130 * VU) % P5=X):(VL+VU * 5) % P5=X:=by
 rw [← h,Q130_eq,P5_eq]
 omega
theorem rest_end (VL X:Nat) (hl:VL<Q130) (h:VL % P5=X):(VL+5<Q130→VL=X)∧(Q130≤VL+5→(VL+5) % Q130=X):=by
 rw [← h]
 rw [Q130_eq] at *
 rw [P5_eq]
 omega
def RestP (A L:List Nat):Prop:=AllB L∧V L=V A % P5∧L.length=17
set_option maxHeartbeats 8000000 in
theorem rrest_ok (A:List Nat) (hA:AllB A) (a:Option Addr) (n ca:Nat) (hbn0:n≤1000) (w:World) (la:Li w a n ca A):Calls Tryz.prog 97 #[.slice a n ca] w (Ri (RestP A) w):=by
 obtain ⟨T,hT⟩:∃ T,T=Ri (RestP A) w:=⟨_,rfl⟩
 rw [← hT]
 unfold Ri at hT
 replace hT:=hide hT
 have hn:=hide la.len
 have hbn:n≤100000:=by omega
 replace la:=hide la
 replace hA:=hide hA
 have hG:=Gr.refl w
 go_enter Tryz.func97,Tryz.ntmps97
 replace hG:=hide hG
 go_upto_region 1 with fail
 replace hG:=unhide hG
 refine wp_region_lit ?_
 refine list_val (.slice a n ca) (by kernel_rfl) (by kernel_rfl) ?_
 simp only [nrm]
 refine list_call 120 #[.slice a n ca] (by kernel_rfl) (by kernel_rfl) ((rhigh_ok A (unhide hA) a n ca hbn _ (unhide la)).mono ?_)
 rintro r w1 ⟨vu,vl,U,L,rfl,obU,obL,bU,bL,vU,vL,lU,lL,hg⟩
 refine ⟨_,rfl,?_⟩
 replace obU:=obU.up hG.size
 replace obL:=obL.up hG.size
 replace hG:=hG.trans hg
 clear hg
 simp only [nrm]
 refine list_val (.tuple #[vu,vl]) (by kernel_rfl) (by kernel_rfl) ?_
 simp only [nrm]
 refine list_val vu (by kernel_rfl) (by kernel_rfl) ?_
 simp only [nrm]
 refine list_val vl (by kernel_rfl) (by kernel_rfl) ?_
 simp only [nrm]
 (refine wpList_step fun K hK=>?_; replace hK:=hide hK; go_simp; refine unhide hK _ _ ?_; clear hK K)
 (refine wpList_step fun K hK=>?_; replace hK:=hide hK; go_simp; refine unhide hK _ _ ?_; clear hK K)
 refine wpList_nil ?_
 have hmod:Hid ((V L+Q130 * V U) % P5=V A % P5):=by rw [vU,vL,Nat.add_comm,Nat.div_add_mod]; exact rfl
 have hvl:Hid (V L<Q130):=by rw [vL]; exact Nat.mod_lt _ (by rw [Q130_eq]; omega)
 have hUl:Hid (U.length≤1000):=by rw [lU,unhide hn]; exact (show n - 16≤1000 by omega)
 clear vU vL lU
 replace hG:=hide hG
 replace obU:=hide obU
 replace obL:=hide obL
 replace bU:=hide bU
 replace bL:=hide bL
 replace lL:=hide lL
 go_wp2_with fail
 go_loopg [0,3,4] (V L+Q130 * V U) (fun gk _ o3 o4 wr=>∃ vu vl:Value,∃ U L:List Nat,vu=o3∧vl=o4∧Hid (V L+Q130 * V U=gk)∧Hid (gk % P5=V A % P5)∧Hid (V L<Q130)∧Hid (U.length≤1000)∧Hid (L.length=17)∧Hid (AllB U)∧Hid (AllB L)∧Hid (Oi w.heap.size wr vu U)∧Hid (Oi w.heap.size wr vl L)∧Hid (Gr w wr))
 case atStart=>exact ⟨vu,vl,U,L,rfl,rfl,rfl,hmod,hvl,hUl,lL,bU,bL,obU,obL,hG⟩
 case round =>
 clear hG obU obL bU bL lL hmod hvl hUl
 obtain ⟨vu,vl,U,L,rfl,rfl,hgk,hmod,hvl,hUl,lL,bU,bL,obU,obL,hG⟩:=hrel
 obtain ⟨a3,c3,rfl,li3⟩:=(unhide obU).li
 obtain ⟨a4,c4,rfl,li4⟩:=(unhide obL).li
 obtain ⟨nu,hnu⟩:∃ x,x=U.length:=⟨_,rfl⟩
 obtain ⟨nl,hnl⟩:∃ x,x=L.length:=⟨_,rfl⟩
 rw [← hnu] at li3
 rw [← hnl] at li4
 replace li3:=hide li3
 replace li4:=hide li4
 have hnu2:nu≤1000:=by rw [hnu]; exact unhide hUl
 have hnl2:nl=17:=by rw [hnl]; exact unhide lL
 rw [← hnu,← hnl]
 replace hnu:=hide hnu
 replace hnl:=hide hnl
 replace hnl2:=hide hnl2
 go_upto_region 2 with fail
 replace hG:=unhide hG
 by_cases hz:V U=0
 ·refine wp_region_lit ?_
  refine list_val (.slice a3 nu c3) (by kernel_rfl) (by kernel_rfl) ?_
  simp only [nrm]
  refine list_call 121 #[.slice a3 nu c3] (by kernel_rfl) (by kernel_rfl) ((rsome_no U hz a3 nu c3 _ (unhide li3) (by omega)).mono ?_)
  rintro r wq ⟨rfl,rfl⟩
  refine ⟨_,rfl,?_⟩
  simp only [nrm]
  refine wpList_nil ?_
  replace hG:=hide hG
  go_upto_region 5 with fail
  replace hG:=unhide hG
  replace li4:=unhide li4
  replace obL:=unhide obL
  refine wp_region_lit ?_
  refine list_val (.slice a4 nl c4) (by kernel_rfl) (by kernel_rfl) ?_
  simp only [nrm]
  refine list_valw (.slice (some ⟨wq.heap.size,0,none⟩) 1 1) (wq.alloc (.cells #[.int .i64 ((5:Nat):Int)] 3 (0,0))) (by kernel_rfl) (by kernel_rfl) ?_
  simp only [nrm]
  have l5:=li_one wq 5
  have hgx:=(Gr.refl wq).alloc (.cells #[.int .i64 ((5:Nat):Int)] 3 (0,0))
  replace hG:=hG.trans hgx
  replace li4:=li4.gr hgx
  replace obL:=obL.gr hgx
  clear hgx
  generalize World.alloc _ _=w2 at *
  generalize wq.heap.size=g5 at *
  refine list_call 99 #[.slice a4 nl c4,.slice (some ⟨g5,0,none⟩) 1 1] (by kernel_rfl) (by kernel_rfl) ((rplus_ok L [5] (unhide bL) five_allB a4 _ nl 1 c4 1 (by have:=unhide hnl2; omega) (by omega) _ li4 l5).mono ?_)
  rintro r w3 ⟨vs,S,rfl,obS,pS,hg⟩
  refine ⟨_,rfl,?_⟩
  obtain ⟨as_,cs,rfl,liS⟩:=obS.li
  obtain ⟨ns,hns⟩:∃ x,x=S.length:=⟨_,rfl⟩
  rw [← hns] at liS ⊢
  replace hns:=hide hns
  replace hG:=hG.trans hg
  replace li4:=li4.gr hg
  replace obL:=obL.gr hg
  clear hg
  clear l5
  have hSb:=pS.1
  have hSv:V S=V L+5:=by rw [pS.2.1]; rfl
  have hSl:=pS.2.2
  have hns2:ns≤100:=by rw [unhide hns]; have:=unhide hnl2; have:=unhide hnl; simp at hSl; omega
  skip
  simp only [nrm]
  refine list_call 120 #[.slice as_ ns cs] (by kernel_rfl) (by kernel_rfl) ((rhigh_ok S hSb as_ ns cs (by omega) _ liS).mono ?_)
  rintro r w4 ⟨vm,vs2,M,S2,rfl,obM,obS2,bM,bS2,vM,vS2,lM,lS2,hg⟩
  refine ⟨_,rfl,?_⟩
  replace obM:=obM.up hG.size
  replace obS2:=obS2.up hG.size
  replace hG:=hG.trans hg
  replace obL:=obL.gr hg
  clear hg
  simp only [nrm]
  refine list_val (.tuple #[vm,vs2]) (by kernel_rfl) (by kernel_rfl) ?_
  simp only [nrm]
  refine list_val vm (by kernel_rfl) (by kernel_rfl) ?_
  simp only [nrm]
  refine list_val vs2 (by kernel_rfl) (by kernel_rfl) ?_
  simp only [nrm]
  (refine wpList_step fun K hK=>?_; replace hK:=hide hK; go_simp; refine unhide hK _ _ ?_; clear hK K)
  (refine wpList_step fun K hK=>?_; replace hK:=hide hK; go_simp; refine unhide hK _ _ ?_; clear hK K)
  refine wpList_nil ?_
  obtain ⟨a5,c5,rfl,li5⟩:=obM.li
  obtain ⟨nm,hnm⟩:∃ x,x=M.length:=⟨_,rfl⟩
  rw [← hnm] at li5 ⊢
  have hnm2:nm≤100:=by rw [hnm,lM,← unhide hns]; omega
  have hend:=rest_end (V L) (V A % P5) (unhide hvl) (by have h:=unhide hmod; rw [← unhide hgk,hz,Nat.mul_zero,Nat.add_zero] at h; exact h)
  rw [hSv] at vM vS2
  clear hns hnm
  replace hG:=hide hG
  go_upto_region 6 with fail
  replace hG:=unhide hG
  by_cases hmz:V M=0
  ·refine wp_region_lit ?_
   refine list_val (.slice a5 nm c5) (by kernel_rfl) (by kernel_rfl) ?_
   simp only [nrm]
   refine list_call 121 #[.slice a5 nm c5] (by kernel_rfl) (by kernel_rfl) ((rsome_no M hmz a5 nm c5 _ li5 (by omega)).mono ?_)
   rintro r wq2 ⟨rfl,rfl⟩
   refine ⟨_,rfl,?_⟩
   simp only [nrm]
   refine wpList_nil ?_
   have hP:Hid (∃ v' L',Ending.returned (.slice a4 nl c4)=.returned v'∧Oi w.heap.size wq2 v' L'∧RestP A L'∧Gr w wq2):=by
    refine ⟨_,L,rfl,by rw [unhide hnl]; exact obL,⟨unhide bL,hend.1 ?_,unhide lL⟩,hG⟩
    rw [vM] at hmz
    rcases Nat.lt_or_ge (V L+5) Q130 with h | h
    ·exact h
    ·have h2:=Nat.div_pos h (by rw [Q130_eq]; omega)
     omega
   clear hG obL obS obM obS2 li4 li5 liS hend vM vS2
   go_wp2_with fail
   rw [unhide hT]
   exact unhide hP
  ·refine wp_region_lit ?_
   refine list_val (.slice a5 nm c5) (by kernel_rfl) (by kernel_rfl) ?_
   simp only [nrm]
   refine list_call 121 #[.slice a5 nm c5] (by kernel_rfl) (by kernel_rfl) ((rsome_yes M hmz a5 nm c5 _ li5 (by omega)).mono ?_)
   rintro r wq2 ⟨rfl,rfl⟩
   refine ⟨_,rfl,?_⟩
   simp only [nrm]
   refine wpList_nil ?_
   have hP:Hid (∃ v' L',Ending.returned vs2=.returned v'∧Oi w.heap.size wq2 v' L'∧RestP A L'∧Gr w wq2):=by
    refine ⟨_,S2,rfl,obS2,⟨bS2,?_,lS2⟩,hG⟩
    rw [vS2]
    refine hend.2 ?_
    rw [vM] at hmz
    rcases Nat.lt_or_ge (V L+5) Q130 with h | h
    ·exact absurd (Nat.div_eq_of_lt h) hmz
    ·exact h
   clear hG obL obS obM obS2 li4 li5 liS hend vM vS2
   go_wp2_with fail
   rw [unhide hT]
   exact unhide hP
 ·refine wp_region_lit ?_
  refine list_val (.slice a3 nu c3) (by kernel_rfl) (by kernel_rfl) ?_
  simp only [nrm]
  refine list_call 121 #[.slice a3 nu c3] (by kernel_rfl) (by kernel_rfl) ((rsome_yes U hz a3 nu c3 _ (unhide li3) (by omega)).mono ?_)
  rintro r wq ⟨rfl,rfl⟩
  refine ⟨_,rfl,?_⟩
  simp only [nrm]
  refine wpList_nil ?_
  replace hG:=hide hG
  go_upto_region 3 with fail
  replace hG:=unhide hG
  replace li4:=unhide li4
  replace li3:=unhide li3
  refine wp_region_lit ?_
  refine list_val (.slice a4 nl c4) (by kernel_rfl) (by kernel_rfl) ?_
  simp only [nrm]
  refine list_val (.slice a3 nu c3) (by kernel_rfl) (by kernel_rfl) ?_
  simp only [nrm]
  refine list_valw (.slice (some ⟨wq.heap.size,0,none⟩) 1 1) (wq.alloc (.cells #[.int .i64 ((5:Nat):Int)] 3 (0,0))) (by kernel_rfl) (by kernel_rfl) ?_
  simp only [nrm]
  have l5:=li_one wq 5
  have hgx:=(Gr.refl wq).alloc (.cells #[.int .i64 ((5:Nat):Int)] 3 (0,0))
  replace hG:=hG.trans hgx
  replace li4:=li4.gr hgx
  replace li3:=li3.gr hgx
  clear hgx
  generalize World.alloc _ _=w2 at *
  generalize wq.heap.size=g5 at *
  refine list_call 98 #[.slice a3 nu c3,.slice (some ⟨g5,0,none⟩) 1 1] (by kernel_rfl) (by kernel_rfl) ((rtimes_ok U [5] (unhide bU) five_allB a3 _ nu 1 c3 1 (by omega) (by omega) _ li3 l5).mono ?_)
  rintro r w3 ⟨vt,Q,rfl,obQ,pQ,hg⟩
  refine ⟨_,rfl,?_⟩
  obtain ⟨aq,cq,rfl,liQ⟩:=obQ.li
  obtain ⟨nq,hnq⟩:∃ x,x=Q.length:=⟨_,rfl⟩
  rw [← hnq] at liQ ⊢
  replace hnq:=hide hnq
  replace hG:=hG.trans hg
  replace li4:=li4.gr hg
  clear hg
  clear l5 li3
  have hQl:nq≤1002:=by rw [unhide hnq,pQ.2.2,← unhide hnu]; simp; omega
  have hQv:V Q=V U * 5:=by rw [pQ.2.1]; rfl
  simp only [nrm]
  refine list_call 99 #[.slice a4 nl c4,.slice aq nq cq] (by kernel_rfl) (by kernel_rfl) ((rplus_ok L Q (unhide bL) pQ.1 a4 aq nl nq c4 cq (by have:=unhide hnl2; omega) (by omega) _ li4 liQ).mono ?_)
  rintro r w4 ⟨vp,W,rfl,obW,pW,hg⟩
  refine ⟨_,rfl,?_⟩
  obtain ⟨aw,cw,rfl,liW⟩:=obW.li
  obtain ⟨nw,hnw⟩:∃ x,x=W.length:=⟨_,rfl⟩
  rw [← hnw] at liW ⊢
  replace hnw:=hide hnw
  replace hG:=hG.trans hg
  replace liQ:=liQ.gr hg
  clear hg
  clear li4 liQ obQ
  have hWl:nw≤1003:=by have h:=pW.2.2; rw [← unhide hnw,← unhide hnq,← unhide hnl] at h; have:=unhide hnl2; omega
  have hWv:=pW.2.1
  rw [hQv] at hWv
  simp only [nrm]
  (refine wpList_step fun K hK=>?_; replace hK:=hide hK; go_simp; refine unhide hK _ _ ?_; clear hK K)
  refine wpList_nil ?_
  replace hG:=hide hG
  replace obW:=hide obW
  go_upto_region 4 with fail
  replace hG:=unhide hG
  replace obW:=unhide obW
  refine wp_region_lit ?_
  refine list_val (.slice aw nw cw) (by kernel_rfl) (by kernel_rfl) ?_
  simp only [nrm]
  refine list_call 120 #[.slice aw nw cw] (by kernel_rfl) (by kernel_rfl) ((rhigh_ok W pW.1 aw nw cw (by omega) _ liW).mono ?_)
  rintro r w5 ⟨vu2,vl2,U2,L2,rfl,obU2,obL2,bU2,bL2,vU2,vL2,lU2,lL2,hg⟩
  refine ⟨_,rfl,?_⟩
  replace obU2:=obU2.up hG.size
  replace obL2:=obL2.up hG.size
  replace hG:=hG.trans hg
  clear hg
  simp only [nrm]
  refine list_val (.tuple #[vu2,vl2]) (by kernel_rfl) (by kernel_rfl) ?_
  simp only [nrm]
  refine list_val vu2 (by kernel_rfl) (by kernel_rfl) ?_
  simp only [nrm]
  refine list_val vl2 (by kernel_rfl) (by kernel_rfl) ?_
  simp only [nrm]
  (refine wpList_step fun K hK=>?_; replace hK:=hide hK; go_simp; refine unhide hK _ _ ?_; clear hK K)
  (refine wpList_step fun K hK=>?_; replace hK:=hide hK; go_simp; refine unhide hK _ _ ?_; clear hK K)
  refine wpList_nil ?_
  have hsum:V L2+Q130 * V U2=V W:=by rw [vU2,vL2,Nat.add_comm,Nat.div_add_mod]
  have hmod2:Hid ((V L2+Q130 * V U2) % P5=V A % P5):=by
   rw [hsum,hWv,Nat.mul_comm (V U),← Nat.mul_comm (V U)]
   exact rest_mod (V L) (V U) _ (by rw [unhide hgk]; exact unhide hmod)
  have hlt:V L2+Q130 * V U2<gk:=by
   rw [hsum,hWv,← unhide hgk,Q130_eq]
   omega
  have hvl2:Hid (V L2<Q130):=by rw [vL2]; exact Nat.mod_lt _ (by rw [Q130_eq]; omega)
  have hUl2:Hid (U2.length≤1000):=by rw [lU2,← unhide hnw]; exact (show nw - 16≤1000 by omega)
  clear vU2 vL2 lU2 hsum hWv hQv pQ pW liW obW hnw hnq hmod hgk
  replace hG:=hide hG
  replace obU2:=hide obU2
  replace obL2:=hide obL2
  replace bU2:=hide bU2
  replace bL2:=hide bL2
  replace lL2:=hide lL2
  go_wp2_with fail
  go_roundg (V L2+Q130 * V U2)
  case rel=>exact ⟨vu2,vl2,U2,L2,rfl,rfl,rfl,hmod2,hvl2,hUl2,lL2,bU2,bL2,obU2,obL2,hG⟩
  case measure=>exact hlt
end Go.Proofs.YthahhglbeafkmaaGreatDoor
namespace Go.Proofs.YthahhglbeafkmaaGreatDoor
open Go.RowKit
set_option maxRecDepth 100000
set_option linter.unusedSimpArgs false
set_option linter.unusedVariables false
theorem Tryz.infoT:(Tryz.prog.info? 94).map (·.size)=some 16:=by kernel_rfl
def cl (i:Nat) (x:Int):Int:=if i=3∨i=7∨i=11∨i=15 then x % 16 else if i=4∨i=8∨i=12 then x / 4 * 4 else x
def clf (K:List Int) (i:Nat):Int:=cl i (K.getD i 0)
def clL (K:List Int):List Int:=(List.range 16).map (clf K)
def ZT:List Int:=List.replicate 16 0
theorem clL_len (K:List Int):(clL K).length=16:=by simp [clL]
theorem cl_rng (i:Nat) (x:Int) (h:0≤x∧x<256):0≤cl i x∧cl i x<256:=by
 unfold cl
 split
 ·omega
 ·split <;> omega
theorem clL_isB (K:List Int) (h:IsB K):IsB (clL K):=fun x hx=>by
 unfold clL at hx
 obtain ⟨i,_,rfl⟩:=List.mem_map.1 hx
 exact cl_rng _ _ (h.at_ i)
def Tg (L:List Int) (w:World) (r:Ending) (w':World):Prop:=r=.returned (.agg (kc L))∧Gr w w'
set_option maxHeartbeats 8000000 in
theorem rclamp_ok (K:List Int) (hK:K.length=32) (hKb:IsB K) (w:World):Calls Tryz.prog 95 #[.agg (kc K)] w (Tg (clL K) w):=by
 obtain ⟨T,hT⟩:∃ T,T=Tg (clL K) w:=⟨_,rfl⟩
 rw [← hT]
 replace hT:=hide hT
 obtain ⟨SK,hSK⟩:∃ S,S=kc K:=⟨_,rfl⟩
 rw [← hSK]
 replace hSK:=hide hSK
 replace hKb:=hide hKb
 go_enter Tryz.func95,Tryz.ntmps95
 go_wp2_with fail
 have hB:=(((Bl.nil w).new SK 23).new #[.int .u8 0,.int .u8 0,.int .u8 0,.int .u8 0,.int .u8 0,.int .u8 0,.int .u8 0,.int .u8 0,.int .u8 0,.int .u8 0,.int .u8 0,.int .u8 0,.int .u8 0,.int .u8 0,.int .u8 0,.int .u8 0] 94).new #[.int .u8 0,.int .u8 0,.int .u8 0,.int .u8 0,.int .u8 0,.int .u8 0,.int .u8 0,.int .u8 0,.int .u8 0,.int .u8 0,.int .u8 0,.int .u8 0,.int .u8 0,.int .u8 0,.int .u8 0,.int .u8 0] 94
 simp only [size_alloc,List.nil_append,List.cons_append] at hB
 generalize World.alloc _ _=u at *
 rw [unhide hSK] at hB
 replace hB:Hid (Bl w [⟨w.heap.size,kc K,23⟩,⟨w.heap.size+1,kc ZT,94⟩,⟨w.heap.size+1+1,kc ZT,94⟩] u):=hB
 go_loopw [4] (fun i wr=>∃ i':Nat,∃ m:List Int,i'≤16∧i=.int .i64 i'∧Hid (m=fil (clf K) i' ZT)∧Hid (Bl w [⟨w.heap.size,kc K,23⟩,⟨w.heap.size+1,kc ZT,94⟩,⟨w.heap.size+1+1,kc m,94⟩] wr)) (fun i _=>16 - (intOf i).toNat)
 case atStart=>exact ⟨0,ZT,by omega,rfl,(fil_zero _ _).symm,hB⟩
 case round =>
 clear hB
 obtain ⟨i,m,hi,rfl,hm,hB⟩:=hrel
 have hzl:ZT.length=16:=rfl
 have hml:m.length=16:=by rw [unhide hm,fil_len _ _ _ (by omega)]; rfl
 by_cases hil:i<16
 ·obtain ⟨x,hx⟩:∃ x,x=K.getD i 0:=⟨_,rfl⟩
  have hxr:0≤x∧x<256:=by rw [hx]; exact (unhide hKb).at_ i
  have c0:=kc_cell ((unhide hB).get 0 (x:=⟨w.heap.size,kc K,23⟩) rfl) i (by omega)
  rw [← hx] at c0
  have c1:=kc_cell ((unhide hB).get 2 (x:=⟨w.heap.size+1+1,kc m,94⟩) rfl) i (by omega)
  have f1:=froz_of (i:=i) ((unhide hB).get 2 (x:=⟨w.heap.size+1+1,kc m,94⟩) rfl)
  generalize m.getD i 0=z at c1
  have hB1:=(unhide hB).cell 2 (x:=⟨w.heap.size+1+1,kc m,94⟩) rfl i (.int .u8 x)
  simp only [List.set_cons_zero,List.set_cons_succ,kc_set] at hB1
  have hm2:Hid (m.set i (cl i x)=fil (clf K) (i+1) ZT):=by
   rw [hx,unhide hm]
   exact fil_set (clf K) _ _ (by omega)
  have iI:(i:Int)<16:=by omega
  replace hx:=hide hx
  have c2:=kc_cell (hB1.get 2 (x:=⟨w.heap.size+1+1,kc (m.set i x),94⟩) rfl) i (by rw [List.length_set]; omega)
  have f2:=froz_of (i:=i) (hB1.get 2 (x:=⟨w.heap.size+1+1,kc (m.set i x),94⟩) rfl)
  rw [getD_set m i i x (by omega),if_pos rfl] at c2
  have hB3:=hB1.cell 2 (x:=⟨w.heap.size+1+1,kc (m.set i x),94⟩) rfl i (.int .u8 (cl i x))
  simp only [List.set_cons_zero,List.set_cons_succ,kc_set,List.set_set] at hB3
  replace hB1:=hide hB1
  replace hB3:=hide hB3
  clear hB
  have hd:i=0∨i=1∨i=2∨i=3∨i=4∨i=5∨i=6∨i=7∨i=8∨i=9∨i=10∨i=11∨i=12∨i=13∨i=14∨i=15:=by omega
  clear hil hi
  rcases hd with rfl | rfl | rfl | rfl | rfl | rfl | rfl | rfl | rfl | rfl | rfl | rfl | rfl | rfl | rfl | rfl
  ·have hc:cl 0 x=x:=rfl
   rw [hc] at hm2
   clear hB3
   go_wp2_with fail
   go_roundw
   case rel=>exact ⟨1,_,by omega,by go_num,hm2,hB1⟩
   case measure=>simp [intOf]
  ·have hc:cl 1 x=x:=rfl
   rw [hc] at hm2
   clear hB3
   go_wp2_with fail
   go_roundw
   case rel=>exact ⟨2,_,by omega,by go_num,hm2,hB1⟩
   case measure=>simp [intOf]
  ·have hc:cl 2 x=x:=rfl
   rw [hc] at hm2
   clear hB3
   go_wp2_with fail
   go_roundw
   case rel=>exact ⟨3,_,by omega,by go_num,hm2,hB1⟩
   case measure=>simp [intOf]
  ·have hc:cl 3 x=x % 16:=rfl
   have e1:x.tmod 16=x % 16:=Int.tmod_eq_emod_of_nonneg hxr.1
   rw [hc] at hB3 hm2
   generalize hy:x % 16=y at *
   replace hy:=hide hy
   go_wp2_with fail
   go_roundw
   case rel=>exact ⟨4,_,by omega,by go_num,hm2,hB3⟩
   case measure=>simp [intOf]
  ·have hc:cl 4 x=x / 4 * 4:=rfl
   have e1:x.tdiv 4=x / 4:=Int.tdiv_eq_ediv_of_nonneg hxr.1
   have e2:IntKind.u8.wrap (x / 4)=x / 4:=by rw [IntKind.wrap_u8]; omega
   have e3:IntKind.u8.wrap (x / 4 * 4)=x / 4 * 4:=by rw [IntKind.wrap_u8]; omega
   rw [hc] at hB3 hm2
   go_wp2_with fail
   go_roundw
   case rel=>exact ⟨5,_,by omega,by go_num,hm2,hB3⟩
   case measure=>simp [intOf]
  ·have hc:cl 5 x=x:=rfl
   rw [hc] at hm2
   clear hB3
   go_wp2_with fail
   go_roundw
   case rel=>exact ⟨6,_,by omega,by go_num,hm2,hB1⟩
   case measure=>simp [intOf]
  ·have hc:cl 6 x=x:=rfl
   rw [hc] at hm2
   clear hB3
   go_wp2_with fail
   go_roundw
   case rel=>exact ⟨7,_,by omega,by go_num,hm2,hB1⟩
   case measure=>simp [intOf]
  ·have hc:cl 7 x=x % 16:=rfl
   have e1:x.tmod 16=x % 16:=Int.tmod_eq_emod_of_nonneg hxr.1
   rw [hc] at hB3 hm2
   generalize hy:x % 16=y at *
   replace hy:=hide hy
   go_wp2_with fail
   go_roundw
   case rel=>exact ⟨8,_,by omega,by go_num,hm2,hB3⟩
   case measure=>simp [intOf]
  ·have hc:cl 8 x=x / 4 * 4:=rfl
   have e1:x.tdiv 4=x / 4:=Int.tdiv_eq_ediv_of_nonneg hxr.1
   have e2:IntKind.u8.wrap (x / 4)=x / 4:=by rw [IntKind.wrap_u8]; omega
   have e3:IntKind.u8.wrap (x / 4 * 4)=x / 4 * 4:=by rw [IntKind.wrap_u8]; omega
   rw [hc] at hB3 hm2
   go_wp2_with fail
   go_roundw
   case rel=>exact ⟨9,_,by omega,by go_num,hm2,hB3⟩
   case measure=>simp [intOf]
  ·have hc:cl 9 x=x:=rfl
   rw [hc] at hm2
   clear hB3
   go_wp2_with fail
   go_roundw
   case rel=>exact ⟨10,_,by omega,by go_num,hm2,hB1⟩
   case measure=>simp [intOf]
  ·have hc:cl 10 x=x:=rfl
   rw [hc] at hm2
   clear hB3
   go_wp2_with fail
   go_roundw
   case rel=>exact ⟨11,_,by omega,by go_num,hm2,hB1⟩
   case measure=>simp [intOf]
  ·have hc:cl 11 x=x % 16:=rfl
   have e1:x.tmod 16=x % 16:=Int.tmod_eq_emod_of_nonneg hxr.1
   rw [hc] at hB3 hm2
   generalize hy:x % 16=y at *
   replace hy:=hide hy
   go_wp2_with fail
   go_roundw
   case rel=>exact ⟨12,_,by omega,by go_num,hm2,hB3⟩
   case measure=>simp [intOf]
  ·have hc:cl 12 x=x / 4 * 4:=rfl
   have e1:x.tdiv 4=x / 4:=Int.tdiv_eq_ediv_of_nonneg hxr.1
   have e2:IntKind.u8.wrap (x / 4)=x / 4:=by rw [IntKind.wrap_u8]; omega
   have e3:IntKind.u8.wrap (x / 4 * 4)=x / 4 * 4:=by rw [IntKind.wrap_u8]; omega
   rw [hc] at hB3 hm2
   go_wp2_with fail
   go_roundw
   case rel=>exact ⟨13,_,by omega,by go_num,hm2,hB3⟩
   case measure=>simp [intOf]
  ·have hc:cl 13 x=x:=rfl
   rw [hc] at hm2
   clear hB3
   go_wp2_with fail
   go_roundw
   case rel=>exact ⟨14,_,by omega,by go_num,hm2,hB1⟩
   case measure=>simp [intOf]
  ·have hc:cl 14 x=x:=rfl
   rw [hc] at hm2
   clear hB3
   go_wp2_with fail
   go_roundw
   case rel=>exact ⟨15,_,by omega,by go_num,hm2,hB1⟩
   case measure=>simp [intOf]
  ·have hc:cl 15 x=x % 16:=rfl
   have e1:x.tmod 16=x % 16:=Int.tmod_eq_emod_of_nonneg hxr.1
   rw [hc] at hB3 hm2
   generalize hy:x % 16=y at *
   replace hy:=hide hy
   go_wp2_with fail
   go_roundw
   case rel=>exact ⟨16,_,by omega,by go_num,hm2,hB3⟩
   case measure=>simp [intOf]
 ·have e:i=16:=by omega
  subst e
  have hM:m=clL K:=by
   rw [unhide hm]
   have h:=fil_all (clf K) ZT
   rw [hzl] at h
   exact h
  clear hm
  go_upto_region 10 with fail
  replace hB:=unhide hB
  refine wp_region_lit ?_
  refine list_val (.agg (kc m)) (by kernel_rfl) (exec_arr _ 94 (.tmp 3) rfl (w.heap.size+1+1) (by kernel_rfl) (kc m) 94 _ (hB.get 2 (x:=⟨w.heap.size+1+1,kc m,94⟩) rfl) Tryz.underlying94 rfl (by rw [Tryz.infoT,kc_size,hml])) ?_
  simp only [nrm]
  refine list_store 94 (.tmp 2) (.tmp 51) (w.heap.size+1) (kc m) 94 (kc ZT) (by kernel_rfl) rfl (by kernel_rfl) (by kernel_rfl) (hB.get 1 (x:=⟨w.heap.size+1,kc ZT,94⟩) rfl) (by rw [Tryz.infoT,kc_size,hml]) ((show (kc ZT).size=16 from rfl).trans ((kc_size _).trans hml).symm) (kc_one _) ?_
  replace hB:=hB.set 1 (x:=⟨w.heap.size+1,kc ZT,94⟩) rfl (kc m)
  simp only [List.set_cons_zero,List.set_cons_succ] at hB
  generalize World.setRow _ _ _=u3 at *
  simp only [nrm]
  refine wpList_nil ?_
  go_wp2_with fail
  rw [unhide hT,← hM]
  exact bodyPost_ret (v:=.agg (kc m)) (results_cell_row Tryz.results95 _ _ (w.heap.size+1) 94 (kc m) (0,0) _ rfl (hB.get 1 (x:=⟨w.heap.size+1,kc m,94⟩) rfl) Tryz.underlying94 rfl (by rw [Tryz.infoT,kc_size,hml])) rfl (⟨rfl,hB.gr⟩)
end Go.Proofs.YthahhglbeafkmaaGreatDoor
