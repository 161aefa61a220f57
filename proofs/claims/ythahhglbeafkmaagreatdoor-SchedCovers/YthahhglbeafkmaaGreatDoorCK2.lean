/-
  What the proof leans on.
-/
import Derived.Deep.DeepAppendWide
import Derived.Laws.BytesArg
import Derived.Test.YthahhglbeafkmaaGreatDoorCK1
namespace Go.Proofs.YthahhglbeafkmaaGreatDoor
open Go.RowKit
set_option maxRecDepth 100000
set_option linter.unusedSimpArgs false
set_option linter.unusedVariables false
def Wrote (g:Nat) (B:List Int) (w:World) (r:Ending) (w':World):Prop:=r=.returned (.int .i64 0)∧H g B w'∧Bt g w w'
theorem cnt_cell {w:World} {g:Nat} {s l:List Int} {n:Int} {t:TypeId} (h:w.heap[g]?=some (.cells (hc s l n) t (0,0))) (hs:s.length=8) (hl:l.length=64):w.cell? ⟨g,72,none⟩=some (.int .i64 n):=by
 refine cell_of h ?_
 unfold hc hcl
 simp [List.getElem?_append,hs,hl]
theorem cnt_set {w:World} {g:Nat} {s l:List Int} {n m:Int} {t:TypeId} (h:w.heap[g]?=some (.cells (hc s l n) t (0,0))) (hs:s.length=8) (hl:l.length=64):(w.setCell ⟨g,72,none⟩ (.int .i64 m)).heap[g]?=some (.cells (hc s l m) t (0,0)):=by
 rw [heap_setCell_same w g 72 _ t _ h]
 unfold hc
 rw [List.setIfInBounds_toArray,hcl_count s l n m hs hl]
theorem isB_left {l B:List Int} (hl:IsB l) (hB:IsB B) (k:Nat):IsB (l.take k++(B++l.drop (k+B.length))):=isB_append (isB_take hl _) (isB_append hB (isB_drop hl _))
theorem take_len_append (B l:List Int):(B++l).take B.length=B:=by simp
set_option maxHeartbeats 2000000 in
theorem write_whole (g:Nat) (B C:List Int) (hC:IsB C) (h64:B.length % 64=0) (hbig:B.length+C.length<1152921504606846976) (a:Option Addr) (cap:Nat) (hcap:C.length≤cap) (hcb:cap<9223372036854775808) (w:World)
  (hB:H g B w) (hX:SlX g w a C):Calls Tryz.prog 58 #[.pointer (some ⟨g,0,none⟩),.slice a C.length cap] w (Wrote g (B++C) w):=by
 obtain ⟨T,hT⟩:∃ T,T=Wrote g (B++C) w:=⟨_,rfl⟩
 rw [← hT]
 obtain ⟨l,hl,hlB,hH,hlt⟩:=hB
 obtain ⟨S,hS⟩:∃ S,S=hbk (B.length / 64) F0 B:=⟨_,rfl⟩
 have hSl:S.length=8:=by rw [hS]; exact hbk_len _ _ rfl _
 rw [← hS] at hH
 have cc:=cnt_cell hH hSl hl
 have cf:=froz_of (i:=72) hH
 have hH2:=cnt_set (m:=(B.length:Int)+C.length) hH hSl hl
 have hBt:=(Bt.trans (Bt.refl g w) (setCells_bt [.int .i64 ((B.length:Int)+C.length)] w g 72))
 replace hX:=hX.bt hBt
 replace hBt:Hid (Bt g w (w.setCell ⟨g,72,none⟩ (.int .i64 ((B.length:Int)+C.length)))):=hBt
 replace hX:Hid (SlX g (w.setCell ⟨g,72,none⟩ (.int .i64 ((B.length:Int)+C.length))) a C):=hX
 have e1:Int.tmod (B.length:Int) 64=0:=by rw [Int.tmod_eq_emod_of_nonneg (by omega)]; omega
 have e2:IntKind.i64.wrap ((B.length:Int)+C.length)=(B.length:Int)+C.length:=by rw [IntKind.wrap_i64]; omega
 have hbD:=hC
 have hcD1:=hcap
 have hcD2:=hcb
 replace hH2:=hide hH2
 replace hT:=hide hT
 replace hS:=hide hS
 replace hlt:=hide hlt
 clear hH
 generalize hm:C.length=m at *
 generalize hn:B.length=n at *
 go_enter Tryz.func58,Tryz.ntmps58
 go_upto_region 11 with fail
 replace hBt:=unhide hBt
 replace hX:=unhide hX
 have hH:=unhide hH2
 clear hH2
 generalize World.setCell _ _ _=x3 at *
 subst hm hn
 refine any_start (S:=fun _=>True) (by kernel_rfl) ?_
 replace hBt:=hBt.trans ((Gr.refl _).drew.bt g)
 replace hH:=(Gr.refl _).drew.blk hH
 replace hX:=hX.gr (Gr.refl _).drew
 generalize World.drew _=x0 at *
 simp only [List.size_toArray,List.length_cons,List.length_nil,Array.replicate,List.replicate]
 refine any_take (i:=0) (v:=(.pointer (some ⟨g,0,none⟩))) #[false,false,false,false,false,false,false,false] rfl (by kernel_rfl) (by kernel_rfl) (by kernel_rfl) (by kernel_rfl) (fun _ _ _ h=>h) (.inl ⟨by kernel_rfl,fun x_ hu=>by kernel_rfl⟩) trivial ?_
 simp only [nrm]
 refine any_take (i:=1) (v:=(.pointer (some ⟨g,0,none⟩))) #[true,false,false,false,false,false,false,false] rfl (by kernel_rfl) (by kernel_rfl) (by kernel_rfl) (by kernel_rfl) (fun _ _ _ h=>h) (.inl ⟨by kernel_rfl,fun x_ hu=>by kernel_rfl⟩) trivial ?_
 simp only [nrm]
 refine any_take (i:=2) (v:=(.pointer (some ⟨g,8,none⟩))) #[true,true,false,false,false,false,false,false] rfl (by kernel_rfl) (by kernel_rfl) (by kernel_rfl) (by kernel_rfl) (fun _ _ _ h=>h) (.inl ⟨by kernel_rfl,fun x_ hu=>by kernel_rfl⟩) trivial ?_
 simp only [nrm]
 refine any_take (i:=3) (v:=(.slice (some ⟨g,8,none⟩) 64 64)) #[true,true,true,false,false,false,false,false] rfl (by kernel_rfl) (by kernel_rfl) (by kernel_rfl) (by kernel_rfl) (fun _ _ _ h=>h) (.inl ⟨by kernel_rfl,fun x_ hu=>by go_simp⟩) trivial ?_
 simp only [nrm]
 refine any_take (i:=4) (v:=(.pointer (some ⟨g,0,none⟩))) #[true,true,true,true,false,false,false,false] rfl (by kernel_rfl) (by kernel_rfl) (by kernel_rfl) (by kernel_rfl) (fun _ _ _ h=>h) (.inl ⟨by kernel_rfl,fun x_ hu=>by kernel_rfl⟩) trivial ?_
 simp only [nrm]
 refine any_take (i:=5) (v:=(.slice a C.length cap)) #[true,true,true,true,true,false,false,false] rfl (by kernel_rfl) (by kernel_rfl) (by kernel_rfl) (by kernel_rfl) (fun _ _ _ h=>h) (.inl ⟨by kernel_rfl,fun x_ hu=>by kernel_rfl⟩) trivial ?_
 simp only [nrm]
 refine any_one (i:=6) (by kernel_rfl) rfl (fun K hK=>?_)
 refine step_callw (by kernel_rfl) 81 #[.pointer (some ⟨g,0,none⟩),.slice a C.length cap] (by kernel_rfl) ((take_ok S l ((B.length:Int)+C.length) hSl g C hbD a cap hcD1 hcD2 _ hH hX.out).mono ?_)
 rintro r x1 ⟨a2,c2,rfl,hc3,hc4,hsl,hH2,hBt2⟩
 refine ⟨_,rfl,?_⟩
 replace hBt:=hBt.trans hBt2
 refine hK.out _ _ trivial (fun _=>?_)
 clear hK K hBt2 hH hX
 simp only [nrm]
 refine any_one (i:=7) (by kernel_rfl) rfl (fun K hK=>?_)
 rw [if_pos (by kernel_rfl)]
 have hdl:(C.drop (64 * (C.length / 64))).length=C.length % 64:=by rw [List.length_drop]; omega
 refine copy_wp (.tmp 48) (.tmp 51) rfl g 8 64 64 a2 (C.length % 64) c2 (by kernel_rfl) (by kernel_rfl) (hcl (hbk (C.length / 64) S C) l ((B.length:Int)+C.length)) 132 hH2 (C.drop (64 * (C.length / 64))) (by rw [hdl]; exact (Nat.min_eq_left (by omega)).symm) (by rcases hsl with h | ⟨p,o,h1,h2,_⟩; exact .inl h; exact .inr ⟨p,o,h1,h2⟩) (by rw [hcl_len _ _ _ (hbk_len _ _ hSl _) hl,hdl]; omega) ?_
 have hH3:=setCells_heap ((C.drop (64 * (C.length / 64))).map (Value.int .u8)) x1 g 8 _ _ hH2
 have hcp:=hcl_copy (hbk (C.length / 64) S C) l (C.drop (64 * (C.length / 64))) ((B.length:Int)+C.length) 0 (hbk_len _ _ hSl _) (by rw [hdl,hl]; omega)
 rw [Nat.add_zero] at hcp
 rw [hcp] at hH3
 simp only [List.take_zero,List.nil_append,Nat.zero_add] at hH3
 replace hBt:=hBt.trans (setCells_bt ((C.drop (64 * (C.length / 64))).map (Value.int .u8)) x1 g 8)
 refine hK.out _ _ trivial (fun _=>?_)
 refine any_done (by kernel_rfl) ?_
 clear hK K hH2 hsl hcp
 simp only [nrm]
 generalize World.setCells _ _ _ _=x2 at *
 have hW:Hid (Wrote g (B++C) w (.returned (.int .i64 0)) x2):=by
  refine ⟨rfl,H.whole h64 ?_ ?_ (l:=C.drop (64 * (C.length / 64))++l.drop (C.drop (64 * (C.length / 64))).length) (by rw [← unhide hS]; exact hH3) (by rw [← hdl]; exact take_len_append _ _),hBt⟩
  ·rw [List.length_append,List.length_drop (l:=l),hdl,hl]
   omega
  ·have:=isB_left hlB (isB_drop hC (64 * (C.length / 64))) 0
   simpa using this
 clear hH3 hBt
 go_wp2_with fail
 rw [unhide hT]
 exact unhide hW
theorem left_at {w:World} {g:Nat} {s l:List Int} {n:Int} {t:TypeId} (h:w.heap[g]?=some (.cells (hc s l n) t (0,0))) (hs:s.length=8):At w g 8 l:=by
 intro j hj
 refine cell_of h ?_
 unfold hc hcl
 simp [List.getElem?_append,hs,hj]
theorem H.part {g:Nat} {B C l:List Int} {v:World} (hk:B.length % 64+C.length<64) (hl:l.length=64) (hlB:IsB l) (hC:IsB C) (hlt:l.take (B.length % 64)=B.drop (64 * (B.length / 64)))
  (h:v.heap[g]?=some (.cells (hc (hbk (B.length / 64) F0 B) (l.take (B.length % 64)++(C++l.drop (B.length % 64+C.length))) ((B.length:Int)+C.length)) 132 (0,0))):H g (B++C) v:=by
 have e1:(B++C).length / 64=B.length / 64:=by rw [List.length_append]; omega
 have e2:(B++C).length % 64=B.length % 64+C.length:=by rw [List.length_append]; omega
 have e3:((B++C).length:Int)=(B.length:Int)+C.length:=by rw [List.length_append]; omega
 refine ⟨_,?_,isB_left hlB hC (B.length % 64),?_,?_⟩
 ·simp only [List.length_append,List.length_take,List.length_drop,hl]
  omega
 ·rw [e1,e3,bk_left F0 C (B.length / 64) (by omega)]
  exact h
 ·have e4:(l.take (B.length % 64)++C).length=B.length % 64+C.length:=by simp only [List.length_append,List.length_take,hl]; omega
  rw [e2,e1,← e4,← List.append_assoc,take_len_append,hlt,List.drop_append_of_le_length (by omega)]
theorem bk_fill {B C l:List Int} (hk:0<B.length % 64) (hC:C.length=64 - B.length % 64) (hlt:l.take (B.length % 64)=B.drop (64 * (B.length / 64))):hbk 1 (hbk (B.length / 64) F0 B) (l.take (B.length % 64)++C)=hbk ((B++C).length / 64) F0 (B++C):=by
 have e1:(B++C).length / 64=B.length / 64+1:=by rw [List.length_append]; omega
 rw [e1,hbk,hbk,hbk,bk_left F0 C (B.length / 64) (by omega),hlt,Nat.mul_zero,List.drop_zero,List.drop_append_of_le_length (by omega)]
theorem take_n (s l:List Int) (n:Int) (hs:s.length=8) (g:Nat) (B:List Int) (hb:IsB B) (N:Nat) (hN:B.length=N) (a:Option Addr) (cap:Nat) (hcap:N≤cap) (hbig:cap<9223372036854775808) (w:World)
  (hg:w.heap[g]?=some (.cells (hc s l n) 132 (0,0))) (hA:SlO g w a B):Calls Tryz.prog 81 #[.pointer (some ⟨g,0,none⟩),.slice a N cap] w (Took g s l n B w):=by
 subst hN
 exact take_ok s l n hs g B hb a cap hcap hbig w hg hA
set_option maxHeartbeats 2000000 in
theorem write_some (g:Nat) (B C:List Int) (hC:IsB C) (h64:0<B.length % 64) (hbig:B.length+C.length<1152921504606846976) (a:Option Addr) (cap:Nat) (hcap:C.length≤cap) (hcb:cap<9223372036854775808) (w:World)
  (hB:H g B w) (hX:SlX g w a C):Calls Tryz.prog 58 #[.pointer (some ⟨g,0,none⟩),.slice a C.length cap] w (Wrote g (B++C) w):=by
 obtain ⟨T,hT⟩:∃ T,T=Wrote g (B++C) w:=⟨_,rfl⟩
 rw [← hT]
 obtain ⟨l,hl,hlB,hH,hlt⟩:=hB
 obtain ⟨S,hS⟩:∃ S,S=hbk (B.length / 64) F0 B:=⟨_,rfl⟩
 have hSl:S.length=8:=by rw [hS]; exact hbk_len _ _ rfl _
 rw [← hS] at hH
 have cc:=cnt_cell hH hSl hl
 have cf:=froz_of (i:=72) hH
 have hH2:=cnt_set (m:=(B.length:Int)+C.length) hH hSl hl
 have hBt:=(Bt.trans (Bt.refl g w) (setCells_bt [.int .i64 ((B.length:Int)+C.length)] w g 72))
 replace hX:=hX.bt hBt
 replace hBt:Hid (Bt g w (w.setCell ⟨g,72,none⟩ (.int .i64 ((B.length:Int)+C.length)))):=hBt
 replace hX:Hid (SlX g (w.setCell ⟨g,72,none⟩ (.int .i64 ((B.length:Int)+C.length))) a C):=hX
 obtain ⟨k,hk⟩:∃ k,k=B.length % 64:=⟨_,rfl⟩
 rw [← hk] at h64 hlt
 have e1:Int.tmod (B.length:Int) 64=(k:Int):=by rw [Int.tmod_eq_emod_of_nonneg (by omega)]; omega
 have e2:IntKind.i64.wrap ((B.length:Int)+C.length)=(B.length:Int)+C.length:=by rw [IntKind.wrap_i64]; omega
 have e3:IntKind.i64.wrap (k:Int)=(k:Int):=by rw [IntKind.wrap_i64]; omega
 have k0:0<(k:Int):=by omega
 have k1:(k:Int)≤64:=by omega
 have k2:(k:Int)<64:=by omega
 have k3:¬ 64=k:=by omega
 have k4:k<64:=by omega
 replace hH2:=hide hH2
 replace hT:=hide hT
 replace hS:=hide hS
 replace hlt:=hide hlt
 replace hk:=hide hk
 clear hH
 generalize hm:C.length=m at *
 generalize hn:B.length=n at *
 go_enter Tryz.func58,Tryz.ntmps58
 go_upto_region 6 with fail
 replace hBt:=unhide hBt
 replace hX:=unhide hX
 have hH:=unhide hH2
 clear hH2
 generalize World.setCell _ _ _=x3 at *
 refine wp_region_lit ?_
 iterate 6 (refine wpList_step fun K hK=>?_; replace hK:=hide hK; go_simp; refine unhide hK _ _ ?_; clear hK K)
 obtain ⟨m2,hm2⟩:∃ m2,m2=min m (64 - k):=⟨_,rfl⟩
 obtain ⟨E,hE⟩:∃ E,E=C.take m2:=⟨_,rfl⟩
 have hEl:E.length=m2:=by rw [hE,List.length_take]; omega
 have hEB:IsB E:=by rw [hE]; exact isB_take hC _
 have hsrc:E=[]∨∃ p q,a=some ⟨p,q,none⟩∧At x3 p q E:=by
  rcases hX with h | ⟨p,q,h1,h2,_⟩
  ·left; rw [hE,h]; simp
  ·right; exact ⟨p,q,h1,by rw [hE]; exact h2.take m2⟩
 refine wpList_plain rfl fun K hK=>?_
 refine copy_wp (.tmp 29) (.tmp 30) rfl g (8+k) (64 - k) (64 - k) a m cap (by kernel_rfl) (by kernel_rfl) (hcl S l ((n:Int)+m)) 132 hH E (by rw [hEl]; exact hm2) hsrc (by rw [hcl_len _ _ _ hSl hl,hEl]; omega) ?_
 have hH3:=setCells_heap (E.map (Value.int .u8)) x3 g (8+k) _ _ hH
 rw [hcl_copy S l E _ k hSl (by rw [hEl,hl]; omega)] at hH3
 have hbt2:=setCells_bt (E.map (Value.int .u8)) x3 g (8+k)
 replace hBt:=hBt.trans hbt2
 replace hX:=hX.bt hbt2
 refine hK _ _ ?_
 clear hK K hH hsrc hbt2
 simp only [nrm]
 generalize World.setCells _ _ _ _=x4 at *
 rw [hEl]
 replace hm2:=hide hm2
 iterate 1 (refine wpList_step fun K hK=>?_; replace hK:=hide hK; go_simp; refine unhide hK _ _ ?_; clear hK K)
 refine wpList_nil ?_
 obtain ⟨l2,hl2⟩:∃ l2,l2=l.take k++(E++l.drop (k+E.length)):=⟨_,rfl⟩
 have hH:x4.heap[g]?=some (.cells (hc S l2 ((n:Int)+m)) 132 (0,0)):=by rw [hl2]; exact hH3
 clear hH3
 by_cases hpart:k+m<64
 ·have hmm:m2=m:=by have:=unhide hm2; omega
  have hEC:E=C:=by rw [hE,hmm,← hm,List.take_length]
  have q1:(k:Int)+(m2:Int)<64:=by omega
  have q2:IntKind.i64.wrap ((k:Int)+(m2:Int))=(k:Int)+(m2:Int):=by rw [IntKind.wrap_i64]; omega
  replace hmm:=hide hmm
  have hW:Hid (Wrote g (B++C) w (.returned (.int .i64 0)) x4):=by
   refine ⟨rfl,H.part (l:=l) ?_ hl hlB hC ?_ ?_,hBt⟩
   ·rw [hn,hm]; have:=unhide hk; omega
   ·rw [hn,← unhide hk]; exact unhide hlt
   ·rw [hn,hm,← unhide hk,← unhide hS]
    rw [hl2,hEC,hm] at hH
    exact hH
  clear hH hBt hX
  replace hl2:=hide hl2
  go_wp2_with fail
  rw [unhide hT]
  exact unhide hW
 ·have hmm:m2=64 - k:=by have:=unhide hm2; omega
  have hl2a:l2=l.take k++E:=by
   rw [hl2,hEl,List.drop_eq_nil_of_le (by omega),List.append_nil]
  have hl2l:l2.length=64:=by rw [hl2a,List.length_append,List.length_take,hEl]; omega
  have hl2B:IsB l2:=by rw [hl2a]; exact isB_append (isB_take hlB _) hEB
  obtain ⟨D,hD⟩:∃ D,D=C.drop m2:=⟨_,rfl⟩
  have hDl:D.length=m - m2:=by rw [hD,List.length_drop,hm]
  have hbD:IsB D:=by rw [hD]; exact isB_drop hC _
  have q1:¬ (k:Int)+(m2:Int)<64:=by omega
  have q2:IntKind.i64.wrap ((k:Int)+(m2:Int))=(k:Int)+(m2:Int):=by rw [IntKind.wrap_i64]; omega
  have q4:0≤(m2:Int):=by omega
  have q5:(m2:Int)≤(m:Int):=by omega
  obtain ⟨S2,hS2⟩:∃ S2,S2=hbk 1 S l2:=⟨_,rfl⟩
  have hS2l:S2.length=8:=by rw [hS2]; exact hbk_len _ _ hSl _
  replace hS2:=hide hS2
  replace hmm:=hide hmm
  replace hDl:=hide hDl
  replace hEl:=hide hEl
  replace hl2:=hide hl2
  replace hl2a:=hide hl2a
  replace hBt:=hide hBt
  replace hX:=hide hX
  replace hH:=hide hH
  replace hE:=hide hE
  replace hD:=hide hD
  go_upto_region 9 with fail
  refine wp_region_lit ?_
  iterate 5 (refine wpList_step fun K hK=>?_; replace hK:=hide hK; go_simp; refine unhide hK _ _ ?_; clear hK K)
  refine list_call 81 #[.pointer (some ⟨g,0,none⟩),.slice (some ⟨g,8,none⟩) 64 64] (by kernel_rfl) (by kernel_rfl) ((take_n S l2 ((n:Int)+m) hSl g l2 hl2B 64 hl2l (some ⟨g,8,none⟩) 64 (by omega) (by omega) _ (unhide hH) (.inr ⟨g,8,rfl,left_at (unhide hH) hSl,.inr (Nat.le_refl _)⟩)).mono ?_)
  rintro r x5 ⟨a5,c5,rfl,_,_,_,hH5,hBt5⟩
  refine ⟨_,rfl,?_⟩
  simp only [nrm]
  refine wpList_nil ?_
  replace hBt:=(unhide hBt).trans hBt5
  replace hX:=(unhide hX).bt hBt5
  have hH6:x5.heap[g]?=some (.cells (hc S2 l2 ((n:Int)+m)) 132 (0,0)):=by
   rw [unhide hS2]
   have e:l2.length / 64=1:=by rw [hl2l]
   rw [e] at hH5
   exact hH5
  clear hBt5 hH5 hH
  have hXD:SlX g x5 (if cap=m2 then a else Option.map (fun x=>x.add m2) a) D:=by
   rw [unhide hD]
   rcases hX with h | ⟨p,q,h1,h2,h3⟩
   ·left
    rw [h]
    simp
   ·split
    ·left
     exact List.drop_eq_nil_of_le (by omega)
    ·right
     exact ⟨p,q+m2,by rw [h1]; simp [Addr.add_mid],h2.drop m2,h3⟩
  replace hBt:=hide hBt
  clear hX
  replace hXD:=hide hXD
  replace hH6:=hide hH6
  go_upto_region 11 with fail
  replace hBt:=unhide hBt
  have hX:=unhide hXD
  have hH:=unhide hH6
  clear hXD hH6
  have hcD1:m - m2≤cap - m2:=by omega
  have hcD2:cap - m2<9223372036854775808:=by omega
  generalize cap - m2=c2 at *
  generalize (if cap=m2 then a else Option.map (fun x=>x.add m2) a)=a2 at *
  replace hDl:=unhide hDl
  replace hl0:=hl
  clear hl
  have hl:=hl2l
  refine any_start (S:=fun _=>True) (by kernel_rfl) ?_
  replace hBt:=hBt.trans ((Gr.refl _).drew.bt g)
  replace hH:=(Gr.refl _).drew.blk hH
  replace hX:=hX.gr (Gr.refl _).drew
  generalize World.drew _=x0 at *
  simp only [List.size_toArray,List.length_cons,List.length_nil,Array.replicate,List.replicate]
  refine any_take (i:=0) (v:=(.pointer (some ⟨g,0,none⟩))) #[false,false,false,false,false,false,false,false] rfl (by kernel_rfl) (by kernel_rfl) (by kernel_rfl) (by kernel_rfl) (fun _ _ _ h=>h) (.inl ⟨by kernel_rfl,fun x_ hu=>by kernel_rfl⟩) trivial ?_
  simp only [nrm]
  refine any_take (i:=1) (v:=(.pointer (some ⟨g,0,none⟩))) #[true,false,false,false,false,false,false,false] rfl (by kernel_rfl) (by kernel_rfl) (by kernel_rfl) (by kernel_rfl) (fun _ _ _ h=>h) (.inl ⟨by kernel_rfl,fun x_ hu=>by kernel_rfl⟩) trivial ?_
  simp only [nrm]
  refine any_take (i:=2) (v:=(.pointer (some ⟨g,8,none⟩))) #[true,true,false,false,false,false,false,false] rfl (by kernel_rfl) (by kernel_rfl) (by kernel_rfl) (by kernel_rfl) (fun _ _ _ h=>h) (.inl ⟨by kernel_rfl,fun x_ hu=>by kernel_rfl⟩) trivial ?_
  simp only [nrm]
  refine any_take (i:=3) (v:=(.slice (some ⟨g,8,none⟩) 64 64)) #[true,true,true,false,false,false,false,false] rfl (by kernel_rfl) (by kernel_rfl) (by kernel_rfl) (by kernel_rfl) (fun _ _ _ h=>h) (.inl ⟨by kernel_rfl,fun x_ hu=>by go_simp⟩) trivial ?_
  simp only [nrm]
  refine any_take (i:=4) (v:=(.pointer (some ⟨g,0,none⟩))) #[true,true,true,true,false,false,false,false] rfl (by kernel_rfl) (by kernel_rfl) (by kernel_rfl) (by kernel_rfl) (fun _ _ _ h=>h) (.inl ⟨by kernel_rfl,fun x_ hu=>by kernel_rfl⟩) trivial ?_
  simp only [nrm]
  refine any_take (i:=5) (v:=(.slice a2 (m - m2) c2)) #[true,true,true,true,true,false,false,false] rfl (by kernel_rfl) (by kernel_rfl) (by kernel_rfl) (by kernel_rfl) (fun _ _ _ h=>h) (.inl ⟨by kernel_rfl,fun x_ hu=>by kernel_rfl⟩) trivial ?_
  simp only [nrm]
  refine any_one (i:=6) (by kernel_rfl) rfl (fun K hK=>?_)
  refine step_callw (by kernel_rfl) 81 #[.pointer (some ⟨g,0,none⟩),.slice a2 (m - m2) c2] (by kernel_rfl) ((take_n S2 l2 ((n:Int)+m) hS2l g D hbD (m - m2) hDl a2 c2 hcD1 hcD2 _ hH hX.out).mono ?_)
  rintro r x1 ⟨a9,c9,rfl,hc3,hc4,hsl,hH2,hBt2⟩
  refine ⟨_,rfl,?_⟩
  replace hBt:=hBt.trans hBt2
  refine hK.out _ _ trivial (fun _=>?_)
  clear hK K hBt2 hH hX
  simp only [nrm]
  refine any_one (i:=7) (by kernel_rfl) rfl (fun K hK=>?_)
  rw [if_pos (by kernel_rfl)]
  have hdl:(D.drop (64 * (D.length / 64))).length=D.length % 64:=by rw [List.length_drop]; omega
  refine copy_wp (.tmp 48) (.tmp 51) rfl g 8 64 64 a9 (D.length % 64) c9 (by kernel_rfl) (by kernel_rfl) (hcl (hbk (D.length / 64) S2 D) l2 ((n:Int)+m)) 132 hH2 (D.drop (64 * (D.length / 64))) (by rw [hdl]; exact (Nat.min_eq_left (by omega)).symm) (by rcases hsl with h | ⟨p,o,h1,h2,_⟩; exact .inl h; exact .inr ⟨p,o,h1,h2⟩) (by rw [hcl_len _ _ _ (hbk_len _ _ hS2l _) hl,hdl]; omega) ?_
  have hH3:=setCells_heap ((D.drop (64 * (D.length / 64))).map (Value.int .u8)) x1 g 8 _ _ hH2
  have hcp:=hcl_copy (hbk (D.length / 64) S2 D) l2 (D.drop (64 * (D.length / 64))) ((n:Int)+m) 0 (hbk_len _ _ hS2l _) (by rw [hdl,hl]; omega)
  rw [Nat.add_zero] at hcp
  rw [hcp] at hH3
  simp only [List.take_zero,List.nil_append,Nat.zero_add] at hH3
  replace hBt:=hBt.trans (setCells_bt ((D.drop (64 * (D.length / 64))).map (Value.int .u8)) x1 g 8)
  refine hK.out _ _ trivial (fun _=>?_)
  refine any_done (by kernel_rfl) ?_
  clear hK K hH2 hsl hcp
  simp only [nrm]
  generalize World.setCells _ _ _ _=x2 at *
  have hB1:(B++E).length % 64=0:=by
   rw [List.length_append,unhide hEl,hn]
   have h1:=unhide hk
   have h2:=unhide hmm
   omega
  have hBE:B++C=(B++E)++D:=by rw [unhide hE,unhide hD,List.append_assoc,List.take_append_drop]
  have hW:Hid (Wrote g (B++C) w (.returned (.int .i64 0)) x2):=by
   rw [hBE]
   refine ⟨rfl,H.whole hB1 ?_ ?_ (l:=D.drop (64 * (D.length / 64))++l2.drop (D.drop (64 * (D.length / 64))).length) ?_ (by rw [← hdl]; exact take_len_append _ _),hBt⟩
   ·rw [List.length_append,List.length_drop (l:=l2),hdl,hl]
    omega
   ·have:=isB_left hl2B (isB_drop hbD (64 * (D.length / 64))) 0
    simpa using this
   ·have e4:hbk 1 (hbk (B.length / 64) F0 B) (l.take (B.length % 64)++E)=hbk ((B++E).length / 64) F0 (B++E):=by
     refine bk_fill ?_ ?_ ?_
     ·rw [hn,← unhide hk]; exact h64
     ·rw [unhide hEl,hn,← unhide hk]; exact unhide hmm
     ·rw [hn,← unhide hk]; exact unhide hlt
    rw [← e4,hn,← unhide hk,← unhide hS,← unhide hl2a,← unhide hS2,List.length_append,unhide hEl,hDl,hn]
    have e5:(((n+m2:Nat):Int)+((m - m2:Nat):Int))=(n:Int)+m:=by omega
    rw [e5]
    rw [hDl] at hH3
    exact hH3
  clear hH3 hBt
  go_wp2_with fail
  rw [unhide hT]
  exact unhide hW
theorem write_ok (g:Nat) (B C:List Int) (hC:IsB C) (hbig:B.length+C.length<1152921504606846976) (a:Option Addr) (n cap:Nat) (hn:C.length=n) (hcap:n≤cap) (hcb:cap<9223372036854775808) (w:World)
  (hB:H g B w) (hX:SlX g w a C):Calls Tryz.prog 58 #[.pointer (some ⟨g,0,none⟩),.slice a n cap] w (Wrote g (B++C) w):=by
 subst hn
 rcases Nat.eq_zero_or_pos (B.length % 64) with h | h
 ·exact write_whole g B C hC h hbig a cap hcap hcb w hB hX
 ·exact write_some g B C hC h hbig a cap hcap hcb w hB hX
def Zl64:List Int:=List.replicate 64 0
theorem list_valw {P:Program} {ops:Array Oper} {Q:Exit→Act→World→Prop} {a:Act} {w:World} {o:Oper} {rest:List Oper} (v:Value) (w':World) (hw:Region.wanted o (yielded ops a.tmps)=true) (hx:(execOp a.eval o).run P w=.ok (.value v) w') (h:wpList P ops Q rest (a.put o.dst v) w'):wpList P ops Q (o::rest) a w:=by
 refine wpList_step fun K hK=>?_
 rw [if_pos hw]
 unfold Oper.wp
 rw [hx]
 exact hK _ _ h
def ZH:Array Value:=hc Z8 Zl64 0
def sumL (B:List Int):List Int:=keyL (hbk ((B++padL B.length).length / 64) F0 (B++padL B.length))
theorem sumL_len (B:List Int):(sumL B).length=32:=keyL_len _
def Fst (w:World):Prop:=w.rangeAt 0 0 (F0.map (Value.int .u32))
theorem Fst.gr {w v:World} (h:Fst w) (k:Gr w v):Fst v:=fun j x hj=>k.cell (h j x hj)
def News (w:World) (r:Ending) (w':World):Prop:=∃ g,r=.returned (.pointer (some ⟨g,0,none⟩))∧w.heap.size≤g∧H g [] w'∧Gr w w'
theorem Tryz.infoH:(Tryz.prog.info? 132).map (·.size)=some 73:=by kernel_rfl
theorem new_ok (w:World) (hF:Fst w):Calls Tryz.prog 57 #[] w (News w):=by
 obtain ⟨T,hT⟩:∃ T,T=News w:=⟨_,rfl⟩
 rw [← hT]
 replace hT:=hide hT
 go_enter Tryz.func57,Tryz.ntmps57
 go_upto_region 1 with fail
 refine wp_region_lit ?_
 refine list_val (.agg (uc F0)) (by kernel_rfl) (exec_row _ 108 (.global 0) rfl 0 0 (by kernel_rfl) (F0.map (Value.int .u32)) _ hF Tryz.underlying108 rfl (by rw [Tryz.infoS]; rfl)) ?_
 simp only [nrm]
 refine list_val (.agg (hc F0 Zl64 0)) (by kernel_rfl) (by kernel_rfl) ?_
 simp only [nrm]
 iterate 2 (refine wpList_step fun K hK=>?_; replace hK:=hide hK; go_simp; refine unhide hK _ _ ?_; clear hK K)
 refine wpList_nil ?_
 have hP:Hid (News w (.returned (.pointer (some ⟨w.heap.size,0,none⟩))) (w.alloc (.cells (hc F0 Zl64 0) 132 (0,0)))) :=
  ⟨w.heap.size,rfl,Nat.le_refl _,⟨Zl64,rfl,(by intro x hx; have:=List.eq_of_mem_replicate hx; omega),blk_new _ _,rfl⟩,(Gr.refl w).alloc _⟩
 go_wp2_with fail
 rw [unhide hT]
 exact unhide hP
def Summed (B:List Int) (w:World) (r:Ending) (w':World):Prop:=r=.returned (.agg (kc (sumL B)))∧Gr w w'
set_option maxHeartbeats 2000000 in
theorem hsum_ok (g:Nat) (B:List Int) (hbig:B.length<1152921504606846000) (w:World) (hB:H g B w):Calls Tryz.prog 59 #[.pointer (some ⟨g,0,none⟩)] w (Summed B w):=by
 obtain ⟨T,hT⟩:∃ T,T=Summed B w:=⟨_,rfl⟩
 rw [← hT]
 replace hT:=hide hT
 replace hB:=hide hB
 go_enter Tryz.func59,Tryz.ntmps59
 go_upto_region 3 with fail
 have hL:=(Bl.nil w).new #[.int .u8 0,.int .u8 0,.int .u8 0,.int .u8 0,.int .u8 0,.int .u8 0,.int .u8 0,.int .u8 0,.int .u8 0,.int .u8 0,.int .u8 0,.int .u8 0,.int .u8 0,.int .u8 0,.int .u8 0,.int .u8 0,.int .u8 0,.int .u8 0,.int .u8 0,.int .u8 0,.int .u8 0,.int .u8 0,.int .u8 0,.int .u8 0,.int .u8 0,.int .u8 0,.int .u8 0,.int .u8 0,.int .u8 0,.int .u8 0,.int .u8 0,.int .u8 0] 23
 replace hB:=(unhide hB).gr ((Gr.refl w).alloc (.cells #[.int .u8 0,.int .u8 0,.int .u8 0,.int .u8 0,.int .u8 0,.int .u8 0,.int .u8 0,.int .u8 0,.int .u8 0,.int .u8 0,.int .u8 0,.int .u8 0,.int .u8 0,.int .u8 0,.int .u8 0,.int .u8 0,.int .u8 0,.int .u8 0,.int .u8 0,.int .u8 0,.int .u8 0,.int .u8 0,.int .u8 0,.int .u8 0,.int .u8 0,.int .u8 0,.int .u8 0,.int .u8 0,.int .u8 0,.int .u8 0,.int .u8 0,.int .u8 0] 23))
 simp only [List.nil_append] at hL
 generalize World.alloc _ _=u1 at *
 replace hL:Bl w [⟨w.heap.size,kc Z32,23⟩] u1:=hL
 obtain ⟨l,hl,hlB,hH,hlt⟩:=hB
 have hSl:(hbk (B.length / 64) F0 B).length=8:=hbk_len _ _ rfl _
 obtain ⟨c,hc0⟩:∃ c,c=hc (hbk (B.length / 64) F0 B) l B.length:=⟨_,rfl⟩
 have hcs:c.size=73:=by rw [hc0]; unfold hc; rw [List.size_toArray,hcl_len _ _ _ hSl hl]
 have hc1:c.all (·.oneCell')=true:=by rw [hc0]; unfold hc hcl; simp [Value.oneCell']
 have hB:Hid (∀ v,v.heap[u1.heap.size]?=some (.cells c 132 (0,0))→H u1.heap.size B v):=fun v hv=>⟨l,hl,hlB,by rw [← hc0]; exact hv,hlt⟩
 rw [← hc0] at hH
 clear hlt
 refine wp_region_lit ?_
 iterate 2 (refine wpList_step fun K hK=>?_; replace hK:=hide hK; go_simp; refine unhide hK _ _ ?_; clear hK K)
 refine list_val (.agg c) (by kernel_rfl) (exec_arr _ 132 (.tmp 8) rfl g (by kernel_rfl) c 132 _ hH Tryz.underlying132 rfl (by rw [Tryz.infoH,hcs])) ?_
 simp only [nrm]
 refine list_valw (.pointer (some ⟨u1.heap.size,0,none⟩)) (u1.alloc (.cells ZH 132 (0,0))) (by kernel_rfl) (by kernel_rfl) ?_
 simp only [nrm]
 replace hL:=hL.new ZH 132
 have hne:u1.heap.size≠g:=by have:=lt_of_block hH; omega
 replace hH:=((Gr.refl u1).alloc (.cells ZH 132)).blk hH
 simp only [List.cons_append,List.nil_append] at hL
 generalize u1.heap.size=ge at *
 generalize World.alloc _ _=u2 at *
 refine list_store 132 (.tmp 3) (.tmp 9) ge c 132 ZH (by kernel_rfl) rfl (by kernel_rfl) (by kernel_rfl) (hL.get 1 (x:=⟨ge,ZH,132⟩) rfl) (by rw [Tryz.infoH,hcs]) (by rw [hcs]; rfl) hc1 ?_
 replace hL:=hL.set 1 (x:=⟨ge,ZH,132⟩) rfl c
 simp only [List.set_cons_zero,List.set_cons_succ] at hL
 replace hH:=(setRow_other u2 ge g c (fun e=>hne e.symm)).trans hH
 generalize World.setRow _ _ _=u3 at *
 simp only [nrm]
 refine wpList_nil ?_
 have hE:=(unhide hB) u3 (hL.get 1 (x:=⟨ge,c,132⟩) rfl)
 clear hB
 have hcc:u3.cell? ⟨g,72,none⟩=some (.int .i64 B.length):=cnt_cell (by rw [← hc0]; exact hH) hSl hl
 clear hH hc0
 replace hL:=hide hL
 replace hE:=hide hE
 go_upto_region 4 with fail
 refine wp_region_lit ?_
 iterate 4 (refine wpList_step fun K hK=>?_; replace hK:=hide hK; go_simp; refine unhide hK _ _ ?_; clear hK K)
 refine list_call 82 #[.int .i64 B.length] (by kernel_rfl) (by kernel_rfl) ((pad_ok B.length (by omega) _).mono ?_)
 rintro r u4 ⟨gp,rfl,hgp,hP,hg⟩
 refine ⟨_,rfl,?_⟩
 simp only [nrm]
 have hgp2:gp≠ge:=by have:=lt_of_block ((unhide hL).get 1 (x:=⟨ge,c,132⟩) rfl); have h2:u3.heap.size≤gp:=hgp; dsimp only at this; omega
 replace hL:=(unhide hL).more hg
 replace hE:=(unhide hE).gr hg
 clear hg hcc
 refine list_call 58 #[.pointer (some ⟨ge,0,none⟩),.slice (some ⟨gp,0,none⟩) (nz B.length+9) (nz B.length+9)] (by kernel_rfl) (by kernel_rfl) ((write_ok ge B (padL B.length) (padL_isB _) (by rw [padL_len]; unfold nz; omega) (some ⟨gp,0,none⟩) (nz B.length+9) (nz B.length+9) (padL_len _) (Nat.le_refl _) (by unfold nz; omega) _ hE (.inr ⟨gp,0,rfl,fun j hj=>by rw [Nat.zero_add]; exact kc_cell hP j hj,hgp2⟩)).mono ?_)
 rintro r u5 ⟨rfl,hE2,hbt⟩
 refine ⟨_,rfl,?_⟩
 simp only [nrm]
 refine wpList_nil ?_
 obtain ⟨l2,hl2,_,hH2,_⟩:=hE2
 replace hL:=hL.but hbt 1 (x:=⟨ge,c,132⟩) rfl rfl hH2
 simp only [List.set_cons_zero,List.set_cons_succ] at hL
 clear hbt hE
 replace hL:=hide hL
 go_upto_region 5 with fail
 refine wp_region_lit ?_
 iterate 1 (refine wpList_step fun K hK=>?_; replace hK:=hide hK; go_simp; refine unhide hK _ _ ?_; clear hK K)
 obtain ⟨s,hs⟩:∃ s,s=hbk ((B++padL B.length).length / 64) F0 (B++padL B.length):=⟨_,rfl⟩
 have hsl:s.length=8:=by rw [hs]; exact hbk_len _ _ rfl _
 rw [← hs] at hH2
 refine list_val (.agg (uc s)) (by kernel_rfl) (exec_row _ 108 (.tmp 16) rfl ge 0 (by kernel_rfl) (s.map (Value.int .u32)) _ (range_st hH2) Tryz.underlying108 rfl (by rw [Tryz.infoS,List.length_map,hsl])) ?_
 simp only [nrm]
 refine list_call 83 #[.agg (uc s)] (by kernel_rfl) (by kernel_rfl) ((key_ok s hsl _).mono ?_)
 rintro r u6 ⟨rfl,hg⟩
 refine ⟨_,rfl,?_⟩
 simp only [nrm]
 replace hL:=(unhide hL).more hg
 have hkl:(keyL s).length=32:=keyL_len s
 have hks:keyL s=sumL B:=by rw [hs]; rfl
 clear hH2 hg hs
 generalize keyL s=m at *
 generalize hc _ _ _=ce at *
 refine list_store 23 (.tmp 2) (.tmp 18) w.heap.size (kc m) 23 (kc Z32) (by kernel_rfl) rfl (by kernel_rfl) (by kernel_rfl) (hL.get 0 (x:=⟨w.heap.size,kc Z32,23⟩) rfl) (by rw [Tryz.infoKey,kc_size,hkl]) ((show (kc Z32).size=32 from rfl).trans ((kc_size _).trans hkl).symm) (kc_one _) ?_
 replace hL:=hL.set 0 (x:=⟨w.heap.size,kc Z32,23⟩) rfl (kc m)
 simp only [List.set_cons_zero,List.set_cons_succ] at hL
 generalize World.setRow _ _ _=u7 at *
 simp only [nrm]
 refine wpList_nil ?_
 go_wp2_with fail
 rw [unhide hT]
 exact bodyPost_ret (v:=.agg (kc m)) (results_cell_row Tryz.results59 _ _ w.heap.size 23 (kc m) (0,0) _ rfl (hL.get 0 (x:=⟨w.heap.size,kc m,23⟩) rfl) Tryz.underlying23 rfl (by rw [Tryz.infoKey,kc_size,hkl])) rfl ⟨by rw [hks],hL.gr⟩
def Sl (w:World) (a:Option Addr) (B:List Int):Prop:=B=[]∨∃ p o,a=some ⟨p,o,none⟩∧At w p o B
theorem Sl.gr {w v:World} {a:Option Addr} {B:List Int} (h:Sl w a B) (k:Gr w v):Sl v a B:=by
 rcases h with h | ⟨p,o,h1,h2⟩
 ·exact .inl h
 ·exact .inr ⟨p,o,h1,h2.gr k⟩
theorem Sl.far {w v:World} {a:Option Addr} {B:List Int} (h:Sl w a B) (k:Gr w v) {g:Nat} (hg:w.heap.size≤g):SlX g v a B:=by
 rcases h with h | ⟨p,o,h1,h2⟩
 ·exact .inl h
 ·rcases Nat.eq_zero_or_pos B.length with h0 | h0
  ·exact .inl (List.eq_nil_of_length_eq_zero h0)
  ·exact .inr ⟨p,o,h1,h2.gr k,by have:=lt_of_cell (h2 0 h0); omega⟩
set_option maxHeartbeats 2000000 in
theorem sum_ok (B:List Int) (hb:IsB B) (n:Nat) (hn:B.length=n) (hbig:n<1152921504606846000) (a:Option Addr) (cap:Nat) (hcap:n≤cap) (hcb:cap<9223372036854775808) (w:World) (hF:Fst w) (hA:Sl w a B) :
  Calls Tryz.prog 36 #[.slice a n cap] w (Summed B w):=by
 obtain ⟨T,hT⟩:∃ T,T=Summed B w:=⟨_,rfl⟩
 rw [← hT]
 replace hT:=hide hT
 replace hF:=hide hF
 replace hA:=hide hA
 replace hb:=hide hb
 go_enter Tryz.func36,Tryz.ntmps36
 go_upto_region 1 with fail
 have hL:=(Bl.nil w).new #[.int .u8 0,.int .u8 0,.int .u8 0,.int .u8 0,.int .u8 0,.int .u8 0,.int .u8 0,.int .u8 0,.int .u8 0,.int .u8 0,.int .u8 0,.int .u8 0,.int .u8 0,.int .u8 0,.int .u8 0,.int .u8 0,.int .u8 0,.int .u8 0,.int .u8 0,.int .u8 0,.int .u8 0,.int .u8 0,.int .u8 0,.int .u8 0,.int .u8 0,.int .u8 0,.int .u8 0,.int .u8 0,.int .u8 0,.int .u8 0,.int .u8 0,.int .u8 0] 23
 simp only [List.nil_append] at hL
 generalize World.alloc _ _=u1 at *
 replace hL:Bl w [⟨w.heap.size,kc Z32,23⟩] u1:=hL
 replace hF:=(unhide hF).gr hL.gr
 refine wp_region_lit ?_
 refine list_call 57 #[] (by kernel_rfl) (by kernel_rfl) ((new_ok _ hF).mono ?_)
 rintro r u2 ⟨g,rfl,hg0,hH,hg⟩
 refine ⟨_,rfl,?_⟩
 simp only [nrm]
 have hne:w.heap.size≠g:=by have:=lt_of_block (hL.get 0 (x:=⟨w.heap.size,kc Z32,23⟩) rfl); dsimp only at this; omega
 have hgw:w.heap.size≤g:=Nat.le_trans hL.gr.size hg0
 replace hL:=hL.more hg
 clear hg hF
 iterate 1 (refine wpList_step fun K hK=>?_; replace hK:=hide hK; go_simp; refine unhide hK _ _ ?_; clear hK K)
 refine wpList_nil ?_
 have hX:=(unhide hA).far hL.gr hgw
 replace hL:=hide hL
 replace hX:=hide hX
 replace hH:=hide hH
 go_upto_region 2 with fail
 refine wp_region_lit ?_
 iterate 2 (refine wpList_step fun K hK=>?_; replace hK:=hide hK; go_simp; refine unhide hK _ _ ?_; clear hK K)
 refine list_call 58 #[.pointer (some ⟨g,0,none⟩),.slice a n cap] (by kernel_rfl) (by kernel_rfl) ((write_ok g [] B (unhide hb) (by rw [hn]; simp; omega) a n cap hn hcap hcb _ (unhide hH) (unhide hX)).mono ?_)
 rintro r u3 ⟨rfl,hE2,hbt⟩
 refine ⟨_,rfl,?_⟩
 simp only [nrm]
 refine wpList_nil ?_
 rw [List.nil_append] at hE2
 have hL3:Bl w [⟨w.heap.size,kc Z32,23⟩] u3:=⟨hbt.gr (unhide hL).gr hgw,(fun x hx=>by
  have hx2:x=⟨w.heap.size,kc Z32,23⟩:=by simpa using hx
  subst hx2
  exact ⟨hbt.blk ((unhide hL).get 0 (x:=⟨w.heap.size,kc Z32,23⟩) rfl) hne,Nat.le_refl _⟩),List.pairwise_singleton _ _⟩
 clear hL hX hH hbt
 have hL:=hide hL3
 clear hL3
 replace hE2:=hide hE2
 go_upto_region 3 with fail
 refine wp_region_lit ?_
 iterate 1 (refine wpList_step fun K hK=>?_; replace hK:=hide hK; go_simp; refine unhide hK _ _ ?_; clear hK K)
 refine list_call 59 #[.pointer (some ⟨g,0,none⟩)] (by kernel_rfl) (by kernel_rfl) ((hsum_ok g B (by omega) _ (unhide hE2)).mono ?_)
 rintro r u6 ⟨rfl,hg⟩
 refine ⟨_,rfl,?_⟩
 simp only [nrm]
 replace hL:=(unhide hL).more hg
 have hkl:(sumL B).length=32:=sumL_len B
 clear hg hE2
 obtain ⟨m,hm⟩:∃ m,m=sumL B:=⟨_,rfl⟩
 rw [← hm] at hkl
 rw [← hm]
 refine list_store 23 (.tmp 2) (.tmp 9) w.heap.size (kc m) 23 (kc Z32) (by kernel_rfl) rfl (by kernel_rfl) (by kernel_rfl) (hL.get 0 (x:=⟨w.heap.size,kc Z32,23⟩) rfl) (by rw [Tryz.infoKey,kc_size,hkl]) ((show (kc Z32).size=32 from rfl).trans ((kc_size _).trans hkl).symm) (kc_one _) ?_
 replace hL:=hL.set 0 (x:=⟨w.heap.size,kc Z32,23⟩) rfl (kc m)
 simp only [List.set_cons_zero,List.set_cons_succ] at hL
 generalize World.setRow _ _ _=u7 at *
 simp only [nrm]
 refine wpList_nil ?_
 replace hm:=hide hm
 go_wp2_with fail
 rw [unhide hT]
 exact bodyPost_ret (v:=.agg (kc m)) (results_cell_row Tryz.results36 _ _ w.heap.size 23 (kc m) (0,0) _ rfl (hL.get 0 (x:=⟨w.heap.size,kc m,23⟩) rfl) Tryz.underlying23 rfl (by rw [Tryz.infoKey,kc_size,hkl])) rfl ⟨by rw [unhide hm],hL.gr⟩
end Go.Proofs.YthahhglbeafkmaaGreatDoor
namespace Go.Proofs.YthahhglbeafkmaaGreatDoor
open Go.RowKit
set_option maxRecDepth 100000
set_option linter.unusedSimpArgs false
set_option linter.unusedVariables false
def W12 (B:List Int) (n:Nat):List Int:=if n≤16 then W1 B n else W2 B (n - 16)
theorem W12_len (B:List Int) (n:Nat):(W12 B n).length=64:=by
 unfold W12
 split
 ·exact W1_len B n
 ·exact W2_len B _
theorem W12_lo (B:List Int) (n:Nat) (h:n<16):W12 B (n+1)=(W12 B n).set n (be (B.getD (4 * n) 0) (B.getD (4 * n+1) 0) (B.getD (4 * n+2) 0) (B.getD (4 * n+3) 0)):=by
 unfold W12
 rw [if_pos (by omega),if_pos (by omega),W1]
theorem W12_hi (B:List Int) (n:Nat) (h:16≤n):W12 B (n+1)=(W12 B n).set n (nx (W12 B n) n):=by
 obtain ⟨k,rfl⟩:∃ k,n=k+16:=⟨n - 16,by omega⟩
 have e0:W12 B (k+16)=W2 B k:=by
  unfold W12
  split
  ·have:k=0:=by omega
   subst this
   rfl
  ·rw [Nat.add_sub_cancel]
 have e1:W12 B (k+16+1)=W2 B (k+1):=by
  unfold W12
  rw [if_neg (by omega)]
  congr 1
 rw [e0,e1,W2]
theorem W12_all (B:List Int):W12 B 64=wds B:=rfl
def stl (q:St):List Int:=[q.a,q.b,q.c,q.d,q.e,q.f,q.g,q.h]
theorem stl_of (s:List Int) (hs:s.length=8):stl (.of s)=s:=by
 rcases s with _ | ⟨a,_ | ⟨b,_ | ⟨c,_ | ⟨d,_ | ⟨e,_ | ⟨f,_ | ⟨g,_ | ⟨h,_ | ⟨i,s⟩⟩⟩⟩⟩⟩⟩⟩⟩ <;> simp at hs
 rfl
def SA (s t:List Int):Nat→List Int
 | 0=>s
 | n+1=>(SA s t n).set n (ad ((SA s t n).getD n 0) (t.getD n 0))
theorem SA_len (s t:List Int):∀ n,(SA s t n).length=s.length
 | 0=>rfl
 | n+1=>by rw [SA,List.length_set,SA_len s t n]
theorem SA_all (s W K:List Int) (hs:s.length=8):SA s (stl (rnds (.of s) W K 64)) 8=stp s W K:=by
 rcases s with _ | ⟨a,_ | ⟨b,_ | ⟨c,_ | ⟨d,_ | ⟨e,_ | ⟨f,_ | ⟨g,_ | ⟨h,_ | ⟨i,s⟩⟩⟩⟩⟩⟩⟩⟩⟩ <;> simp at hs
 generalize hq:rnds (.of [a,b,c,d,e,f,g,h]) W K 64=q
 unfold stp
 rw [hq]
 rfl
def yn (x:Int) (n:Nat):Int:=x / 2 ^ (24 - 8 * n) % 256
def KZ (s:List Int) (i:Nat):Nat→List Int
 | 0=>KY s i
 | n+1=>(KZ s i n).set (4 * i+n) (yn (s.getD i 0) n)
theorem KZ_len (s:List Int) (i:Nat):∀ n,(KZ s i n).length=32
 | 0=>KY_len s i
 | n+1=>by rw [KZ,List.length_set,KZ_len s i n]
theorem KZ_all (s:List Int) (i:Nat):KZ s i 4=KY s (i+1):=by
 simp [KZ,KY,yn,y0,y1,y2,y3]
theorem nx_ref (l:List Int) (i:Nat):nx l i=(l.getD (i - 16) 0+sg0 (l.getD (i - 15) 0)+l.getD (i - 7) 0+sg1 (l.getD (i - 2) 0)) % 4294967296:=by
 unfold nx
 simp only [ad_eq]
 omega
theorem right_ok (x:Int) (n:Nat) (hn:1≤n∧n≤31) (w:World) :
  Calls Tryz.prog 63 #[.int .u32 x,.int .i64 n] w (fun r w'=>r=.returned (.int .u32 (tn x n))∧w'=w.drew):=by
 obtain ⟨m,hm⟩:∃ m,m=32 - n:=⟨_,rfl⟩
 have e1:32 - (n:Int)=(m:Int):=by omega
 have e2:IntKind.i64.wrap (m:Int)=(m:Int):=by rw [IntKind.wrap_i64]; omega
 have m0:0≤(m:Int):=by omega
 have n0:0≤(n:Int):=by omega
 replace hm:=hide hm
 go_enter Tryz.func63,Tryz.ntmps63
 go_wp2_with fail
 go_still_tail 8,(by kernel_rfl)
 go_wp2_with fail
 refine bodyPost_ret (v:=.int .u32 (tn x n)) ?_ rfl ⟨rfl,rfl⟩
 unfold tn
 rw [← unhide hm]
 simp [results,Tryz.results63,go_sem]
theorem right_int (x m:Int) (hm:1≤m∧m≤31) (w:World) :
  Calls Tryz.prog 63 #[.int .u32 x,.int .i64 m] w (fun r w'=>r=.returned (.int .u32 (tn x m.toNat))∧w'=w.drew):=by
 obtain ⟨n,rfl⟩:=Int.eq_ofNat_of_zero_le (a:=m) (by omega)
 exact right_ok x n (by omega) w
theorem rbegin_ok (w:World):Calls Tryz.prog 62 #[] w (fun r w'=>r=.returned (.agg (uc F0))∧Gr w w'):=by
 go_enter Tryz.func62,Tryz.ntmps62
 go_upto_region 1 with fail
 have hB:=(Bl.nil w).new #[.int .u32 0,.int .u32 0,.int .u32 0,.int .u32 0,.int .u32 0,.int .u32 0,.int .u32 0,.int .u32 0] 108
 simp only [List.nil_append] at hB
 generalize World.alloc _ _=u at *
 replace hB:Bl w [⟨w.heap.size,uc Z8,108⟩] u:=hB
 refine wp_region_lit ?_
 refine list_val (.agg (uc F0)) (by kernel_rfl) (by kernel_rfl) ?_
 simp only [nrm]
 refine list_store 108 (.tmp 0) (.tmp 1) w.heap.size (uc F0) 108 (uc Z8) (by kernel_rfl) rfl (by kernel_rfl) (by kernel_rfl) (hB.get 0 (x:=⟨w.heap.size,uc Z8,108⟩) rfl) (by rw [Tryz.infoS]; rfl) rfl (uc_one _) ?_
 replace hB:=hB.set 0 (x:=⟨w.heap.size,uc Z8,108⟩) rfl (uc F0)
 simp only [List.set_cons_zero,List.set_cons_succ] at hB
 generalize World.setRow _ _ _=v1_ at *
 simp only [nrm]
 refine wpList_nil ?_
 go_wp2_with fail
 exact bodyPost_ret (v:=.agg (uc F0)) (results_cell_row Tryz.results62 _ _ w.heap.size 108 (uc F0) (0,0) _ rfl (hB.get 0 (x:=⟨w.heap.size,uc F0,108⟩) rfl) Tryz.underlying108 rfl (by rw [Tryz.infoS]; rfl)) rfl ⟨rfl,hB.gr⟩
theorem rconstants_ok (w:World):Calls Tryz.prog 60 #[] w (fun r w'=>r=.returned (.agg (uc KL))∧Gr w w'):=by
 go_enter Tryz.func60,Tryz.ntmps60
 go_upto_region 1 with fail
 have hB:=(Bl.nil w).new #[.int .u32 0,.int .u32 0,.int .u32 0,.int .u32 0,.int .u32 0,.int .u32 0,.int .u32 0,.int .u32 0,.int .u32 0,.int .u32 0,.int .u32 0,.int .u32 0,.int .u32 0,.int .u32 0,.int .u32 0,.int .u32 0,.int .u32 0,.int .u32 0,.int .u32 0,.int .u32 0,.int .u32 0,.int .u32 0,.int .u32 0,.int .u32 0,.int .u32 0,.int .u32 0,.int .u32 0,.int .u32 0,.int .u32 0,.int .u32 0,.int .u32 0,.int .u32 0,.int .u32 0,.int .u32 0,.int .u32 0,.int .u32 0,.int .u32 0,.int .u32 0,.int .u32 0,.int .u32 0,.int .u32 0,.int .u32 0,.int .u32 0,.int .u32 0,.int .u32 0,.int .u32 0,.int .u32 0,.int .u32 0,.int .u32 0,.int .u32 0,.int .u32 0,.int .u32 0,.int .u32 0,.int .u32 0,.int .u32 0,.int .u32 0,.int .u32 0,.int .u32 0,.int .u32 0,.int .u32 0,.int .u32 0,.int .u32 0,.int .u32 0,.int .u32 0] 106
 simp only [List.nil_append] at hB
 generalize World.alloc _ _=u at *
 replace hB:Bl w [⟨w.heap.size,uc Z64,106⟩] u:=hB
 refine wp_region_lit ?_
 refine list_val (.agg (uc KL)) (by kernel_rfl) (by kernel_rfl) ?_
 simp only [nrm]
 refine list_store 106 (.tmp 0) (.tmp 1) w.heap.size (uc KL) 106 (uc Z64) (by kernel_rfl) rfl (by kernel_rfl) (by kernel_rfl) (hB.get 0 (x:=⟨w.heap.size,uc Z64,106⟩) rfl) (by rw [Tryz.infoW]; rfl) rfl (uc_one _) ?_
 replace hB:=hB.set 0 (x:=⟨w.heap.size,uc Z64,106⟩) rfl (uc KL)
 simp only [List.set_cons_zero,List.set_cons_succ] at hB
 generalize World.setRow _ _ _=v1_ at *
 simp only [nrm]
 refine wpList_nil ?_
 go_wp2_with fail
 exact bodyPost_ret (v:=.agg (uc KL)) (results_cell_row Tryz.results60 _ _ w.heap.size 106 (uc KL) (0,0) _ rfl (hB.get 0 (x:=⟨w.heap.size,uc KL,106⟩) rfl) Tryz.underlying106 rfl (by rw [Tryz.infoW]; rfl)) rfl ⟨rfl,hB.gr⟩
def Ob (b:Nat) (w:World) (v:Value) (L:List Int):Prop:=w.ownsRow b 5 1 v L.length (L.map (Value.int .u8))
theorem Ob.gr {b:Nat} {w u:World} {v:Value} {L:List Int} (h:Ob b w v L) (k:Gr w u):Ob b u v L:=own_gr h k
theorem Ob.slice {b:Nat} {w:World} {v:Value} {L:List Int} (h:Ob b w v L):∃ a c,v=.slice a L.length c∧L.length≤c∧c≤maxLen∧Sl w a L:=by
 rcases h.2 with ⟨h1,h2⟩ | ⟨g,cap,cur,h1,h2,h3,h4,h5,h6,h7⟩
 ·have:L=[]:=List.eq_nil_of_length_eq_zero h2
  subst this
  exact ⟨none,0,h1,Nat.le_refl _,Nat.zero_le _,.inl rfl⟩
 ·refine ⟨_,cap,h1,h4,h5,.inr ⟨g,0,rfl,fun j hj=>?_⟩⟩
  rw [Nat.zero_add]
  refine cell_of h3 ?_
  rw [← Array.getElem?_toList]
  have e:(L.map (Value.int .u8))[j]?=some (.int .u8 (L.getD j 0)):=by simp [hj]
  rw [← h7,Nat.mul_one,List.getElem?_take,if_pos hj] at e
  exact e
theorem Ob.grown {b:Nat} {w u u':World} {v:Value} {L:List Int} (h:Ob b u v L) (hb:w.heap.size≤b) (k:Gr w u) (g:u.grownBy u' v.ownBlock):Gr w u':=by
 refine ⟨g.os.trans k.os,g.tape.trans k.tape,g.output.trans k.output,Nat.le_trans k.size g.size,fun i hi=>(g.block i (Nat.lt_of_lt_of_le hi k.size) ?_).trans (k.block i hi)⟩
 intro e
 have:=(World.ownsRow.lt h i e.symm).1
 omega
theorem app_bs {w:World} {ops:Array Oper} {rest:List Oper} {o:Oper} {a:Act} {Q:Exit→Act→World→Prop} (hw:Region.wanted o (yielded ops a.tmps)=true) (s x:Operand)
  (ho:o.op=.call { callee:=.builtin .append,args:=#[s,x],argTypes:=#[43,43] }) (b:Nat) (v:Value) (L:List Int) (hs:a.eval s=v) (hown:Ob b w v L)
  (sp:Option Addr) (n sc:Nat) (l:List Int) (hx:a.eval x=.slice sp n sc) (hn:l.length=n) (hsl:Sl w sp l) (hbig:L.length+n≤180000000000000) (hB:b≤w.heap.size)
  (h:∀ v' w',Ob b w' v' (L++l)→w.grownBy w' v.ownBlock→wpList Tryz.prog ops Q rest (a.put o.dst v') w') :
  wpList Tryz.prog ops Q (o::rest) a w:=by
 subst hn
 obtain ⟨i0,hi,hz0,hz1,hz2⟩:=info_parts Tryz.info5
 rw [wpList,if_pos hw]
 refine Or.inl ?_
 rcases hsl with rfl | ⟨p,q,rfl,hat⟩
 ·obtain ⟨a',c',rfl,hc,_,_⟩:=hown.slice
  have hrun:(Builtin.append_ #[43,43] o.type #[.slice a' L.length c',.slice sp 0 sc]).run Tryz.prog w=.ok (.slice a' L.length c') w:=by
   cases a' <;> cases sp <;> simp [Builtin.append_,run_underlying Tryz.underlying43,sizeOf,typeInfo,hi,Builtin.lenOf,Builtin.firstCells,loadCells,loadCellsFrom,storeCells,hc]
  unfold Oper.wp
  simp [execOp,ho,resolve,invoke,builtin,hs,hx,hrun,Result.andThen]
  exact h _ _ (by rw [List.append_nil]; exact hown) (World.grownBy.refl _ _)
 ·refine wp_append_own_wide w s x 43 ho b 5 i0 (.int .u8 0) 1 1 Tryz.underlying43 hi hz0 hz1 hz2 rfl (by decide) v L.length _ hs hown ⟨p,q,none⟩ l.length sc (l.map (Value.int .u8)) hx (by simp) ?_ ?_ (by unfold maxLen; omega) (by omega) hB ?_
  ·intro j u hj
   have hjl:j<l.length:=by have:=(List.getElem?_eq_some_iff.1 hj).1; simpa using this
   rw [Addr.add_mid,hat j hjl]
   simp [hjl] at hj ⊢
   exact hj
  ·intro u hu
   obtain ⟨y,_,rfl⟩:=List.mem_map.1 hu
   rfl
  ·intro v' w' h1 h2 _
   refine h v' w' ?_ h2
   unfold Ob
   rw [List.length_append,List.map_append]
   exact h1
theorem blk_bytes {w:World} {b:Nat} (l:List Int) (hb:b≤w.heap.size) (h1:l.length≤maxLen):Ob b (w.alloc (.cells (kc l) 5 (0,0))) (.slice (some ⟨w.heap.size,0,none⟩) l.length l.length) l :=
 ⟨by simp,.inr ⟨w.heap.size,l.length,kc l,rfl,hb,blk_new _ _,Nat.le_refl _,h1,by rw [kc_size,Nat.mul_one],by unfold kc; rw [Nat.mul_one]; exact List.take_of_length_le (by simp)⟩⟩
def slenV:Value→Nat
 | .slice _ n _=>n
 | _=>0
def RPadded (n:Nat) (w:World) (r:Ending) (w':World):Prop:=∃ v,r=.returned v∧Ob w.heap.size w' v (padL n)∧Gr w w'
set_option maxHeartbeats 2000000 in
theorem rpad_ok (n:Nat) (hn:n<1152921504606846976) (w:World):Calls Tryz.prog 61 #[.int .i64 n] w (RPadded n w):=by
 obtain ⟨T,hT⟩:∃ T,T=RPadded n w:=⟨_,rfl⟩
 rw [← hT]
 replace hT:=hide hT
 obtain ⟨z,hz⟩:∃ z,z=nz n:=⟨_,rfl⟩
 have hz2:z=(119 - n % 64) % 64:=hz
 have e0:¬ (n:Int)<0:=by omega
 replace hz:=hide hz
 go_enter Tryz.func61,Tryz.ntmps61
 go_wp2_with fail
 have hO:=blk_bytes (w:=w) (b:=w.heap.size) [128] (Nat.le_refl _) (by unfold maxLen; simp)
 replace hO:Hid (Ob w.heap.size (w.alloc (.cells #[.int .u8 128] 5 (0,0))) (.slice (some ⟨w.heap.size,0,none⟩) 1 1) (128::List.replicate 0 0)):=hO
 have hG:Hid (Gr w (w.alloc (.cells #[.int .u8 128] 5 (0,0)))):=(Gr.refl w).alloc _
 generalize World.alloc _ _=u at *
 go_loopw [3] (fun p wr=>∃ (k:Nat) (a:Option Addr) (c:Nat),k≤z∧p=.slice a (k+1) c∧Hid (Ob w.heap.size wr (.slice a (k+1) c) (128::List.replicate k 0))∧Hid (Gr w wr)) (fun p _=>65 - slenV p)
 case atStart=>exact ⟨0,_,1,by omega,rfl,hO,hG⟩
 case round =>
 clear hO hG
 obtain ⟨k,a,c,hk,rfl,hO,hG⟩:=hrel
 have e1:IntKind.i64.wrap ((n:Int)+((k:Int)+1))=(n:Int)+((k:Int)+1):=by rw [IntKind.wrap_i64]; omega
 have e2:IntKind.i64.wrap ((n:Int)+((k:Int)+1)+8)=(n:Int)+((k:Int)+1)+8:=by rw [IntKind.wrap_i64]; omega
 have e3:Int.tmod ((n:Int)+((k:Int)+1)+8) 64=((n:Int)+((k:Int)+1)+8) % 64:=by rw [Int.tmod_eq_emod_of_nonneg (by omega)]
 by_cases hil:k<z
 ·have e4:¬ ((n:Int)+((k:Int)+1)+8) % 64=0:=by omega
  replace hz2:=hide hz2
  have hsz:Hid (w.heap.size≤wr.heap.size):=(unhide hG).size
  go_upto_region 5 with fail
  refine wp_region_lit ?_
  iterate 2 (refine wpList_step fun K hK=>?_; replace hK:=hide hK; go_simp; refine unhide hK _ _ ?_; clear hK K)
  have hO2:=(unhide hO).gr ((Gr.refl wr).alloc (.cells #[.int .u8 0] 5))
  refine app_bs (by kernel_rfl) (.tmp 16) (.tmp 17) rfl w.heap.size (.slice a (k+1) c) (128::List.replicate k 0) (by kernel_rfl) hO2 (some ⟨wr.heap.size,0,none⟩) 1 1 [0] (by kernel_rfl) rfl (.inr ⟨_,0,rfl,fun j hj=>by rw [Nat.zero_add]; exact kc_cell (l:=[0]) (blk_new _ _) j hj⟩) (by simp; have:=unhide hz2; omega) (by have:=unhide hsz; simp only [size_alloc]; omega) ?_
  intro v' w2 hO3 hG3
  have hG4:=hO2.grown (Nat.le_refl _) ((unhide hG).alloc _) hG3
  have hl:((128::List.replicate k 0)++[0]:List Int)=128::List.replicate (k+1) 0:=by rw [List.cons_append,← List.replicate_succ']
  rw [hl] at hO3
  obtain ⟨a',c',hv',_,_,_⟩:=hO3.slice
  have hv2:v'=.slice a' (k+1+1) c':=by rw [hv']; simp
  rw [hv2] at hO3
  rw [hv2]
  clear hO hG hO2 hG3 hv' hv2 hl
  replace hO3:=hide hO3
  replace hG4:=hide hG4
  simp only [nrm]
  iterate 1 (refine wpList_step fun K hK=>?_; replace hK:=hide hK; go_simp; refine unhide hK _ _ ?_; clear hK K)
  refine wpList_nil ?_
  go_wp2_with fail
  exact ⟨⟨k+1,a',c',by omega,rfl,hO3,hG4⟩,by show 65 - (k+1+1)<65 - (k+1); have:=unhide hz2; omega⟩
 ·have hkz:k=z:=by omega
  subst hkz
  have e4:((n:Int)+((k:Int)+1)+8) % 64=0:=by omega
  have hO2:Hid (Ob w.heap.size wr (.slice a (k+1+0) c) (padH n++be8 (n * 8) 0)):=by
   have:=unhide hO
   unfold padH be8
   rw [List.append_nil,← unhide hz]
   exact this
  clear hO hil
  replace hz2:=hide hz2
  go_wp2_with fail
  go_loopw [5,3] (fun s p wr=>∃ (r:Nat) (a:Option Addr) (c:Nat),r≤8∧s=.int .i64 (7 - (r:Int))∧p=.slice a (k+1+r) c∧Hid (Ob w.heap.size wr (.slice a (k+1+r) c) (padH n++be8 (n * 8) r))∧Hid (Gr w wr)) (fun s _ _=>(intOf s+1).toNat)
  case atStart=>exact ⟨0,a,c,by omega,rfl,rfl,hO2,hG⟩
  case round =>
  clear hO2 hG
  obtain ⟨r,a,c,hr,rfl,rfl,hO,hG⟩:=hrel
  by_cases hil:r<8
  ·obtain ⟨s,hs⟩:∃ s,s=7 - r:=⟨_,rfl⟩
   have g0:7 - (r:Int)=(s:Int):=by omega
   rw [g0]
   have g1:0≤(s:Int):=by omega
   obtain ⟨sh,hsh⟩:∃ sh,sh=8 * s:=⟨_,rfl⟩
   have g2:8 * (s:Int)=(sh:Int):=by omega
   have g3:0≤(sh:Int):=by omega
   have g6:IntKind.i64.wrap (sh:Int)=(sh:Int):=by rw [IntKind.wrap_i64]; omega
   have g7:(sh:Int)<64:=by omega
   obtain ⟨y,hy⟩:∃ y:Int,y=((n * 8 / 2 ^ (56 - 8 * r) % 256:Nat):Int):=⟨_,rfl⟩
   have g4:IntKind.u8.wrap ((n:Int) * 8 / 2 ^ sh)=y:=by
    rw [IntKind.wrap_u8',hy,hsh,hs]
    have:(2:Int) ^ (8 * (7 - r))=((2 ^ (56 - 8 * r):Nat):Int):=by
     rw [show 8 * (7 - r)=56 - 8 * r by omega]; simp
    rw [this,show (n:Int) * 8=((n * 8:Nat):Int) by omega]
    rfl
   have g5:IntKind.i64.wrap ((s:Int) - 1)=(s:Int) - 1:=by rw [IntKind.wrap_i64]; omega
   have g8:IntKind.u64.wrap ((n:Int) * 8)=(n:Int) * 8:=by rw [IntKind.wrap_u64]; omega
   have hnx:Hid ((padH n++be8 (n * 8) r)++[y]=padH n++be8 (n * 8) (r+1)):=by
    have h1:be8 (n * 8) (r+1)=be8 (n * 8) r++[y]:=by rw [be8,hy]
    rw [h1]
    exact List.append_assoc _ _ _
   have hsz:Hid (w.heap.size≤wr.heap.size):=(unhide hG).size
   have hlen:(padH n++be8 (n * 8) r).length≤100:=by
    have:=padH_len n
    have h2:=be8_len (n * 8) r
    have h3:=unhide hz
    have h4:=unhide hz2
    rw [List.length_append]
    omega
   replace hsh:=hide hsh
   replace hs:=hide hs
   replace hy:=hide hy
   go_upto_region 10 with fail
   refine wp_region_lit ?_
   iterate 7 (refine wpList_step fun K hK=>?_; replace hK:=hide hK; go_simp; refine unhide hK _ _ ?_; clear hK K)
   have hO2:=(unhide hO).gr ((Gr.refl wr).alloc (.cells #[.int .u8 y] 5))
   refine app_bs (by kernel_rfl) (.tmp 26) (.tmp 32) rfl w.heap.size (.slice a (k+1+r) c) _ (by kernel_rfl) hO2 (some ⟨wr.heap.size,0,none⟩) 1 1 [y] (by kernel_rfl) rfl (.inr ⟨_,0,rfl,fun j hj=>by rw [Nat.zero_add]; exact kc_cell (l:=[y]) (blk_new _ _) j hj⟩) (by omega) (by have:=unhide hsz; simp only [size_alloc]; omega) ?_
   intro v' w2 hO3 hG3
   have hG4:=hO2.grown (Nat.le_refl _) ((unhide hG).alloc _) hG3
   rw [unhide hnx] at hO3
   obtain ⟨a',c',hv',_,_,_⟩:=hO3.slice
   have hv2:v'=.slice a' (k+1+(r+1)) c':=by
    rw [hv',List.length_append,padH_len,be8_len,← unhide hz]
   rw [hv2] at hO3
   rw [hv2]
   clear hO hG hO2 hG3 hv' hv2 hnx
   replace hO3:=hide hO3
   replace hG4:=hide hG4
   simp only [nrm]
   iterate 1 (refine wpList_step fun K hK=>?_; replace hK:=hide hK; go_simp; refine unhide hK _ _ ?_; clear hK K)
   refine wpList_nil ?_
   go_wp2_with fail
   have hs1:=unhide hs
   refine ⟨⟨r+1,a',c',by omega,by congr 1; omega,rfl,hO3,hG4⟩,?_⟩
   show ((s:Int) - 1+1).toNat<((s:Int)+1).toNat
   omega
  ·have e:r=8:=by omega
   subst e
   have hP:Hid (RPadded n w (.returned (.slice a (k+1+8) c)) wr):=⟨_,rfl,unhide hO,unhide hG⟩
   clear hil hO hG
   go_wp2_with fail
   rw [unhide hT]
   exact unhide hP
end Go.Proofs.YthahhglbeafkmaaGreatDoor
