/-
  What the proof leans on.
-/
import Derived.Deep.DeepAppendWide
import Derived.Laws.BytesArg
import Derived.Test.YtbkkibhhfmgojaaGreatDoorRows
import Derived.ChangeOld
import Derived.SizedLaws
import Derived.LaidMore
import Derived.Stop.Joined
import Derived.ProofKit
import Derived.OpenShut
import Derived.WalkMore
import Derived.Deep.Cut
import Derived.StillTailTactics
import Derived.OwnWalk
import Derived.Deep.QuietTactic
import Derived.BigQuiet
import Derived.Lib.AppendStr
import Derived.Test.YtbkkibhhfmgojaaGreatDoorBQ1
set_option linter.unusedSimpArgs false
set_option linter.unusedVariables false
set_option maxRecDepth 100000
set_option maxHeartbeats 40000000
namespace Go.Proofs.YtbkkibhhfmgojaaGreatDoor
open Go.RowKit
def Wrote (g:Nat) (B:List Int) (w:World) (r:Ending) (w':World):Prop:=r=.returned (.int .i64 0)∧H g B w'∧Bt g w w'
theorem cnt_cell {w:World} {g:Nat} {s l:List Int} {n:Int} {t:TypeId} (h:w.heap[g]?=some (.cells (hc s l n) t (0,0))) (hs:s.length=8) (hl:l.length=64):w.cell? ⟨g,72,none⟩=some (.int .i64 n):=by
 refine aw h ?_;unfold hc hcl;simp[List.getElem?_append,hs,hl]
theorem cnt_set {w:World} {g:Nat} {s l:List Int} {n m:Int} {t:TypeId} (h:w.heap[g]?=some (.cells (hc s l n) t (0,0))) (hs:s.length=8) (hl:l.length=64):(w.setCell ⟨g,72,none⟩ (.int .i64 m)).heap[g]?=some (.cells (hc s l m) t (0,0)):=by
 rw[heap_setCell_same w g 72 _ t _ h];unfold hc;rw[List.setIfInBounds_toArray,hcl_count s l n m hs hl]
theorem isB_left {l B:List Int} (hl:IsB l) (hB:IsB B) (k:Nat):IsB (l.take k++(B++l.drop (k+B.length))):=bi (db hl _) (bi hB (dw hl _))
theorem cS (B l:List Int):(B++l).take B.length=B:=by simp
theorem write_whole (g:Nat) (B C:List Int) (hC:IsB C) (h64:B.length % 64=0) (hbig:B.length+C.length<1152921504606846976) (a:Option Addr) (cap:Nat) (hcap:C.length≤cap) (hcb:cap<9223372036854775808) (w:World)
  (hB:H g B w) (hX:SlX g w a C):Calls Tryz.prog 121 #[.pointer (some ⟨g,0,none⟩),.slice a C.length cap] w (Wrote g (B++C) w):=by
 obtain⟨T,hT⟩:∃ T,T=Wrote g (B++C) w:=⟨_,rfl⟩;rw[← hT];obtain⟨l,hl,hlB,hH,hlt⟩:=hB;obtain⟨S,hS⟩:∃ S,S=hbk (B.length / 64) F0 B:=⟨_,rfl⟩;have hSl:S.length=8:=by rw[hS]; exact cE _ _ rfl _
 rw[← hS] at hH;have cc:=cnt_cell hH hSl hl;have cf:=aO (i:=72) hH;have hH2:=cnt_set (m:=(B.length:Int)+C.length) hH hSl hl;have hBt:=(Bt.trans (Bt.refl g w) (aM [.int .i64 ((B.length:Int)+C.length)] w g 72));replace hX:=hX.bt hBt;replace hBt:Hid (Bt g w (w.setCell ⟨g,72,none⟩ (.int .i64 ((B.length:Int)+C.length)))):=hBt;replace hX:Hid (SlX g (w.setCell ⟨g,72,none⟩ (.int .i64 ((B.length:Int)+C.length))) a C):=hX;have e1:Int.tmod (B.length:Int) 64=0:=by rw[Int.tmod_eq_emod_of_nonneg (by omega)]; omega
 have e2:IntKind.i64.wrap ((B.length:Int)+C.length)=(B.length:Int)+C.length:=by rw[IntKind.wrap_i64]; omega
 have hbD:=hC;have hcD1:=hcap;have hcD2:=hcb;replace hH2:=ao hH2;replace hT:=ao hT;replace hS:=ao hS;replace hlt:=ao hlt;clear hH;generalize hm:C.length=m at *;generalize hn:B.length=n at *;go_enter Tryz.func121,Tryz.ntmps121;go_upto_region 11 with fail;replace hBt:=aj hBt;replace hX:=aj hX;have hH:=aj hH2;clear hH2;generalize World.setCell _ _ _=x3 at *;subst hm hn;refine aE (S:=fun _=>True) aa ?_;replace hBt:=hBt.trans ((Gr.refl _).drew.bt g);replace hH:=(Gr.refl _).drew.blk hH;replace hX:=hX.gr (Gr.refl _).drew;generalize World.drew _=x0 at *;simp only[ae,Array.replicate,List.replicate];refine ar (i:=0) (v:=(.pointer (some ⟨g,0,none⟩))) #[false,false,false,false,false,false,false,false] rfl aa aa aa aa (fun _ _ _ h=>h) (.inl ⟨by kernel_rfl,fun x_ hu=>by kernel_rfl⟩) trivial ?_;simp only[aq]
 refine ar (i:=1) (v:=(.pointer (some ⟨g,0,none⟩))) #[true,false,false,false,false,false,false,false] rfl aa aa aa aa (fun _ _ _ h=>h) (.inl ⟨by kernel_rfl,fun x_ hu=>by kernel_rfl⟩) trivial ?_;simp only[aq];refine ar (i:=2) (v:=(.pointer (some ⟨g,8,none⟩))) #[true,true,false,false,false,false,false,false] rfl aa aa aa aa (fun _ _ _ h=>h) (.inl ⟨by kernel_rfl,fun x_ hu=>by kernel_rfl⟩) trivial ?_;simp only[aq];refine ar (i:=3) (v:=(.slice (some ⟨g,8,none⟩) 64 64)) #[true,true,true,false,false,false,false,false] rfl aa aa aa aa (fun _ _ _ h=>h) (.inl ⟨by kernel_rfl,fun x_ hu=>by go_simp⟩) trivial ?_;simp only[aq];refine ar (i:=4) (v:=(.pointer (some ⟨g,0,none⟩))) #[true,true,true,true,false,false,false,false] rfl aa aa aa aa (fun _ _ _ h=>h) (.inl ⟨by kernel_rfl,fun x_ hu=>by kernel_rfl⟩) trivial ?_;simp only[aq]
 refine ar (i:=5) (v:=(.slice a C.length cap)) #[true,true,true,true,true,false,false,false] rfl aa aa aa aa (fun _ _ _ h=>h) (.inl ⟨by kernel_rfl,fun x_ hu=>by kernel_rfl⟩) trivial ?_;simp only[aq];refine ay (i:=6) aa rfl (fun K hK=>?_);refine az aa 144 #[.pointer (some ⟨g,0,none⟩),.slice a C.length cap] aa ((take_ok S l ((B.length:Int)+C.length) hSl g C hbD a cap hcD1 hcD2 _ hH hX.out).mono ?_);rintro r x1 ⟨a2,c2,rfl,hc3,hc4,hsl,hH2,hBt2⟩;refine⟨_,rfl,?_⟩;replace hBt:=hBt.trans hBt2;refine hK.out _ _ trivial (fun _=>?_);clear hK K hBt2 hH hX;simp only[aq];refine ay (i:=7) aa rfl (fun K hK=>?_);rw[if_pos aa];have hdl:(C.drop (64 * (C.length / 64))).length=C.length % 64:=by rw[List.length_drop]; omega
 refine bu (.tmp 48) (.tmp 51) rfl g 8 64 64 a2 (C.length % 64) c2 aa aa (hcl (hbk (C.length / 64) S C) l ((B.length:Int)+C.length)) 211 hH2 (C.drop (64 * (C.length / 64))) (by rw[hdl]; exact(Nat.min_eq_left (by omega)).symm) (by rcases hsl with h | ⟨p,o,h1,h2,_⟩; exact .inl h; exact .inr ⟨p,o,h1,h2⟩) (by rw[hcl_len _ _ _ (cE _ _ hSl _) hl,hdl]; omega) ?_;have hH3:=aZ ((C.drop (64 * (C.length / 64))).map (Value.int .u8)) x1 g 8 _ _ hH2;have hcp:=hcl_copy (hbk (C.length / 64) S C) l (C.drop (64 * (C.length / 64))) ((B.length:Int)+C.length) 0 (cE _ _ hSl _) (by rw[hdl,hl]; omega);rw[Nat.add_zero] at hcp;rw[hcp] at hH3;simp only[List.take_zero,List.nil_append,Nat.zero_add] at hH3;replace hBt:=hBt.trans (aM ((C.drop (64 * (C.length / 64))).map (Value.int .u8)) x1 g 8);refine hK.out _ _ trivial (fun _=>?_);refine aF aa ?_;clear hK K hH2 hsl hcp;simp only[aq]
 generalize World.setCells _ _ _ _=x2 at *;have hW:Hid (Wrote g (B++C) w (.returned (.int .i64 0)) x2):=by
  refine⟨rfl,H.whole h64 ?_ ?_ (l:=C.drop (64 * (C.length / 64))++l.drop (C.drop (64 * (C.length / 64))).length) (by rw[← aj hS]; exact hH3) (by rw[← hdl]; exact cS _ _),hBt⟩
  ·rw[List.length_append,List.length_drop (l:=l),hdl,hl];omega
  ·have:=isB_left hlB (dw hC (64 * (C.length / 64))) 0;simpa using this
 clear hH3 hBt;go_wp2_with fail;rw[aj hT];exact aj hW
theorem left_at {w:World} {g:Nat} {s l:List Int} {n:Int} {t:TypeId} (h:w.heap[g]?=some (.cells (hc s l n) t (0,0))) (hs:s.length=8):At w g 8 l:=by
 intro j hj;refine aw h ?_;unfold hc hcl;simp[List.getElem?_append,hs,hj]
theorem H.part {g:Nat} {B C l:List Int} {v:World} (hk:B.length % 64+C.length<64) (hl:l.length=64) (hlB:IsB l) (hC:IsB C) (hlt:l.take (B.length % 64)=B.drop (64 * (B.length / 64)))
  (h:v.heap[g]?=some (.cells (hc (hbk (B.length / 64) F0 B) (l.take (B.length % 64)++(C++l.drop (B.length % 64+C.length))) ((B.length:Int)+C.length)) 211 (0,0))):H g (B++C) v:=by
 have e1:(B++C).length / 64=B.length / 64:=by rw[List.length_append]; omega
 have e2:(B++C).length % 64=B.length % 64+C.length:=by rw[List.length_append]; omega
 have e3:((B++C).length:Int)=(B.length:Int)+C.length:=by rw[List.length_append]; omega
 refine⟨_,?_,isB_left hlB hC (B.length % 64),?_,?_⟩
 ·simp only[List.length_append,List.length_take,List.length_drop,hl];omega
 ·rw[e1,e3,bk_left F0 C (B.length / 64) (by omega)];exact h
 ·have e4:(l.take (B.length % 64)++C).length=B.length % 64+C.length:=by simp only[List.length_append,List.length_take,hl]; omega
  rw[e2,e1,← e4,← List.append_assoc,cS,hlt,List.drop_append_of_le_length (by omega)]
theorem bk_fill {B C l:List Int} (hk:0<B.length % 64) (hC:C.length=64 - B.length % 64) (hlt:l.take (B.length % 64)=B.drop (64 * (B.length / 64))):hbk 1 (hbk (B.length / 64) F0 B) (l.take (B.length % 64)++C)=hbk ((B++C).length / 64) F0 (B++C):=by
 have e1:(B++C).length / 64=B.length / 64+1:=by rw[List.length_append]; omega
 rw[e1,hbk,hbk,hbk,bk_left F0 C (B.length / 64) (by omega),hlt,Nat.mul_zero,List.drop_zero,List.drop_append_of_le_length (by omega)]
theorem take_n (s l:List Int) (n:Int) (hs:s.length=8) (g:Nat) (B:List Int) (hb:IsB B) (N:Nat) (hN:B.length=N) (a:Option Addr) (cap:Nat) (hcap:N≤cap) (hbig:cap<9223372036854775808) (w:World)
  (hg:w.heap[g]?=some (.cells (hc s l n) 211 (0,0))) (hA:SlO g w a B):Calls Tryz.prog 144 #[.pointer (some ⟨g,0,none⟩),.slice a N cap] w (Took g s l n B w):=by
 subst hN;exact take_ok s l n hs g B hb a cap hcap hbig w hg hA
theorem write_some (g:Nat) (B C:List Int) (hC:IsB C) (h64:0<B.length % 64) (hbig:B.length+C.length<1152921504606846976) (a:Option Addr) (cap:Nat) (hcap:C.length≤cap) (hcb:cap<9223372036854775808) (w:World)
  (hB:H g B w) (hX:SlX g w a C):Calls Tryz.prog 121 #[.pointer (some ⟨g,0,none⟩),.slice a C.length cap] w (Wrote g (B++C) w):=by
 obtain⟨T,hT⟩:∃ T,T=Wrote g (B++C) w:=⟨_,rfl⟩;rw[← hT];obtain⟨l,hl,hlB,hH,hlt⟩:=hB;obtain⟨S,hS⟩:∃ S,S=hbk (B.length / 64) F0 B:=⟨_,rfl⟩;have hSl:S.length=8:=by rw[hS]; exact cE _ _ rfl _
 rw[← hS] at hH;have cc:=cnt_cell hH hSl hl;have cf:=aO (i:=72) hH;have hH2:=cnt_set (m:=(B.length:Int)+C.length) hH hSl hl;have hBt:=(Bt.trans (Bt.refl g w) (aM [.int .i64 ((B.length:Int)+C.length)] w g 72));replace hX:=hX.bt hBt;replace hBt:Hid (Bt g w (w.setCell ⟨g,72,none⟩ (.int .i64 ((B.length:Int)+C.length)))):=hBt;replace hX:Hid (SlX g (w.setCell ⟨g,72,none⟩ (.int .i64 ((B.length:Int)+C.length))) a C):=hX;obtain⟨k,hk⟩:∃ k,k=B.length % 64:=⟨_,rfl⟩;rw[← hk] at h64 hlt;have e1:Int.tmod (B.length:Int) 64=(k:Int):=by rw[Int.tmod_eq_emod_of_nonneg (by omega)]; omega
 have e2:IntKind.i64.wrap ((B.length:Int)+C.length)=(B.length:Int)+C.length:=by rw[IntKind.wrap_i64]; omega
 have e3:IntKind.i64.wrap (k:Int)=(k:Int):=by rw[IntKind.wrap_i64]; omega
 have k0:0<(k:Int):=by omega
 have k1:(k:Int)≤64:=by omega
 have k2:(k:Int)<64:=by omega
 have k3:¬ 64=k:=by omega
 have k4:k<64:=by omega
 replace hH2:=ao hH2;replace hT:=ao hT;replace hS:=ao hS;replace hlt:=ao hlt;replace hk:=ao hk;clear hH;generalize hm:C.length=m at *;generalize hn:B.length=n at *;go_enter Tryz.func121,Tryz.ntmps121;go_upto_region 6 with fail;replace hBt:=aj hBt;replace hX:=aj hX;have hH:=aj hH2;clear hH2;generalize World.setCell _ _ _=x3 at *;refine ag ?_;iterate 6 (refine af fun K hK=>?_;go_simp;refine aj hK _ _ ?_;clear hK K)
 obtain⟨m2,hm2⟩:∃ m2,m2=min m (64 - k):=⟨_,rfl⟩;obtain⟨E,hE⟩:∃ E,E=C.take m2:=⟨_,rfl⟩;have hEl:E.length=m2:=by rw[hE,List.length_take]; omega
 have hEB:IsB E:=by rw[hE]; exact db hC _
 have hsrc:E=[]∨∃ p q,a=some ⟨p,q,none⟩∧At x3 p q E:=by
  rcases hX with h | ⟨p,q,h1,h2,_⟩
  ·left; rw[hE,h]; simp
  ·right; exact⟨p,q,h1,by rw[hE]; exact h2.take m2⟩
 refine wpList_plain rfl fun K hK=>?_;refine bu (.tmp 29) (.tmp 30) rfl g (8+k) (64 - k) (64 - k) a m cap aa aa (hcl S l ((n:Int)+m)) 211 hH E (by rw[hEl]; exact hm2) hsrc (by rw[hcl_len _ _ _ hSl hl,hEl]; omega) ?_;have hH3:=aZ (E.map (Value.int .u8)) x3 g (8+k) _ _ hH;rw[hcl_copy S l E _ k hSl (by rw[hEl,hl]; omega)] at hH3;have hbt2:=aM (E.map (Value.int .u8)) x3 g (8+k);replace hBt:=hBt.trans hbt2;replace hX:=hX.bt hbt2;refine hK _ _ ?_;clear hK K hH hsrc hbt2;simp only[aq];generalize World.setCells _ _ _ _=x4 at *;rw[hEl];replace hm2:=ao hm2;iterate 1 (refine af fun K hK=>?_;go_simp;refine aj hK _ _ ?_;clear hK K)
 refine ai ?_;obtain⟨l2,hl2⟩:∃ l2,l2=l.take k++(E++l.drop (k+E.length)):=⟨_,rfl⟩;have hH:x4.heap[g]?=some (.cells (hc S l2 ((n:Int)+m)) 211 (0,0)):=by rw[hl2]; exact hH3
 clear hH3;by_cases hpart:k+m<64
 ·have hmm:m2=m:=by have:=aj hm2; omega
  have hEC:E=C:=by rw[hE,hmm,← hm,List.take_length]
  have q1:(k:Int)+(m2:Int)<64:=by omega
  have q2:IntKind.i64.wrap ((k:Int)+(m2:Int))=(k:Int)+(m2:Int):=by rw[IntKind.wrap_i64]; omega
  replace hmm:=ao hmm;have hW:Hid (Wrote g (B++C) w (.returned (.int .i64 0)) x4):=by
   refine⟨rfl,H.part (l:=l) ?_ hl hlB hC ?_ ?_,hBt⟩
   ·rw[hn,hm]; have:=aj hk; omega
   ·rw[hn,← aj hk]; exact aj hlt
   ·rw[hn,hm,← aj hk,← aj hS];rw[hl2,hEC,hm] at hH;exact hH
  clear hH hBt hX;replace hl2:=ao hl2;go_wp2_with fail;rw[aj hT];exact aj hW
 ·have hmm:m2=64 - k:=by have:=aj hm2; omega
  have hl2a:l2=l.take k++E:=by
   rw[hl2,hEl,List.drop_eq_nil_of_le (by omega),List.append_nil]
  have hl2l:l2.length=64:=by rw[hl2a,List.length_append,List.length_take,hEl]; omega
  have hl2B:IsB l2:=by rw[hl2a]; exact bi (db hlB _) hEB
  obtain⟨D,hD⟩:∃ D,D=C.drop m2:=⟨_,rfl⟩;have hDl:D.length=m - m2:=by rw[hD,List.length_drop,hm]
  have hbD:IsB D:=by rw[hD]; exact dw hC _
  have q1:¬ (k:Int)+(m2:Int)<64:=by omega
  have q2:IntKind.i64.wrap ((k:Int)+(m2:Int))=(k:Int)+(m2:Int):=by rw[IntKind.wrap_i64]; omega
  have q4:0≤(m2:Int):=by omega
  have q5:(m2:Int)≤(m:Int):=by omega
  obtain⟨S2,hS2⟩:∃ S2,S2=hbk 1 S l2:=⟨_,rfl⟩;have hS2l:S2.length=8:=by rw[hS2]; exact cE _ _ hSl _
  replace hS2:=ao hS2;replace hmm:=ao hmm;replace hDl:=ao hDl;replace hEl:=ao hEl;replace hl2:=ao hl2;replace hl2a:=ao hl2a;replace hBt:=ao hBt;replace hX:=ao hX;replace hH:=ao hH;replace hE:=ao hE;replace hD:=ao hD;go_upto_region 9 with fail;refine ag ?_;iterate 5 (refine af fun K hK=>?_;go_simp;refine aj hK _ _ ?_;clear hK K)
  refine av 144 #[.pointer (some ⟨g,0,none⟩),.slice (some ⟨g,8,none⟩) 64 64] aa aa ((take_n S l2 ((n:Int)+m) hSl g l2 hl2B 64 hl2l (some ⟨g,8,none⟩) 64 (by omega) (by omega) _ (aj hH) (.inr ⟨g,8,rfl,left_at (aj hH) hSl,.inr (Nat.le_refl _)⟩)).mono ?_);rintro r x5 ⟨a5,c5,rfl,_,_,_,hH5,hBt5⟩;refine⟨_,rfl,?_⟩;simp only[aq];refine ai ?_;replace hBt:=(aj hBt).trans hBt5;replace hX:=(aj hX).bt hBt5;have hH6:x5.heap[g]?=some (.cells (hc S2 l2 ((n:Int)+m)) 211 (0,0)):=by
   rw[aj hS2];have e:l2.length / 64=1:=by rw[hl2l]
   rw[e] at hH5;exact hH5
  clear hBt5 hH5 hH;have hXD:SlX g x5 (if cap=m2 then a else Option.map (fun x=>x.add m2) a) D:=by
   rw[aj hD];rcases hX with h | ⟨p,q,h1,h2,h3⟩
   ·left;rw[h];simp
   ·split
    ·left;exact List.drop_eq_nil_of_le (by omega)
    ·right;exact⟨p,q+m2,by rw[h1]; simp[Addr.add_mid],h2.drop m2,h3⟩
  replace hBt:=ao hBt;clear hX;replace hXD:=ao hXD;replace hH6:=ao hH6;go_upto_region 11 with fail;replace hBt:=aj hBt;have hX:=aj hXD;have hH:=aj hH6;clear hXD hH6;have hcD1:m - m2≤cap - m2:=by omega
  have hcD2:cap - m2<9223372036854775808:=by omega
  generalize cap - m2=c2 at *;generalize (if cap=m2 then a else Option.map (fun x=>x.add m2) a)=a2 at *;replace hDl:=aj hDl;replace hl0:=hl;clear hl;have hl:=hl2l;refine aE (S:=fun _=>True) aa ?_;replace hBt:=hBt.trans ((Gr.refl _).drew.bt g);replace hH:=(Gr.refl _).drew.blk hH;replace hX:=hX.gr (Gr.refl _).drew;generalize World.drew _=x0 at *;simp only[ae,Array.replicate,List.replicate];refine ar (i:=0) (v:=(.pointer (some ⟨g,0,none⟩))) #[false,false,false,false,false,false,false,false] rfl aa aa aa aa (fun _ _ _ h=>h) (.inl ⟨by kernel_rfl,fun x_ hu=>by kernel_rfl⟩) trivial ?_;simp only[aq];refine ar (i:=1) (v:=(.pointer (some ⟨g,0,none⟩))) #[true,false,false,false,false,false,false,false] rfl aa aa aa aa (fun _ _ _ h=>h) (.inl ⟨by kernel_rfl,fun x_ hu=>by kernel_rfl⟩) trivial ?_;simp only[aq]
  refine ar (i:=2) (v:=(.pointer (some ⟨g,8,none⟩))) #[true,true,false,false,false,false,false,false] rfl aa aa aa aa (fun _ _ _ h=>h) (.inl ⟨by kernel_rfl,fun x_ hu=>by kernel_rfl⟩) trivial ?_;simp only[aq];refine ar (i:=3) (v:=(.slice (some ⟨g,8,none⟩) 64 64)) #[true,true,true,false,false,false,false,false] rfl aa aa aa aa (fun _ _ _ h=>h) (.inl ⟨by kernel_rfl,fun x_ hu=>by go_simp⟩) trivial ?_;simp only[aq];refine ar (i:=4) (v:=(.pointer (some ⟨g,0,none⟩))) #[true,true,true,true,false,false,false,false] rfl aa aa aa aa (fun _ _ _ h=>h) (.inl ⟨by kernel_rfl,fun x_ hu=>by kernel_rfl⟩) trivial ?_;simp only[aq];refine ar (i:=5) (v:=(.slice a2 (m - m2) c2)) #[true,true,true,true,true,false,false,false] rfl aa aa aa aa (fun _ _ _ h=>h) (.inl ⟨by kernel_rfl,fun x_ hu=>by kernel_rfl⟩) trivial ?_;simp only[aq];refine ay (i:=6) aa rfl (fun K hK=>?_)
  refine az aa 144 #[.pointer (some ⟨g,0,none⟩),.slice a2 (m - m2) c2] aa ((take_n S2 l2 ((n:Int)+m) hS2l g D hbD (m - m2) hDl a2 c2 hcD1 hcD2 _ hH hX.out).mono ?_);rintro r x1 ⟨a9,c9,rfl,hc3,hc4,hsl,hH2,hBt2⟩;refine⟨_,rfl,?_⟩;replace hBt:=hBt.trans hBt2;refine hK.out _ _ trivial (fun _=>?_);clear hK K hBt2 hH hX;simp only[aq];refine ay (i:=7) aa rfl (fun K hK=>?_);rw[if_pos aa];have hdl:(D.drop (64 * (D.length / 64))).length=D.length % 64:=by rw[List.length_drop]; omega
  refine bu (.tmp 48) (.tmp 51) rfl g 8 64 64 a9 (D.length % 64) c9 aa aa (hcl (hbk (D.length / 64) S2 D) l2 ((n:Int)+m)) 211 hH2 (D.drop (64 * (D.length / 64))) (by rw[hdl]; exact(Nat.min_eq_left (by omega)).symm) (by rcases hsl with h | ⟨p,o,h1,h2,_⟩; exact .inl h; exact .inr ⟨p,o,h1,h2⟩) (by rw[hcl_len _ _ _ (cE _ _ hS2l _) hl,hdl]; omega) ?_;have hH3:=aZ ((D.drop (64 * (D.length / 64))).map (Value.int .u8)) x1 g 8 _ _ hH2;have hcp:=hcl_copy (hbk (D.length / 64) S2 D) l2 (D.drop (64 * (D.length / 64))) ((n:Int)+m) 0 (cE _ _ hS2l _) (by rw[hdl,hl]; omega);rw[Nat.add_zero] at hcp;rw[hcp] at hH3;simp only[List.take_zero,List.nil_append,Nat.zero_add] at hH3;replace hBt:=hBt.trans (aM ((D.drop (64 * (D.length / 64))).map (Value.int .u8)) x1 g 8);refine hK.out _ _ trivial (fun _=>?_);refine aF aa ?_;clear hK K hH2 hsl hcp;simp only[aq];generalize World.setCells _ _ _ _=x2 at *
  have hB1:(B++E).length % 64=0:=by
   rw[List.length_append,aj hEl,hn];have h1:=aj hk;have h2:=aj hmm;omega
  have hBE:B++C=(B++E)++D:=by rw[aj hE,aj hD,List.append_assoc,List.take_append_drop]
  have hW:Hid (Wrote g (B++C) w (.returned (.int .i64 0)) x2):=by
   rw[hBE];refine⟨rfl,H.whole hB1 ?_ ?_ (l:=D.drop (64 * (D.length / 64))++l2.drop (D.drop (64 * (D.length / 64))).length) ?_ (by rw[← hdl]; exact cS _ _),hBt⟩
   ·rw[List.length_append,List.length_drop (l:=l2),hdl,hl];omega
   ·have:=isB_left hl2B (dw hbD (64 * (D.length / 64))) 0;simpa using this
   ·have e4:hbk 1 (hbk (B.length / 64) F0 B) (l.take (B.length % 64)++E)=hbk ((B++E).length / 64) F0 (B++E):=by
     refine bk_fill ?_ ?_ ?_
     ·rw[hn,← aj hk]; exact h64
     ·rw[aj hEl,hn,← aj hk]; exact aj hmm
     ·rw[hn,← aj hk]; exact aj hlt
    rw[← e4,hn,← aj hk,← aj hS,← aj hl2a,← aj hS2,List.length_append,aj hEl,hDl,hn];have e5:(((n+m2:Nat):Int)+((m - m2:Nat):Int))=(n:Int)+m:=by omega
    rw[e5];rw[hDl] at hH3;exact hH3
  clear hH3 hBt;go_wp2_with fail;rw[aj hT];exact aj hW
theorem write_ok (g:Nat) (B C:List Int) (hC:IsB C) (hbig:B.length+C.length<1152921504606846976) (a:Option Addr) (n cap:Nat) (hn:C.length=n) (hcap:n≤cap) (hcb:cap<9223372036854775808) (w:World)
  (hB:H g B w) (hX:SlX g w a C):Calls Tryz.prog 121 #[.pointer (some ⟨g,0,none⟩),.slice a n cap] w (Wrote g (B++C) w):=by
 subst hn;rcases Nat.eq_zero_or_pos (B.length % 64) with h | h
 ·exact write_whole g B C hC h hbig a cap hcap hcb w hB hX
 ·exact write_some g B C hC h hbig a cap hcap hcb w hB hX
def Zl64:List Int:=List.replicate 64 0
theorem aH {P:Program} {ops:Array Oper} {Q:Exit→Act→World→Prop} {a:Act} {w:World} {o:Oper} {rest:List Oper} (v:Value) (w':World) (hw:Region.wanted o (yielded ops a.tmps)=true) (hx:(execOp a.eval o).run P w=.ok (.value v) w') (h:wpList P ops Q rest (a.put o.dst v) w'):wpList P ops Q (o::rest) a w:=by
 refine wpList_step fun K hK=>?_;rw[if_pos hw];unfold Oper.wp;rw[hx];exact hK _ _ h
def ZH:Array Value:=hc Z8 Zl64 0
def sumL (B:List Int):List Int:=keyL (hbk ((B++padL B.length).length / 64) F0 (B++padL B.length))
theorem sumL_len (B:List Int):(sumL B).length=32:=keyL_len _
def Fst (w:World):Prop:=w.rangeAt 1 0 (F0.map (Value.int .u32))
theorem Fst.gr {w v:World} (h:Fst w) (k:Gr w v):Fst v:=fun j x hj=>k.cell (h j x hj)
def News (w:World) (r:Ending) (w':World):Prop:=∃ g,r=.returned (.pointer (some ⟨g,0,none⟩))∧w.heap.size≤g∧H g [] w'∧Gr w w'
theorem Tryz.infoH:(Tryz.prog.info? 211).map (·.size)=some 73:=by kernel_rfl
theorem new_ok (w:World) (hF:Fst w):Calls Tryz.prog 119 #[] w (News w):=by
 obtain⟨T,hT⟩:∃ T,T=News w:=⟨_,rfl⟩;rw[← hT];replace hT:=ao hT;go_enter Tryz.func119,Tryz.ntmps119;go_upto_region 1 with fail;refine ag ?_;refine ak (.agg (uc F0)) aa (bz _ 209 (.global 1) rfl 1 0 aa (F0.map (Value.int .u32)) _ hF Tryz.underlying209 rfl (by rw[Tryz.infoS]; rfl)) ?_;simp only[aq];refine ak (.agg (hc F0 Zl64 0)) aa aa ?_;simp only[aq];iterate 2 (refine af fun K hK=>?_;go_simp;refine aj hK _ _ ?_;clear hK K)
 refine ai ?_;have hP:Hid (News w (.returned (.pointer (some ⟨w.heap.size,0,none⟩))) (w.alloc (.cells (hc F0 Zl64 0) 211 (0,0)))) :=
  ⟨w.heap.size,rfl,Nat.le_refl _,⟨Zl64,rfl,(by intro x hx; have:=List.eq_of_mem_replicate hx; omega),aS _ _,rfl⟩,(Gr.refl w).alloc _⟩
 go_wp2_with fail;rw[aj hT];exact aj hP
def Summed (B:List Int) (w:World) (r:Ending) (w':World):Prop:=r=.returned (.agg (kc (sumL B)))∧Gr w w'
theorem hsum_ok (g:Nat) (B:List Int) (hbig:B.length<1152921504606846000) (w:World) (hB:H g B w):Calls Tryz.prog 122 #[.pointer (some ⟨g,0,none⟩)] w (Summed B w):=by
 obtain⟨T,hT⟩:∃ T,T=Summed B w:=⟨_,rfl⟩;rw[← hT];replace hT:=ao hT;replace hB:=ao hB;go_enter Tryz.func122,Tryz.ntmps122;go_upto_region 3 with fail;have hL:=(Bl.nil w).new #[.int .u8 0,.int .u8 0,.int .u8 0,.int .u8 0,.int .u8 0,.int .u8 0,.int .u8 0,.int .u8 0,.int .u8 0,.int .u8 0,.int .u8 0,.int .u8 0,.int .u8 0,.int .u8 0,.int .u8 0,.int .u8 0,.int .u8 0,.int .u8 0,.int .u8 0,.int .u8 0,.int .u8 0,.int .u8 0,.int .u8 0,.int .u8 0,.int .u8 0,.int .u8 0,.int .u8 0,.int .u8 0,.int .u8 0,.int .u8 0,.int .u8 0,.int .u8 0] 23
 replace hB:=(aj hB).gr ((Gr.refl w).alloc (.cells #[.int .u8 0,.int .u8 0,.int .u8 0,.int .u8 0,.int .u8 0,.int .u8 0,.int .u8 0,.int .u8 0,.int .u8 0,.int .u8 0,.int .u8 0,.int .u8 0,.int .u8 0,.int .u8 0,.int .u8 0,.int .u8 0,.int .u8 0,.int .u8 0,.int .u8 0,.int .u8 0,.int .u8 0,.int .u8 0,.int .u8 0,.int .u8 0,.int .u8 0,.int .u8 0,.int .u8 0,.int .u8 0,.int .u8 0,.int .u8 0,.int .u8 0,.int .u8 0] 23));simp only[List.nil_append] at hL;generalize World.alloc _ _=u1 at *;replace hL:Bl w [⟨w.heap.size,kc Z32,23⟩] u1:=hL;obtain⟨l,hl,hlB,hH,hlt⟩:=hB;have hSl:(hbk (B.length / 64) F0 B).length=8:=cE _ _ rfl _;obtain⟨c,hc0⟩:∃ c,c=hc (hbk (B.length / 64) F0 B) l B.length:=⟨_,rfl⟩;have hcs:c.size=73:=by rw[hc0]; unfold hc; rw[List.size_toArray,hcl_len _ _ _ hSl hl]
 have hc1:c.all (·.oneCell')=true:=by rw[hc0]; unfold hc hcl; simp[Value.oneCell']
 have hB:Hid (∀ v,v.heap[u1.heap.size]?=some (.cells c 211 (0,0))→H u1.heap.size B v):=fun v hv=>⟨l,hl,hlB,by rw[← hc0]; exact hv,hlt⟩;rw[← hc0] at hH;clear hlt;refine ag ?_;iterate 2 (refine af fun K hK=>?_;go_simp;refine aj hK _ _ ?_;clear hK K)
 refine ak (.agg c) aa (ax _ 211 (.tmp 8) rfl g aa c 211 _ hH Tryz.underlying211 rfl (by rw[Tryz.infoH,hcs])) ?_;simp only[aq];refine aH (.pointer (some ⟨u1.heap.size,0,none⟩)) (u1.alloc (.cells ZH 211 (0,0))) aa aa ?_;simp only[aq];replace hL:=hL.new ZH 211;have hne:u1.heap.size≠g:=by have:=lt_of_block hH; omega
 replace hH:=((Gr.refl u1).alloc (.cells ZH 211)).blk hH;simp only[List.cons_append,List.nil_append] at hL;generalize u1.heap.size=ge at *;generalize World.alloc _ _=u2 at *;refine aA 211 (.tmp 3) (.tmp 9) ge c 211 ZH aa rfl aa aa (hL.get 1 (x:=⟨ge,ZH,211⟩) rfl) (by rw[Tryz.infoH,hcs]) (by rw[hcs]; rfl) hc1 ?_;replace hL:=hL.set 1 (x:=⟨ge,ZH,211⟩) rfl c;simp only[ab] at hL;replace hH:=(setRow_other u2 ge g c (fun e=>hne e.symm)).trans hH;generalize World.setRow _ _ _=u3 at *;simp only[aq];refine ai ?_;have hE:=(aj hB) u3 (hL.get 1 (x:=⟨ge,c,211⟩) rfl);clear hB;have hcc:u3.cell? ⟨g,72,none⟩=some (.int .i64 B.length):=cnt_cell (by rw[← hc0]; exact hH) hSl hl;clear hH hc0;replace hL:=ao hL;replace hE:=ao hE;go_upto_region 4 with fail;refine ag ?_;iterate 4 (refine af fun K hK=>?_;go_simp;refine aj hK _ _ ?_;clear hK K)
 refine av 145 #[.int .i64 B.length] aa aa ((pad_ok B.length (by omega) _).mono ?_);rintro r u4 ⟨gp,rfl,hgp,hP,hg⟩;refine⟨_,rfl,?_⟩;simp only[aq];have hgp2:gp≠ge:=by have:=lt_of_block ((aj hL).get 1 (x:=⟨ge,c,211⟩) rfl); have h2:u3.heap.size≤gp:=hgp; dsimp only at this; omega
 replace hL:=(aj hL).more hg;replace hE:=(aj hE).gr hg;clear hg hcc;refine av 121 #[.pointer (some ⟨ge,0,none⟩),.slice (some ⟨gp,0,none⟩) (nz B.length+9) (nz B.length+9)] aa aa ((write_ok ge B (padL B.length) (padL_isB _) (by rw[padL_len]; unfold nz; omega) (some ⟨gp,0,none⟩) (nz B.length+9) (nz B.length+9) (padL_len _) (Nat.le_refl _) (by unfold nz; omega) _ hE (.inr ⟨gp,0,rfl,fun j hj=>by rw[Nat.zero_add]; exact bJ hP j hj,hgp2⟩)).mono ?_);rintro r u5 ⟨rfl,hE2,hbt⟩;refine⟨_,rfl,?_⟩;simp only[aq];refine ai ?_;obtain⟨l2,hl2,_,hH2,_⟩:=hE2;replace hL:=hL.but hbt 1 (x:=⟨ge,c,211⟩) rfl rfl hH2;simp only[ab] at hL;clear hbt hE;replace hL:=ao hL;go_upto_region 5 with fail;refine ag ?_;iterate 1 (refine af fun K hK=>?_;go_simp;refine aj hK _ _ ?_;clear hK K)
 obtain⟨s,hs⟩:∃ s,s=hbk ((B++padL B.length).length / 64) F0 (B++padL B.length):=⟨_,rfl⟩;have hsl:s.length=8:=by rw[hs]; exact cE _ _ rfl _
 rw[← hs] at hH2;refine ak (.agg (uc s)) aa (bz _ 209 (.tmp 16) rfl ge 0 aa (s.map (Value.int .u32)) _ (range_st hH2) Tryz.underlying209 rfl (by rw[Tryz.infoS,List.length_map,hsl])) ?_;simp only[aq];refine av 146 #[.agg (uc s)] aa aa ((key_ok s hsl _).mono ?_);rintro r u6 ⟨rfl,hg⟩;refine⟨_,rfl,?_⟩;simp only[aq];replace hL:=(aj hL).more hg;have hkl:(keyL s).length=32:=keyL_len s;have hks:keyL s=sumL B:=by rw[hs]; rfl
 clear hH2 hg hs;generalize keyL s=m at *;generalize hc _ _ _=ce at *;refine aA 23 (.tmp 2) (.tmp 18) w.heap.size (kc m) 23 (kc Z32) aa rfl aa aa (hL.get 0 (x:=⟨w.heap.size,kc Z32,23⟩) rfl) (by rw[Tryz.infoKey,au,hkl]) ((show (kc Z32).size=32 from rfl).trans ((au _).trans hkl).symm) (aL _) ?_;replace hL:=hL.set 0 (x:=⟨w.heap.size,kc Z32,23⟩) rfl (kc m);simp only[ab] at hL;generalize World.setRow _ _ _=u7 at *;simp only[aq];refine ai ?_;go_wp2_with fail;rw[aj hT];exact bodyPost_ret (v:=.agg (kc m)) (results_cell_row Tryz.results122 _ _ w.heap.size 23 (kc m) (0,0) _ rfl (hL.get 0 (x:=⟨w.heap.size,kc m,23⟩) rfl) Tryz.underlying23 rfl (by rw[Tryz.infoKey,au,hkl])) rfl ⟨by rw[hks],hL.gr⟩
def Sl (w:World) (a:Option Addr) (B:List Int):Prop:=B=[]∨∃ p o,a=some ⟨p,o,none⟩∧At w p o B
theorem Sl.gr {w v:World} {a:Option Addr} {B:List Int} (h:Sl w a B) (k:Gr w v):Sl v a B:=by
 rcases h with h | ⟨p,o,h1,h2⟩
 ·exact .inl h
 ·exact .inr ⟨p,o,h1,h2.gr k⟩
theorem Sl.far {w v:World} {a:Option Addr} {B:List Int} (h:Sl w a B) (k:Gr w v) {g:Nat} (hg:w.heap.size≤g):SlX g v a B:=by
 rcases h with h | ⟨p,o,h1,h2⟩
 ·exact .inl h
 ·rcases Nat.eq_zero_or_pos B.length with h0 | h0
  ·exact .inl (List.eq_nil_of_length_eq_zero h0)
  ·exact .inr ⟨p,o,h1,h2.gr k,by have:=dE (h2 0 h0); omega⟩
theorem sum_ok (B:List Int) (hb:IsB B) (n:Nat) (hn:B.length=n) (hbig:n<1152921504606846000) (a:Option Addr) (cap:Nat) (hcap:n≤cap) (hcb:cap<9223372036854775808) (w:World) (hF:Fst w) (hA:Sl w a B) :
  Calls Tryz.prog 142 #[.slice a n cap] w (Summed B w):=by
 obtain⟨T,hT⟩:∃ T,T=Summed B w:=⟨_,rfl⟩;rw[← hT];replace hT:=ao hT;replace hF:=ao hF;replace hA:=ao hA;replace hb:=ao hb;go_enter Tryz.func142,Tryz.ntmps142;go_upto_region 1 with fail;have hL:=(Bl.nil w).new #[.int .u8 0,.int .u8 0,.int .u8 0,.int .u8 0,.int .u8 0,.int .u8 0,.int .u8 0,.int .u8 0,.int .u8 0,.int .u8 0,.int .u8 0,.int .u8 0,.int .u8 0,.int .u8 0,.int .u8 0,.int .u8 0,.int .u8 0,.int .u8 0,.int .u8 0,.int .u8 0,.int .u8 0,.int .u8 0,.int .u8 0,.int .u8 0,.int .u8 0,.int .u8 0,.int .u8 0,.int .u8 0,.int .u8 0,.int .u8 0,.int .u8 0,.int .u8 0] 23;simp only[List.nil_append] at hL;generalize World.alloc _ _=u1 at *;replace hL:Bl w [⟨w.heap.size,kc Z32,23⟩] u1:=hL;replace hF:=(aj hF).gr hL.gr;refine ag ?_;refine av 119 #[] aa aa ((new_ok _ hF).mono ?_);rintro r u2 ⟨g,rfl,hg0,hH,hg⟩;refine⟨_,rfl,?_⟩;simp only[aq]
 have hne:w.heap.size≠g:=by have:=lt_of_block (hL.get 0 (x:=⟨w.heap.size,kc Z32,23⟩) rfl); dsimp only at this; omega
 have hgw:w.heap.size≤g:=Nat.le_trans hL.gr.size hg0;replace hL:=hL.more hg;clear hg hF;iterate 1 (refine af fun K hK=>?_;go_simp;refine aj hK _ _ ?_;clear hK K)
 refine ai ?_;have hX:=(aj hA).far hL.gr hgw;replace hL:=ao hL;replace hX:=ao hX;replace hH:=ao hH;go_upto_region 2 with fail;refine ag ?_;iterate 2 (refine af fun K hK=>?_;go_simp;refine aj hK _ _ ?_;clear hK K)
 refine av 121 #[.pointer (some ⟨g,0,none⟩),.slice a n cap] aa aa ((write_ok g [] B (aj hb) (by rw[hn]; simp; omega) a n cap hn hcap hcb _ (aj hH) (aj hX)).mono ?_);rintro r u3 ⟨rfl,hE2,hbt⟩;refine⟨_,rfl,?_⟩;simp only[aq];refine ai ?_;rw[List.nil_append] at hE2;have hL3:Bl w [⟨w.heap.size,kc Z32,23⟩] u3:=⟨hbt.gr (aj hL).gr hgw,(fun x hx=>by
  have hx2:x=⟨w.heap.size,kc Z32,23⟩:=by simpa using hx
  subst hx2;exact⟨hbt.blk ((aj hL).get 0 (x:=⟨w.heap.size,kc Z32,23⟩) rfl) hne,Nat.le_refl _⟩),List.pairwise_singleton _ _⟩
 clear hL hX hH hbt;have hL:=ao hL3;clear hL3;replace hE2:=ao hE2;go_upto_region 3 with fail;refine ag ?_;iterate 1 (refine af fun K hK=>?_;go_simp;refine aj hK _ _ ?_;clear hK K)
 refine av 122 #[.pointer (some ⟨g,0,none⟩)] aa aa ((hsum_ok g B (by omega) _ (aj hE2)).mono ?_);rintro r u6 ⟨rfl,hg⟩;refine⟨_,rfl,?_⟩;simp only[aq];replace hL:=(aj hL).more hg;have hkl:(sumL B).length=32:=sumL_len B;clear hg hE2;obtain⟨m,hm⟩:∃ m,m=sumL B:=⟨_,rfl⟩;rw[← hm] at hkl;rw[← hm];refine aA 23 (.tmp 2) (.tmp 9) w.heap.size (kc m) 23 (kc Z32) aa rfl aa aa (hL.get 0 (x:=⟨w.heap.size,kc Z32,23⟩) rfl) (by rw[Tryz.infoKey,au,hkl]) ((show (kc Z32).size=32 from rfl).trans ((au _).trans hkl).symm) (aL _) ?_;replace hL:=hL.set 0 (x:=⟨w.heap.size,kc Z32,23⟩) rfl (kc m);simp only[ab] at hL;generalize World.setRow _ _ _=u7 at *;simp only[aq];refine ai ?_;replace hm:=ao hm;go_wp2_with fail;rw[aj hT]
 exact bodyPost_ret (v:=.agg (kc m)) (results_cell_row Tryz.results142 _ _ w.heap.size 23 (kc m) (0,0) _ rfl (hL.get 0 (x:=⟨w.heap.size,kc m,23⟩) rfl) Tryz.underlying23 rfl (by rw[Tryz.infoKey,au,hkl])) rfl ⟨by rw[aj hm],hL.gr⟩
def SA (s t:List Int):Nat→List Int
 | 0=>s
 | n+1=>(SA s t n).set n (ad ((SA s t n).getD n 0) (t.getD n 0))
theorem Sl.text {w:World} {a:Option Addr} {B:List Int} (h:Sl w a B) (n c:Nat) (hn:B.length=n):(convert 55 9 (.slice a n c)).run Tryz.prog w=.ok (.string (strOfNums B)) w:=by
 subst hn;rcases h with rfl | ⟨p,o,rfl,h2⟩
 ·rw[run_convert_bytes_string w 55 9 5 _ _ c Tryz.underlying55 Tryz.underlying5 Tryz.underlying9];cases a <;> simp[Conv.bytesToString,loadCells]
  all_goals rfl
 ·exact run_convert_bytes_arg (P:=Tryz.prog) w 55 5 Tryz.underlying55 Tryz.underlying5 p o _ c B rfl (fun i hi=>h2 i hi) 9 Tryz.underlying9
def Ob (b:Nat) (w:World) (v:Value) (L:List Int):Prop:=w.ownsRow b 5 1 v L.length (L.map (Value.int .u8))
theorem Ob.gr {b:Nat} {w u:World} {v:Value} {L:List Int} (h:Ob b w v L) (k:Gr w u):Ob b u v L:=own_gr h k
theorem Ob.slice {b:Nat} {w:World} {v:Value} {L:List Int} (h:Ob b w v L):∃ a c,v=.slice a L.length c∧L.length≤c∧c≤maxLen∧Sl w a L:=by
 rcases h.2 with ⟨h1,h2⟩ | ⟨g,cap,cur,h1,h2,h3,h4,h5,h6,h7⟩
 ·have:L=[]:=List.eq_nil_of_length_eq_zero h2;subst this;exact⟨none,0,h1,Nat.le_refl _,Nat.zero_le _,.inl rfl⟩
 ·refine⟨_,cap,h1,h4,h5,.inr ⟨g,0,rfl,fun j hj=>?_⟩⟩;rw[Nat.zero_add];refine aw h3 ?_;rw[← Array.getElem?_toList];have e:(L.map (Value.int .u8))[j]?=some (.int .u8 (L.getD j 0)):=by simp[hj]
  rw[← h7,Nat.mul_one,List.getElem?_take,if_pos hj] at e;exact e
theorem Ob.grown {b:Nat} {w u u':World} {v:Value} {L:List Int} (h:Ob b u v L) (hb:w.heap.size≤b) (k:Gr w u) (g:u.grownBy u' v.ownBlock):Gr w u':=by
 refine⟨g.os.trans k.os,g.tape.trans k.tape,g.output.trans k.output,Nat.le_trans k.size g.size,fun i hi=>(g.block i (Nat.lt_of_lt_of_le hi k.size) ?_).trans (k.block i hi)⟩;intro e;have:=(World.ownsRow.lt h i e.symm).1;omega
theorem dJ {w:World} {ops:Array Oper} {rest:List Oper} {o:Oper} {a:Act} {Q:Exit→Act→World→Prop} (hw:Region.wanted o (yielded ops a.tmps)=true) (s x:Operand)
  (ho:o.op=.call { callee:=.builtin .append,args:=#[s,x],argTypes:=#[55,55] }) (b:Nat) (v:Value) (L:List Int) (hs:a.eval s=v) (hown:Ob b w v L)
  (sp:Option Addr) (n sc:Nat) (l:List Int) (hx:a.eval x=.slice sp n sc) (hn:l.length=n) (hsl:Sl w sp l) (hbig:L.length+n≤180000000000000) (hB:b≤w.heap.size)
  (h:∀ v' w',Ob b w' v' (L++l)→w.grownBy w' v.ownBlock→wpList Tryz.prog ops Q rest (a.put o.dst v') w') :
  wpList Tryz.prog ops Q (o::rest) a w:=by
 subst hn;obtain⟨i0,hi,hz0,hz1,hz2⟩:=info_parts Tryz.info5;rw[wpList,if_pos hw];refine Or.inl ?_;rcases hsl with rfl | ⟨p,q,rfl,hat⟩
 ·obtain⟨a',c',rfl,hc,_,_⟩:=hown.slice;have hrun:(Builtin.append_ #[55,55] o.type #[.slice a' L.length c',.slice sp 0 sc]).run Tryz.prog w=.ok (.slice a' L.length c') w:=by
   cases a' <;> cases sp <;> simp[Builtin.append_,run_underlying Tryz.underlying55,sizeOf,typeInfo,hi,Builtin.lenOf,Builtin.firstCells,loadCells,loadCellsFrom,storeCells,hc]
  unfold Oper.wp;simp[execOp,ho,resolve,invoke,builtin,hs,hx,hrun,Result.andThen];exact h _ _ (by rw[List.append_nil]; exact hown) (World.grownBy.refl _ _)
 ·refine wp_append_own_wide w s x 55 ho b 5 i0 (.int .u8 0) 1 1 Tryz.underlying55 hi hz0 hz1 hz2 rfl (by decide) v L.length _ hs hown ⟨p,q,none⟩ l.length sc (l.map (Value.int .u8)) hx (by simp) ?_ ?_ (by unfold maxLen; omega) (by omega) hB ?_
  ·intro j u hj;have hjl:j<l.length:=by have:=(List.getElem?_eq_some_iff.1 hj).1; simpa using this
   rw[Addr.add_mid,hat j hjl];simp[hjl] at hj ⊢;exact hj
  ·intro u hu;obtain⟨y,_,rfl⟩:=List.mem_map.1 hu;rfl
  ·intro v' w' h1 h2 _;refine h v' w' ?_ h2;unfold Ob;rw[List.length_append,List.map_append];exact h1
theorem blk_bytes {w:World} {b:Nat} (l:List Int) (hb:b≤w.heap.size) (h1:l.length≤maxLen):Ob b (w.alloc (.cells (kc l) 5 (0,0))) (.slice (some ⟨w.heap.size,0,none⟩) l.length l.length) l :=
 ⟨by simp,.inr ⟨w.heap.size,l.length,kc l,rfl,hb,aS _ _,Nat.le_refl _,h1,by rw[au,Nat.mul_one],by unfold kc; rw[Nat.mul_one]; exact List.take_of_length_le (by simp)⟩⟩
def slenV:Value→Nat
 | .slice _ n _=>n
 | _=>0
end Go.Proofs.YtbkkibhhfmgojaaGreatDoor
namespace Go.Proofs.YtbkkibhhfmgojaaGreatDoor
open Go.RowKit
set_option maxRecDepth 1000000
def dd:Code→List Code
 | .loop c=>c::dd c
 | .seq a b=>dd a++dd b
 | .block _ c=>dd c
 | .scope c=>dd c
 | .cond _ a b=>dd a++dd b
 | _=>[]
noncomputable def lp (k:Nat):Code:=(((Tryz.f135.body).map dd).getD []).getD k .skip
theorem Bl.left {w v:World} {L M:List Blk} (h:Bl w (L++M) v):Bl w L v:=⟨h.gr,fun x hx=>h.at_ x (List.mem_append_left _ hx),(List.pairwise_append.1 h.ne).1⟩
end Go.Proofs.YtbkkibhhfmgojaaGreatDoor
namespace Go.Proofs.YtbkkibhhfmgojaaGreatDoor
open Go.ChangeShapes Go.WideShapes Go.ChangeAt Go.RowKit
theorem own:ownKnob Tryz.prog.godebug=none:=by kernel_rfl
theorem laidOut:laidOutB Tryz.prog=true:=by kernel_rfl
theorem wf_byte {x:Int} (h:(Lit.int .u8 x).wf=true):0≤x∧x<256:=by
 have:=bounds_u8 h;omega
theorem gFirst:Tryz.prog.globalNamed "hollowtree/sha.first" = some 1:=by kernel_rfl
theorem tFirst:(Tryz.prog.globals[1]?).map (·.type)=some 209:=by kernel_rfl
def ud (l:List Int):DataW Unit:=.agg (l.map fun z=>.lit (.int .u32 z))
theorem ud_inj {k l:List Int} (h:ud k=ud l):k=l:=by
 unfold ud at h;have h1:k.map (fun z=>(DataW.lit (.int .u32 z):DataW Unit))=l.map (fun z=>(DataW.lit (.int .u32 z):DataW Unit)):=by simpa using h
 exact List.map_inj_right (fun x y e=>by simpa using e) |>.1 h1
theorem laid_eq:(Rows.laid_hollowtree_sha_first:DataW Unit)=ud F0:=by kernel_rfl
theorem Tryz.cellsS:Tryz.prog.cellsOf 209=8:=by kernel_rfl
theorem Tryz.cellsU:Tryz.prog.cellsOf 29=1:=by kernel_rfl
theorem first_cells {enc:TypeId × Value→Unit} {W:World} {base fuel:Nat} {sp:TypeId→Bool} {held:Bool} {cs:List Value} {x:DataW Unit × List MemPlace} (h:DataW.trod enc Tryz.prog W base sp held fuel 209 cs=some x) :
  ∃ zs:List Int,cs=zs.map (Value.int .u32)∧x.1=ud zs:=by
 obtain⟨xs,m,_,hx,hl,hxl,hh⟩:=DataW.trod_array Tryz.underlying209 h;rw[Tryz.cellsS] at hl;have hc:∀ i,i<8→∃ z,cs[i]?=some (.int .u32 z)∧xs[i]?=some (.lit (.int .u32 z),[]):=by
  intro i hi;have h1:=hh i hi;rw[Tryz.cellsU,Nat.mul_one,List.getElem?_eq_getElem (by omega)] at h1;obtain⟨z,e,e2,_⟩:=DataW.trod_int Tryz.underlying29 h1;refine⟨z,?_,?_⟩
  ·have h2:((cs.drop i).take 1)[0]?=some (.int .u32 z):=by rw[e]; rfl
   simpa using h2
  ·rw[List.getElem?_eq_getElem (by omega),e2]
 refine⟨cs.map (fun v=>match v with | .int _ z=>z | _=>0),?_,?_⟩
 ·apply List.ext_getElem?;intro i;rcases Nat.lt_or_ge i 8 with hi | hi
  ·obtain⟨z,h1,_⟩:=hc i hi;simp[h1]
  ·rw[List.getElem?_eq_none (by omega),List.getElem?_eq_none (by simp; omega)]
 ·rw[hx];unfold ud;show DataW.agg _=DataW.agg _
  congr 1
  apply List.ext_getElem?;intro i;rcases Nat.lt_or_ge i 8 with hi | hi
  ·obtain⟨z,h1,h2⟩:=hc i hi;simp[h1,h2]
  ·rw[List.getElem?_eq_none (by simp; omega),List.getElem?_eq_none (by simp; omega)]
theorem first_laid {W:World} (h:laidMetH Tryz.prog [("hollowtree/sha.first",Rows.laid_hollowtree_sha_first),("hollowtree/curve.lows",Rows.laid_hollowtree_curve_lows)] W):Fst W:=by
 rw[MakeChecks.laidMetH_plain _ _ _ aa] at h;obtain⟨ps,⟨g0,t0,cs0,f0,p0,q0,hg0,ht0,hv0,hd0,_,_⟩,_,_⟩:=h;obtain rfl:=Option.some.inj (gFirst.symm.trans hg0);obtain rfl:=Option.some.inj (tFirst.symm.trans ht0);rw[laid_eq] at hd0;obtain⟨zs,e1,e2⟩:=first_cells hd0;have e3:F0=zs:=ud_inj e2;subst e3;intro j v hj;rw[World.var?_cell hg0 hv0,Nat.zero_add,← Array.getElem?_toList,e1];exact hj
theorem Tryz.bytes5:Tryz.prog.bytesOf 5=1:=by kernel_rfl
theorem open_bytes {H:Type} {enc:TypeId × Value→H} {W:World} {a:Option Addr} {len cap:Nat} {d:DataW H} {p:List MemPlace}
  (h:DataW.Trod enc Tryz.prog W 0 (fun _=>true) true 55 (.slice a len cap) d p) (hw:∀ elems spare,d=.slice elems spare→(elems.length+spare.length) * Tryz.prog.bytesOf 5≤reachBytes) :
  ∃ l,IsB l∧l.length=len∧Sl W a l∧len≤cap∧cap≤140737488351232:=by
 obtain⟨fuel,hf⟩:=h;rcases open_ints Tryz.underlying55 Tryz.underlying5 aa hf with ⟨hcs,_⟩ | ⟨x,l,c,zs,hcs,_,hl,hm,hz,hx,hcell,hwz⟩
 ·simp[Value.cells] at hcs;obtain⟨rfl,rfl,rfl⟩:=hcs;exact⟨[],(by intro x hx; cases hx),rfl,.inl rfl,by omega,by omega⟩
 ·simp[Value.cells] at hcs;obtain⟨rfl,rfl,rfl⟩:=hcs;simp only[Prod.mk.injEq] at hx;simp only[if_true] at hz;have:=hw _ _ hx.1;rw[Tryz.bytes5] at this;simp only[lits,List.length_map,List.length_take,List.length_drop,reachBytes] at this;refine⟨zs.take len,fun y hy=>wf_byte (hwz y (List.mem_of_mem_take hy)),by simp; omega,?_,by omega,by omega⟩;rcases Nat.eq_zero_or_pos len with h0 | h0
  ·left;subst h0;rfl
  ·right;obtain⟨b,off,spot⟩:=x;have hspot:spot=none:=by simpa [Addr.add] using World.cell?_spot (hcell 0 (by omega))
   subst hspot;refine⟨b,off,rfl,fun i hi=>?_⟩;have hi2:i<len:=by rw[List.length_take] at hi; omega
   have:=hcell i (by omega);rw[Addr.add_mid] at this;rw[this,List.getD_eq_getElem?_getD,List.getD_eq_getElem?_getD,List.getElem?_take,if_pos hi2]
end Go.Proofs.YtbkkibhhfmgojaaGreatDoor
namespace Go.Proofs.YtbkkibhhfmgojaaGreatDoor
open Go.RowKit
section
variable {P:Program} {md:Region.Mode} {ops:Array Oper} {Q:Exit→Act→World→Prop} {S:World→Prop}
theorem float1 (W:World) (T:Value→World→Prop) (A:Value→Act) (F:Bool→Array Bool) (i1 c:Nat) (all:Bool)
  (hS:∀ v,Gr W v→S v) (hchk:chkM1 md ops F i1 c all=true) (hF:∀ b1,(F b1).setIfInBounds i1 true=F true)
  (new1:∀ q w,Gr W w→∀ K:Act→World→Prop,(∀ v w',Gr w w'→T v w'→K (A v) w')→wpOp P ops Q i1 K (A q) w)
  (next:∀ b q w,Gr W w→(b=true→T q w)→(all=true→b=true)→wpOp P ops Q c (fun a' w'=>S w'∧Any P md ops Q S ((F b).setIfInBounds c true) a' w') (A q) w)
  {l:Array Bool} {a:Act} {w:World} (h:∃ b q,l=F b∧a=A q∧Gr W w∧(b=true→T q w)):Any P md ops Q S l a w:=by
 refine any_stage (fun l a w=>∃ b q,l=F b∧a=A q∧Gr W w∧(b=true→T q w)) ?_ h;rintro l a w ⟨b,q,rfl,rfl,gr,hT⟩;obtain⟨hne,hr⟩:=chkM1_spec hchk b;refine⟨hne,fun i hi=>?_⟩;rcases hr i hi with ⟨rfl,e⟩ | ⟨rfl,e⟩
 ·exact new1 q w gr _ (fun v w' g t=>⟨hS _ (gr.trans g),.inl ⟨true,v,hF b,rfl,gr.trans g,fun _=>t⟩⟩)
 ·exact wpOp_mono (fun a' w' k=>⟨k.1,.inr k.2⟩) (next b q w gr hT e)
theorem cO (T:Value→World→Prop) (p:Nat) (F:Bool→Array Bool) (i1 c:Nat) (all:Bool) {l:Array Bool} {a:Act} {W:World} (hl:l=F false) (ha:fw1 a p (a.tmps.getD p undef)=a)
  (hS:∀ v,Gr W v→S v) (hchk:chkM1 md ops F i1 c all=true) (hF:∀ b1,(F b1).setIfInBounds i1 true=F true)
  (new1:∀ q w,Gr W w→∀ K:Act→World→Prop,(∀ v w',Gr w w'→T v w'→K (fw1 a p v) w')→wpOp P ops Q i1 K (fw1 a p q) w)
  (next:∀ b q w,Gr W w→(b=true→T q w)→(all=true→b=true)→wpOp P ops Q c (fun a' w'=>S w'∧Any P md ops Q S ((F b).setIfInBounds c true) a' w') (fw1 a p q) w):Any P md ops Q S l a W :=
 float1 W T (fw1 a p) F i1 c all hS hchk hF new1 next ⟨false,_,hl,ha.symm,Gr.refl W,fun e=>by cases e⟩
theorem bL (T:Value→World→Prop) (p:Nat) (F:Bool→Array Bool) (i1 c:Nat) (all:Bool) {b:Bool} {q:Value} {l:Array Bool} {a:Act} {W:World} (hl:l=F b) (ha:fw1 a p q=a) (hT:b=true→T q W)
  (hS:∀ v,Gr W v→S v) (hchk:chkM1 md ops F i1 c all=true) (hF:∀ b1,(F b1).setIfInBounds i1 true=F true)
  (new1:∀ q w,Gr W w→∀ K:Act→World→Prop,(∀ v w',Gr w w'→T v w'→K (fw1 a p v) w')→wpOp P ops Q i1 K (fw1 a p q) w)
  (next:∀ b q w,Gr W w→(b=true→T q w)→(all=true→b=true)→wpOp P ops Q c (fun a' w'=>S w'∧Any P md ops Q S ((F b).setIfInBounds c true) a' w') (fw1 a p q) w):Any P md ops Q S l a W :=
 float1 W T (fw1 a p) F i1 c all hS hchk hF new1 next ⟨b,q,hl,ha.symm,Gr.refl W,hT⟩
theorem bD {o:Oper} {a:Act} {w:World} {K:Act→World→Prop} (v:Value) (w':World) (hw:Region.wanted o (yielded ops a.tmps)=true) (hx:(execOp a.eval o).run P w=.ok (.value v) w') (h:K (a.put o.dst v) w') :
  if Region.wanted o (yielded ops a.tmps)=true then Oper.wp P o a w K Q else K (a.put o.dst undef) w:=by
 rw[if_pos hw];unfold Oper.wp;rw[hx];exact h
end
end Go.Proofs.YtbkkibhhfmgojaaGreatDoor
namespace Go.Proofs.YtbkkibhhfmgojaaGreatDoor
open Go.RowKit
def W32 (x:Int):Prop:=0≤x∧x<4294967296
def lt (x:Int) (n:Nat):Int:=bits .or .u32 (IntKind.u32.wrap (x * 2 ^ n)) (x / 2 ^ (32 - n))
theorem dz (a b:Nat) (ha:a<256) (hb:b<256):bits .xor .u8 (a:Int) (b:Int)=((a ^^^ b:Nat):Int):=by
 have hx:a ^^^ b<2 ^ 8:=Nat.xor_lt_two_pow (by omega) (by omega);have h1:(BitVec.ofInt 8 (a:Int)).toNat=a:=by
  rw[BitVec.ofInt_natCast,BitVec.toNat_ofNat]; exact Nat.mod_eq_of_lt (by omega)
 have h2:(BitVec.ofInt 8 (b:Int)).toNat=b:=by
  rw[BitVec.ofInt_natCast,BitVec.toNat_ofNat]; exact Nat.mod_eq_of_lt (by omega)
 show IntKind.u8.wrap ((BitVec.ofInt 8 (a:Int) ^^^ BitVec.ofInt 8 (b:Int)).toNat:Int)=_;rw[BitVec.toNat_xor,h1,h2,IntKind.wrap_u8];omega
def xb (a b:Int):Int:=bits .xor .u8 a b
theorem xb_rng (a b:Int):0≤xb a b∧xb a b<256:=by
 unfold xb bits;simp only[IntKind.wrap_u8];omega
theorem xb_twice (x y:Int) (hx:0≤x∧x<256) (hy:0≤y∧y<256):xb (xb x y) y=x:=by
 obtain⟨X,rfl⟩:=Int.eq_ofNat_of_zero_le hx.1;obtain⟨Y,rfl⟩:=Int.eq_ofNat_of_zero_le hy.1;have hl:X ^^^ Y<2 ^ 8:=Nat.xor_lt_two_pow (by omega) (by omega);unfold xb;rw[dz X Y (by omega) (by omega),dz (X ^^^ Y) Y (by omega) (by omega),Nat.xor_assoc,Nat.xor_self,Nat.xor_zero]
def fil (f:Nat→Int) (n:Nat) (l:List Int):List Int:=(List.range n).map f++l.drop n
theorem fil_zero (f:Nat→Int) (l:List Int):fil f 0 l=l:=by simp[fil]
theorem fil_len (f:Nat→Int) (n:Nat) (l:List Int) (h:n≤l.length):(fil f n l).length=l.length:=by
 simp[fil];omega
theorem fil_set (f:Nat→Int) (n:Nat) (l:List Int) (h:n<l.length):(fil f n l).set n (f n)=fil f (n+1) l:=by
 unfold fil;rw[List.set_append_right _ _ (by simp),List.range_succ,List.map_append,List.append_assoc]
 congr 1
 simp only[List.length_map,List.length_range,Nat.sub_self,List.map_cons,List.map_nil,List.cons_append,List.nil_append];rw[List.drop_eq_getElem_cons h,List.set_cons_zero]
theorem fil_all (f:Nat→Int) (l:List Int):fil f l.length l=(List.range l.length).map f:=by simp[fil]
theorem fil_hi (f:Nat→Int) (n j:Nat) (l:List Int) (h:n≤j) (hl:n≤l.length):(fil f n l).getD j 0=l.getD j 0:=by
 unfold fil;rw[List.getD_eq_getElem?_getD,List.getElem?_append_right (by simp; omega)];simp only[List.length_map,List.length_range,List.getElem?_drop];rw[List.getD_eq_getElem?_getD]
 congr 2
 omega
structure Q4 where
 (a b c d:Int)
def quar (a b c d:Int):Q4 :=
 let a1:=ad a b
 let d1:=lt (xr d a1) 16
 let c1:=ad c d1
 let b1:=lt (xr b c1) 12
 let a2:=ad a1 b1
 let d2:=lt (xr d1 a2) 8
 let c2:=ad c1 d2
 let b2:=lt (xr b1 c2) 7
 ⟨a2,b2,c2,d2⟩
section
variable {P:Program} {md:Region.Mode} {ops:Array Oper} {Q:Exit→Act→World→Prop} {S:World→Prop} {c:Nat}
def wpAnyC (P:Program) (md:Region.Mode) (ops:Array Oper) (Q:Exit→Act→World→Prop) (S:World→Prop) (c:Nat):Nat→Array Bool→Act→World→Prop
 | 0,l,a,w=>Region.ready md ops l=[]∧Q .normal a w
 | f+1,l,a,w=>(Region.ready md ops l=[]→Q .normal a w) ∧
   ∀ i ∈ Region.ready md ops l,wpOp P ops Q i (fun a' w'=>((l.setIfInBounds i true).getD c false=false→S w')∧wpAnyC P md ops Q S c f (l.setIfInBounds i true) a' w') a w
theorem wpAny_of_C:∀ (f:Nat) (l:Array Bool) (a:Act) (w:World),wpAnyC P md ops Q S c f l a w→wpAny P md ops Q f l a w
 | 0,_,_,_,h=>h
 | f+1,_,_,_,h=>⟨h.1,fun i hi=>wpOp_mono (fun a' w' h'=>wpAny_of_C f _ a' w' h'.2) (h.2 i hi)⟩
theorem wpAnyC_free:∀ (f:Nat) (l:Array Bool) (a:Act) (w:World),l.getD c false=true→wpAnyH P md ops Q (fun _=>True) f l a w→wpAnyC P md ops Q S c f l a w
 | 0,_,_,_,_,h=>h
 | f+1,l,_,_,hl,h=>⟨h.1,fun i hi=>wpOp_mono (fun a' w' h'=>⟨fun e=>(by rw[getD_set_true hl] at e; cases e),wpAnyC_free f _ a' w' (getD_set_true hl) h'.2⟩) (h.2 i hi)⟩
theorem wpAnyC_first {i:Nat} {oi oc:Oper} {v:Value} (hi:ops[i]?=some oi) (hsel:∀ (j:Nat) (o:Oper) cs b,ops[j]?=some o→o.op≠.select cs b)
  (hQ:∀ c a w,Q (.panic c) (a.put oi.dst v) w→Q (.panic c) a w) (hci:i≠c) (T:World→Prop) (hTS:∀ w,S w→T w) (hoc:ops[c]?=some oc) (hT:(∀ w,T w)∨∃ e ∈ oc.after,Region.binds md e=true∧e.on=i) :
  ∀ (fuel:Nat) (listed:Array Bool) (a:Act) (w:World),
   (∀ j oj,ops[j]?=some oj→j≠i→listed.getD j true=false→(∀ e ∈ oj.after,Region.binds md e=true→e.on≠i)→oi.apart ops oj=true) →
   i ∈ Region.ready md ops listed→YieldsIf P ops T oi v a→(listed.getD c false=false→S w)→((∀ w,T w)∨listed.getD c false=false) →
   wpAnyC P md ops Q S c fuel (listed.setIfInBounds i true) (a.put oi.dst v) w→wpAnyC P md ops Q S c (fuel+1) listed a w:=by
 intro fuel;have now:∀ (l:Array Bool) (w:World),(l.getD c false=false→S w)→((∀ w,T w)∨l.getD c false=false)→T w:=fun l w hS hB=>by
  rcases hB with h | h
  ·exact h w
  ·exact hTS w (hS h)
 induction fuel with
 | zero =>
  intro listed a w _ hr hy hS hB H;refine⟨fun h=>(by rw[h] at hr; cases hr),fun j hj=>?_⟩;by_cases hji:j=i
  ·subst hji;exact hy.wpOp hi (now _ _ hS hB) ⟨fun e=>hS (by rw[getD_set_ne false hci] at e; exact e),H⟩
  ·have:=ready_mono hj hji;rw[H.1] at this;cases this
 | succ fuel ih =>
  intro listed a w hfree hr hy hS hB H;refine⟨fun h=>(by rw[h] at hr; cases hr),fun j hj=>?_⟩;by_cases hji:j=i
  ·subst hji;exact hy.wpOp hi (now _ _ hS hB) ⟨fun e=>hS (by rw[getD_set_ne false hci] at e; exact e),H⟩
  ·have h1:=H.2 j (ready_mono hj hji);obtain⟨hjun,oj,hoj,hall⟩:=mem_ready.1 hj;have hnot:∀ e ∈ oj.after,Region.binds md e=true→e.on≠i:=fun e he hb heq=>by
    have h1:=hall e he hb;have h0:=(mem_ready.1 hr).1;rw[heq] at h1;rcases Nat.lt_or_ge i listed.size with h' | h'
    ·simp[h'] at h0 h1; rw[h0] at h1; cases h1
    ·simp[Array.getElem?_eq_none h'] at h1
   have h2:=wpOp_putIf hoj (hfree j oj hoj hji hjun hnot) (fun cs b=>hsel i oi cs b hi) (fun cs b=>hsel j oj cs b hoj) hQ hy h1;have hfree':∀ k ok,ops[k]?=some ok→k≠i→(listed.setIfInBounds j true).getD k true=false →
     (∀ e ∈ ok.after,Region.binds md e=true→e.on≠i)→oi.apart ops ok=true:=fun k ok hk hki hun hno=>by
    refine hfree k ok hk hki ?_ hno;by_cases hjk:j=k
    ·subst hjk; exact hjun
    ·rw[getD_set_ne true hjk] at hun; exact hun
   refine wpOp_mono (fun a' w' h3=>?_) h2;have hS':(listed.setIfInBounds j true).getD c false=false→S w':=fun e=>by
    refine h3.2.1 ?_;rw[Array.setIfInBounds_comm _ _ (Ne.symm hji),getD_set_ne false hci];exact e
   have hB':(∀ w,T w)∨(listed.setIfInBounds j true).getD c false=false:=by
    rcases hB with h | h
    ·exact .inl h
    ·rcases hT with h' | ⟨e,he,hb,heq⟩
     ·exact .inl h'
     ·refine .inr ?_;have hjc:j≠c:=by
       rintro rfl;rw[hoj] at hoc;cases hoc;exact hnot e he hb heq
      rw[getD_set_ne false hjc];exact h
   refine⟨hS',ih (listed.setIfInBounds j true) a' w' hfree' (ready_mono hr (Ne.symm hji)) h3.1 hS' hB' ?_⟩;rw[Array.setIfInBounds_comm _ _ hji];exact h3.2.2
def AnyC (P:Program) (md:Region.Mode) (ops:Array Oper) (Q:Exit→Act→World→Prop) (S:World→Prop) (c:Nat) (l:Array Bool) (a:Act) (w:World):Prop :=
 ∀ fuel,(l.toList.filter (!·)).length≤fuel→wpAnyC P md ops Q S c fuel l a w
theorem anyC_start {id:Nat} {a:Act} {w:World} (c:Nat) (S:World→Prop) (hm:P.follows .mixedOrders=true) (h:AnyC P .any ops Q S c (Array.replicate ops.size false) a w.drew):(Code.region id ops true).wp P Q a w:=by
 refine wp_region_any hm (wpAny_of_C _ _ _ _ (h ops.size ?_));simp
def depB (md:Region.Mode) (ops:Array Oper) (c i:Nat):Bool:=((ops[c]?).map (·.after.any fun e=>Region.binds md e && e.on == i)).getD false
theorem aW {i:Nat} {oi:Oper} {v:Value} {l:Array Bool} {a:Act} {w:World} (T:World→Prop) (hTS:∀ w,S w→T w) (hT:(∀ w,T w)∨depB md ops c i=true) (hi:ops[i]?=some oi)
  (hs:Region.noSelect ops=true) (hf:Region.free md ops l i=true) (hr:rdB md ops l i=true) (hci:i≠c) (hl:l.getD c true=false) (hc:c<ops.size)
  (hQ:∀ c a w,Q (.panic c) (a.put oi.dst v) w→Q (.panic c) a w) (hy:YieldsIf P ops T oi v a) (hS:S w)
  (h:AnyC P md ops Q S c (l.setIfInBounds i true) (a.put oi.dst v) w):AnyC P md ops Q S c l a w:=by
 intro fuel hfu;have hm:=rdB_mem hr;have h1:=cT (mem_ready.1 hm).1;obtain⟨f,rfl⟩:∃ f,fuel=f+1:=⟨fuel - 1,by omega⟩;have hlc:l.getD c false=false:=by
  rcases Nat.lt_or_ge c l.size with h' | h'
  ·simp[h'] at hl ⊢;exact hl
  ·simp[Array.getElem?_eq_none h']
 refine wpAnyC_first hi (Region.noSelect_spec hs) hQ hci T hTS (Array.getElem?_eq_getElem hc) ?_ f l a w (Region.free_spec hi hf) hm hy (fun _=>hS) (.inr hlc) (h f (by omega));rcases hT with h | h
 ·exact .inl h
 ·refine .inr ?_;unfold depB at h;rw[Array.getElem?_eq_getElem hc] at h;simp only[Option.map_some,Option.getD_some,Array.any_eq_true'] at h;obtain⟨e,he,h⟩:=h;rw[Bool.and_eq_true] at h;exact⟨e,he,h.1,by simpa using h.2⟩
theorem anyC_last {o:Oper} {l:Array Bool} {a:Act} {w:World} (hr:Region.ready md ops l=[c]) (ho:ops[c]?=some o)
  (h:∀ K':Act→World→Prop,Shut (∀ a w,Any P md ops Q (fun _=>True) (l.setIfInBounds c true) a w→K' a w)→if Region.wanted o (yielded ops a.tmps)=true then Oper.wp P o a w K' Q else K' (a.put o.dst undef) w):AnyC P md ops Q S c l a w:=by
 intro fuel hfu;have hm:c ∈ Region.ready md ops l:=by rw[hr]; exact List.mem_cons_self
 have h1:=cT (mem_ready.1 hm).1;obtain⟨f,rfl⟩:∃ f,fuel=f+1:=⟨fuel - 1,by omega⟩;have hsz:c<l.size:=by
  rcases Nat.lt_or_ge c l.size with h' | h'
  ·exact h'
  ·have:=(mem_ready.1 hm).1;simp[Array.getElem?_eq_none h'] at this
 have hlc:(l.setIfInBounds c true).getD c false=true:=by simp[hsz]
 refine⟨fun h=>(by rw[h] at hr; cases hr),fun j hj=>?_⟩;rw[hr] at hj;obtain rfl:j=c:=by simpa using hj
 refine wpOp_step ho (fun K' hK=>h K' (fun a w hA=>hK a w ⟨fun e=>?_,?_⟩))
 ·rw[hlc] at e;cases e
 ·exact wpAnyC_free f _ a w hlc (hA f (by omega))
end
theorem turn_ok (x:Int) (n:Nat) (hn:1≤n∧n≤31) (w:World) :
  Calls Tryz.prog 198 #[.int .u32 x,.int .i64 n] w (fun r w'=>r=.returned (.int .u32 (lt x n))∧w'=w.drew):=by
 obtain⟨m,hm⟩:∃ m,m=32 - n:=⟨_,rfl⟩;have e1:32 - (n:Int)=(m:Int):=by omega
 have e2:IntKind.i64.wrap (m:Int)=(m:Int):=by rw[IntKind.wrap_i64]; omega
 have m0:0≤(m:Int):=by omega
 have n0:0≤(n:Int):=by omega
 replace hm:=ao hm;go_enter Tryz.func198,Tryz.ntmps198;go_wp2_with fail
 go_still_tail 8,aa
 go_wp2_with fail;refine bodyPost_ret (v:=.int .u32 (lt x n)) ?_ rfl ⟨rfl,rfl⟩;unfold lt;rw[← aj hm];simp[results,Tryz.results198,go_sem]
theorem turn_int (x m:Int) (hm:1≤m∧m≤31) (w:World) :
  Calls Tryz.prog 198 #[.int .u32 x,.int .i64 m] w (fun r w'=>r=.returned (.int .u32 (lt x m.toNat))∧w'=w.drew):=by
 obtain⟨n,rfl⟩:=Int.eq_ofNat_of_zero_le (a:=m) (by omega);exact turn_ok x n (by omega) w
def qv (q:Q4):Value:=.tuple #[.int .u32 q.a,.int .u32 q.b,.int .u32 q.c,.int .u32 q.d]
theorem quarter_ok (a b c d:Int) (w:World) :
  Calls Tryz.prog 190 #[.int .u32 a,.int .u32 b,.int .u32 c,.int .u32 d] w (fun r w'=>r=.returned (qv (quar a b c d))∧Gr w w'):=by
 go_enter Tryz.func190,Tryz.ntmps190;go_wp2_with (go_at_call 198; refine(turn_int _ _ (by omega) _).mono ?_; rintro e w1 ⟨rfl,rfl⟩);refine bodyPost_ret (v:=qv (quar a b c d)) ?_ rfl ⟨rfl,(Gr.refl w).drew.drew.drew.drew⟩;simp[results,Tryz.results190,go_sem];simp only[qv,quar,ad_eq,xr,Int.emod_add_emod]
def qp (W:List Int) (a b c d:Nat):List Int :=
 let q:=quar (W.getD a 0) (W.getD b 0) (W.getD c 0) (W.getD d 0)
 (((W.set a q.a).set b q.b).set c q.c).set d q.d
theorem dB (W:List Int) (a b c d:Nat):(qp W a b c d).length=W.length:=by simp[qp]
def Qtr (w0:World) (g:Nat) (W:List Int) (L:List Blk) (a b c d:Nat) (r:Ending) (w':World):Prop:=r=.returned (.tuple #[])∧Bl w0 (⟨g,uc (qp W a b c d),192⟩::L) w'
def QS (g a b c d:Nat) (xa xb xc xd:Int) (v:World):Prop:=True∧v.cell? ⟨g,a,none⟩=some (.int .u32 xa)∧v.cell? ⟨g,b,none⟩=some (.int .u32 xb)∧v.cell? ⟨g,c,none⟩=some (.int .u32 xc)∧v.cell? ⟨g,d,none⟩=some (.int .u32 xd)
theorem bV (w0:World) (g:Nat) (W:List Int) (hW:W.length=16) (L:List Blk) (a b c d:Nat) (ha:a<16) (hb:b<16) (hc:c<16) (hd:d<16) (w:World) (hB:Bl w0 (⟨g,uc W,192⟩::L) w) :
  Calls Tryz.prog 189 #[.int .i64 a,.int .i64 b,.int .i64 c,.int .i64 d,.pointer (some ⟨g,0,none⟩)] w (Qtr w0 g W L a b c d):=by
 obtain⟨T,hT⟩:∃ T,T=Qtr w0 g W L a b c d:=⟨_,rfl⟩;rw[← hT];unfold Qtr qp at hT;replace hT:=ao hT;have iA:(a:Int)<16:=by omega
 have iB:(b:Int)<16:=by omega
 have iC:(c:Int)<16:=by omega
 have iD:(d:Int)<16:=by omega
 replace hB:=hB.drew;have c0:=br (hB.get 0 (x:=⟨g,uc W,192⟩) rfl) a (by omega);have c1:=br (hB.get 0 (x:=⟨g,uc W,192⟩) rfl) b (by omega);have c2:=br (hB.get 0 (x:=⟨g,uc W,192⟩) rfl) c (by omega);have c3:=br (hB.get 0 (x:=⟨g,uc W,192⟩) rfl) d (by omega);generalize W.getD a 0=xa at *;generalize W.getD b 0=xb at *;generalize W.getD c 0=xc at *;generalize W.getD d 0=xd at *;have hS:QS g a b c d xa xb xc xd w.drew:=⟨trivial,c0,c1,c2,c3⟩;clear c0 c1 c2 c3;replace hB:=ao hB;go_enter Tryz.func189,Tryz.ntmps189;go_upto_region 0 with fail;replace hB:=aj hB;refine anyC_start 16 (QS g a b c d xa xb xc xd) aa ?_;generalize World.drew _=w at *;simp only[ae,Array.replicate,List.replicate];refine aW (i:=0) (v:=(.int .i64 a)) (fun _=>True) (fun _ _=>trivial) (.inl fun _=>trivial) rfl aa aa aa (by decide) aa (by decide) (fun _ _ _ h=>h) (.inl ⟨by kernel_rfl,fun x_ hu=>by kernel_rfl⟩) hS ?_;simp only[aq]
 refine aW (i:=1) (v:=(.int .i64 b)) (fun _=>True) (fun _ _=>trivial) (.inl fun _=>trivial) rfl aa aa aa (by decide) aa (by decide) (fun _ _ _ h=>h) (.inl ⟨by kernel_rfl,fun x_ hu=>by kernel_rfl⟩) hS ?_;simp only[aq];refine aW (i:=2) (v:=(.int .i64 c)) (fun _=>True) (fun _ _=>trivial) (.inl fun _=>trivial) rfl aa aa aa (by decide) aa (by decide) (fun _ _ _ h=>h) (.inl ⟨by kernel_rfl,fun x_ hu=>by kernel_rfl⟩) hS ?_;simp only[aq];refine aW (i:=3) (v:=(.int .i64 d)) (fun _=>True) (fun _ _=>trivial) (.inl fun _=>trivial) rfl aa aa aa (by decide) aa (by decide) (fun _ _ _ h=>h) (.inl ⟨by kernel_rfl,fun x_ hu=>by kernel_rfl⟩) hS ?_;simp only[aq];refine aW (i:=4) (v:=(.int .i64 a)) (fun _=>True) (fun _ _=>trivial) (.inl fun _=>trivial) rfl aa aa aa (by decide) aa (by decide) (fun _ _ _ h=>h) (.inl ⟨by kernel_rfl,fun x_ hu=>by kernel_rfl⟩) hS ?_;simp only[aq]
 refine aW (i:=5) (v:=(.pointer (some ⟨g,a,none⟩))) (fun _=>True) (fun _ _=>trivial) (.inl fun _=>trivial) rfl aa aa aa (by decide) aa (by decide) (fun _ _ _ h=>h) (.inl ⟨by kernel_rfl,fun x_ hu=>by go_simp⟩) hS ?_;simp only[aq];refine aW (i:=6) (v:=(.int .u32 xa)) _ (fun _ h=>h) (.inr aa) rfl aa aa aa (by decide) aa (by decide) (fun _ _ _ h=>h) (.inl ⟨by kernel_rfl,fun x_ hu=>by have c:=hu.2.1; clear hu hS hB; go_simp⟩) hS ?_;simp only[aq];refine aW (i:=7) (v:=(.int .i64 b)) (fun _=>True) (fun _ _=>trivial) (.inl fun _=>trivial) rfl aa aa aa (by decide) aa (by decide) (fun _ _ _ h=>h) (.inl ⟨by kernel_rfl,fun x_ hu=>by kernel_rfl⟩) hS ?_;simp only[aq];refine aW (i:=8) (v:=(.pointer (some ⟨g,b,none⟩))) (fun _=>True) (fun _ _=>trivial) (.inl fun _=>trivial) rfl aa aa aa (by decide) aa (by decide) (fun _ _ _ h=>h) (.inl ⟨by kernel_rfl,fun x_ hu=>by go_simp⟩) hS ?_;simp only[aq]
 refine aW (i:=9) (v:=(.int .u32 xb)) _ (fun _ h=>h) (.inr aa) rfl aa aa aa (by decide) aa (by decide) (fun _ _ _ h=>h) (.inl ⟨by kernel_rfl,fun x_ hu=>by have c:=hu.2.2.1; clear hu hS hB; go_simp⟩) hS ?_;simp only[aq];refine aW (i:=10) (v:=(.int .i64 c)) (fun _=>True) (fun _ _=>trivial) (.inl fun _=>trivial) rfl aa aa aa (by decide) aa (by decide) (fun _ _ _ h=>h) (.inl ⟨by kernel_rfl,fun x_ hu=>by kernel_rfl⟩) hS ?_;simp only[aq];refine aW (i:=11) (v:=(.pointer (some ⟨g,c,none⟩))) (fun _=>True) (fun _ _=>trivial) (.inl fun _=>trivial) rfl aa aa aa (by decide) aa (by decide) (fun _ _ _ h=>h) (.inl ⟨by kernel_rfl,fun x_ hu=>by go_simp⟩) hS ?_;simp only[aq];refine aW (i:=12) (v:=(.int .u32 xc)) _ (fun _ h=>h) (.inr aa) rfl aa aa aa (by decide) aa (by decide) (fun _ _ _ h=>h) (.inl ⟨by kernel_rfl,fun x_ hu=>by have c:=hu.2.2.2.1; clear hu hS hB; go_simp⟩) hS ?_;simp only[aq]
 refine aW (i:=13) (v:=(.int .i64 d)) (fun _=>True) (fun _ _=>trivial) (.inl fun _=>trivial) rfl aa aa aa (by decide) aa (by decide) (fun _ _ _ h=>h) (.inl ⟨by kernel_rfl,fun x_ hu=>by kernel_rfl⟩) hS ?_;simp only[aq];refine aW (i:=14) (v:=(.pointer (some ⟨g,d,none⟩))) (fun _=>True) (fun _ _=>trivial) (.inl fun _=>trivial) rfl aa aa aa (by decide) aa (by decide) (fun _ _ _ h=>h) (.inl ⟨by kernel_rfl,fun x_ hu=>by go_simp⟩) hS ?_;simp only[aq];refine aW (i:=15) (v:=(.int .u32 xd)) _ (fun _ h=>h) (.inr aa) rfl aa aa aa (by decide) aa (by decide) (fun _ _ _ h=>h) (.inl ⟨by kernel_rfl,fun x_ hu=>by have c:=hu.2.2.2.2; clear hu hS hB; go_simp⟩) hS ?_;simp only[aq];refine anyC_last aa rfl (fun K hK=>?_);refine az aa 190 #[.int .u32 xa,.int .u32 xb,.int .u32 xc,.int .u32 xd] aa ((quarter_ok xa xb xc xd _).mono ?_);rintro r v ⟨rfl,hg⟩;refine⟨_,rfl,?_⟩;replace hB:=hB.more hg;clear hg hS
 refine hK.out _ _ ?_;clear hK K;generalize quar xa xb xc xd=q at *;simp only[aq];refine ar (i:=17) (v:=(qv q)) #[true,true,true,true,true,true,true,true,true,true,true,true,true,true,true,true,true,false,false,false,false,false,false,false,false,false,false,false,false,false] rfl aa aa aa aa (fun _ _ _ h=>h) (.inl ⟨by kernel_rfl,fun x_ hu=>by kernel_rfl⟩) trivial ?_;simp only[aq];refine ar (i:=18) (v:=(.int .u32 q.a)) #[true,true,true,true,true,true,true,true,true,true,true,true,true,true,true,true,true,true,false,false,false,false,false,false,false,false,false,false,false,false] rfl aa aa aa aa (fun _ _ _ h=>h) (.inl ⟨by kernel_rfl,fun x_ hu=>by kernel_rfl⟩) trivial ?_;simp only[aq]
 refine ar (i:=19) (v:=(.int .u32 q.b)) #[true,true,true,true,true,true,true,true,true,true,true,true,true,true,true,true,true,true,true,false,false,false,false,false,false,false,false,false,false,false] rfl aa aa aa aa (fun _ _ _ h=>h) (.inl ⟨by kernel_rfl,fun x_ hu=>by kernel_rfl⟩) trivial ?_;simp only[aq];refine ar (i:=20) (v:=(.int .u32 q.c)) #[true,true,true,true,true,true,true,true,true,true,true,true,true,true,true,true,true,true,true,true,false,false,false,false,false,false,false,false,false,false] rfl aa aa aa aa (fun _ _ _ h=>h) (.inl ⟨by kernel_rfl,fun x_ hu=>by kernel_rfl⟩) trivial ?_;simp only[aq]
 refine ar (i:=21) (v:=(.int .u32 q.d)) #[true,true,true,true,true,true,true,true,true,true,true,true,true,true,true,true,true,true,true,true,true,false,false,false,false,false,false,false,false,false] rfl aa aa aa aa (fun _ _ _ h=>h) (.inl ⟨by kernel_rfl,fun x_ hu=>by kernel_rfl⟩) trivial ?_;simp only[aq];refine ar (i:=22) (v:=(.pointer (some ⟨g,a,none⟩))) #[true,true,true,true,true,true,true,true,true,true,true,true,true,true,true,true,true,true,true,true,true,true,false,false,false,false,false,false,false,false] rfl aa aa aa aa (fun _ _ _ h=>h) (.inl ⟨by kernel_rfl,fun x_ hu=>by go_simp⟩) trivial ?_;simp only[aq];have fz:=aO (i:=a) (hB.get 0 (x:=⟨g,uc (W),192⟩) rfl);have cz:=br (hB.get 0 (x:=⟨g,uc (W),192⟩) rfl) a (by (try simp only[List.length_set]); omega);generalize List.getD _ _ _=z0 at cz;have hB2:=hB.cell 0 (x:=⟨g,uc (W),192⟩) rfl a (.int .u32 q.a)
 simp only[List.set_cons_zero,cY] at hB2;clear hB;refine ay (i:=23) aa rfl (fun K hK=>?_);replace hK:=ao hK;replace hB2:=ao hB2;go_simp;replace hB:=aj hB2;refine(aj hK).out _ _ trivial (fun _=>?_);clear hK K hB2 fz cz;generalize World.setCell _ _ _=v at *;simp only[aq];refine ar (i:=24) (v:=(.pointer (some ⟨g,b,none⟩))) #[true,true,true,true,true,true,true,true,true,true,true,true,true,true,true,true,true,true,true,true,true,true,true,true,false,false,false,false,false,false] rfl aa aa aa aa (fun _ _ _ h=>h) (.inl ⟨by kernel_rfl,fun x_ hu=>by go_simp⟩) trivial ?_;simp only[aq];have fz:=aO (i:=b) (hB.get 0 (x:=⟨g,uc ((W).set a q.a),192⟩) rfl);have cz:=br (hB.get 0 (x:=⟨g,uc ((W).set a q.a),192⟩) rfl) b (by (try simp only[List.length_set]); omega);generalize List.getD _ _ _=z1 at cz;have hB2:=hB.cell 0 (x:=⟨g,uc ((W).set a q.a),192⟩) rfl b (.int .u32 q.b)
 simp only[List.set_cons_zero,cY] at hB2;clear hB;refine ay (i:=25) aa rfl (fun K hK=>?_);replace hK:=ao hK;replace hB2:=ao hB2;go_simp;replace hB:=aj hB2;refine(aj hK).out _ _ trivial (fun _=>?_);clear hK K hB2 fz cz;generalize World.setCell _ _ _=v at *;simp only[aq];refine ar (i:=26) (v:=(.pointer (some ⟨g,c,none⟩))) #[true,true,true,true,true,true,true,true,true,true,true,true,true,true,true,true,true,true,true,true,true,true,true,true,true,true,false,false,false,false] rfl aa aa aa aa (fun _ _ _ h=>h) (.inl ⟨by kernel_rfl,fun x_ hu=>by go_simp⟩) trivial ?_;simp only[aq];have fz:=aO (i:=c) (hB.get 0 (x:=⟨g,uc (((W).set a q.a).set b q.b),192⟩) rfl);have cz:=br (hB.get 0 (x:=⟨g,uc (((W).set a q.a).set b q.b),192⟩) rfl) c (by (try simp only[List.length_set]); omega);generalize List.getD _ _ _=z2 at cz;have hB2:=hB.cell 0 (x:=⟨g,uc (((W).set a q.a).set b q.b),192⟩) rfl c (.int .u32 q.c)
 simp only[List.set_cons_zero,cY] at hB2;clear hB;refine ay (i:=27) aa rfl (fun K hK=>?_);replace hK:=ao hK;replace hB2:=ao hB2;go_simp;replace hB:=aj hB2;refine(aj hK).out _ _ trivial (fun _=>?_);clear hK K hB2 fz cz;generalize World.setCell _ _ _=v at *;simp only[aq];refine ar (i:=28) (v:=(.pointer (some ⟨g,d,none⟩))) #[true,true,true,true,true,true,true,true,true,true,true,true,true,true,true,true,true,true,true,true,true,true,true,true,true,true,true,true,false,false] rfl aa aa aa aa (fun _ _ _ h=>h) (.inl ⟨by kernel_rfl,fun x_ hu=>by go_simp⟩) trivial ?_;simp only[aq];have fz:=aO (i:=d) (hB.get 0 (x:=⟨g,uc ((((W).set a q.a).set b q.b).set c q.c),192⟩) rfl);have cz:=br (hB.get 0 (x:=⟨g,uc ((((W).set a q.a).set b q.b).set c q.c),192⟩) rfl) d (by (try simp only[List.length_set]); omega);generalize List.getD _ _ _=z3 at cz
 have hB2:=hB.cell 0 (x:=⟨g,uc ((((W).set a q.a).set b q.b).set c q.c),192⟩) rfl d (.int .u32 q.d);simp only[List.set_cons_zero,cY] at hB2;clear hB;refine ay (i:=29) aa rfl (fun K hK=>?_);replace hK:=ao hK;replace hB2:=ao hB2;go_simp;replace hB:=aj hB2;refine(aj hK).out _ _ trivial (fun _=>?_);clear hK K hB2 fz cz;generalize World.setCell _ _ _=v at *;simp only[aq];refine aF aa ?_
 go_end0
 rw[aj hT];exact⟨rfl,hB⟩
def dbl (W:List Int):List Int:=qp (qp (qp (qp (qp (qp (qp (qp W 0 4 8 12) 1 5 9 13) 2 6 10 14) 3 7 11 15) 0 5 10 15) 1 6 11 12) 2 7 8 13) 3 4 9 14
theorem dbl_len (W:List Int):(dbl W).length=W.length:=by
 unfold dbl;simp only[dB]
def rn (W:List Int):Nat→List Int
 | 0=>W
 | n+1=>dbl (rn W n)
theorem rn_len (W:List Int):∀ n,(rn W n).length=W.length
 | 0=>rfl
 | n+1=>by rw[rn,dbl_len,rn_len W n]
def Z16:List Int:=List.replicate 16 0
theorem Tryz.info16:(Tryz.prog.info? 192).map (·.size)=some 16:=by kernel_rfl
theorem Tryz.info64:(Tryz.prog.info? 194).map (·.size)=some 64:=by kernel_rfl
def Rnd (W:List Int) (w:World) (r:Ending) (w':World):Prop:=r=.returned (.agg (uc W))∧Gr w w'
theorem rounds_ok (W:List Int) (hW:W.length=16) (w:World):Calls Tryz.prog 154 #[.agg (uc W)] w (Rnd (rn W 10) w):=by
 obtain⟨T,hT⟩:∃ T,T=Rnd (rn W 10) w:=⟨_,rfl⟩;rw[← hT];replace hT:=ao hT;obtain⟨S,hS⟩:∃ S,S=uc W:=⟨_,rfl⟩;rw[← hS];replace hS:=ao hS;have hmf:∀ (fn:Fn) (first cap:Array Value) (w:World),(Instr.makeFunc fn first cap).run Tryz.prog w=.ok (.func fn first cap) w:=fun _ _ _ _=>rfl;go_enter Tryz.func154,Tryz.ntmps154;go_wp2_with fail;have hB:=((Bl.nil w).new S 192).new #[.int .u32 0,.int .u32 0,.int .u32 0,.int .u32 0,.int .u32 0,.int .u32 0,.int .u32 0,.int .u32 0,.int .u32 0,.int .u32 0,.int .u32 0,.int .u32 0,.int .u32 0,.int .u32 0,.int .u32 0,.int .u32 0] 192;simp only[aB,ac] at hB;generalize World.alloc _ _=u at *;rw[aj hS] at hB;replace hB:Hid (Bl w [⟨w.heap.size,uc W,192⟩,⟨w.heap.size+1,uc Z16,192⟩] u):=ao hB
 go_loopw [5] (fun i wr=>∃ n:Nat,∃ m:List Int,n≤10∧i=.int .i64 n∧Hid (m=rn W n)∧Hid (Bl w [⟨w.heap.size,uc m,192⟩,⟨w.heap.size+1,uc Z16,192⟩] wr)) (fun i _=>10 - (intOf i).toNat)
 case atStart=>exact⟨0,W,by omega,rfl,rfl,hB⟩
 case round =>
 clear hB;obtain⟨n,m,hn,rfl,hm,hB⟩:=hrel;have hml:m.length=16:=by rw[aj hm,rn_len]; exact hW
 by_cases hl:n<10
 ·have hm2:Hid (dbl m=rn W (n+1)):=by
   rw[aj hm];rfl
  have nI:(n:Int)<10:=by omega
  go_upto_region 4 with fail;replace hB:=aj hB;refine ag ?_;refine ak (.func (.func 189) #[] #[.pointer (some ⟨w.heap.size,0,none⟩)]) aa aa ?_;simp only[aq];refine av 189 #[.int .i64 0,.int .i64 4,.int .i64 8,.int .i64 12,.pointer (some ⟨w.heap.size,0,none⟩)] aa aa ((bV w w.heap.size m hml [⟨w.heap.size+1,uc Z16,192⟩] 0 4 8 12 (by decide) (by decide) (by decide) (by decide) _ hB).mono ?_);rintro r v0 ⟨rfl,hB2⟩;refine⟨_,rfl,?_⟩;clear hB;replace hml:=(dB m 0 4 8 12).trans hml;generalize e1:qp m 0 4 8 12=m1 at hB2 hml;replace e1:=ao e1;simp only[aq];refine ai ?_;replace hB:=ao hB2;clear hB2;go_upto_region 5 with fail;replace hB:=aj hB;refine ag ?_;refine ak (.func (.func 189) #[] #[.pointer (some ⟨w.heap.size,0,none⟩)]) aa aa ?_;simp only[aq]
  refine av 189 #[.int .i64 1,.int .i64 5,.int .i64 9,.int .i64 13,.pointer (some ⟨w.heap.size,0,none⟩)] aa aa ((bV w w.heap.size m1 hml [⟨w.heap.size+1,uc Z16,192⟩] 1 5 9 13 (by decide) (by decide) (by decide) (by decide) _ hB).mono ?_);rintro r v1 ⟨rfl,hB2⟩;refine⟨_,rfl,?_⟩;clear hB;replace hml:=(dB m1 1 5 9 13).trans hml;generalize e2:qp m1 1 5 9 13=m2 at hB2 hml;replace e2:=ao e2;simp only[aq];refine ai ?_;replace hB:=ao hB2;clear hB2;go_upto_region 6 with fail;replace hB:=aj hB;refine ag ?_;refine ak (.func (.func 189) #[] #[.pointer (some ⟨w.heap.size,0,none⟩)]) aa aa ?_;simp only[aq];refine av 189 #[.int .i64 2,.int .i64 6,.int .i64 10,.int .i64 14,.pointer (some ⟨w.heap.size,0,none⟩)] aa aa ((bV w w.heap.size m2 hml [⟨w.heap.size+1,uc Z16,192⟩] 2 6 10 14 (by decide) (by decide) (by decide) (by decide) _ hB).mono ?_);rintro r v2 ⟨rfl,hB2⟩;refine⟨_,rfl,?_⟩;clear hB
  replace hml:=(dB m2 2 6 10 14).trans hml;generalize e3:qp m2 2 6 10 14=m3 at hB2 hml;replace e3:=ao e3;simp only[aq];refine ai ?_;replace hB:=ao hB2;clear hB2;go_upto_region 7 with fail;replace hB:=aj hB;refine ag ?_;refine ak (.func (.func 189) #[] #[.pointer (some ⟨w.heap.size,0,none⟩)]) aa aa ?_;simp only[aq];refine av 189 #[.int .i64 3,.int .i64 7,.int .i64 11,.int .i64 15,.pointer (some ⟨w.heap.size,0,none⟩)] aa aa ((bV w w.heap.size m3 hml [⟨w.heap.size+1,uc Z16,192⟩] 3 7 11 15 (by decide) (by decide) (by decide) (by decide) _ hB).mono ?_);rintro r v3 ⟨rfl,hB2⟩;refine⟨_,rfl,?_⟩;clear hB;replace hml:=(dB m3 3 7 11 15).trans hml;generalize e4:qp m3 3 7 11 15=m4 at hB2 hml;replace e4:=ao e4;simp only[aq];refine ai ?_;replace hB:=ao hB2;clear hB2;go_upto_region 8 with fail;replace hB:=aj hB;refine ag ?_
  refine ak (.func (.func 189) #[] #[.pointer (some ⟨w.heap.size,0,none⟩)]) aa aa ?_;simp only[aq];refine av 189 #[.int .i64 0,.int .i64 5,.int .i64 10,.int .i64 15,.pointer (some ⟨w.heap.size,0,none⟩)] aa aa ((bV w w.heap.size m4 hml [⟨w.heap.size+1,uc Z16,192⟩] 0 5 10 15 (by decide) (by decide) (by decide) (by decide) _ hB).mono ?_);rintro r v4 ⟨rfl,hB2⟩;refine⟨_,rfl,?_⟩;clear hB;replace hml:=(dB m4 0 5 10 15).trans hml;generalize e5:qp m4 0 5 10 15=m5 at hB2 hml;replace e5:=ao e5;simp only[aq];refine ai ?_;replace hB:=ao hB2;clear hB2;go_upto_region 9 with fail;replace hB:=aj hB;refine ag ?_;refine ak (.func (.func 189) #[] #[.pointer (some ⟨w.heap.size,0,none⟩)]) aa aa ?_;simp only[aq]
  refine av 189 #[.int .i64 1,.int .i64 6,.int .i64 11,.int .i64 12,.pointer (some ⟨w.heap.size,0,none⟩)] aa aa ((bV w w.heap.size m5 hml [⟨w.heap.size+1,uc Z16,192⟩] 1 6 11 12 (by decide) (by decide) (by decide) (by decide) _ hB).mono ?_);rintro r v5 ⟨rfl,hB2⟩;refine⟨_,rfl,?_⟩;clear hB;replace hml:=(dB m5 1 6 11 12).trans hml;generalize e6:qp m5 1 6 11 12=m6 at hB2 hml;replace e6:=ao e6;simp only[aq];refine ai ?_;replace hB:=ao hB2;clear hB2;go_upto_region 10 with fail;replace hB:=aj hB;refine ag ?_;refine ak (.func (.func 189) #[] #[.pointer (some ⟨w.heap.size,0,none⟩)]) aa aa ?_;simp only[aq];refine av 189 #[.int .i64 2,.int .i64 7,.int .i64 8,.int .i64 13,.pointer (some ⟨w.heap.size,0,none⟩)] aa aa ((bV w w.heap.size m6 hml [⟨w.heap.size+1,uc Z16,192⟩] 2 7 8 13 (by decide) (by decide) (by decide) (by decide) _ hB).mono ?_);rintro r v6 ⟨rfl,hB2⟩;refine⟨_,rfl,?_⟩;clear hB
  replace hml:=(dB m6 2 7 8 13).trans hml;generalize e7:qp m6 2 7 8 13=m7 at hB2 hml;replace e7:=ao e7;simp only[aq];refine ai ?_;replace hB:=ao hB2;clear hB2;go_upto_region 11 with fail;replace hB:=aj hB;refine ag ?_;refine ak (.func (.func 189) #[] #[.pointer (some ⟨w.heap.size,0,none⟩)]) aa aa ?_;simp only[aq];refine av 189 #[.int .i64 3,.int .i64 4,.int .i64 9,.int .i64 14,.pointer (some ⟨w.heap.size,0,none⟩)] aa aa ((bV w w.heap.size m7 hml [⟨w.heap.size+1,uc Z16,192⟩] 3 4 9 14 (by decide) (by decide) (by decide) (by decide) _ hB).mono ?_);rintro r v7 ⟨rfl,hB2⟩;refine⟨_,rfl,?_⟩;clear hB;replace hml:=(dB m7 3 4 9 14).trans hml;generalize e8:qp m7 3 4 9 14=m8 at hB2 hml;replace e8:=ao e8;simp only[aq];refine ai ?_;replace hB:=ao hB2;clear hB2;have hm3:Hid (m8=rn W (n+1)):=by
   rw[← aj hm2];unfold dbl;rw[aj e1,aj e2,aj e3,aj e4,aj e5,aj e6,aj e7,aj e8];exact rfl
  clear e1 e2 e3 e4 e5 e6 e7 e8 hm2 hm;go_wp2_with fail;go_roundw
  case rel=>exact⟨n+1,m8,by omega,by go_num,hm3,hB⟩
  case measure=>simp[intOf]; omega
 ·have e:n=10:=by omega
  subst e;go_upto_region 13 with fail;replace hB:=aj hB;have hl16:=(rn_len W 10).trans hW;rw[aj hm] at hB;generalize rn W 10=M at *;refine ag ?_;refine ak (.agg (uc M)) aa (ax _ 192 (.tmp 1) rfl (w.heap.size) aa (uc M) 192 _ (hB.get 0 (x:=⟨w.heap.size,uc M,192⟩) rfl) Tryz.underlying192 rfl (by rw[Tryz.info16,aT,hl16])) ?_;simp only[aq];refine aA 192 (.tmp 2) (.tmp 24) (w.heap.size+1) (uc M) 192 (uc Z16) aa rfl aa aa (hB.get 1 (x:=⟨w.heap.size+1,uc Z16,192⟩) rfl) (by rw[Tryz.info16,aT,hl16]) ((show (uc Z16).size=16 from rfl).trans ((aT _).trans hl16).symm) (de _) ?_;replace hB:=hB.set 1 (x:=⟨w.heap.size+1,uc Z16,192⟩) rfl (uc M);simp only[ab] at hB;generalize World.setRow _ _ _=u3 at *;simp only[aq];refine ai ?_;go_wp2_with fail;rw[aj hT]
  exact bodyPost_ret (v:=.agg (uc M)) (results_cell_row Tryz.results154 _ _ (w.heap.size+1) 192 (uc M) (0,0) _ rfl (hB.get 1 (x:=⟨w.heap.size+1,uc M,192⟩) rfl) Tryz.underlying192 rfl (by rw[Tryz.info16,aT,hl16])) rfl (⟨rfl,hB.gr⟩)
end Go.Proofs.YtbkkibhhfmgojaaGreatDoor
namespace Go.Proofs.YtbkkibhhfmgojaaGreatDoor
open Go.RowKit
theorem index_W (SB:Array Value) (n:Nat) (x:Int) (hn:n<16) (h:SB[n]?=some (.int .u32 x)) (w:World):(Instr.index 192 (.agg SB) (.int .i64 n)).run Tryz.prog w=.ok (.int .u32 x) w:=by
 simp[Instr.index,run_underlying Tryz.underlying192,asIntOf,go_sem];rw[if_pos hn,h];rfl
theorem index_K (SB:Array Value) (n:Nat) (x:Int) (hn:n<32) (h:SB[n]?=some (.int .u8 x)) (w:World):(Instr.index 23 (.agg SB) (.int .i64 n)).run Tryz.prog w=.ok (.int .u8 x) w:=by
 simp[Instr.index,run_underlying Tryz.underlying23,asIntOf,go_sem];rw[if_pos hn,h];rfl
theorem index_N (SB:Array Value) (n:Nat) (x:Int) (hn:n<12) (h:SB[n]?=some (.int .u8 x)) (w:World):(Instr.index 104 (.agg SB) (.int .i64 n)).run Tryz.prog w=.ok (.int .u8 x) w:=by
 simp[Instr.index,run_underlying Tryz.underlying104,asIntOf,go_sem];rw[if_pos hn,h];rfl
def smf (A B:List Int) (i:Nat):Int:=ad (A.getD i 0) (B.getD i 0)
def sm (A B:List Int):List Int:=(List.range 16).map (smf A B)
theorem sm_len (A B:List Int):(sm A B).length=16:=by simp[sm]
theorem and_ok (A B:List Int) (hA:A.length=16) (hB0:B.length=16) (w:World):Calls Tryz.prog 155 #[.agg (uc A),.agg (uc B)] w (Rnd (sm A B) w):=by
 obtain⟨T,hT⟩:∃ T,T=Rnd (sm A B) w:=⟨_,rfl⟩;rw[← hT];replace hT:=ao hT;obtain⟨SA,hSA⟩:∃ S,S=uc A:=⟨_,rfl⟩;obtain⟨SB,hSB⟩:∃ S,S=uc B:=⟨_,rfl⟩;rw[← hSA,← hSB];have hgB:∀ n,n<16→SB[n]?=some (.int .u32 (B.getD n 0)):=fun n hn=>by rw[hSB]; exact uc_get B n (by omega)
 have hSs:SB.size=16:=by rw[hSB,aT,hB0]
 replace hSA:=ao hSA;replace hgB:=ao hgB;clear hSB;go_enter Tryz.func155,Tryz.ntmps155;go_upto_region 1 with fail;have hB:=(((Bl.nil w).new SA 192).new SB 192).new #[.int .u32 0,.int .u32 0,.int .u32 0,.int .u32 0,.int .u32 0,.int .u32 0,.int .u32 0,.int .u32 0,.int .u32 0,.int .u32 0,.int .u32 0,.int .u32 0,.int .u32 0,.int .u32 0,.int .u32 0,.int .u32 0] 192;simp only[aB,ac] at hB;generalize World.alloc _ _=u at *;rw[aj hSA] at hB;replace hB:Bl w [⟨w.heap.size,uc A,192⟩,⟨w.heap.size+1,SB,192⟩,⟨w.heap.size+1+1,uc Z16,192⟩] u:=hB;refine ag ?_;refine ak (.agg SB) aa (ax _ 192 (.tmp 3) rfl (w.heap.size+1) aa SB 192 _ (hB.get 1 (x:=⟨w.heap.size+1,SB,192⟩) rfl) Tryz.underlying192 rfl (by rw[Tryz.info16,hSs])) ?_;simp only[aq];refine ak (.int .i64 0) aa aa ?_;simp only[aq];refine ai ?_;replace hB:=ao hB;go_wp2_with fail
 go_loopw [8] (fun i wr=>∃ n:Nat,∃ m:List Int,n≤16∧i=.int .i64 n∧Hid (m=fil (smf A B) n A)∧Hid (Bl w [⟨w.heap.size,uc m,192⟩,⟨w.heap.size+1,SB,192⟩,⟨w.heap.size+1+1,uc Z16,192⟩] wr)) (fun i _=>16 - (intOf i).toNat)
 case atStart=>exact⟨0,A,by omega,rfl,(fil_zero _ _).symm,hB⟩
 case round =>
 clear hB;obtain⟨n,m,hn,rfl,hm,hB⟩:=hrel;have hml:m.length=16:=by rw[aj hm,fil_len _ _ _ (by omega)]; exact hA
 by_cases hl:n<16
 ·have cx:=index_W SB n _ hl ((aj hgB) n hl);have c0:=br ((aj hB).get 0 (x:=⟨w.heap.size,uc m,192⟩) rfl) n (by omega);have fz:=aO (i:=n) ((aj hB).get 0 (x:=⟨w.heap.size,uc m,192⟩) rfl);have e0:m.getD n 0=A.getD n 0:=by rw[aj hm,fil_hi _ _ _ _ (Nat.le_refl n) (by omega)]
  rw[e0] at c0;have hm2:Hid (m.set n (smf A B n)=fil (smf A B) (n+1) A):=by
   rw[aj hm];exact fil_set _ _ _ (by omega)
  have hB2:=(aj hB).cell 0 (x:=⟨w.heap.size,uc m,192⟩) rfl n (.int .u32 (smf A B n));simp only[List.set_cons_zero,cY] at hB2;have hs:smf A B n=ad (A.getD n 0) (B.getD n 0):=rfl;rw[hs] at hB2 hm2;clear hs e0;generalize A.getD n 0=x at *;generalize B.getD n 0=y at *;replace hB2:=ao hB2;have nI:(n:Int)<16:=by omega
  clear hn;go_wp2_with fail;go_roundw
  case rel=>exact⟨n+1,_,by omega,by go_num,hm2,hB2⟩
  case measure=>simp[intOf]; omega
 ·have e:n=16:=by omega
  subst e;have hM:m=sm A B:=by
   rw[aj hm];unfold sm;rw[← hA];exact fil_all _ _
  clear hm;go_upto_region 6 with fail;replace hB:=aj hB;refine ag ?_;refine ak (.agg (uc m)) aa (ax _ 192 (.tmp 2) rfl (w.heap.size) aa (uc m) 192 _ (hB.get 0 (x:=⟨w.heap.size,uc m,192⟩) rfl) Tryz.underlying192 rfl (by rw[Tryz.info16,aT,hml])) ?_;simp only[aq];refine aA 192 (.tmp 4) (.tmp 19) (w.heap.size+1+1) (uc m) 192 (uc Z16) aa rfl aa aa (hB.get 2 (x:=⟨w.heap.size+1+1,uc Z16,192⟩) rfl) (by rw[Tryz.info16,aT,hml]) ((show (uc Z16).size=16 from rfl).trans ((aT _).trans hml).symm) (de _) ?_;replace hB:=hB.set 2 (x:=⟨w.heap.size+1+1,uc Z16,192⟩) rfl (uc m);simp only[ab] at hB;generalize World.setRow _ _ _=u3 at *;simp only[aq];refine ai ?_;go_wp2_with fail;rw[aj hT,← hM]
  exact bodyPost_ret (v:=.agg (uc m)) (results_cell_row Tryz.results155 _ _ (w.heap.size+1+1) 192 (uc m) (0,0) _ rfl (hB.get 2 (x:=⟨w.heap.size+1+1,uc m,192⟩) rfl) Tryz.underlying192 rfl (by rw[Tryz.info16,aT,hml])) rfl (⟨rfl,hB.gr⟩)
def btf (W:List Int) (i:Nat):Int:=W.getD (i / 4) 0 / 2 ^ (i % 4 * 8) % 256
def bts (W:List Int):List Int:=(List.range 64).map (btf W)
theorem bts_len (W:List Int):(bts W).length=64:=by simp[bts]
def Bts (W:List Int) (w:World) (r:Ending) (w':World):Prop:=r=.returned (.agg (kc W))∧Gr w w'
theorem bytes_ok (A:List Int) (hA:A.length=16) (w:World):Calls Tryz.prog 156 #[.agg (uc A)] w (Bts (bts A) w):=by
 obtain⟨T,hT⟩:∃ T,T=Bts (bts A) w:=⟨_,rfl⟩;rw[← hT];replace hT:=ao hT;obtain⟨SA,hSA⟩:∃ S,S=uc A:=⟨_,rfl⟩;rw[← hSA];replace hSA:=ao hSA;go_enter Tryz.func156,Tryz.ntmps156;go_wp2_with fail
 have hB:=(((Bl.nil w).new SA 192).new #[.int .u8 0,.int .u8 0,.int .u8 0,.int .u8 0,.int .u8 0,.int .u8 0,.int .u8 0,.int .u8 0,.int .u8 0,.int .u8 0,.int .u8 0,.int .u8 0,.int .u8 0,.int .u8 0,.int .u8 0,.int .u8 0,.int .u8 0,.int .u8 0,.int .u8 0,.int .u8 0,.int .u8 0,.int .u8 0,.int .u8 0,.int .u8 0,.int .u8 0,.int .u8 0,.int .u8 0,.int .u8 0,.int .u8 0,.int .u8 0,.int .u8 0,.int .u8 0,.int .u8 0,.int .u8 0,.int .u8 0,.int .u8 0,.int .u8 0,.int .u8 0,.int .u8 0,.int .u8 0,.int .u8 0,.int .u8 0,.int .u8 0,.int .u8 0,.int .u8 0,.int .u8 0,.int .u8 0,.int .u8 0,.int .u8 0,.int .u8 0,.int .u8 0,.int .u8 0,.int .u8 0,.int .u8 0,.int .u8 0,.int .u8 0,.int .u8 0,.int .u8 0,.int .u8 0,.int .u8 0,.int .u8 0,.int .u8 0,.int .u8 0,.int .u8 0] 194).new #[.int .u8 0,.int .u8 0,.int .u8 0,.int .u8 0,.int .u8 0,.int .u8 0,.int .u8 0,.int .u8 0,.int .u8 0,.int .u8 0,.int .u8 0,.int .u8 0,.int .u8 0,.int .u8 0,.int .u8 0,.int .u8 0,.int .u8 0,.int .u8 0,.int .u8 0,.int .u8 0,.int .u8 0,.int .u8 0,.int .u8 0,.int .u8 0,.int .u8 0,.int .u8 0,.int .u8 0,.int .u8 0,.int .u8 0,.int .u8 0,.int .u8 0,.int .u8 0,.int .u8 0,.int .u8 0,.int .u8 0,.int .u8 0,.int .u8 0,.int .u8 0,.int .u8 0,.int .u8 0,.int .u8 0,.int .u8 0,.int .u8 0,.int .u8 0,.int .u8 0,.int .u8 0,.int .u8 0,.int .u8 0,.int .u8 0,.int .u8 0,.int .u8 0,.int .u8 0,.int .u8 0,.int .u8 0,.int .u8 0,.int .u8 0,.int .u8 0,.int .u8 0,.int .u8 0,.int .u8 0,.int .u8 0,.int .u8 0,.int .u8 0,.int .u8 0] 194
 simp only[aB,ac] at hB;generalize World.alloc _ _=u at *;rw[aj hSA] at hB;replace hB:Hid (Bl w [⟨w.heap.size,uc A,192⟩,⟨w.heap.size+1,kc Z64,194⟩,⟨w.heap.size+1+1,kc Z64,194⟩] u):=ao hB
 go_loopw [5] (fun i wr=>∃ n:Nat,∃ m:List Int,n≤64∧i=.int .i64 n∧Hid (m=fil (btf A) n Z64)∧Hid (Bl w [⟨w.heap.size,uc A,192⟩,⟨w.heap.size+1,kc Z64,194⟩,⟨w.heap.size+1+1,kc m,194⟩] wr)) (fun i _=>64 - (intOf i).toNat)
 case atStart=>exact⟨0,Z64,by omega,rfl,(fil_zero _ _).symm,hB⟩
 case round =>
 clear hB;obtain⟨n,m,hn,rfl,hm,hB⟩:=hrel;have hzl:Z64.length=64:=rfl;have hml:m.length=64:=by rw[aj hm,fil_len _ _ _ (by omega)]; rfl
 by_cases hl:n<64
 ·obtain⟨q,hq⟩:∃ q,q=n / 4:=⟨_,rfl⟩;obtain⟨s,hs⟩:∃ s,s=n % 4:=⟨_,rfl⟩;obtain⟨s8,hs8⟩:∃ s8,s8=n % 4 * 8:=⟨_,rfl⟩;have c0:=br ((aj hB).get 0 (x:=⟨w.heap.size,uc A,192⟩) rfl) q (by omega);have c1:=bJ ((aj hB).get 2 (x:=⟨w.heap.size+1+1,kc m,194⟩) rfl) n (by omega);have fz:=aO (i:=n) ((aj hB).get 2 (x:=⟨w.heap.size+1+1,kc m,194⟩) rfl);generalize m.getD n 0=z at c1;have hm2:Hid (m.set n (btf A n)=fil (btf A) (n+1) Z64):=by
   rw[aj hm];exact fil_set _ _ _ (by omega)
  have hB2:=(aj hB).cell 2 (x:=⟨w.heap.size+1+1,kc m,194⟩) rfl n (.int .u8 (btf A n));simp only[ab,cD] at hB2;have hf:btf A n=A.getD q 0 / 2 ^ s8 % 256:=by rw[hq,hs8]; rfl
  rw[hf] at hB2 hm2;clear hf;generalize A.getD q 0=x at *;replace hB2:=ao hB2;have nI:(n:Int)<64:=by omega
  have nT:0≤(n:Int):=by omega
  have qI:(q:Int)<16:=by omega
  have q2:q<16:=by omega
  have e1:(n:Int).tdiv 4=(q:Int):=by rw[Int.tdiv_eq_ediv_of_nonneg nT]; omega
  have e2:(n:Int).tmod 4=(s:Int):=by rw[Int.tmod_eq_emod_of_nonneg nT]; omega
  have e3:(s:Int) * 8=(s8:Int):=by omega
  have g1:IntKind.i64.wrap (q:Int)=(q:Int):=by rw[IntKind.wrap_i64]; omega
  have g2:IntKind.i64.wrap (s8:Int)=(s8:Int):=by rw[IntKind.wrap_i64]; omega
  have g3:0≤(s8:Int):=by omega
  have g4:s8≤32:=by omega
  have g5:min s8 32=s8:=by omega
  replace hq:=ao hq;replace hs:=ao hs;replace hs8:=ao hs8;clear hn;go_wp2_with fail;go_roundw
  case rel=>exact⟨n+1,_,by omega,by go_num,hm2,hB2⟩
  case measure=>simp[intOf]; omega
 ·have e:n=64:=by omega
  subst e;have hM:m=bts A:=by
   rw[aj hm];have h:=fil_all (btf A) Z64;rw[hzl] at h;exact h
  clear hm;go_upto_region 7 with fail;replace hB:=aj hB;refine ag ?_;refine ak (.agg (kc m)) aa (ax _ 194 (.tmp 3) rfl (w.heap.size+1+1) aa (kc m) 194 _ (hB.get 2 (x:=⟨w.heap.size+1+1,kc m,194⟩) rfl) Tryz.underlying194 rfl (by rw[Tryz.info64,au,hml])) ?_;simp only[aq];refine aA 194 (.tmp 2) (.tmp 20) (w.heap.size+1) (kc m) 194 (kc Z64) aa rfl aa aa (hB.get 1 (x:=⟨w.heap.size+1,kc Z64,194⟩) rfl) (by rw[Tryz.info64,au,hml]) ((show (kc Z64).size=64 from rfl).trans ((au _).trans hml).symm) (aL _) ?_;replace hB:=hB.set 1 (x:=⟨w.heap.size+1,kc Z64,194⟩) rfl (kc m);simp only[ab] at hB;generalize World.setRow _ _ _=u3 at *;simp only[aq];refine ai ?_;go_wp2_with fail;rw[aj hT,← hM]
  exact bodyPost_ret (v:=.agg (kc m)) (results_cell_row Tryz.results156 _ _ (w.heap.size+1) 194 (kc m) (0,0) _ rfl (hB.get 1 (x:=⟨w.heap.size+1,kc m,194⟩) rfl) Tryz.underlying194 rfl (by rw[Tryz.info64,au,hml])) rfl (⟨rfl,hB.gr⟩)
def W0:List Int:=[1634760805,857760878,2036477234,1797285236,0,0,0,0,0,0,0,0,0,0,0,0]
def kst (p n:Nat) (c:Int) (W:List Int):List Int:=W.set (p+n / 4) (bits .or .u32 (W.getD (p+n / 4) 0) (c * 2 ^ (n % 4 * 8) % 4294967296))
def kw (p:Nat) (K W:List Int):Nat→List Int
 | 0=>W
 | n+1=>kst p n (K.getD n 0) (kw p K W n)
theorem kw_len (p:Nat) (K W:List Int):∀ n,(kw p K W n).length=W.length
 | 0=>rfl
 | n+1=>by rw[kw,kst,List.length_set,kw_len p K W n]
def bg (K N:List Int):List Int:=kw 13 N (kw 4 K W0 32) 12
theorem bg_len (K N:List Int):(bg K N).length=16:=by unfold bg; rw[kw_len,kw_len]; rfl
theorem Tryz.infoN:(Tryz.prog.info? 104).map (·.size)=some 12:=by kernel_rfl
theorem begin_ok (K N:List Int) (hK:K.length=32) (hN:N.length=12) (hKb:IsB K) (hNb:IsB N) (w:World):Calls Tryz.prog 127 #[.agg (kc K),.agg (kc N)] w (Rnd (bg K N) w):=by
 obtain⟨T,hT⟩:∃ T,T=Rnd (bg K N) w:=⟨_,rfl⟩;rw[← hT];replace hT:=ao hT;obtain⟨SK,hSK⟩:∃ S,S=kc K:=⟨_,rfl⟩;obtain⟨SN,hSN⟩:∃ S,S=kc N:=⟨_,rfl⟩;rw[← hSK,← hSN];have hKs:SK.size=32:=by rw[hSK,au,hK]
 have hNs:SN.size=12:=by rw[hSN,au,hN]
 replace hSK:Hid (∀ n,n<32→SK[n]?=some (.int .u8 (K.getD n 0))):=fun n hn=>by rw[hSK]; exact kc_get K n (by omega)
 replace hSN:Hid (∀ n,n<12→SN[n]?=some (.int .u8 (N.getD n 0))):=fun n hn=>by rw[hSN]; exact kc_get N n (by omega)
 replace hKb:=ao hKb;replace hNb:=ao hNb;go_enter Tryz.func127,Tryz.ntmps127;go_upto_region 1 with fail;have hB:=(((Bl.nil w).new SK 23).new SN 104).new #[.int .u32 0,.int .u32 0,.int .u32 0,.int .u32 0,.int .u32 0,.int .u32 0,.int .u32 0,.int .u32 0,.int .u32 0,.int .u32 0,.int .u32 0,.int .u32 0,.int .u32 0,.int .u32 0,.int .u32 0,.int .u32 0] 192;simp only[aB,ac] at hB;generalize World.alloc _ _=u at *;refine ag ?_;refine ak (.agg (uc W0)) aa aa ?_;simp only[aq];replace hB:=ao hB;iterate 1 (refine af fun K hK=>?_;go_simp;refine aj hK _ _ ?_;clear hK K)
 replace hB:=(aj hB).new #[.int .u32 0,.int .u32 0,.int .u32 0,.int .u32 0,.int .u32 0,.int .u32 0,.int .u32 0,.int .u32 0,.int .u32 0,.int .u32 0,.int .u32 0,.int .u32 0,.int .u32 0,.int .u32 0,.int .u32 0,.int .u32 0] 192;simp only[ac] at hB;generalize World.alloc _ _=u1 at *;generalize u.heap.size=h3 at *;replace hB:Bl w [⟨w.heap.size,SK,23⟩,⟨w.heap.size+1,SN,104⟩,⟨w.heap.size+1+1,uc Z16,192⟩,⟨h3,uc Z16,192⟩] u1:=hB;refine aA 192 (.tmp 5) (.tmp 10) (h3) (uc W0) 192 (uc Z16) aa rfl aa aa (hB.get 3 (x:=⟨h3,uc Z16,192⟩) rfl) (by rw[Tryz.info16,aT,(show W0.length=16 from rfl)]) ((show (uc Z16).size=16 from rfl).trans ((aT _).trans (show W0.length=16 from rfl)).symm) (de _) ?_;replace hB:=hB.set 3 (x:=⟨h3,uc Z16,192⟩) rfl (uc W0);simp only[ab] at hB;generalize World.setRow _ _ _=u2 at *;simp only[aq];refine ai ?_;replace hB:=ao hB;go_upto_region 2 with fail;replace hB:=aj hB;refine ag ?_
 refine ak (.agg SK) aa (ax _ 23 (.tmp 2) rfl (w.heap.size) aa SK 23 _ (hB.get 0 (x:=⟨w.heap.size,SK,23⟩) rfl) Tryz.underlying23 rfl (by rw[Tryz.infoKey,hKs])) ?_;simp only[aq];refine ak (.int .i64 0) aa aa ?_;simp only[aq];refine ai ?_;replace hB:=ao hB;go_wp2_with fail
 go_loopw [12] (fun i wr=>∃ n:Nat,∃ m:List Int,n≤32∧i=.int .i64 n∧Hid (m=kw 4 K W0 n)∧Hid (Bl w [⟨w.heap.size,SK,23⟩,⟨w.heap.size+1,SN,104⟩,⟨w.heap.size+1+1,uc Z16,192⟩,⟨h3,uc m,192⟩] wr)) (fun i _=>32 - (intOf i).toNat)
 case atStart=>exact⟨0,W0,by omega,rfl,rfl,hB⟩
 case round =>
 clear hB;obtain⟨n,m,hn,rfl,hm,hB⟩:=hrel;have hml:m.length=16:=by rw[aj hm,kw_len]; rfl
 by_cases hl:n<32
 ·have cx:=index_K SK n _ hl ((aj hSK) n hl);obtain⟨q,hq⟩:∃ q,q=n / 4:=⟨_,rfl⟩;obtain⟨q4,hq4⟩:∃ q4,q4=4+n / 4:=⟨_,rfl⟩;obtain⟨s,hs⟩:∃ s,s=n % 4:=⟨_,rfl⟩;obtain⟨s8,hs8⟩:∃ s8,s8=n % 4 * 8:=⟨_,rfl⟩;have c0:=br ((aj hB).get 3 (x:=⟨h3,uc m,192⟩) rfl) q4 (by omega);have fz:=aO (i:=q4) ((aj hB).get 3 (x:=⟨h3,uc m,192⟩) rfl);have hm2:Hid (m.set q4 (bits .or .u32 (m.getD q4 0) (K.getD n 0 * 2 ^ s8 % 4294967296))=kw 4 K W0 (n+1)):=by
   rw[kw,← aj hm,kst,← hq4,← hs8];exact rfl
  have hB2:=(aj hB).drew.cell 3 (x:=⟨h3,uc m,192⟩) rfl q4 (.int .u32 (bits .or .u32 (m.getD q4 0) (K.getD n 0 * 2 ^ s8 % 4294967296)));simp only[ab,cY] at hB2;have hbr:=(aj hKb).at_ n;generalize K.getD n 0=x at *;generalize m.getD q4 0=z at *;replace hB2:=ao hB2;have nI:(n:Int)<32:=by omega
  have nT:0≤(n:Int):=by omega
  have qI:(q4:Int)<16:=by omega
  have q2:q4<16:=by omega
  have e1:(n:Int).tdiv 4=(q:Int):=by rw[Int.tdiv_eq_ediv_of_nonneg nT]; omega
  have e2:(n:Int).tmod 4=(s:Int):=by rw[Int.tmod_eq_emod_of_nonneg nT]; omega
  have e3:(s:Int) * 8=(s8:Int):=by omega
  have e4:4+(q:Int)=(q4:Int):=by omega
  have g1:IntKind.i64.wrap (q:Int)=(q:Int):=by rw[IntKind.wrap_i64]; omega
  have g6:IntKind.i64.wrap (q4:Int)=(q4:Int):=by rw[IntKind.wrap_i64]; omega
  have g2:IntKind.i64.wrap (s8:Int)=(s8:Int):=by rw[IntKind.wrap_i64]; omega
  have g3:0≤(s8:Int):=by omega
  have g4:s8≤32:=by omega
  have g5:min s8 32=s8:=by omega
  replace hq:=ao hq;replace hq4:=ao hq4;replace hs:=ao hs;replace hs8:=ao hs8;clear hn;go_wp2_with fail
  go_still_tail 13,aa
  go_wp2_with fail;go_roundw
  case rel=>exact⟨n+1,_,by omega,by go_num,hm2,hB2⟩
  case measure=>simp[intOf]; omega
 ·have e:n=32:=by omega
  subst e;clear hl;have hpl:Hid (m.length=16):=hml;clear hml;obtain⟨P,hp⟩:∃ P,P=m:=⟨_,rfl⟩;rw[← hp] at hm hpl hB;clear hp m;have hp:Hid (P=kw 4 K W0 32):=hm;clear hm;go_upto_region 7 with fail;replace hB:=aj hB;refine ag ?_;refine ak (.agg SN) aa (ax _ 104 (.tmp 3) rfl (w.heap.size+1) aa SN 104 _ (hB.get 1 (x:=⟨w.heap.size+1,SN,104⟩) rfl) Tryz.underlying104 rfl (by rw[Tryz.infoN,hNs])) ?_;simp only[aq];refine ak (.int .i64 0) aa aa ?_;simp only[aq];refine ai ?_;replace hB:=ao hB;go_wp2_with fail
  go_loopw [31] (fun i wr=>∃ n:Nat,∃ m:List Int,n≤12∧i=.int .i64 n∧Hid (m=kw 13 N P n)∧Hid (Bl w [⟨w.heap.size,SK,23⟩,⟨w.heap.size+1,SN,104⟩,⟨w.heap.size+1+1,uc Z16,192⟩,⟨h3,uc m,192⟩] wr)) (fun i _=>12 - (intOf i).toNat)
  case atStart=>exact⟨0,P,by omega,rfl,rfl,hB⟩
  case round =>
  clear hB;obtain⟨n,m,hn,rfl,hm,hB⟩:=hrel;have hml:m.length=16:=by rw[aj hm,kw_len]; exact aj hpl
  by_cases hl:n<12
  ·have cx:=index_N SN n _ hl ((aj hSN) n hl);obtain⟨q,hq⟩:∃ q,q=n / 4:=⟨_,rfl⟩;obtain⟨q4,hq4⟩:∃ q4,q4=13+n / 4:=⟨_,rfl⟩;obtain⟨s,hs⟩:∃ s,s=n % 4:=⟨_,rfl⟩;obtain⟨s8,hs8⟩:∃ s8,s8=n % 4 * 8:=⟨_,rfl⟩;have c0:=br ((aj hB).get 3 (x:=⟨h3,uc m,192⟩) rfl) q4 (by omega);have fz:=aO (i:=q4) ((aj hB).get 3 (x:=⟨h3,uc m,192⟩) rfl);have hm2:Hid (m.set q4 (bits .or .u32 (m.getD q4 0) (N.getD n 0 * 2 ^ s8 % 4294967296))=kw 13 N P (n+1)):=by
    rw[kw,← aj hm,kst,← hq4,← hs8];exact rfl
   have hB2:=(aj hB).drew.cell 3 (x:=⟨h3,uc m,192⟩) rfl q4 (.int .u32 (bits .or .u32 (m.getD q4 0) (N.getD n 0 * 2 ^ s8 % 4294967296)));simp only[ab,cY] at hB2;have hbr:=(aj hNb).at_ n;generalize N.getD n 0=x at *;generalize m.getD q4 0=z at *;replace hB2:=ao hB2;have nI:(n:Int)<12:=by omega
   have nT:0≤(n:Int):=by omega
   have qI:(q4:Int)<16:=by omega
   have q2:q4<16:=by omega
   have e1:(n:Int).tdiv 4=(q:Int):=by rw[Int.tdiv_eq_ediv_of_nonneg nT]; omega
   have e2:(n:Int).tmod 4=(s:Int):=by rw[Int.tmod_eq_emod_of_nonneg nT]; omega
   have e3:(s:Int) * 8=(s8:Int):=by omega
   have e4:13+(q:Int)=(q4:Int):=by omega
   have g1:IntKind.i64.wrap (q:Int)=(q:Int):=by rw[IntKind.wrap_i64]; omega
   have g6:IntKind.i64.wrap (q4:Int)=(q4:Int):=by rw[IntKind.wrap_i64]; omega
   have g2:IntKind.i64.wrap (s8:Int)=(s8:Int):=by rw[IntKind.wrap_i64]; omega
   have g3:0≤(s8:Int):=by omega
   have g4:s8≤32:=by omega
   have g5:min s8 32=s8:=by omega
   replace hq:=ao hq;replace hq4:=ao hq4;replace hs:=ao hs;replace hs8:=ao hs8;clear hn;go_wp2_with fail
   go_still_tail 13,aa
   go_wp2_with fail;go_roundw
   case rel=>exact⟨_,_,_,_,_,_,_,_,_,_,_,_,_,_,_,_,_,_,_,_,⟨n+1,_,by omega,by go_num,hm2,hB2⟩,rfl⟩
   case measure=>simp[intOf]; omega
  ·have e:n=12:=by omega
   subst e;go_upto_region 12 with fail;replace hB:=aj hB;refine ag ?_;refine ak (.agg (uc m)) aa (ax _ 192 (.tmp 5) rfl (h3) aa (uc m) 192 _ (hB.get 3 (x:=⟨h3,uc m,192⟩) rfl) Tryz.underlying192 rfl (by rw[Tryz.info16,aT,hml])) ?_;simp only[aq];refine aA 192 (.tmp 4) (.tmp 49) (w.heap.size+1+1) (uc m) 192 (uc Z16) aa rfl aa aa (hB.get 2 (x:=⟨w.heap.size+1+1,uc Z16,192⟩) rfl) (by rw[Tryz.info16,aT,hml]) ((show (uc Z16).size=16 from rfl).trans ((aT _).trans hml).symm) (de _) ?_;replace hB:=hB.set 2 (x:=⟨w.heap.size+1+1,uc Z16,192⟩) rfl (uc m);simp only[ab] at hB;generalize World.setRow _ _ _=u3 at *;simp only[aq];refine ai ?_;go_wp2_with fail;rw[aj hT,bg,← aj hp,← aj hm]
   exact bodyPost_ret (v:=.agg (uc m)) (results_cell_row Tryz.results127 _ _ (w.heap.size+1+1) 192 (uc m) (0,0) _ rfl (hB.get 2 (x:=⟨w.heap.size+1+1,uc m,192⟩) rfl) Tryz.underlying192 rfl (by rw[Tryz.info16,aT,hml])) rfl (⟨rfl,hB.gr⟩)
def wb (A:List Int) (c:Int):List Int:=bts (sm (rn (A.set 12 c) 10) (A.set 12 c))
theorem wb_len (A:List Int) (c:Int):(wb A c).length=64:=bts_len _
theorem wblock_ok (A:List Int) (hA:A.length=16) (c:Int) (w:World):Calls Tryz.prog 128 #[.agg (uc A),.int .u32 c] w (Bts (wb A c) w):=by
 obtain⟨T,hT⟩:∃ T,T=Bts (wb A c) w:=⟨_,rfl⟩;rw[← hT];unfold wb at hT;replace hT:=ao hT;obtain⟨SA,hSA⟩:∃ S,S=uc A:=⟨_,rfl⟩;rw[← hSA];replace hSA:=ao hSA;go_enter Tryz.func128,Tryz.ntmps128;go_upto_region 1 with fail
 have hB:=((Bl.nil w).new SA 192).new #[.int .u8 0,.int .u8 0,.int .u8 0,.int .u8 0,.int .u8 0,.int .u8 0,.int .u8 0,.int .u8 0,.int .u8 0,.int .u8 0,.int .u8 0,.int .u8 0,.int .u8 0,.int .u8 0,.int .u8 0,.int .u8 0,.int .u8 0,.int .u8 0,.int .u8 0,.int .u8 0,.int .u8 0,.int .u8 0,.int .u8 0,.int .u8 0,.int .u8 0,.int .u8 0,.int .u8 0,.int .u8 0,.int .u8 0,.int .u8 0,.int .u8 0,.int .u8 0,.int .u8 0,.int .u8 0,.int .u8 0,.int .u8 0,.int .u8 0,.int .u8 0,.int .u8 0,.int .u8 0,.int .u8 0,.int .u8 0,.int .u8 0,.int .u8 0,.int .u8 0,.int .u8 0,.int .u8 0,.int .u8 0,.int .u8 0,.int .u8 0,.int .u8 0,.int .u8 0,.int .u8 0,.int .u8 0,.int .u8 0,.int .u8 0,.int .u8 0,.int .u8 0,.int .u8 0,.int .u8 0,.int .u8 0,.int .u8 0,.int .u8 0,.int .u8 0] 194;simp only[aB,ac] at hB;generalize World.alloc _ _=u at *;rw[aj hSA] at hB;replace hB:Bl w [⟨w.heap.size,uc A,192⟩,⟨w.heap.size+1,kc Z64,194⟩] u:=hB
 have c0:=br (hB.get 0 (x:=⟨w.heap.size,uc A,192⟩) rfl) 12 (by omega);have fz:=aO (i:=12) (hB.get 0 (x:=⟨w.heap.size,uc A,192⟩) rfl);generalize A.getD 12 0=z at c0;replace hB:=hB.cell 0 (x:=⟨w.heap.size,uc A,192⟩) rfl 12 (.int .u32 c);simp only[ab,cY] at hB;have hVl:(A.set 12 c).length=16:=by simp[hA]
 generalize A.set 12 c=V at *;replace hB:=ao hB;go_upto_region 2 with fail;replace hB:=aj hB;generalize World.setCell _ _ _=u1 at *;clear c0 fz;refine aE (S:=fun v=>∃ c,Bl w [⟨w.heap.size,uc V,192⟩,⟨w.heap.size+1,c,194⟩] v) aa ?_;replace hB:=hB.drew;generalize World.drew _=u2 at *;simp only[ae,Array.replicate,List.replicate];refine ar (i:=0) (v:=.agg (uc V)) #[false,false,false,false,false,false] rfl aa aa aa aa (fun _ _ _ h=>h) (.inl ⟨by kernel_rfl,fun x_ hu=>by obtain⟨c',hu⟩:=hu; exact ax _ 192 (.tmp 2) rfl (w.heap.size) aa (uc V) 192 _ (hu.get 0 (x:=⟨w.heap.size,uc V,192⟩) rfl) Tryz.underlying192 rfl (by rw[Tryz.info16,aT,hVl])⟩) ⟨_,hB⟩ ?_;simp only[aq]
 refine ar (i:=2) (v:=.agg (uc V)) #[true,false,false,false,false,false] rfl aa aa aa aa (fun _ _ _ h=>h) (.inl ⟨by kernel_rfl,fun x_ hu=>by obtain⟨c',hu⟩:=hu; exact ax _ 192 (.tmp 2) rfl (w.heap.size) aa (uc V) 192 _ (hu.get 0 (x:=⟨w.heap.size,uc V,192⟩) rfl) Tryz.underlying192 rfl (by rw[Tryz.info16,aT,hVl])⟩) ⟨_,hB⟩ ?_;simp only[aq];refine ay (i:=1) aa rfl (fun K hK=>?_);refine az aa 154 #[.agg (uc V)] aa ((rounds_ok V hVl _).mono ?_);rintro r u3 ⟨rfl,hg⟩;refine⟨_,rfl,?_⟩;replace hB:=hB.more hg;clear hg;refine hK.out _ _ ⟨_,hB⟩ (fun _=>?_);clear hK K;simp only[aq];have hRl:=(rn_len V 10).trans hVl;generalize rn V 10=R at *;refine ay (i:=3) aa rfl (fun K hK=>?_);refine az aa 155 #[.agg (uc R),.agg (uc V)] aa ((and_ok R V hRl hVl _).mono ?_);rintro r u4 ⟨rfl,hg⟩;refine⟨_,rfl,?_⟩;replace hB:=hB.more hg;clear hg;refine hK.out _ _ ⟨_,hB⟩ (fun _=>?_);clear hK K;simp only[aq]
 have hSl:=sm_len R V;generalize sm R V=M at *;refine ay (i:=4) aa rfl (fun K hK=>?_);refine az aa 156 #[.agg (uc M)] aa ((bytes_ok M hSl _).mono ?_);rintro r u5 ⟨rfl,hg⟩;refine⟨_,rfl,?_⟩;replace hB:=hB.more hg;clear hg;refine hK.out _ _ ⟨_,hB⟩ (fun _=>?_);clear hK K;simp only[aq];have hDl:=bts_len M;generalize bts M=D at *;refine ay (i:=5) aa rfl (fun K hK=>?_);rw[if_pos aa];refine wp_store_row 194 (.tmp 4) (.tmp 11) rfl (w.heap.size+1) (kc D) aa aa 194 (kc Z64) (hB.get 1 (x:=⟨w.heap.size+1,kc Z64,194⟩) rfl) (by rw[Tryz.info64,au,hDl]) ((show (kc Z64).size=64 from rfl).trans ((au _).trans hDl).symm) (aL _) ?_;replace hB:=hB.set 1 (x:=⟨w.heap.size+1,kc Z64,194⟩) rfl (kc D);simp only[ab] at hB;generalize World.setRow _ _ _=u6 at *;refine hK.out _ _ ⟨_,hB⟩ (fun _=>?_);clear hK K;simp only[aq];refine aF aa ?_;go_wp2_with fail;rw[aj hT]
 exact bodyPost_ret (v:=.agg (kc D)) (results_cell_row Tryz.results128 _ _ (w.heap.size+1) 194 (kc D) (0,0) _ rfl (hB.get 1 (x:=⟨w.heap.size+1,kc D,194⟩) rfl) Tryz.underlying194 rfl (by rw[Tryz.info64,au,hDl])) rfl (⟨rfl,hB.gr⟩)
def bk (K N:List Int) (c:Int):List Int:=wb (bg K N) c
theorem bk_len (K N:List Int) (c:Int):(bk K N c).length=64:=wb_len _ _
theorem block_ok (K N:List Int) (hK:K.length=32) (hN:N.length=12) (hKb:IsB K) (hNb:IsB N) (c:Int) (w:World):Calls Tryz.prog 159 #[.agg (kc K),.int .u32 c,.agg (kc N)] w (Bts (bk K N c) w):=by
 obtain⟨T,hT⟩:∃ T,T=Bts (bk K N c) w:=⟨_,rfl⟩;rw[← hT];unfold bk at hT;replace hT:=ao hT;obtain⟨SK,hSK⟩:∃ S,S=kc K:=⟨_,rfl⟩;obtain⟨SN,hSN⟩:∃ S,S=kc N:=⟨_,rfl⟩;rw[← hSK,← hSN];replace hSK:=ao hSK;replace hSN:=ao hSN;replace hKb:=ao hKb;replace hNb:=ao hNb;go_enter Tryz.func159,Tryz.ntmps159;go_upto_region 1 with fail
 have hB:=(((Bl.nil w).new SK 23).new SN 104).new #[.int .u8 0,.int .u8 0,.int .u8 0,.int .u8 0,.int .u8 0,.int .u8 0,.int .u8 0,.int .u8 0,.int .u8 0,.int .u8 0,.int .u8 0,.int .u8 0,.int .u8 0,.int .u8 0,.int .u8 0,.int .u8 0,.int .u8 0,.int .u8 0,.int .u8 0,.int .u8 0,.int .u8 0,.int .u8 0,.int .u8 0,.int .u8 0,.int .u8 0,.int .u8 0,.int .u8 0,.int .u8 0,.int .u8 0,.int .u8 0,.int .u8 0,.int .u8 0,.int .u8 0,.int .u8 0,.int .u8 0,.int .u8 0,.int .u8 0,.int .u8 0,.int .u8 0,.int .u8 0,.int .u8 0,.int .u8 0,.int .u8 0,.int .u8 0,.int .u8 0,.int .u8 0,.int .u8 0,.int .u8 0,.int .u8 0,.int .u8 0,.int .u8 0,.int .u8 0,.int .u8 0,.int .u8 0,.int .u8 0,.int .u8 0,.int .u8 0,.int .u8 0,.int .u8 0,.int .u8 0,.int .u8 0,.int .u8 0,.int .u8 0,.int .u8 0] 194;simp only[aB,ac] at hB;generalize World.alloc _ _=u at *;rw[aj hSK,aj hSN] at hB
 replace hB:Bl w [⟨w.heap.size,kc K,23⟩,⟨w.heap.size+1,kc N,104⟩,⟨w.heap.size+1+1,kc Z64,194⟩] u:=hB;refine ag ?_;refine ak (.agg (kc K)) aa (ax _ 23 (.tmp 3) rfl (w.heap.size) aa (kc K) 23 _ (hB.get 0 (x:=⟨w.heap.size,kc K,23⟩) rfl) Tryz.underlying23 rfl (by rw[Tryz.infoKey,au,hK])) ?_;simp only[aq];refine ak (.agg (kc N)) aa (ax _ 104 (.tmp 5) rfl (w.heap.size+1) aa (kc N) 104 _ (hB.get 1 (x:=⟨w.heap.size+1,kc N,104⟩) rfl) Tryz.underlying104 rfl (by rw[Tryz.infoN,au,hN])) ?_;simp only[aq];refine av 127 #[.agg (kc K),.agg (kc N)] aa aa ((begin_ok K N hK hN (aj hKb) (aj hNb) _).mono ?_);rintro r u1 ⟨rfl,hg⟩;refine⟨_,rfl,?_⟩;replace hB:=hB.more hg;clear hg;simp only[aq];have hGl:=bg_len K N;generalize bg K N=A at *;refine ak (.int .u32 c) aa aa ?_;simp only[aq];refine av 128 #[.agg (uc A),.int .u32 c] aa aa ((wblock_ok A hGl c _).mono ?_);rintro r u2 ⟨rfl,hg⟩;refine⟨_,rfl,?_⟩
 replace hB:=hB.more hg;clear hg;simp only[aq];have hDl:=wb_len A c;generalize wb A c=D at *;refine aA 194 (.tmp 6) (.tmp 11) (w.heap.size+1+1) (kc D) 194 (kc Z64) aa rfl aa aa (hB.get 2 (x:=⟨w.heap.size+1+1,kc Z64,194⟩) rfl) (by rw[Tryz.info64,au,hDl]) ((show (kc Z64).size=64 from rfl).trans ((au _).trans hDl).symm) (aL _) ?_;replace hB:=hB.set 2 (x:=⟨w.heap.size+1+1,kc Z64,194⟩) rfl (kc D);simp only[ab] at hB;generalize World.setRow _ _ _=u3 at *;simp only[aq];refine ai ?_;go_wp2_with fail;rw[aj hT];exact bodyPost_ret (v:=.agg (kc D)) (results_cell_row Tryz.results159 _ _ (w.heap.size+1+1) 194 (kc D) (0,0) _ rfl (hB.get 2 (x:=⟨w.heap.size+1+1,kc D,194⟩) rfl) Tryz.underlying194 rfl (by rw[Tryz.info64,au,hDl])) rfl (⟨rfl,hB.gr⟩)
theorem bP {w:World} {g:Nat} {l:List Int} {t:TypeId} (h:w.heap[g]?=some (.cells (kc l) t (0,0))):At w g 0 l:=fun j hj=>by rw[Nat.zero_add]; exact bJ h j hj
structure Lb (w:World) (a:Option Addr) (n c:Nat) (P:List Int):Prop where
 len:P.length=n
 isB:IsB P
 sl:Sl w a P
 cap:n≤c
 max:c<9223372036854775808
theorem Lb.gr {w v:World} {a:Option Addr} {n c:Nat} {P:List Int} (h:Lb w a n c P) (k:Gr w v):Lb v a n c P:=⟨h.len,h.isB,h.sl.gr k,h.cap,h.max⟩
def cn (c:Int) (n:Nat):Int:=(c+n) % 4294967296
theorem cn_zero (c:Int) (hc:W32 c):cn c 0=c:=by
 have:=hc.1;have:=hc.2;unfold cn;omega
theorem cn_succ (c:Int) (n:Nat):(cn c n+1) % 4294967296=cn c (n+1):=by unfold cn; omega
def sf (K N:List Int) (c:Int) (i:Nat):Int:=(bk K N (cn c (i / 64))).getD (i % 64) 0
def xf (K N:List Int) (c:Int) (B:List Int) (i:Nat):Int:=xb (B.getD i 0) (sf K N c i)
def xl (K N:List Int) (c:Int) (B:List Int):List Int:=(List.range B.length).map (xf K N c B)
theorem cR (K N:List Int) (c:Int) (B:List Int):(xl K N c B).length=B.length:=by simp[xl]
theorem xl_isB (K N:List Int) (c:Int) (B:List Int):IsB (xl K N c B):=by
 intro x hx;unfold xl at hx;obtain⟨i,_,rfl⟩:=List.mem_map.1 hx;exact xb_rng _ _
def Xd (K N:List Int) (c:Int) (B:List Int) (w:World) (r:Ending) (w':World):Prop:=∃ g,r=.returned (.slice (some ⟨g,0,none⟩) B.length B.length)∧w.heap.size≤g∧w'.heap[g]?=some (.cells (kc (xl K N c B)) 5 (0,0))∧Gr w w'
theorem xor_ok (K N:List Int) (hK:K.length=32) (hN:N.length=12) (hKb:IsB K) (hNb:IsB N) (c:Int) (hc:W32 c) (B:List Int) (a:Option Addr) (n cap:Nat) (hbig:n≤281474976710656) (w:World) (hA:Lb w a n cap B) :
  Calls Tryz.prog 92 #[.agg (kc K),.int .u32 c,.agg (kc N),.slice a n cap] w (Xd K N c B w):=by
 have hn:=hA.len;obtain⟨T,hT⟩:∃ T,T=Xd K N c B w:=⟨_,rfl⟩;rw[← hT];unfold Xd at hT;rw[hn] at hT;replace hT:=ao hT;replace hA:=ao hA;obtain⟨SK,hSK⟩:∃ S,S=kc K:=⟨_,rfl⟩;obtain⟨SN,hSN⟩:∃ S,S=kc N:=⟨_,rfl⟩;rw[← hSK,← hSN];replace hSK:=ao hSK;replace hSN:=ao hSN;replace hKb:=ao hKb;replace hNb:=ao hNb;replace hc:=ao hc;replace hn:=ao hn;go_enter Tryz.func92,Tryz.ntmps92;go_upto_region 1 with fail;have hB:=((Bl.nil w).new SK 23).new SN 104;simp only[aB,ac] at hB;generalize World.alloc _ _=u at *;rw[aj hSK,aj hSN] at hB;refine ag ?_;refine ak (.slice a n cap) aa aa ?_;simp only[aq];refine ak (.int .i64 n) aa aa ?_;simp only[aq];refine bF u rfl (.tmp 17) (.tmp 17) rfl n n n n rfl rfl rfl rfl (Nat.le_refl _) hbig ?_;simp only[aq];replace hB:=hB.new (kc (List.replicate n 0)) 5;simp only[ac] at hB;generalize World.alloc _ _=u1 at *;generalize u.heap.size=g2 at *;replace hB:=ao hB
 iterate 1 (refine af fun K hK=>?_;go_simp;refine aj hK _ _ ?_;clear hK K)
 refine ai ?_;go_upto_region 2 with fail;replace hB:=aj hB;refine ag ?_;refine ak (.agg (kc K)) aa (ax _ 23 (.tmp 4) rfl (w.heap.size) aa (kc K) 23 _ (hB.get 0 (x:=⟨w.heap.size,kc K,23⟩) rfl) Tryz.underlying23 rfl (by rw[Tryz.infoKey,au,hK])) ?_;simp only[aq];refine ak (.agg (kc N)) aa (ax _ 104 (.tmp 6) rfl (w.heap.size+1) aa (kc N) 104 _ (hB.get 1 (x:=⟨w.heap.size+1,kc N,104⟩) rfl) Tryz.underlying104 rfl (by rw[Tryz.infoN,au,hN])) ?_;simp only[aq];refine av 127 #[.agg (kc K),.agg (kc N)] aa aa ((begin_ok K N hK hN (aj hKb) (aj hNb) _).mono ?_);rintro r u2 ⟨rfl,hg⟩;refine⟨_,rfl,?_⟩;replace hB:=hB.more hg;clear hg;simp only[aq];have hGl:=bg_len K N;obtain⟨A,hAe⟩:∃ A,A=bg K N:=⟨_,rfl⟩;rw[← hAe] at hGl ⊢;replace hAe:=ao hAe;replace hB:=ao hB;iterate 1 (refine af fun K hK=>?_;go_simp;refine aj hK _ _ ?_;clear hK K)
 replace hB:=(aj hB).new #[.int .u32 0,.int .u32 0,.int .u32 0,.int .u32 0,.int .u32 0,.int .u32 0,.int .u32 0,.int .u32 0,.int .u32 0,.int .u32 0,.int .u32 0,.int .u32 0,.int .u32 0,.int .u32 0,.int .u32 0,.int .u32 0] 192;simp only[ac] at hB;generalize World.alloc _ _=u3 at *;generalize u2.heap.size=h3 at *;replace hB:Bl w [⟨w.heap.size,kc K,23⟩,⟨w.heap.size+1,kc N,104⟩,⟨g2,kc (List.replicate n 0),5⟩,⟨h3,uc Z16,192⟩] u3:=hB;refine aA 192 (.tmp 10) (.tmp 21) (h3) (uc A) 192 (uc Z16) aa rfl aa aa (hB.get 3 (x:=⟨h3,uc Z16,192⟩) rfl) (by rw[Tryz.info16,aT,hGl]) ((show (uc Z16).size=16 from rfl).trans ((aT _).trans hGl).symm) (de _) ?_;replace hB:=hB.set 3 (x:=⟨h3,uc Z16,192⟩) rfl (uc A);simp only[ab] at hB;generalize World.setRow _ _ _=u4 at *;simp only[aq];refine ai ?_;replace hB:=ao hB;go_wp2_with fail;obtain⟨Z,hZ⟩:∃ Z,Z=List.replicate n (0:Int):=⟨_,rfl⟩
 have hZl:Z.length=n:=by rw[hZ]; simp
 rw[← hZ] at hB;replace hZ:=ao hZ
 go_loopw [11,12] (fun i e wr=>∃ k q:Nat,∃ m:List Int,Hid (q=64 * k)∧q≤n+63∧i=.int .i64 q∧e=.int .u32 (cn c k)∧Hid (m=fil (xf K N c B) (min q n) Z)∧Hid (Bl w [⟨w.heap.size,kc K,23⟩,⟨w.heap.size+1,kc N,104⟩,⟨g2,kc m,5⟩,⟨h3,uc A,192⟩] wr)) (fun i _ _=>n+64 - (intOf i).toNat)
 case atStart=>exact⟨0,0,Z,rfl,by omega,rfl,by rw[cn_zero c (aj hc)],by rw[Nat.min_eq_left (Nat.zero_le _),fil_zero]; exact rfl,hB⟩
 case round =>
 clear hB;obtain⟨k,q,m,hq,hqn,rfl,rfl,hm,hB⟩:=hrel;have hml:m.length=n:=by rw[aj hm,fil_len _ _ _ (by omega)]; exact hZl
 by_cases hl:q<n
 ·have qI:(q:Int)<(n:Int):=by omega
  obtain⟨bp,bo,rfl,hat⟩:∃ bp bo,a=some ⟨bp,bo,none⟩∧At w bp bo B:=by
   rcases(aj hA).sl with h | h
   ·have:=aj hn;rw[h] at this;simp at this;omega
   ·exact h
  generalize hck:cn c k=ck;replace hck:=ao hck;go_upto_region 6 with fail;replace hB:=aj hB;refine ag ?_;refine ak (.agg (uc A)) aa (ax _ 192 (.tmp 10) rfl (h3) aa (uc A) 192 _ (hB.get 3 (x:=⟨h3,uc A,192⟩) rfl) Tryz.underlying192 rfl (by rw[Tryz.info16,aT,hGl])) ?_;simp only[aq];refine ak (.int .u32 ck) aa aa ?_;simp only[aq];refine av 128 #[.agg (uc A),.int .u32 ck] aa aa ((wblock_ok A hGl ck _).mono ?_);rintro r u2 ⟨rfl,hg⟩;refine⟨_,rfl,?_⟩;replace hB:=hB.more hg;clear hg;simp only[aq];have hDl:=wb_len A ck;obtain⟨D,hD⟩:∃ D,D=wb A ck:=⟨_,rfl⟩;rw[← hD] at hDl ⊢;replace hD:Hid (D=bk K N (cn c k)):=by rw[hD,aj hAe,aj hck]; exact rfl
  replace hB:=ao hB;iterate 1 (refine af fun K hK=>?_;go_simp;refine aj hK _ _ ?_;clear hK K)
  replace hB:=(aj hB).new #[.int .u8 0,.int .u8 0,.int .u8 0,.int .u8 0,.int .u8 0,.int .u8 0,.int .u8 0,.int .u8 0,.int .u8 0,.int .u8 0,.int .u8 0,.int .u8 0,.int .u8 0,.int .u8 0,.int .u8 0,.int .u8 0,.int .u8 0,.int .u8 0,.int .u8 0,.int .u8 0,.int .u8 0,.int .u8 0,.int .u8 0,.int .u8 0,.int .u8 0,.int .u8 0,.int .u8 0,.int .u8 0,.int .u8 0,.int .u8 0,.int .u8 0,.int .u8 0,.int .u8 0,.int .u8 0,.int .u8 0,.int .u8 0,.int .u8 0,.int .u8 0,.int .u8 0,.int .u8 0,.int .u8 0,.int .u8 0,.int .u8 0,.int .u8 0,.int .u8 0,.int .u8 0,.int .u8 0,.int .u8 0,.int .u8 0,.int .u8 0,.int .u8 0,.int .u8 0,.int .u8 0,.int .u8 0,.int .u8 0,.int .u8 0,.int .u8 0,.int .u8 0,.int .u8 0,.int .u8 0,.int .u8 0,.int .u8 0,.int .u8 0,.int .u8 0] 194;simp only[ac] at hB;generalize World.alloc _ _=u3 at *;generalize u2.heap.size=h4 at *
  replace hB:Bl w [⟨w.heap.size,kc K,23⟩,⟨w.heap.size+1,kc N,104⟩,⟨g2,kc m,5⟩,⟨h3,uc A,192⟩,⟨h4,kc Z64,194⟩] u3:=hB;refine aA 194 (.tmp 13) (.tmp 33) (h4) (kc D) 194 (kc Z64) aa rfl aa aa (hB.get 4 (x:=⟨h4,kc Z64,194⟩) rfl) (by rw[Tryz.info64,au,hDl]) ((show (kc Z64).size=64 from rfl).trans ((au _).trans hDl).symm) (aL _) ?_;replace hB:=hB.set 4 (x:=⟨h4,kc Z64,194⟩) rfl (kc D);simp only[ab] at hB;generalize World.setRow _ _ _=u4 at *;simp only[aq];refine ai ?_;replace hB:=ao hB;clear u3 u2;obtain⟨q64,hq64⟩:∃ x,x=q+64:=⟨_,rfl⟩;obtain⟨e,he⟩:∃ x,x=min q64 n:=⟨_,rfl⟩;obtain⟨p,hp⟩:∃ x,x=e - q:=⟨_,rfl⟩;have i1:(q:Int)+64=(q64:Int):=by omega
  have i2:IntKind.i64.wrap (q64:Int)=(q64:Int):=by rw[IntKind.wrap_i64]; omega
  have i3:(if (n:Int)<(q64:Int) then (n:Int) else (q64:Int))=(e:Int):=by split <;> omega
  have i4:(if n<q64 then (n:Int) else (q64:Int))=(e:Int):=by split <;> omega
  have i5:q≤e:=by omega
  have i6:e≤n:=by omega
  have i7:(e:Int)≤(n:Int):=by omega
  have i8:(q:Int)≤(e:Int):=by omega
  have i9:e - q=p:=hp.symm;replace hp:=ao hp;replace he:=ao he;replace hq64:=ao hq64;go_upto_region 7 with fail;go_wp2_with fail;have j1:e≤q64:=by have:=aj he; omega
  go_loopw [44] (fun i wr=>∃ j:Nat,∃ m:List Int,j≤p∧i=.int .i64 j∧Hid (m=fil (xf K N c B) (q+j) Z)∧Hid (Bl w [⟨w.heap.size,kc K,23⟩,⟨w.heap.size+1,kc N,104⟩,⟨g2,kc m,5⟩,⟨h3,uc A,192⟩,⟨h4,kc D,194⟩] wr)) (fun i _=>p - (intOf i).toNat)
  case atStart=>exact⟨0,m,by omega,rfl,by rw[aj hm,Nat.min_eq_left (by omega)]; exact rfl,hB⟩
  case round =>
  clear hB hm hml m;obtain⟨j,m,hj,rfl,hm,hB⟩:=hrel;have hml:m.length=n:=by rw[aj hm,fil_len _ _ _ (by omega)]; exact hZl
  by_cases hjl:j<p
  ·obtain⟨t,ht⟩:∃ t,t=q+j:=⟨_,rfl⟩;have c1:=(hat.gr (aj hB).gr) t (by rw[aj hn]; omega);have c2:=bJ ((aj hB).get 4 (x:=⟨h4,kc D,194⟩) rfl) j (by have:=aj hq64; omega);have c3:=bJ ((aj hB).get 2 (x:=⟨g2,kc m,5⟩) rfl) (q+j) (by omega);have fz:=aO (i:=q+j) ((aj hB).get 2 (x:=⟨g2,kc m,5⟩) rfl);generalize m.getD (q+j) 0=z at c3;have hx:xf K N c B (q+j)=xb (B.getD t 0) (D.getD j 0):=by
    have h64:=aj hq64;have hqk:=aj hq;unfold xf sf;rw[aj hD,← ht,show t / 64=k from by omega,show t % 64=j from by omega]
   have hm2:Hid (m.set (q+j) (xb (B.getD t 0) (D.getD j 0))=fil (xf K N c B) (q+(j+1)) Z):=by
    rw[aj hm,← hx];exact fil_set _ _ _ (by omega)
   have hB2:=(aj hB).drew.cell 2 (x:=⟨g2,kc m,5⟩) rfl (q+j) (.int .u8 (xb (B.getD t 0) (D.getD j 0)));simp only[ab,cD] at hB2;clear hx;generalize B.getD t 0=x at *;generalize D.getD j 0=y at *;replace hB2:=ao hB2;have k1:(j:Int)<(p:Int):=by omega
   have k2:(j:Int)<64:=by have:=aj hq64; omega
   have k3:j<64:=by omega
   have k4:(t:Int)<(n:Int):=by omega
   have k5:t<n:=by omega
   have k6:(q:Int)+(j:Int)=(t:Int):=by omega
   have k7:IntKind.i64.wrap (t:Int)=(t:Int):=by rw[IntKind.wrap_i64]; omega
   have k8:0≤(t:Int):=by omega
   replace ht:=ao ht;go_wp2_with fail
   go_still_tail 13,aa
   go_wp2_with fail;go_roundw
   case rel=>exact⟨j+1,_,by omega,by go_num,hm2,hB2⟩
   case measure=>simp[intOf]; omega
  ·have ej:j=p:=by omega
   subst ej;have hcs:(ck+1) % 4294967296=cn c (k+1):=by rw[← aj hck]; exact cn_succ c k
   have hB2:Hid (Bl w [⟨w.heap.size,kc K,23⟩,⟨w.heap.size+1,kc N,104⟩,⟨g2,kc m,5⟩,⟨h3,uc A,192⟩] wr):=Bl.left (L:=[⟨w.heap.size,kc K,23⟩,⟨w.heap.size+1,kc N,104⟩,⟨g2,kc m,5⟩,⟨h3,uc A,192⟩]) (M:=[⟨h4,kc D,194⟩]) (aj hB);have hm2:Hid (m=fil (xf K N c B) (min q64 n) Z):=by rw[aj hm,← aj he,show q+j=e from by omega]; exact rfl
   have hq2:Hid (q64=64 * (k+1)):=by have h1:=aj hq; have h2:=aj hq64; exact(show q64=64 * (k+1) by omega)
   have hq3:q64≤n+63:=by have:=aj hq64; omega
   have hq5:=aj hq64;replace hq5:q<q64:=by omega
   clear hB hm hjl;go_wp2_with fail;go_roundw
   case rel=>exact⟨k+1,q64,m,hq2,hq3,rfl,by rw[hcs],hm2,hB2⟩
   case measure=>simp[intOf]; omega
 ·have hM:m=xl K N c B:=by
   rw[aj hm,Nat.min_eq_right (by omega),← hZl,fil_all,hZl,← aj hn];exact rfl
  have hP:Hid (∃ g,Ending.returned (.slice (some ⟨g2,0,none⟩) n n)=.returned (.slice (some ⟨g,0,none⟩) n n)∧w.heap.size≤g∧wr.heap[g]?=some (.cells (kc (xl K N c B)) 5 (0,0))∧Gr w wr):=⟨g2,rfl,(aj hB).own 2 (x:=⟨g2,kc m,5⟩) rfl,(by rw[← hM]; exact(aj hB).get 2 (x:=⟨g2,kc m,5⟩) rfl),(aj hB).gr⟩;clear hM hB hm;have qI:¬ (q:Int)<(n:Int):=by omega
  go_wp2_with fail;rw[aj hT];exact aj hP
theorem app_op {w:World} {o:Oper} {a:Act} {K:Act→World→Prop} {Q:Exit→Act→World→Prop} (s x:Operand)
  (ho:o.op=.call { callee:=.builtin .append,args:=#[s,x],argTypes:=#[55,55] }) (b:Nat) (v:Value) (L:List Int) (hs:a.eval s=v) (hown:Ob b w v L)
  (sp:Option Addr) (n sc:Nat) (l:List Int) (hx:a.eval x=.slice sp n sc) (hn:l.length=n) (hsl:Sl w sp l) (hbig:L.length+n≤180000000000000) (hB:b≤w.heap.size)
  (h:∀ v' w',Ob b w' v' (L++l)→w.grownBy w' v.ownBlock→K (a.put o.dst v') w'):o.wp Tryz.prog a w K Q:=by
 subst hn;obtain⟨i0,hi,hz0,hz1,hz2⟩:=info_parts Tryz.info5;rcases hsl with rfl | ⟨p,q,rfl,hat⟩
 ·obtain⟨a',c',rfl,hc,_,_⟩:=hown.slice;have hrun:(Builtin.append_ #[55,55] o.type #[.slice a' L.length c',.slice sp 0 sc]).run Tryz.prog w=.ok (.slice a' L.length c') w:=by
   cases a' <;> cases sp <;> simp[Builtin.append_,run_underlying Tryz.underlying55,sizeOf,typeInfo,hi,Builtin.lenOf,Builtin.firstCells,loadCells,loadCellsFrom,storeCells,hc]
  unfold Oper.wp;simp[execOp,ho,resolve,invoke,builtin,hs,hx,hrun,Result.andThen];exact h _ _ (by rw[List.append_nil]; exact hown) (World.grownBy.refl _ _)
 ·refine wp_append_own_wide w s x 55 ho b 5 i0 (.int .u8 0) 1 1 Tryz.underlying55 hi hz0 hz1 hz2 rfl (by decide) v L.length _ hs hown ⟨p,q,none⟩ l.length sc (l.map (Value.int .u8)) hx (by simp) ?_ ?_ (by unfold maxLen; omega) (by omega) hB ?_
  ·intro j u hj;have hjl:j<l.length:=by have:=(List.getElem?_eq_some_iff.1 hj).1; simpa using this
   rw[Addr.add_mid,hat j hjl];simp[hjl] at hj ⊢;exact hj
  ·intro u hu;obtain⟨y,_,rfl⟩:=List.mem_map.1 hu;rfl
  ·intro v' w' h1 h2 _;refine h v' w' ?_ h2;unfold Ob;rw[List.length_append,List.map_append];exact h1
def PL:List Nat:=[0,4,8,12,1,5,9,13,2,6,10,14,3,7,11,15,0,5,10,15,1,6,11,12,2,7,8,13,3,4,9,14]
def ob (K:List Int) (o:Nat):Int:=bits .or .u32 (bits .or .u32 (bits .or .u32 (bits .or .u32 0 (K.getD o 0 * 2 ^ 0 % 4294967296)) (K.getD (o+1) 0 * 2 ^ 8 % 4294967296)) (K.getD (o+2) 0 * 2 ^ 16 % 4294967296)) (K.getD (o+3) 0 * 2 ^ 24 % 4294967296)
theorem Bl.grown {w v v':World} {L:List Blk} (h:Bl w L v) {b:Nat} {x:Value} {M:List Int} (ho:Ob b v x M) (hb:w.heap.size≤b) (k:v.grownBy v' x.ownBlock) (ht:∀ y ∈ L,y.t≠5):Bl w L v':=by
 refine⟨Ob.grown ho hb h.gr k,fun y hy=>?_,h.ne⟩;obtain⟨h1,h2⟩:=h.at_ y hy;refine⟨?_,h2⟩;rw[k.block y.g (lt_of_block h1) ?_]
 ·exact h1
 ·intro e;rcases ho.2 with ⟨rfl,_⟩ | ⟨g,cap,cur,rfl,_,h3,_⟩
  ·cases e
  ·have e2:y.g=g:=by simpa [Value.ownBlock] using e
   rw[e2] at h1;rw[h3] at h1;simp only[Blk.obj,Option.some.injEq,Obj.cells.injEq] at h1;exact ht y hy h1.2.1.symm
theorem Ob.other {b:Nat} {w:World} {v:Value} {L:List Int} (h:Ob b w v L) {g:Nat} {c:Array Value} {t:TypeId} (hg:w.heap[g]?=some (.cells c t (0,0))) (ht:t≠5) (cs:Array Value):Ob b (w.setRow g cs) v L:=by
 rcases h with ⟨h0,h1 | ⟨g',cap,cur,h1,h2,h3,h4⟩⟩
 ·exact⟨h0,.inl h1⟩
 ·refine⟨h0,.inr ⟨g',cap,cur,h1,h2,?_,h4⟩⟩;have hne:g'≠g:=by
   rintro rfl;rw[hg] at h3;simp only[Option.some.injEq,Obj.cells.injEq] at h3;exact ht h3.2.1
  exact(setRow_other w g g' cs hne).trans h3
end Go.Proofs.YtbkkibhhfmgojaaGreatDoor
