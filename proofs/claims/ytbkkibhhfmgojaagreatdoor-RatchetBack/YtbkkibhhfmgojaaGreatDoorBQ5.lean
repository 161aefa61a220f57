/-
  What the proof leans on.
-/
import Derived.Laws.BytesArg
import Derived.ChangeKeysEq
import Derived.WideShapes
import Derived.Laws.StructEq
import Derived.Great.BuildSlice
import Derived.Deep.RegionHeld
import Derived.BigQuiet
import Derived.Deep.RegionHeld3
import Derived.Deep.DrawnRows
import Derived.BigRegion
import Derived.Laws.Rows
import Derived.Laws.Tables
import Derived.Laws.CopyOwn
import Derived.Test.YtbkkibhhfmgojaaGreatDoorBQ4
set_option linter.unusedSimpArgs false
set_option linter.unusedVariables false
set_option maxRecDepth 100000
set_option maxHeartbeats 40000000
namespace Go.Proofs.YtbkkibhhfmgojaaGreatDoor
open Go.RowKit
theorem nk_whole (L:List Int) (h:L.length % 16=0):nk L.length=L.length / 16:=by unfold nk; omega
theorem nk_some (L:List Int) (h:0<L.length % 16):nk L.length=L.length / 16+1:=by unfold nk; omega
theorem Cd.gr {K:List Int} {g:Nat} {L:List Int} {w v:World} (h:Cd K g L w) (k:Gr w v):Cd K g L v:=by
 obtain⟨l,S,M,A,hH,hr⟩:=h;exact⟨l,S,M,A,hH.gr k,hr⟩
def endB (D:List Int):List Int:=D++1::List.replicate (15 - D.length) 0
theorem endB_len (D:List Int) (h:D.length<16):(endB D).length=16:=by unfold endB; simp; omega
theorem endB_isB (D:List Int) (h:IsB D):IsB (endB D):=fun x hx=>by
 unfold endB at hx;rcases List.mem_append.1 hx with h1 | h1
 ·exact h x h1
 ·rcases List.mem_cons.1 h1 with h2 | h2
  ·subst h2; omega
  ·have:=List.eq_of_mem_replicate h2; omega
theorem endB_lay (D:List Int) (h:D.length<16):(lay ZT 0 D).set D.length 1=endB D:=by
 unfold lay endB ZT;rw[List.take_zero,List.nil_append,Nat.zero_add,List.set_append_right _ _ (Nat.le_refl _),Nat.sub_self,List.drop_replicate];obtain⟨k,hk⟩:∃ k,16 - D.length=k+1:=⟨15 - D.length,by omega⟩;rw[hk,show 15 - D.length=k by omega,List.replicate_succ,List.set_cons_zero]
theorem lowN_zero:∀ n,lowN (List.replicate n 0)=0
 | 0=>rfl
 | n+1=>by rw[List.replicate_succ,lowN,lowN_zero n]; rfl
theorem lowN_end (L:List Int) (hb:IsB (L.drop (16 * (L.length / 16)))):lowN (endB (L.drop (16 * (L.length / 16))))=((bN L (L.length / 16):Nat):Int):=by
 have hl:(L.drop (16 * (L.length / 16))).length<16:=by rw[List.length_drop]; omega
 unfold bN endB;rw[List.take_of_length_le (by omega),V_snoc,lowN_append,lowN,lowN_zero,lowN_V _ hb,nb_len];rw[Int.natCast_add,Int.natCast_mul,Int.natCast_pow];rfl
theorem end_whole (K L:List Int) (g:Nat) (hL:L.length % 16=0) (w:World) (hC:Cd K g L w):Calls Tryz.prog 161 #[.pointer (some ⟨g,0,none⟩)] w (Crd ((acN (rK K) L (nk L.length):Nat):Int) w):=by
 obtain⟨l,S,M,A,hH,hlB,hlt,hc,hMd,hMr,hAd,hAs⟩:=hC;rw[nk_whole L hL];obtain⟨T,hT⟩:∃ T,T=Crd ((acN (rK K) L (L.length / 16):Nat):Int) w:=⟨_,rfl⟩;rw[← hT];replace hT:=ao hT;rw[hL] at hH;have hg1:=(Gr.refl w).alloc (.cells #[.int .u64 0,.int .u64 0,.int .u64 0,.int .u64 0,.int .u64 0] 225 (0,0));have cc:World.cell? (w.alloc (.cells #[.int .u64 0,.int .u64 0,.int .u64 0,.int .u64 0,.int .u64 0] 225 (0,0))) ⟨g,16,none⟩=some (.int .i64 0):=(hH.gr hg1).fill;replace hg1:=ao hg1;replace hH:=ao hH; replace hlt:=ao hlt; replace hc:=ao hc;go_enter Tryz.func161,Tryz.ntmps161;go_upto_region 2 with fail;have hB:=(Bl.nil w).new #[.int .u64 0,.int .u64 0,.int .u64 0,.int .u64 0,.int .u64 0] 225;simp only[ac] at hB;clear cc hg1;generalize World.alloc _ _=u at *;replace hB:Bl w [⟨w.heap.size,fc 0 0 0 0 0,225⟩] u:=hB;replace hH:=(aj hH).gr hB.gr;refine ag ?_;refine ak (.pointer (some ⟨g,0,none⟩)) aa aa ?_
 simp only[aq];refine ak (.pointer (some ⟨g,0,none⟩)) aa aa ?_;simp only[aq];refine ak (.pointer (some ⟨g,17,none⟩)) aa aa ?_;simp only[aq];refine ak (.agg (fc S.a S.b S.c S.d S.e)) aa (cV _ (.tmp 12) rfl g 17 aa S hH.sum) ?_;simp only[aq];refine aA 225 (.tmp 2) (.tmp 13) (w.heap.size) (fc S.a S.b S.c S.d S.e) 225 (fc 0 0 0 0 0) aa rfl aa aa (hB.get 0 (x:=⟨w.heap.size,fc 0 0 0 0 0,225⟩) rfl) Tryz.infoPL rfl (cJ _ _ _ _ _) ?_;replace hB:=hB.set 0 (x:=⟨w.heap.size,fc 0 0 0 0 0,225⟩) rfl (fc S.a S.b S.c S.d S.e);simp only[ab] at hB;generalize World.setRow _ _ _=u1 at *;simp only[aq];refine ai ?_;replace hB:=ao hB;clear hH;go_wp2_with fail;replace hB:=aj hB;rw[aj hT]
 exact bodyPost_ret (v:=.agg (fc S.a S.b S.c S.d S.e)) (results_cell_row Tryz.results161 _ _ (w.heap.size) 225 (fc S.a S.b S.c S.d S.e) (0,0) _ rfl (hB.get 0 (x:=⟨w.heap.size,fc S.a S.b S.c S.d S.e,225⟩) rfl) Tryz.underlying225 rfl Tryz.infoPL) rfl (⟨_,_,_,_,_,rfl,aj hc,hB.gr⟩)
theorem end_some (K L:List Int) (g:Nat) (hL:0<L.length % 16) (w:World) (hC:Cd K g L w):Calls Tryz.prog 161 #[.pointer (some ⟨g,0,none⟩)] w (Crd ((acN (rK K) L (nk L.length):Nat):Int) w):=by
 obtain⟨l,S,M,A,hH,hlB,hlt,hc,hMd,hMr,hAd,hAs⟩:=hC;rw[nk_some L hL];obtain⟨T,hT⟩:∃ T,T=Crd ((acN (rK K) L (L.length / 16+1):Nat):Int) w:=⟨_,rfl⟩;rw[← hT];replace hT:=ao hT;have hl16:=hH.1;obtain⟨f,hf⟩:∃ f,f=L.length % 16:=⟨_,rfl⟩;rw[← hf] at hH hL hlt;have f16:f<16:=by omega
 have k0:¬ (f:Int)=0:=by omega
 have k00:¬ f=0:=by omega
 have k1:(f:Int)≤16:=by omega
 have k2:(f:Int)<16:=by omega
 have hg1:=(Gr.refl w).alloc (.cells #[.int .u64 0,.int .u64 0,.int .u64 0,.int .u64 0,.int .u64 0] 225 (0,0));have cc:World.cell? (w.alloc (.cells #[.int .u64 0,.int .u64 0,.int .u64 0,.int .u64 0,.int .u64 0] 225 (0,0))) ⟨g,16,none⟩=some (.int .i64 (f:Int)):=(hH.gr hg1).fill;replace hg1:=ao hg1;replace hH:=ao hH; replace hlt:=ao hlt; replace hf:=ao hf;go_enter Tryz.func161,Tryz.ntmps161;go_upto_region 4 with fail;have hB:=((Bl.nil w).new #[.int .u64 0,.int .u64 0,.int .u64 0,.int .u64 0,.int .u64 0] 225).new #[.int .u8 0,.int .u8 0,.int .u8 0,.int .u8 0,.int .u8 0,.int .u8 0,.int .u8 0,.int .u8 0,.int .u8 0,.int .u8 0,.int .u8 0,.int .u8 0,.int .u8 0,.int .u8 0,.int .u8 0,.int .u8 0] 158;simp only[aB,ac] at hB;clear cc hg1;generalize World.alloc _ _=u at *;replace hB:Bl w [⟨w.heap.size,fc 0 0 0 0 0,225⟩,⟨w.heap.size+1,kc ZT,158⟩] u:=hB;replace hH:=(aj hH).gr hB.gr
 refine aE (S:=fun v=>v.cell? ⟨g,16,none⟩=some (.int .i64 (f:Int))) aa ?_;replace hH:=hH.gr (Gr.refl _).drew;replace hB:=hB.drew;have hS:=hH.fill;generalize World.drew _=x0 at *;simp only[ae,Array.replicate,List.replicate];refine ar (i:=0) (v:=(.slice (some ⟨w.heap.size+1,0,none⟩) 16 16)) #[false,false,false,false,false,false,false,false,false,false,false,false] rfl aa aa aa aa (fun _ _ _ h=>h) (.inl ⟨by kernel_rfl,fun x_ hu=>by kernel_rfl⟩) hS ?_;simp only[aq];refine ar (i:=1) (v:=(.pointer (some ⟨g,0,none⟩))) #[true,false,false,false,false,false,false,false,false,false,false,false] rfl aa aa aa aa (fun _ _ _ h=>h) (.inl ⟨by kernel_rfl,fun x_ hu=>by kernel_rfl⟩) hS ?_;simp only[aq]
 refine ar (i:=2) (v:=(.pointer (some ⟨g,0,none⟩))) #[true,true,false,false,false,false,false,false,false,false,false,false] rfl aa aa aa aa (fun _ _ _ h=>h) (.inl ⟨by kernel_rfl,fun x_ hu=>by kernel_rfl⟩) hS ?_;simp only[aq];refine ar (i:=3) (v:=(.pointer (some ⟨g,0,none⟩))) #[true,true,true,false,false,false,false,false,false,false,false,false] rfl aa aa aa aa (fun _ _ _ h=>h) (.inl ⟨by kernel_rfl,fun x_ hu=>by kernel_rfl⟩) hS ?_;simp only[aq];refine ar (i:=4) (v:=(.pointer (some ⟨g,0,none⟩))) #[true,true,true,true,false,false,false,false,false,false,false,false] rfl aa aa aa aa (fun _ _ _ h=>h) (.inl ⟨by kernel_rfl,fun x_ hu=>by kernel_rfl⟩) hS ?_;simp only[aq];refine ar (i:=5) (v:=(.pointer (some ⟨g,0,none⟩))) #[true,true,true,true,true,false,false,false,false,false,false,false] rfl aa aa aa aa (fun _ _ _ h=>h) (.inl ⟨by kernel_rfl,fun x_ hu=>by kernel_rfl⟩) hS ?_;simp only[aq]
 refine ar (i:=6) (v:=(.pointer (some ⟨g,0,none⟩))) #[true,true,true,true,true,true,false,false,false,false,false,false] rfl aa aa aa aa (fun _ _ _ h=>h) (.inl ⟨by kernel_rfl,fun x_ hu=>by kernel_rfl⟩) hS ?_;simp only[aq];refine ar (i:=7) (v:=(.pointer (some ⟨g,0,none⟩))) #[true,true,true,true,true,true,true,false,false,false,false,false] rfl aa aa aa aa (fun _ _ _ h=>h) (.inl ⟨by kernel_rfl,fun x_ hu=>by kernel_rfl⟩) hS ?_;simp only[aq];refine ar (i:=8) (v:=(.pointer (some ⟨g,16,none⟩))) #[true,true,true,true,true,true,true,true,false,false,false,false] rfl aa aa aa aa (fun _ _ _ h=>h) (.inl ⟨by kernel_rfl,fun x_ hu=>by kernel_rfl⟩) hS ?_;simp only[aq];refine ar (i:=9) (v:=(.int .i64 f)) #[true,true,true,true,true,true,true,true,true,false,false,false] rfl aa aa aa aa (fun _ _ _ h=>h) (.inl ⟨by kernel_rfl,fun x_ hu=>bY _ (.tmp 22) rfl g 16 aa f hu⟩) hS ?_;simp only[aq]
 refine ar (i:=10) (v:=(.slice (some ⟨g,0,none⟩) f 16)) #[true,true,true,true,true,true,true,true,true,true,false,false] rfl aa aa aa aa (fun _ _ _ h=>h) (.inl ⟨by kernel_rfl,fun x_ hu=>by go_simp⟩) hS ?_;simp only[aq];refine ay (i:=11) aa rfl (fun K_ hQ=>?_);rw[if_pos aa];obtain⟨D,hD⟩:∃ D,D=l.take f:=⟨_,rfl⟩;have hDl:D.length=f:=by rw[hD,List.length_take,hl16]; omega
 have hDB:IsB D:=by rw[hD]; exact hlB.take f
 refine bu (.tmp 14) (.tmp 24) rfl (w.heap.size+1) 0 16 16 (some ⟨g,0,none⟩) f 16 aa aa (ZT.map (Value.int .u8)) 158 (hB.get 1 (x:=⟨w.heap.size+1,kc ZT,158⟩) rfl) D (by rw[hDl]; exact(Nat.min_eq_left (by omega)).symm) (.inr ⟨g,0,rfl,by rw[hD]; exact hH.left.take f⟩) (by rw[hDl]; show 0+f≤16; omega) ?_;have hcell:=laid (S:=D) (o:=0) (hB.get 1 (x:=⟨w.heap.size+1,kc ZT,158⟩) rfl) (by rw[hDl]; show 0+f≤16; omega);have hB2:=hB.but (aM (D.map (Value.int .u8)) x0 (w.heap.size+1) 0) 1 (x:=⟨w.heap.size+1,kc ZT,158⟩) rfl rfl hcell;simp only[ab] at hB2;have hne:g≠w.heap.size+1:=by
  intro e;have h1:=hB.get 1 (x:=⟨w.heap.size+1,kc ZT,158⟩) rfl;have h2:=hH.2;dsimp only at h1;rw[e,h1] at h2;simp only[Option.some.injEq,Obj.cells.injEq] at h2;exact absurd h2.2.1 (by decide)
 replace hH:Lies g l (f:Int) S M A (World.setCells x0 (w.heap.size+1) 0 (D.map (Value.int .u8))):=⟨hH.1,(cA _ x0 (w.heap.size+1) 0 g hne).trans hH.2⟩;generalize World.setCells _ _ _ _=x1 at *;clear hcell hB;have hS:=hH.fill;refine hQ.out _ _ hS (fun _=>?_);clear hQ K_;simp only[aq];refine aF aa ?_;rw[hDl];replace hB2:=ao hB2;replace hH:=ao hH;replace hD:=ao hD;go_upto_region 5 with fail;have hB:=aj hB2;clear hB2;have hll:(lay ZT 0 D).length=16:=by rw[lay_len _ _ _ (by rw[hDl]; show 0+f≤16; omega)]; rfl
 refine ag ?_;refine ak (.pointer (some ⟨g,0,none⟩)) aa aa ?_;simp only[aq];refine ak (.pointer (some ⟨g,0,none⟩)) aa aa ?_;simp only[aq];refine ak (.pointer (some ⟨g,0,none⟩)) aa aa ?_;simp only[aq];refine ak (.pointer (some ⟨g,16,none⟩)) aa aa ?_;simp only[aq];refine ak (.int .i64 f) aa (bY _ (.tmp 29) rfl g 16 aa f hS) ?_;simp only[aq];refine ak (.pointer (some ⟨w.heap.size+1,f,none⟩)) aa (by go_simp) ?_;simp only[aq];have c4:=bJ (hB.get 1 (x:=⟨w.heap.size+1,kc (lay ZT 0 D),158⟩) rfl) f (by omega);have fz:=aO (i:=f) (hB.get 1 (x:=⟨w.heap.size+1,kc (lay ZT 0 D),158⟩) rfl);generalize (lay ZT 0 D).getD f 0=z at c4;have hB2:=hB.cell 1 (x:=⟨w.heap.size+1,kc (lay ZT 0 D),158⟩) rfl f (.int .u8 1);have e9:(lay ZT 0 D).set f 1=endB D:=by
  have h:=endB_lay D (by omega);rw[hDl] at h;exact h
 simp only[ab,cD,e9] at hB2;replace hH:Lies g l (f:Int) S M A (World.setCell x1 ⟨w.heap.size+1,f,none⟩ (.int .u8 1)):=⟨(aj hH).1,(Below.heap_setCell x1 ⟨w.heap.size+1,f,none⟩ (.int .u8 1) g hne).trans (aj hH).2⟩;clear hB e9 hll hS;replace hB2:=ao hB2;replace hH:=ao hH
 (refine af fun K hK=>?_;go_simp;refine aj hK _ _ ?_;clear hK K)
 clear c4 fz;refine ai ?_;generalize World.setCell _ _ _=x2 at *;have hEl:(endB D).length=16:=endB_len D (by omega);have hEB:=endB_isB D hDB;have hEv:Hid (lowN (endB D)=((bN L (L.length / 16):Nat):Int)):=by
  have e1:D=L.drop (16 * (L.length / 16)):=by rw[aj hD,aj hlt]
  have h1:=lowN_end L (by rw[← e1]; exact hDB);rw[← e1] at h1;exact h1
 generalize endB D=E at *;go_upto_region 6 with fail;have hB:=aj hB2;clear hB2;replace hH:=aj hH;refine aE (S:=fun v=>Lies g l (f:Int) S M A v) aa ?_;replace hH:=hH.gr (Gr.refl _).drew;replace hB:=hB.drew;generalize World.drew _=x3 at *;simp only[ae,Array.replicate,List.replicate];refine ar (i:=0) (v:=(.pointer (some ⟨g,0,none⟩))) #[false,false,false,false,false,false,false,false,false,false,false,false,false] rfl aa aa aa aa (fun _ _ _ h=>h) (.inl ⟨by kernel_rfl,fun x_ hu=>by kernel_rfl⟩) hH ?_;simp only[aq];refine ar (i:=1) (v:=(.pointer (some ⟨g,0,none⟩))) #[true,false,false,false,false,false,false,false,false,false,false,false,false] rfl aa aa aa aa (fun _ _ _ h=>h) (.inl ⟨by kernel_rfl,fun x_ hu=>by kernel_rfl⟩) hH ?_;simp only[aq]
 refine ar (i:=2) (v:=(.pointer (some ⟨g,17,none⟩))) #[true,true,false,false,false,false,false,false,false,false,false,false,false] rfl aa aa aa aa (fun _ _ _ h=>h) (.inl ⟨by kernel_rfl,fun x_ hu=>by kernel_rfl⟩) hH ?_;simp only[aq];refine ar (i:=3) (v:=(.agg (fc S.a S.b S.c S.d S.e))) #[true,true,true,false,false,false,false,false,false,false,false,false,false] rfl aa aa aa aa (fun _ _ _ h=>h) (.inl ⟨by kernel_rfl,fun x_ hu=>cV _ (.tmp 34) rfl g 17 aa S hu.sum⟩) hH ?_;simp only[aq];refine ar (i:=4) (v:=(.slice (some ⟨w.heap.size+1,0,none⟩) 16 16)) #[true,true,true,true,false,false,false,false,false,false,false,false,false] rfl aa aa aa aa (fun _ _ _ h=>h) (.inl ⟨by kernel_rfl,fun x_ hu=>by kernel_rfl⟩) hH ?_;simp only[aq]
 refine ar (i:=7) (v:=(.pointer (some ⟨g,0,none⟩))) #[true,true,true,true,true,false,false,false,false,false,false,false,false] rfl aa aa aa aa (fun _ _ _ h=>h) (.inl ⟨by kernel_rfl,fun x_ hu=>by kernel_rfl⟩) hH ?_;simp only[aq];refine ar (i:=8) (v:=(.pointer (some ⟨g,0,none⟩))) #[true,true,true,true,true,false,false,true,false,false,false,false,false] rfl aa aa aa aa (fun _ _ _ h=>h) (.inl ⟨by kernel_rfl,fun x_ hu=>by kernel_rfl⟩) hH ?_;simp only[aq];refine ar (i:=9) (v:=(.pointer (some ⟨g,22,none⟩))) #[true,true,true,true,true,false,false,true,true,false,false,false,false] rfl aa aa aa aa (fun _ _ _ h=>h) (.inl ⟨by kernel_rfl,fun x_ hu=>by kernel_rfl⟩) hH ?_;simp only[aq]
 refine ar (i:=10) (v:=(.agg (fc M.a M.b M.c M.d M.e))) #[true,true,true,true,true,false,false,true,true,true,false,false,false] rfl aa aa aa aa (fun _ _ _ h=>h) (.inl ⟨by kernel_rfl,fun x_ hu=>cV _ (.tmp 41) rfl g 22 aa M hu.mul⟩) hH ?_;simp only[aq];refine ay (i:=5) aa rfl (fun K_ hQ=>?_);refine az aa 158 #[.slice (some ⟨w.heap.size+1,0,none⟩) 16 16] aa ((number_ok E (w.heap.size+1) 0 16 hEl hEB (by omega) (by omega) _ (bP (hB.get 1 (x:=⟨w.heap.size+1,kc E,158⟩) rfl))).mono ?_);rintro r x4 ⟨y0,y1,y2,y3,y4,rfl,hy0,hy1,hy2,hy3,hy4,hyv,hgr⟩;refine⟨_,rfl,?_⟩;replace hB:=hB.more hgr;replace hH:=hH.gr hgr;clear hgr;obtain⟨ca,cb,cc,cd_,ce,-,cm⟩:=hc;unfold Dg at cb cc cd_ ce hy0 hy1 hy2 hy3;have sm0:Sm S.a:=by unfold Sm; omega
 have sm1:Sm S.b:=by unfold Sm; omega
 have sm2:Sm S.c:=by unfold Sm; omega
 have sm3:Sm S.d:=by unfold Sm; omega
 have sm4:Sm S.e:=by unfold Sm; omega
 have sm5:Sm y0:=by unfold Sm; omega
 have sm6:Sm y1:=by unfold Sm; omega
 have sm7:Sm y2:=by unfold Sm; omega
 have sm8:Sm y3:=by unfold Sm; omega
 have sm9:Sm y4:=by unfold Sm; omega
 have tm0:0≤S.a+y0∧S.a+y0<268435456:=by omega
 have tm1:0≤S.b+y1∧S.b+y1<268435456:=by omega
 have tm2:0≤S.c+y2∧S.c+y2<268435456:=by omega
 have tm3:0≤S.d+y3∧S.d+y3<268435456:=by omega
 have tm4:0≤S.e+y4∧S.e+y4<268435456:=by omega
 have hval:v5 (S.a+y0) (S.b+y1) (S.c+y2) (S.d+y3) (S.e+y4) * v5 M.a M.b M.c M.d M.e % 1361129467683753853853498429727072845819=((acN (rK K) L (L.length / 16+1):Nat):Int):=by
  have e2:v5 M.a M.b M.c M.d M.e=(rK K:Int):=hMr;rw[v5_add,hyv,aj hEv,e2,acN];exact acc_step _ _ _ _ cm
 clear ca cb cc cd_ ce cm hy0 hy1 hy2 hy3 hy4 hyv;refine hQ.out _ _ hH (fun _=>?_);clear hQ K_;simp only[aq];refine ay (i:=6) aa rfl (fun K_ hQ=>?_);refine az aa 163 #[.agg (fc S.a S.b S.c S.d S.e),.agg (fc y0 y1 y2 y3 y4)] aa ((plus_ok S.a S.b S.c S.d S.e y0 y1 y2 y3 y4 sm0 sm1 sm2 sm3 sm4 sm5 sm6 sm7 sm8 sm9 _).mono ?_);rintro r x5 ⟨rfl,hgr⟩;refine⟨_,rfl,?_⟩;replace hB:=hB.more hgr;replace hH:=hH.gr hgr;clear hgr;refine hQ.out _ _ hH (fun _=>?_);clear hQ K_;simp only[aq];refine ay (i:=11) aa rfl (fun K_ hQ=>?_);refine az aa 191 #[.agg (fc (S.a+y0) (S.b+y1) (S.c+y2) (S.d+y3) (S.e+y4)),.agg (fc M.a M.b M.c M.d M.e)] aa ((times_ok (S.a+y0) (S.b+y1) (S.c+y2) (S.d+y3) (S.e+y4) M.a M.b M.c M.d M.e tm0 tm1 tm2 tm3 tm4 hMd.1 hMd.2.1 hMd.2.2.1 hMd.2.2.2.1 hMd.2.2.2.2 _).mono ?_);rintro r x6 ⟨z0,z1,z2,z3,z4,rfl,hz,hgr⟩;refine⟨_,rfl,?_⟩;rw[hval] at hz;replace hB:=hB.more hgr;replace hH:=hH.gr hgr
 clear hgr;refine hQ.out _ _ hH (fun _=>?_);clear hQ K_;simp only[aq];refine ay (i:=12) aa rfl (fun K_ hQ=>?_);rw[if_pos aa];refine wp_store_row 225 (.tmp 2) (.tmp 43) rfl (w.heap.size) (fc z0 z1 z2 z3 z4) aa aa 225 (fc 0 0 0 0 0) (hB.get 0 (x:=⟨w.heap.size,fc 0 0 0 0 0,225⟩) rfl) Tryz.infoPL rfl (cJ _ _ _ _ _) ?_;have hne0:g≠w.heap.size:=by
  intro e;have h1:=hB.get 0 (x:=⟨w.heap.size,fc 0 0 0 0 0,225⟩) rfl;have h2:=hH.2;dsimp only at h1;rw[e,h1] at h2;simp only[Option.some.injEq,Obj.cells.injEq] at h2;exact absurd h2.2.1 (by decide)
 replace hH:Lies g l (f:Int) S M A (World.setRow x6 (w.heap.size) (fc z0 z1 z2 z3 z4)):=⟨hH.1,(setRow_other x6 (w.heap.size) g _ hne0).trans hH.2⟩;replace hB:=hB.set 0 (x:=⟨w.heap.size,fc 0 0 0 0 0,225⟩) rfl (fc z0 z1 z2 z3 z4);simp only[ab] at hB;generalize World.setRow _ _ _=x7 at *;refine hQ.out _ _ hH (fun _=>?_);clear hQ K_;simp only[aq];refine aF aa ?_;replace hB:=ao hB;clear hH hval sm0 sm1 sm2 sm3 sm4 sm5 sm6 sm7 sm8 sm9 tm0 tm1 tm2 tm3 tm4;replace hz:=ao hz;go_wp2_with fail;replace hB:=aj hB;rw[aj hT];exact bodyPost_ret (v:=.agg (fc z0 z1 z2 z3 z4)) (results_cell_row Tryz.results161 _ _ (w.heap.size) 225 (fc z0 z1 z2 z3 z4) (0,0) _ rfl (hB.get 0 (x:=⟨w.heap.size,fc z0 z1 z2 z3 z4,225⟩) rfl) Tryz.underlying225 rfl Tryz.infoPL) rfl (⟨_,_,_,_,_,rfl,aj hz,hB.gr⟩)
theorem end_ok (K L:List Int) (g:Nat) (w:World) (hC:Cd K g L w):Calls Tryz.prog 161 #[.pointer (some ⟨g,0,none⟩)] w (Crd ((acN (rK K) L (nk L.length):Nat):Int) w):=by
 rcases Nat.eq_zero_or_pos (L.length % 16) with h | h
 ·exact end_whole K L g h w hC
 ·exact end_some K L g h w hC
theorem ctag_ok (K L:List Int) (g:Nat) (w:World) (hC:Cd K g L w):Calls Tryz.prog 133 #[.pointer (some ⟨g,0,none⟩)] w (Tg (mcL K L) w):=by
 obtain⟨T,hT⟩:∃ T,T=Tg (mcL K L) w:=⟨_,rfl⟩;rw[← hT];replace hT:=ao hT;have hXl:(mcL K L).length=16:=tgL_len _;replace hC:=ao hC;go_enter Tryz.func133,Tryz.ntmps133;go_upto_region 3 with fail;have hB:=(Bl.nil w).new #[.int .u8 0,.int .u8 0,.int .u8 0,.int .u8 0,.int .u8 0,.int .u8 0,.int .u8 0,.int .u8 0,.int .u8 0,.int .u8 0,.int .u8 0,.int .u8 0,.int .u8 0,.int .u8 0,.int .u8 0,.int .u8 0] 159;simp only[ac] at hB;generalize World.alloc _ _=u at *;replace hB:Bl w [⟨w.heap.size,kc ZT,159⟩] u:=hB;have hC2:=(aj hC).gr hB.gr;clear hC;have hC3:=hC2;obtain⟨l,S,M,A,hH,hlB,hlt,hc,hMd,hMr,hAd,hAs⟩:=hC3;refine aE (S:=fun v=>Lies g l ((L.length % 16:Nat):Int) S M A v) aa ?_;replace hC2:=hC2.gr (Gr.refl _).drew;replace hB:=hB.drew;replace hH:=hH.gr (Gr.refl _).drew;generalize World.drew _=x0 at *;simp only[ae,Array.replicate,List.replicate]
 refine ar (i:=0) (v:=(.pointer (some ⟨g,0,none⟩))) #[false,false,false,false,false,false,false,false,false,false] rfl aa aa aa aa (fun _ _ _ h=>h) (.inl ⟨by kernel_rfl,fun x_ hu=>by kernel_rfl⟩) hH ?_;simp only[aq];refine ar (i:=3) (v:=(.pointer (some ⟨g,0,none⟩))) #[true,false,false,false,false,false,false,false,false,false] rfl aa aa aa aa (fun _ _ _ h=>h) (.inl ⟨by kernel_rfl,fun x_ hu=>by kernel_rfl⟩) hH ?_;simp only[aq];refine ar (i:=4) (v:=(.pointer (some ⟨g,0,none⟩))) #[true,false,false,true,false,false,false,false,false,false] rfl aa aa aa aa (fun _ _ _ h=>h) (.inl ⟨by kernel_rfl,fun x_ hu=>by kernel_rfl⟩) hH ?_;simp only[aq];refine ar (i:=5) (v:=(.pointer (some ⟨g,27,none⟩))) #[true,false,false,true,true,false,false,false,false,false] rfl aa aa aa aa (fun _ _ _ h=>h) (.inl ⟨by kernel_rfl,fun x_ hu=>by kernel_rfl⟩) hH ?_;simp only[aq]
 refine ar (i:=6) (v:=(.agg (fc A.a A.b A.c A.d A.e))) #[true,false,false,true,true,true,false,false,false,false] rfl aa aa aa aa (fun _ _ _ h=>h) (.inl ⟨by kernel_rfl,fun x_ hu=>cV _ (.tmp 11) rfl g 27 aa A hu.add⟩) hH ?_;simp only[aq];refine ay (i:=1) aa rfl (fun K_ hQ=>?_);refine az aa 161 #[.pointer (some ⟨g,0,none⟩)] aa ((end_ok K L g _ hC2).mono ?_);rintro r x1 ⟨y0,y1,y2,y3,y4,rfl,hy,hgr⟩;refine⟨_,rfl,?_⟩;clear hC2;replace hB:=hB.more hgr;replace hH:=hH.gr hgr;clear hgr;refine hQ.out _ _ hH (fun _=>?_);clear hQ K_;simp only[aq];refine ay (i:=2) aa rfl (fun K_ hQ=>?_);refine az aa 162 #[.agg (fc y0 y1 y2 y3 y4)] aa ((least_ok _ y0 y1 y2 y3 y4 hy _).mono ?_);rintro r x2 ⟨z0,z1,z2,z3,z4,rfl,hz0,hz1,hz2,hz3,hz4,hzv,hgr⟩;refine⟨_,rfl,?_⟩;clear hy;replace hB:=hB.more hgr;replace hH:=hH.gr hgr;clear hgr;have hAd2:=hAd;obtain⟨ba,bb,bc,bd,be⟩:=hAd2
 unfold Dg at ba bb bc bd be hz0 hz1 hz2 hz3 hz4;have sm0:Sm z0:=by unfold Sm; omega
 have sm1:Sm z1:=by unfold Sm; omega
 have sm2:Sm z2:=by unfold Sm; omega
 have sm3:Sm z3:=by unfold Sm; omega
 have sm4:Sm z4:=by unfold Sm; omega
 have sm5:Sm A.a:=by unfold Sm; omega
 have sm6:Sm A.b:=by unfold Sm; omega
 have sm7:Sm A.c:=by unfold Sm; omega
 have sm8:Sm A.d:=by unfold Sm; omega
 have sm9:Sm A.e:=by unfold Sm; omega
 have tm0:Sm (z0+A.a):=by unfold Sm; omega
 have tm1:Sm (z1+A.b):=by unfold Sm; omega
 have tm2:Sm (z2+A.c):=by unfold Sm; omega
 have tm3:Sm (z3+A.d):=by unfold Sm; omega
 have tm4:Sm (z4+A.e):=by unfold Sm; omega
 have hval:v5 (z0+A.a) (z1+A.b) (z2+A.c) (z3+A.d) (z4+A.e)=((mcN K L:Nat):Int):=by
  have e2:v5 A.a A.b A.c A.d A.e=(sK K:Int):=hAs;rw[v5_add,hzv,e2];unfold mcN rK sK;omega
 refine hQ.out _ _ hH (fun _=>?_);clear hQ K_;simp only[aq];refine ay (i:=7) aa rfl (fun K_ hQ=>?_);refine az aa 163 #[.agg (fc z0 z1 z2 z3 z4),.agg (fc A.a A.b A.c A.d A.e)] aa ((plus_ok z0 z1 z2 z3 z4 A.a A.b A.c A.d A.e sm0 sm1 sm2 sm3 sm4 sm5 sm6 sm7 sm8 sm9 _).mono ?_);rintro r x3 ⟨rfl,hgr⟩;refine⟨_,rfl,?_⟩;replace hB:=hB.more hgr;replace hH:=hH.gr hgr;clear hgr;refine hQ.out _ _ hH (fun _=>?_);clear hQ K_;simp only[aq];refine ay (i:=8) aa rfl (fun K_ hQ=>?_);refine az aa 164 #[.agg (fc (z0+A.a) (z1+A.b) (z2+A.c) (z3+A.d) (z4+A.e))] aa ((tag_ok (mcN K L) (z0+A.a) (z1+A.b) (z2+A.c) (z3+A.d) (z4+A.e) tm0 tm1 tm2 tm3 tm4 hval _).mono ?_);rintro r x4 ⟨rfl,hgr⟩;refine⟨_,rfl,?_⟩;replace hB:=hB.more hgr;replace hH:=hH.gr hgr;clear hgr;refine hQ.out _ _ hH (fun _=>?_);clear hQ K_;simp only[aq];refine ay (i:=9) aa rfl (fun K_ hQ=>?_);rw[if_pos aa]
 refine wp_store_row 159 (.tmp 2) (.tmp 14) rfl (w.heap.size) (kc (mcL K L)) aa aa 159 (kc ZT) (hB.get 0 (x:=⟨w.heap.size,kc ZT,159⟩) rfl) (by rw[Tryz.infoT,au,hXl]) ((show (kc ZT).size=16 from rfl).trans ((au _).trans hXl).symm) (aL _) ?_;have hne0:g≠w.heap.size:=by
  intro e;have h1:=hB.get 0 (x:=⟨w.heap.size,kc ZT,159⟩) rfl;have h2:=hH.2;dsimp only at h1;rw[e,h1] at h2;simp only[Option.some.injEq,Obj.cells.injEq] at h2;exact absurd h2.2.1 (by decide)
 replace hH:Lies g l _ S M A (World.setRow x4 (w.heap.size) (kc (mcL K L))):=⟨hH.1,(setRow_other x4 (w.heap.size) g _ hne0).trans hH.2⟩;replace hB:=hB.set 0 (x:=⟨w.heap.size,kc ZT,159⟩) rfl (kc (mcL K L));simp only[ab] at hB;generalize World.setRow _ _ _=x5 at *;refine hQ.out _ _ hH (fun _=>?_);clear hQ K_;simp only[aq];refine aF aa ?_;replace hB:=ao hB;clear hH hval sm0 sm1 sm2 sm3 sm4 sm5 sm6 sm7 sm8 sm9 tm0 tm1 tm2 tm3 tm4 hz0 hz1 hz2 hz3 hz4 hzv ba bb bc bd be hc hMd hMr hAd hAs hlt;go_wp2_with fail;replace hB:=aj hB;rw[aj hT];exact bodyPost_ret (v:=.agg (kc (mcL K L))) (results_cell_row Tryz.results133 _ _ (w.heap.size) 159 (kc (mcL K L)) (0,0) _ rfl (hB.get 0 (x:=⟨w.heap.size,kc (mcL K L),159⟩) rfl) Tryz.underlying159 rfl (by rw[Tryz.infoT,au,hXl])) rfl (⟨rfl,hB.gr⟩)
def Newd (K:List Int) (w:World) (r:Ending) (w':World):Prop:=∃ g,r=.returned (.pointer (some ⟨g,0,none⟩))∧w.heap.size≤g∧Cd K g [] w'∧Gr w w'
theorem cd_new (K:List Int) (g:Nat) (M A:F5) (v:World) (h:v.heap[g]?=some (.cells (cd ZT 0 ⟨0,0,0,0,0⟩ M A) 230 (0,0))) (hM:Fd M) (hMv:M.v=(rK K:Int)) (hA:Fd A) (hAv:A.v=(sK K:Int)):Cd K g [] v:=by
 refine⟨ZT,⟨0,0,0,0,0⟩,M,A,⟨rfl,h⟩,?_,rfl,?_,hM,hMv,hA,hAv⟩
 ·intro x hx;have:=List.eq_of_mem_replicate hx;omega
 ·show Car 0 0 0 0 0 0;unfold Car Dg v5;decide
theorem pnew_ok (K:List Int) (hK:K.length=32) (hKb:IsB K) (w:World):Calls Tryz.prog 129 #[.agg (kc K)] w (Newd K w):=by
 obtain⟨T,hT⟩:∃ T,T=Newd K w:=⟨_,rfl⟩;rw[← hT];replace hT:=ao hT;obtain⟨SK,hSK⟩:∃ S,S=kc K:=⟨_,rfl⟩;rw[← hSK];replace hSK:=ao hSK;replace hKb:=ao hKb;go_enter Tryz.func129,Tryz.ntmps129;go_upto_region 1 with fail;have hB:=(Bl.nil w).new SK 23;simp only[List.nil_append] at hB;generalize World.alloc _ _=u at *;rw[aj hSK] at hB;replace hB:Bl w [⟨w.heap.size,kc K,23⟩] u:=hB;refine ag ?_;refine ak (.agg (kc K)) aa (ax _ 23 (.tmp 1) rfl (w.heap.size) aa (kc K) 23 _ (hB.get 0 (x:=⟨w.heap.size,kc K,23⟩) rfl) Tryz.underlying23 rfl (by rw[Tryz.infoKey,au,hK])) ?_;simp only[aq];refine av 157 #[.agg (kc K)] aa aa ((clamp_ok K hK (aj hKb) _).mono ?_);rintro r w1 ⟨rfl,hg⟩;refine⟨_,rfl,?_⟩;replace hB:=hB.more hg;clear hg;obtain⟨R,hR⟩:∃ R,R=clL K:=⟨_,rfl⟩;have hRl:R.length=16:=by rw[hR]; exact clL_len K
 have hRb:Hid (IsB R):=by rw[hR]; exact clL_isB K (aj hKb)
 have hRv:Hid (lowN R=(rK K:Int)):=by
  show lowN R=_;rw[lowN_V R (aj hRb),hR];rfl
 rw[← hR];replace hR:=ao hR;simp only[aq];replace hB:=ao hB
 (refine af fun K hK=>?_;go_simp;refine aj hK _ _ ?_;clear hK K)
 replace hB:=(aj hB).new #[.int .u8 0,.int .u8 0,.int .u8 0,.int .u8 0,.int .u8 0,.int .u8 0,.int .u8 0,.int .u8 0,.int .u8 0,.int .u8 0,.int .u8 0,.int .u8 0,.int .u8 0,.int .u8 0,.int .u8 0,.int .u8 0] 159;simp only[ac] at hB;generalize World.alloc _ _=w2 at *;generalize w1.heap.size=h5 at *;replace hB:Bl w [⟨w.heap.size,kc K,23⟩,⟨h5,kc ZT,159⟩] w2:=hB;refine aA 159 (.tmp 3) (.tmp 5) (h5) (kc R) 159 (kc ZT) aa rfl aa aa (hB.get 1 (x:=⟨h5,kc ZT,159⟩) rfl) (by rw[Tryz.infoT,au,hRl]) ((show (kc ZT).size=16 from rfl).trans ((au _).trans hRl).symm) (aL _) ?_;replace hB:=hB.set 1 (x:=⟨h5,kc ZT,159⟩) rfl (kc R);simp only[ab] at hB;generalize World.setRow _ _ _=w3 at *;simp only[aq];refine ai ?_;replace hB:=ao hB;go_upto_region 2 with fail;replace hB:=aj hB;have hKt:(K.drop 16).length=16:=by rw[List.length_drop,hK]
 have hKv:Hid (lowN (K.drop 16)=(sK K:Int)):=by
  show lowN (K.drop 16)=_;rw[lowN_V _ ((aj hKb).drop 16)];rfl
 refine aE (S:=fun _=>True) aa ?_;replace hB:=hB.drew;generalize World.drew _=x0 at *;simp only[ae,Array.replicate,List.replicate];refine ar (i:=0) (v:=(.slice (some ⟨h5,0,none⟩) 16 16)) #[false,false,false,false,false,false,false] rfl aa aa aa aa (fun _ _ _ h=>h) (.inl ⟨by kernel_rfl,fun x_ hu=>by kernel_rfl⟩) trivial ?_;simp only[aq];refine ar (i:=2) (v:=(.slice (some ⟨w.heap.size,16,none⟩) 16 16)) #[true,false,false,false,false,false,false] rfl aa aa aa aa (fun _ _ _ h=>h) (.inl ⟨by kernel_rfl,fun x_ hu=>by kernel_rfl⟩) trivial ?_;simp only[aq];refine ay (i:=1) aa rfl (fun K_ hQ=>?_);refine az aa 158 #[.slice (some ⟨h5,0,none⟩) 16 16] aa ((number_ok R h5 0 16 hRl (aj hRb) (by omega) (by omega) _ (bP (hB.get 1 (x:=⟨h5,kc R,159⟩) rfl))).mono ?_);rintro r x1 ⟨y0,y1,y2,y3,y4,rfl,hy0,hy1,hy2,hy3,hy4,hyv,hgr⟩;refine⟨_,rfl,?_⟩;replace hB:=hB.more hgr;clear hgr
 refine hQ.out _ _ trivial (fun _=>?_);clear hQ K_;simp only[aq];refine ay (i:=3) aa rfl (fun K_ hQ=>?_);refine az aa 158 #[.slice (some ⟨w.heap.size,16,none⟩) 16 16] aa ((number_ok (K.drop 16) (w.heap.size) 16 16 hKt ((aj hKb).drop 16) (by omega) (by omega) _ ((bP (hB.get 0 (x:=⟨w.heap.size,kc K,23⟩) rfl)).drop 16)).mono ?_);rintro r x2 ⟨z0,z1,z2,z3,z4,rfl,hz0,hz1,hz2,hz3,hz4,hzv,hgr⟩;refine⟨_,rfl,?_⟩;replace hB:=hB.more hgr;clear hgr;refine hQ.out _ _ trivial (fun _=>?_);clear hQ K_;simp only[aq];refine ar (i:=4) (v:=(.agg (cd ZT 0 ⟨0,0,0,0,0⟩ ⟨y0,y1,y2,y3,y4⟩ ⟨z0,z1,z2,z3,z4⟩))) #[true,true,true,true,false,false,false] rfl aa aa aa aa (fun _ _ _ h=>h) (.inl ⟨by kernel_rfl,fun x_ hu=>by kernel_rfl⟩) trivial ?_;simp only[aq];refine ay (i:=5) aa rfl (fun K_ hQ=>?_)
 refine bD (.pointer (some ⟨x2.heap.size,0,none⟩)) (x2.alloc (.cells (cd ZT 0 ⟨0,0,0,0,0⟩ ⟨y0,y1,y2,y3,y4⟩ ⟨z0,z1,z2,z3,z4⟩) 230 (0,0))) aa aa ?_;replace hB:=hB.new (cd ZT 0 ⟨0,0,0,0,0⟩ ⟨y0,y1,y2,y3,y4⟩ ⟨z0,z1,z2,z3,z4⟩) 230;simp only[List.cons_append,List.nil_append] at hB;generalize World.alloc _ _=x3 at *;generalize x2.heap.size=h6 at *;refine hQ.out _ _ trivial (fun _=>?_);clear hQ K_;simp only[aq];refine ay (i:=6) aa rfl (fun K_ hQ=>?_);replace hQ:=ao hQ;go_simp;refine(aj hQ).out _ _ trivial (fun _=>?_);clear hQ K_;refine aF aa ?_;have hW:Hid (Newd K w (.returned (.pointer (some ⟨h6,0,none⟩))) x3):=by
  refine⟨h6,rfl,hB.own 2 (x:=⟨h6,cd ZT 0 ⟨0,0,0,0,0⟩ ⟨y0,y1,y2,y3,y4⟩ ⟨z0,z1,z2,z3,z4⟩,230⟩) rfl,cd_new K h6 _ _ _ (hB.get 2 (x:=⟨h6,cd ZT 0 ⟨0,0,0,0,0⟩ ⟨y0,y1,y2,y3,y4⟩ ⟨z0,z1,z2,z3,z4⟩,230⟩) rfl) ⟨hy0,hy1,hy2,hy3,?_⟩ (hyv.trans (aj hRv)) ⟨hz0,hz1,hz2,hz3,?_⟩ (hzv.trans (aj hKv)),hB.gr⟩
  ·show 0≤y4∧y4<67108864;omega
  ·show 0≤z4∧z4<67108864;omega
 clear hB hy0 hy1 hy2 hy3 hy4 hyv hz0 hz1 hz2 hz3 hz4 hzv;go_wp2_with fail;rw[aj hT];exact aj hW
theorem IsB.append {A B:List Int} (h:IsB A) (k:IsB B):IsB (A++B):=fun x hx=>by
 rcases List.mem_append.1 hx with h1 | h1
 ·exact h x h1
 ·exact k x h1
theorem rep_isB (n:Nat):IsB (List.replicate n 0):=fun x hx=>by have:=List.eq_of_mem_replicate hx; omega
theorem bts_isB (W:List Int):IsB (bts W):=fun x hx=>by
 unfold bts at hx;obtain⟨i,_,rfl⟩:=List.mem_map.1 hx;unfold btf;omega
theorem bk_isB (K N:List Int) (c:Int):IsB (bk K N c):=bts_isB _
theorem sf_rng (K N:List Int) (c:Int) (i:Nat):0≤sf K N c i∧sf K N c i<256:=(bk_isB K N _).at_ _
theorem xl_get (K N:List Int) (c:Int) (B:List Int) (i:Nat) (h:i<B.length):(xl K N c B).getD i 0=xf K N c B i:=by
 unfold xl;rw[List.getD_eq_getElem?_getD,List.getElem?_map,List.getElem?_range h];rfl
theorem xl_twice (K N:List Int) (c:Int) (B:List Int) (hB:IsB B):xl K N c (xl K N c B)=B:=by
 refine list_ext (by rw[cR,cR]) fun i hi=>?_;rw[cR,cR] at hi;rw[xl_get _ _ _ _ _ (by rw[cR]; exact hi),xf,xl_get _ _ _ _ _ hi,xf];exact xb_twice _ _ (hB.at_ i) (sf_rng _ _ _ _)
theorem tgL_isB (n:Nat):IsB (tgL n):=fun x hx=>by
 unfold tgL at hx;obtain⟨i,_,rfl⟩:=List.mem_map.1 hx;unfold tgf;omega
def otk (K N:List Int):List Int:=(bk K N 0).take 32
theorem otk_len (K N:List Int):(otk K N).length=32:=by unfold otk; rw[List.length_take,bk_len]; rfl
theorem otk_isB (K N:List Int):IsB (otk K N):=(bk_isB K N 0).take 32
def padz (n:Nat):Nat:=(16 - n % 16) % 16
theorem padz_lt (n:Nat):padz n<16:=by unfold padz; omega
def pd (L:List Int):List Int:=L++List.replicate (padz L.length) 0
def tin (A C:List Int):List Int:=pd A++pd C++(lowL (A.length:Int) 8++lowL (C.length:Int) 8)
def tagL (K N A C:List Int):List Int:=mcL (otk K N) (tin A C)
theorem tagL_len (K N A C:List Int):(tagL K N A C).length=16:=tgL_len _
theorem tagL_isB (K N A C:List Int):IsB (tagL K N A C):=tgL_isB _
def sealL (K N A P:List Int):List Int:=xl K N 1 P++tagL K N A (xl K N 1 P)
theorem dp (K N A P:List Int):(sealL K N A P).length=P.length+16:=by unfold sealL; rw[List.length_append,cR,tagL_len]
theorem sealL_isB (K N A P:List Int):IsB (sealL K N A P):=(xl_isB _ _ _ _).append (tagL_isB _ _ _ _)
def cntL (n:Int):List Int:=List.replicate 4 0++lowL n 8
theorem cntL_len (n:Int):(cntL n).length=12:=by unfold cntL; rw[List.length_append,aN]; rfl
theorem cntL_isB (n:Int):IsB (cntL n):=(rep_isB 4).append (bI n 8)
theorem u8_or_nat (a b:Nat) (ha:a<256) (hb:b<256):bits .or .u8 (a:Int) (b:Int)=((a ||| b:Nat):Int):=by
 have hx:a ||| b<2 ^ 8:=Nat.or_lt_two_pow (by omega) (by omega);have h1:(BitVec.ofInt 8 (a:Int)).toNat=a:=by
  rw[BitVec.ofInt_natCast,BitVec.toNat_ofNat]; exact Nat.mod_eq_of_lt (by omega)
 have h2:(BitVec.ofInt 8 (b:Int)).toNat=b:=by
  rw[BitVec.ofInt_natCast,BitVec.toNat_ofNat]; exact Nat.mod_eq_of_lt (by omega)
 show IntKind.u8.wrap ((BitVec.ofInt 8 (a:Int) ||| BitVec.ofInt 8 (b:Int)).toNat:Int)=_;rw[BitVec.toNat_or,h1,h2,IntKind.wrap_u8];omega
theorem nat_or_zero (a b:Nat):a ||| b=0 ↔ a=0∧b=0:=by
 constructor
 ·intro h;have h1:=Nat.left_le_or (n:=a) (m:=b);have h2:=Nat.right_le_or (n:=a) (m:=b);omega
 ·rintro⟨rfl,rfl⟩; rfl
theorem nat_xor_zero (a b:Nat):a ^^^ b=0 ↔ a=b:=by
 constructor
 ·intro h;have:a ^^^ b ^^^ b=0 ^^^ b:=by rw[h]
  rw[Nat.xor_assoc,Nat.xor_self,Nat.xor_zero,Nat.zero_xor] at this;exact this
 ·rintro rfl; exact Nat.xor_self a
theorem or_xor (u x y:Int) (hu:0≤u∧u<256) (hx:0≤x∧x<256) (hy:0≤y∧y<256) :
  (0≤bits .or .u8 u (bits .xor .u8 x y)∧bits .or .u8 u (bits .xor .u8 x y)<256)∧(bits .or .u8 u (bits .xor .u8 x y)=0 ↔ u=0∧x=y):=by
 obtain⟨U,rfl⟩:=Int.eq_ofNat_of_zero_le hu.1;obtain⟨X,rfl⟩:=Int.eq_ofNat_of_zero_le hx.1;obtain⟨Y,rfl⟩:=Int.eq_ofNat_of_zero_le hy.1;have h1:X ^^^ Y<256:=Nat.xor_lt_two_pow (n:=8) (by omega) (by omega);rw[dz X Y (by omega) (by omega),u8_or_nat U (X ^^^ Y) (by omega) h1];have h2:U ||| (X ^^^ Y)<256:=Nat.or_lt_two_pow (n:=8) (by omega) h1;have h3:=nat_or_zero U (X ^^^ Y);have h4:=nat_xor_zero X Y;refine⟨by omega,?_⟩;constructor
 ·intro h;have:=h3.1 (by omega);exact⟨by omega,by have:=h4.1 this.2; omega⟩
 ·rintro⟨h,h'⟩;have:=h3.2 ⟨by omega,h4.2 (by omega)⟩;omega
theorem take_eq_step (l m:List Int) (k:Nat) (hl:k<l.length) (hm:k<m.length):l.take (k+1)=m.take (k+1) ↔ l.take k=m.take k∧l.getD k 0=m.getD k 0:=by
 have e:∀ x:List Int,k<x.length→x.take (k+1)=x.take k++[x.getD k 0]:=fun x hx=>by
  rw[List.take_add_one,List.getElem?_eq_getElem hx];simp[hx]
 rw[e l hl,e m hm];constructor
 ·intro h;have:=List.append_inj h (by simp; omega);exact⟨this.1,by simpa using this.2⟩
 ·rintro⟨h1,h2⟩; rw[h1,h2]
def Unl (l m:List Int) (k:Nat) (u:Int):Prop:=(0≤u∧u<256)∧(u=0 ↔ l.take k=m.take k)
theorem Unl.step {l m:List Int} {k:Nat} {u x y:Int} (h:Unl l m k u) (hl:k<l.length) (hm:k<m.length) (hx:x=l.getD k 0) (hy:y=m.getD k 0) (bl:IsB l) (bm:IsB m) :
  Unl l m (k+1) (bits .or .u8 u (bits .xor .u8 x y)):=by
 subst hx; subst hy;have:=or_xor u _ _ h.1 (bl.at_ k) (bm.at_ k);refine⟨this.1,?_⟩;rw[this.2,take_eq_step l m k hl hm,h.2]
theorem oequal_ok (l m:List Int) (a a':Option Addr) (n c c':Nat) (hn:n≤281474976710656) (w:World) (la:Lb w a n c l) (lb:Lb w a' n c' m) :
  Calls Tryz.prog 30 #[.slice a n c,.slice a' n c'] w (fun e w'=>e=.returned (.bool (decide (l=m)))∧w'=w):=by
 have hl:=ao la.len;have hm:=ao lb.len;replace la:=ao la;replace lb:=ao lb;go_enter Tryz.func30,Tryz.ntmps30;go_wp2_with fail
 go_loopw [5,15] (fun x i wr=>∃ (k:Nat) (u:Int),k≤n∧i=.int .i64 k∧x=.int .u8 u∧Hid (Unl l m k u)∧wr=w) (fun _ i _=>n - (intOf i).toNat)
 case atStart=>exact⟨0,0,Nat.zero_le _,rfl,rfl,(⟨by omega,by simp⟩:Unl l m 0 0),rfl⟩
 case round =>
 obtain⟨k,u,hk,rfl,rfl,hU,rfl⟩:=hrel;by_cases hlt:k<n
 ·obtain⟨p,o,rfl,c0⟩:∃ p o,a=some ⟨p,o,none⟩∧wr.cell? ⟨p,o+k,none⟩=some (.int .u8 (l.getD k 0)):=by
   rcases(aj la).sl with h | ⟨p,o,h1,h2⟩
   ·have:=aj hl;rw[h] at this;simp at this;omega
   ·exact⟨p,o,h1,h2 k (by rw[aj hl]; exact hlt)⟩
  obtain⟨p',o',rfl,c1⟩:∃ p o,a'=some ⟨p,o,none⟩∧wr.cell? ⟨p,o+k,none⟩=some (.int .u8 (m.getD k 0)):=by
   rcases(aj lb).sl with h | ⟨p,o,h1,h2⟩
   ·have:=aj hm;rw[h] at this;simp at this;omega
   ·exact⟨p,o,h1,h2 k (by rw[aj hm]; exact hlt)⟩
  obtain⟨x,hx⟩:∃ x,x=l.getD k 0:=⟨_,rfl⟩;obtain⟨y,hy⟩:∃ y,y=m.getD k 0:=⟨_,rfl⟩;rw[← hx] at c0;rw[← hy] at c1;have HS:=ao ((aj hU).step (by rw[aj hl]; exact hlt) (by rw[aj hm]; exact hlt) hx hy (aj la).isB (aj lb).isB);clear hx hy hU;have kI:(k:Int)<(n:Int):=by omega
  go_wp2_with fail;go_roundw
  case rel=>exact⟨k+1,_,by omega,by go_num,rfl,HS,trivial⟩
  case measure=>simp[intOf]; omega
 ·have kI:¬ (k:Int)<(n:Int):=by omega
  have e:l.take k=l∧m.take k=m:=⟨List.take_of_length_le (by rw[aj hl]; omega),List.take_of_length_le (by rw[aj hm]; omega)⟩;have hU2:=(aj hU).2;rw[e.1,e.2] at hU2;have HU:=ao (show (u == 0)=decide (l=m) by rw[Bool.eq_iff_iff]; simpa using hU2);clear hU hU2 e;go_wp2_with fail;refine bodyPost_ret (v:=.bool (u == 0)) (by simp[results,Tryz.results30,go_sem]) rfl ⟨?_,rfl⟩;rw[aj HU]
def ZK:List Int:=List.replicate 32 0
def ZN:List Int:=List.replicate 12 0
theorem lay_all (C S:List Int) (h:S.length=C.length):lay C 0 S=S:=by
 unfold lay;rw[List.take_zero,List.nil_append,Nat.zero_add,List.drop_of_length_le (by omega),List.append_nil]
theorem exec_ptr {op:Oper} {a:Act} (w:World) (x:Operand) (ho:op.op=.load 196 x) (g i:Nat) (hx:a.eval x=.pointer (some ⟨g,i,none⟩)) (p:Option Addr) (hc:w.cell? ⟨g,i,none⟩=some (.pointer p)):(execOp a.eval op).run Tryz.prog w=.ok (.value (.pointer p)) w:=by
 unfold execOp;simp only[ho,hx,Instr.loadAt,Instr.sureAddr,Sem.run_bind,Sem.run_pure,Result.andThen_ok];go_simp
theorem Cd.keep {K:List Int} {g:Nat} {L:List Int} {w v:World} (h:Cd K g L w) (e:v.heap[g]?=w.heap[g]?):Cd K g L v:=by
 obtain⟨l,S,M,A,hH,hr⟩:=h;exact⟨l,S,M,A,⟨hH.1,e.trans hH.2⟩,hr⟩
theorem Cd.ne {K:List Int} {g:Nat} {L:List Int} {w:World} (h:Cd K g L w) {b:Nat} {c:Array Value} {t:TypeId} (hb:w.heap[b]?=some (.cells c t (0,0))) (ht:t≠230):b≠g:=by
 obtain⟨l,S,M,A,hH,_⟩:=h;intro e;have h2:=hH.2;rw[← e,hb] at h2;simp only[Option.some.injEq,Obj.cells.injEq] at h2;exact ht h2.2.1
theorem Bl.beside {K:List Int} {w u v:World} {L:List Blk} {g:Nat} {M:List Int} (h:Bl w L u) (hC:Cd K g M u) (k:Bt g u v) (hg:w.heap.size≤g) (ht:∀ x ∈ L,x.t≠230):Bl w L v :=
 ⟨k.gr h.gr hg,fun x hx=>⟨k.blk (h.at_ x hx).1 (hC.ne (h.at_ x hx).1 (ht x hx)),(h.at_ x hx).2⟩,h.ne⟩
theorem once_ok (K N:List Int) (hK:K.length=32) (hN:N.length=12) (hKb:IsB K) (hNb:IsB N) (w:World):Calls Tryz.prog 130 #[.agg (kc K),.agg (kc N)] w (Tg (otk K N) w):=by
 obtain⟨T,hT⟩:∃ T,T=Tg (otk K N) w:=⟨_,rfl⟩;rw[← hT];replace hT:=ao hT;obtain⟨SK,hSK⟩:∃ S,S=kc K:=⟨_,rfl⟩;obtain⟨SN,hSN⟩:∃ S,S=kc N:=⟨_,rfl⟩;rw[← hSK,← hSN];replace hSK:=ao hSK;replace hSN:=ao hSN;replace hKb:=ao hKb;replace hNb:=ao hNb;go_enter Tryz.func130,Tryz.ntmps130;go_upto_region 2 with fail
 have hB:=(((((Bl.nil w).new SK 23).new SN 104).new #[.int .u8 0,.int .u8 0,.int .u8 0,.int .u8 0,.int .u8 0,.int .u8 0,.int .u8 0,.int .u8 0,.int .u8 0,.int .u8 0,.int .u8 0,.int .u8 0,.int .u8 0,.int .u8 0,.int .u8 0,.int .u8 0,.int .u8 0,.int .u8 0,.int .u8 0,.int .u8 0,.int .u8 0,.int .u8 0,.int .u8 0,.int .u8 0,.int .u8 0,.int .u8 0,.int .u8 0,.int .u8 0,.int .u8 0,.int .u8 0,.int .u8 0,.int .u8 0] 23).new #[.int .u8 0,.int .u8 0,.int .u8 0,.int .u8 0,.int .u8 0,.int .u8 0,.int .u8 0,.int .u8 0,.int .u8 0,.int .u8 0,.int .u8 0,.int .u8 0,.int .u8 0,.int .u8 0,.int .u8 0,.int .u8 0,.int .u8 0,.int .u8 0,.int .u8 0,.int .u8 0,.int .u8 0,.int .u8 0,.int .u8 0,.int .u8 0,.int .u8 0,.int .u8 0,.int .u8 0,.int .u8 0,.int .u8 0,.int .u8 0,.int .u8 0,.int .u8 0] 23);simp only[aB,ac] at hB;generalize World.alloc _ _=u at *;rw[aj hSK,aj hSN] at hB
 replace hB:Bl w [⟨w.heap.size,kc K,23⟩,⟨w.heap.size+1,kc N,104⟩,⟨w.heap.size+1+1,kc ZK,23⟩,⟨w.heap.size+1+1+1,kc ZK,23⟩] u:=hB;refine ag ?_;refine ak (.agg (kc K)) aa (ax _ 23 (.tmp 2) rfl (w.heap.size) aa (kc K) 23 _ (hB.get 0 (x:=⟨w.heap.size,kc K,23⟩) rfl) Tryz.underlying23 rfl (by rw[Tryz.infoKey,au,hK])) ?_;simp only[aq];refine ak (.agg (kc N)) aa (ax _ 104 (.tmp 3) rfl (w.heap.size+1) aa (kc N) 104 _ (hB.get 1 (x:=⟨w.heap.size+1,kc N,104⟩) rfl) Tryz.underlying104 rfl (by rw[Tryz.infoN,au,hN])) ?_;simp only[aq];refine av 159 #[.agg (kc K),.int .u32 0,.agg (kc N)] aa aa ((block_ok K N hK hN (aj hKb) (aj hNb) 0 _).mono ?_);rintro r u1 ⟨rfl,hg⟩;refine⟨_,rfl,?_⟩;replace hB:=hB.more hg;clear hg;obtain⟨D,hD⟩:∃ D,D=bk K N 0:=⟨_,rfl⟩;rw[← hD];have hDl:D.length=64:=by rw[hD,bk_len]
 replace hD:=ao hD;simp only[aq];replace hB:=ao hB
 (refine af fun K hK=>?_;go_simp;refine aj hK _ _ ?_;clear hK K)
 replace hB:=(aj hB).new #[.int .u8 0,.int .u8 0,.int .u8 0,.int .u8 0,.int .u8 0,.int .u8 0,.int .u8 0,.int .u8 0,.int .u8 0,.int .u8 0,.int .u8 0,.int .u8 0,.int .u8 0,.int .u8 0,.int .u8 0,.int .u8 0,.int .u8 0,.int .u8 0,.int .u8 0,.int .u8 0,.int .u8 0,.int .u8 0,.int .u8 0,.int .u8 0,.int .u8 0,.int .u8 0,.int .u8 0,.int .u8 0,.int .u8 0,.int .u8 0,.int .u8 0,.int .u8 0,.int .u8 0,.int .u8 0,.int .u8 0,.int .u8 0,.int .u8 0,.int .u8 0,.int .u8 0,.int .u8 0,.int .u8 0,.int .u8 0,.int .u8 0,.int .u8 0,.int .u8 0,.int .u8 0,.int .u8 0,.int .u8 0,.int .u8 0,.int .u8 0,.int .u8 0,.int .u8 0,.int .u8 0,.int .u8 0,.int .u8 0,.int .u8 0,.int .u8 0,.int .u8 0,.int .u8 0,.int .u8 0,.int .u8 0,.int .u8 0,.int .u8 0,.int .u8 0] 194;simp only[ac] at hB;generalize World.alloc _ _=u2 at *;generalize u1.heap.size=h6 at *
 replace hB:Bl w [⟨w.heap.size,kc K,23⟩,⟨w.heap.size+1,kc N,104⟩,⟨w.heap.size+1+1,kc ZK,23⟩,⟨w.heap.size+1+1+1,kc ZK,23⟩,⟨h6,kc Z64,194⟩] u2:=hB;refine aA 194 (.tmp 6) (.tmp 9) (h6) (kc D) 194 (kc Z64) aa rfl aa aa (hB.get 4 (x:=⟨h6,kc Z64,194⟩) rfl) (by rw[Tryz.info64,au,hDl]) ((show (kc Z64).size=64 from rfl).trans ((au _).trans hDl).symm) (aL _) ?_;replace hB:=hB.set 4 (x:=⟨h6,kc Z64,194⟩) rfl (kc D);simp only[ab] at hB;generalize World.setRow _ _ _=u3 at *;simp only[aq];refine ai ?_;replace hB:=ao hB;go_upto_region 3 with fail;replace hB:=aj hB;refine aE (S:=fun _=>True) aa ?_;replace hB:=hB.drew;generalize World.drew _=x0 at *;simp only[ae,Array.replicate,List.replicate];refine ar (i:=0) (v:=(.slice (some ⟨w.heap.size+1+1+1,0,none⟩) 32 32)) #[false,false,false] rfl aa aa aa aa (fun _ _ _ h=>h) (.inl ⟨by kernel_rfl,fun x_ hu=>by kernel_rfl⟩) trivial ?_;simp only[aq]
 refine ar (i:=1) (v:=(.slice (some ⟨h6,0,none⟩) 64 64)) #[true,false,false] rfl aa aa aa aa (fun _ _ _ h=>h) (.inl ⟨by kernel_rfl,fun x_ hu=>by kernel_rfl⟩) trivial ?_;simp only[aq];refine ay (i:=2) aa rfl (fun K_ hQ=>?_);rw[if_pos aa];obtain⟨E,hE⟩:∃ E,E=D.take 32:=⟨_,rfl⟩;have hEl:E.length=32:=by rw[hE,List.length_take,hDl]; rfl
 refine bu (.tmp 10) (.tmp 11) rfl (w.heap.size+1+1+1) 0 32 32 (some ⟨h6,0,none⟩) 64 64 aa aa (ZK.map (Value.int .u8)) 23 (hB.get 3 (x:=⟨w.heap.size+1+1+1,kc ZK,23⟩) rfl) E (by rw[hEl]; rfl) (.inr ⟨h6,0,rfl,by rw[hE]; exact(bP (hB.get 4 (x:=⟨h6,kc D,194⟩) rfl)).take 32⟩) (by rw[hEl]; exact Nat.le_refl _) ?_;have hcell:=laid (S:=E) (o:=0) (hB.get 3 (x:=⟨w.heap.size+1+1+1,kc ZK,23⟩) rfl) (by rw[hEl]; exact Nat.le_refl _);rw[lay_all ZK E hEl] at hcell;have hB2:=hB.but (aM (E.map (Value.int .u8)) x0 (w.heap.size+1+1+1) 0) 3 (x:=⟨w.heap.size+1+1+1,kc ZK,23⟩) rfl rfl hcell;simp only[ab] at hB2;clear hcell hB;generalize World.setCells _ _ _ _=x1 at *;refine hQ.out _ _ trivial (fun _=>?_);clear hQ K_;simp only[aq];refine aF aa ?_;rw[hEl];replace hB2:=ao hB2;go_upto_region 4 with fail;have hB:=aj hB2;clear hB2;refine ag ?_
 refine ak (.agg (kc E)) aa (ax _ 23 (.tmp 5) rfl (w.heap.size+1+1+1) aa (kc E) 23 _ (hB.get 3 (x:=⟨w.heap.size+1+1+1,kc E,23⟩) rfl) Tryz.underlying23 rfl (by rw[Tryz.infoKey,au,hEl])) ?_;simp only[aq];refine aA 23 (.tmp 4) (.tmp 13) (w.heap.size+1+1) (kc E) 23 (kc ZK) aa rfl aa aa (hB.get 2 (x:=⟨w.heap.size+1+1,kc ZK,23⟩) rfl) (by rw[Tryz.infoKey,au,hEl]) ((show (kc ZK).size=32 from rfl).trans ((au _).trans hEl).symm) (aL _) ?_;replace hB:=hB.set 2 (x:=⟨w.heap.size+1+1,kc ZK,23⟩) rfl (kc E);simp only[ab] at hB;generalize World.setRow _ _ _=x2 at *;simp only[aq];refine ai ?_;have hE2:E=otk K N:=by rw[hE,aj hD]; rfl
 clear hE;replace hB:=ao hB;go_wp2_with fail;replace hB:=aj hB;rw[aj hT];exact bodyPost_ret (v:=.agg (kc E)) (results_cell_row Tryz.results130 _ _ (w.heap.size+1+1) 23 (kc E) (0,0) _ rfl (hB.get 2 (x:=⟨w.heap.size+1+1,kc E,23⟩) rfl) Tryz.underlying23 rfl (by rw[Tryz.infoKey,au,hEl])) rfl (⟨by rw[hE2],hB.gr⟩)
def Filled (K:List Int) (g:Nat) (L:List Int) (w:World) (r:Ending) (w':World):Prop:=r=.returned (.tuple #[])∧Cd K g L w'∧Bt g w w'
theorem zt_lb {v:World} {g:Nat} (h:v.heap[g]?=some (.cells (kc ZT) 158 (0,0))) (n:Nat) (hn:n<16):Lb v (some ⟨g,0,none⟩) n 16 (List.replicate n 0):=by
 refine⟨by simp,rep_isB n,.inr ⟨g,0,rfl,?_⟩,by omega,by omega⟩;have h1:=(bP h).take n;have e:ZT.take n=List.replicate n 0:=by
  unfold ZT;rw[List.take_replicate,Nat.min_eq_left (by omega)]
 rw[e] at h1;exact h1
theorem fill_ok (K L P:List Int) (g gv:Nat) (s:Option Addr) (n cap:Nat) (w:World) (hC:Cd K g L w) (hv:w.heap[gv]?=some (.cells #[.pointer (some ⟨g,0,none⟩)] 196 (0,0))) (lb:∀ v,Bt g w v→Lb v s n cap P):Calls Tryz.prog 131 #[.slice s n cap,.pointer (some ⟨gv,0,none⟩)] w (Filled K g (L++pd P) w):=by
 obtain⟨T,hT⟩:∃ T,T=Filled K g (L++pd P) w:=⟨_,rfl⟩;rw[← hT];replace hT:=ao hT;have hlb:=lb w (Bt.refl g w);have hPl:=hlb.len;have hmx:(n:Int)<9223372036854775808:=by have h1:=hlb.cap; have h2:=hlb.max; omega
 clear hlb;obtain⟨m,hm⟩:∃ m,m=padz n:=⟨_,rfl⟩;have hm16:m<16:=by rw[hm]; exact padz_lt n
 obtain⟨r1,hr1⟩:∃ r,r=n % 16:=⟨_,rfl⟩;have hr16:r1<16:=by omega
 have e1:Int.tmod (n:Int) 16=(r1:Int):=by rw[Int.tmod_eq_emod_of_nonneg (by omega)]; omega
 obtain⟨r2,hr2⟩:∃ r,r=16 - r1:=⟨_,rfl⟩;have e2:(16:Int) - (r1:Int)=(r2:Int):=by omega
 have e4:IntKind.i64.wrap (r2:Int)=(r2:Int):=by rw[IntKind.wrap_i64]; omega
 have e3:Int.tmod (r2:Int) 16=(m:Int):=by rw[Int.tmod_eq_emod_of_nonneg (by omega)]; rw[hm]; unfold padz; omega
 have m16:(m:Int)≤16:=by omega
 replace hm:=ao hm;replace hr1:=ao hr1;replace hr2:=ao hr2;replace hC:=ao hC; replace lb:=ao lb; replace hv:=ao hv; replace hPl:=ao hPl;go_enter Tryz.func131,Tryz.ntmps131;go_upto_region 1 with fail;have hg:=(Gr.refl w).alloc (.cells #[.int .u8 0,.int .u8 0,.int .u8 0,.int .u8 0,.int .u8 0,.int .u8 0,.int .u8 0,.int .u8 0,.int .u8 0,.int .u8 0,.int .u8 0,.int .u8 0,.int .u8 0,.int .u8 0,.int .u8 0,.int .u8 0] 158 (0,0));have hz:=aS w (.cells #[.int .u8 0,.int .u8 0,.int .u8 0,.int .u8 0,.int .u8 0,.int .u8 0,.int .u8 0,.int .u8 0,.int .u8 0,.int .u8 0,.int .u8 0,.int .u8 0,.int .u8 0,.int .u8 0,.int .u8 0,.int .u8 0] 158 (0,0));generalize World.alloc _ _=u at *;replace hz:u.heap[w.heap.size]?=some (.cells (kc ZT) 158 (0,0)):=hz;have hC1:=(aj hC).gr hg;have hv1:=hg.blk (aj hv);have hne:=hC1.ne hv1 (by decide);have hnz:=hC1.ne hz (by decide);have bt:=hg.bt g;clear hg hC hv;refine ag ?_
 refine ak (.pointer (some ⟨g,0,none⟩)) aa (exec_ptr _ (.tmp 1) rfl gv 0 aa (some ⟨g,0,none⟩) (aw hv1 rfl)) ?_;simp only[aq];refine ak (.slice s n cap) aa aa ?_;simp only[aq];refine av 132 #[.pointer (some ⟨g,0,none⟩),.slice s n cap] aa aa ((pwrite_ok K L P g s n cap _ hC1 (fun v h=>(aj lb) v (bt.trans h))).mono ?_);rintro r u2 ⟨rfl,hC2,hb⟩;refine⟨_,rfl,?_⟩;have hv2:=hb.blk hv1 hne;have hz2:=hb.blk hz hnz;replace bt:=bt.trans hb;clear hb hC1 hv1 hz;simp only[aq];refine ai ?_;replace bt:=ao bt; replace hC2:=ao hC2; replace hv2:=ao hv2; replace hz2:=ao hz2;go_upto_region 2 with fail;replace bt:=aj bt; replace hC2:=aj hC2; replace hv2:=aj hv2; replace hz2:=aj hz2;refine aE (S:=fun v=>v.heap[gv]?=some (.cells #[.pointer (some ⟨g,0,none⟩)] 196 (0,0))) aa ?_;replace hC2:=hC2.gr (Gr.refl _).drew;replace bt:=bt.trans ((Gr.refl _).drew.bt g)
 replace hz2:(World.drew _).heap[w.heap.size]?=some (.cells (kc ZT) 158 (0,0)):=hz2;replace hv2:(World.drew _).heap[gv]?=some (.cells #[.pointer (some ⟨g,0,none⟩)] 196 (0,0)):=hv2;generalize World.drew _=x0 at *;simp only[ae,Array.replicate,List.replicate];refine ar (i:=0) (v:=(.pointer (some ⟨g,0,none⟩))) #[false,false,false,false,false,false,false,false] rfl aa aa aa aa (fun _ _ _ h=>h) (.inl ⟨by kernel_rfl,fun x_ hu=>exec_ptr _ (.tmp 1) rfl gv 0 aa (some ⟨g,0,none⟩) (aw hu rfl)⟩) hv2 ?_;simp only[aq];refine ar (i:=1) (v:=(.slice s n cap)) #[true,false,false,false,false,false,false,false] rfl aa aa aa aa (fun _ _ _ h=>h) (.inl ⟨by kernel_rfl,fun x_ hu=>by kernel_rfl⟩) hv2 ?_;simp only[aq];refine ar (i:=2) (v:=(.int .i64 n)) #[true,true,false,false,false,false,false,false] rfl aa aa aa aa (fun _ _ _ h=>h) (.inl ⟨by kernel_rfl,fun x_ hu=>by kernel_rfl⟩) hv2 ?_;simp only[aq]
 refine ar (i:=3) (v:=(.int .i64 r1)) #[true,true,true,false,false,false,false,false] rfl aa aa aa aa (fun _ _ _ h=>h) (.inl ⟨by kernel_rfl,fun x_ hu=>by go_simp⟩) hv2 ?_;simp only[aq];refine ar (i:=4) (v:=(.int .i64 r2)) #[true,true,true,true,false,false,false,false] rfl aa aa aa aa (fun _ _ _ h=>h) (.inl ⟨by kernel_rfl,fun x_ hu=>by go_simp⟩) hv2 ?_;simp only[aq];refine ar (i:=5) (v:=(.int .i64 m)) #[true,true,true,true,true,false,false,false] rfl aa aa aa aa (fun _ _ _ h=>h) (.inl ⟨by kernel_rfl,fun x_ hu=>by go_simp⟩) hv2 ?_;simp only[aq];refine ar (i:=6) (v:=(.slice (some ⟨w.heap.size,0,none⟩) m 16)) #[true,true,true,true,true,true,false,false] rfl aa aa aa aa (fun _ _ _ h=>h) (.inl ⟨by kernel_rfl,fun x_ hu=>by go_simp⟩) hv2 ?_;simp only[aq];refine ay (i:=7) aa rfl (fun K_ hQ=>?_)
 refine az aa 132 #[.pointer (some ⟨g,0,none⟩),.slice (some ⟨w.heap.size,0,none⟩) m 16] aa ((pwrite_ok K (L++P) (List.replicate m 0) g _ m 16 _ hC2 (fun v h=>zt_lb (h.blk hz2 hnz) m hm16)).mono ?_);rintro r u4 ⟨rfl,hC4,hb⟩;refine⟨_,rfl,?_⟩;have hv4:=hb.blk hv2 hne;replace bt:=bt.trans hb;clear hb hC2 hz2 hv2;have hv2:=hv4;refine hQ.out _ _ hv2 (fun _=>?_);clear hQ K_;simp only[aq];refine aF aa ?_;have hC5:Cd K g (L++pd P) u4:=by
  unfold pd;rw[aj hPl,← aj hm,← List.append_assoc];exact hC4
 clear hC4 hv2 hv4 hm
 go_end0
 rw[aj hT];exact⟨rfl,hC5,bt⟩
theorem nocode {a b c d:Blk} (ha:a.t≠230) (hb:b.t≠230) (hc:c.t≠230) (hd:d.t≠230):∀ x ∈ [a,b,c,d],x.t≠230:=by
 intro x hx;simp only[List.mem_cons,List.not_mem_nil,or_false] at hx;rcases hx with rfl | rfl | rfl | rfl <;> assumption
theorem atag_ok (K N:List Int) (hK:K.length=32) (hN:N.length=12) (hKb:IsB K) (hNb:IsB N) (A C:List Int) (s s2:Option Addr) (n n2 cap cap2:Nat) (w:World) (la:Lb w s n cap A) (lc:Lb w s2 n2 cap2 C):Calls Tryz.prog 93 #[.agg (kc K),.agg (kc N),.slice s n cap,.slice s2 n2 cap2] w (Tg (tagL K N A C) w):=by
 obtain⟨T,hT⟩:∃ T,T=Tg (tagL K N A C) w:=⟨_,rfl⟩;rw[← hT];replace hT:=ao hT;obtain⟨SK,hSK⟩:∃ S,S=kc K:=⟨_,rfl⟩;obtain⟨SN,hSN⟩:∃ S,S=kc N:=⟨_,rfl⟩;rw[← hSK,← hSN];replace hSK:=ao hSK;replace hSN:=ao hSN;have e1:IntKind.u64.wrap (n:Int)=(n:Int):=by have h1:=la.cap; have h2:=la.max; rw[IntKind.wrap_u64]; omega
 have e2:IntKind.u64.wrap (n2:Int)=(n2:Int):=by have h1:=lc.cap; have h2:=lc.max; rw[IntKind.wrap_u64]; omega
 have hAl:=ao la.len;have hCl:=ao lc.len;replace hKb:=ao hKb;replace hNb:=ao hNb;replace la:=ao la;replace lc:=ao lc;go_enter Tryz.func93,Tryz.ntmps93;go_upto_region 1 with fail;have hB:=((((Bl.nil w).new SK 23).new SN 104).new #[.int .u8 0,.int .u8 0,.int .u8 0,.int .u8 0,.int .u8 0,.int .u8 0,.int .u8 0,.int .u8 0,.int .u8 0,.int .u8 0,.int .u8 0,.int .u8 0,.int .u8 0,.int .u8 0,.int .u8 0,.int .u8 0] 159);simp only[aB,ac] at hB;generalize World.alloc _ _=u at *;rw[aj hSK,aj hSN] at hB;replace hB:Bl w [⟨w.heap.size,kc K,23⟩,⟨w.heap.size+1,kc N,104⟩,⟨w.heap.size+1+1,kc ZT,159⟩] u:=hB;refine ag ?_;refine ak (.agg (kc K)) aa (ax _ 23 (.tmp 4) rfl (w.heap.size) aa (kc K) 23 _ (hB.get 0 (x:=⟨w.heap.size,kc K,23⟩) rfl) Tryz.underlying23 rfl (by rw[Tryz.infoKey,au,hK])) ?_;simp only[aq]
 refine ak (.agg (kc N)) aa (ax _ 104 (.tmp 5) rfl (w.heap.size+1) aa (kc N) 104 _ (hB.get 1 (x:=⟨w.heap.size+1,kc N,104⟩) rfl) Tryz.underlying104 rfl (by rw[Tryz.infoN,au,hN])) ?_;simp only[aq];refine av 130 #[.agg (kc K),.agg (kc N)] aa aa ((once_ok K N hK hN (aj hKb) (aj hNb) _).mono ?_);rintro r u1 ⟨rfl,hg⟩;refine⟨_,rfl,?_⟩;replace hB:=hB.more hg;clear hg;have hTg:Hid (∀ A C,tagL K N A C=mcL (otk K N) (tin A C)):=fun _ _=>rfl;have hOl:=otk_len K N;have hOb:=ao (otk_isB K N);generalize otk K N=O at *;simp only[aq];refine av 129 #[.agg (kc O)] aa aa ((pnew_ok O hOl (aj hOb) _).mono ?_);rintro r u2 ⟨gc,rfl,hgc,cd,hg⟩;refine⟨_,rfl,?_⟩;have hgw:w.heap.size≤gc:=Nat.le_trans hB.gr.size hgc;replace hB:=hB.more hg;clear hg hgc;simp only[aq];replace hB:=ao hB
 (refine af fun K hK=>?_;go_simp;refine aj hK _ _ ?_;clear hK K)
 replace cd:=cd.gr ((Gr.refl u2).alloc (.cells #[.pointer none] 196 (0,0)));replace hB:=(aj hB).new #[.pointer none] 196;simp only[ac] at hB;generalize World.alloc _ _=u3 at *;generalize u2.heap.size=h9 at *;replace hB:Bl w [⟨w.heap.size,kc K,23⟩,⟨w.heap.size+1,kc N,104⟩,⟨w.heap.size+1+1,kc ZT,159⟩,⟨h9,#[.pointer none],196⟩] u3:=hB;have c4:=aw (i:=0) (hB.get 3 (x:=⟨h9,#[.pointer none],196⟩) rfl) rfl;have fz:=aO (i:=0) (hB.get 3 (x:=⟨h9,#[.pointer none],196⟩) rfl);have hne:=cd.ne (hB.get 3 (x:=⟨h9,#[.pointer none],196⟩) rfl) (show (196:TypeId)≠230 by decide);have hB2:=hB.cell 3 (x:=⟨h9,#[.pointer none],196⟩) rfl 0 (.pointer (some ⟨gc,0,none⟩));have hB3:Bl w [⟨w.heap.size,kc K,23⟩,⟨w.heap.size+1,kc N,104⟩,⟨w.heap.size+1+1,kc ZT,159⟩,⟨h9,#[.pointer (some ⟨gc,0,none⟩)],196⟩] _:=hB2
 replace cd:Cd O gc [] (World.setCell u3 ⟨h9,0,none⟩ (.pointer (some ⟨gc,0,none⟩))):=cd.keep (Below.heap_setCell u3 ⟨h9,0,none⟩ _ gc hne.symm);clear hB hB2;dsimp only at c4 fz;replace hB3:=ao hB3;replace cd:=ao cd
 (refine af fun K hK=>?_;go_simp;refine aj hK _ _ ?_;clear hK K)
 clear c4 fz;generalize World.setCell _ _ _=u4 at *;have hB:=aj hB3;replace cd:=aj cd;clear hB3;refine ai ?_;replace hB:=ao hB;replace cd:=ao cd;go_upto_region 2 with fail;replace hB:=aj hB;replace cd:=aj cd;refine ag ?_;refine ak (.func (.func 131) #[] #[.pointer (some ⟨h9,0,none⟩)]) aa aa ?_;simp only[aq]
 (refine af fun K hK=>?_;go_simp;refine aj hK _ _ ?_;clear hK K)
 refine ai ?_;replace hB:=ao hB;replace cd:=ao cd;go_upto_region 3 with fail;replace hB:=aj hB;replace cd:=aj cd;refine ag ?_;refine ak (.func (.func 131) #[] #[.pointer (some ⟨h9,0,none⟩)]) aa aa ?_;simp only[aq];refine ak (.slice s n cap) aa aa ?_;simp only[aq];refine av 131 #[.slice s n cap,.pointer (some ⟨h9,0,none⟩)] aa aa ((fill_ok O [] A gc h9 s n cap _ cd (hB.get 3 (x:=⟨h9,#[.pointer (some ⟨gc,0,none⟩)],196⟩) rfl) (fun v h=>(aj la).gr (h.gr hB.gr hgw))).mono ?_);rintro r u5 ⟨rfl,cd2,hb⟩;refine⟨_,rfl,?_⟩;replace hB:=hB.beside cd hb hgw (nocode (show (23:TypeId)≠230 by decide) (show (104:TypeId)≠230 by decide) (show (159:TypeId)≠230 by decide) (show (196:TypeId)≠230 by decide));clear cd hb;have cd:=cd2;clear cd2;simp only[aq];refine ai ?_;rw[List.nil_append] at cd;replace hB:=ao hB;replace cd:=ao cd;go_upto_region 4 with fail;replace hB:=aj hB;replace cd:=aj cd;refine ag ?_
 refine ak (.func (.func 131) #[] #[.pointer (some ⟨h9,0,none⟩)]) aa aa ?_;simp only[aq];refine ak (.slice s2 n2 cap2) aa aa ?_;simp only[aq];refine av 131 #[.slice s2 n2 cap2,.pointer (some ⟨h9,0,none⟩)] aa aa ((fill_ok O (pd A) C gc h9 s2 n2 cap2 _ cd (hB.get 3 (x:=⟨h9,#[.pointer (some ⟨gc,0,none⟩)],196⟩) rfl) (fun v h=>(aj lc).gr (h.gr hB.gr hgw))).mono ?_);rintro r u6 ⟨rfl,cd2,hb⟩;refine⟨_,rfl,?_⟩;replace hB:=hB.beside cd hb hgw (nocode (show (23:TypeId)≠230 by decide) (show (104:TypeId)≠230 by decide) (show (159:TypeId)≠230 by decide) (show (196:TypeId)≠230 by decide));clear cd hb;have cd:=cd2;clear cd2;simp only[aq];refine ai ?_;replace hB:=ao hB;replace cd:=ao cd;go_upto_region 5 with fail;replace hB:=aj hB;replace cd:=aj cd;refine aE (S:=fun v=>Bl w [⟨w.heap.size,kc K,23⟩,⟨w.heap.size+1,kc N,104⟩,⟨w.heap.size+1+1,kc ZT,159⟩,⟨h9,#[.pointer (some ⟨gc,0,none⟩)],196⟩] v) aa ?_
 replace hB:=hB.drew;replace cd:=cd.gr (Gr.refl _).drew;generalize World.drew _=x0 at *;simp only[ae,Array.replicate,List.replicate];refine ar (i:=0) (v:=(.pointer (some ⟨gc,0,none⟩))) #[false,false,false,false,false,false,false,false,false,false] rfl aa aa aa aa (fun _ _ _ h=>h) (.inl ⟨by kernel_rfl,fun x_ hu=>exec_ptr _ (.tmp 9) rfl h9 0 aa (some ⟨gc,0,none⟩) (aw (hu.get 3 (x:=⟨h9,#[.pointer (some ⟨gc,0,none⟩)],196⟩) rfl) rfl)⟩) hB ?_;simp only[aq];refine ar (i:=1) (v:=(.slice s n cap)) #[true,false,false,false,false,false,false,false,false,false] rfl aa aa aa aa (fun _ _ _ h=>h) (.inl ⟨by kernel_rfl,fun x_ hu=>by kernel_rfl⟩) hB ?_;simp only[aq];refine ar (i:=2) (v:=(.int .i64 n)) #[true,true,false,false,false,false,false,false,false,false] rfl aa aa aa aa (fun _ _ _ h=>h) (.inl ⟨by kernel_rfl,fun x_ hu=>by kernel_rfl⟩) hB ?_;simp only[aq]
 refine ar (i:=3) (v:=(.int .u64 n)) #[true,true,true,false,false,false,false,false,false,false] rfl aa aa aa aa (fun _ _ _ h=>h) (.inl ⟨by kernel_rfl,fun x_ hu=>by go_simp⟩) hB ?_;simp only[aq];refine ar (i:=5) (v:=(.slice s2 n2 cap2)) #[true,true,true,true,false,false,false,false,false,false] rfl aa aa aa aa (fun _ _ _ h=>h) (.inl ⟨by kernel_rfl,fun x_ hu=>by kernel_rfl⟩) hB ?_;simp only[aq];refine ar (i:=6) (v:=(.int .i64 n2)) #[true,true,true,true,false,true,false,false,false,false] rfl aa aa aa aa (fun _ _ _ h=>h) (.inl ⟨by kernel_rfl,fun x_ hu=>by kernel_rfl⟩) hB ?_;simp only[aq];refine ar (i:=7) (v:=(.int .u64 n2)) #[true,true,true,true,false,true,true,false,false,false] rfl aa aa aa aa (fun _ _ _ h=>h) (.inl ⟨by kernel_rfl,fun x_ hu=>by go_simp⟩) hB ?_;simp only[aq];refine ay (i:=4) aa rfl (fun K_ hQ=>?_)
 refine az aa 94 #[.slice none 0 0,.int .u64 n] aa ((put64_ok [] none 0 0 n (by omega) (by omega) _ (Lb.nil0 _)).mono ?_);rintro r v1 ⟨ga,rfl,hga,ha,hg⟩;refine⟨_,rfl,?_⟩;replace hB:=hB.more hg;replace cd:=cd.gr hg;rw[List.nil_append] at ha;have l1:Lb v1 (some ⟨ga,0,none⟩) 8 8 (lowL (n:Int) 8):=dv ha (aN _ _) (bI _ _) (by omega);clear hg ha hga;rw[List.nil_append,aN];refine hQ.out _ _ hB (fun _=>?_);clear hQ K_;simp only[aq];refine ay (i:=8) aa rfl (fun K_ hQ=>?_);refine az aa 94 #[.slice (some ⟨ga,0,none⟩) 8 8,.int .u64 n2] aa ((put64_ok (lowL (n:Int) 8) _ 8 8 n2 (by omega) (by omega) _ l1).mono ?_);rintro r v2 ⟨gb,rfl,hgb,hb,hg⟩;refine⟨_,rfl,?_⟩;replace hB:=hB.more hg;replace cd:=cd.gr hg;have l2:Lb v2 (some ⟨gb,0,none⟩) 16 16 (lowL (n:Int) 8++lowL (n2:Int) 8):=dv hb (by rw[List.length_append,aN,aN]) ((bI _ _).append (bI _ _)) (by omega);have hnb:=cd.ne hb (by decide);clear hg l1 hgb
 rw[List.length_append,aN,aN];refine hQ.out _ _ hB (fun _=>?_);clear hQ K_;simp only[aq];refine ay (i:=9) aa rfl (fun K_ hQ=>?_);refine az aa 132 #[.pointer (some ⟨gc,0,none⟩),.slice (some ⟨gb,0,none⟩) 16 16] aa ((pwrite_ok O (pd A++pd C) (lowL (n:Int) 8++lowL (n2:Int) 8) gc _ 16 16 _ cd (fun v h=>dv (h.blk hb hnb) (by rw[List.length_append,aN,aN]) ((bI _ _).append (bI _ _)) (by omega))).mono ?_);rintro r v3 ⟨rfl,cd2,hbt⟩;refine⟨_,rfl,?_⟩;replace hB:=hB.beside cd hbt hgw (nocode (show (23:TypeId)≠230 by decide) (show (104:TypeId)≠230 by decide) (show (159:TypeId)≠230 by decide) (show (196:TypeId)≠230 by decide));clear hbt cd l2 hb hnb;refine hQ.out _ _ hB (fun _=>?_);clear hQ K_;simp only[aq];refine aF aa ?_;have hXt:=aj hTg A C;unfold tin at hXt;rw[aj hAl,aj hCl] at hXt;replace hXt:=ao hXt;replace hB:=ao hB;replace cd2:=ao cd2;go_upto_region 6 with fail;replace hB:=aj hB
 replace cd2:=aj cd2;refine ag ?_;refine ak (.pointer (some ⟨gc,0,none⟩)) aa (exec_ptr _ (.tmp 9) rfl h9 0 aa (some ⟨gc,0,none⟩) (aw (hB.get 3 (x:=⟨h9,#[.pointer (some ⟨gc,0,none⟩)],196⟩) rfl) rfl)) ?_;simp only[aq];refine av 133 #[.pointer (some ⟨gc,0,none⟩)] aa aa ((ctag_ok O _ gc _ cd2).mono ?_);rintro r v4 ⟨rfl,hg⟩;refine⟨_,rfl,?_⟩;replace hB:=hB.more hg;clear hg cd2;rw[← aj hXt];have hXl:=tagL_len K N A C;clear hXt;generalize tagL K N A C=X at *;simp only[aq];refine aA 159 (.tmp 8) (.tmp 33) (w.heap.size+1+1) (kc X) 159 (kc ZT) aa rfl aa aa (hB.get 2 (x:=⟨w.heap.size+1+1,kc ZT,159⟩) rfl) (by rw[Tryz.infoT,au,hXl]) ((show (kc ZT).size=16 from rfl).trans ((au _).trans hXl).symm) (aL _) ?_;replace hB:=hB.set 2 (x:=⟨w.heap.size+1+1,kc ZT,159⟩) rfl (kc X);simp only[ab] at hB;generalize World.setRow _ _ _=v5 at *;simp only[aq];refine ai ?_;replace hB:=ao hB;go_wp2_with fail
 replace hB:=aj hB;rw[aj hT];exact bodyPost_ret (v:=.agg (kc X)) (results_cell_row Tryz.results93 _ _ (w.heap.size+1+1) 159 (kc X) (0,0) _ rfl (hB.get 2 (x:=⟨w.heap.size+1+1,kc X,159⟩) rfl) Tryz.underlying159 rfl (by rw[Tryz.infoT,au,hXl])) rfl (⟨rfl,hB.gr⟩)
def Obd (L:List Int) (w:World) (r:Ending) (w':World):Prop:=∃ v,r=.returned v∧Ob w.heap.size w' v L∧Gr w w'
theorem lay_cnt (n:Int):lay ZN 4 (lowL n 8)=cntL n:=by
 unfold lay cntL ZN;rw[aN,List.drop_of_length_le (by simp),List.append_nil];rfl
theorem seal_ok (K N:List Int) (hK:K.length=32) (hN:N.length=12) (hKb:IsB K) (hNb:IsB N) (A P:List Int) (s s2:Option Addr) (n n2 cap cap2:Nat) (hbig:n2≤20000) (w:World) (la:Lb w s n cap A) (lp:Lb w s2 n2 cap2 P):Calls Tryz.prog 47 #[.agg (kc K),.agg (kc N),.slice s n cap,.slice s2 n2 cap2] w (Obd (sealL K N A P) w):=by
 obtain⟨T,hT⟩:∃ T,T=Obd (sealL K N A P) w:=⟨_,rfl⟩;rw[← hT];replace hT:=ao hT;obtain⟨SK,hSK⟩:∃ S,S=kc K:=⟨_,rfl⟩;obtain⟨SN,hSN⟩:∃ S,S=kc N:=⟨_,rfl⟩;rw[← hSK,← hSN];replace hSK:=ao hSK;replace hSN:=ao hSN;have hPl:=ao lp.len;replace hKb:=ao hKb;replace hNb:=ao hNb;replace la:=ao la;replace lp:=ao lp;go_enter Tryz.func47,Tryz.ntmps47;go_upto_region 1 with fail;have hB:=(((Bl.nil w).new SK 23).new SN 104);simp only[aB,ac] at hB;generalize World.alloc _ _=u at *;rw[aj hSK,aj hSN] at hB;replace hB:Bl w [⟨w.heap.size,kc K,23⟩,⟨w.heap.size+1,kc N,104⟩] u:=hB;refine ag ?_;refine ak (.agg (kc K)) aa (ax _ 23 (.tmp 4) rfl (w.heap.size) aa (kc K) 23 _ (hB.get 0 (x:=⟨w.heap.size,kc K,23⟩) rfl) Tryz.underlying23 rfl (by rw[Tryz.infoKey,au,hK])) ?_;simp only[aq]
 refine ak (.agg (kc N)) aa (ax _ 104 (.tmp 5) rfl (w.heap.size+1) aa (kc N) 104 _ (hB.get 1 (x:=⟨w.heap.size+1,kc N,104⟩) rfl) Tryz.underlying104 rfl (by rw[Tryz.infoN,au,hN])) ?_;simp only[aq];refine ak (.slice s2 n2 cap2) aa aa ?_;simp only[aq];have hgw:=hB.gr.size;refine av 92 #[.agg (kc K),.int .u32 1,.agg (kc N),.slice s2 n2 cap2] aa aa ((xor_ok K N hK hN (aj hKb) (aj hNb) 1 ⟨by decide,by decide⟩ P _ n2 cap2 (by omega) _ ((aj lp).gr hB.gr)).mono ?_);rintro r u1 ⟨gx,rfl,hgx,hx,hg⟩;refine⟨_,rfl,?_⟩;replace hB:=hB.more hg;have hXl:Hid ((xl K N 1 P).length=n2):=by rw[cR]; exact aj hPl
 have hXb:=ao (xl_isB K N 1 P);have hSe:Hid (sealL K N A P=xl K N 1 P++tagL K N A (xl K N 1 P)):=rfl;generalize xl K N 1 P=X at *;have ob:Ob w.heap.size u1 (.slice (some ⟨gx,0,none⟩) n2 n2) X:=ob_of hx (aj hXl) (Nat.le_trans hgw hgx) (by omega);rw[aj hPl];have lx:Lb u1 (some ⟨gx,0,none⟩) n2 n2 X:=dv hx (aj hXl) (aj hXb) (by omega);clear hg hx hgx hgw;simp only[aq]
 (refine af fun K hK=>?_;go_simp;refine aj hK _ _ ?_;clear hK K)
 refine ai ?_;replace hB:=ao hB;replace ob:=ao ob;replace lx:=ao lx;go_upto_region 2 with fail;replace hB:=aj hB;replace ob:=aj ob;replace lx:=aj lx;refine ag ?_;refine ak (.agg (kc K)) aa (ax _ 23 (.tmp 4) rfl (w.heap.size) aa (kc K) 23 _ (hB.get 0 (x:=⟨w.heap.size,kc K,23⟩) rfl) Tryz.underlying23 rfl (by rw[Tryz.infoKey,au,hK])) ?_;simp only[aq];refine ak (.agg (kc N)) aa (ax _ 104 (.tmp 5) rfl (w.heap.size+1) aa (kc N) 104 _ (hB.get 1 (x:=⟨w.heap.size+1,kc N,104⟩) rfl) Tryz.underlying104 rfl (by rw[Tryz.infoN,au,hN])) ?_;simp only[aq];refine ak (.slice s n cap) aa aa ?_;simp only[aq];refine ak (.slice (some ⟨gx,0,none⟩) n2 n2) aa aa ?_;simp only[aq];refine av 93 #[.agg (kc K),.agg (kc N),.slice s n cap,.slice (some ⟨gx,0,none⟩) n2 n2] aa aa ((atag_ok K N hK hN (aj hKb) (aj hNb) A X s (some ⟨gx,0,none⟩) n n2 cap n2 _ ((aj la).gr hB.gr) lx).mono ?_);rintro r u2 ⟨rfl,hg⟩;refine⟨_,rfl,?_⟩
 replace hB:=hB.more hg;replace ob:=ob.gr hg;clear hg lx;have hYl:=tagL_len K N A X;generalize tagL K N A X=Y at *;simp only[aq];replace hB:=ao hB
 (refine af fun K hK=>?_;go_simp;refine aj hK _ _ ?_;clear hK K)
 replace ob:=ob.gr ((Gr.refl u2).alloc (.cells #[.int .u8 0,.int .u8 0,.int .u8 0,.int .u8 0,.int .u8 0,.int .u8 0,.int .u8 0,.int .u8 0,.int .u8 0,.int .u8 0,.int .u8 0,.int .u8 0,.int .u8 0,.int .u8 0,.int .u8 0,.int .u8 0] 159 (0,0)));replace hB:=(aj hB).new #[.int .u8 0,.int .u8 0,.int .u8 0,.int .u8 0,.int .u8 0,.int .u8 0,.int .u8 0,.int .u8 0,.int .u8 0,.int .u8 0,.int .u8 0,.int .u8 0,.int .u8 0,.int .u8 0,.int .u8 0,.int .u8 0] 159;simp only[ac] at hB;generalize World.alloc _ _=u3 at *;generalize u2.heap.size=h10 at *;replace hB:Bl w [⟨w.heap.size,kc K,23⟩,⟨w.heap.size+1,kc N,104⟩,⟨h10,kc ZT,159⟩] u3:=hB;have ob2:=ob.other (hB.get 2 (x:=⟨h10,kc ZT,159⟩) rfl) (show (159:TypeId)≠5 by decide) (kc Y);clear ob
 refine aA 159 (.tmp 10) (.tmp 19) (h10) (kc Y) 159 (kc ZT) aa rfl aa aa (hB.get 2 (x:=⟨h10,kc ZT,159⟩) rfl) (by rw[Tryz.infoT,au,hYl]) ((show (kc ZT).size=16 from rfl).trans ((au _).trans hYl).symm) (aL _) ?_;replace hB:=hB.set 2 (x:=⟨h10,kc ZT,159⟩) rfl (kc Y);simp only[ab] at hB;generalize World.setRow _ _ _=u4 at *;simp only[aq];refine ai ?_;replace hB:=ao hB;replace ob2:=ao ob2;go_upto_region 3 with fail;replace hB:=aj hB;replace ob2:=aj ob2;refine ag ?_;refine ak (.slice (some ⟨gx,0,none⟩) n2 n2) aa aa ?_;simp only[aq];refine ak (.slice (some ⟨h10,0,none⟩) 16 16) aa aa ?_;simp only[aq];refine dJ aa (.tmp 20) (.tmp 21) rfl w.heap.size _ X rfl ob2 (some ⟨h10,0,none⟩) 16 16 Y rfl hYl (.inr ⟨h10,0,rfl,bP (hB.get 2 (x:=⟨h10,kc Y,159⟩) rfl)⟩) (by rw[aj hXl]; omega) hB.gr.size ?_;intro v2 u5 ob5 hgr;simp only[aq];have hG:=Ob.grown ob2 (Nat.le_refl _) hB.gr hgr;rw[← aj hSe] at ob5
 clear hgr ob2 hB
 (refine af fun K hK=>?_;go_simp;refine aj hK _ _ ?_;clear hK K)
 refine ai ?_;have hP:Hid (Obd (sealL K N A P) w (.returned v2) u5):=⟨v2,rfl,ob5,hG⟩;clear ob5 hG;go_wp2_with fail;rw[aj hT];exact aj hP
theorem count_ok (n:Int) (hn:0≤n) (w:World):Calls Tryz.prog 48 #[.int .u64 n] w (Tg (cntL n) w):=by
 obtain⟨T,hT⟩:∃ T,T=Tg (cntL n) w:=⟨_,rfl⟩;rw[← hT];replace hT:=ao hT;go_enter Tryz.func48,Tryz.ntmps48;go_upto_region 2 with fail;have hB:=(((Bl.nil w).new #[.int .u8 0,.int .u8 0,.int .u8 0,.int .u8 0,.int .u8 0,.int .u8 0,.int .u8 0,.int .u8 0,.int .u8 0,.int .u8 0,.int .u8 0,.int .u8 0] 104).new #[.int .u8 0,.int .u8 0,.int .u8 0,.int .u8 0,.int .u8 0,.int .u8 0,.int .u8 0,.int .u8 0,.int .u8 0,.int .u8 0,.int .u8 0,.int .u8 0] 104);simp only[aB,ac] at hB;generalize World.alloc _ _=u at *;replace hB:Bl w [⟨w.heap.size,kc ZN,104⟩,⟨w.heap.size+1,kc ZN,104⟩] u:=hB;refine aE (S:=fun _=>True) aa ?_;replace hB:=hB.drew;generalize World.drew _=x0 at *;simp only[ae,Array.replicate,List.replicate];refine ar (i:=0) (v:=(.slice (some ⟨w.heap.size+1,4,none⟩) 8 8)) #[false,false,false,false] rfl aa aa aa aa (fun _ _ _ h=>h) (.inl ⟨by kernel_rfl,fun x_ hu=>by kernel_rfl⟩) trivial ?_;simp only[aq]
 refine ar (i:=1) (v:=(.int .u64 n)) #[true,false,false,false] rfl aa aa aa aa (fun _ _ _ h=>h) (.inl ⟨by kernel_rfl,fun x_ hu=>by kernel_rfl⟩) trivial ?_;simp only[aq];refine ay (i:=2) aa rfl (fun K hK=>?_);refine az aa 94 #[.slice none 0 0,.int .u64 n] aa ((put64_ok [] none 0 0 n hn (by omega) _ (Lb.nil0 _)).mono ?_);rintro r x1 ⟨gp,rfl,hgp,hp,hg⟩;refine⟨_,rfl,?_⟩;replace hB:=hB.more hg;rw[List.nil_append] at hp;rw[List.nil_append,aN];clear hg hgp;refine hK.out _ _ trivial (fun _=>?_);clear hK K;simp only[aq];refine ay (i:=3) aa rfl (fun K hK=>?_);rw[if_pos aa];refine bu (.tmp 4) (.tmp 6) rfl (w.heap.size+1) 4 8 8 (some ⟨gp,0,none⟩) 8 8 aa aa (ZN.map (Value.int .u8)) 104 (hB.get 1 (x:=⟨w.heap.size+1,kc ZN,104⟩) rfl) (lowL n 8) (by rw[aN]; rfl) (.inr ⟨gp,0,rfl,bP hp⟩) (by rw[aN]; exact Nat.le_refl _) ?_
 have hcell:=laid (S:=lowL n 8) (o:=4) (hB.get 1 (x:=⟨w.heap.size+1,kc ZN,104⟩) rfl) (by rw[aN]; exact Nat.le_refl _);rw[lay_cnt n] at hcell;have hB2:=hB.but (aM ((lowL n 8).map (Value.int .u8)) x1 (w.heap.size+1) 4) 1 (x:=⟨w.heap.size+1,kc ZN,104⟩) rfl rfl hcell;simp only[ab] at hB2;clear hcell hB;generalize World.setCells _ _ _ _=x2 at *;refine hK.out _ _ trivial (fun _=>?_);clear hK K;simp only[aq];refine aF aa ?_;rw[aN];replace hB2:=ao hB2;go_upto_region 3 with fail;have hB:=aj hB2;clear hB2;have hXl:=cntL_len n;generalize cntL n=X at *;refine ag ?_;refine ak (.agg (kc X)) aa (ax _ 104 (.tmp 3) rfl (w.heap.size+1) aa (kc X) 104 _ (hB.get 1 (x:=⟨w.heap.size+1,kc X,104⟩) rfl) Tryz.underlying104 rfl (by rw[Tryz.infoN,au,hXl])) ?_;simp only[aq]
 refine aA 104 (.tmp 2) (.tmp 8) (w.heap.size) (kc X) 104 (kc ZN) aa rfl aa aa (hB.get 0 (x:=⟨w.heap.size,kc ZN,104⟩) rfl) (by rw[Tryz.infoN,au,hXl]) ((show (kc ZN).size=12 from rfl).trans ((au _).trans hXl).symm) (aL _) ?_;replace hB:=hB.set 0 (x:=⟨w.heap.size,kc ZN,104⟩) rfl (kc X);simp only[ab] at hB;generalize World.setRow _ _ _=x3 at *;simp only[aq];refine ai ?_;replace hB:=ao hB;go_wp2_with fail;replace hB:=aj hB;rw[aj hT];exact bodyPost_ret (v:=.agg (kc X)) (results_cell_row Tryz.results48 _ _ (w.heap.size) 104 (kc X) (0,0) _ rfl (hB.get 0 (x:=⟨w.heap.size,kc X,104⟩) rfl) Tryz.underlying104 rfl (by rw[Tryz.infoN,au,hXl])) rfl (⟨rfl,hB.gr⟩)
def Opd (P:List Int) (w:World) (r:Ending) (w':World):Prop:=∃ g,r=.returned (.tuple #[.slice (some ⟨g,0,none⟩) P.length P.length,.int .i64 0])∧w.heap.size≤g∧w'.heap[g]?=some (.cells (kc P) 5 (0,0))∧Gr w w'
theorem seal_take (K N A P:List Int):(sealL K N A P).take P.length=xl K N 1 P:=by
 unfold sealL;rw[List.take_append_of_le_length (by rw[cR]; exact Nat.le_refl _),List.take_of_length_le (by rw[cR]; exact Nat.le_refl _)]
theorem seal_drop (K N A P:List Int):(sealL K N A P).drop P.length=tagL K N A (xl K N 1 P):=by
 unfold sealL;rw[List.drop_append_of_le_length (by rw[cR]; exact Nat.le_refl _),List.drop_of_length_le (by rw[cR]; exact Nat.le_refl _),List.nil_append]
theorem open_yes (K N:List Int) (hK:K.length=32) (hN:N.length=12) (hKb:IsB K) (hNb:IsB N) (A P:List Int) (hPb:IsB P) (s s2:Option Addr) (n n2 cap cap2:Nat) (hbig:n2≤20000) (w:World) (la:Lb w s n cap A) (ls:Lb w s2 n2 cap2 (sealL K N A P)):Calls Tryz.prog 59 #[.agg (kc K),.agg (kc N),.slice s n cap,.slice s2 n2 cap2] w (Opd P w):=by
 obtain⟨T,hT⟩:∃ T,T=Opd P w:=⟨_,rfl⟩;rw[← hT];replace hT:=ao hT;have hl:=ls.len;rw[dp] at hl;obtain⟨m,hm⟩:∃ m,m=P.length:=⟨_,rfl⟩;have hm16:n2=m+16:=by omega
 have hSt:=seal_take K N A P;have hSd:=seal_drop K N A P;have hxx:=xl_twice K N 1 P hPb;rw[← hm] at hSt hSd;generalize sealL K N A P=S at *;obtain⟨C,hC⟩:∃ C,C=xl K N 1 P:=⟨_,rfl⟩;rw[← hC] at hSt hSd hxx;have hCl:C.length=m:=by rw[hC,cR,hm]
 obtain⟨Y,hY⟩:∃ Y,Y=tagL K N A C:=⟨_,rfl⟩;have hYl:Y.length=16:=by rw[hY,tagL_len]
 rw[← hY] at hSd;clear hC;replace hPb:=ao hPb; replace hm:=ao hm; replace hxx:=ao hxx; replace hY:=ao hY;have hcap:=ls.cap;obtain⟨c4,hc4⟩:∃ c,c=cap2 - m:=⟨_,rfl⟩;obtain⟨s3,hs3⟩:∃ x,x=if cap2=0 then s2 else s2.map (·.add 0):=⟨_,rfl⟩
 obtain⟨s4,hs4⟩:∃ x,x=if cap2=m then s2 else s2.map (·.add m):=⟨_,rfl⟩
 have e16:n2 - m=16:=by omega
 have l3:Lb w s3 m cap2 C:=by
  have h:=ls.upto m (by omega);rw[hSt,← hs3] at h;exact h
 have l4:Lb w s4 16 c4 Y:=by
  have h:=ls.rest m (by omega);rw[hSd,← hs4,← hc4,e16] at h;exact h
 have hle:m≤n2:=by omega
 have i1:¬ (n2:Int)<16:=by omega
 have i2:(n2:Int) - 16=(m:Int):=by omega
 have i3:IntKind.i64.wrap (m:Int)=(m:Int):=by rw[IntKind.wrap_i64]; omega
 have i4:¬ n2<16:=by omega
 replace hc4:=ao hc4; replace hs3:=ao hs3; replace hs4:=ao hs4; replace e16:=ao e16; replace l3:=ao l3; replace l4:=ao l4; replace hm16:=ao hm16; replace hCl:=ao hCl;clear ls hSt hSd;obtain⟨SK,hSK⟩:∃ S,S=kc K:=⟨_,rfl⟩;obtain⟨SN,hSN⟩:∃ S,S=kc N:=⟨_,rfl⟩;rw[← hSK,← hSN];replace hSK:=ao hSK;replace hSN:=ao hSN;replace hKb:=ao hKb;replace hNb:=ao hNb;replace la:=ao la;go_enter Tryz.func59,Tryz.ntmps59;go_upto_region 3 with fail;have hB:=(((Bl.nil w).new SK 23).new SN 104);simp only[aB,ac] at hB;generalize World.alloc _ _=u at *;rw[aj hSK,aj hSN] at hB;replace hB:Bl w [⟨w.heap.size,kc K,23⟩,⟨w.heap.size+1,kc N,104⟩] u:=hB;refine ag ?_;refine ak (.slice s2 n2 cap2) aa aa ?_;simp only[aq];refine ak (.int .i64 n2) aa aa ?_;simp only[aq];refine ak (.int .i64 m) aa (by go_simp) ?_;simp only[aq]
 (refine af fun K hK=>?_;go_simp;refine aj hK _ _ ?_;clear hK K)
 refine ai ?_;replace hB:=ao hB;go_upto_region 4 with fail;replace hB:=aj hB;refine aE (S:=fun _=>True) aa ?_;replace hB:=hB.drew;generalize World.drew _=x0 at *;simp only[ae,Array.replicate,List.replicate];refine ar (i:=0) (v:=(.slice s2 n2 cap2)) #[false,false,false,false,false,false,false,false] rfl aa aa aa aa (fun _ _ _ h=>h) (.inl ⟨by kernel_rfl,fun x_ hu=>by kernel_rfl⟩) trivial ?_;simp only[aq];refine ar (i:=1) (v:=(.int .i64 m)) #[true,false,false,false,false,false,false,false] rfl aa aa aa aa (fun _ _ _ h=>h) (.inl ⟨by kernel_rfl,fun x_ hu=>by kernel_rfl⟩) trivial ?_;simp only[aq];refine ar (i:=2) (v:=(.slice s3 m cap2)) #[true,true,false,false,false,false,false,false] rfl aa aa aa aa (fun _ _ _ h=>h) (.inl ⟨by kernel_rfl,fun x_ hu=>by rw[aj hs3]; exact exec_upto _ (.tmp 20) (.tmp 21) rfl s2 n2 cap2 m rfl rfl hcap hle⟩) trivial ?_;simp only[aq]
 refine ar (i:=3) (v:=(.slice s2 n2 cap2)) #[true,true,true,false,false,false,false,false] rfl aa aa aa aa (fun _ _ _ h=>h) (.inl ⟨by kernel_rfl,fun x_ hu=>by kernel_rfl⟩) trivial ?_;simp only[aq];refine ar (i:=4) (v:=(.int .i64 m)) #[true,true,true,true,false,false,false,false] rfl aa aa aa aa (fun _ _ _ h=>h) (.inl ⟨by kernel_rfl,fun x_ hu=>by kernel_rfl⟩) trivial ?_;simp only[aq];refine ar (i:=5) (v:=(.slice s4 16 c4)) #[true,true,true,true,true,false,false,false] rfl aa aa aa aa (fun _ _ _ h=>h) (.inl ⟨by kernel_rfl,fun x_ hu=>by rw[aj hs4,aj hc4,← aj e16]; exact exec_from _ (.tmp 23) (.tmp 24) rfl s2 n2 cap2 m rfl rfl hcap hle⟩) trivial ?_;simp only[aq];refine ay (i:=6) aa rfl (fun K_ hQ=>?_);replace hQ:=ao hQ;go_simp;refine(aj hQ).out _ _ trivial (fun _=>?_);clear hQ K_;refine ay (i:=7) aa rfl (fun K_ hQ=>?_);replace hQ:=ao hQ;go_simp;refine(aj hQ).out _ _ trivial (fun _=>?_)
 clear hQ K_;refine aF aa ?_;replace hB:=ao hB;go_upto_region 5 with fail;replace hB:=aj hB;refine ag ?_;refine ak (.agg (kc K)) aa (ax _ 23 (.tmp 4) rfl (w.heap.size) aa (kc K) 23 _ (hB.get 0 (x:=⟨w.heap.size,kc K,23⟩) rfl) Tryz.underlying23 rfl (by rw[Tryz.infoKey,au,hK])) ?_;simp only[aq];refine ak (.agg (kc N)) aa (ax _ 104 (.tmp 5) rfl (w.heap.size+1) aa (kc N) 104 _ (hB.get 1 (x:=⟨w.heap.size+1,kc N,104⟩) rfl) Tryz.underlying104 rfl (by rw[Tryz.infoN,au,hN])) ?_;simp only[aq];refine ak (.slice s n cap) aa aa ?_;simp only[aq];refine ak (.slice s3 m cap2) aa aa ?_;simp only[aq];refine av 93 #[.agg (kc K),.agg (kc N),.slice s n cap,.slice s3 m cap2] aa aa ((atag_ok K N hK hN (aj hKb) (aj hNb) A C s s3 n m cap cap2 _ ((aj la).gr hB.gr) ((aj l3).gr hB.gr)).mono ?_);rintro r u2 ⟨rfl,hg⟩;refine⟨_,rfl,?_⟩;replace hB:=hB.more hg;rw[← aj hY];clear hg;simp only[aq];replace hB:=ao hB
 (refine af fun K hK=>?_;go_simp;refine aj hK _ _ ?_;clear hK K)
 replace hB:=(aj hB).new #[.int .u8 0,.int .u8 0,.int .u8 0,.int .u8 0,.int .u8 0,.int .u8 0,.int .u8 0,.int .u8 0,.int .u8 0,.int .u8 0,.int .u8 0,.int .u8 0,.int .u8 0,.int .u8 0,.int .u8 0,.int .u8 0] 159;simp only[ac] at hB;generalize World.alloc _ _=u3 at *;generalize u2.heap.size=h10 at *;replace hB:Bl w [⟨w.heap.size,kc K,23⟩,⟨w.heap.size+1,kc N,104⟩,⟨h10,kc ZT,159⟩] u3:=hB;refine aA 159 (.tmp 13) (.tmp 30) (h10) (kc Y) 159 (kc ZT) aa rfl aa aa (hB.get 2 (x:=⟨h10,kc ZT,159⟩) rfl) (by rw[Tryz.infoT,au,hYl]) ((show (kc ZT).size=16 from rfl).trans ((au _).trans hYl).symm) (aL _) ?_;replace hB:=hB.set 2 (x:=⟨h10,kc ZT,159⟩) rfl (kc Y);simp only[ab] at hB;generalize World.setRow _ _ _=u4 at *;simp only[aq];refine ai ?_;replace hB:=ao hB;go_upto_region 6 with fail;replace hB:=aj hB;refine ag ?_;refine ak (.slice (some ⟨h10,0,none⟩) 16 16) aa aa ?_;simp only[aq]
 refine ak (.slice s4 16 c4) aa aa ?_;simp only[aq];refine av 30 #[.slice (some ⟨h10,0,none⟩) 16 16,.slice s4 16 c4] aa aa ((oequal_ok Y Y _ s4 16 16 c4 (by omega) _ (dv (hB.get 2 (x:=⟨h10,kc Y,159⟩) rfl) hYl (by rw[aj hY]; exact tagL_isB _ _ _ _) (by omega)) ((aj l4).gr hB.gr)).mono ?_);rintro r u5 ⟨rfl,rfl⟩;refine⟨_,rfl,?_⟩;rw[decide_eq_true (rfl:Y=Y)];simp only[aq];refine ak (.bool false) aa aa ?_;simp only[aq];refine ai ?_;replace hB:=ao hB;go_upto_region 8 with fail;replace hB:=aj hB;refine ag ?_;refine ak (.agg (kc K)) aa (ax _ 23 (.tmp 4) rfl (w.heap.size) aa (kc K) 23 _ (hB.get 0 (x:=⟨w.heap.size,kc K,23⟩) rfl) Tryz.underlying23 rfl (by rw[Tryz.infoKey,au,hK])) ?_;simp only[aq];refine ak (.agg (kc N)) aa (ax _ 104 (.tmp 5) rfl (w.heap.size+1) aa (kc N) 104 _ (hB.get 1 (x:=⟨w.heap.size+1,kc N,104⟩) rfl) Tryz.underlying104 rfl (by rw[Tryz.infoN,au,hN])) ?_;simp only[aq]
 refine ak (.slice s3 m cap2) aa aa ?_;simp only[aq];have hgw:=hB.gr.size;refine av 92 #[.agg (kc K),.int .u32 1,.agg (kc N),.slice s3 m cap2] aa aa ((xor_ok K N hK hN (aj hKb) (aj hNb) 1 ⟨by decide,by decide⟩ C _ m cap2 (by omega) _ ((aj l3).gr hB.gr)).mono ?_);rintro r u6 ⟨gx,rfl,hgx,hx,hg⟩;refine⟨_,rfl,?_⟩;replace hB:=hB.more hg;rw[aj hxx] at hx;rw[aj hCl];replace hgx:=Nat.le_trans hgw hgx;clear hg hgw;simp only[aq]
 (refine af fun K hK=>?_;go_simp;refine aj hK _ _ ?_;clear hK K)
 (refine af fun K hK=>?_;go_simp;refine aj hK _ _ ?_;clear hK K)
 refine ai ?_;have hP:Hid (Opd P w (.returned (.tuple #[.slice (some ⟨gx,0,none⟩) m m,.int .i64 0])) u6):=⟨gx,by rw[← aj hm],hgx,hx,hB.gr⟩;clear hB hx hgx;go_wp2_with fail;rw[aj hT];exact aj hP
theorem Ob.some {b:Nat} {w:World} {v:Value} {L:List Int} (h:Ob b w v L) (hL:L≠[]):∃ g c cur,v=.slice (some ⟨g,0,none⟩) L.length c∧b≤g∧w.heap[g]?=some (.cells cur 5 (0,0))∧L.length≤c∧c≤maxLen∧cur.size=c∧cur.toList.take L.length=L.map (Value.int .u8):=by
 rcases h.2 with ⟨h1,h2⟩ | ⟨g,cap,cur,h1,h2,h3,h4,h5,h6,h7⟩
 ·exact absurd (List.eq_nil_of_length_eq_zero h2) hL
 ·exact⟨g,cap,cur,h1,h2,h3,h4,h5,by rw[h6,Nat.mul_one],by rw[Nat.mul_one] at h7; exact h7⟩

end Go.Proofs.YtbkkibhhfmgojaaGreatDoor
namespace Go.Proofs.YtbkkibhhfmgojaaGreatDoor
open Go.RowKit
def bw (b:List Int):List Value:=b.map (Value.int .u8)
theorem aJ (b:List Int):(bw b).length=b.length:=by unfold bw; simp
theorem cu (b:List Int):(bw b).toArray.all (·.oneCell')=true:=by unfold bw; simp[Value.oneCell']
theorem kc_bw (b:List Int):kc b=(bw b).toArray:=rfl
def fl (S:List (List Value)):Array Value:=S.flatten.toArray
theorem dc {S:List (List Value)} {i:Nat} {s:List Value} (h:S[i]?=some s):S.flatten=(S.take i).flatten++(s++(S.drop (i+1)).flatten):=by
 have e:S=S.take i++(s::S.drop (i+1)):=by
  have h1:i<S.length:=(List.getElem?_eq_some_iff.1 h).1;have h2:=(List.getElem?_eq_some_iff.1 h).2;rw[← h2,← List.drop_eq_getElem_cons h1,List.take_append_drop]
 conv=>lhs; rw[e]
 simp
theorem plen:∀ (S:List (List Value)) (N:List Nat),S.map List.length=N→∀ i,(S.take i).flatten.length=(N.take i).sum
 | [],N,h,i=>by subst h; simp
 | s::S,N,h,0=>by simp
 | s::S,N,h,i+1=>by
  subst h;simp only[List.take_succ_cons,List.flatten_cons,List.length_append,List.map_cons,List.sum_cons];rw[plen S _ rfl i]
theorem bf {S:List (List Value)} {N:List Nat} (h:S.map List.length=N):(fl S).size=N.sum:=by
 have h1:=plen S N h S.length;rw[List.take_length] at h1;have:N.take S.length=N:=List.take_of_length_le (by rw[← h]; simp);rw[this] at h1;unfold fl;simpa using h1
theorem dn {S:List (List Value)} {N:List Nat} (hN:S.map List.length=N) {w:World} {g:Nat} {t:TypeId} (h:w.heap[g]?=some (.cells (fl S) t (0,0))) (i:Nat) {s:List Value} (hi:S[i]?=some s) {o:Nat} (ho:(N.take i).sum=o):w.rangeAt g o s:=fun j x hj=>by
 refine aw h ?_;have hlt:=(List.getElem?_eq_some_iff.1 hj).1;have hp:=plen S N hN i;unfold fl;rw[List.getElem?_toArray,dc hi,List.getElem?_append_right (by omega),List.getElem?_append_left (by omega),← hj]
 congr 1
 omega
theorem aI {S:List (List Value)} {N:List Nat} (hN:S.map List.length=N) {w:World} {g:Nat} {t:TypeId} (h:w.heap[g]?=some (.cells (fl S) t (0,0))) (i:Nat) {v:Value} (hi:S[i]?=some [v]) {o:Nat} (ho:(N.take i).sum=o):w.cell? ⟨g,o,none⟩=some v :=
 dn hN h i hi ho 0 v rfl
theorem aV {op:Oper} {a:Act} (w:World) (x:Operand) (ho:op.op=.load 23 x) (g o:Nat) (hx:a.eval x=.pointer (some ⟨g,o,none⟩)) {S:List (List Value)} {t:TypeId} (h:w.heap[g]?=some (.cells (fl S) t (0,0))) (N:List Nat) (hN:S.map List.length=N) (i:Nat) (K:List Int) (hi:S[i]?=some (bw K)) (hof:(N.take i).sum=o) (hl:N[i]?=some 32) :
  (execOp a.eval op).run Tryz.prog w=.ok (.value (.agg (kc K))) w:=by
 have hK:(bw K).length=32:=by
  have:=congrArg (·[i]?) hN;simp only[List.getElem?_map,hi,hl,Option.map_some,Option.some.injEq] at this;exact this
 exact bz (P:=Tryz.prog) w 23 x ho g o hx (bw K) _ (dn hN h i hi hof) Tryz.underlying23 rfl (by rw[Tryz.infoKey,hK])
theorem aQ {op:Oper} {a:Act} (w:World) (ty:TypeId) (x:Operand) (ho:op.op=.load ty x) (g:Nat) (hx:a.eval x=.pointer (some ⟨g,0,none⟩)) {S:List (List Value)} {t:TypeId} (h:w.heap[g]?=some (.cells (fl S) t (0,0))) (N:List Nat) (hN:S.map List.length=N) {d:TypeDesc} (hu:Tryz.prog.underlying ty=some d) (hd:d.isRow=true) (hi:(Tryz.prog.info? ty).map (·.size)=some N.sum) :
  (execOp a.eval op).run Tryz.prog w=.ok (.value (.agg (fl S))) w :=
 ax w ty x ho g hx (fl S) t d h hu hd (by rw[hi,bf hN])
theorem aU {op:Oper} {a:Act} (w:World) (x:Operand) (ho:op.op=.load 29 x) (g i:Nat) (hx:a.eval x=.pointer (some ⟨g,i,none⟩)) (v:Int) (hc:w.cell? ⟨g,i,none⟩=some (.int .u32 v)):(execOp a.eval op).run Tryz.prog w=.ok (.value (.int .u32 v)) w:=by
 unfold execOp;simp only[ho,hx,Instr.loadAt,Instr.sureAddr,Sem.run_bind,Sem.run_pure,Result.andThen_ok];go_simp
theorem exec_cb {op:Oper} {a:Act} (w:World) (x:Operand) (ho:op.op=.load 4 x) (g i:Nat) (hx:a.eval x=.pointer (some ⟨g,i,none⟩)) (v:Bool) (hc:w.cell? ⟨g,i,none⟩=some (.bool v)):(execOp a.eval op).run Tryz.prog w=.ok (.value (.bool v)) w:=by
 unfold execOp;simp only[ho,hx,Instr.loadAt,Instr.sureAddr,Sem.run_bind,Sem.run_pure,Result.andThen_ok];go_simp
theorem bQ {op:Oper} {a:Act} (w:World) (x:Operand) (ho:op.op=.load 30 x) (g i:Nat) (hx:a.eval x=.pointer (some ⟨g,i,none⟩)) (p:Option Addr) (n c:Nat) (hc:w.cell? ⟨g,i,none⟩=some (.slice p n c)):(execOp a.eval op).run Tryz.prog w=.ok (.value (.slice p n c)) w:=by
 unfold execOp;simp only[ho,hx,Instr.loadAt,Instr.sureAddr,Sem.run_bind,Sem.run_pure,Result.andThen_ok];go_simp
theorem fold_mid (off:Nat):∀ (vs A M D:List Value) (k:Nat),A.length=off+k→vs.length=M.length→(vs.zipIdx k).foldl (fun cs x=>cs.setIfInBounds (off+x.2) x.1) (A++(M++D)).toArray=(A++(vs++D)).toArray
 | [],A,[],D,_,_,_=>by simp
 | [],_,_::_,_,_,_,h=>by simp at h
 | _::_,_,[],_,_,_,h=>by simp at h
 | v::vs,A,m::M,D,k,hA,h=>by
  rw[List.zipIdx_cons,List.foldl_cons];have e:(A++(m::M++D)).toArray.setIfInBounds (off+k) v=((A++[v])++(M++D)).toArray:=by
   rw[List.setIfInBounds_toArray,← hA];simp
  show List.foldl _ ((A++(m::M++D)).toArray.setIfInBounds (off+k) v) _=_;rw[e,fold_mid off vs (A++[v]) M D (k+1) (by simp[hA]; omega) (by simpa using h)];simp
theorem seg_set {S:List (List Value)} {N:List Nat} (hN:S.map List.length=N) (i:Nat) (vs:List Value) (hi:N[i]?=some vs.length):sp S.flatten (N.take i).sum vs=(S.set i vs).flatten:=by
 have hl:i<S.length:=by
  have:=(List.getElem?_eq_some_iff.1 hi).1;rw[← hN] at this;simpa using this
 have hs:S[i]?=some S[i]:=List.getElem?_eq_getElem hl;have hvl:vs.length=(S[i]).length:=by
  have h1:=congrArg (·[i]?) hN;simp only[List.getElem?_map,hs,hi,Option.map_some,Option.some.injEq] at h1;exact h1.symm
 have hp:=plen S N hN i;rw[dc hs,← hp,sp_mid _ _ _ _ hvl];have h2:(S.set i vs)[i]?=some vs:=by rw[List.getElem?_set_self hl]
 rw[dc h2,List.take_set_of_le (Nat.le_refl _),List.drop_set_of_lt (Nat.lt_succ_self _)]
theorem Bl.cells {w v:World} {L:List Blk} (h:Bl w L v) (b:Nat) {g:Nat} {C:List Value} {t:TypeId} (hb:L[b]?=some ⟨g,C.toArray,t⟩) (o:Nat) (vs:List Value):Bl w (L.set b ⟨g,(sp C o vs).toArray,t⟩) (v.setCells g o vs) :=
 h.but (aM vs v g o) b hb rfl (aZ vs v g o C t (h.get b hb))
section
variable {N:List Nat} {ops:Array Oper} {Q:Exit→Act→World→Prop} {a:Act} {w w0:World} {o:Oper} {rest:List Oper} {L:List Blk} {S:List (List Value)} {t:TypeId} {K:Act→World→Prop}
theorem step_seg (ty:TypeId) (x y:Operand) (g off:Nat) (vs:List Value) (hw:Region.wanted o (yielded ops a.tmps)=true) (ho:o.op=.store ty x y)
  (hx:a.eval x=.pointer (some ⟨g,off,none⟩)) (hy:a.eval y=.agg vs.toArray) (hB:Bl w0 L w) (b:Nat) (hb:L[b]?=some ⟨g,fl S,t⟩) (N:List Nat) (hN:S.map List.length=N) (i:Nat) (hi:N[i]?=some vs.length) (hof:(N.take i).sum=off)
  (hn:(Tryz.prog.info? ty).map (·.size)=some vs.length) (h1:vs.toArray.all (·.oneCell')=true)
  (h:∀ v,Bl w0 (L.set b ⟨g,fl (S.set i vs),t⟩) v→Bt g w v→K (a.put o.dst undef) v):if Region.wanted o (yielded ops a.tmps)=true then Oper.wp Tryz.prog o a w K Q else K (a.put o.dst undef) w:=by
 have hB2:=hB.cells b (C:=S.flatten) hb off vs;rw[← hof,seg_set hN i vs hi] at hB2;have hl:i<N.length:=(List.getElem?_eq_some_iff.1 hi).1;have hle:off+vs.length≤S.flatten.length:=by
  have e1:=bf hN;have e2:(N.take (i+1)).sum=(N.take i).sum+vs.length:=by
   rw[List.take_add_one,hi]; simp
  have e3:(N.take (i+1)).sum≤N.sum:=by
   conv=>rhs; rw[← List.take_append_drop (i+1) N,List.sum_append]
   omega
  have e4:(fl S).size=S.flatten.length:=by unfold fl; simp
  omega
 refine list_store_mid ty x y g off vs.toArray hw ho hx hy (there_of (hB.get b hb) (by simpa using hle)) (by rw[hn]; simp) h1 ?_;exact(h _ (by rw[← hof]; exact hB2) (aM _ _ _ _))
theorem bG (ty:TypeId) (x y:Operand) (g off:Nat) (vs:List Value) (hw:Region.wanted o (yielded ops a.tmps)=true) (ho:o.op=.store ty x y)
  (hx:a.eval x=.pointer (some ⟨g,off,none⟩)) (hy:a.eval y=.agg vs.toArray) (hB:Bl w0 L w) (b:Nat) (hb:L[b]?=some ⟨g,fl S,t⟩) (N:List Nat) (hN:S.map List.length=N) (i:Nat) (hi:N[i]?=some vs.length) (hof:(N.take i).sum=off)
  (hn:(Tryz.prog.info? ty).map (·.size)=some vs.length) (h1:vs.toArray.all (·.oneCell')=true)
  (h:∀ v,Bl w0 (L.set b ⟨g,fl (S.set i vs),t⟩) v→Bt g w v→wpList Tryz.prog ops Q rest (a.put o.dst undef) v):wpList Tryz.prog ops Q (o::rest) a w :=
 wpList_step fun K hK=>step_seg ty x y g off vs hw ho hx hy hB b hb N hN i hi hof hn h1 fun v hv hb=>hK _ _ (h v hv hb)
theorem seg_left (hN:S.map List.length=N) (i:Nat) {v:Value} (hi:S[i]?=some [v]) {off:Nat} (hof:(N.take i).sum=off) (hB:Bl w0 L w) (b:Nat) {g:Nat} (hb:L[b]?=some ⟨g,fl S,t⟩) (y:Value):Bl w0 (L.set b ⟨g,fl (S.set i [y]),t⟩) (w.setCell ⟨g,off,none⟩ y):=by
 have hB2:=hB.cells b (C:=S.flatten) hb off [y];have hl:N[i]?=some [y].length:=by
  rw[← hN,List.getElem?_map,hi]; rfl
 rw[← hof,seg_set hN i [y] hl,hof] at hB2;exact hB2
theorem step_c32 (x y:Operand) (g off:Nat) (z:Int) (hw:Region.wanted o (yielded ops a.tmps)=true) (ho:o.op=.store 29 x y)
  (hx:a.eval x=.pointer (some ⟨g,off,none⟩)) (hy:a.eval y=.int .u32 z) (hB:Bl w0 L w) (b:Nat) (hb:L[b]?=some ⟨g,fl S,t⟩) (N:List Nat) (hN:S.map List.length=N) (i:Nat) (q:Value) (hi:S[i]?=some [q]) (hof:(N.take i).sum=off)
  (h:∀ v,Bl w0 (L.set b ⟨g,fl (S.set i [.int .u32 z]),t⟩) v→Bt g w v→K (a.put o.dst undef) v):if Region.wanted o (yielded ops a.tmps)=true then Oper.wp Tryz.prog o a w K Q else K (a.put o.dst undef) w:=by
 have h2:=h _ (seg_left hN i hi hof hB b hb (.int .u32 z)) (aM [.int .u32 z] w g off);have c4:=aI hN (hB.get b hb) i hi hof;have fz:=aO (i:=off) (hB.get b hb);dsimp only at c4 fz;rw[if_pos hw];unfold Oper.wp execOp;simp only[ho,hx,hy];go_simp;exact h2
theorem cC (x y:Operand) (g off:Nat) (z:Int) (hw:Region.wanted o (yielded ops a.tmps)=true) (ho:o.op=.store 29 x y)
  (hx:a.eval x=.pointer (some ⟨g,off,none⟩)) (hy:a.eval y=.int .u32 z) (hB:Bl w0 L w) (b:Nat) (hb:L[b]?=some ⟨g,fl S,t⟩) (N:List Nat) (hN:S.map List.length=N) (i:Nat) (q:Value) (hi:S[i]?=some [q]) (hof:(N.take i).sum=off)
  (h:∀ v,Bl w0 (L.set b ⟨g,fl (S.set i [.int .u32 z]),t⟩) v→Bt g w v→wpList Tryz.prog ops Q rest (a.put o.dst undef) v):wpList Tryz.prog ops Q (o::rest) a w :=
 wpList_step fun K hK=>step_c32 x y g off z hw ho hx hy hB b hb N hN i q hi hof fun v hv hb=>hK _ _ (h v hv hb)
theorem step_csl (x y:Operand) (g off:Nat) (p:Option Addr) (n c:Nat) (hw:Region.wanted o (yielded ops a.tmps)=true) (ho:o.op=.store 30 x y)
  (hx:a.eval x=.pointer (some ⟨g,off,none⟩)) (hy:a.eval y=.slice p n c) (hB:Bl w0 L w) (b:Nat) (hb:L[b]?=some ⟨g,fl S,t⟩) (N:List Nat) (hN:S.map List.length=N) (i:Nat) (q:Value) (hi:S[i]?=some [q]) (hof:(N.take i).sum=off)
  (h:∀ v,Bl w0 (L.set b ⟨g,fl (S.set i [.slice p n c]),t⟩) v→Bt g w v→K (a.put o.dst undef) v):if Region.wanted o (yielded ops a.tmps)=true then Oper.wp Tryz.prog o a w K Q else K (a.put o.dst undef) w:=by
 have h2:=h _ (seg_left hN i hi hof hB b hb (.slice p n c)) (aM [.slice p n c] w g off);have c4:=aI hN (hB.get b hb) i hi hof;have fz:=aO (i:=off) (hB.get b hb);dsimp only at c4 fz;rw[if_pos hw];unfold Oper.wp execOp;simp only[ho,hx,hy];go_simp;exact h2
theorem list_csl (x y:Operand) (g off:Nat) (p:Option Addr) (n c:Nat) (hw:Region.wanted o (yielded ops a.tmps)=true) (ho:o.op=.store 30 x y)
  (hx:a.eval x=.pointer (some ⟨g,off,none⟩)) (hy:a.eval y=.slice p n c) (hB:Bl w0 L w) (b:Nat) (hb:L[b]?=some ⟨g,fl S,t⟩) (N:List Nat) (hN:S.map List.length=N) (i:Nat) (q:Value) (hi:S[i]?=some [q]) (hof:(N.take i).sum=off)
  (h:∀ v,Bl w0 (L.set b ⟨g,fl (S.set i [.slice p n c]),t⟩) v→Bt g w v→wpList Tryz.prog ops Q rest (a.put o.dst undef) v):wpList Tryz.prog ops Q (o::rest) a w :=
 wpList_step fun K hK=>step_csl x y g off p n c hw ho hx hy hB b hb N hN i q hi hof fun v hv hb=>hK _ _ (h v hv hb)
end
theorem aR {P:Program} {ops:Array Oper} {Q:Exit→Act→World→Prop} {l:List Oper} {a:Act} {w:World} (h:∀ ops',ops'=ops→wpList P ops' Q l a w):wpList P ops Q l a w:=h ops rfl
theorem aK {P:Program} {ops:Array Oper} {Q:Exit→Act→World→Prop} {a:Act} {w:World} {o:Oper} {rest:List Oper} (hw:Region.wanted o (yielded ops a.tmps)=false) (h:wpList P ops Q rest (a.put o.dst undef) w):wpList P ops Q (o::rest) a w:=by
 refine wpList_step fun K hK=>?_;rw[if_neg (ne_true_of_eq_false hw)];exact hK _ _ h
theorem bn {place:Nat→Option (Nat × Nat)} {S:List (List Value)} {N:List Nat} (hN:S.map List.length=N) {v:Value} {vs:List Value} (hv:v.cells=vs.toArray) (k i:Nat) (hp:place k=some ((N.take i).sum,vs.length)) (hi:N[i]?=some vs.length) (rest:List (Nat × Value)) :
  Instr.fill place (fl S) ((k,v)::rest)=Instr.fill place (fl (S.set i vs)) rest:=by
 have hl:i<S.length:=by
  have:=(List.getElem?_eq_some_iff.1 hi).1;rw[← hN] at this;simpa using this
 have hs:S[i]?=some S[i]:=List.getElem?_eq_getElem hl;have hvl:vs.length=(S[i]).length:=by
  have h1:=congrArg (·[i]?) hN;simp only[List.getElem?_map,hs,hi,Option.map_some,Option.some.injEq] at h1;exact h1.symm
 have hp2:=plen S N hN i;have e:=fold_mid ((N.take i).sum) vs (S.take i).flatten S[i] (S.drop (i+1)).flatten 0 (by omega) hvl;have h2:(S.set i vs)[i]?=some vs:=by rw[List.getElem?_set_self hl]
 have e2:=dc h2;rw[List.take_set_of_le (Nat.le_refl _),List.drop_set_of_lt (Nat.lt_succ_self _)] at e2;rw[Instr.fill,hp,hv];simp only;rw[if_neg]
 ·rw[show fl S=((S.take i).flatten++(S[i]++(S.drop (i+1)).flatten)).toArray from by unfold fl; rw[← dc hs]];have e3:(vs.toArray.zipIdx.foldl (fun cs (x:Value × Nat)=>cs.setIfInBounds ((N.take i).sum+x.2) x.1) ((S.take i).flatten++(S[i]++(S.drop (i+1)).flatten)).toArray)=(fl (S.set i vs)):=by
   unfold fl;rw[e2,← e];simp
  rw[← e3]
 ·have e1:=bf hN;have e4:(N.take (i+1)).sum=(N.take i).sum+vs.length:=by
   rw[List.take_add_one,hi]; simp
  have e5:(N.take (i+1)).sum≤N.sum:=by
   conv=>rhs; rw[← List.take_append_drop (i+1) N,List.sum_append]
   omega
  simp;omega
end Go.Proofs.YtbkkibhhfmgojaaGreatDoor
namespace Go.Proofs.YtbkkibhhfmgojaaGreatDoor
open Go.RowKit
def Z65:List Int:=List.replicate 65 0
theorem dK:Z65.length=65:=rfl
def NR:List Nat:=[32,32,32,32,32,1,1,1,1]
def NS:List Nat:=[32,1,32]
def NW:List Nat:=[32,1]
def NH:List Nat:=[32,1,1]
def NM:List Nat:=[32,1,1,65]
def NP:List Nat:=[32,1]
theorem nR {R O P S C:List Int} (h1:R.length=32) (h2:O.length=32) (h3:P.length=32) (h4:S.length=32) (h5:C.length=32) (a b c d:Value):[bw R,bw O,bw P,bw S,bw C,[a],[b],[c],[d]].map List.length=NR:=by simp[aJ,NR, *]
theorem nS {K S:List Int} (h1:K.length=32) (h2:S.length=32) (a:Value):[bw K,[a],bw S].map List.length=NS:=by simp[aJ,NS, *]
theorem nW {K:List Int} (h1:K.length=32) (a:Value):[bw K,[a]].map List.length=NW:=by simp[aJ,NW, *]
theorem nH {K:List Int} (h1:K.length=32) (a b:Value):[bw K,[a],[b]].map List.length=NH:=by simp[aJ,NH, *]
theorem nM {K B:List Int} (h1:K.length=32) (h2:B.length=65) (a b:Value):[bw K,[a],[b],bw B].map List.length=NM:=by simp[aJ,NM, *]
theorem nP {K:List Int} (h1:K.length=32) (a:Value):[bw K,[a]].map List.length=NP:=by simp[aJ,NP, *]
theorem u8_one (x:Int):(Value.int .u8 x).oneCell'=true:=rfl
theorem oR (R O P S C:List Int) {a b c d:Value} (h1:a.oneCell'=true) (h2:b.oneCell'=true) (h3:c.oneCell'=true) (h4:d.oneCell'=true):(fl [bw R,bw O,bw P,bw S,bw C,[a],[b],[c],[d]]).all (·.oneCell')=true:=by simp[fl,bw,u8_one,h1,h2,h3,h4]
theorem oS (K S:List Int) {a:Value} (h1:a.oneCell'=true):(fl [bw K,[a],bw S]).all (·.oneCell')=true:=by simp[fl,bw,u8_one,h1]
theorem oW (K:List Int) {a:Value} (h1:a.oneCell'=true):(fl [bw K,[a]]).all (·.oneCell')=true:=by simp[fl,bw,u8_one,h1]
theorem oM (K B:List Int) {a b:Value} (h1:a.oneCell'=true) (h2:b.oneCell'=true):(fl [bw K,[a],[b],bw B]).all (·.oneCell')=true:=by simp[fl,bw,u8_one,h1,h2]
theorem bM {ops:Array Oper} {Q:Exit→Act→World→Prop} {a:Act} {w w0:World} {o:Oper} {L:List Blk} {S S2:List (List Value)} {t:TypeId} {K:Act→World→Prop} (ty:TypeId) (x y:Operand) (g:Nat) (hw:Region.wanted o (yielded ops a.tmps)=true) (ho:o.op=.store ty x y)
  (hx:a.eval x=.pointer (some ⟨g,0,none⟩)) (hy:a.eval y=.agg (fl S2)) (hB:Bl w0 L w) (b:Nat) (hb:L[b]?=some ⟨g,fl S,t⟩) (N:List Nat) (hN:S.map List.length=N) (hN2:S2.map List.length=N)
  (hn:(Tryz.prog.info? ty).map (·.size)=some N.sum) (h1:(fl S2).all (·.oneCell')=true)
  (h:∀ v,Bl w0 (L.set b ⟨g,fl S2,t⟩) v→Bt g w v→K (a.put o.dst undef) v):if Region.wanted o (yielded ops a.tmps)=true then Oper.wp Tryz.prog o a w K Q else K (a.put o.dst undef) w:=by
 have hg:=hB.get b hb;rw[if_pos hw];refine wp_store_row ty x y ho g (fl S2) hx hy t (fl S) hg (by rw[hn,bf hN2]) (by rw[bf hN,bf hN2]) h1 ?_;exact h _ (hB.set b hb (fl S2)) ⟨setRow_os _ _ _,rfl,rfl,by simp[World.setRow],fun i _ hi=>setRow_other _ _ _ _ hi⟩
theorem aX {ops:Array Oper} {Q:Exit→Act→World→Prop} {a:Act} {w w0:World} {o:Oper} {rest:List Oper} {L:List Blk} {S S2:List (List Value)} {t:TypeId} (ty:TypeId) (x y:Operand) (g:Nat) (hw:Region.wanted o (yielded ops a.tmps)=true) (ho:o.op=.store ty x y)
  (hx:a.eval x=.pointer (some ⟨g,0,none⟩)) (hy:a.eval y=.agg (fl S2)) (hB:Bl w0 L w) (b:Nat) (hb:L[b]?=some ⟨g,fl S,t⟩) (N:List Nat) (hN:S.map List.length=N) (hN2:S2.map List.length=N)
  (hn:(Tryz.prog.info? ty).map (·.size)=some N.sum) (h1:(fl S2).all (·.oneCell')=true)
  (h:∀ v,Bl w0 (L.set b ⟨g,fl S2,t⟩) v→Bt g w v→wpList Tryz.prog ops Q rest (a.put o.dst undef) v):wpList Tryz.prog ops Q (o::rest) a w :=
 wpList_step fun K hK=>bM ty x y g hw ho hx hy hB b hb N hN hN2 hn h1 fun v hv hb=>hK _ _ (h v hv hb)
theorem Tryz.infoHd:(Tryz.prog.info? 42).map (·.size)=some 34:=by kernel_rfl
theorem exec_mh {op:Oper} {a:Act} (w:World) (x:Operand) (ho:op.op=.load 42 x) (g:Nat) (hx:a.eval x=.pointer (some ⟨g,0,none⟩)) {s0 s1 s2 s3:List Value} {t:TypeId} (h:w.heap[g]?=some (.cells (fl [s0,s1,s2,s3]) t (0,0))) (hN:[s0,s1,s2,s3].map List.length=NM) :
  (execOp a.eval op).run Tryz.prog w=.ok (.value (.agg (fl [s0,s1,s2]))) w:=by
 have hN2:[s0,s1,s2].map List.length=NH:=by
  have:=congrArg (List.take 3) hN;simpa [NM,NH] using this
 have e:=bf hN2;refine bz (P:=Tryz.prog) w 42 x ho g 0 hx [s0,s1,s2].flatten _ (fun j y hj=>?_) Tryz.underlying42 rfl ?_
 ·have hlt:=(List.getElem?_eq_some_iff.1 hj).1;rw[Nat.zero_add];refine aw h ?_;unfold fl;rw[List.getElem?_toArray,show [s0,s1,s2,s3].flatten=[s0,s1,s2].flatten++s3 from by simp,List.getElem?_append_left hlt,hj]
 ·have e2:[s0,s1,s2].flatten.length=34:=by
   have:(fl [s0,s1,s2]).size=[s0,s1,s2].flatten.length:=by unfold fl; simp
   rw[← this,e]; rfl
  rw[e2];exact Tryz.infoHd
theorem cF {a:Act} {o:Oper} (w:World) (t:TypeId) (ps:Array (Nat × Operand)) (vs:List (Nat × Value)) (ho:o.op=.build t ps) (hv:(ps.map fun p=>(p.1,a.eval p.2))=vs.toArray) (cs:Array Value) (h:Tryz.prog.built t vs=some cs):(execOp a.eval o).run Tryz.prog w=.ok (.value (.agg cs)) w:=by
 have h2:=run_build (P:=Tryz.prog) w t vs.toArray cs h;rw[← hv] at h2;unfold execOp;simp only[ho,Sem.run_bind,h2,Result.andThen_ok,Sem.run_pure]
theorem bltR (vs:List (Nat × Value)):Tryz.prog.built 32 vs=Instr.fill (#[(0,32),(32,32),(64,32),(96,32),(128,32),(160,1),(161,1),(162,1),(163,1)][·]?) (fl [bw Z32,bw Z32,bw Z32,bw Z32,bw Z32,[.int .u32 0],[.int .u32 0],[.int .u32 0],[.slice none 0 0]]) vs:=by kernel_rfl
theorem bltW (vs:List (Nat × Value)):Tryz.prog.built 154 vs=Instr.fill (#[(0,32),(32,1)][·]?) (fl [bw Z32,[.int .u32 0]]) vs:=by kernel_rfl
theorem bltH (vs:List (Nat × Value)):Tryz.prog.built 42 vs=Instr.fill (#[(0,32),(32,1),(33,1)][·]?) (fl [bw Z32,[.int .u32 0],[.int .u32 0]]) vs:=by kernel_rfl
theorem bltM (vs:List (Nat × Value)):Tryz.prog.built 45 vs=Instr.fill (#[(0,34),(34,65)][·]?) (fl [bw Z32,[.int .u32 0],[.int .u32 0],bw Z65]) vs:=by kernel_rfl
theorem cQ (place:Nat→Option (Nat × Nat)) (cs:Array Value):Instr.fill place cs []=some cs:=rfl
theorem zl32:Z32.length=32:=rfl
theorem bR (w:World) {a:Act} {o:Oper}  (ho:o.op=.build 32 #[])   :
  (execOp a.eval o).run Tryz.prog w=.ok (.value (.agg (fl [bw Z32,bw Z32,bw Z32,bw Z32,bw Z32,[.int .u32 0],[.int .u32 0],[.int .u32 0],[.slice none 0 0]]))) w:=by
 refine cF w _ _ [] ho (by simp) _ ?_;rw[bltR];exact cQ _ _
theorem bR0123 {K0 K1 K2 K3:List Int} (w:World) {a:Act} {o:Oper} (x0:Operand) (x1:Operand) (x2:Operand) (x3:Operand) (ho:o.op=.build 32 #[(0,x0),(1,x1),(2,x2),(3,x3)]) (h0:K0.length=32) (h1:K1.length=32) (h2:K2.length=32) (h3:K3.length=32) (e0:a.eval x0=.agg (kc K0)) (e1:a.eval x1=.agg (kc K1)) (e2:a.eval x2=.agg (kc K2)) (e3:a.eval x3=.agg (kc K3)) :
  (execOp a.eval o).run Tryz.prog w=.ok (.value (.agg (fl [bw K0,bw K1,bw K2,bw K3,bw Z32,[.int .u32 0],[.int .u32 0],[.int .u32 0],[.slice none 0 0]]))) w:=by
 refine cF w _ _ [(0,.agg (kc K0)),(1,.agg (kc K1)),(2,.agg (kc K2)),(3,.agg (kc K3))] ho (by simp[e0,e1,e2,e3]) _ ?_;rw[bltR];rw[bn (N:=NR) (nR zl32 zl32 zl32 zl32 zl32 _ _ _ _) (vs:=bw K0) rfl 0 0 (by rw[aJ,h0]; rfl) (by rw[aJ,h0]; rfl)];simp only[ab];rw[bn (N:=NR) (nR h0 zl32 zl32 zl32 zl32 _ _ _ _) (vs:=bw K1) rfl 1 1 (by rw[aJ,h1]; rfl) (by rw[aJ,h1]; rfl)];simp only[ab];rw[bn (N:=NR) (nR h0 h1 zl32 zl32 zl32 _ _ _ _) (vs:=bw K2) rfl 2 2 (by rw[aJ,h2]; rfl) (by rw[aJ,h2]; rfl)];simp only[ab];rw[bn (N:=NR) (nR h0 h1 h2 zl32 zl32 _ _ _ _) (vs:=bw K3) rfl 3 3 (by rw[aJ,h3]; rfl) (by rw[aJ,h3]; rfl)];simp only[ab];exact cQ _ _
theorem bR01234 {K0 K1 K2 K3 K4:List Int} (w:World) {a:Act} {o:Oper} (x0:Operand) (x1:Operand) (x2:Operand) (x3:Operand) (x4:Operand) (ho:o.op=.build 32 #[(0,x0),(1,x1),(2,x2),(3,x3),(4,x4)]) (h0:K0.length=32) (h1:K1.length=32) (h2:K2.length=32) (h3:K3.length=32) (h4:K4.length=32) (e0:a.eval x0=.agg (kc K0)) (e1:a.eval x1=.agg (kc K1)) (e2:a.eval x2=.agg (kc K2)) (e3:a.eval x3=.agg (kc K3)) (e4:a.eval x4=.agg (kc K4)) :
  (execOp a.eval o).run Tryz.prog w=.ok (.value (.agg (fl [bw K0,bw K1,bw K2,bw K3,bw K4,[.int .u32 0],[.int .u32 0],[.int .u32 0],[.slice none 0 0]]))) w:=by
 refine cF w _ _ [(0,.agg (kc K0)),(1,.agg (kc K1)),(2,.agg (kc K2)),(3,.agg (kc K3)),(4,.agg (kc K4))] ho (by simp[e0,e1,e2,e3,e4]) _ ?_;rw[bltR];rw[bn (N:=NR) (nR zl32 zl32 zl32 zl32 zl32 _ _ _ _) (vs:=bw K0) rfl 0 0 (by rw[aJ,h0]; rfl) (by rw[aJ,h0]; rfl)];simp only[ab];rw[bn (N:=NR) (nR h0 zl32 zl32 zl32 zl32 _ _ _ _) (vs:=bw K1) rfl 1 1 (by rw[aJ,h1]; rfl) (by rw[aJ,h1]; rfl)];simp only[ab];rw[bn (N:=NR) (nR h0 h1 zl32 zl32 zl32 _ _ _ _) (vs:=bw K2) rfl 2 2 (by rw[aJ,h2]; rfl) (by rw[aJ,h2]; rfl)];simp only[ab];rw[bn (N:=NR) (nR h0 h1 h2 zl32 zl32 _ _ _ _) (vs:=bw K3) rfl 3 3 (by rw[aJ,h3]; rfl) (by rw[aJ,h3]; rfl)];simp only[ab];rw[bn (N:=NR) (nR h0 h1 h2 h3 zl32 _ _ _ _) (vs:=bw K4) rfl 4 4 (by rw[aJ,h4]; rfl) (by rw[aJ,h4]; rfl)];simp only[ab];exact cQ _ _
theorem bW01 {K0:List Int} {z1:Int} (w:World) {a:Act} {o:Oper} (x0:Operand) (x1:Operand) (ho:o.op=.build 154 #[(0,x0),(1,x1)]) (h0:K0.length=32) (e0:a.eval x0=.agg (kc K0)) (e1:a.eval x1=.int .u32 z1) :
  (execOp a.eval o).run Tryz.prog w=.ok (.value (.agg (fl [bw K0,[.int .u32 z1]]))) w:=by
 refine cF w _ _ [(0,.agg (kc K0)),(1,.int .u32 z1)] ho (by simp[e0,e1]) _ ?_;rw[bltW];rw[bn (N:=NW) (nW zl32 _) (vs:=bw K0) rfl 0 0 (by rw[aJ,h0]; rfl) (by rw[aJ,h0]; rfl)];simp only[ab];rw[bn (N:=NW) (nW h0 _) (vs:=[.int .u32 z1]) rfl 1 1 rfl rfl];simp only[ab];exact cQ _ _
theorem bH012 {K0:List Int} {z1 z2:Int} (w:World) {a:Act} {o:Oper} (x0:Operand) (x1:Operand) (x2:Operand) (ho:o.op=.build 42 #[(0,x0),(1,x1),(2,x2)]) (h0:K0.length=32) (e0:a.eval x0=.agg (kc K0)) (e1:a.eval x1=.int .u32 z1) (e2:a.eval x2=.int .u32 z2) :
  (execOp a.eval o).run Tryz.prog w=.ok (.value (.agg (fl [bw K0,[.int .u32 z1],[.int .u32 z2]]))) w:=by
 refine cF w _ _ [(0,.agg (kc K0)),(1,.int .u32 z1),(2,.int .u32 z2)] ho (by simp[e0,e1,e2]) _ ?_;rw[bltH];rw[bn (N:=NH) (nH zl32 _ _) (vs:=bw K0) rfl 0 0 (by rw[aJ,h0]; rfl) (by rw[aJ,h0]; rfl)];simp only[ab];rw[bn (N:=NH) (nH h0 _ _) (vs:=[.int .u32 z1]) rfl 1 1 rfl rfl];simp only[ab];rw[bn (N:=NH) (nH h0 _ _) (vs:=[.int .u32 z2]) rfl 2 2 rfl rfl];simp only[ab];exact cQ _ _
theorem bM0 {s0 s1 s2:List Value} (w:World) {a:Act} {o:Oper} (x0:Operand) (ho:o.op=.build 45 #[(0,x0)]) (hN:[s0,s1,s2].map List.length=NH) (e0:a.eval x0=.agg (fl [s0,s1,s2])) :
  (execOp a.eval o).run Tryz.prog w=.ok (.value (.agg (fl [s0,s1,s2,bw Z65]))) w:=by
 refine cF w _ _ [(0,.agg (fl [s0,s1,s2]))] ho (by simp[e0]) _ ?_;have hl:([s0,s1,s2].flatten).length=34:=by
  have h1:=bf hN;have h2:(fl [s0,s1,s2]).size=[s0,s1,s2].flatten.length:=by unfold fl; simp
  rw[← h2,h1]; rfl
 rw[bltM,show fl [bw Z32,[.int .u32 0],[.int .u32 0],bw Z65]=fl [bw Z32++[.int .u32 0,.int .u32 0],bw Z65] from by simp[fl]];rw[bn (N:=[34,65]) (by simp[aJ,zl32,dK]) (vs:=[s0,s1,s2].flatten) rfl 0 0 (by rw[hl]; rfl) (by rw[hl]; rfl)];simp only[ab];rw[cQ];simp[fl]
theorem bK (w:World) {a:Act} {o:Oper} (ho:o.op=.build 23 #[]):(execOp a.eval o).run Tryz.prog w=.ok (.value (.agg (kc Z32))) w :=
 cF w _ _ [] ho (by simp) _ aa
theorem exec_eqI {a:Act} {o:Oper} (w:World) (ty:TypeId) (x y:Operand) (ho:o.op=.binOp .eql ty x y ty) {q:IntKind} (hu:Tryz.prog.underlying ty=some (.int q)) (m n:Int) (hx:a.eval x=.int q m) (hy:a.eval y=.int q n) (b:Bool) (hb:decide (m=n)=b):(execOp a.eval o).run Tryz.prog w=.ok (.value (.bool b)) w:=by
 subst hb;have e:(m == n)=decide (m=n):=by by_cases h:m=n <;> simp[h]
 unfold execOp;simp only[ho,hx,hy];go_simp
theorem part_rw {t:TypeId} {n:Nat} {e:TypeId} (hu:Tryz.prog.underlying t=some (.array n e)) {m:Nat} (hi:(Tryz.prog.info? t).map (·.size)=some m) (xs:Array Value) (o:Nat) (w:World):(part t xs o).run Tryz.prog w=.ok (.agg (xs.extract o (o+m))) w:=by
 obtain⟨i,h1,h2⟩:=Option.map_eq_some_iff.1 hi;simp[part,isAgg,Sem.run_bind,run_underlying hu,sizeOf,typeInfo,h1,h2]
theorem dC {S:List (List Value)} {N:List Nat} (hN:S.map List.length=N) (i:Nat) {K:List Int} (hi:S[i]?=some (bw K)) {o:Nat} (ho:(N.take i).sum=o) (hl:N[i]?=some 32) (w:World):(part 23 (fl S) o).run Tryz.prog w=.ok (.agg (kc K)) w:=by
 have hK:(bw K).length=32:=by
  have:=congrArg (·[i]?) hN;simp only[List.getElem?_map,hi,hl,Option.map_some,Option.some.injEq] at this;exact this
 have hp:=plen S N hN i;rw[part_rw Tryz.underlying23 Tryz.infoKey]
 congr 1
 rw[← ho,← hp];unfold fl;rw[dc hi,kc_bw,← hK];simp
theorem part_c {t:TypeId} {q:IntKind} (hu:Tryz.prog.underlying t=some (.int q)) {S:List (List Value)} {N:List Nat} (hN:S.map List.length=N) (i:Nat) {v:Value} (hi:S[i]?=some [v]) {o:Nat} (ho:(N.take i).sum=o) (w:World):(part t (fl S) o).run Tryz.prog w=.ok v w:=by
 have hp:=plen S N hN i;have h:(fl S)[o]?=some v:=by
  unfold fl;rw[List.getElem?_toArray,dc hi,← ho,← hp];simp
 simp[part,isAgg,Sem.run_bind,run_underlying hu,h]
theorem eq_Kd (d:Nat) (k m:List Int) (hk:k.length=32) (hm:m.length=32) (w:World):Sem.run Tryz.prog (Op.equalIn (d+2) 23 (.agg (kc k)) (.agg (kc m))) w=.ok (decide (k=m)) w:=by
 obtain⟨i0,hi0,_⟩:=info_parts Tryz.info_b;rw[run_equalIn_array (P:=Tryz.prog) w (d+1) (kc k) (kc m) Tryz.underlying23 hi0,Tryz.cells_b];refine(eqs_b k m (by omega) d _ (by intro i hi; simp at hi; omega) w).trans ?_
 congr 1
 rw[decide_eq_decide];constructor
 ·intro h;exact list_ext (by omega) fun i hi=>h i (by simp; omega)
 ·rintro rfl i _;rfl
theorem eq_U (d:Nat) (m n:Int) (w:World):Sem.run Tryz.prog (Op.equalIn (d+1) 29 (.int .u32 m) (.int .u32 n)) w=.ok (decide (m=n)) w:=by
 rw[run_equalIn_int w d _ .u32 .u32 m n Tryz.underlying29];have e:(m == n)=decide (m=n):=by by_cases h:m=n <;> simp[h]
 rw[e]
theorem fldW:(Tryz.prog.fieldsOf 154).toList.map (fun f=>(f.type,f.offset,decide (f.name = "_")))=[(23,0,false),(29,32,false)]:=by kernel_rfl
theorem fldS:(Tryz.prog.fieldsOf 95).toList.map (fun f=>(f.type,f.offset,decide (f.name = "_")))=[(23,0,false),(29,32,false),(23,33,false)]:=by kernel_rfl
theorem eqf_cons (d:Nat) (xs ys:Array Value) (f:Field) (fs:List Field) (w:World) (t:TypeId) (o:Nat) (hf:(f.type,f.offset,decide (f.name = "_"))=(t,o,false)) (v u:Value) (b:Bool) (h1:(part t xs o).run Tryz.prog w=.ok v w) (h2:(part t ys o).run Tryz.prog w=.ok u w) (h3:(Op.equalIn d t v u).run Tryz.prog w=.ok b w) (c:Bool) (h4:(Op.eqFields d xs ys fs).run Tryz.prog w=.ok c w) :
  (Op.eqFields d xs ys (f::fs)).run Tryz.prog w=.ok (b && c) w:=by
 simp only[Prod.mk.injEq] at hf;obtain⟨e1,e2,e3⟩:=hf
 have hn:f.name ≠ "_" := by simpa using e3
 rw[← e1,← e2] at h1 h2;rw[← e1] at h3;simp only[Op.eqFields,hn,ne_eq,not_false_eq_true,if_true,Sem.run_bind,h1,h2,h3,Result.andThen_ok];cases b
 ·simp
 ·simpa using h4
theorem eq_W (K M:List Int) (hK:K.length=32) (hM:M.length=32) (m n:Int) (w:World):Sem.run Tryz.prog (Op.equalIn 10000 154 (.agg (fl [bw K,[.int .u32 m]])) (.agg (fl [bw M,[.int .u32 n]]))) w=.ok (decide (K=M∧m=n)) w:=by
 rw[run_equalIn_struct w 9999 _ _ _ aa aa];have hf:=fldW
 match h:(Tryz.prog.fieldsOf 154).toList with
 | []=>rw[h] at hf; simp at hf
 | [f0]=>rw[h] at hf; simp at hf
 | f0::f1::f2::fs=>rw[h] at hf; simp at hf
 | [f0,f1] =>
  rw[h] at hf;simp only[List.map_cons,List.map_nil,List.cons.injEq,and_true] at hf;have e:=eqf_cons 9999 (fl [bw K,[.int .u32 m]]) (fl [bw M,[.int .u32 n]]) f0 [f1] w _ _ hf.1 _ _ _ (dC (nW hK _) 0 rfl rfl rfl w) (dC (nW hM _) 0 rfl rfl rfl w) (eq_Kd 9997 K M hK hM w) _ (eqf_cons 9999 _ _ f1 [] w _ _ hf.2 _ _ _ (part_c Tryz.underlying29 (nW hK _) 1 rfl rfl w) (part_c Tryz.underlying29 (nW hM _) 1 rfl rfl w) (eq_U 9998 m n w) true (by simp[Op.eqFields]));rw[e]
  congr 1
  simp
theorem eq_Sk (K M A B:List Int) (hK:K.length=32) (hM:M.length=32) (hA:A.length=32) (hB:B.length=32) (m n:Int) (w:World):Sem.run Tryz.prog (Op.equalIn 10000 95 (.agg (fl [bw K,[.int .u32 m],bw A])) (.agg (fl [bw M,[.int .u32 n],bw B]))) w=.ok (decide (K=M∧m=n∧A=B)) w:=by
 rw[run_equalIn_struct w 9999 _ _ _ aa aa];have hf:=fldS
 match h:(Tryz.prog.fieldsOf 95).toList with
 | []=>rw[h] at hf; simp at hf
 | [f0]=>rw[h] at hf; simp at hf
 | [f0,f1]=>rw[h] at hf; simp at hf
 | f0::f1::f2::f3::fs=>rw[h] at hf; simp at hf
 | [f0,f1,f2] =>
  rw[h] at hf;simp only[List.map_cons,List.map_nil,List.cons.injEq,and_true] at hf;have e:=eqf_cons 9999 (fl [bw K,[.int .u32 m],bw A]) (fl [bw M,[.int .u32 n],bw B]) f0 [f1,f2] w _ _ hf.1 _ _ _ (dC (nS hK hA _) 0 rfl rfl rfl w) (dC (nS hM hB _) 0 rfl rfl rfl w) (eq_Kd 9997 K M hK hM w) _ (eqf_cons 9999 _ _ f1 [f2] w _ _ hf.2.1 _ _ _ (part_c Tryz.underlying29 (nS hK hA _) 1 rfl rfl w) (part_c Tryz.underlying29 (nS hM hB _) 1 rfl rfl w) (eq_U 9998 m n w) _ (eqf_cons 9999 _ _ f2 [] w _ _ hf.2.2 _ _ _ (dC (nS hK hA _) 2 rfl rfl rfl w) (dC (nS hM hB _) 2 rfl rfl rfl w) (eq_Kd 9997 A B hA hB w) true (by simp[Op.eqFields])));rw[e]
  congr 1
  simp
theorem exec_eqW {a:Act} {o:Oper} (w:World) (x y:Operand) (ho:o.op=.binOp .eql 154 x y 154) (K M:List Int) (hK:K.length=32) (hM:M.length=32) (m n:Int) (hx:a.eval x=.agg (fl [bw K,[.int .u32 m]])) (hy:a.eval y=.agg (fl [bw M,[.int .u32 n]])):(execOp a.eval o).run Tryz.prog w=.ok (.value (.bool (decide (K=M∧m=n)))) w:=by
 have he:=eq_W K M hK hM m n w;have hg:=run_eqGuard_agg (P:=Tryz.prog) w .eql 154 x y (fl [bw K,[.int .u32 m]]) (fl [bw M,[.int .u32 n]]) aa;unfold execOp;simp only[ho,hx,hy,Sem.run_bind,hg,run_eql_struct,run_neq_struct,he,Result.andThen_ok,Sem.run_pure]
theorem exec_neS {a:Act} {o:Oper} (w:World) (x y:Operand) (ho:o.op=.binOp .neq 95 x y 95) (K M A B:List Int) (hK:K.length=32) (hM:M.length=32) (hA:A.length=32) (hB:B.length=32) (m n:Int) (hx:a.eval x=.agg (fl [bw K,[.int .u32 m],bw A])) (hy:a.eval y=.agg (fl [bw M,[.int .u32 n],bw B])):(execOp a.eval o).run Tryz.prog w=.ok (.value (.bool (!decide (K=M∧m=n∧A=B)))) w:=by
 have he:=eq_Sk K M A B hK hM hA hB m n w;have hg:=run_eqGuard_agg (P:=Tryz.prog) w .neq 95 x y (fl [bw K,[.int .u32 m],bw A]) (fl [bw M,[.int .u32 n],bw B]) aa;unfold execOp;simp only[ho,hx,hy,Sem.run_bind,hg,run_eql_struct,run_neq_struct,he,Result.andThen_ok,Sem.run_pure]
theorem exec_neK {a:Act} {o:Oper} (w:World) (x y:Operand) (ho:o.op=.binOp .neq 23 x y 23) (k m:List Int) (hk:k.length=32) (hm:m.length=32) (hx:a.eval x=.agg (kc k)) (hy:a.eval y=.agg (kc m)):(execOp a.eval o).run Tryz.prog w=.ok (.value (.bool (!decide (k=m)))) w:=by
 have hu:=Tryz.underlying23;have he:=eq_Kd 9998 k m hk hm w;have hg:(eqGuard .neq 23 x y (.agg (kc k)) (.agg (kc m))).run Tryz.prog w=.ok () w:=by kernel_rfl
 unfold execOp;simp only[ho,hx,hy];go_simp
theorem exec_eqK {a:Act} {o:Oper} (w:World) (x y:Operand) (ho:o.op=.binOp .eql 23 x y 23) (k m:List Int) (hk:k.length=32) (hm:m.length=32) (hx:a.eval x=.agg (kc k)) (hy:a.eval y=.agg (kc m)):(execOp a.eval o).run Tryz.prog w=.ok (.value (.bool (decide (k=m)))) w:=by
 have hu:=Tryz.underlying23;have he:=eq_Kd 9998 k m hk hm w;have hg:(eqGuard .eql 23 x y (.agg (kc k)) (.agg (kc m))).run Tryz.prog w=.ok () w:=by kernel_rfl
 unfold execOp;simp only[ho,hx,hy];go_simp
def Vl (v:Value) (w:World) (r:Ending) (w':World):Prop:=r=.returned v∧Gr w w'
def RvOk (P:Program) (tmps:Array Value) (w:World):ResultVar→Value→Prop
 | .cell p ty,v=>∃ a:Addr,tmps[p]?.getD undef=.pointer (some a)∧(loadVar ty a).run P w=.ok v w
 | .tmp q,v=>tmps[q]?.getD undef=v
theorem bC {P:Program} {tmps:Array Value} {w:World} {p:Tmp} {ty t:TypeId} {g:Nat} {cs:Array Value} {d:TypeDesc} (hp:tmps.getD p undef=.pointer (some ⟨g,0,none⟩)) (hg:w.heap[g]?=some (.cells cs t (0,0))) (hu:P.underlying ty=some d) (hd:d.isRow=true) (hi:(P.info? ty).map (·.size)=some cs.size):RvOk P tmps w (.cell p ty) (.agg cs) :=
 ⟨_,by simpa using hp,run_loadVar_row w g t ty cs (0,0) d hg hu (by cases d <;> first | rfl | cases hd) hi⟩
theorem cZ {P:Program} {tmps:Array Value} {w:World} {q:Tmp} {v:Value} (h:tmps.getD q undef=v):RvOk P tmps w (.tmp q) v:=by
 show tmps[q]?.getD undef=v;simpa using h
theorem res1 {P:Program} {fn:Func} {p:Tmp} {ty:TypeId} {v:Value} {tmps:Array Value} {w:World} (h:fn.results=#[.cell p ty]) (h1:RvOk P tmps w (.cell p ty) v):(results fn tmps).run P w=.ok v w:=by
 obtain⟨a,hp',hl⟩:=h1;simp[results,h,hp',asAddr,hl]
theorem res2 {P:Program} {fn:Func} {r1 r2:ResultVar} {v1 v2:Value} {tmps:Array Value} {w:World} (h:fn.results=#[r1,r2]) (h1:RvOk P tmps w r1 v1) (h2:RvOk P tmps w r2 v2):(results fn tmps).run P w=.ok (.tuple #[v1,v2]) w:=by
 cases r1 <;> cases r2 <;> dsimp only [RvOk] at h1 h2 <;> (try obtain⟨x1,e1,f1⟩:=h1) <;> (try obtain⟨x2,e2,f2⟩:=h2) <;> simp[results,h,asAddr, *]
theorem res3 {P:Program} {fn:Func} {r1 r2 r3:ResultVar} {v1 v2 v3:Value} {tmps:Array Value} {w:World} (h:fn.results=#[r1,r2,r3]) (h1:RvOk P tmps w r1 v1) (h2:RvOk P tmps w r2 v2) (h3:RvOk P tmps w r3 v3):(results fn tmps).run P w=.ok (.tuple #[v1,v2,v3]) w:=by
 cases r1 <;> cases r2 <;> cases r3 <;> dsimp only [RvOk] at h1 h2 h3 <;> (try obtain⟨x1,e1,f1⟩:=h1) <;> (try obtain⟨x2,e2,f2⟩:=h2) <;> (try obtain⟨x3,e3,f3⟩:=h3) <;> simp[results,h,asAddr, *]
theorem forWhat_ok (K S:List Int) (n:Int) (hK:K.length=32) (hS:S.length=32) (w:World)  : Calls Tryz.prog 88 #[.agg (fl [bw K,[.int .u32 n],bw S])] w (Vl (.agg (fl [bw K,[.int .u32 n]])) w):=by
 obtain⟨T,hT⟩:∃ T:Ending→World→Prop,T=(Vl (.agg (fl [bw K,[.int .u32 n]])) w):=⟨_,rfl⟩;rw[← hT];replace hT:=ao hT;obtain⟨A0_,hA0_⟩:∃ S_,S_=fl [bw K,[.int .u32 n],bw S]:=⟨_,rfl⟩;rw[← hA0_];replace hA0_:=ao hA0_;go_enter Tryz.func88,Tryz.ntmps88;go_upto_region 1 with fail;have hB:=(((Bl.nil w).new A0_ 95).new (fl [bw Z32,[.int .u32 0]]) 154);simp only[aB,ac] at hB;rw[aj hA0_] at hB;generalize hu_:World.alloc _ _=u0;replace hB:Bl w [⟨w.heap.size,fl [bw K,[.int .u32 n],bw S],95⟩,⟨w.heap.size+1,fl [bw Z32,[.int .u32 0]],154⟩] u0:=by
  rw[← hu_];rw[aj hA0_];exact hB
 clear hu_ hA0_;refine ag ?_;refine ak (.pointer (some ⟨w.heap.size,0,none⟩)) aa aa ?_;simp only[aq];refine ak (.agg (kc K)) aa (aV _ (.tmp 3) rfl (w.heap.size) 0 aa (hB.get 0 (x:=⟨w.heap.size,fl [bw K,[.int .u32 n],bw S],95⟩) rfl) NS (nS hK hS _) 0 K rfl rfl rfl) ?_;simp only[aq];refine ak (.pointer (some ⟨w.heap.size,32,none⟩)) aa aa ?_;simp only[aq];refine ak (.int .u32 n) aa (aU _ (.tmp 5) rfl (w.heap.size) 32 aa n (aI (nS hK hS _) (hB.get 0 (x:=⟨w.heap.size,fl [bw K,[.int .u32 n],bw S],95⟩) rfl) 1 (v:=.int .u32 n) rfl rfl)) ?_;simp only[aq];refine ak (.agg (fl [bw K,[.int .u32 n]])) aa (bW01 _ (.tmp 4) (.tmp 6) rfl hK aa aa) ?_;simp only[aq];refine aX 154 (.tmp 2) (.tmp 7) (w.heap.size+1) (S2:=[bw K,[.int .u32 n]]) aa rfl aa aa hB 1 rfl NW (nW zl32 _) (nW hK _) aa (oW _ rfl) ?_;intro u1 hB_ _;clear hB
 replace hB:Bl w [⟨w.heap.size,fl [bw K,[.int .u32 n],bw S],95⟩,⟨w.heap.size+1,fl [bw K,[.int .u32 n]],154⟩] u1:=hB_;clear hB_;simp only[aq];refine ai ?_;replace hB:=ao hB;go_wp2_with fail;replace hB:=aj hB;rw[aj hT];exact bodyPost_ret (v:=.agg (fl [bw K,[.int .u32 n]])) (res1 Tryz.results88 (bC aa (hB.get 1 (x:=⟨w.heap.size+1,fl [bw K,[.int .u32 n]],154⟩) rfl) Tryz.underlying154 rfl (by rw[bf (nW hK _)]; kernel_rfl))) rfl (⟨rfl,hB.gr⟩)
theorem there_ok (K:List Int) (hK:K.length=32) (w:World)  : Calls Tryz.prog 89 #[.agg (kc K)] w (Vl (.bool (!decide (K=Z32))) w):=by
 obtain⟨T,hT⟩:∃ T:Ending→World→Prop,T=(Vl (.bool (!decide (K=Z32))) w):=⟨_,rfl⟩;rw[← hT];replace hT:=ao hT;obtain⟨A0_,hA0_⟩:∃ S_,S_=kc K:=⟨_,rfl⟩;rw[← hA0_];replace hA0_:=ao hA0_;go_enter Tryz.func89,Tryz.ntmps89;go_upto_region 1 with fail;have hB:=((Bl.nil w).new A0_ 23);simp only[aB,ac] at hB;rw[aj hA0_] at hB;generalize hu_:World.alloc _ _=u0;replace hB:Bl w [⟨w.heap.size,kc K,23⟩] u0:=by
  rw[← hu_];rw[aj hA0_];exact hB
 clear hu_ hA0_;refine ag ?_;refine ak (.agg (kc K)) aa (ax _ 23 (.tmp 1) rfl (w.heap.size) aa (kc K) 23 _ (hB.get 0 (x:=⟨w.heap.size,kc K,23⟩) rfl) Tryz.underlying23 rfl (by rw[Tryz.infoKey,au,hK])) ?_;simp only[aq];refine ak (.agg (kc Z32)) aa (bK _ rfl) ?_;simp only[aq];refine ak (.bool (!decide (K=Z32))) aa (exec_neK _ (.tmp 3) (.tmp 4) rfl K Z32 hK zl32 aa aa) ?_;simp only[aq]
 (refine af fun K hK=>?_;go_simp;refine aj hK _ _ ?_;clear hK K)
 refine ai ?_;replace hB:=ao hB;go_wp2_with fail;replace hB:=aj hB;rw[aj hT];exact(⟨rfl,hB.gr⟩)
end Go.Proofs.YtbkkibhhfmgojaaGreatDoor
