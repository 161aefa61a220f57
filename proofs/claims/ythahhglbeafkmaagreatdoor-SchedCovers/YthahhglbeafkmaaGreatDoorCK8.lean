/-
  What the proof leans on.
-/
import Derived.Laws.BytesArg
import Derived.ChangeKeysEq
import Derived.WideShapes
import Derived.Test.YthahhglbeafkmaaGreatDoorCK7
namespace Go.Proofs.YthahhglbeafkmaaGreatDoor
open Go.RowKit
set_option maxRecDepth 100000
set_option linter.unusedSimpArgs false
set_option linter.unusedVariables false
theorem nk_whole (L:List Int) (h:L.length % 16=0):nk L.length=L.length / 16:=by unfold nk; omega
theorem nk_some (L:List Int) (h:0<L.length % 16):nk L.length=L.length / 16+1:=by unfold nk; omega
theorem Cd.gr {K:List Int} {g:Nat} {L:List Int} {w v:World} (h:Cd K g L w) (k:Gr w v):Cd K g L v:=by
 obtain ⟨l,S,M,A,hH,hr⟩:=h
 exact ⟨l,S,M,A,hH.gr k,hr⟩
def endB (D:List Int):List Int:=D++1::List.replicate (15 - D.length) 0
theorem endB_len (D:List Int) (h:D.length<16):(endB D).length=16:=by unfold endB; simp; omega
theorem endB_isB (D:List Int) (h:IsB D):IsB (endB D):=fun x hx=>by
 unfold endB at hx
 rcases List.mem_append.1 hx with h1 | h1
 ·exact h x h1
 ·rcases List.mem_cons.1 h1 with h2 | h2
  ·subst h2; omega
  ·have:=List.eq_of_mem_replicate h2; omega
theorem endB_lay (D:List Int) (h:D.length<16):(lay ZT 0 D).set D.length 1=endB D:=by
 unfold lay endB ZT
 rw [List.take_zero,List.nil_append,Nat.zero_add,List.set_append_right _ _ (Nat.le_refl _),Nat.sub_self,List.drop_replicate]
 obtain ⟨k,hk⟩:∃ k,16 - D.length=k+1:=⟨15 - D.length,by omega⟩
 rw [hk,show 15 - D.length=k by omega,List.replicate_succ,List.set_cons_zero]
theorem lowN_zero:∀ n,lowN (List.replicate n 0)=0
 | 0=>rfl
 | n+1=>by rw [List.replicate_succ,lowN,lowN_zero n]; rfl
theorem lowN_end (L:List Int) (hb:IsB (L.drop (16 * (L.length / 16)))):lowN (endB (L.drop (16 * (L.length / 16))))=((bN L (L.length / 16):Nat):Int):=by
 have hl:(L.drop (16 * (L.length / 16))).length<16:=by rw [List.length_drop]; omega
 unfold bN endB
 rw [List.take_of_length_le (by omega),V_snoc,lowN_append,lowN,lowN_zero,lowN_V _ hb,nb_len]
 rw [Int.natCast_add,Int.natCast_mul,Int.natCast_pow]
 rfl
set_option maxHeartbeats 4000000 in
theorem end_whole (K L:List Int) (g:Nat) (hL:L.length % 16=0) (w:World) (hC:Cd K g L w):Calls Tryz.prog 115 #[.pointer (some ⟨g,0,none⟩)] w (Crd ((acN (rK K) L (nk L.length):Nat):Int) w):=by
 obtain ⟨l,S,M,A,hH,hlB,hlt,hc,hMd,hMr,hAd,hAs⟩:=hC
 rw [nk_whole L hL]
 obtain ⟨T,hT⟩:∃ T,T=Crd ((acN (rK K) L (L.length / 16):Nat):Int) w:=⟨_,rfl⟩
 rw [← hT]
 replace hT:=hide hT
 rw [hL] at hH
 have hg1:=(Gr.refl w).alloc (.cells #[.int .u64 0,.int .u64 0,.int .u64 0,.int .u64 0,.int .u64 0] 160 (0,0))
 have cc:World.cell? (w.alloc (.cells #[.int .u64 0,.int .u64 0,.int .u64 0,.int .u64 0,.int .u64 0] 160 (0,0))) ⟨g,16,none⟩=some (.int .i64 0):=(hH.gr hg1).fill
 replace hg1:=hide hg1
 replace hH:=hide hH; replace hlt:=hide hlt; replace hc:=hide hc
 go_enter Tryz.func115,Tryz.ntmps115
 go_upto_region 2 with fail
 have hB:=(Bl.nil w).new #[.int .u64 0,.int .u64 0,.int .u64 0,.int .u64 0,.int .u64 0] 160
 simp only [List.nil_append,List.cons_append] at hB
 clear cc hg1
 generalize World.alloc _ _=u at *
 replace hB:Bl w [⟨w.heap.size,fc 0 0 0 0 0,160⟩] u:=hB
 replace hH:=(unhide hH).gr hB.gr
 refine wp_region_lit ?_
 refine list_val (.pointer (some ⟨g,0,none⟩)) (by kernel_rfl) (by kernel_rfl) ?_
 simp only [nrm]
 refine list_val (.pointer (some ⟨g,0,none⟩)) (by kernel_rfl) (by kernel_rfl) ?_
 simp only [nrm]
 refine list_val (.pointer (some ⟨g,17,none⟩)) (by kernel_rfl) (by kernel_rfl) ?_
 simp only [nrm]
 refine list_val (.agg (fc S.a S.b S.c S.d S.e)) (by kernel_rfl) (exec_five _ (.tmp 12) rfl g 17 (by kernel_rfl) S hH.sum) ?_
 simp only [nrm]
 refine list_store 160 (.tmp 2) (.tmp 13) (w.heap.size) (fc S.a S.b S.c S.d S.e) 160 (fc 0 0 0 0 0) (by kernel_rfl) rfl (by kernel_rfl) (by kernel_rfl) (hB.get 0 (x:=⟨w.heap.size,fc 0 0 0 0 0,160⟩) rfl) Tryz.infoPL rfl (fc_one _ _ _ _ _) ?_
 replace hB:=hB.set 0 (x:=⟨w.heap.size,fc 0 0 0 0 0,160⟩) rfl (fc S.a S.b S.c S.d S.e)
 simp only [List.set_cons_zero,List.set_cons_succ] at hB
 generalize World.setRow _ _ _=u1 at *
 simp only [nrm]
 refine wpList_nil ?_
 replace hB:=hide hB
 clear hH
 go_wp2_with fail
 replace hB:=unhide hB
 rw [unhide hT]
 exact bodyPost_ret (v:=.agg (fc S.a S.b S.c S.d S.e)) (results_cell_row Tryz.results115 _ _ (w.heap.size) 160 (fc S.a S.b S.c S.d S.e) (0,0) _ rfl (hB.get 0 (x:=⟨w.heap.size,fc S.a S.b S.c S.d S.e,160⟩) rfl) Tryz.underlying160 rfl Tryz.infoPL) rfl (⟨_,_,_,_,_,rfl,unhide hc,hB.gr⟩)
set_option maxHeartbeats 8000000 in
theorem end_some (K L:List Int) (g:Nat) (hL:0<L.length % 16) (w:World) (hC:Cd K g L w):Calls Tryz.prog 115 #[.pointer (some ⟨g,0,none⟩)] w (Crd ((acN (rK K) L (nk L.length):Nat):Int) w):=by
 obtain ⟨l,S,M,A,hH,hlB,hlt,hc,hMd,hMr,hAd,hAs⟩:=hC
 rw [nk_some L hL]
 obtain ⟨T,hT⟩:∃ T,T=Crd ((acN (rK K) L (L.length / 16+1):Nat):Int) w:=⟨_,rfl⟩
 rw [← hT]
 replace hT:=hide hT
 have hl16:=hH.1
 obtain ⟨f,hf⟩:∃ f,f=L.length % 16:=⟨_,rfl⟩
 rw [← hf] at hH hL hlt
 have f16:f<16:=by omega
 have k0:¬ (f:Int)=0:=by omega
 have k00:¬ f=0:=by omega
 have k1:(f:Int)≤16:=by omega
 have k2:(f:Int)<16:=by omega
 have hg1:=(Gr.refl w).alloc (.cells #[.int .u64 0,.int .u64 0,.int .u64 0,.int .u64 0,.int .u64 0] 160 (0,0))
 have cc:World.cell? (w.alloc (.cells #[.int .u64 0,.int .u64 0,.int .u64 0,.int .u64 0,.int .u64 0] 160 (0,0))) ⟨g,16,none⟩=some (.int .i64 (f:Int)):=(hH.gr hg1).fill
 replace hg1:=hide hg1
 replace hH:=hide hH; replace hlt:=hide hlt; replace hf:=hide hf
 go_enter Tryz.func115,Tryz.ntmps115
 go_upto_region 4 with fail
 have hB:=((Bl.nil w).new #[.int .u64 0,.int .u64 0,.int .u64 0,.int .u64 0,.int .u64 0] 160).new #[.int .u8 0,.int .u8 0,.int .u8 0,.int .u8 0,.int .u8 0,.int .u8 0,.int .u8 0,.int .u8 0,.int .u8 0,.int .u8 0,.int .u8 0,.int .u8 0,.int .u8 0,.int .u8 0,.int .u8 0,.int .u8 0] 32
 simp only [size_alloc,List.nil_append,List.cons_append] at hB
 clear cc hg1
 generalize World.alloc _ _=u at *
 replace hB:Bl w [⟨w.heap.size,fc 0 0 0 0 0,160⟩,⟨w.heap.size+1,kc ZT,32⟩] u:=hB
 replace hH:=(unhide hH).gr hB.gr
 refine any_start (S:=fun v=>v.cell? ⟨g,16,none⟩=some (.int .i64 (f:Int))) (by kernel_rfl) ?_
 replace hH:=hH.gr (Gr.refl _).drew
 replace hB:=hB.drew
 have hS:=hH.fill
 generalize World.drew _=x0 at *
 simp only [List.size_toArray,List.length_cons,List.length_nil,Array.replicate,List.replicate]
 refine any_take (i:=0) (v:=(.slice (some ⟨w.heap.size+1,0,none⟩) 16 16)) #[false,false,false,false,false,false,false,false,false,false,false,false] rfl (by kernel_rfl) (by kernel_rfl) (by kernel_rfl) (by kernel_rfl) (fun _ _ _ h=>h) (.inl ⟨by kernel_rfl,fun x_ hu=>by kernel_rfl⟩) hS ?_
 simp only [nrm]
 refine any_take (i:=1) (v:=(.pointer (some ⟨g,0,none⟩))) #[true,false,false,false,false,false,false,false,false,false,false,false] rfl (by kernel_rfl) (by kernel_rfl) (by kernel_rfl) (by kernel_rfl) (fun _ _ _ h=>h) (.inl ⟨by kernel_rfl,fun x_ hu=>by kernel_rfl⟩) hS ?_
 simp only [nrm]
 refine any_take (i:=2) (v:=(.pointer (some ⟨g,0,none⟩))) #[true,true,false,false,false,false,false,false,false,false,false,false] rfl (by kernel_rfl) (by kernel_rfl) (by kernel_rfl) (by kernel_rfl) (fun _ _ _ h=>h) (.inl ⟨by kernel_rfl,fun x_ hu=>by kernel_rfl⟩) hS ?_
 simp only [nrm]
 refine any_take (i:=3) (v:=(.pointer (some ⟨g,0,none⟩))) #[true,true,true,false,false,false,false,false,false,false,false,false] rfl (by kernel_rfl) (by kernel_rfl) (by kernel_rfl) (by kernel_rfl) (fun _ _ _ h=>h) (.inl ⟨by kernel_rfl,fun x_ hu=>by kernel_rfl⟩) hS ?_
 simp only [nrm]
 refine any_take (i:=4) (v:=(.pointer (some ⟨g,0,none⟩))) #[true,true,true,true,false,false,false,false,false,false,false,false] rfl (by kernel_rfl) (by kernel_rfl) (by kernel_rfl) (by kernel_rfl) (fun _ _ _ h=>h) (.inl ⟨by kernel_rfl,fun x_ hu=>by kernel_rfl⟩) hS ?_
 simp only [nrm]
 refine any_take (i:=5) (v:=(.pointer (some ⟨g,0,none⟩))) #[true,true,true,true,true,false,false,false,false,false,false,false] rfl (by kernel_rfl) (by kernel_rfl) (by kernel_rfl) (by kernel_rfl) (fun _ _ _ h=>h) (.inl ⟨by kernel_rfl,fun x_ hu=>by kernel_rfl⟩) hS ?_
 simp only [nrm]
 refine any_take (i:=6) (v:=(.pointer (some ⟨g,0,none⟩))) #[true,true,true,true,true,true,false,false,false,false,false,false] rfl (by kernel_rfl) (by kernel_rfl) (by kernel_rfl) (by kernel_rfl) (fun _ _ _ h=>h) (.inl ⟨by kernel_rfl,fun x_ hu=>by kernel_rfl⟩) hS ?_
 simp only [nrm]
 refine any_take (i:=7) (v:=(.pointer (some ⟨g,0,none⟩))) #[true,true,true,true,true,true,true,false,false,false,false,false] rfl (by kernel_rfl) (by kernel_rfl) (by kernel_rfl) (by kernel_rfl) (fun _ _ _ h=>h) (.inl ⟨by kernel_rfl,fun x_ hu=>by kernel_rfl⟩) hS ?_
 simp only [nrm]
 refine any_take (i:=8) (v:=(.pointer (some ⟨g,16,none⟩))) #[true,true,true,true,true,true,true,true,false,false,false,false] rfl (by kernel_rfl) (by kernel_rfl) (by kernel_rfl) (by kernel_rfl) (fun _ _ _ h=>h) (.inl ⟨by kernel_rfl,fun x_ hu=>by kernel_rfl⟩) hS ?_
 simp only [nrm]
 refine any_take (i:=9) (v:=(.int .i64 f)) #[true,true,true,true,true,true,true,true,true,false,false,false] rfl (by kernel_rfl) (by kernel_rfl) (by kernel_rfl) (by kernel_rfl) (fun _ _ _ h=>h) (.inl ⟨by kernel_rfl,fun x_ hu=>exec_i64 _ (.tmp 22) rfl g 16 (by kernel_rfl) f hu⟩) hS ?_
 simp only [nrm]
 refine any_take (i:=10) (v:=(.slice (some ⟨g,0,none⟩) f 16)) #[true,true,true,true,true,true,true,true,true,true,false,false] rfl (by kernel_rfl) (by kernel_rfl) (by kernel_rfl) (by kernel_rfl) (fun _ _ _ h=>h) (.inl ⟨by kernel_rfl,fun x_ hu=>by go_simp⟩) hS ?_
 simp only [nrm]
 refine any_one (i:=11) (by kernel_rfl) rfl (fun K_ hQ=>?_)
 rw [if_pos (by kernel_rfl)]
 obtain ⟨D,hD⟩:∃ D,D=l.take f:=⟨_,rfl⟩
 have hDl:D.length=f:=by rw [hD,List.length_take,hl16]; omega
 have hDB:IsB D:=by rw [hD]; exact hlB.take f
 refine copy_wp (.tmp 14) (.tmp 24) rfl (w.heap.size+1) 0 16 16 (some ⟨g,0,none⟩) f 16 (by kernel_rfl) (by kernel_rfl) (ZT.map (Value.int .u8)) 32 (hB.get 1 (x:=⟨w.heap.size+1,kc ZT,32⟩) rfl) D (by rw [hDl]; exact (Nat.min_eq_left (by omega)).symm) (.inr ⟨g,0,rfl,by rw [hD]; exact hH.left.take f⟩) (by rw [hDl]; show 0+f≤16; omega) ?_
 have hcell:=laid (S:=D) (o:=0) (hB.get 1 (x:=⟨w.heap.size+1,kc ZT,32⟩) rfl) (by rw [hDl]; show 0+f≤16; omega)
 have hB2:=hB.but (setCells_bt (D.map (Value.int .u8)) x0 (w.heap.size+1) 0) 1 (x:=⟨w.heap.size+1,kc ZT,32⟩) rfl rfl hcell
 simp only [List.set_cons_zero,List.set_cons_succ] at hB2
 have hne:g≠w.heap.size+1:=by
  intro e
  have h1:=hB.get 1 (x:=⟨w.heap.size+1,kc ZT,32⟩) rfl
  have h2:=hH.2
  dsimp only at h1
  rw [e,h1] at h2
  simp only [Option.some.injEq,Obj.cells.injEq] at h2
  exact absurd h2.2.1 (by decide)
 replace hH:Lies g l (f:Int) S M A (World.setCells x0 (w.heap.size+1) 0 (D.map (Value.int .u8))):=⟨hH.1,(setCells_other _ x0 (w.heap.size+1) 0 g hne).trans hH.2⟩
 generalize World.setCells _ _ _ _=x1 at *
 clear hcell hB
 have hS:=hH.fill
 refine hQ.out _ _ hS (fun _=>?_)
 clear hQ K_
 simp only [nrm]
 refine any_done (by kernel_rfl) ?_
 rw [hDl]
 replace hB2:=hide hB2
 replace hH:=hide hH
 replace hD:=hide hD
 go_upto_region 5 with fail
 have hB:=unhide hB2
 clear hB2
 have hll:(lay ZT 0 D).length=16:=by rw [lay_len _ _ _ (by rw [hDl]; show 0+f≤16; omega)]; rfl
 refine wp_region_lit ?_
 refine list_val (.pointer (some ⟨g,0,none⟩)) (by kernel_rfl) (by kernel_rfl) ?_
 simp only [nrm]
 refine list_val (.pointer (some ⟨g,0,none⟩)) (by kernel_rfl) (by kernel_rfl) ?_
 simp only [nrm]
 refine list_val (.pointer (some ⟨g,0,none⟩)) (by kernel_rfl) (by kernel_rfl) ?_
 simp only [nrm]
 refine list_val (.pointer (some ⟨g,16,none⟩)) (by kernel_rfl) (by kernel_rfl) ?_
 simp only [nrm]
 refine list_val (.int .i64 f) (by kernel_rfl) (exec_i64 _ (.tmp 29) rfl g 16 (by kernel_rfl) f hS) ?_
 simp only [nrm]
 refine list_val (.pointer (some ⟨w.heap.size+1,f,none⟩)) (by kernel_rfl) (by go_simp) ?_
 simp only [nrm]
 have c4:=kc_cell (hB.get 1 (x:=⟨w.heap.size+1,kc (lay ZT 0 D),32⟩) rfl) f (by omega)
 have fz:=froz_of (i:=f) (hB.get 1 (x:=⟨w.heap.size+1,kc (lay ZT 0 D),32⟩) rfl)
 generalize (lay ZT 0 D).getD f 0=z at c4
 have hB2:=hB.cell 1 (x:=⟨w.heap.size+1,kc (lay ZT 0 D),32⟩) rfl f (.int .u8 1)
 have e9:(lay ZT 0 D).set f 1=endB D:=by
  have h:=endB_lay D (by omega)
  rw [hDl] at h
  exact h
 simp only [List.set_cons_zero,List.set_cons_succ,kc_set,e9] at hB2
 replace hH:Lies g l (f:Int) S M A (World.setCell x1 ⟨w.heap.size+1,f,none⟩ (.int .u8 1)):=⟨(unhide hH).1,(Below.heap_setCell x1 ⟨w.heap.size+1,f,none⟩ (.int .u8 1) g hne).trans (unhide hH).2⟩
 clear hB e9 hll hS
 replace hB2:=hide hB2
 replace hH:=hide hH
 (refine wpList_step fun K hK=>?_; replace hK:=hide hK; go_simp; refine unhide hK _ _ ?_; clear hK K)
 clear c4 fz
 refine wpList_nil ?_
 generalize World.setCell _ _ _=x2 at *
 have hEl:(endB D).length=16:=endB_len D (by omega)
 have hEB:=endB_isB D hDB
 have hEv:Hid (lowN (endB D)=((bN L (L.length / 16):Nat):Int)):=by
  have e1:D=L.drop (16 * (L.length / 16)):=by rw [unhide hD,unhide hlt]
  have h1:=lowN_end L (by rw [← e1]; exact hDB)
  rw [← e1] at h1
  exact h1
 generalize endB D=E at *
 go_upto_region 6 with fail
 have hB:=unhide hB2
 clear hB2
 replace hH:=unhide hH
 refine any_start (S:=fun v=>Lies g l (f:Int) S M A v) (by kernel_rfl) ?_
 replace hH:=hH.gr (Gr.refl _).drew
 replace hB:=hB.drew
 generalize World.drew _=x3 at *
 simp only [List.size_toArray,List.length_cons,List.length_nil,Array.replicate,List.replicate]
 refine any_take (i:=0) (v:=(.pointer (some ⟨g,0,none⟩))) #[false,false,false,false,false,false,false,false,false,false,false,false,false] rfl (by kernel_rfl) (by kernel_rfl) (by kernel_rfl) (by kernel_rfl) (fun _ _ _ h=>h) (.inl ⟨by kernel_rfl,fun x_ hu=>by kernel_rfl⟩) hH ?_
 simp only [nrm]
 refine any_take (i:=1) (v:=(.pointer (some ⟨g,0,none⟩))) #[true,false,false,false,false,false,false,false,false,false,false,false,false] rfl (by kernel_rfl) (by kernel_rfl) (by kernel_rfl) (by kernel_rfl) (fun _ _ _ h=>h) (.inl ⟨by kernel_rfl,fun x_ hu=>by kernel_rfl⟩) hH ?_
 simp only [nrm]
 refine any_take (i:=2) (v:=(.pointer (some ⟨g,17,none⟩))) #[true,true,false,false,false,false,false,false,false,false,false,false,false] rfl (by kernel_rfl) (by kernel_rfl) (by kernel_rfl) (by kernel_rfl) (fun _ _ _ h=>h) (.inl ⟨by kernel_rfl,fun x_ hu=>by kernel_rfl⟩) hH ?_
 simp only [nrm]
 refine any_take (i:=3) (v:=(.agg (fc S.a S.b S.c S.d S.e))) #[true,true,true,false,false,false,false,false,false,false,false,false,false] rfl (by kernel_rfl) (by kernel_rfl) (by kernel_rfl) (by kernel_rfl) (fun _ _ _ h=>h) (.inl ⟨by kernel_rfl,fun x_ hu=>exec_five _ (.tmp 34) rfl g 17 (by kernel_rfl) S hu.sum⟩) hH ?_
 simp only [nrm]
 refine any_take (i:=4) (v:=(.slice (some ⟨w.heap.size+1,0,none⟩) 16 16)) #[true,true,true,true,false,false,false,false,false,false,false,false,false] rfl (by kernel_rfl) (by kernel_rfl) (by kernel_rfl) (by kernel_rfl) (fun _ _ _ h=>h) (.inl ⟨by kernel_rfl,fun x_ hu=>by kernel_rfl⟩) hH ?_
 simp only [nrm]
 refine any_take (i:=7) (v:=(.pointer (some ⟨g,0,none⟩))) #[true,true,true,true,true,false,false,false,false,false,false,false,false] rfl (by kernel_rfl) (by kernel_rfl) (by kernel_rfl) (by kernel_rfl) (fun _ _ _ h=>h) (.inl ⟨by kernel_rfl,fun x_ hu=>by kernel_rfl⟩) hH ?_
 simp only [nrm]
 refine any_take (i:=8) (v:=(.pointer (some ⟨g,0,none⟩))) #[true,true,true,true,true,false,false,true,false,false,false,false,false] rfl (by kernel_rfl) (by kernel_rfl) (by kernel_rfl) (by kernel_rfl) (fun _ _ _ h=>h) (.inl ⟨by kernel_rfl,fun x_ hu=>by kernel_rfl⟩) hH ?_
 simp only [nrm]
 refine any_take (i:=9) (v:=(.pointer (some ⟨g,22,none⟩))) #[true,true,true,true,true,false,false,true,true,false,false,false,false] rfl (by kernel_rfl) (by kernel_rfl) (by kernel_rfl) (by kernel_rfl) (fun _ _ _ h=>h) (.inl ⟨by kernel_rfl,fun x_ hu=>by kernel_rfl⟩) hH ?_
 simp only [nrm]
 refine any_take (i:=10) (v:=(.agg (fc M.a M.b M.c M.d M.e))) #[true,true,true,true,true,false,false,true,true,true,false,false,false] rfl (by kernel_rfl) (by kernel_rfl) (by kernel_rfl) (by kernel_rfl) (fun _ _ _ h=>h) (.inl ⟨by kernel_rfl,fun x_ hu=>exec_five _ (.tmp 41) rfl g 22 (by kernel_rfl) M hu.mul⟩) hH ?_
 simp only [nrm]
 refine any_one (i:=5) (by kernel_rfl) rfl (fun K_ hQ=>?_)
 refine step_callw (by kernel_rfl) 112 #[.slice (some ⟨w.heap.size+1,0,none⟩) 16 16] (by kernel_rfl) ((number_ok E (w.heap.size+1) 0 16 hEl hEB (by omega) (by omega) _ (kc_at (hB.get 1 (x:=⟨w.heap.size+1,kc E,32⟩) rfl))).mono ?_)
 rintro r x4 ⟨y0,y1,y2,y3,y4,rfl,hy0,hy1,hy2,hy3,hy4,hyv,hgr⟩
 refine ⟨_,rfl,?_⟩
 replace hB:=hB.more hgr
 replace hH:=hH.gr hgr
 clear hgr
 obtain ⟨ca,cb,cc,cd_,ce,-,cm⟩:=hc
 unfold Dg at cb cc cd_ ce hy0 hy1 hy2 hy3
 have sm0:Sm S.a:=by unfold Sm; omega
 have sm1:Sm S.b:=by unfold Sm; omega
 have sm2:Sm S.c:=by unfold Sm; omega
 have sm3:Sm S.d:=by unfold Sm; omega
 have sm4:Sm S.e:=by unfold Sm; omega
 have sm5:Sm y0:=by unfold Sm; omega
 have sm6:Sm y1:=by unfold Sm; omega
 have sm7:Sm y2:=by unfold Sm; omega
 have sm8:Sm y3:=by unfold Sm; omega
 have sm9:Sm y4:=by unfold Sm; omega
 have tm0:0≤S.a+y0∧S.a+y0<268435456:=by omega
 have tm1:0≤S.b+y1∧S.b+y1<268435456:=by omega
 have tm2:0≤S.c+y2∧S.c+y2<268435456:=by omega
 have tm3:0≤S.d+y3∧S.d+y3<268435456:=by omega
 have tm4:0≤S.e+y4∧S.e+y4<268435456:=by omega
 have hval:v5 (S.a+y0) (S.b+y1) (S.c+y2) (S.d+y3) (S.e+y4) * v5 M.a M.b M.c M.d M.e % 1361129467683753853853498429727072845819=((acN (rK K) L (L.length / 16+1):Nat):Int):=by
  have e2:v5 M.a M.b M.c M.d M.e=(rK K:Int):=hMr
  rw [v5_add,hyv,unhide hEv,e2,acN]
  exact acc_step _ _ _ _ cm
 clear ca cb cc cd_ ce cm hy0 hy1 hy2 hy3 hy4 hyv
 refine hQ.out _ _ hH (fun _=>?_)
 clear hQ K_
 simp only [nrm]
 refine any_one (i:=6) (by kernel_rfl) rfl (fun K_ hQ=>?_)
 refine step_callw (by kernel_rfl) 117 #[.agg (fc S.a S.b S.c S.d S.e),.agg (fc y0 y1 y2 y3 y4)] (by kernel_rfl) ((plus_ok S.a S.b S.c S.d S.e y0 y1 y2 y3 y4 sm0 sm1 sm2 sm3 sm4 sm5 sm6 sm7 sm8 sm9 _).mono ?_)
 rintro r x5 ⟨rfl,hgr⟩
 refine ⟨_,rfl,?_⟩
 replace hB:=hB.more hgr
 replace hH:=hH.gr hgr
 clear hgr
 refine hQ.out _ _ hH (fun _=>?_)
 clear hQ K_
 simp only [nrm]
 refine any_one (i:=11) (by kernel_rfl) rfl (fun K_ hQ=>?_)
 refine step_callw (by kernel_rfl) 128 #[.agg (fc (S.a+y0) (S.b+y1) (S.c+y2) (S.d+y3) (S.e+y4)),.agg (fc M.a M.b M.c M.d M.e)] (by kernel_rfl) ((times_ok (S.a+y0) (S.b+y1) (S.c+y2) (S.d+y3) (S.e+y4) M.a M.b M.c M.d M.e tm0 tm1 tm2 tm3 tm4 hMd.1 hMd.2.1 hMd.2.2.1 hMd.2.2.2.1 hMd.2.2.2.2 _).mono ?_)
 rintro r x6 ⟨z0,z1,z2,z3,z4,rfl,hz,hgr⟩
 refine ⟨_,rfl,?_⟩
 rw [hval] at hz
 replace hB:=hB.more hgr
 replace hH:=hH.gr hgr
 clear hgr
 refine hQ.out _ _ hH (fun _=>?_)
 clear hQ K_
 simp only [nrm]
 refine any_one (i:=12) (by kernel_rfl) rfl (fun K_ hQ=>?_)
 rw [if_pos (by kernel_rfl)]
 refine wp_store_row 160 (.tmp 2) (.tmp 43) rfl (w.heap.size) (fc z0 z1 z2 z3 z4) (by kernel_rfl) (by kernel_rfl) 160 (fc 0 0 0 0 0) (hB.get 0 (x:=⟨w.heap.size,fc 0 0 0 0 0,160⟩) rfl) Tryz.infoPL rfl (fc_one _ _ _ _ _) ?_
 have hne0:g≠w.heap.size:=by
  intro e
  have h1:=hB.get 0 (x:=⟨w.heap.size,fc 0 0 0 0 0,160⟩) rfl
  have h2:=hH.2
  dsimp only at h1
  rw [e,h1] at h2
  simp only [Option.some.injEq,Obj.cells.injEq] at h2
  exact absurd h2.2.1 (by decide)
 replace hH:Lies g l (f:Int) S M A (World.setRow x6 (w.heap.size) (fc z0 z1 z2 z3 z4)):=⟨hH.1,(setRow_other x6 (w.heap.size) g _ hne0).trans hH.2⟩
 replace hB:=hB.set 0 (x:=⟨w.heap.size,fc 0 0 0 0 0,160⟩) rfl (fc z0 z1 z2 z3 z4)
 simp only [List.set_cons_zero,List.set_cons_succ] at hB
 generalize World.setRow _ _ _=x7 at *
 refine hQ.out _ _ hH (fun _=>?_)
 clear hQ K_
 simp only [nrm]
 refine any_done (by kernel_rfl) ?_
 replace hB:=hide hB
 clear hH hval sm0 sm1 sm2 sm3 sm4 sm5 sm6 sm7 sm8 sm9 tm0 tm1 tm2 tm3 tm4
 replace hz:=hide hz
 go_wp2_with fail
 replace hB:=unhide hB
 rw [unhide hT]
 exact bodyPost_ret (v:=.agg (fc z0 z1 z2 z3 z4)) (results_cell_row Tryz.results115 _ _ (w.heap.size) 160 (fc z0 z1 z2 z3 z4) (0,0) _ rfl (hB.get 0 (x:=⟨w.heap.size,fc z0 z1 z2 z3 z4,160⟩) rfl) Tryz.underlying160 rfl Tryz.infoPL) rfl (⟨_,_,_,_,_,rfl,unhide hz,hB.gr⟩)
theorem end_ok (K L:List Int) (g:Nat) (w:World) (hC:Cd K g L w):Calls Tryz.prog 115 #[.pointer (some ⟨g,0,none⟩)] w (Crd ((acN (rK K) L (nk L.length):Nat):Int) w):=by
 rcases Nat.eq_zero_or_pos (L.length % 16) with h | h
 ·exact end_whole K L g h w hC
 ·exact end_some K L g h w hC
set_option maxHeartbeats 4000000 in
theorem ctag_ok (K L:List Int) (g:Nat) (w:World) (hC:Cd K g L w):Calls Tryz.prog 92 #[.pointer (some ⟨g,0,none⟩)] w (Tg (mcL K L) w):=by
 obtain ⟨T,hT⟩:∃ T,T=Tg (mcL K L) w:=⟨_,rfl⟩
 rw [← hT]
 replace hT:=hide hT
 have hXl:(mcL K L).length=16:=tgL_len _
 replace hC:=hide hC
 go_enter Tryz.func92,Tryz.ntmps92
 go_upto_region 3 with fail
 have hB:=(Bl.nil w).new #[.int .u8 0,.int .u8 0,.int .u8 0,.int .u8 0,.int .u8 0,.int .u8 0,.int .u8 0,.int .u8 0,.int .u8 0,.int .u8 0,.int .u8 0,.int .u8 0,.int .u8 0,.int .u8 0,.int .u8 0,.int .u8 0] 94
 simp only [List.nil_append,List.cons_append] at hB
 generalize World.alloc _ _=u at *
 replace hB:Bl w [⟨w.heap.size,kc ZT,94⟩] u:=hB
 have hC2:=(unhide hC).gr hB.gr
 clear hC
 have hC3:=hC2
 obtain ⟨l,S,M,A,hH,hlB,hlt,hc,hMd,hMr,hAd,hAs⟩:=hC3
 refine any_start (S:=fun v=>Lies g l ((L.length % 16:Nat):Int) S M A v) (by kernel_rfl) ?_
 replace hC2:=hC2.gr (Gr.refl _).drew
 replace hB:=hB.drew
 replace hH:=hH.gr (Gr.refl _).drew
 generalize World.drew _=x0 at *
 simp only [List.size_toArray,List.length_cons,List.length_nil,Array.replicate,List.replicate]
 refine any_take (i:=0) (v:=(.pointer (some ⟨g,0,none⟩))) #[false,false,false,false,false,false,false,false,false,false] rfl (by kernel_rfl) (by kernel_rfl) (by kernel_rfl) (by kernel_rfl) (fun _ _ _ h=>h) (.inl ⟨by kernel_rfl,fun x_ hu=>by kernel_rfl⟩) hH ?_
 simp only [nrm]
 refine any_take (i:=3) (v:=(.pointer (some ⟨g,0,none⟩))) #[true,false,false,false,false,false,false,false,false,false] rfl (by kernel_rfl) (by kernel_rfl) (by kernel_rfl) (by kernel_rfl) (fun _ _ _ h=>h) (.inl ⟨by kernel_rfl,fun x_ hu=>by kernel_rfl⟩) hH ?_
 simp only [nrm]
 refine any_take (i:=4) (v:=(.pointer (some ⟨g,0,none⟩))) #[true,false,false,true,false,false,false,false,false,false] rfl (by kernel_rfl) (by kernel_rfl) (by kernel_rfl) (by kernel_rfl) (fun _ _ _ h=>h) (.inl ⟨by kernel_rfl,fun x_ hu=>by kernel_rfl⟩) hH ?_
 simp only [nrm]
 refine any_take (i:=5) (v:=(.pointer (some ⟨g,27,none⟩))) #[true,false,false,true,true,false,false,false,false,false] rfl (by kernel_rfl) (by kernel_rfl) (by kernel_rfl) (by kernel_rfl) (fun _ _ _ h=>h) (.inl ⟨by kernel_rfl,fun x_ hu=>by kernel_rfl⟩) hH ?_
 simp only [nrm]
 refine any_take (i:=6) (v:=(.agg (fc A.a A.b A.c A.d A.e))) #[true,false,false,true,true,true,false,false,false,false] rfl (by kernel_rfl) (by kernel_rfl) (by kernel_rfl) (by kernel_rfl) (fun _ _ _ h=>h) (.inl ⟨by kernel_rfl,fun x_ hu=>exec_five _ (.tmp 11) rfl g 27 (by kernel_rfl) A hu.add⟩) hH ?_
 simp only [nrm]
 refine any_one (i:=1) (by kernel_rfl) rfl (fun K_ hQ=>?_)
 refine step_callw (by kernel_rfl) 115 #[.pointer (some ⟨g,0,none⟩)] (by kernel_rfl) ((end_ok K L g _ hC2).mono ?_)
 rintro r x1 ⟨y0,y1,y2,y3,y4,rfl,hy,hgr⟩
 refine ⟨_,rfl,?_⟩
 clear hC2
 replace hB:=hB.more hgr
 replace hH:=hH.gr hgr
 clear hgr
 refine hQ.out _ _ hH (fun _=>?_)
 clear hQ K_
 simp only [nrm]
 refine any_one (i:=2) (by kernel_rfl) rfl (fun K_ hQ=>?_)
 refine step_callw (by kernel_rfl) 116 #[.agg (fc y0 y1 y2 y3 y4)] (by kernel_rfl) ((least_ok _ y0 y1 y2 y3 y4 hy _).mono ?_)
 rintro r x2 ⟨z0,z1,z2,z3,z4,rfl,hz0,hz1,hz2,hz3,hz4,hzv,hgr⟩
 refine ⟨_,rfl,?_⟩
 clear hy
 replace hB:=hB.more hgr
 replace hH:=hH.gr hgr
 clear hgr
 have hAd2:=hAd
 obtain ⟨ba,bb,bc,bd,be⟩:=hAd2
 unfold Dg at ba bb bc bd be hz0 hz1 hz2 hz3 hz4
 have sm0:Sm z0:=by unfold Sm; omega
 have sm1:Sm z1:=by unfold Sm; omega
 have sm2:Sm z2:=by unfold Sm; omega
 have sm3:Sm z3:=by unfold Sm; omega
 have sm4:Sm z4:=by unfold Sm; omega
 have sm5:Sm A.a:=by unfold Sm; omega
 have sm6:Sm A.b:=by unfold Sm; omega
 have sm7:Sm A.c:=by unfold Sm; omega
 have sm8:Sm A.d:=by unfold Sm; omega
 have sm9:Sm A.e:=by unfold Sm; omega
 have tm0:Sm (z0+A.a):=by unfold Sm; omega
 have tm1:Sm (z1+A.b):=by unfold Sm; omega
 have tm2:Sm (z2+A.c):=by unfold Sm; omega
 have tm3:Sm (z3+A.d):=by unfold Sm; omega
 have tm4:Sm (z4+A.e):=by unfold Sm; omega
 have hval:v5 (z0+A.a) (z1+A.b) (z2+A.c) (z3+A.d) (z4+A.e)=((mcN K L:Nat):Int):=by
  have e2:v5 A.a A.b A.c A.d A.e=(sK K:Int):=hAs
  rw [v5_add,hzv,e2]
  unfold mcN rK sK
  omega
 refine hQ.out _ _ hH (fun _=>?_)
 clear hQ K_
 simp only [nrm]
 refine any_one (i:=7) (by kernel_rfl) rfl (fun K_ hQ=>?_)
 refine step_callw (by kernel_rfl) 117 #[.agg (fc z0 z1 z2 z3 z4),.agg (fc A.a A.b A.c A.d A.e)] (by kernel_rfl) ((plus_ok z0 z1 z2 z3 z4 A.a A.b A.c A.d A.e sm0 sm1 sm2 sm3 sm4 sm5 sm6 sm7 sm8 sm9 _).mono ?_)
 rintro r x3 ⟨rfl,hgr⟩
 refine ⟨_,rfl,?_⟩
 replace hB:=hB.more hgr
 replace hH:=hH.gr hgr
 clear hgr
 refine hQ.out _ _ hH (fun _=>?_)
 clear hQ K_
 simp only [nrm]
 refine any_one (i:=8) (by kernel_rfl) rfl (fun K_ hQ=>?_)
 refine step_callw (by kernel_rfl) 118 #[.agg (fc (z0+A.a) (z1+A.b) (z2+A.c) (z3+A.d) (z4+A.e))] (by kernel_rfl) ((tag_ok (mcN K L) (z0+A.a) (z1+A.b) (z2+A.c) (z3+A.d) (z4+A.e) tm0 tm1 tm2 tm3 tm4 hval _).mono ?_)
 rintro r x4 ⟨rfl,hgr⟩
 refine ⟨_,rfl,?_⟩
 replace hB:=hB.more hgr
 replace hH:=hH.gr hgr
 clear hgr
 refine hQ.out _ _ hH (fun _=>?_)
 clear hQ K_
 simp only [nrm]
 refine any_one (i:=9) (by kernel_rfl) rfl (fun K_ hQ=>?_)
 rw [if_pos (by kernel_rfl)]
 refine wp_store_row 94 (.tmp 2) (.tmp 14) rfl (w.heap.size) (kc (mcL K L)) (by kernel_rfl) (by kernel_rfl) 94 (kc ZT) (hB.get 0 (x:=⟨w.heap.size,kc ZT,94⟩) rfl) (by rw [Tryz.infoT,kc_size,hXl]) ((show (kc ZT).size=16 from rfl).trans ((kc_size _).trans hXl).symm) (kc_one _) ?_
 have hne0:g≠w.heap.size:=by
  intro e
  have h1:=hB.get 0 (x:=⟨w.heap.size,kc ZT,94⟩) rfl
  have h2:=hH.2
  dsimp only at h1
  rw [e,h1] at h2
  simp only [Option.some.injEq,Obj.cells.injEq] at h2
  exact absurd h2.2.1 (by decide)
 replace hH:Lies g l _ S M A (World.setRow x4 (w.heap.size) (kc (mcL K L))):=⟨hH.1,(setRow_other x4 (w.heap.size) g _ hne0).trans hH.2⟩
 replace hB:=hB.set 0 (x:=⟨w.heap.size,kc ZT,94⟩) rfl (kc (mcL K L))
 simp only [List.set_cons_zero,List.set_cons_succ] at hB
 generalize World.setRow _ _ _=x5 at *
 refine hQ.out _ _ hH (fun _=>?_)
 clear hQ K_
 simp only [nrm]
 refine any_done (by kernel_rfl) ?_
 replace hB:=hide hB
 clear hH hval sm0 sm1 sm2 sm3 sm4 sm5 sm6 sm7 sm8 sm9 tm0 tm1 tm2 tm3 tm4 hz0 hz1 hz2 hz3 hz4 hzv ba bb bc bd be hc hMd hMr hAd hAs hlt
 go_wp2_with fail
 replace hB:=unhide hB
 rw [unhide hT]
 exact bodyPost_ret (v:=.agg (kc (mcL K L))) (results_cell_row Tryz.results92 _ _ (w.heap.size) 94 (kc (mcL K L)) (0,0) _ rfl (hB.get 0 (x:=⟨w.heap.size,kc (mcL K L),94⟩) rfl) Tryz.underlying94 rfl (by rw [Tryz.infoT,kc_size,hXl])) rfl (⟨rfl,hB.gr⟩)
def Newd (K:List Int) (w:World) (r:Ending) (w':World):Prop:=∃ g,r=.returned (.pointer (some ⟨g,0,none⟩))∧w.heap.size≤g∧Cd K g [] w'∧Gr w w'
theorem cd_new (K:List Int) (g:Nat) (M A:F5) (v:World) (h:v.heap[g]?=some (.cells (cd ZT 0 ⟨0,0,0,0,0⟩ M A) 165 (0,0))) (hM:Fd M) (hMv:M.v=(rK K:Int)) (hA:Fd A) (hAv:A.v=(sK K:Int)):Cd K g [] v:=by
 refine ⟨ZT,⟨0,0,0,0,0⟩,M,A,⟨rfl,h⟩,?_,rfl,?_,hM,hMv,hA,hAv⟩
 ·intro x hx
  have:=List.eq_of_mem_replicate hx
  omega
 ·show Car 0 0 0 0 0 0
  unfold Car Dg v5
  decide
set_option maxHeartbeats 4000000 in
theorem pnew_ok (K:List Int) (hK:K.length=32) (hKb:IsB K) (w:World):Calls Tryz.prog 88 #[.agg (kc K)] w (Newd K w):=by
 obtain ⟨T,hT⟩:∃ T,T=Newd K w:=⟨_,rfl⟩
 rw [← hT]
 replace hT:=hide hT
 obtain ⟨SK,hSK⟩:∃ S,S=kc K:=⟨_,rfl⟩
 rw [← hSK]
 replace hSK:=hide hSK
 replace hKb:=hide hKb
 go_enter Tryz.func88,Tryz.ntmps88
 go_upto_region 1 with fail
 have hB:=(Bl.nil w).new SK 23
 simp only [List.nil_append] at hB
 generalize World.alloc _ _=u at *
 rw [unhide hSK] at hB
 replace hB:Bl w [⟨w.heap.size,kc K,23⟩] u:=hB
 refine wp_region_lit ?_
 refine list_val (.agg (kc K)) (by kernel_rfl) (exec_arr _ 23 (.tmp 1) rfl (w.heap.size) (by kernel_rfl) (kc K) 23 _ (hB.get 0 (x:=⟨w.heap.size,kc K,23⟩) rfl) Tryz.underlying23 rfl (by rw [Tryz.infoKey,kc_size,hK])) ?_
 simp only [nrm]
 refine list_call 111 #[.agg (kc K)] (by kernel_rfl) (by kernel_rfl) ((clamp_ok K hK (unhide hKb) _).mono ?_)
 rintro r w1 ⟨rfl,hg⟩
 refine ⟨_,rfl,?_⟩
 replace hB:=hB.more hg
 clear hg
 obtain ⟨R,hR⟩:∃ R,R=clL K:=⟨_,rfl⟩
 have hRl:R.length=16:=by rw [hR]; exact clL_len K
 have hRb:Hid (IsB R):=by rw [hR]; exact clL_isB K (unhide hKb)
 have hRv:Hid (lowN R=(rK K:Int)):=by
  show lowN R=_
  rw [lowN_V R (unhide hRb),hR]
  rfl
 rw [← hR]
 replace hR:=hide hR
 simp only [nrm]
 replace hB:=hide hB
 (refine wpList_step fun K hK=>?_; replace hK:=hide hK; go_simp; refine unhide hK _ _ ?_; clear hK K)
 replace hB:=(unhide hB).new #[.int .u8 0,.int .u8 0,.int .u8 0,.int .u8 0,.int .u8 0,.int .u8 0,.int .u8 0,.int .u8 0,.int .u8 0,.int .u8 0,.int .u8 0,.int .u8 0,.int .u8 0,.int .u8 0,.int .u8 0,.int .u8 0] 94
 simp only [List.nil_append,List.cons_append] at hB
 generalize World.alloc _ _=w2 at *
 generalize w1.heap.size=h5 at *
 replace hB:Bl w [⟨w.heap.size,kc K,23⟩,⟨h5,kc ZT,94⟩] w2:=hB
 refine list_store 94 (.tmp 3) (.tmp 5) (h5) (kc R) 94 (kc ZT) (by kernel_rfl) rfl (by kernel_rfl) (by kernel_rfl) (hB.get 1 (x:=⟨h5,kc ZT,94⟩) rfl) (by rw [Tryz.infoT,kc_size,hRl]) ((show (kc ZT).size=16 from rfl).trans ((kc_size _).trans hRl).symm) (kc_one _) ?_
 replace hB:=hB.set 1 (x:=⟨h5,kc ZT,94⟩) rfl (kc R)
 simp only [List.set_cons_zero,List.set_cons_succ] at hB
 generalize World.setRow _ _ _=w3 at *
 simp only [nrm]
 refine wpList_nil ?_
 replace hB:=hide hB
 go_upto_region 2 with fail
 replace hB:=unhide hB
 have hKt:(K.drop 16).length=16:=by rw [List.length_drop,hK]
 have hKv:Hid (lowN (K.drop 16)=(sK K:Int)):=by
  show lowN (K.drop 16)=_
  rw [lowN_V _ ((unhide hKb).drop 16)]
  rfl
 refine any_start (S:=fun _=>True) (by kernel_rfl) ?_
 replace hB:=hB.drew
 generalize World.drew _=x0 at *
 simp only [List.size_toArray,List.length_cons,List.length_nil,Array.replicate,List.replicate]
 refine any_take (i:=0) (v:=(.slice (some ⟨h5,0,none⟩) 16 16)) #[false,false,false,false,false,false,false] rfl (by kernel_rfl) (by kernel_rfl) (by kernel_rfl) (by kernel_rfl) (fun _ _ _ h=>h) (.inl ⟨by kernel_rfl,fun x_ hu=>by kernel_rfl⟩) trivial ?_
 simp only [nrm]
 refine any_take (i:=2) (v:=(.slice (some ⟨w.heap.size,16,none⟩) 16 16)) #[true,false,false,false,false,false,false] rfl (by kernel_rfl) (by kernel_rfl) (by kernel_rfl) (by kernel_rfl) (fun _ _ _ h=>h) (.inl ⟨by kernel_rfl,fun x_ hu=>by kernel_rfl⟩) trivial ?_
 simp only [nrm]
 refine any_one (i:=1) (by kernel_rfl) rfl (fun K_ hQ=>?_)
 refine step_callw (by kernel_rfl) 112 #[.slice (some ⟨h5,0,none⟩) 16 16] (by kernel_rfl) ((number_ok R h5 0 16 hRl (unhide hRb) (by omega) (by omega) _ (kc_at (hB.get 1 (x:=⟨h5,kc R,94⟩) rfl))).mono ?_)
 rintro r x1 ⟨y0,y1,y2,y3,y4,rfl,hy0,hy1,hy2,hy3,hy4,hyv,hgr⟩
 refine ⟨_,rfl,?_⟩
 replace hB:=hB.more hgr
 clear hgr
 refine hQ.out _ _ trivial (fun _=>?_)
 clear hQ K_
 simp only [nrm]
 refine any_one (i:=3) (by kernel_rfl) rfl (fun K_ hQ=>?_)
 refine step_callw (by kernel_rfl) 112 #[.slice (some ⟨w.heap.size,16,none⟩) 16 16] (by kernel_rfl) ((number_ok (K.drop 16) (w.heap.size) 16 16 hKt ((unhide hKb).drop 16) (by omega) (by omega) _ ((kc_at (hB.get 0 (x:=⟨w.heap.size,kc K,23⟩) rfl)).drop 16)).mono ?_)
 rintro r x2 ⟨z0,z1,z2,z3,z4,rfl,hz0,hz1,hz2,hz3,hz4,hzv,hgr⟩
 refine ⟨_,rfl,?_⟩
 replace hB:=hB.more hgr
 clear hgr
 refine hQ.out _ _ trivial (fun _=>?_)
 clear hQ K_
 simp only [nrm]
 refine any_take (i:=4) (v:=(.agg (cd ZT 0 ⟨0,0,0,0,0⟩ ⟨y0,y1,y2,y3,y4⟩ ⟨z0,z1,z2,z3,z4⟩))) #[true,true,true,true,false,false,false] rfl (by kernel_rfl) (by kernel_rfl) (by kernel_rfl) (by kernel_rfl) (fun _ _ _ h=>h) (.inl ⟨by kernel_rfl,fun x_ hu=>by kernel_rfl⟩) trivial ?_
 simp only [nrm]
 refine any_one (i:=5) (by kernel_rfl) rfl (fun K_ hQ=>?_)
 refine step_val (.pointer (some ⟨x2.heap.size,0,none⟩)) (x2.alloc (.cells (cd ZT 0 ⟨0,0,0,0,0⟩ ⟨y0,y1,y2,y3,y4⟩ ⟨z0,z1,z2,z3,z4⟩) 165 (0,0))) (by kernel_rfl) (by kernel_rfl) ?_
 replace hB:=hB.new (cd ZT 0 ⟨0,0,0,0,0⟩ ⟨y0,y1,y2,y3,y4⟩ ⟨z0,z1,z2,z3,z4⟩) 165
 simp only [List.cons_append,List.nil_append] at hB
 generalize World.alloc _ _=x3 at *
 generalize x2.heap.size=h6 at *
 refine hQ.out _ _ trivial (fun _=>?_)
 clear hQ K_
 simp only [nrm]
 refine any_one (i:=6) (by kernel_rfl) rfl (fun K_ hQ=>?_)
 replace hQ:=hide hQ
 go_simp
 refine (unhide hQ).out _ _ trivial (fun _=>?_)
 clear hQ K_
 refine any_done (by kernel_rfl) ?_
 have hW:Hid (Newd K w (.returned (.pointer (some ⟨h6,0,none⟩))) x3):=by
  refine ⟨h6,rfl,hB.own 2 (x:=⟨h6,cd ZT 0 ⟨0,0,0,0,0⟩ ⟨y0,y1,y2,y3,y4⟩ ⟨z0,z1,z2,z3,z4⟩,165⟩) rfl,cd_new K h6 _ _ _ (hB.get 2 (x:=⟨h6,cd ZT 0 ⟨0,0,0,0,0⟩ ⟨y0,y1,y2,y3,y4⟩ ⟨z0,z1,z2,z3,z4⟩,165⟩) rfl) ⟨hy0,hy1,hy2,hy3,?_⟩ (hyv.trans (unhide hRv)) ⟨hz0,hz1,hz2,hz3,?_⟩ (hzv.trans (unhide hKv)),hB.gr⟩
  ·show 0≤y4∧y4<67108864
   omega
  ·show 0≤z4∧z4<67108864
   omega
 clear hB hy0 hy1 hy2 hy3 hy4 hyv hz0 hz1 hz2 hz3 hz4 hzv
 go_wp2_with fail
 rw [unhide hT]
 exact unhide hW
end Go.Proofs.YthahhglbeafkmaaGreatDoor
namespace Go.Proofs.YthahhglbeafkmaaGreatDoor
open Go.RowKit
set_option maxRecDepth 100000
set_option linter.unusedSimpArgs false
set_option linter.unusedVariables false
theorem list_ext {A B:List Int} (hl:A.length=B.length) (h:∀ i,i<A.length→A.getD i 0=B.getD i 0):A=B:=by
 apply List.ext_getElem hl
 intro i h1 h2
 have:=h i h1
 simpa [List.getD_eq_getElem?_getD,List.getElem?_eq_getElem h1,List.getElem?_eq_getElem h2] using this
theorem IsB.append {A B:List Int} (h:IsB A) (k:IsB B):IsB (A++B):=fun x hx=>by
 rcases List.mem_append.1 hx with h1 | h1
 ·exact h x h1
 ·exact k x h1
theorem rep_isB (n:Nat):IsB (List.replicate n 0):=fun x hx=>by have:=List.eq_of_mem_replicate hx; omega
theorem bts_isB (W:List Int):IsB (bts W):=fun x hx=>by
 unfold bts at hx
 obtain ⟨i,_,rfl⟩:=List.mem_map.1 hx
 unfold btf
 omega
theorem bk_isB (K N:List Int) (c:Int):IsB (bk K N c):=bts_isB _
theorem sf_rng (K N:List Int) (c:Int) (i:Nat):0≤sf K N c i∧sf K N c i<256:=(bk_isB K N _).at_ _
theorem xl_get (K N:List Int) (c:Int) (B:List Int) (i:Nat) (h:i<B.length):(xl K N c B).getD i 0=xf K N c B i:=by
 unfold xl
 rw [List.getD_eq_getElem?_getD,List.getElem?_map,List.getElem?_range h]
 rfl
theorem xl_twice (K N:List Int) (c:Int) (B:List Int) (hB:IsB B):xl K N c (xl K N c B)=B:=by
 refine list_ext (by rw [xl_len,xl_len]) fun i hi=>?_
 rw [xl_len,xl_len] at hi
 rw [xl_get _ _ _ _ _ (by rw [xl_len]; exact hi),xf,xl_get _ _ _ _ _ hi,xf]
 exact xb_twice _ _ (hB.at_ i) (sf_rng _ _ _ _)
theorem tgL_isB (n:Nat):IsB (tgL n):=fun x hx=>by
 unfold tgL at hx
 obtain ⟨i,_,rfl⟩:=List.mem_map.1 hx
 unfold tgf
 omega
def otk (K N:List Int):List Int:=(bk K N 0).take 32
theorem otk_len (K N:List Int):(otk K N).length=32:=by unfold otk; rw [List.length_take,bk_len]; rfl
theorem otk_isB (K N:List Int):IsB (otk K N):=(bk_isB K N 0).take 32
def padz (n:Nat):Nat:=(16 - n % 16) % 16
theorem padz_lt (n:Nat):padz n<16:=by unfold padz; omega
def pd (L:List Int):List Int:=L++List.replicate (padz L.length) 0
def tin (A C:List Int):List Int:=pd A++pd C++(lowL (A.length:Int) 8++lowL (C.length:Int) 8)
def tagL (K N A C:List Int):List Int:=mcL (otk K N) (tin A C)
theorem tagL_len (K N A C:List Int):(tagL K N A C).length=16:=tgL_len _
theorem tagL_isB (K N A C:List Int):IsB (tagL K N A C):=tgL_isB _
def sealL (K N A P:List Int):List Int:=xl K N 1 P++tagL K N A (xl K N 1 P)
theorem sealL_len (K N A P:List Int):(sealL K N A P).length=P.length+16:=by unfold sealL; rw [List.length_append,xl_len,tagL_len]
theorem sealL_isB (K N A P:List Int):IsB (sealL K N A P):=(xl_isB _ _ _ _).append (tagL_isB _ _ _ _)
def cntL (n:Int):List Int:=List.replicate 4 0++lowL n 8
theorem cntL_len (n:Int):(cntL n).length=12:=by unfold cntL; rw [List.length_append,lowL_len]; rfl
theorem cntL_isB (n:Int):IsB (cntL n):=(rep_isB 4).append (lowL_isB n 8)
theorem u8_or_nat (a b:Nat) (ha:a<256) (hb:b<256):bits .or .u8 (a:Int) (b:Int)=((a ||| b:Nat):Int):=by
 have hx:a ||| b<2 ^ 8:=Nat.or_lt_two_pow (by omega) (by omega)
 have h1:(BitVec.ofInt 8 (a:Int)).toNat=a:=by
  rw [BitVec.ofInt_natCast,BitVec.toNat_ofNat]; exact Nat.mod_eq_of_lt (by omega)
 have h2:(BitVec.ofInt 8 (b:Int)).toNat=b:=by
  rw [BitVec.ofInt_natCast,BitVec.toNat_ofNat]; exact Nat.mod_eq_of_lt (by omega)
 show IntKind.u8.wrap ((BitVec.ofInt 8 (a:Int) ||| BitVec.ofInt 8 (b:Int)).toNat:Int)=_
 rw [BitVec.toNat_or,h1,h2,IntKind.wrap_u8]
 omega
theorem nat_or_zero (a b:Nat):a ||| b=0 ↔ a=0∧b=0:=by
 constructor
 ·intro h
  have h1:=Nat.left_le_or (n:=a) (m:=b)
  have h2:=Nat.right_le_or (n:=a) (m:=b)
  omega
 ·rintro ⟨rfl,rfl⟩; rfl
theorem nat_xor_zero (a b:Nat):a ^^^ b=0 ↔ a=b:=by
 constructor
 ·intro h
  have:a ^^^ b ^^^ b=0 ^^^ b:=by rw [h]
  rw [Nat.xor_assoc,Nat.xor_self,Nat.xor_zero,Nat.zero_xor] at this
  exact this
 ·rintro rfl; exact Nat.xor_self a
theorem or_xor (u x y:Int) (hu:0≤u∧u<256) (hx:0≤x∧x<256) (hy:0≤y∧y<256) :
  (0≤bits .or .u8 u (bits .xor .u8 x y)∧bits .or .u8 u (bits .xor .u8 x y)<256)∧(bits .or .u8 u (bits .xor .u8 x y)=0 ↔ u=0∧x=y):=by
 obtain ⟨U,rfl⟩:=Int.eq_ofNat_of_zero_le hu.1
 obtain ⟨X,rfl⟩:=Int.eq_ofNat_of_zero_le hx.1
 obtain ⟨Y,rfl⟩:=Int.eq_ofNat_of_zero_le hy.1
 have h1:X ^^^ Y<256:=Nat.xor_lt_two_pow (n:=8) (by omega) (by omega)
 rw [u8_xor_nat X Y (by omega) (by omega),u8_or_nat U (X ^^^ Y) (by omega) h1]
 have h2:U ||| (X ^^^ Y)<256:=Nat.or_lt_two_pow (n:=8) (by omega) h1
 have h3:=nat_or_zero U (X ^^^ Y)
 have h4:=nat_xor_zero X Y
 refine ⟨by omega,?_⟩
 constructor
 ·intro h
  have:=h3.1 (by omega)
  exact ⟨by omega,by have:=h4.1 this.2; omega⟩
 ·rintro ⟨h,h'⟩
  have:=h3.2 ⟨by omega,h4.2 (by omega)⟩
  omega
theorem take_eq_step (l m:List Int) (k:Nat) (hl:k<l.length) (hm:k<m.length):l.take (k+1)=m.take (k+1) ↔ l.take k=m.take k∧l.getD k 0=m.getD k 0:=by
 have e:∀ x:List Int,k<x.length→x.take (k+1)=x.take k++[x.getD k 0]:=fun x hx=>by
  rw [List.take_add_one,List.getElem?_eq_getElem hx]
  simp [hx]
 rw [e l hl,e m hm]
 constructor
 ·intro h
  have:=List.append_inj h (by simp; omega)
  exact ⟨this.1,by simpa using this.2⟩
 ·rintro ⟨h1,h2⟩; rw [h1,h2]
def Unl (l m:List Int) (k:Nat) (u:Int):Prop:=(0≤u∧u<256)∧(u=0 ↔ l.take k=m.take k)
theorem Unl.step {l m:List Int} {k:Nat} {u x y:Int} (h:Unl l m k u) (hl:k<l.length) (hm:k<m.length) (hx:x=l.getD k 0) (hy:y=m.getD k 0) (bl:IsB l) (bm:IsB m) :
  Unl l m (k+1) (bits .or .u8 u (bits .xor .u8 x y)):=by
 subst hx; subst hy
 have:=or_xor u _ _ h.1 (bl.at_ k) (bm.at_ k)
 refine ⟨this.1,?_⟩
 rw [this.2,take_eq_step l m k hl hm,h.2]
set_option maxHeartbeats 1000000 in
theorem oequal_ok (l m:List Int) (a a':Option Addr) (n c c':Nat) (hn:n≤281474976710656) (w:World) (la:Lb w a n c l) (lb:Lb w a' n c' m) :
  Calls Tryz.prog 50 #[.slice a n c,.slice a' n c'] w (fun e w'=>e=.returned (.bool (decide (l=m)))∧w'=w):=by
 have hl:=hide la.len
 have hm:=hide lb.len
 replace la:=hide la
 replace lb:=hide lb
 go_enter Tryz.func50,Tryz.ntmps50
 go_wp2_with fail
 go_loopw [5,15] (fun x i wr=>∃ (k:Nat) (u:Int),k≤n∧i=.int .i64 k∧x=.int .u8 u∧Hid (Unl l m k u)∧wr=w) (fun _ i _=>n - (intOf i).toNat)
 case atStart=>exact ⟨0,0,Nat.zero_le _,rfl,rfl,(⟨by omega,by simp⟩:Unl l m 0 0),rfl⟩
 case round =>
 obtain ⟨k,u,hk,rfl,rfl,hU,rfl⟩:=hrel
 by_cases hlt:k<n
 ·obtain ⟨p,o,rfl,c0⟩:∃ p o,a=some ⟨p,o,none⟩∧wr.cell? ⟨p,o+k,none⟩=some (.int .u8 (l.getD k 0)):=by
   rcases (unhide la).sl with h | ⟨p,o,h1,h2⟩
   ·have:=unhide hl
    rw [h] at this
    simp at this
    omega
   ·exact ⟨p,o,h1,h2 k (by rw [unhide hl]; exact hlt)⟩
  obtain ⟨p',o',rfl,c1⟩:∃ p o,a'=some ⟨p,o,none⟩∧wr.cell? ⟨p,o+k,none⟩=some (.int .u8 (m.getD k 0)):=by
   rcases (unhide lb).sl with h | ⟨p,o,h1,h2⟩
   ·have:=unhide hm
    rw [h] at this
    simp at this
    omega
   ·exact ⟨p,o,h1,h2 k (by rw [unhide hm]; exact hlt)⟩
  obtain ⟨x,hx⟩:∃ x,x=l.getD k 0:=⟨_,rfl⟩
  obtain ⟨y,hy⟩:∃ y,y=m.getD k 0:=⟨_,rfl⟩
  rw [← hx] at c0
  rw [← hy] at c1
  have HS:=hide ((unhide hU).step (by rw [unhide hl]; exact hlt) (by rw [unhide hm]; exact hlt) hx hy (unhide la).isB (unhide lb).isB)
  clear hx hy hU
  have kI:(k:Int)<(n:Int):=by omega
  go_wp2_with fail
  go_roundw
  case rel=>exact ⟨k+1,_,by omega,by go_num,rfl,HS,trivial⟩
  case measure=>simp [intOf]; omega
 ·have kI:¬ (k:Int)<(n:Int):=by omega
  have e:l.take k=l∧m.take k=m:=⟨List.take_of_length_le (by rw [unhide hl]; omega),List.take_of_length_le (by rw [unhide hm]; omega)⟩
  have hU2:=(unhide hU).2
  rw [e.1,e.2] at hU2
  have HU:=hide (show (u == 0)=decide (l=m) by rw [Bool.eq_iff_iff]; simpa using hU2)
  clear hU hU2 e
  go_wp2_with fail
  refine bodyPost_ret (v:=.bool (u == 0)) (by simp [results,Tryz.results50,go_sem]) rfl ⟨?_,rfl⟩
  rw [unhide HU]
theorem Tryz.cells_b:Tryz.prog.cellsOf 5=1:=by kernel_rfl
end Go.Proofs.YthahhglbeafkmaaGreatDoor
namespace Go.Proofs.YthahhglbeafkmaaGreatDoor
open Go.RowKit
set_option maxRecDepth 100000
set_option linter.unusedSimpArgs false
set_option linter.unusedVariables false
def ZK:List Int:=List.replicate 32 0
def ZN:List Int:=List.replicate 12 0
theorem lay_all (C S:List Int) (h:S.length=C.length):lay C 0 S=S:=by
 unfold lay
 rw [List.take_zero,List.nil_append,Nat.zero_add,List.drop_of_length_le (by omega),List.append_nil]
theorem exec_ptr {op:Oper} {a:Act} (w:World) (x:Operand) (ho:op.op=.load 138 x) (g i:Nat) (hx:a.eval x=.pointer (some ⟨g,i,none⟩)) (p:Option Addr) (hc:w.cell? ⟨g,i,none⟩=some (.pointer p)):(execOp a.eval op).run Tryz.prog w=.ok (.value (.pointer p)) w:=by
 unfold execOp
 simp only [ho,hx,Instr.loadAt,Instr.sureAddr,Sem.run_bind,Sem.run_pure,Result.andThen_ok]
 go_simp
theorem Cd.keep {K:List Int} {g:Nat} {L:List Int} {w v:World} (h:Cd K g L w) (e:v.heap[g]?=w.heap[g]?):Cd K g L v:=by
 obtain ⟨l,S,M,A,hH,hr⟩:=h
 exact ⟨l,S,M,A,⟨hH.1,e.trans hH.2⟩,hr⟩
theorem Cd.ne {K:List Int} {g:Nat} {L:List Int} {w:World} (h:Cd K g L w) {b:Nat} {c:Array Value} {t:TypeId} (hb:w.heap[b]?=some (.cells c t (0,0))) (ht:t≠165):b≠g:=by
 obtain ⟨l,S,M,A,hH,_⟩:=h
 intro e
 have h2:=hH.2
 rw [← e,hb] at h2
 simp only [Option.some.injEq,Obj.cells.injEq] at h2
 exact ht h2.2.1
theorem Bl.beside {K:List Int} {w u v:World} {L:List Blk} {g:Nat} {M:List Int} (h:Bl w L u) (hC:Cd K g M u) (k:Bt g u v) (hg:w.heap.size≤g) (ht:∀ x ∈ L,x.t≠165):Bl w L v :=
 ⟨k.gr h.gr hg,fun x hx=>⟨k.blk (h.at_ x hx).1 (hC.ne (h.at_ x hx).1 (ht x hx)),(h.at_ x hx).2⟩,h.ne⟩
set_option maxHeartbeats 4000000 in
theorem once_ok (K N:List Int) (hK:K.length=32) (hN:N.length=12) (hKb:IsB K) (hNb:IsB N) (w:World):Calls Tryz.prog 89 #[.agg (kc K),.agg (kc N)] w (Tg (otk K N) w):=by
 obtain ⟨T,hT⟩:∃ T,T=Tg (otk K N) w:=⟨_,rfl⟩
 rw [← hT]
 replace hT:=hide hT
 obtain ⟨SK,hSK⟩:∃ S,S=kc K:=⟨_,rfl⟩
 obtain ⟨SN,hSN⟩:∃ S,S=kc N:=⟨_,rfl⟩
 rw [← hSK,← hSN]
 replace hSK:=hide hSK
 replace hSN:=hide hSN
 replace hKb:=hide hKb
 replace hNb:=hide hNb
 go_enter Tryz.func89,Tryz.ntmps89
 go_upto_region 2 with fail
 have hB:=(((((Bl.nil w).new SK 23).new SN 64).new #[.int .u8 0,.int .u8 0,.int .u8 0,.int .u8 0,.int .u8 0,.int .u8 0,.int .u8 0,.int .u8 0,.int .u8 0,.int .u8 0,.int .u8 0,.int .u8 0,.int .u8 0,.int .u8 0,.int .u8 0,.int .u8 0,.int .u8 0,.int .u8 0,.int .u8 0,.int .u8 0,.int .u8 0,.int .u8 0,.int .u8 0,.int .u8 0,.int .u8 0,.int .u8 0,.int .u8 0,.int .u8 0,.int .u8 0,.int .u8 0,.int .u8 0,.int .u8 0] 23).new #[.int .u8 0,.int .u8 0,.int .u8 0,.int .u8 0,.int .u8 0,.int .u8 0,.int .u8 0,.int .u8 0,.int .u8 0,.int .u8 0,.int .u8 0,.int .u8 0,.int .u8 0,.int .u8 0,.int .u8 0,.int .u8 0,.int .u8 0,.int .u8 0,.int .u8 0,.int .u8 0,.int .u8 0,.int .u8 0,.int .u8 0,.int .u8 0,.int .u8 0,.int .u8 0,.int .u8 0,.int .u8 0,.int .u8 0,.int .u8 0,.int .u8 0,.int .u8 0] 23)
 simp only [size_alloc,List.nil_append,List.cons_append] at hB
 generalize World.alloc _ _=u at *
 rw [unhide hSK,unhide hSN] at hB
 replace hB:Bl w [⟨w.heap.size,kc K,23⟩,⟨w.heap.size+1,kc N,64⟩,⟨w.heap.size+1+1,kc ZK,23⟩,⟨w.heap.size+1+1+1,kc ZK,23⟩] u:=hB
 refine wp_region_lit ?_
 refine list_val (.agg (kc K)) (by kernel_rfl) (exec_arr _ 23 (.tmp 2) rfl (w.heap.size) (by kernel_rfl) (kc K) 23 _ (hB.get 0 (x:=⟨w.heap.size,kc K,23⟩) rfl) Tryz.underlying23 rfl (by rw [Tryz.infoKey,kc_size,hK])) ?_
 simp only [nrm]
 refine list_val (.agg (kc N)) (by kernel_rfl) (exec_arr _ 64 (.tmp 3) rfl (w.heap.size+1) (by kernel_rfl) (kc N) 64 _ (hB.get 1 (x:=⟨w.heap.size+1,kc N,64⟩) rfl) Tryz.underlying64 rfl (by rw [Tryz.infoN,kc_size,hN])) ?_
 simp only [nrm]
 refine list_call 113 #[.agg (kc K),.int .u32 0,.agg (kc N)] (by kernel_rfl) (by kernel_rfl) ((block_ok K N hK hN (unhide hKb) (unhide hNb) 0 _).mono ?_)
 rintro r u1 ⟨rfl,hg⟩
 refine ⟨_,rfl,?_⟩
 replace hB:=hB.more hg
 clear hg
 obtain ⟨D,hD⟩:∃ D,D=bk K N 0:=⟨_,rfl⟩
 rw [← hD]
 have hDl:D.length=64:=by rw [hD,bk_len]
 replace hD:=hide hD
 simp only [nrm]
 replace hB:=hide hB
 (refine wpList_step fun K hK=>?_; replace hK:=hide hK; go_simp; refine unhide hK _ _ ?_; clear hK K)
 replace hB:=(unhide hB).new #[.int .u8 0,.int .u8 0,.int .u8 0,.int .u8 0,.int .u8 0,.int .u8 0,.int .u8 0,.int .u8 0,.int .u8 0,.int .u8 0,.int .u8 0,.int .u8 0,.int .u8 0,.int .u8 0,.int .u8 0,.int .u8 0,.int .u8 0,.int .u8 0,.int .u8 0,.int .u8 0,.int .u8 0,.int .u8 0,.int .u8 0,.int .u8 0,.int .u8 0,.int .u8 0,.int .u8 0,.int .u8 0,.int .u8 0,.int .u8 0,.int .u8 0,.int .u8 0,.int .u8 0,.int .u8 0,.int .u8 0,.int .u8 0,.int .u8 0,.int .u8 0,.int .u8 0,.int .u8 0,.int .u8 0,.int .u8 0,.int .u8 0,.int .u8 0,.int .u8 0,.int .u8 0,.int .u8 0,.int .u8 0,.int .u8 0,.int .u8 0,.int .u8 0,.int .u8 0,.int .u8 0,.int .u8 0,.int .u8 0,.int .u8 0,.int .u8 0,.int .u8 0,.int .u8 0,.int .u8 0,.int .u8 0,.int .u8 0,.int .u8 0,.int .u8 0] 87
 simp only [List.nil_append,List.cons_append] at hB
 generalize World.alloc _ _=u2 at *
 generalize u1.heap.size=h6 at *
 replace hB:Bl w [⟨w.heap.size,kc K,23⟩,⟨w.heap.size+1,kc N,64⟩,⟨w.heap.size+1+1,kc ZK,23⟩,⟨w.heap.size+1+1+1,kc ZK,23⟩,⟨h6,kc Z64,87⟩] u2:=hB
 refine list_store 87 (.tmp 6) (.tmp 9) (h6) (kc D) 87 (kc Z64) (by kernel_rfl) rfl (by kernel_rfl) (by kernel_rfl) (hB.get 4 (x:=⟨h6,kc Z64,87⟩) rfl) (by rw [Tryz.info64,kc_size,hDl]) ((show (kc Z64).size=64 from rfl).trans ((kc_size _).trans hDl).symm) (kc_one _) ?_
 replace hB:=hB.set 4 (x:=⟨h6,kc Z64,87⟩) rfl (kc D)
 simp only [List.set_cons_zero,List.set_cons_succ] at hB
 generalize World.setRow _ _ _=u3 at *
 simp only [nrm]
 refine wpList_nil ?_
 replace hB:=hide hB
 go_upto_region 3 with fail
 replace hB:=unhide hB
 refine any_start (S:=fun _=>True) (by kernel_rfl) ?_
 replace hB:=hB.drew
 generalize World.drew _=x0 at *
 simp only [List.size_toArray,List.length_cons,List.length_nil,Array.replicate,List.replicate]
 refine any_take (i:=0) (v:=(.slice (some ⟨w.heap.size+1+1+1,0,none⟩) 32 32)) #[false,false,false] rfl (by kernel_rfl) (by kernel_rfl) (by kernel_rfl) (by kernel_rfl) (fun _ _ _ h=>h) (.inl ⟨by kernel_rfl,fun x_ hu=>by kernel_rfl⟩) trivial ?_
 simp only [nrm]
 refine any_take (i:=1) (v:=(.slice (some ⟨h6,0,none⟩) 64 64)) #[true,false,false] rfl (by kernel_rfl) (by kernel_rfl) (by kernel_rfl) (by kernel_rfl) (fun _ _ _ h=>h) (.inl ⟨by kernel_rfl,fun x_ hu=>by kernel_rfl⟩) trivial ?_
 simp only [nrm]
 refine any_one (i:=2) (by kernel_rfl) rfl (fun K_ hQ=>?_)
 rw [if_pos (by kernel_rfl)]
 obtain ⟨E,hE⟩:∃ E,E=D.take 32:=⟨_,rfl⟩
 have hEl:E.length=32:=by rw [hE,List.length_take,hDl]; rfl
 refine copy_wp (.tmp 10) (.tmp 11) rfl (w.heap.size+1+1+1) 0 32 32 (some ⟨h6,0,none⟩) 64 64 (by kernel_rfl) (by kernel_rfl) (ZK.map (Value.int .u8)) 23 (hB.get 3 (x:=⟨w.heap.size+1+1+1,kc ZK,23⟩) rfl) E (by rw [hEl]; rfl) (.inr ⟨h6,0,rfl,by rw [hE]; exact (kc_at (hB.get 4 (x:=⟨h6,kc D,87⟩) rfl)).take 32⟩) (by rw [hEl]; exact Nat.le_refl _) ?_
 have hcell:=laid (S:=E) (o:=0) (hB.get 3 (x:=⟨w.heap.size+1+1+1,kc ZK,23⟩) rfl) (by rw [hEl]; exact Nat.le_refl _)
 rw [lay_all ZK E hEl] at hcell
 have hB2:=hB.but (setCells_bt (E.map (Value.int .u8)) x0 (w.heap.size+1+1+1) 0) 3 (x:=⟨w.heap.size+1+1+1,kc ZK,23⟩) rfl rfl hcell
 simp only [List.set_cons_zero,List.set_cons_succ] at hB2
 clear hcell hB
 generalize World.setCells _ _ _ _=x1 at *
 refine hQ.out _ _ trivial (fun _=>?_)
 clear hQ K_
 simp only [nrm]
 refine any_done (by kernel_rfl) ?_
 rw [hEl]
 replace hB2:=hide hB2
 go_upto_region 4 with fail
 have hB:=unhide hB2
 clear hB2
 refine wp_region_lit ?_
 refine list_val (.agg (kc E)) (by kernel_rfl) (exec_arr _ 23 (.tmp 5) rfl (w.heap.size+1+1+1) (by kernel_rfl) (kc E) 23 _ (hB.get 3 (x:=⟨w.heap.size+1+1+1,kc E,23⟩) rfl) Tryz.underlying23 rfl (by rw [Tryz.infoKey,kc_size,hEl])) ?_
 simp only [nrm]
 refine list_store 23 (.tmp 4) (.tmp 13) (w.heap.size+1+1) (kc E) 23 (kc ZK) (by kernel_rfl) rfl (by kernel_rfl) (by kernel_rfl) (hB.get 2 (x:=⟨w.heap.size+1+1,kc ZK,23⟩) rfl) (by rw [Tryz.infoKey,kc_size,hEl]) ((show (kc ZK).size=32 from rfl).trans ((kc_size _).trans hEl).symm) (kc_one _) ?_
 replace hB:=hB.set 2 (x:=⟨w.heap.size+1+1,kc ZK,23⟩) rfl (kc E)
 simp only [List.set_cons_zero,List.set_cons_succ] at hB
 generalize World.setRow _ _ _=x2 at *
 simp only [nrm]
 refine wpList_nil ?_
 have hE2:E=otk K N:=by rw [hE,unhide hD]; rfl
 clear hE
 replace hB:=hide hB
 go_wp2_with fail
 replace hB:=unhide hB
 rw [unhide hT]
 exact bodyPost_ret (v:=.agg (kc E)) (results_cell_row Tryz.results89 _ _ (w.heap.size+1+1) 23 (kc E) (0,0) _ rfl (hB.get 2 (x:=⟨w.heap.size+1+1,kc E,23⟩) rfl) Tryz.underlying23 rfl (by rw [Tryz.infoKey,kc_size,hEl])) rfl (⟨by rw [hE2],hB.gr⟩)
def Filled (K:List Int) (g:Nat) (L:List Int) (w:World) (r:Ending) (w':World):Prop:=r=.returned (.tuple #[])∧Cd K g L w'∧Bt g w w'
theorem zt_lb {v:World} {g:Nat} (h:v.heap[g]?=some (.cells (kc ZT) 32 (0,0))) (n:Nat) (hn:n<16):Lb v (some ⟨g,0,none⟩) n 16 (List.replicate n 0):=by
 refine ⟨by simp,rep_isB n,.inr ⟨g,0,rfl,?_⟩,by omega,by omega⟩
 have h1:=(kc_at h).take n
 have e:ZT.take n=List.replicate n 0:=by
  unfold ZT
  rw [List.take_replicate,Nat.min_eq_left (by omega)]
 rw [e] at h1
 exact h1
set_option maxHeartbeats 4000000 in
theorem fill_ok (K L P:List Int) (g gv:Nat) (s:Option Addr) (n cap:Nat) (w:World) (hC:Cd K g L w) (hv:w.heap[gv]?=some (.cells #[.pointer (some ⟨g,0,none⟩)] 138 (0,0))) (lb:∀ v,Bt g w v→Lb v s n cap P):Calls Tryz.prog 90 #[.slice s n cap,.pointer (some ⟨gv,0,none⟩)] w (Filled K g (L++pd P) w):=by
 obtain ⟨T,hT⟩:∃ T,T=Filled K g (L++pd P) w:=⟨_,rfl⟩
 rw [← hT]
 replace hT:=hide hT
 have hlb:=lb w (Bt.refl g w)
 have hPl:=hlb.len
 have hmx:(n:Int)<9223372036854775808:=by have h1:=hlb.cap; have h2:=hlb.max; omega
 clear hlb
 obtain ⟨m,hm⟩:∃ m,m=padz n:=⟨_,rfl⟩
 have hm16:m<16:=by rw [hm]; exact padz_lt n
 obtain ⟨r1,hr1⟩:∃ r,r=n % 16:=⟨_,rfl⟩
 have hr16:r1<16:=by omega
 have e1:Int.tmod (n:Int) 16=(r1:Int):=by rw [Int.tmod_eq_emod_of_nonneg (by omega)]; omega
 obtain ⟨r2,hr2⟩:∃ r,r=16 - r1:=⟨_,rfl⟩
 have e2:(16:Int) - (r1:Int)=(r2:Int):=by omega
 have e4:IntKind.i64.wrap (r2:Int)=(r2:Int):=by rw [IntKind.wrap_i64]; omega
 have e3:Int.tmod (r2:Int) 16=(m:Int):=by rw [Int.tmod_eq_emod_of_nonneg (by omega)]; rw [hm]; unfold padz; omega
 have m16:(m:Int)≤16:=by omega
 replace hm:=hide hm
 replace hr1:=hide hr1
 replace hr2:=hide hr2
 replace hC:=hide hC; replace lb:=hide lb; replace hv:=hide hv; replace hPl:=hide hPl
 go_enter Tryz.func90,Tryz.ntmps90
 go_upto_region 1 with fail
 have hg:=(Gr.refl w).alloc (.cells #[.int .u8 0,.int .u8 0,.int .u8 0,.int .u8 0,.int .u8 0,.int .u8 0,.int .u8 0,.int .u8 0,.int .u8 0,.int .u8 0,.int .u8 0,.int .u8 0,.int .u8 0,.int .u8 0,.int .u8 0,.int .u8 0] 32 (0,0))
 have hz:=blk_new w (.cells #[.int .u8 0,.int .u8 0,.int .u8 0,.int .u8 0,.int .u8 0,.int .u8 0,.int .u8 0,.int .u8 0,.int .u8 0,.int .u8 0,.int .u8 0,.int .u8 0,.int .u8 0,.int .u8 0,.int .u8 0,.int .u8 0] 32 (0,0))
 generalize World.alloc _ _=u at *
 replace hz:u.heap[w.heap.size]?=some (.cells (kc ZT) 32 (0,0)):=hz
 have hC1:=(unhide hC).gr hg
 have hv1:=hg.blk (unhide hv)
 have hne:=hC1.ne hv1 (by decide)
 have hnz:=hC1.ne hz (by decide)
 have bt:=hg.bt g
 clear hg hC hv
 refine wp_region_lit ?_
 refine list_val (.pointer (some ⟨g,0,none⟩)) (by kernel_rfl) (exec_ptr _ (.tmp 1) rfl gv 0 (by kernel_rfl) (some ⟨g,0,none⟩) (cell_of hv1 rfl)) ?_
 simp only [nrm]
 refine list_val (.slice s n cap) (by kernel_rfl) (by kernel_rfl) ?_
 simp only [nrm]
 refine list_call 91 #[.pointer (some ⟨g,0,none⟩),.slice s n cap] (by kernel_rfl) (by kernel_rfl) ((pwrite_ok K L P g s n cap _ hC1 (fun v h=>(unhide lb) v (bt.trans h))).mono ?_)
 rintro r u2 ⟨rfl,hC2,hb⟩
 refine ⟨_,rfl,?_⟩
 have hv2:=hb.blk hv1 hne
 have hz2:=hb.blk hz hnz
 replace bt:=bt.trans hb
 clear hb hC1 hv1 hz
 simp only [nrm]
 refine wpList_nil ?_
 replace bt:=hide bt; replace hC2:=hide hC2; replace hv2:=hide hv2; replace hz2:=hide hz2
 go_upto_region 2 with fail
 replace bt:=unhide bt; replace hC2:=unhide hC2; replace hv2:=unhide hv2; replace hz2:=unhide hz2
 refine any_start (S:=fun v=>v.heap[gv]?=some (.cells #[.pointer (some ⟨g,0,none⟩)] 138 (0,0))) (by kernel_rfl) ?_
 replace hC2:=hC2.gr (Gr.refl _).drew
 replace bt:=bt.trans ((Gr.refl _).drew.bt g)
 replace hz2:(World.drew _).heap[w.heap.size]?=some (.cells (kc ZT) 32 (0,0)):=hz2
 replace hv2:(World.drew _).heap[gv]?=some (.cells #[.pointer (some ⟨g,0,none⟩)] 138 (0,0)):=hv2
 generalize World.drew _=x0 at *
 simp only [List.size_toArray,List.length_cons,List.length_nil,Array.replicate,List.replicate]
 refine any_take (i:=0) (v:=(.pointer (some ⟨g,0,none⟩))) #[false,false,false,false,false,false,false,false] rfl (by kernel_rfl) (by kernel_rfl) (by kernel_rfl) (by kernel_rfl) (fun _ _ _ h=>h) (.inl ⟨by kernel_rfl,fun x_ hu=>exec_ptr _ (.tmp 1) rfl gv 0 (by kernel_rfl) (some ⟨g,0,none⟩) (cell_of hu rfl)⟩) hv2 ?_
 simp only [nrm]
 refine any_take (i:=1) (v:=(.slice s n cap)) #[true,false,false,false,false,false,false,false] rfl (by kernel_rfl) (by kernel_rfl) (by kernel_rfl) (by kernel_rfl) (fun _ _ _ h=>h) (.inl ⟨by kernel_rfl,fun x_ hu=>by kernel_rfl⟩) hv2 ?_
 simp only [nrm]
 refine any_take (i:=2) (v:=(.int .i64 n)) #[true,true,false,false,false,false,false,false] rfl (by kernel_rfl) (by kernel_rfl) (by kernel_rfl) (by kernel_rfl) (fun _ _ _ h=>h) (.inl ⟨by kernel_rfl,fun x_ hu=>by kernel_rfl⟩) hv2 ?_
 simp only [nrm]
 refine any_take (i:=3) (v:=(.int .i64 r1)) #[true,true,true,false,false,false,false,false] rfl (by kernel_rfl) (by kernel_rfl) (by kernel_rfl) (by kernel_rfl) (fun _ _ _ h=>h) (.inl ⟨by kernel_rfl,fun x_ hu=>by go_simp⟩) hv2 ?_
 simp only [nrm]
 refine any_take (i:=4) (v:=(.int .i64 r2)) #[true,true,true,true,false,false,false,false] rfl (by kernel_rfl) (by kernel_rfl) (by kernel_rfl) (by kernel_rfl) (fun _ _ _ h=>h) (.inl ⟨by kernel_rfl,fun x_ hu=>by go_simp⟩) hv2 ?_
 simp only [nrm]
 refine any_take (i:=5) (v:=(.int .i64 m)) #[true,true,true,true,true,false,false,false] rfl (by kernel_rfl) (by kernel_rfl) (by kernel_rfl) (by kernel_rfl) (fun _ _ _ h=>h) (.inl ⟨by kernel_rfl,fun x_ hu=>by go_simp⟩) hv2 ?_
 simp only [nrm]
 refine any_take (i:=6) (v:=(.slice (some ⟨w.heap.size,0,none⟩) m 16)) #[true,true,true,true,true,true,false,false] rfl (by kernel_rfl) (by kernel_rfl) (by kernel_rfl) (by kernel_rfl) (fun _ _ _ h=>h) (.inl ⟨by kernel_rfl,fun x_ hu=>by go_simp⟩) hv2 ?_
 simp only [nrm]
 refine any_one (i:=7) (by kernel_rfl) rfl (fun K_ hQ=>?_)
 refine step_callw (by kernel_rfl) 91 #[.pointer (some ⟨g,0,none⟩),.slice (some ⟨w.heap.size,0,none⟩) m 16] (by kernel_rfl) ((pwrite_ok K (L++P) (List.replicate m 0) g _ m 16 _ hC2 (fun v h=>zt_lb (h.blk hz2 hnz) m hm16)).mono ?_)
 rintro r u4 ⟨rfl,hC4,hb⟩
 refine ⟨_,rfl,?_⟩
 have hv4:=hb.blk hv2 hne
 replace bt:=bt.trans hb
 clear hb hC2 hz2 hv2
 have hv2:=hv4
 refine hQ.out _ _ hv2 (fun _=>?_)
 clear hQ K_
 simp only [nrm]
 refine any_done (by kernel_rfl) ?_
 have hC5:Cd K g (L++pd P) u4:=by
  unfold pd
  rw [unhide hPl,← unhide hm,← List.append_assoc]
  exact hC4
 clear hC4 hv2 hv4 hm
 go_end0
 rw [unhide hT]
 exact ⟨rfl,hC5,bt⟩
end Go.Proofs.YthahhglbeafkmaaGreatDoor
namespace Go.Proofs.YthahhglbeafkmaaGreatDoor
open Go.RowKit
set_option maxRecDepth 100000
set_option linter.unusedSimpArgs false
set_option linter.unusedVariables false
theorem nocode {a b c d:Blk} (ha:a.t≠165) (hb:b.t≠165) (hc:c.t≠165) (hd:d.t≠165):∀ x ∈ [a,b,c,d],x.t≠165:=by
 intro x hx
 simp only [List.mem_cons,List.not_mem_nil,or_false] at hx
 rcases hx with rfl | rfl | rfl | rfl <;> assumption
set_option maxHeartbeats 4000000 in
theorem atag_ok (K N:List Int) (hK:K.length=32) (hN:N.length=12) (hKb:IsB K) (hNb:IsB N) (A C:List Int) (s s2:Option Addr) (n n2 cap cap2:Nat) (w:World) (la:Lb w s n cap A) (lc:Lb w s2 n2 cap2 C):Calls Tryz.prog 72 #[.agg (kc K),.agg (kc N),.slice s n cap,.slice s2 n2 cap2] w (Tg (tagL K N A C) w):=by
 obtain ⟨T,hT⟩:∃ T,T=Tg (tagL K N A C) w:=⟨_,rfl⟩
 rw [← hT]
 replace hT:=hide hT
 obtain ⟨SK,hSK⟩:∃ S,S=kc K:=⟨_,rfl⟩
 obtain ⟨SN,hSN⟩:∃ S,S=kc N:=⟨_,rfl⟩
 rw [← hSK,← hSN]
 replace hSK:=hide hSK
 replace hSN:=hide hSN
 have e1:IntKind.u64.wrap (n:Int)=(n:Int):=by have h1:=la.cap; have h2:=la.max; rw [IntKind.wrap_u64]; omega
 have e2:IntKind.u64.wrap (n2:Int)=(n2:Int):=by have h1:=lc.cap; have h2:=lc.max; rw [IntKind.wrap_u64]; omega
 have hAl:=hide la.len
 have hCl:=hide lc.len
 replace hKb:=hide hKb
 replace hNb:=hide hNb
 replace la:=hide la
 replace lc:=hide lc
 go_enter Tryz.func72,Tryz.ntmps72
 go_upto_region 1 with fail
 have hB:=((((Bl.nil w).new SK 23).new SN 64).new #[.int .u8 0,.int .u8 0,.int .u8 0,.int .u8 0,.int .u8 0,.int .u8 0,.int .u8 0,.int .u8 0,.int .u8 0,.int .u8 0,.int .u8 0,.int .u8 0,.int .u8 0,.int .u8 0,.int .u8 0,.int .u8 0] 94)
 simp only [size_alloc,List.nil_append,List.cons_append] at hB
 generalize World.alloc _ _=u at *
 rw [unhide hSK,unhide hSN] at hB
 replace hB:Bl w [⟨w.heap.size,kc K,23⟩,⟨w.heap.size+1,kc N,64⟩,⟨w.heap.size+1+1,kc ZT,94⟩] u:=hB
 refine wp_region_lit ?_
 refine list_val (.agg (kc K)) (by kernel_rfl) (exec_arr _ 23 (.tmp 4) rfl (w.heap.size) (by kernel_rfl) (kc K) 23 _ (hB.get 0 (x:=⟨w.heap.size,kc K,23⟩) rfl) Tryz.underlying23 rfl (by rw [Tryz.infoKey,kc_size,hK])) ?_
 simp only [nrm]
 refine list_val (.agg (kc N)) (by kernel_rfl) (exec_arr _ 64 (.tmp 5) rfl (w.heap.size+1) (by kernel_rfl) (kc N) 64 _ (hB.get 1 (x:=⟨w.heap.size+1,kc N,64⟩) rfl) Tryz.underlying64 rfl (by rw [Tryz.infoN,kc_size,hN])) ?_
 simp only [nrm]
 refine list_call 89 #[.agg (kc K),.agg (kc N)] (by kernel_rfl) (by kernel_rfl) ((once_ok K N hK hN (unhide hKb) (unhide hNb) _).mono ?_)
 rintro r u1 ⟨rfl,hg⟩
 refine ⟨_,rfl,?_⟩
 replace hB:=hB.more hg
 clear hg
 have hTg:Hid (∀ A C,tagL K N A C=mcL (otk K N) (tin A C)):=fun _ _=>rfl
 have hOl:=otk_len K N
 have hOb:=hide (otk_isB K N)
 generalize otk K N=O at *
 simp only [nrm]
 refine list_call 88 #[.agg (kc O)] (by kernel_rfl) (by kernel_rfl) ((pnew_ok O hOl (unhide hOb) _).mono ?_)
 rintro r u2 ⟨gc,rfl,hgc,cd,hg⟩
 refine ⟨_,rfl,?_⟩
 have hgw:w.heap.size≤gc:=Nat.le_trans hB.gr.size hgc
 replace hB:=hB.more hg
 clear hg hgc
 simp only [nrm]
 replace hB:=hide hB
 (refine wpList_step fun K hK=>?_; replace hK:=hide hK; go_simp; refine unhide hK _ _ ?_; clear hK K)
 replace cd:=cd.gr ((Gr.refl u2).alloc (.cells #[.pointer none] 138 (0,0)))
 replace hB:=(unhide hB).new #[.pointer none] 138
 simp only [List.nil_append,List.cons_append] at hB
 generalize World.alloc _ _=u3 at *
 generalize u2.heap.size=h9 at *
 replace hB:Bl w [⟨w.heap.size,kc K,23⟩,⟨w.heap.size+1,kc N,64⟩,⟨w.heap.size+1+1,kc ZT,94⟩,⟨h9,#[.pointer none],138⟩] u3:=hB
 have c4:=cell_of (i:=0) (hB.get 3 (x:=⟨h9,#[.pointer none],138⟩) rfl) rfl
 have fz:=froz_of (i:=0) (hB.get 3 (x:=⟨h9,#[.pointer none],138⟩) rfl)
 have hne:=cd.ne (hB.get 3 (x:=⟨h9,#[.pointer none],138⟩) rfl) (show (138:TypeId)≠165 by decide)
 have hB2:=hB.cell 3 (x:=⟨h9,#[.pointer none],138⟩) rfl 0 (.pointer (some ⟨gc,0,none⟩))
 have hB3:Bl w [⟨w.heap.size,kc K,23⟩,⟨w.heap.size+1,kc N,64⟩,⟨w.heap.size+1+1,kc ZT,94⟩,⟨h9,#[.pointer (some ⟨gc,0,none⟩)],138⟩] _:=hB2
 replace cd:Cd O gc [] (World.setCell u3 ⟨h9,0,none⟩ (.pointer (some ⟨gc,0,none⟩))):=cd.keep (Below.heap_setCell u3 ⟨h9,0,none⟩ _ gc hne.symm)
 clear hB hB2
 dsimp only at c4 fz
 replace hB3:=hide hB3
 replace cd:=hide cd
 (refine wpList_step fun K hK=>?_; replace hK:=hide hK; go_simp; refine unhide hK _ _ ?_; clear hK K)
 clear c4 fz
 generalize World.setCell _ _ _=u4 at *
 have hB:=unhide hB3
 replace cd:=unhide cd
 clear hB3
 refine wpList_nil ?_
 replace hB:=hide hB
 replace cd:=hide cd
 go_upto_region 2 with fail
 replace hB:=unhide hB
 replace cd:=unhide cd
 refine wp_region_lit ?_
 refine list_val (.func (.func 90) #[] #[.pointer (some ⟨h9,0,none⟩)]) (by kernel_rfl) (by kernel_rfl) ?_
 simp only [nrm]
 (refine wpList_step fun K hK=>?_; replace hK:=hide hK; go_simp; refine unhide hK _ _ ?_; clear hK K)
 refine wpList_nil ?_
 replace hB:=hide hB
 replace cd:=hide cd
 go_upto_region 3 with fail
 replace hB:=unhide hB
 replace cd:=unhide cd
 refine wp_region_lit ?_
 refine list_val (.func (.func 90) #[] #[.pointer (some ⟨h9,0,none⟩)]) (by kernel_rfl) (by kernel_rfl) ?_
 simp only [nrm]
 refine list_val (.slice s n cap) (by kernel_rfl) (by kernel_rfl) ?_
 simp only [nrm]
 refine list_call 90 #[.slice s n cap,.pointer (some ⟨h9,0,none⟩)] (by kernel_rfl) (by kernel_rfl) ((fill_ok O [] A gc h9 s n cap _ cd (hB.get 3 (x:=⟨h9,#[.pointer (some ⟨gc,0,none⟩)],138⟩) rfl) (fun v h=>(unhide la).gr (h.gr hB.gr hgw))).mono ?_)
 rintro r u5 ⟨rfl,cd2,hb⟩
 refine ⟨_,rfl,?_⟩
 replace hB:=hB.beside cd hb hgw (nocode (show (23:TypeId)≠165 by decide) (show (64:TypeId)≠165 by decide) (show (94:TypeId)≠165 by decide) (show (138:TypeId)≠165 by decide))
 clear cd hb
 have cd:=cd2
 clear cd2
 simp only [nrm]
 refine wpList_nil ?_
 rw [List.nil_append] at cd
 replace hB:=hide hB
 replace cd:=hide cd
 go_upto_region 4 with fail
 replace hB:=unhide hB
 replace cd:=unhide cd
 refine wp_region_lit ?_
 refine list_val (.func (.func 90) #[] #[.pointer (some ⟨h9,0,none⟩)]) (by kernel_rfl) (by kernel_rfl) ?_
 simp only [nrm]
 refine list_val (.slice s2 n2 cap2) (by kernel_rfl) (by kernel_rfl) ?_
 simp only [nrm]
 refine list_call 90 #[.slice s2 n2 cap2,.pointer (some ⟨h9,0,none⟩)] (by kernel_rfl) (by kernel_rfl) ((fill_ok O (pd A) C gc h9 s2 n2 cap2 _ cd (hB.get 3 (x:=⟨h9,#[.pointer (some ⟨gc,0,none⟩)],138⟩) rfl) (fun v h=>(unhide lc).gr (h.gr hB.gr hgw))).mono ?_)
 rintro r u6 ⟨rfl,cd2,hb⟩
 refine ⟨_,rfl,?_⟩
 replace hB:=hB.beside cd hb hgw (nocode (show (23:TypeId)≠165 by decide) (show (64:TypeId)≠165 by decide) (show (94:TypeId)≠165 by decide) (show (138:TypeId)≠165 by decide))
 clear cd hb
 have cd:=cd2
 clear cd2
 simp only [nrm]
 refine wpList_nil ?_
 replace hB:=hide hB
 replace cd:=hide cd
 go_upto_region 5 with fail
 replace hB:=unhide hB
 replace cd:=unhide cd
 refine any_start (S:=fun v=>Bl w [⟨w.heap.size,kc K,23⟩,⟨w.heap.size+1,kc N,64⟩,⟨w.heap.size+1+1,kc ZT,94⟩,⟨h9,#[.pointer (some ⟨gc,0,none⟩)],138⟩] v) (by kernel_rfl) ?_
 replace hB:=hB.drew
 replace cd:=cd.gr (Gr.refl _).drew
 generalize World.drew _=x0 at *
 simp only [List.size_toArray,List.length_cons,List.length_nil,Array.replicate,List.replicate]
 refine any_take (i:=0) (v:=(.pointer (some ⟨gc,0,none⟩))) #[false,false,false,false,false,false,false,false,false,false] rfl (by kernel_rfl) (by kernel_rfl) (by kernel_rfl) (by kernel_rfl) (fun _ _ _ h=>h) (.inl ⟨by kernel_rfl,fun x_ hu=>exec_ptr _ (.tmp 9) rfl h9 0 (by kernel_rfl) (some ⟨gc,0,none⟩) (cell_of (hu.get 3 (x:=⟨h9,#[.pointer (some ⟨gc,0,none⟩)],138⟩) rfl) rfl)⟩) hB ?_
 simp only [nrm]
 refine any_take (i:=1) (v:=(.slice s n cap)) #[true,false,false,false,false,false,false,false,false,false] rfl (by kernel_rfl) (by kernel_rfl) (by kernel_rfl) (by kernel_rfl) (fun _ _ _ h=>h) (.inl ⟨by kernel_rfl,fun x_ hu=>by kernel_rfl⟩) hB ?_
 simp only [nrm]
 refine any_take (i:=2) (v:=(.int .i64 n)) #[true,true,false,false,false,false,false,false,false,false] rfl (by kernel_rfl) (by kernel_rfl) (by kernel_rfl) (by kernel_rfl) (fun _ _ _ h=>h) (.inl ⟨by kernel_rfl,fun x_ hu=>by kernel_rfl⟩) hB ?_
 simp only [nrm]
 refine any_take (i:=3) (v:=(.int .u64 n)) #[true,true,true,false,false,false,false,false,false,false] rfl (by kernel_rfl) (by kernel_rfl) (by kernel_rfl) (by kernel_rfl) (fun _ _ _ h=>h) (.inl ⟨by kernel_rfl,fun x_ hu=>by go_simp⟩) hB ?_
 simp only [nrm]
 refine any_take (i:=5) (v:=(.slice s2 n2 cap2)) #[true,true,true,true,false,false,false,false,false,false] rfl (by kernel_rfl) (by kernel_rfl) (by kernel_rfl) (by kernel_rfl) (fun _ _ _ h=>h) (.inl ⟨by kernel_rfl,fun x_ hu=>by kernel_rfl⟩) hB ?_
 simp only [nrm]
 refine any_take (i:=6) (v:=(.int .i64 n2)) #[true,true,true,true,false,true,false,false,false,false] rfl (by kernel_rfl) (by kernel_rfl) (by kernel_rfl) (by kernel_rfl) (fun _ _ _ h=>h) (.inl ⟨by kernel_rfl,fun x_ hu=>by kernel_rfl⟩) hB ?_
 simp only [nrm]
 refine any_take (i:=7) (v:=(.int .u64 n2)) #[true,true,true,true,false,true,true,false,false,false] rfl (by kernel_rfl) (by kernel_rfl) (by kernel_rfl) (by kernel_rfl) (fun _ _ _ h=>h) (.inl ⟨by kernel_rfl,fun x_ hu=>by go_simp⟩) hB ?_
 simp only [nrm]
 refine any_one (i:=4) (by kernel_rfl) rfl (fun K_ hQ=>?_)
 refine step_callw (by kernel_rfl) 69 #[.slice none 0 0,.int .u64 n] (by kernel_rfl) ((put64_ok [] none 0 0 n (by omega) (by omega) _ (Lb.nil0 _)).mono ?_)
 rintro r v1 ⟨ga,rfl,hga,ha,hg⟩
 refine ⟨_,rfl,?_⟩
 replace hB:=hB.more hg
 replace cd:=cd.gr hg
 rw [List.nil_append] at ha
 have l1:Lb v1 (some ⟨ga,0,none⟩) 8 8 (lowL (n:Int) 8):=kc_lb ha (lowL_len _ _) (lowL_isB _ _) (by omega)
 clear hg ha hga
 rw [List.nil_append,lowL_len]
 refine hQ.out _ _ hB (fun _=>?_)
 clear hQ K_
 simp only [nrm]
 refine any_one (i:=8) (by kernel_rfl) rfl (fun K_ hQ=>?_)
 refine step_callw (by kernel_rfl) 69 #[.slice (some ⟨ga,0,none⟩) 8 8,.int .u64 n2] (by kernel_rfl) ((put64_ok (lowL (n:Int) 8) _ 8 8 n2 (by omega) (by omega) _ l1).mono ?_)
 rintro r v2 ⟨gb,rfl,hgb,hb,hg⟩
 refine ⟨_,rfl,?_⟩
 replace hB:=hB.more hg
 replace cd:=cd.gr hg
 have l2:Lb v2 (some ⟨gb,0,none⟩) 16 16 (lowL (n:Int) 8++lowL (n2:Int) 8):=kc_lb hb (by rw [List.length_append,lowL_len,lowL_len]) ((lowL_isB _ _).append (lowL_isB _ _)) (by omega)
 have hnb:=cd.ne hb (by decide)
 clear hg l1 hgb
 rw [List.length_append,lowL_len,lowL_len]
 refine hQ.out _ _ hB (fun _=>?_)
 clear hQ K_
 simp only [nrm]
 refine any_one (i:=9) (by kernel_rfl) rfl (fun K_ hQ=>?_)
 refine step_callw (by kernel_rfl) 91 #[.pointer (some ⟨gc,0,none⟩),.slice (some ⟨gb,0,none⟩) 16 16] (by kernel_rfl) ((pwrite_ok O (pd A++pd C) (lowL (n:Int) 8++lowL (n2:Int) 8) gc _ 16 16 _ cd (fun v h=>kc_lb (h.blk hb hnb) (by rw [List.length_append,lowL_len,lowL_len]) ((lowL_isB _ _).append (lowL_isB _ _)) (by omega))).mono ?_)
 rintro r v3 ⟨rfl,cd2,hbt⟩
 refine ⟨_,rfl,?_⟩
 replace hB:=hB.beside cd hbt hgw (nocode (show (23:TypeId)≠165 by decide) (show (64:TypeId)≠165 by decide) (show (94:TypeId)≠165 by decide) (show (138:TypeId)≠165 by decide))
 clear hbt cd l2 hb hnb
 refine hQ.out _ _ hB (fun _=>?_)
 clear hQ K_
 simp only [nrm]
 refine any_done (by kernel_rfl) ?_
 have hXt:=unhide hTg A C
 unfold tin at hXt
 rw [unhide hAl,unhide hCl] at hXt
 replace hXt:=hide hXt
 replace hB:=hide hB
 replace cd2:=hide cd2
 go_upto_region 6 with fail
 replace hB:=unhide hB
 replace cd2:=unhide cd2
 refine wp_region_lit ?_
 refine list_val (.pointer (some ⟨gc,0,none⟩)) (by kernel_rfl) (exec_ptr _ (.tmp 9) rfl h9 0 (by kernel_rfl) (some ⟨gc,0,none⟩) (cell_of (hB.get 3 (x:=⟨h9,#[.pointer (some ⟨gc,0,none⟩)],138⟩) rfl) rfl)) ?_
 simp only [nrm]
 refine list_call 92 #[.pointer (some ⟨gc,0,none⟩)] (by kernel_rfl) (by kernel_rfl) ((ctag_ok O _ gc _ cd2).mono ?_)
 rintro r v4 ⟨rfl,hg⟩
 refine ⟨_,rfl,?_⟩
 replace hB:=hB.more hg
 clear hg cd2
 rw [← unhide hXt]
 have hXl:=tagL_len K N A C
 clear hXt
 generalize tagL K N A C=X at *
 simp only [nrm]
 refine list_store 94 (.tmp 8) (.tmp 33) (w.heap.size+1+1) (kc X) 94 (kc ZT) (by kernel_rfl) rfl (by kernel_rfl) (by kernel_rfl) (hB.get 2 (x:=⟨w.heap.size+1+1,kc ZT,94⟩) rfl) (by rw [Tryz.infoT,kc_size,hXl]) ((show (kc ZT).size=16 from rfl).trans ((kc_size _).trans hXl).symm) (kc_one _) ?_
 replace hB:=hB.set 2 (x:=⟨w.heap.size+1+1,kc ZT,94⟩) rfl (kc X)
 simp only [List.set_cons_zero,List.set_cons_succ] at hB
 generalize World.setRow _ _ _=v5 at *
 simp only [nrm]
 refine wpList_nil ?_
 replace hB:=hide hB
 go_wp2_with fail
 replace hB:=unhide hB
 rw [unhide hT]
 exact bodyPost_ret (v:=.agg (kc X)) (results_cell_row Tryz.results72 _ _ (w.heap.size+1+1) 94 (kc X) (0,0) _ rfl (hB.get 2 (x:=⟨w.heap.size+1+1,kc X,94⟩) rfl) Tryz.underlying94 rfl (by rw [Tryz.infoT,kc_size,hXl])) rfl (⟨rfl,hB.gr⟩)
end Go.Proofs.YthahhglbeafkmaaGreatDoor
namespace Go.Proofs.YthahhglbeafkmaaGreatDoor
open Go.RowKit
set_option maxRecDepth 100000
set_option linter.unusedSimpArgs false
set_option linter.unusedVariables false
def Obd (L:List Int) (w:World) (r:Ending) (w':World):Prop:=∃ v,r=.returned v∧Ob w.heap.size w' v L∧Gr w w'
theorem lay_cnt (n:Int):lay ZN 4 (lowL n 8)=cntL n:=by
 unfold lay cntL ZN
 rw [lowL_len,List.drop_of_length_le (by simp),List.append_nil]
 rfl
set_option maxHeartbeats 4000000 in
theorem seal_ok (K N:List Int) (hK:K.length=32) (hN:N.length=12) (hKb:IsB K) (hNb:IsB N) (A P:List Int) (s s2:Option Addr) (n n2 cap cap2:Nat) (hbig:n2≤20000) (w:World) (la:Lb w s n cap A) (lp:Lb w s2 n2 cap2 P):Calls Tryz.prog 45 #[.agg (kc K),.agg (kc N),.slice s n cap,.slice s2 n2 cap2] w (Obd (sealL K N A P) w):=by
 obtain ⟨T,hT⟩:∃ T,T=Obd (sealL K N A P) w:=⟨_,rfl⟩
 rw [← hT]
 replace hT:=hide hT
 obtain ⟨SK,hSK⟩:∃ S,S=kc K:=⟨_,rfl⟩
 obtain ⟨SN,hSN⟩:∃ S,S=kc N:=⟨_,rfl⟩
 rw [← hSK,← hSN]
 replace hSK:=hide hSK
 replace hSN:=hide hSN
 have hPl:=hide lp.len
 replace hKb:=hide hKb
 replace hNb:=hide hNb
 replace la:=hide la
 replace lp:=hide lp
 go_enter Tryz.func45,Tryz.ntmps45
 go_upto_region 1 with fail
 have hB:=(((Bl.nil w).new SK 23).new SN 64)
 simp only [size_alloc,List.nil_append,List.cons_append] at hB
 generalize World.alloc _ _=u at *
 rw [unhide hSK,unhide hSN] at hB
 replace hB:Bl w [⟨w.heap.size,kc K,23⟩,⟨w.heap.size+1,kc N,64⟩] u:=hB
 refine wp_region_lit ?_
 refine list_val (.agg (kc K)) (by kernel_rfl) (exec_arr _ 23 (.tmp 4) rfl (w.heap.size) (by kernel_rfl) (kc K) 23 _ (hB.get 0 (x:=⟨w.heap.size,kc K,23⟩) rfl) Tryz.underlying23 rfl (by rw [Tryz.infoKey,kc_size,hK])) ?_
 simp only [nrm]
 refine list_val (.agg (kc N)) (by kernel_rfl) (exec_arr _ 64 (.tmp 5) rfl (w.heap.size+1) (by kernel_rfl) (kc N) 64 _ (hB.get 1 (x:=⟨w.heap.size+1,kc N,64⟩) rfl) Tryz.underlying64 rfl (by rw [Tryz.infoN,kc_size,hN])) ?_
 simp only [nrm]
 refine list_val (.slice s2 n2 cap2) (by kernel_rfl) (by kernel_rfl) ?_
 simp only [nrm]
 have hgw:=hB.gr.size
 refine list_call 71 #[.agg (kc K),.int .u32 1,.agg (kc N),.slice s2 n2 cap2] (by kernel_rfl) (by kernel_rfl) ((xor_ok K N hK hN (unhide hKb) (unhide hNb) 1 ⟨by decide,by decide⟩ P _ n2 cap2 (by omega) _ ((unhide lp).gr hB.gr)).mono ?_)
 rintro r u1 ⟨gx,rfl,hgx,hx,hg⟩
 refine ⟨_,rfl,?_⟩
 replace hB:=hB.more hg
 have hXl:Hid ((xl K N 1 P).length=n2):=by rw [xl_len]; exact unhide hPl
 have hXb:=hide (xl_isB K N 1 P)
 have hSe:Hid (sealL K N A P=xl K N 1 P++tagL K N A (xl K N 1 P)):=rfl
 generalize xl K N 1 P=X at *
 have ob:Ob w.heap.size u1 (.slice (some ⟨gx,0,none⟩) n2 n2) X:=ob_of hx (unhide hXl) (Nat.le_trans hgw hgx) (by omega)
 rw [unhide hPl]
 have lx:Lb u1 (some ⟨gx,0,none⟩) n2 n2 X:=kc_lb hx (unhide hXl) (unhide hXb) (by omega)
 clear hg hx hgx hgw
 simp only [nrm]
 (refine wpList_step fun K hK=>?_; replace hK:=hide hK; go_simp; refine unhide hK _ _ ?_; clear hK K)
 refine wpList_nil ?_
 replace hB:=hide hB
 replace ob:=hide ob
 replace lx:=hide lx
 go_upto_region 2 with fail
 replace hB:=unhide hB
 replace ob:=unhide ob
 replace lx:=unhide lx
 refine wp_region_lit ?_
 refine list_val (.agg (kc K)) (by kernel_rfl) (exec_arr _ 23 (.tmp 4) rfl (w.heap.size) (by kernel_rfl) (kc K) 23 _ (hB.get 0 (x:=⟨w.heap.size,kc K,23⟩) rfl) Tryz.underlying23 rfl (by rw [Tryz.infoKey,kc_size,hK])) ?_
 simp only [nrm]
 refine list_val (.agg (kc N)) (by kernel_rfl) (exec_arr _ 64 (.tmp 5) rfl (w.heap.size+1) (by kernel_rfl) (kc N) 64 _ (hB.get 1 (x:=⟨w.heap.size+1,kc N,64⟩) rfl) Tryz.underlying64 rfl (by rw [Tryz.infoN,kc_size,hN])) ?_
 simp only [nrm]
 refine list_val (.slice s n cap) (by kernel_rfl) (by kernel_rfl) ?_
 simp only [nrm]
 refine list_val (.slice (some ⟨gx,0,none⟩) n2 n2) (by kernel_rfl) (by kernel_rfl) ?_
 simp only [nrm]
 refine list_call 72 #[.agg (kc K),.agg (kc N),.slice s n cap,.slice (some ⟨gx,0,none⟩) n2 n2] (by kernel_rfl) (by kernel_rfl) ((atag_ok K N hK hN (unhide hKb) (unhide hNb) A X s (some ⟨gx,0,none⟩) n n2 cap n2 _ ((unhide la).gr hB.gr) lx).mono ?_)
 rintro r u2 ⟨rfl,hg⟩
 refine ⟨_,rfl,?_⟩
 replace hB:=hB.more hg
 replace ob:=ob.gr hg
 clear hg lx
 have hYl:=tagL_len K N A X
 generalize tagL K N A X=Y at *
 simp only [nrm]
 replace hB:=hide hB
 (refine wpList_step fun K hK=>?_; replace hK:=hide hK; go_simp; refine unhide hK _ _ ?_; clear hK K)
 replace ob:=ob.gr ((Gr.refl u2).alloc (.cells #[.int .u8 0,.int .u8 0,.int .u8 0,.int .u8 0,.int .u8 0,.int .u8 0,.int .u8 0,.int .u8 0,.int .u8 0,.int .u8 0,.int .u8 0,.int .u8 0,.int .u8 0,.int .u8 0,.int .u8 0,.int .u8 0] 94 (0,0)))
 replace hB:=(unhide hB).new #[.int .u8 0,.int .u8 0,.int .u8 0,.int .u8 0,.int .u8 0,.int .u8 0,.int .u8 0,.int .u8 0,.int .u8 0,.int .u8 0,.int .u8 0,.int .u8 0,.int .u8 0,.int .u8 0,.int .u8 0,.int .u8 0] 94
 simp only [List.nil_append,List.cons_append] at hB
 generalize World.alloc _ _=u3 at *
 generalize u2.heap.size=h10 at *
 replace hB:Bl w [⟨w.heap.size,kc K,23⟩,⟨w.heap.size+1,kc N,64⟩,⟨h10,kc ZT,94⟩] u3:=hB
 have ob2:=ob.other (hB.get 2 (x:=⟨h10,kc ZT,94⟩) rfl) (show (94:TypeId)≠5 by decide) (kc Y)
 clear ob
 refine list_store 94 (.tmp 10) (.tmp 19) (h10) (kc Y) 94 (kc ZT) (by kernel_rfl) rfl (by kernel_rfl) (by kernel_rfl) (hB.get 2 (x:=⟨h10,kc ZT,94⟩) rfl) (by rw [Tryz.infoT,kc_size,hYl]) ((show (kc ZT).size=16 from rfl).trans ((kc_size _).trans hYl).symm) (kc_one _) ?_
 replace hB:=hB.set 2 (x:=⟨h10,kc ZT,94⟩) rfl (kc Y)
 simp only [List.set_cons_zero,List.set_cons_succ] at hB
 generalize World.setRow _ _ _=u4 at *
 simp only [nrm]
 refine wpList_nil ?_
 replace hB:=hide hB
 replace ob2:=hide ob2
 go_upto_region 3 with fail
 replace hB:=unhide hB
 replace ob2:=unhide ob2
 refine wp_region_lit ?_
 refine list_val (.slice (some ⟨gx,0,none⟩) n2 n2) (by kernel_rfl) (by kernel_rfl) ?_
 simp only [nrm]
 refine list_val (.slice (some ⟨h10,0,none⟩) 16 16) (by kernel_rfl) (by kernel_rfl) ?_
 simp only [nrm]
 refine app_bs (by kernel_rfl) (.tmp 20) (.tmp 21) rfl w.heap.size _ X rfl ob2 (some ⟨h10,0,none⟩) 16 16 Y rfl hYl (.inr ⟨h10,0,rfl,kc_at (hB.get 2 (x:=⟨h10,kc Y,94⟩) rfl)⟩) (by rw [unhide hXl]; omega) hB.gr.size ?_
 intro v2 u5 ob5 hgr
 simp only [nrm]
 have hG:=Ob.grown ob2 (Nat.le_refl _) hB.gr hgr
 rw [← unhide hSe] at ob5
 clear hgr ob2 hB
 (refine wpList_step fun K hK=>?_; replace hK:=hide hK; go_simp; refine unhide hK _ _ ?_; clear hK K)
 refine wpList_nil ?_
 have hP:Hid (Obd (sealL K N A P) w (.returned v2) u5):=⟨v2,rfl,ob5,hG⟩
 clear ob5 hG
 go_wp2_with fail
 rw [unhide hT]
 exact unhide hP
set_option maxHeartbeats 4000000 in
theorem count_ok (n:Int) (hn:0≤n) (w:World):Calls Tryz.prog 42 #[.int .u64 n] w (Tg (cntL n) w):=by
 obtain ⟨T,hT⟩:∃ T,T=Tg (cntL n) w:=⟨_,rfl⟩
 rw [← hT]
 replace hT:=hide hT
 go_enter Tryz.func42,Tryz.ntmps42
 go_upto_region 2 with fail
 have hB:=(((Bl.nil w).new #[.int .u8 0,.int .u8 0,.int .u8 0,.int .u8 0,.int .u8 0,.int .u8 0,.int .u8 0,.int .u8 0,.int .u8 0,.int .u8 0,.int .u8 0,.int .u8 0] 64).new #[.int .u8 0,.int .u8 0,.int .u8 0,.int .u8 0,.int .u8 0,.int .u8 0,.int .u8 0,.int .u8 0,.int .u8 0,.int .u8 0,.int .u8 0,.int .u8 0] 64)
 simp only [size_alloc,List.nil_append,List.cons_append] at hB
 generalize World.alloc _ _=u at *
 replace hB:Bl w [⟨w.heap.size,kc ZN,64⟩,⟨w.heap.size+1,kc ZN,64⟩] u:=hB
 refine any_start (S:=fun _=>True) (by kernel_rfl) ?_
 replace hB:=hB.drew
 generalize World.drew _=x0 at *
 simp only [List.size_toArray,List.length_cons,List.length_nil,Array.replicate,List.replicate]
 refine any_take (i:=0) (v:=(.slice (some ⟨w.heap.size+1,4,none⟩) 8 8)) #[false,false,false,false] rfl (by kernel_rfl) (by kernel_rfl) (by kernel_rfl) (by kernel_rfl) (fun _ _ _ h=>h) (.inl ⟨by kernel_rfl,fun x_ hu=>by kernel_rfl⟩) trivial ?_
 simp only [nrm]
 refine any_take (i:=1) (v:=(.int .u64 n)) #[true,false,false,false] rfl (by kernel_rfl) (by kernel_rfl) (by kernel_rfl) (by kernel_rfl) (fun _ _ _ h=>h) (.inl ⟨by kernel_rfl,fun x_ hu=>by kernel_rfl⟩) trivial ?_
 simp only [nrm]
 refine any_one (i:=2) (by kernel_rfl) rfl (fun K hK=>?_)
 refine step_callw (by kernel_rfl) 69 #[.slice none 0 0,.int .u64 n] (by kernel_rfl) ((put64_ok [] none 0 0 n hn (by omega) _ (Lb.nil0 _)).mono ?_)
 rintro r x1 ⟨gp,rfl,hgp,hp,hg⟩
 refine ⟨_,rfl,?_⟩
 replace hB:=hB.more hg
 rw [List.nil_append] at hp
 rw [List.nil_append,lowL_len]
 clear hg hgp
 refine hK.out _ _ trivial (fun _=>?_)
 clear hK K
 simp only [nrm]
 refine any_one (i:=3) (by kernel_rfl) rfl (fun K hK=>?_)
 rw [if_pos (by kernel_rfl)]
 refine copy_wp (.tmp 4) (.tmp 6) rfl (w.heap.size+1) 4 8 8 (some ⟨gp,0,none⟩) 8 8 (by kernel_rfl) (by kernel_rfl) (ZN.map (Value.int .u8)) 64 (hB.get 1 (x:=⟨w.heap.size+1,kc ZN,64⟩) rfl) (lowL n 8) (by rw [lowL_len]; rfl) (.inr ⟨gp,0,rfl,kc_at hp⟩) (by rw [lowL_len]; exact Nat.le_refl _) ?_
 have hcell:=laid (S:=lowL n 8) (o:=4) (hB.get 1 (x:=⟨w.heap.size+1,kc ZN,64⟩) rfl) (by rw [lowL_len]; exact Nat.le_refl _)
 rw [lay_cnt n] at hcell
 have hB2:=hB.but (setCells_bt ((lowL n 8).map (Value.int .u8)) x1 (w.heap.size+1) 4) 1 (x:=⟨w.heap.size+1,kc ZN,64⟩) rfl rfl hcell
 simp only [List.set_cons_zero,List.set_cons_succ] at hB2
 clear hcell hB
 generalize World.setCells _ _ _ _=x2 at *
 refine hK.out _ _ trivial (fun _=>?_)
 clear hK K
 simp only [nrm]
 refine any_done (by kernel_rfl) ?_
 rw [lowL_len]
 replace hB2:=hide hB2
 go_upto_region 3 with fail
 have hB:=unhide hB2
 clear hB2
 have hXl:=cntL_len n
 generalize cntL n=X at *
 refine wp_region_lit ?_
 refine list_val (.agg (kc X)) (by kernel_rfl) (exec_arr _ 64 (.tmp 3) rfl (w.heap.size+1) (by kernel_rfl) (kc X) 64 _ (hB.get 1 (x:=⟨w.heap.size+1,kc X,64⟩) rfl) Tryz.underlying64 rfl (by rw [Tryz.infoN,kc_size,hXl])) ?_
 simp only [nrm]
 refine list_store 64 (.tmp 2) (.tmp 8) (w.heap.size) (kc X) 64 (kc ZN) (by kernel_rfl) rfl (by kernel_rfl) (by kernel_rfl) (hB.get 0 (x:=⟨w.heap.size,kc ZN,64⟩) rfl) (by rw [Tryz.infoN,kc_size,hXl]) ((show (kc ZN).size=12 from rfl).trans ((kc_size _).trans hXl).symm) (kc_one _) ?_
 replace hB:=hB.set 0 (x:=⟨w.heap.size,kc ZN,64⟩) rfl (kc X)
 simp only [List.set_cons_zero,List.set_cons_succ] at hB
 generalize World.setRow _ _ _=x3 at *
 simp only [nrm]
 refine wpList_nil ?_
 replace hB:=hide hB
 go_wp2_with fail
 replace hB:=unhide hB
 rw [unhide hT]
 exact bodyPost_ret (v:=.agg (kc X)) (results_cell_row Tryz.results42 _ _ (w.heap.size) 64 (kc X) (0,0) _ rfl (hB.get 0 (x:=⟨w.heap.size,kc X,64⟩) rfl) Tryz.underlying64 rfl (by rw [Tryz.infoN,kc_size,hXl])) rfl (⟨rfl,hB.gr⟩)
def Opd (P:List Int) (w:World) (r:Ending) (w':World):Prop:=∃ g,r=.returned (.tuple #[.slice (some ⟨g,0,none⟩) P.length P.length,.int .i64 0])∧w.heap.size≤g∧w'.heap[g]?=some (.cells (kc P) 5 (0,0))∧Gr w w'
theorem seal_take (K N A P:List Int):(sealL K N A P).take P.length=xl K N 1 P:=by
 unfold sealL
 rw [List.take_append_of_le_length (by rw [xl_len]; exact Nat.le_refl _),List.take_of_length_le (by rw [xl_len]; exact Nat.le_refl _)]
theorem seal_drop (K N A P:List Int):(sealL K N A P).drop P.length=tagL K N A (xl K N 1 P):=by
 unfold sealL
 rw [List.drop_append_of_le_length (by rw [xl_len]; exact Nat.le_refl _),List.drop_of_length_le (by rw [xl_len]; exact Nat.le_refl _),List.nil_append]
set_option maxHeartbeats 4000000 in
theorem open_yes (K N:List Int) (hK:K.length=32) (hN:N.length=12) (hKb:IsB K) (hNb:IsB N) (A P:List Int) (hPb:IsB P) (s s2:Option Addr) (n n2 cap cap2:Nat) (hbig:n2≤20000) (w:World) (la:Lb w s n cap A) (ls:Lb w s2 n2 cap2 (sealL K N A P)):Calls Tryz.prog 51 #[.agg (kc K),.agg (kc N),.slice s n cap,.slice s2 n2 cap2] w (Opd P w):=by
 obtain ⟨T,hT⟩:∃ T,T=Opd P w:=⟨_,rfl⟩
 rw [← hT]
 replace hT:=hide hT
 have hl:=ls.len
 rw [sealL_len] at hl
 obtain ⟨m,hm⟩:∃ m,m=P.length:=⟨_,rfl⟩
 have hm16:n2=m+16:=by omega
 have hSt:=seal_take K N A P
 have hSd:=seal_drop K N A P
 have hxx:=xl_twice K N 1 P hPb
 rw [← hm] at hSt hSd
 generalize sealL K N A P=S at *
 obtain ⟨C,hC⟩:∃ C,C=xl K N 1 P:=⟨_,rfl⟩
 rw [← hC] at hSt hSd hxx
 have hCl:C.length=m:=by rw [hC,xl_len,hm]
 obtain ⟨Y,hY⟩:∃ Y,Y=tagL K N A C:=⟨_,rfl⟩
 have hYl:Y.length=16:=by rw [hY,tagL_len]
 rw [← hY] at hSd
 clear hC
 replace hPb:=hide hPb; replace hm:=hide hm; replace hxx:=hide hxx; replace hY:=hide hY
 have hcap:=ls.cap
 obtain ⟨c4,hc4⟩:∃ c,c=cap2 - m:=⟨_,rfl⟩
 obtain ⟨s3,hs3⟩:∃ x,x=if cap2=0 then s2 else s2.map (·.add 0):=⟨_,rfl⟩
 obtain ⟨s4,hs4⟩:∃ x,x=if cap2=m then s2 else s2.map (·.add m):=⟨_,rfl⟩
 have e16:n2 - m=16:=by omega
 have l3:Lb w s3 m cap2 C:=by
  have h:=ls.upto m (by omega)
  rw [hSt,← hs3] at h
  exact h
 have l4:Lb w s4 16 c4 Y:=by
  have h:=ls.rest m (by omega)
  rw [hSd,← hs4,← hc4,e16] at h
  exact h
 have hle:m≤n2:=by omega
 have i1:¬ (n2:Int)<16:=by omega
 have i2:(n2:Int) - 16=(m:Int):=by omega
 have i3:IntKind.i64.wrap (m:Int)=(m:Int):=by rw [IntKind.wrap_i64]; omega
 have i4:¬ n2<16:=by omega
 replace hc4:=hide hc4; replace hs3:=hide hs3; replace hs4:=hide hs4; replace e16:=hide e16; replace l3:=hide l3; replace l4:=hide l4; replace hm16:=hide hm16; replace hCl:=hide hCl
 clear ls hSt hSd
 obtain ⟨SK,hSK⟩:∃ S,S=kc K:=⟨_,rfl⟩
 obtain ⟨SN,hSN⟩:∃ S,S=kc N:=⟨_,rfl⟩
 rw [← hSK,← hSN]
 replace hSK:=hide hSK
 replace hSN:=hide hSN
 replace hKb:=hide hKb
 replace hNb:=hide hNb
 replace la:=hide la
 go_enter Tryz.func51,Tryz.ntmps51
 go_upto_region 3 with fail
 have hB:=(((Bl.nil w).new SK 23).new SN 64)
 simp only [size_alloc,List.nil_append,List.cons_append] at hB
 generalize World.alloc _ _=u at *
 rw [unhide hSK,unhide hSN] at hB
 replace hB:Bl w [⟨w.heap.size,kc K,23⟩,⟨w.heap.size+1,kc N,64⟩] u:=hB
 refine wp_region_lit ?_
 refine list_val (.slice s2 n2 cap2) (by kernel_rfl) (by kernel_rfl) ?_
 simp only [nrm]
 refine list_val (.int .i64 n2) (by kernel_rfl) (by kernel_rfl) ?_
 simp only [nrm]
 refine list_val (.int .i64 m) (by kernel_rfl) (by go_simp) ?_
 simp only [nrm]
 (refine wpList_step fun K hK=>?_; replace hK:=hide hK; go_simp; refine unhide hK _ _ ?_; clear hK K)
 refine wpList_nil ?_
 replace hB:=hide hB
 go_upto_region 4 with fail
 replace hB:=unhide hB
 refine any_start (S:=fun _=>True) (by kernel_rfl) ?_
 replace hB:=hB.drew
 generalize World.drew _=x0 at *
 simp only [List.size_toArray,List.length_cons,List.length_nil,Array.replicate,List.replicate]
 refine any_take (i:=0) (v:=(.slice s2 n2 cap2)) #[false,false,false,false,false,false,false,false] rfl (by kernel_rfl) (by kernel_rfl) (by kernel_rfl) (by kernel_rfl) (fun _ _ _ h=>h) (.inl ⟨by kernel_rfl,fun x_ hu=>by kernel_rfl⟩) trivial ?_
 simp only [nrm]
 refine any_take (i:=1) (v:=(.int .i64 m)) #[true,false,false,false,false,false,false,false] rfl (by kernel_rfl) (by kernel_rfl) (by kernel_rfl) (by kernel_rfl) (fun _ _ _ h=>h) (.inl ⟨by kernel_rfl,fun x_ hu=>by kernel_rfl⟩) trivial ?_
 simp only [nrm]
 refine any_take (i:=2) (v:=(.slice s3 m cap2)) #[true,true,false,false,false,false,false,false] rfl (by kernel_rfl) (by kernel_rfl) (by kernel_rfl) (by kernel_rfl) (fun _ _ _ h=>h) (.inl ⟨by kernel_rfl,fun x_ hu=>by rw [unhide hs3]; exact exec_upto _ (.tmp 20) (.tmp 21) rfl s2 n2 cap2 m rfl rfl hcap hle⟩) trivial ?_
 simp only [nrm]
 refine any_take (i:=3) (v:=(.slice s2 n2 cap2)) #[true,true,true,false,false,false,false,false] rfl (by kernel_rfl) (by kernel_rfl) (by kernel_rfl) (by kernel_rfl) (fun _ _ _ h=>h) (.inl ⟨by kernel_rfl,fun x_ hu=>by kernel_rfl⟩) trivial ?_
 simp only [nrm]
 refine any_take (i:=4) (v:=(.int .i64 m)) #[true,true,true,true,false,false,false,false] rfl (by kernel_rfl) (by kernel_rfl) (by kernel_rfl) (by kernel_rfl) (fun _ _ _ h=>h) (.inl ⟨by kernel_rfl,fun x_ hu=>by kernel_rfl⟩) trivial ?_
 simp only [nrm]
 refine any_take (i:=5) (v:=(.slice s4 16 c4)) #[true,true,true,true,true,false,false,false] rfl (by kernel_rfl) (by kernel_rfl) (by kernel_rfl) (by kernel_rfl) (fun _ _ _ h=>h) (.inl ⟨by kernel_rfl,fun x_ hu=>by rw [unhide hs4,unhide hc4,← unhide e16]; exact exec_from _ (.tmp 23) (.tmp 24) rfl s2 n2 cap2 m rfl rfl hcap hle⟩) trivial ?_
 simp only [nrm]
 refine any_one (i:=6) (by kernel_rfl) rfl (fun K_ hQ=>?_)
 replace hQ:=hide hQ
 go_simp
 refine (unhide hQ).out _ _ trivial (fun _=>?_)
 clear hQ K_
 refine any_one (i:=7) (by kernel_rfl) rfl (fun K_ hQ=>?_)
 replace hQ:=hide hQ
 go_simp
 refine (unhide hQ).out _ _ trivial (fun _=>?_)
 clear hQ K_
 refine any_done (by kernel_rfl) ?_
 replace hB:=hide hB
 go_upto_region 5 with fail
 replace hB:=unhide hB
 refine wp_region_lit ?_
 refine list_val (.agg (kc K)) (by kernel_rfl) (exec_arr _ 23 (.tmp 4) rfl (w.heap.size) (by kernel_rfl) (kc K) 23 _ (hB.get 0 (x:=⟨w.heap.size,kc K,23⟩) rfl) Tryz.underlying23 rfl (by rw [Tryz.infoKey,kc_size,hK])) ?_
 simp only [nrm]
 refine list_val (.agg (kc N)) (by kernel_rfl) (exec_arr _ 64 (.tmp 5) rfl (w.heap.size+1) (by kernel_rfl) (kc N) 64 _ (hB.get 1 (x:=⟨w.heap.size+1,kc N,64⟩) rfl) Tryz.underlying64 rfl (by rw [Tryz.infoN,kc_size,hN])) ?_
 simp only [nrm]
 refine list_val (.slice s n cap) (by kernel_rfl) (by kernel_rfl) ?_
 simp only [nrm]
 refine list_val (.slice s3 m cap2) (by kernel_rfl) (by kernel_rfl) ?_
 simp only [nrm]
 refine list_call 72 #[.agg (kc K),.agg (kc N),.slice s n cap,.slice s3 m cap2] (by kernel_rfl) (by kernel_rfl) ((atag_ok K N hK hN (unhide hKb) (unhide hNb) A C s s3 n m cap cap2 _ ((unhide la).gr hB.gr) ((unhide l3).gr hB.gr)).mono ?_)
 rintro r u2 ⟨rfl,hg⟩
 refine ⟨_,rfl,?_⟩
 replace hB:=hB.more hg
 rw [← unhide hY]
 clear hg
 simp only [nrm]
 replace hB:=hide hB
 (refine wpList_step fun K hK=>?_; replace hK:=hide hK; go_simp; refine unhide hK _ _ ?_; clear hK K)
 replace hB:=(unhide hB).new #[.int .u8 0,.int .u8 0,.int .u8 0,.int .u8 0,.int .u8 0,.int .u8 0,.int .u8 0,.int .u8 0,.int .u8 0,.int .u8 0,.int .u8 0,.int .u8 0,.int .u8 0,.int .u8 0,.int .u8 0,.int .u8 0] 94
 simp only [List.nil_append,List.cons_append] at hB
 generalize World.alloc _ _=u3 at *
 generalize u2.heap.size=h10 at *
 replace hB:Bl w [⟨w.heap.size,kc K,23⟩,⟨w.heap.size+1,kc N,64⟩,⟨h10,kc ZT,94⟩] u3:=hB
 refine list_store 94 (.tmp 13) (.tmp 30) (h10) (kc Y) 94 (kc ZT) (by kernel_rfl) rfl (by kernel_rfl) (by kernel_rfl) (hB.get 2 (x:=⟨h10,kc ZT,94⟩) rfl) (by rw [Tryz.infoT,kc_size,hYl]) ((show (kc ZT).size=16 from rfl).trans ((kc_size _).trans hYl).symm) (kc_one _) ?_
 replace hB:=hB.set 2 (x:=⟨h10,kc ZT,94⟩) rfl (kc Y)
 simp only [List.set_cons_zero,List.set_cons_succ] at hB
 generalize World.setRow _ _ _=u4 at *
 simp only [nrm]
 refine wpList_nil ?_
 replace hB:=hide hB
 go_upto_region 6 with fail
 replace hB:=unhide hB
 refine wp_region_lit ?_
 refine list_val (.slice (some ⟨h10,0,none⟩) 16 16) (by kernel_rfl) (by kernel_rfl) ?_
 simp only [nrm]
 refine list_val (.slice s4 16 c4) (by kernel_rfl) (by kernel_rfl) ?_
 simp only [nrm]
 refine list_call 50 #[.slice (some ⟨h10,0,none⟩) 16 16,.slice s4 16 c4] (by kernel_rfl) (by kernel_rfl) ((oequal_ok Y Y _ s4 16 16 c4 (by omega) _ (kc_lb (hB.get 2 (x:=⟨h10,kc Y,94⟩) rfl) hYl (by rw [unhide hY]; exact tagL_isB _ _ _ _) (by omega)) ((unhide l4).gr hB.gr)).mono ?_)
 rintro r u5 ⟨rfl,rfl⟩
 refine ⟨_,rfl,?_⟩
 rw [decide_eq_true (rfl:Y=Y)]
 simp only [nrm]
 refine list_val (.bool false) (by kernel_rfl) (by kernel_rfl) ?_
 simp only [nrm]
 refine wpList_nil ?_
 replace hB:=hide hB
 go_upto_region 8 with fail
 replace hB:=unhide hB
 refine wp_region_lit ?_
 refine list_val (.agg (kc K)) (by kernel_rfl) (exec_arr _ 23 (.tmp 4) rfl (w.heap.size) (by kernel_rfl) (kc K) 23 _ (hB.get 0 (x:=⟨w.heap.size,kc K,23⟩) rfl) Tryz.underlying23 rfl (by rw [Tryz.infoKey,kc_size,hK])) ?_
 simp only [nrm]
 refine list_val (.agg (kc N)) (by kernel_rfl) (exec_arr _ 64 (.tmp 5) rfl (w.heap.size+1) (by kernel_rfl) (kc N) 64 _ (hB.get 1 (x:=⟨w.heap.size+1,kc N,64⟩) rfl) Tryz.underlying64 rfl (by rw [Tryz.infoN,kc_size,hN])) ?_
 simp only [nrm]
 refine list_val (.slice s3 m cap2) (by kernel_rfl) (by kernel_rfl) ?_
 simp only [nrm]
 have hgw:=hB.gr.size
 refine list_call 71 #[.agg (kc K),.int .u32 1,.agg (kc N),.slice s3 m cap2] (by kernel_rfl) (by kernel_rfl) ((xor_ok K N hK hN (unhide hKb) (unhide hNb) 1 ⟨by decide,by decide⟩ C _ m cap2 (by omega) _ ((unhide l3).gr hB.gr)).mono ?_)
 rintro r u6 ⟨gx,rfl,hgx,hx,hg⟩
 refine ⟨_,rfl,?_⟩
 replace hB:=hB.more hg
 rw [unhide hxx] at hx
 rw [unhide hCl]
 replace hgx:=Nat.le_trans hgw hgx
 clear hg hgw
 simp only [nrm]
 (refine wpList_step fun K hK=>?_; replace hK:=hide hK; go_simp; refine unhide hK _ _ ?_; clear hK K)
 (refine wpList_step fun K hK=>?_; replace hK:=hide hK; go_simp; refine unhide hK _ _ ?_; clear hK K)
 refine wpList_nil ?_
 have hP:Hid (Opd P w (.returned (.tuple #[.slice (some ⟨gx,0,none⟩) m m,.int .i64 0])) u6):=⟨gx,by rw [← unhide hm],hgx,hx,hB.gr⟩
 clear hB hx hgx
 go_wp2_with fail
 rw [unhide hT]
 exact unhide hP
end Go.Proofs.YthahhglbeafkmaaGreatDoor
namespace Go.Proofs.YthahhglbeafkmaaGreatDoor
open Go.RowKit
set_option maxRecDepth 100000
set_option linter.unusedSimpArgs false
set_option linter.unusedVariables false
theorem exec_u8 {op:Oper} {a:Act} (w:World) (x:Operand) (ho:op.op=.load 5 x) (g i:Nat) (hx:a.eval x=.pointer (some ⟨g,i,none⟩)) (v:Int) (hc:w.cell? ⟨g,i,none⟩=some (.int .u8 v)):(execOp a.eval op).run Tryz.prog w=.ok (.value (.int .u8 v)) w:=by
 unfold execOp
 simp only [ho,hx,Instr.loadAt,Instr.sureAddr,Sem.run_bind,Sem.run_pure,Result.andThen_ok]
 go_simp
theorem exec_at {a:Act} {o:Oper} (w:World) (x y:Operand) (ho:o.op=.indexAddr 43 x y) (g q len cap i:Nat) (hx:a.eval x=.slice (some ⟨g,q,none⟩) len cap) (hy:a.eval y=.int .i64 i) (hi:i<len) :
  (execOp a.eval o).run Tryz.prog w=.ok (.value (.pointer (some ⟨g,q+i,none⟩))) w:=by
 have h1:(i:Int)<(len:Int):=by omega
 unfold execOp
 simp only [ho,hx,hy]
 go_simp
end Go.Proofs.YthahhglbeafkmaaGreatDoor
