/-
  What the proof leans on.
-/
import Derived.Test.YthahhglbeafkmaaGreatDoorMK9
namespace Go.Proofs.YthahhglbeafkmaaGreatDoor
open Go.RowKit
set_option maxRecDepth 100000
set_option linter.unusedSimpArgs false
set_option linter.unusedVariables false
def ZK:List Int:=List.replicate 32 0
def ZN:List Int:=List.replicate 12 0
theorem lay_all (C S:List Int) (h:S.length=C.length):lay C 0 S=S:=by
 unfold lay
 rw [List.take_zero,List.nil_append,Nat.zero_add,List.drop_of_length_le (by omega),List.append_nil]
theorem exec_ptr {op:Oper} {a:Act} (w:World) (x:Operand) (ho:op.op=.load 138 x) (g i:Nat) (hx:a.eval x=.pointer (some ⟨g,i,none⟩)) (p:Option Addr) (hc:w.cell? ⟨g,i,none⟩=some (.pointer p)):(execOp a.eval op).run Tryz.prog w=.ok (.value (.pointer p)) w:=by
 unfold execOp
 simp only [ho,hx,Instr.loadAt,Instr.sureAddr,Sem.run_bind,Sem.run_pure,Result.andThen_ok]
 go_simp
theorem Cd.keep {K:List Int} {g:Nat} {L:List Int} {w v:World} (h:Cd K g L w) (e:v.heap[g]?=w.heap[g]?):Cd K g L v:=by
 obtain ⟨l,S,M,A,hH,hr⟩:=h
 exact ⟨l,S,M,A,⟨hH.1,e.trans hH.2⟩,hr⟩
theorem Cd.ne {K:List Int} {g:Nat} {L:List Int} {w:World} (h:Cd K g L w) {b:Nat} {c:Array Value} {t:TypeId} (hb:w.heap[b]?=some (.cells c t (0,0))) (ht:t≠165):b≠g:=by
 obtain ⟨l,S,M,A,hH,_⟩:=h
 intro e
 have h2:=hH.2
 rw [← e,hb] at h2
 simp only [Option.some.injEq,Obj.cells.injEq] at h2
 exact ht h2.2.1
theorem Bl.beside {K:List Int} {w u v:World} {L:List Blk} {g:Nat} {M:List Int} (h:Bl w L u) (hC:Cd K g M u) (k:Bt g u v) (hg:w.heap.size≤g) (ht:∀ x ∈ L,x.t≠165):Bl w L v :=
 ⟨k.gr h.gr hg,fun x hx=>⟨k.blk (h.at_ x hx).1 (hC.ne (h.at_ x hx).1 (ht x hx)),(h.at_ x hx).2⟩,h.ne⟩
set_option maxHeartbeats 4000000 in
theorem once_ok (K N:List Int) (hK:K.length=32) (hN:N.length=12) (hKb:IsB K) (hNb:IsB N) (w:World):Calls Tryz.prog 89 #[.agg (kc K),.agg (kc N)] w (Tg (otk K N) w):=by
 obtain ⟨T,hT⟩:∃ T,T=Tg (otk K N) w:=⟨_,rfl⟩
 rw [← hT]
 replace hT:=hide hT
 obtain ⟨SK,hSK⟩:∃ S,S=kc K:=⟨_,rfl⟩
 obtain ⟨SN,hSN⟩:∃ S,S=kc N:=⟨_,rfl⟩
 rw [← hSK,← hSN]
 replace hSK:=hide hSK
 replace hSN:=hide hSN
 replace hKb:=hide hKb
 replace hNb:=hide hNb
 go_enter Tryz.func89,Tryz.ntmps89
 go_upto_region 2 with fail
 have hB:=(((((Bl.nil w).new SK 23).new SN 64).new #[.int .u8 0,.int .u8 0,.int .u8 0,.int .u8 0,.int .u8 0,.int .u8 0,.int .u8 0,.int .u8 0,.int .u8 0,.int .u8 0,.int .u8 0,.int .u8 0,.int .u8 0,.int .u8 0,.int .u8 0,.int .u8 0,.int .u8 0,.int .u8 0,.int .u8 0,.int .u8 0,.int .u8 0,.int .u8 0,.int .u8 0,.int .u8 0,.int .u8 0,.int .u8 0,.int .u8 0,.int .u8 0,.int .u8 0,.int .u8 0,.int .u8 0,.int .u8 0] 23).new #[.int .u8 0,.int .u8 0,.int .u8 0,.int .u8 0,.int .u8 0,.int .u8 0,.int .u8 0,.int .u8 0,.int .u8 0,.int .u8 0,.int .u8 0,.int .u8 0,.int .u8 0,.int .u8 0,.int .u8 0,.int .u8 0,.int .u8 0,.int .u8 0,.int .u8 0,.int .u8 0,.int .u8 0,.int .u8 0,.int .u8 0,.int .u8 0,.int .u8 0,.int .u8 0,.int .u8 0,.int .u8 0,.int .u8 0,.int .u8 0,.int .u8 0,.int .u8 0] 23)
 simp only [size_alloc,List.nil_append,List.cons_append] at hB
 generalize World.alloc _ _=u at *
 rw [unhide hSK,unhide hSN] at hB
 replace hB:Bl w [⟨w.heap.size,kc K,23⟩,⟨w.heap.size+1,kc N,64⟩,⟨w.heap.size+1+1,kc ZK,23⟩,⟨w.heap.size+1+1+1,kc ZK,23⟩] u:=hB
 refine wp_region_lit ?_
 refine list_val (.agg (kc K)) (by kernel_rfl) (exec_arr _ 23 (.tmp 2) rfl (w.heap.size) (by kernel_rfl) (kc K) 23 _ (hB.get 0 (x:=⟨w.heap.size,kc K,23⟩) rfl) Tryz.underlying23 rfl (by rw [Tryz.infoKey,kc_size,hK])) ?_
 simp only [nrm]
 refine list_val (.agg (kc N)) (by kernel_rfl) (exec_arr _ 64 (.tmp 3) rfl (w.heap.size+1) (by kernel_rfl) (kc N) 64 _ (hB.get 1 (x:=⟨w.heap.size+1,kc N,64⟩) rfl) Tryz.underlying64 rfl (by rw [Tryz.infoN,kc_size,hN])) ?_
 simp only [nrm]
 refine list_call 113 #[.agg (kc K),.int .u32 0,.agg (kc N)] (by kernel_rfl) (by kernel_rfl) ((block_ok K N hK hN (unhide hKb) (unhide hNb) 0 _).mono ?_)
 rintro r u1 ⟨rfl,hg⟩
 refine ⟨_,rfl,?_⟩
 replace hB:=hB.more hg
 clear hg
 obtain ⟨D,hD⟩:∃ D,D=bk K N 0:=⟨_,rfl⟩
 rw [← hD]
 have hDl:D.length=64:=by rw [hD,bk_len]
 replace hD:=hide hD
 simp only [nrm]
 replace hB:=hide hB
 (refine wpList_step fun K hK=>?_; replace hK:=hide hK; go_simp; refine unhide hK _ _ ?_; clear hK K)
 replace hB:=(unhide hB).new #[.int .u8 0,.int .u8 0,.int .u8 0,.int .u8 0,.int .u8 0,.int .u8 0,.int .u8 0,.int .u8 0,.int .u8 0,.int .u8 0,.int .u8 0,.int .u8 0,.int .u8 0,.int .u8 0,.int .u8 0,.int .u8 0,.int .u8 0,.int .u8 0,.int .u8 0,.int .u8 0,.int .u8 0,.int .u8 0,.int .u8 0,.int .u8 0,.int .u8 0,.int .u8 0,.int .u8 0,.int .u8 0,.int .u8 0,.int .u8 0,.int .u8 0,.int .u8 0,.int .u8 0,.int .u8 0,.int .u8 0,.int .u8 0,.int .u8 0,.int .u8 0,.int .u8 0,.int .u8 0,.int .u8 0,.int .u8 0,.int .u8 0,.int .u8 0,.int .u8 0,.int .u8 0,.int .u8 0,.int .u8 0,.int .u8 0,.int .u8 0,.int .u8 0,.int .u8 0,.int .u8 0,.int .u8 0,.int .u8 0,.int .u8 0,.int .u8 0,.int .u8 0,.int .u8 0,.int .u8 0,.int .u8 0,.int .u8 0,.int .u8 0,.int .u8 0] 87
 simp only [List.nil_append,List.cons_append] at hB
 generalize World.alloc _ _=u2 at *
 generalize u1.heap.size=h6 at *
 replace hB:Bl w [⟨w.heap.size,kc K,23⟩,⟨w.heap.size+1,kc N,64⟩,⟨w.heap.size+1+1,kc ZK,23⟩,⟨w.heap.size+1+1+1,kc ZK,23⟩,⟨h6,kc Z64,87⟩] u2:=hB
 refine list_store 87 (.tmp 6) (.tmp 9) (h6) (kc D) 87 (kc Z64) (by kernel_rfl) rfl (by kernel_rfl) (by kernel_rfl) (hB.get 4 (x:=⟨h6,kc Z64,87⟩) rfl) (by rw [Tryz.info64,kc_size,hDl]) ((show (kc Z64).size=64 from rfl).trans ((kc_size _).trans hDl).symm) (kc_one _) ?_
 replace hB:=hB.set 4 (x:=⟨h6,kc Z64,87⟩) rfl (kc D)
 simp only [List.set_cons_zero,List.set_cons_succ] at hB
 generalize World.setRow _ _ _=u3 at *
 simp only [nrm]
 refine wpList_nil ?_
 replace hB:=hide hB
 go_upto_region 3 with fail
 replace hB:=unhide hB
 refine any_start (S:=fun _=>True) (by kernel_rfl) ?_
 replace hB:=hB.drew
 generalize World.drew _=x0 at *
 simp only [List.size_toArray,List.length_cons,List.length_nil,Array.replicate,List.replicate]
 refine any_take (i:=0) (v:=(.slice (some ⟨w.heap.size+1+1+1,0,none⟩) 32 32)) #[false,false,false] rfl (by kernel_rfl) (by kernel_rfl) (by kernel_rfl) (by kernel_rfl) (fun _ _ _ h=>h) (.inl ⟨by kernel_rfl,fun x_ hu=>by kernel_rfl⟩) trivial ?_
 simp only [nrm]
 refine any_take (i:=1) (v:=(.slice (some ⟨h6,0,none⟩) 64 64)) #[true,false,false] rfl (by kernel_rfl) (by kernel_rfl) (by kernel_rfl) (by kernel_rfl) (fun _ _ _ h=>h) (.inl ⟨by kernel_rfl,fun x_ hu=>by kernel_rfl⟩) trivial ?_
 simp only [nrm]
 refine any_one (i:=2) (by kernel_rfl) rfl (fun K_ hQ=>?_)
 rw [if_pos (by kernel_rfl)]
 obtain ⟨E,hE⟩:∃ E,E=D.take 32:=⟨_,rfl⟩
 have hEl:E.length=32:=by rw [hE,List.length_take,hDl]; rfl
 refine copy_wp (.tmp 10) (.tmp 11) rfl (w.heap.size+1+1+1) 0 32 32 (some ⟨h6,0,none⟩) 64 64 (by kernel_rfl) (by kernel_rfl) (ZK.map (Value.int .u8)) 23 (hB.get 3 (x:=⟨w.heap.size+1+1+1,kc ZK,23⟩) rfl) E (by rw [hEl]; rfl) (.inr ⟨h6,0,rfl,by rw [hE]; exact (kc_at (hB.get 4 (x:=⟨h6,kc D,87⟩) rfl)).take 32⟩) (by rw [hEl]; exact Nat.le_refl _) ?_
 have hcell:=laid (S:=E) (o:=0) (hB.get 3 (x:=⟨w.heap.size+1+1+1,kc ZK,23⟩) rfl) (by rw [hEl]; exact Nat.le_refl _)
 rw [lay_all ZK E hEl] at hcell
 have hB2:=hB.but (setCells_bt (E.map (Value.int .u8)) x0 (w.heap.size+1+1+1) 0) 3 (x:=⟨w.heap.size+1+1+1,kc ZK,23⟩) rfl rfl hcell
 simp only [List.set_cons_zero,List.set_cons_succ] at hB2
 clear hcell hB
 generalize World.setCells _ _ _ _=x1 at *
 refine hQ.out _ _ trivial (fun _=>?_)
 clear hQ K_
 simp only [nrm]
 refine any_done (by kernel_rfl) ?_
 rw [hEl]
 replace hB2:=hide hB2
 go_upto_region 4 with fail
 have hB:=unhide hB2
 clear hB2
 refine wp_region_lit ?_
 refine list_val (.agg (kc E)) (by kernel_rfl) (exec_arr _ 23 (.tmp 5) rfl (w.heap.size+1+1+1) (by kernel_rfl) (kc E) 23 _ (hB.get 3 (x:=⟨w.heap.size+1+1+1,kc E,23⟩) rfl) Tryz.underlying23 rfl (by rw [Tryz.infoKey,kc_size,hEl])) ?_
 simp only [nrm]
 refine list_store 23 (.tmp 4) (.tmp 13) (w.heap.size+1+1) (kc E) 23 (kc ZK) (by kernel_rfl) rfl (by kernel_rfl) (by kernel_rfl) (hB.get 2 (x:=⟨w.heap.size+1+1,kc ZK,23⟩) rfl) (by rw [Tryz.infoKey,kc_size,hEl]) ((show (kc ZK).size=32 from rfl).trans ((kc_size _).trans hEl).symm) (kc_one _) ?_
 replace hB:=hB.set 2 (x:=⟨w.heap.size+1+1,kc ZK,23⟩) rfl (kc E)
 simp only [List.set_cons_zero,List.set_cons_succ] at hB
 generalize World.setRow _ _ _=x2 at *
 simp only [nrm]
 refine wpList_nil ?_
 have hE2:E=otk K N:=by rw [hE,unhide hD]; rfl
 clear hE
 replace hB:=hide hB
 go_wp2_with fail
 replace hB:=unhide hB
 rw [unhide hT]
 exact bodyPost_ret (v:=.agg (kc E)) (results_cell_row Tryz.results89 _ _ (w.heap.size+1+1) 23 (kc E) (0,0) _ rfl (hB.get 2 (x:=⟨w.heap.size+1+1,kc E,23⟩) rfl) Tryz.underlying23 rfl (by rw [Tryz.infoKey,kc_size,hEl])) rfl (⟨by rw [hE2],hB.gr⟩)
def Filled (K:List Int) (g:Nat) (L:List Int) (w:World) (r:Ending) (w':World):Prop:=r=.returned (.tuple #[])∧Cd K g L w'∧Bt g w w'
theorem zt_lb {v:World} {g:Nat} (h:v.heap[g]?=some (.cells (kc ZT) 32 (0,0))) (n:Nat) (hn:n<16):Lb v (some ⟨g,0,none⟩) n 16 (List.replicate n 0):=by
 refine ⟨by simp,rep_isB n,.inr ⟨g,0,rfl,?_⟩,by omega,by omega⟩
 have h1:=(kc_at h).take n
 have e:ZT.take n=List.replicate n 0:=by
  unfold ZT
  rw [List.take_replicate,Nat.min_eq_left (by omega)]
 rw [e] at h1
 exact h1
set_option maxHeartbeats 4000000 in
theorem fill_ok (K L P:List Int) (g gv:Nat) (s:Option Addr) (n cap:Nat) (w:World) (hC:Cd K g L w) (hv:w.heap[gv]?=some (.cells #[.pointer (some ⟨g,0,none⟩)] 138 (0,0))) (lb:∀ v,Bt g w v→Lb v s n cap P):Calls Tryz.prog 90 #[.slice s n cap,.pointer (some ⟨gv,0,none⟩)] w (Filled K g (L++pd P) w):=by
 obtain ⟨T,hT⟩:∃ T,T=Filled K g (L++pd P) w:=⟨_,rfl⟩
 rw [← hT]
 replace hT:=hide hT
 have hlb:=lb w (Bt.refl g w)
 have hPl:=hlb.len
 have hmx:(n:Int)<9223372036854775808:=by have h1:=hlb.cap; have h2:=hlb.max; omega
 clear hlb
 obtain ⟨m,hm⟩:∃ m,m=padz n:=⟨_,rfl⟩
 have hm16:m<16:=by rw [hm]; exact padz_lt n
 obtain ⟨r1,hr1⟩:∃ r,r=n % 16:=⟨_,rfl⟩
 have hr16:r1<16:=by omega
 have e1:Int.tmod (n:Int) 16=(r1:Int):=by rw [Int.tmod_eq_emod_of_nonneg (by omega)]; omega
 obtain ⟨r2,hr2⟩:∃ r,r=16 - r1:=⟨_,rfl⟩
 have e2:(16:Int) - (r1:Int)=(r2:Int):=by omega
 have e4:IntKind.i64.wrap (r2:Int)=(r2:Int):=by rw [IntKind.wrap_i64]; omega
 have e3:Int.tmod (r2:Int) 16=(m:Int):=by rw [Int.tmod_eq_emod_of_nonneg (by omega)]; rw [hm]; unfold padz; omega
 have m16:(m:Int)≤16:=by omega
 replace hm:=hide hm
 replace hr1:=hide hr1
 replace hr2:=hide hr2
 replace hC:=hide hC; replace lb:=hide lb; replace hv:=hide hv; replace hPl:=hide hPl
 go_enter Tryz.func90,Tryz.ntmps90
 go_upto_region 1 with fail
 have hg:=(Gr.refl w).alloc (.cells #[.int .u8 0,.int .u8 0,.int .u8 0,.int .u8 0,.int .u8 0,.int .u8 0,.int .u8 0,.int .u8 0,.int .u8 0,.int .u8 0,.int .u8 0,.int .u8 0,.int .u8 0,.int .u8 0,.int .u8 0,.int .u8 0] 32 (0,0))
 have hz:=blk_new w (.cells #[.int .u8 0,.int .u8 0,.int .u8 0,.int .u8 0,.int .u8 0,.int .u8 0,.int .u8 0,.int .u8 0,.int .u8 0,.int .u8 0,.int .u8 0,.int .u8 0,.int .u8 0,.int .u8 0,.int .u8 0,.int .u8 0] 32 (0,0))
 generalize World.alloc _ _=u at *
 replace hz:u.heap[w.heap.size]?=some (.cells (kc ZT) 32 (0,0)):=hz
 have hC1:=(unhide hC).gr hg
 have hv1:=hg.blk (unhide hv)
 have hne:=hC1.ne hv1 (by decide)
 have hnz:=hC1.ne hz (by decide)
 have bt:=hg.bt g
 clear hg hC hv
 refine wp_region_lit ?_
 refine list_val (.pointer (some ⟨g,0,none⟩)) (by kernel_rfl) (exec_ptr _ (.tmp 1) rfl gv 0 (by kernel_rfl) (some ⟨g,0,none⟩) (cell_of hv1 rfl)) ?_
 simp only [nrm]
 refine list_val (.slice s n cap) (by kernel_rfl) (by kernel_rfl) ?_
 simp only [nrm]
 refine list_call 91 #[.pointer (some ⟨g,0,none⟩),.slice s n cap] (by kernel_rfl) (by kernel_rfl) ((pwrite_ok K L P g s n cap _ hC1 (fun v h=>(unhide lb) v (bt.trans h))).mono ?_)
 rintro r u2 ⟨rfl,hC2,hb⟩
 refine ⟨_,rfl,?_⟩
 have hv2:=hb.blk hv1 hne
 have hz2:=hb.blk hz hnz
 replace bt:=bt.trans hb
 clear hb hC1 hv1 hz
 simp only [nrm]
 refine wpList_nil ?_
 replace bt:=hide bt; replace hC2:=hide hC2; replace hv2:=hide hv2; replace hz2:=hide hz2
 go_upto_region 2 with fail
 replace bt:=unhide bt; replace hC2:=unhide hC2; replace hv2:=unhide hv2; replace hz2:=unhide hz2
 refine any_start (S:=fun v=>v.heap[gv]?=some (.cells #[.pointer (some ⟨g,0,none⟩)] 138 (0,0))) (by kernel_rfl) ?_
 replace hC2:=hC2.gr (Gr.refl _).drew
 replace bt:=bt.trans ((Gr.refl _).drew.bt g)
 replace hz2:(World.drew _).heap[w.heap.size]?=some (.cells (kc ZT) 32 (0,0)):=hz2
 replace hv2:(World.drew _).heap[gv]?=some (.cells #[.pointer (some ⟨g,0,none⟩)] 138 (0,0)):=hv2
 generalize World.drew _=x0 at *
 simp only [List.size_toArray,List.length_cons,List.length_nil,Array.replicate,List.replicate]
 refine any_take (i:=0) (v:=(.pointer (some ⟨g,0,none⟩))) #[false,false,false,false,false,false,false,false] rfl (by kernel_rfl) (by kernel_rfl) (by kernel_rfl) (by kernel_rfl) (fun _ _ _ h=>h) (.inl ⟨by kernel_rfl,fun x_ hu=>exec_ptr _ (.tmp 1) rfl gv 0 (by kernel_rfl) (some ⟨g,0,none⟩) (cell_of hu rfl)⟩) hv2 ?_
 simp only [nrm]
 refine any_take (i:=1) (v:=(.slice s n cap)) #[true,false,false,false,false,false,false,false] rfl (by kernel_rfl) (by kernel_rfl) (by kernel_rfl) (by kernel_rfl) (fun _ _ _ h=>h) (.inl ⟨by kernel_rfl,fun x_ hu=>by kernel_rfl⟩) hv2 ?_
 simp only [nrm]
 refine any_take (i:=2) (v:=(.int .i64 n)) #[true,true,false,false,false,false,false,false] rfl (by kernel_rfl) (by kernel_rfl) (by kernel_rfl) (by kernel_rfl) (fun _ _ _ h=>h) (.inl ⟨by kernel_rfl,fun x_ hu=>by kernel_rfl⟩) hv2 ?_
 simp only [nrm]
 refine any_take (i:=3) (v:=(.int .i64 r1)) #[true,true,true,false,false,false,false,false] rfl (by kernel_rfl) (by kernel_rfl) (by kernel_rfl) (by kernel_rfl) (fun _ _ _ h=>h) (.inl ⟨by kernel_rfl,fun x_ hu=>by go_simp⟩) hv2 ?_
 simp only [nrm]
 refine any_take (i:=4) (v:=(.int .i64 r2)) #[true,true,true,true,false,false,false,false] rfl (by kernel_rfl) (by kernel_rfl) (by kernel_rfl) (by kernel_rfl) (fun _ _ _ h=>h) (.inl ⟨by kernel_rfl,fun x_ hu=>by go_simp⟩) hv2 ?_
 simp only [nrm]
 refine any_take (i:=5) (v:=(.int .i64 m)) #[true,true,true,true,true,false,false,false] rfl (by kernel_rfl) (by kernel_rfl) (by kernel_rfl) (by kernel_rfl) (fun _ _ _ h=>h) (.inl ⟨by kernel_rfl,fun x_ hu=>by go_simp⟩) hv2 ?_
 simp only [nrm]
 refine any_take (i:=6) (v:=(.slice (some ⟨w.heap.size,0,none⟩) m 16)) #[true,true,true,true,true,true,false,false] rfl (by kernel_rfl) (by kernel_rfl) (by kernel_rfl) (by kernel_rfl) (fun _ _ _ h=>h) (.inl ⟨by kernel_rfl,fun x_ hu=>by go_simp⟩) hv2 ?_
 simp only [nrm]
 refine any_one (i:=7) (by kernel_rfl) rfl (fun K_ hQ=>?_)
 refine step_callw (by kernel_rfl) 91 #[.pointer (some ⟨g,0,none⟩),.slice (some ⟨w.heap.size,0,none⟩) m 16] (by kernel_rfl) ((pwrite_ok K (L++P) (List.replicate m 0) g _ m 16 _ hC2 (fun v h=>zt_lb (h.blk hz2 hnz) m hm16)).mono ?_)
 rintro r u4 ⟨rfl,hC4,hb⟩
 refine ⟨_,rfl,?_⟩
 have hv4:=hb.blk hv2 hne
 replace bt:=bt.trans hb
 clear hb hC2 hz2 hv2
 have hv2:=hv4
 refine hQ.out _ _ hv2 (fun _=>?_)
 clear hQ K_
 simp only [nrm]
 refine any_done (by kernel_rfl) ?_
 have hC5:Cd K g (L++pd P) u4:=by
  unfold pd
  rw [unhide hPl,← unhide hm,← List.append_assoc]
  exact hC4
 clear hC4 hv2 hv4 hm
 go_end0
 rw [unhide hT]
 exact ⟨rfl,hC5,bt⟩
end Go.Proofs.YthahhglbeafkmaaGreatDoor
namespace Go.Proofs.YthahhglbeafkmaaGreatDoor
open Go.RowKit
set_option maxRecDepth 100000
set_option linter.unusedSimpArgs false
set_option linter.unusedVariables false
theorem nocode {a b c d:Blk} (ha:a.t≠165) (hb:b.t≠165) (hc:c.t≠165) (hd:d.t≠165):∀ x ∈ [a,b,c,d],x.t≠165:=by
 intro x hx
 simp only [List.mem_cons,List.not_mem_nil,or_false] at hx
 rcases hx with rfl | rfl | rfl | rfl <;> assumption
set_option maxHeartbeats 4000000 in
theorem atag_ok (K N:List Int) (hK:K.length=32) (hN:N.length=12) (hKb:IsB K) (hNb:IsB N) (A C:List Int) (s s2:Option Addr) (n n2 cap cap2:Nat) (w:World) (la:Lb w s n cap A) (lc:Lb w s2 n2 cap2 C):Calls Tryz.prog 72 #[.agg (kc K),.agg (kc N),.slice s n cap,.slice s2 n2 cap2] w (Tg (tagL K N A C) w):=by
 obtain ⟨T,hT⟩:∃ T,T=Tg (tagL K N A C) w:=⟨_,rfl⟩
 rw [← hT]
 replace hT:=hide hT
 obtain ⟨SK,hSK⟩:∃ S,S=kc K:=⟨_,rfl⟩
 obtain ⟨SN,hSN⟩:∃ S,S=kc N:=⟨_,rfl⟩
 rw [← hSK,← hSN]
 replace hSK:=hide hSK
 replace hSN:=hide hSN
 have e1:IntKind.u64.wrap (n:Int)=(n:Int):=by have h1:=la.cap; have h2:=la.max; rw [IntKind.wrap_u64]; omega
 have e2:IntKind.u64.wrap (n2:Int)=(n2:Int):=by have h1:=lc.cap; have h2:=lc.max; rw [IntKind.wrap_u64]; omega
 have hAl:=hide la.len
 have hCl:=hide lc.len
 replace hKb:=hide hKb
 replace hNb:=hide hNb
 replace la:=hide la
 replace lc:=hide lc
 go_enter Tryz.func72,Tryz.ntmps72
 go_upto_region 1 with fail
 have hB:=((((Bl.nil w).new SK 23).new SN 64).new #[.int .u8 0,.int .u8 0,.int .u8 0,.int .u8 0,.int .u8 0,.int .u8 0,.int .u8 0,.int .u8 0,.int .u8 0,.int .u8 0,.int .u8 0,.int .u8 0,.int .u8 0,.int .u8 0,.int .u8 0,.int .u8 0] 94)
 simp only [size_alloc,List.nil_append,List.cons_append] at hB
 generalize World.alloc _ _=u at *
 rw [unhide hSK,unhide hSN] at hB
 replace hB:Bl w [⟨w.heap.size,kc K,23⟩,⟨w.heap.size+1,kc N,64⟩,⟨w.heap.size+1+1,kc ZT,94⟩] u:=hB
 refine wp_region_lit ?_
 refine list_val (.agg (kc K)) (by kernel_rfl) (exec_arr _ 23 (.tmp 4) rfl (w.heap.size) (by kernel_rfl) (kc K) 23 _ (hB.get 0 (x:=⟨w.heap.size,kc K,23⟩) rfl) Tryz.underlying23 rfl (by rw [Tryz.infoKey,kc_size,hK])) ?_
 simp only [nrm]
 refine list_val (.agg (kc N)) (by kernel_rfl) (exec_arr _ 64 (.tmp 5) rfl (w.heap.size+1) (by kernel_rfl) (kc N) 64 _ (hB.get 1 (x:=⟨w.heap.size+1,kc N,64⟩) rfl) Tryz.underlying64 rfl (by rw [Tryz.infoN,kc_size,hN])) ?_
 simp only [nrm]
 refine list_call 89 #[.agg (kc K),.agg (kc N)] (by kernel_rfl) (by kernel_rfl) ((once_ok K N hK hN (unhide hKb) (unhide hNb) _).mono ?_)
 rintro r u1 ⟨rfl,hg⟩
 refine ⟨_,rfl,?_⟩
 replace hB:=hB.more hg
 clear hg
 have hTg:Hid (∀ A C,tagL K N A C=mcL (otk K N) (tin A C)):=fun _ _=>rfl
 have hOl:=otk_len K N
 have hOb:=hide (otk_isB K N)
 generalize otk K N=O at *
 simp only [nrm]
 refine list_call 88 #[.agg (kc O)] (by kernel_rfl) (by kernel_rfl) ((pnew_ok O hOl (unhide hOb) _).mono ?_)
 rintro r u2 ⟨gc,rfl,hgc,cd,hg⟩
 refine ⟨_,rfl,?_⟩
 have hgw:w.heap.size≤gc:=Nat.le_trans hB.gr.size hgc
 replace hB:=hB.more hg
 clear hg hgc
 simp only [nrm]
 replace hB:=hide hB
 (refine wpList_step fun K hK=>?_; replace hK:=hide hK; go_simp; refine unhide hK _ _ ?_; clear hK K)
 replace cd:=cd.gr ((Gr.refl u2).alloc (.cells #[.pointer none] 138 (0,0)))
 replace hB:=(unhide hB).new #[.pointer none] 138
 simp only [List.nil_append,List.cons_append] at hB
 generalize World.alloc _ _=u3 at *
 generalize u2.heap.size=h9 at *
 replace hB:Bl w [⟨w.heap.size,kc K,23⟩,⟨w.heap.size+1,kc N,64⟩,⟨w.heap.size+1+1,kc ZT,94⟩,⟨h9,#[.pointer none],138⟩] u3:=hB
 have c4:=cell_of (i:=0) (hB.get 3 (x:=⟨h9,#[.pointer none],138⟩) rfl) rfl
 have fz:=froz_of (i:=0) (hB.get 3 (x:=⟨h9,#[.pointer none],138⟩) rfl)
 have hne:=cd.ne (hB.get 3 (x:=⟨h9,#[.pointer none],138⟩) rfl) (show (138:TypeId)≠165 by decide)
 have hB2:=hB.cell 3 (x:=⟨h9,#[.pointer none],138⟩) rfl 0 (.pointer (some ⟨gc,0,none⟩))
 have hB3:Bl w [⟨w.heap.size,kc K,23⟩,⟨w.heap.size+1,kc N,64⟩,⟨w.heap.size+1+1,kc ZT,94⟩,⟨h9,#[.pointer (some ⟨gc,0,none⟩)],138⟩] _:=hB2
 replace cd:Cd O gc [] (World.setCell u3 ⟨h9,0,none⟩ (.pointer (some ⟨gc,0,none⟩))):=cd.keep (Below.heap_setCell u3 ⟨h9,0,none⟩ _ gc hne.symm)
 clear hB hB2
 dsimp only at c4 fz
 replace hB3:=hide hB3
 replace cd:=hide cd
 (refine wpList_step fun K hK=>?_; replace hK:=hide hK; go_simp; refine unhide hK _ _ ?_; clear hK K)
 clear c4 fz
 generalize World.setCell _ _ _=u4 at *
 have hB:=unhide hB3
 replace cd:=unhide cd
 clear hB3
 refine wpList_nil ?_
 replace hB:=hide hB
 replace cd:=hide cd
 go_upto_region 2 with fail
 replace hB:=unhide hB
 replace cd:=unhide cd
 refine wp_region_lit ?_
 refine list_val (.func (.func 90) #[] #[.pointer (some ⟨h9,0,none⟩)]) (by kernel_rfl) (by kernel_rfl) ?_
 simp only [nrm]
 (refine wpList_step fun K hK=>?_; replace hK:=hide hK; go_simp; refine unhide hK _ _ ?_; clear hK K)
 refine wpList_nil ?_
 replace hB:=hide hB
 replace cd:=hide cd
 go_upto_region 3 with fail
 replace hB:=unhide hB
 replace cd:=unhide cd
 refine wp_region_lit ?_
 refine list_val (.func (.func 90) #[] #[.pointer (some ⟨h9,0,none⟩)]) (by kernel_rfl) (by kernel_rfl) ?_
 simp only [nrm]
 refine list_val (.slice s n cap) (by kernel_rfl) (by kernel_rfl) ?_
 simp only [nrm]
 refine list_call 90 #[.slice s n cap,.pointer (some ⟨h9,0,none⟩)] (by kernel_rfl) (by kernel_rfl) ((fill_ok O [] A gc h9 s n cap _ cd (hB.get 3 (x:=⟨h9,#[.pointer (some ⟨gc,0,none⟩)],138⟩) rfl) (fun v h=>(unhide la).gr (h.gr hB.gr hgw))).mono ?_)
 rintro r u5 ⟨rfl,cd2,hb⟩
 refine ⟨_,rfl,?_⟩
 replace hB:=hB.beside cd hb hgw (nocode (show (23:TypeId)≠165 by decide) (show (64:TypeId)≠165 by decide) (show (94:TypeId)≠165 by decide) (show (138:TypeId)≠165 by decide))
 clear cd hb
 have cd:=cd2
 clear cd2
 simp only [nrm]
 refine wpList_nil ?_
 rw [List.nil_append] at cd
 replace hB:=hide hB
 replace cd:=hide cd
 go_upto_region 4 with fail
 replace hB:=unhide hB
 replace cd:=unhide cd
 refine wp_region_lit ?_
 refine list_val (.func (.func 90) #[] #[.pointer (some ⟨h9,0,none⟩)]) (by kernel_rfl) (by kernel_rfl) ?_
 simp only [nrm]
 refine list_val (.slice s2 n2 cap2) (by kernel_rfl) (by kernel_rfl) ?_
 simp only [nrm]
 refine list_call 90 #[.slice s2 n2 cap2,.pointer (some ⟨h9,0,none⟩)] (by kernel_rfl) (by kernel_rfl) ((fill_ok O (pd A) C gc h9 s2 n2 cap2 _ cd (hB.get 3 (x:=⟨h9,#[.pointer (some ⟨gc,0,none⟩)],138⟩) rfl) (fun v h=>(unhide lc).gr (h.gr hB.gr hgw))).mono ?_)
 rintro r u6 ⟨rfl,cd2,hb⟩
 refine ⟨_,rfl,?_⟩
 replace hB:=hB.beside cd hb hgw (nocode (show (23:TypeId)≠165 by decide) (show (64:TypeId)≠165 by decide) (show (94:TypeId)≠165 by decide) (show (138:TypeId)≠165 by decide))
 clear cd hb
 have cd:=cd2
 clear cd2
 simp only [nrm]
 refine wpList_nil ?_
 replace hB:=hide hB
 replace cd:=hide cd
 go_upto_region 5 with fail
 replace hB:=unhide hB
 replace cd:=unhide cd
 refine any_start (S:=fun v=>Bl w [⟨w.heap.size,kc K,23⟩,⟨w.heap.size+1,kc N,64⟩,⟨w.heap.size+1+1,kc ZT,94⟩,⟨h9,#[.pointer (some ⟨gc,0,none⟩)],138⟩] v) (by kernel_rfl) ?_
 replace hB:=hB.drew
 replace cd:=cd.gr (Gr.refl _).drew
 generalize World.drew _=x0 at *
 simp only [List.size_toArray,List.length_cons,List.length_nil,Array.replicate,List.replicate]
 refine any_take (i:=0) (v:=(.pointer (some ⟨gc,0,none⟩))) #[false,false,false,false,false,false,false,false,false,false] rfl (by kernel_rfl) (by kernel_rfl) (by kernel_rfl) (by kernel_rfl) (fun _ _ _ h=>h) (.inl ⟨by kernel_rfl,fun x_ hu=>exec_ptr _ (.tmp 9) rfl h9 0 (by kernel_rfl) (some ⟨gc,0,none⟩) (cell_of (hu.get 3 (x:=⟨h9,#[.pointer (some ⟨gc,0,none⟩)],138⟩) rfl) rfl)⟩) hB ?_
 simp only [nrm]
 refine any_take (i:=1) (v:=(.slice s n cap)) #[true,false,false,false,false,false,false,false,false,false] rfl (by kernel_rfl) (by kernel_rfl) (by kernel_rfl) (by kernel_rfl) (fun _ _ _ h=>h) (.inl ⟨by kernel_rfl,fun x_ hu=>by kernel_rfl⟩) hB ?_
 simp only [nrm]
 refine any_take (i:=2) (v:=(.int .i64 n)) #[true,true,false,false,false,false,false,false,false,false] rfl (by kernel_rfl) (by kernel_rfl) (by kernel_rfl) (by kernel_rfl) (fun _ _ _ h=>h) (.inl ⟨by kernel_rfl,fun x_ hu=>by kernel_rfl⟩) hB ?_
 simp only [nrm]
 refine any_take (i:=3) (v:=(.int .u64 n)) #[true,true,true,false,false,false,false,false,false,false] rfl (by kernel_rfl) (by kernel_rfl) (by kernel_rfl) (by kernel_rfl) (fun _ _ _ h=>h) (.inl ⟨by kernel_rfl,fun x_ hu=>by go_simp⟩) hB ?_
 simp only [nrm]
 refine any_take (i:=5) (v:=(.slice s2 n2 cap2)) #[true,true,true,true,false,false,false,false,false,false] rfl (by kernel_rfl) (by kernel_rfl) (by kernel_rfl) (by kernel_rfl) (fun _ _ _ h=>h) (.inl ⟨by kernel_rfl,fun x_ hu=>by kernel_rfl⟩) hB ?_
 simp only [nrm]
 refine any_take (i:=6) (v:=(.int .i64 n2)) #[true,true,true,true,false,true,false,false,false,false] rfl (by kernel_rfl) (by kernel_rfl) (by kernel_rfl) (by kernel_rfl) (fun _ _ _ h=>h) (.inl ⟨by kernel_rfl,fun x_ hu=>by kernel_rfl⟩) hB ?_
 simp only [nrm]
 refine any_take (i:=7) (v:=(.int .u64 n2)) #[true,true,true,true,false,true,true,false,false,false] rfl (by kernel_rfl) (by kernel_rfl) (by kernel_rfl) (by kernel_rfl) (fun _ _ _ h=>h) (.inl ⟨by kernel_rfl,fun x_ hu=>by go_simp⟩) hB ?_
 simp only [nrm]
 refine any_one (i:=4) (by kernel_rfl) rfl (fun K_ hQ=>?_)
 refine step_callw (by kernel_rfl) 69 #[.slice none 0 0,.int .u64 n] (by kernel_rfl) ((put64_ok [] none 0 0 n (by omega) (by omega) _ (Lb.nil0 _)).mono ?_)
 rintro r v1 ⟨ga,rfl,hga,ha,hg⟩
 refine ⟨_,rfl,?_⟩
 replace hB:=hB.more hg
 replace cd:=cd.gr hg
 rw [List.nil_append] at ha
 have l1:Lb v1 (some ⟨ga,0,none⟩) 8 8 (lowL (n:Int) 8):=kc_lb ha (lowL_len _ _) (lowL_isB _ _) (by omega)
 clear hg ha hga
 rw [List.nil_append,lowL_len]
 refine hQ.out _ _ hB (fun _=>?_)
 clear hQ K_
 simp only [nrm]
 refine any_one (i:=8) (by kernel_rfl) rfl (fun K_ hQ=>?_)
 refine step_callw (by kernel_rfl) 69 #[.slice (some ⟨ga,0,none⟩) 8 8,.int .u64 n2] (by kernel_rfl) ((put64_ok (lowL (n:Int) 8) _ 8 8 n2 (by omega) (by omega) _ l1).mono ?_)
 rintro r v2 ⟨gb,rfl,hgb,hb,hg⟩
 refine ⟨_,rfl,?_⟩
 replace hB:=hB.more hg
 replace cd:=cd.gr hg
 have l2:Lb v2 (some ⟨gb,0,none⟩) 16 16 (lowL (n:Int) 8++lowL (n2:Int) 8):=kc_lb hb (by rw [List.length_append,lowL_len,lowL_len]) ((lowL_isB _ _).append (lowL_isB _ _)) (by omega)
 have hnb:=cd.ne hb (by decide)
 clear hg l1 hgb
 rw [List.length_append,lowL_len,lowL_len]
 refine hQ.out _ _ hB (fun _=>?_)
 clear hQ K_
 simp only [nrm]
 refine any_one (i:=9) (by kernel_rfl) rfl (fun K_ hQ=>?_)
 refine step_callw (by kernel_rfl) 91 #[.pointer (some ⟨gc,0,none⟩),.slice (some ⟨gb,0,none⟩) 16 16] (by kernel_rfl) ((pwrite_ok O (pd A++pd C) (lowL (n:Int) 8++lowL (n2:Int) 8) gc _ 16 16 _ cd (fun v h=>kc_lb (h.blk hb hnb) (by rw [List.length_append,lowL_len,lowL_len]) ((lowL_isB _ _).append (lowL_isB _ _)) (by omega))).mono ?_)
 rintro r v3 ⟨rfl,cd2,hbt⟩
 refine ⟨_,rfl,?_⟩
 replace hB:=hB.beside cd hbt hgw (nocode (show (23:TypeId)≠165 by decide) (show (64:TypeId)≠165 by decide) (show (94:TypeId)≠165 by decide) (show (138:TypeId)≠165 by decide))
 clear hbt cd l2 hb hnb
 refine hQ.out _ _ hB (fun _=>?_)
 clear hQ K_
 simp only [nrm]
 refine any_done (by kernel_rfl) ?_
 have hXt:=unhide hTg A C
 unfold tin at hXt
 rw [unhide hAl,unhide hCl] at hXt
 replace hXt:=hide hXt
 replace hB:=hide hB
 replace cd2:=hide cd2
 go_upto_region 6 with fail
 replace hB:=unhide hB
 replace cd2:=unhide cd2
 refine wp_region_lit ?_
 refine list_val (.pointer (some ⟨gc,0,none⟩)) (by kernel_rfl) (exec_ptr _ (.tmp 9) rfl h9 0 (by kernel_rfl) (some ⟨gc,0,none⟩) (cell_of (hB.get 3 (x:=⟨h9,#[.pointer (some ⟨gc,0,none⟩)],138⟩) rfl) rfl)) ?_
 simp only [nrm]
 refine list_call 92 #[.pointer (some ⟨gc,0,none⟩)] (by kernel_rfl) (by kernel_rfl) ((ctag_ok O _ gc _ cd2).mono ?_)
 rintro r v4 ⟨rfl,hg⟩
 refine ⟨_,rfl,?_⟩
 replace hB:=hB.more hg
 clear hg cd2
 rw [← unhide hXt]
 have hXl:=tagL_len K N A C
 clear hXt
 generalize tagL K N A C=X at *
 simp only [nrm]
 refine list_store 94 (.tmp 8) (.tmp 33) (w.heap.size+1+1) (kc X) 94 (kc ZT) (by kernel_rfl) rfl (by kernel_rfl) (by kernel_rfl) (hB.get 2 (x:=⟨w.heap.size+1+1,kc ZT,94⟩) rfl) (by rw [Tryz.infoT,kc_size,hXl]) ((show (kc ZT).size=16 from rfl).trans ((kc_size _).trans hXl).symm) (kc_one _) ?_
 replace hB:=hB.set 2 (x:=⟨w.heap.size+1+1,kc ZT,94⟩) rfl (kc X)
 simp only [List.set_cons_zero,List.set_cons_succ] at hB
 generalize World.setRow _ _ _=v5 at *
 simp only [nrm]
 refine wpList_nil ?_
 replace hB:=hide hB
 go_wp2_with fail
 replace hB:=unhide hB
 rw [unhide hT]
 exact bodyPost_ret (v:=.agg (kc X)) (results_cell_row Tryz.results72 _ _ (w.heap.size+1+1) 94 (kc X) (0,0) _ rfl (hB.get 2 (x:=⟨w.heap.size+1+1,kc X,94⟩) rfl) Tryz.underlying94 rfl (by rw [Tryz.infoT,kc_size,hXl])) rfl (⟨rfl,hB.gr⟩)
end Go.Proofs.YthahhglbeafkmaaGreatDoor
namespace Go.Proofs.YthahhglbeafkmaaGreatDoor
open Go.RowKit
set_option maxRecDepth 100000
set_option linter.unusedSimpArgs false
set_option linter.unusedVariables false
def Obd (L:List Int) (w:World) (r:Ending) (w':World):Prop:=∃ v,r=.returned v∧Ob w.heap.size w' v L∧Gr w w'
theorem lay_cnt (n:Int):lay ZN 4 (lowL n 8)=cntL n:=by
 unfold lay cntL ZN
 rw [lowL_len,List.drop_of_length_le (by simp),List.append_nil]
 rfl
set_option maxHeartbeats 4000000 in
theorem seal_ok (K N:List Int) (hK:K.length=32) (hN:N.length=12) (hKb:IsB K) (hNb:IsB N) (A P:List Int) (s s2:Option Addr) (n n2 cap cap2:Nat) (hbig:n2≤20000) (w:World) (la:Lb w s n cap A) (lp:Lb w s2 n2 cap2 P):Calls Tryz.prog 45 #[.agg (kc K),.agg (kc N),.slice s n cap,.slice s2 n2 cap2] w (Obd (sealL K N A P) w):=by
 obtain ⟨T,hT⟩:∃ T,T=Obd (sealL K N A P) w:=⟨_,rfl⟩
 rw [← hT]
 replace hT:=hide hT
 obtain ⟨SK,hSK⟩:∃ S,S=kc K:=⟨_,rfl⟩
 obtain ⟨SN,hSN⟩:∃ S,S=kc N:=⟨_,rfl⟩
 rw [← hSK,← hSN]
 replace hSK:=hide hSK
 replace hSN:=hide hSN
 have hPl:=hide lp.len
 replace hKb:=hide hKb
 replace hNb:=hide hNb
 replace la:=hide la
 replace lp:=hide lp
 go_enter Tryz.func45,Tryz.ntmps45
 go_upto_region 1 with fail
 have hB:=(((Bl.nil w).new SK 23).new SN 64)
 simp only [size_alloc,List.nil_append,List.cons_append] at hB
 generalize World.alloc _ _=u at *
 rw [unhide hSK,unhide hSN] at hB
 replace hB:Bl w [⟨w.heap.size,kc K,23⟩,⟨w.heap.size+1,kc N,64⟩] u:=hB
 refine wp_region_lit ?_
 refine list_val (.agg (kc K)) (by kernel_rfl) (exec_arr _ 23 (.tmp 4) rfl (w.heap.size) (by kernel_rfl) (kc K) 23 _ (hB.get 0 (x:=⟨w.heap.size,kc K,23⟩) rfl) Tryz.underlying23 rfl (by rw [Tryz.infoKey,kc_size,hK])) ?_
 simp only [nrm]
 refine list_val (.agg (kc N)) (by kernel_rfl) (exec_arr _ 64 (.tmp 5) rfl (w.heap.size+1) (by kernel_rfl) (kc N) 64 _ (hB.get 1 (x:=⟨w.heap.size+1,kc N,64⟩) rfl) Tryz.underlying64 rfl (by rw [Tryz.infoN,kc_size,hN])) ?_
 simp only [nrm]
 refine list_val (.slice s2 n2 cap2) (by kernel_rfl) (by kernel_rfl) ?_
 simp only [nrm]
 have hgw:=hB.gr.size
 refine list_call 71 #[.agg (kc K),.int .u32 1,.agg (kc N),.slice s2 n2 cap2] (by kernel_rfl) (by kernel_rfl) ((xor_ok K N hK hN (unhide hKb) (unhide hNb) 1 ⟨by decide,by decide⟩ P _ n2 cap2 (by omega) _ ((unhide lp).gr hB.gr)).mono ?_)
 rintro r u1 ⟨gx,rfl,hgx,hx,hg⟩
 refine ⟨_,rfl,?_⟩
 replace hB:=hB.more hg
 have hXl:Hid ((xl K N 1 P).length=n2):=by rw [xl_len]; exact unhide hPl
 have hXb:=hide (xl_isB K N 1 P)
 have hSe:Hid (sealL K N A P=xl K N 1 P++tagL K N A (xl K N 1 P)):=rfl
 generalize xl K N 1 P=X at *
 have ob:Ob w.heap.size u1 (.slice (some ⟨gx,0,none⟩) n2 n2) X:=ob_of hx (unhide hXl) (Nat.le_trans hgw hgx) (by omega)
 rw [unhide hPl]
 have lx:Lb u1 (some ⟨gx,0,none⟩) n2 n2 X:=kc_lb hx (unhide hXl) (unhide hXb) (by omega)
 clear hg hx hgx hgw
 simp only [nrm]
 (refine wpList_step fun K hK=>?_; replace hK:=hide hK; go_simp; refine unhide hK _ _ ?_; clear hK K)
 refine wpList_nil ?_
 replace hB:=hide hB
 replace ob:=hide ob
 replace lx:=hide lx
 go_upto_region 2 with fail
 replace hB:=unhide hB
 replace ob:=unhide ob
 replace lx:=unhide lx
 refine wp_region_lit ?_
 refine list_val (.agg (kc K)) (by kernel_rfl) (exec_arr _ 23 (.tmp 4) rfl (w.heap.size) (by kernel_rfl) (kc K) 23 _ (hB.get 0 (x:=⟨w.heap.size,kc K,23⟩) rfl) Tryz.underlying23 rfl (by rw [Tryz.infoKey,kc_size,hK])) ?_
 simp only [nrm]
 refine list_val (.agg (kc N)) (by kernel_rfl) (exec_arr _ 64 (.tmp 5) rfl (w.heap.size+1) (by kernel_rfl) (kc N) 64 _ (hB.get 1 (x:=⟨w.heap.size+1,kc N,64⟩) rfl) Tryz.underlying64 rfl (by rw [Tryz.infoN,kc_size,hN])) ?_
 simp only [nrm]
 refine list_val (.slice s n cap) (by kernel_rfl) (by kernel_rfl) ?_
 simp only [nrm]
 refine list_val (.slice (some ⟨gx,0,none⟩) n2 n2) (by kernel_rfl) (by kernel_rfl) ?_
 simp only [nrm]
 refine list_call 72 #[.agg (kc K),.agg (kc N),.slice s n cap,.slice (some ⟨gx,0,none⟩) n2 n2] (by kernel_rfl) (by kernel_rfl) ((atag_ok K N hK hN (unhide hKb) (unhide hNb) A X s (some ⟨gx,0,none⟩) n n2 cap n2 _ ((unhide la).gr hB.gr) lx).mono ?_)
 rintro r u2 ⟨rfl,hg⟩
 refine ⟨_,rfl,?_⟩
 replace hB:=hB.more hg
 replace ob:=ob.gr hg
 clear hg lx
 have hYl:=tagL_len K N A X
 generalize tagL K N A X=Y at *
 simp only [nrm]
 replace hB:=hide hB
 (refine wpList_step fun K hK=>?_; replace hK:=hide hK; go_simp; refine unhide hK _ _ ?_; clear hK K)
 replace ob:=ob.gr ((Gr.refl u2).alloc (.cells #[.int .u8 0,.int .u8 0,.int .u8 0,.int .u8 0,.int .u8 0,.int .u8 0,.int .u8 0,.int .u8 0,.int .u8 0,.int .u8 0,.int .u8 0,.int .u8 0,.int .u8 0,.int .u8 0,.int .u8 0,.int .u8 0] 94 (0,0)))
 replace hB:=(unhide hB).new #[.int .u8 0,.int .u8 0,.int .u8 0,.int .u8 0,.int .u8 0,.int .u8 0,.int .u8 0,.int .u8 0,.int .u8 0,.int .u8 0,.int .u8 0,.int .u8 0,.int .u8 0,.int .u8 0,.int .u8 0,.int .u8 0] 94
 simp only [List.nil_append,List.cons_append] at hB
 generalize World.alloc _ _=u3 at *
 generalize u2.heap.size=h10 at *
 replace hB:Bl w [⟨w.heap.size,kc K,23⟩,⟨w.heap.size+1,kc N,64⟩,⟨h10,kc ZT,94⟩] u3:=hB
 have ob2:=ob.other (hB.get 2 (x:=⟨h10,kc ZT,94⟩) rfl) (show (94:TypeId)≠5 by decide) (kc Y)
 clear ob
 refine list_store 94 (.tmp 10) (.tmp 19) (h10) (kc Y) 94 (kc ZT) (by kernel_rfl) rfl (by kernel_rfl) (by kernel_rfl) (hB.get 2 (x:=⟨h10,kc ZT,94⟩) rfl) (by rw [Tryz.infoT,kc_size,hYl]) ((show (kc ZT).size=16 from rfl).trans ((kc_size _).trans hYl).symm) (kc_one _) ?_
 replace hB:=hB.set 2 (x:=⟨h10,kc ZT,94⟩) rfl (kc Y)
 simp only [List.set_cons_zero,List.set_cons_succ] at hB
 generalize World.setRow _ _ _=u4 at *
 simp only [nrm]
 refine wpList_nil ?_
 replace hB:=hide hB
 replace ob2:=hide ob2
 go_upto_region 3 with fail
 replace hB:=unhide hB
 replace ob2:=unhide ob2
 refine wp_region_lit ?_
 refine list_val (.slice (some ⟨gx,0,none⟩) n2 n2) (by kernel_rfl) (by kernel_rfl) ?_
 simp only [nrm]
 refine list_val (.slice (some ⟨h10,0,none⟩) 16 16) (by kernel_rfl) (by kernel_rfl) ?_
 simp only [nrm]
 refine app_bs (by kernel_rfl) (.tmp 20) (.tmp 21) rfl w.heap.size _ X rfl ob2 (some ⟨h10,0,none⟩) 16 16 Y rfl hYl (.inr ⟨h10,0,rfl,kc_at (hB.get 2 (x:=⟨h10,kc Y,94⟩) rfl)⟩) (by rw [unhide hXl]; omega) hB.gr.size ?_
 intro v2 u5 ob5 hgr
 simp only [nrm]
 have hG:=Ob.grown ob2 (Nat.le_refl _) hB.gr hgr
 rw [← unhide hSe] at ob5
 clear hgr ob2 hB
 (refine wpList_step fun K hK=>?_; replace hK:=hide hK; go_simp; refine unhide hK _ _ ?_; clear hK K)
 refine wpList_nil ?_
 have hP:Hid (Obd (sealL K N A P) w (.returned v2) u5):=⟨v2,rfl,ob5,hG⟩
 clear ob5 hG
 go_wp2_with fail
 rw [unhide hT]
 exact unhide hP
set_option maxHeartbeats 4000000 in
theorem count_ok (n:Int) (hn:0≤n) (w:World):Calls Tryz.prog 42 #[.int .u64 n] w (Tg (cntL n) w):=by
 obtain ⟨T,hT⟩:∃ T,T=Tg (cntL n) w:=⟨_,rfl⟩
 rw [← hT]
 replace hT:=hide hT
 go_enter Tryz.func42,Tryz.ntmps42
 go_upto_region 2 with fail
 have hB:=(((Bl.nil w).new #[.int .u8 0,.int .u8 0,.int .u8 0,.int .u8 0,.int .u8 0,.int .u8 0,.int .u8 0,.int .u8 0,.int .u8 0,.int .u8 0,.int .u8 0,.int .u8 0] 64).new #[.int .u8 0,.int .u8 0,.int .u8 0,.int .u8 0,.int .u8 0,.int .u8 0,.int .u8 0,.int .u8 0,.int .u8 0,.int .u8 0,.int .u8 0,.int .u8 0] 64)
 simp only [size_alloc,List.nil_append,List.cons_append] at hB
 generalize World.alloc _ _=u at *
 replace hB:Bl w [⟨w.heap.size,kc ZN,64⟩,⟨w.heap.size+1,kc ZN,64⟩] u:=hB
 refine any_start (S:=fun _=>True) (by kernel_rfl) ?_
 replace hB:=hB.drew
 generalize World.drew _=x0 at *
 simp only [List.size_toArray,List.length_cons,List.length_nil,Array.replicate,List.replicate]
 refine any_take (i:=0) (v:=(.slice (some ⟨w.heap.size+1,4,none⟩) 8 8)) #[false,false,false,false] rfl (by kernel_rfl) (by kernel_rfl) (by kernel_rfl) (by kernel_rfl) (fun _ _ _ h=>h) (.inl ⟨by kernel_rfl,fun x_ hu=>by kernel_rfl⟩) trivial ?_
 simp only [nrm]
 refine any_take (i:=1) (v:=(.int .u64 n)) #[true,false,false,false] rfl (by kernel_rfl) (by kernel_rfl) (by kernel_rfl) (by kernel_rfl) (fun _ _ _ h=>h) (.inl ⟨by kernel_rfl,fun x_ hu=>by kernel_rfl⟩) trivial ?_
 simp only [nrm]
 refine any_one (i:=2) (by kernel_rfl) rfl (fun K hK=>?_)
 refine step_callw (by kernel_rfl) 69 #[.slice none 0 0,.int .u64 n] (by kernel_rfl) ((put64_ok [] none 0 0 n hn (by omega) _ (Lb.nil0 _)).mono ?_)
 rintro r x1 ⟨gp,rfl,hgp,hp,hg⟩
 refine ⟨_,rfl,?_⟩
 replace hB:=hB.more hg
 rw [List.nil_append] at hp
 rw [List.nil_append,lowL_len]
 clear hg hgp
 refine hK.out _ _ trivial (fun _=>?_)
 clear hK K
 simp only [nrm]
 refine any_one (i:=3) (by kernel_rfl) rfl (fun K hK=>?_)
 rw [if_pos (by kernel_rfl)]
 refine copy_wp (.tmp 4) (.tmp 6) rfl (w.heap.size+1) 4 8 8 (some ⟨gp,0,none⟩) 8 8 (by kernel_rfl) (by kernel_rfl) (ZN.map (Value.int .u8)) 64 (hB.get 1 (x:=⟨w.heap.size+1,kc ZN,64⟩) rfl) (lowL n 8) (by rw [lowL_len]; rfl) (.inr ⟨gp,0,rfl,kc_at hp⟩) (by rw [lowL_len]; exact Nat.le_refl _) ?_
 have hcell:=laid (S:=lowL n 8) (o:=4) (hB.get 1 (x:=⟨w.heap.size+1,kc ZN,64⟩) rfl) (by rw [lowL_len]; exact Nat.le_refl _)
 rw [lay_cnt n] at hcell
 have hB2:=hB.but (setCells_bt ((lowL n 8).map (Value.int .u8)) x1 (w.heap.size+1) 4) 1 (x:=⟨w.heap.size+1,kc ZN,64⟩) rfl rfl hcell
 simp only [List.set_cons_zero,List.set_cons_succ] at hB2
 clear hcell hB
 generalize World.setCells _ _ _ _=x2 at *
 refine hK.out _ _ trivial (fun _=>?_)
 clear hK K
 simp only [nrm]
 refine any_done (by kernel_rfl) ?_
 rw [lowL_len]
 replace hB2:=hide hB2
 go_upto_region 3 with fail
 have hB:=unhide hB2
 clear hB2
 have hXl:=cntL_len n
 generalize cntL n=X at *
 refine wp_region_lit ?_
 refine list_val (.agg (kc X)) (by kernel_rfl) (exec_arr _ 64 (.tmp 3) rfl (w.heap.size+1) (by kernel_rfl) (kc X) 64 _ (hB.get 1 (x:=⟨w.heap.size+1,kc X,64⟩) rfl) Tryz.underlying64 rfl (by rw [Tryz.infoN,kc_size,hXl])) ?_
 simp only [nrm]
 refine list_store 64 (.tmp 2) (.tmp 8) (w.heap.size) (kc X) 64 (kc ZN) (by kernel_rfl) rfl (by kernel_rfl) (by kernel_rfl) (hB.get 0 (x:=⟨w.heap.size,kc ZN,64⟩) rfl) (by rw [Tryz.infoN,kc_size,hXl]) ((show (kc ZN).size=12 from rfl).trans ((kc_size _).trans hXl).symm) (kc_one _) ?_
 replace hB:=hB.set 0 (x:=⟨w.heap.size,kc ZN,64⟩) rfl (kc X)
 simp only [List.set_cons_zero,List.set_cons_succ] at hB
 generalize World.setRow _ _ _=x3 at *
 simp only [nrm]
 refine wpList_nil ?_
 replace hB:=hide hB
 go_wp2_with fail
 replace hB:=unhide hB
 rw [unhide hT]
 exact bodyPost_ret (v:=.agg (kc X)) (results_cell_row Tryz.results42 _ _ (w.heap.size) 64 (kc X) (0,0) _ rfl (hB.get 0 (x:=⟨w.heap.size,kc X,64⟩) rfl) Tryz.underlying64 rfl (by rw [Tryz.infoN,kc_size,hXl])) rfl (⟨rfl,hB.gr⟩)
def Opd (P:List Int) (w:World) (r:Ending) (w':World):Prop:=∃ g,r=.returned (.tuple #[.slice (some ⟨g,0,none⟩) P.length P.length,.int .i64 0])∧w.heap.size≤g∧w'.heap[g]?=some (.cells (kc P) 5 (0,0))∧Gr w w'
theorem seal_take (K N A P:List Int):(sealL K N A P).take P.length=xl K N 1 P:=by
 unfold sealL
 rw [List.take_append_of_le_length (by rw [xl_len]; exact Nat.le_refl _),List.take_of_length_le (by rw [xl_len]; exact Nat.le_refl _)]
theorem seal_drop (K N A P:List Int):(sealL K N A P).drop P.length=tagL K N A (xl K N 1 P):=by
 unfold sealL
 rw [List.drop_append_of_le_length (by rw [xl_len]; exact Nat.le_refl _),List.drop_of_length_le (by rw [xl_len]; exact Nat.le_refl _),List.nil_append]
set_option maxHeartbeats 4000000 in
theorem open_yes (K N:List Int) (hK:K.length=32) (hN:N.length=12) (hKb:IsB K) (hNb:IsB N) (A P:List Int) (hPb:IsB P) (s s2:Option Addr) (n n2 cap cap2:Nat) (hbig:n2≤20000) (w:World) (la:Lb w s n cap A) (ls:Lb w s2 n2 cap2 (sealL K N A P)):Calls Tryz.prog 51 #[.agg (kc K),.agg (kc N),.slice s n cap,.slice s2 n2 cap2] w (Opd P w):=by
 obtain ⟨T,hT⟩:∃ T,T=Opd P w:=⟨_,rfl⟩
 rw [← hT]
 replace hT:=hide hT
 have hl:=ls.len
 rw [sealL_len] at hl
 obtain ⟨m,hm⟩:∃ m,m=P.length:=⟨_,rfl⟩
 have hm16:n2=m+16:=by omega
 have hSt:=seal_take K N A P
 have hSd:=seal_drop K N A P
 have hxx:=xl_twice K N 1 P hPb
 rw [← hm] at hSt hSd
 generalize sealL K N A P=S at *
 obtain ⟨C,hC⟩:∃ C,C=xl K N 1 P:=⟨_,rfl⟩
 rw [← hC] at hSt hSd hxx
 have hCl:C.length=m:=by rw [hC,xl_len,hm]
 obtain ⟨Y,hY⟩:∃ Y,Y=tagL K N A C:=⟨_,rfl⟩
 have hYl:Y.length=16:=by rw [hY,tagL_len]
 rw [← hY] at hSd
 clear hC
 replace hPb:=hide hPb; replace hm:=hide hm; replace hxx:=hide hxx; replace hY:=hide hY
 have hcap:=ls.cap
 obtain ⟨c4,hc4⟩:∃ c,c=cap2 - m:=⟨_,rfl⟩
 obtain ⟨s3,hs3⟩:∃ x,x=if cap2=0 then s2 else s2.map (·.add 0):=⟨_,rfl⟩
 obtain ⟨s4,hs4⟩:∃ x,x=if cap2=m then s2 else s2.map (·.add m):=⟨_,rfl⟩
 have e16:n2 - m=16:=by omega
 have l3:Lb w s3 m cap2 C:=by
  have h:=ls.upto m (by omega)
  rw [hSt,← hs3] at h
  exact h
 have l4:Lb w s4 16 c4 Y:=by
  have h:=ls.rest m (by omega)
  rw [hSd,← hs4,← hc4,e16] at h
  exact h
 have hle:m≤n2:=by omega
 have i1:¬ (n2:Int)<16:=by omega
 have i2:(n2:Int) - 16=(m:Int):=by omega
 have i3:IntKind.i64.wrap (m:Int)=(m:Int):=by rw [IntKind.wrap_i64]; omega
 have i4:¬ n2<16:=by omega
 replace hc4:=hide hc4; replace hs3:=hide hs3; replace hs4:=hide hs4; replace e16:=hide e16; replace l3:=hide l3; replace l4:=hide l4; replace hm16:=hide hm16; replace hCl:=hide hCl
 clear ls hSt hSd
 obtain ⟨SK,hSK⟩:∃ S,S=kc K:=⟨_,rfl⟩
 obtain ⟨SN,hSN⟩:∃ S,S=kc N:=⟨_,rfl⟩
 rw [← hSK,← hSN]
 replace hSK:=hide hSK
 replace hSN:=hide hSN
 replace hKb:=hide hKb
 replace hNb:=hide hNb
 replace la:=hide la
 go_enter Tryz.func51,Tryz.ntmps51
 go_upto_region 3 with fail
 have hB:=(((Bl.nil w).new SK 23).new SN 64)
 simp only [size_alloc,List.nil_append,List.cons_append] at hB
 generalize World.alloc _ _=u at *
 rw [unhide hSK,unhide hSN] at hB
 replace hB:Bl w [⟨w.heap.size,kc K,23⟩,⟨w.heap.size+1,kc N,64⟩] u:=hB
 refine wp_region_lit ?_
 refine list_val (.slice s2 n2 cap2) (by kernel_rfl) (by kernel_rfl) ?_
 simp only [nrm]
 refine list_val (.int .i64 n2) (by kernel_rfl) (by kernel_rfl) ?_
 simp only [nrm]
 refine list_val (.int .i64 m) (by kernel_rfl) (by go_simp) ?_
 simp only [nrm]
 (refine wpList_step fun K hK=>?_; replace hK:=hide hK; go_simp; refine unhide hK _ _ ?_; clear hK K)
 refine wpList_nil ?_
 replace hB:=hide hB
 go_upto_region 4 with fail
 replace hB:=unhide hB
 refine any_start (S:=fun _=>True) (by kernel_rfl) ?_
 replace hB:=hB.drew
 generalize World.drew _=x0 at *
 simp only [List.size_toArray,List.length_cons,List.length_nil,Array.replicate,List.replicate]
 refine any_take (i:=0) (v:=(.slice s2 n2 cap2)) #[false,false,false,false,false,false,false,false] rfl (by kernel_rfl) (by kernel_rfl) (by kernel_rfl) (by kernel_rfl) (fun _ _ _ h=>h) (.inl ⟨by kernel_rfl,fun x_ hu=>by kernel_rfl⟩) trivial ?_
 simp only [nrm]
 refine any_take (i:=1) (v:=(.int .i64 m)) #[true,false,false,false,false,false,false,false] rfl (by kernel_rfl) (by kernel_rfl) (by kernel_rfl) (by kernel_rfl) (fun _ _ _ h=>h) (.inl ⟨by kernel_rfl,fun x_ hu=>by kernel_rfl⟩) trivial ?_
 simp only [nrm]
 refine any_take (i:=2) (v:=(.slice s3 m cap2)) #[true,true,false,false,false,false,false,false] rfl (by kernel_rfl) (by kernel_rfl) (by kernel_rfl) (by kernel_rfl) (fun _ _ _ h=>h) (.inl ⟨by kernel_rfl,fun x_ hu=>by rw [unhide hs3]; exact exec_upto _ (.tmp 20) (.tmp 21) rfl s2 n2 cap2 m rfl rfl hcap hle⟩) trivial ?_
 simp only [nrm]
 refine any_take (i:=3) (v:=(.slice s2 n2 cap2)) #[true,true,true,false,false,false,false,false] rfl (by kernel_rfl) (by kernel_rfl) (by kernel_rfl) (by kernel_rfl) (fun _ _ _ h=>h) (.inl ⟨by kernel_rfl,fun x_ hu=>by kernel_rfl⟩) trivial ?_
 simp only [nrm]
 refine any_take (i:=4) (v:=(.int .i64 m)) #[true,true,true,true,false,false,false,false] rfl (by kernel_rfl) (by kernel_rfl) (by kernel_rfl) (by kernel_rfl) (fun _ _ _ h=>h) (.inl ⟨by kernel_rfl,fun x_ hu=>by kernel_rfl⟩) trivial ?_
 simp only [nrm]
 refine any_take (i:=5) (v:=(.slice s4 16 c4)) #[true,true,true,true,true,false,false,false] rfl (by kernel_rfl) (by kernel_rfl) (by kernel_rfl) (by kernel_rfl) (fun _ _ _ h=>h) (.inl ⟨by kernel_rfl,fun x_ hu=>by rw [unhide hs4,unhide hc4,← unhide e16]; exact exec_from _ (.tmp 23) (.tmp 24) rfl s2 n2 cap2 m rfl rfl hcap hle⟩) trivial ?_
 simp only [nrm]
 refine any_one (i:=6) (by kernel_rfl) rfl (fun K_ hQ=>?_)
 replace hQ:=hide hQ
 go_simp
 refine (unhide hQ).out _ _ trivial (fun _=>?_)
 clear hQ K_
 refine any_one (i:=7) (by kernel_rfl) rfl (fun K_ hQ=>?_)
 replace hQ:=hide hQ
 go_simp
 refine (unhide hQ).out _ _ trivial (fun _=>?_)
 clear hQ K_
 refine any_done (by kernel_rfl) ?_
 replace hB:=hide hB
 go_upto_region 5 with fail
 replace hB:=unhide hB
 refine wp_region_lit ?_
 refine list_val (.agg (kc K)) (by kernel_rfl) (exec_arr _ 23 (.tmp 4) rfl (w.heap.size) (by kernel_rfl) (kc K) 23 _ (hB.get 0 (x:=⟨w.heap.size,kc K,23⟩) rfl) Tryz.underlying23 rfl (by rw [Tryz.infoKey,kc_size,hK])) ?_
 simp only [nrm]
 refine list_val (.agg (kc N)) (by kernel_rfl) (exec_arr _ 64 (.tmp 5) rfl (w.heap.size+1) (by kernel_rfl) (kc N) 64 _ (hB.get 1 (x:=⟨w.heap.size+1,kc N,64⟩) rfl) Tryz.underlying64 rfl (by rw [Tryz.infoN,kc_size,hN])) ?_
 simp only [nrm]
 refine list_val (.slice s n cap) (by kernel_rfl) (by kernel_rfl) ?_
 simp only [nrm]
 refine list_val (.slice s3 m cap2) (by kernel_rfl) (by kernel_rfl) ?_
 simp only [nrm]
 refine list_call 72 #[.agg (kc K),.agg (kc N),.slice s n cap,.slice s3 m cap2] (by kernel_rfl) (by kernel_rfl) ((atag_ok K N hK hN (unhide hKb) (unhide hNb) A C s s3 n m cap cap2 _ ((unhide la).gr hB.gr) ((unhide l3).gr hB.gr)).mono ?_)
 rintro r u2 ⟨rfl,hg⟩
 refine ⟨_,rfl,?_⟩
 replace hB:=hB.more hg
 rw [← unhide hY]
 clear hg
 simp only [nrm]
 replace hB:=hide hB
 (refine wpList_step fun K hK=>?_; replace hK:=hide hK; go_simp; refine unhide hK _ _ ?_; clear hK K)
 replace hB:=(unhide hB).new #[.int .u8 0,.int .u8 0,.int .u8 0,.int .u8 0,.int .u8 0,.int .u8 0,.int .u8 0,.int .u8 0,.int .u8 0,.int .u8 0,.int .u8 0,.int .u8 0,.int .u8 0,.int .u8 0,.int .u8 0,.int .u8 0] 94
 simp only [List.nil_append,List.cons_append] at hB
 generalize World.alloc _ _=u3 at *
 generalize u2.heap.size=h10 at *
 replace hB:Bl w [⟨w.heap.size,kc K,23⟩,⟨w.heap.size+1,kc N,64⟩,⟨h10,kc ZT,94⟩] u3:=hB
 refine list_store 94 (.tmp 13) (.tmp 30) (h10) (kc Y) 94 (kc ZT) (by kernel_rfl) rfl (by kernel_rfl) (by kernel_rfl) (hB.get 2 (x:=⟨h10,kc ZT,94⟩) rfl) (by rw [Tryz.infoT,kc_size,hYl]) ((show (kc ZT).size=16 from rfl).trans ((kc_size _).trans hYl).symm) (kc_one _) ?_
 replace hB:=hB.set 2 (x:=⟨h10,kc ZT,94⟩) rfl (kc Y)
 simp only [List.set_cons_zero,List.set_cons_succ] at hB
 generalize World.setRow _ _ _=u4 at *
 simp only [nrm]
 refine wpList_nil ?_
 replace hB:=hide hB
 go_upto_region 6 with fail
 replace hB:=unhide hB
 refine wp_region_lit ?_
 refine list_val (.slice (some ⟨h10,0,none⟩) 16 16) (by kernel_rfl) (by kernel_rfl) ?_
 simp only [nrm]
 refine list_val (.slice s4 16 c4) (by kernel_rfl) (by kernel_rfl) ?_
 simp only [nrm]
 refine list_call 50 #[.slice (some ⟨h10,0,none⟩) 16 16,.slice s4 16 c4] (by kernel_rfl) (by kernel_rfl) ((oequal_ok Y Y _ s4 16 16 c4 (by omega) _ (kc_lb (hB.get 2 (x:=⟨h10,kc Y,94⟩) rfl) hYl (by rw [unhide hY]; exact tagL_isB _ _ _ _) (by omega)) ((unhide l4).gr hB.gr)).mono ?_)
 rintro r u5 ⟨rfl,rfl⟩
 refine ⟨_,rfl,?_⟩
 rw [decide_eq_true (rfl:Y=Y)]
 simp only [nrm]
 refine list_val (.bool false) (by kernel_rfl) (by kernel_rfl) ?_
 simp only [nrm]
 refine wpList_nil ?_
 replace hB:=hide hB
 go_upto_region 8 with fail
 replace hB:=unhide hB
 refine wp_region_lit ?_
 refine list_val (.agg (kc K)) (by kernel_rfl) (exec_arr _ 23 (.tmp 4) rfl (w.heap.size) (by kernel_rfl) (kc K) 23 _ (hB.get 0 (x:=⟨w.heap.size,kc K,23⟩) rfl) Tryz.underlying23 rfl (by rw [Tryz.infoKey,kc_size,hK])) ?_
 simp only [nrm]
 refine list_val (.agg (kc N)) (by kernel_rfl) (exec_arr _ 64 (.tmp 5) rfl (w.heap.size+1) (by kernel_rfl) (kc N) 64 _ (hB.get 1 (x:=⟨w.heap.size+1,kc N,64⟩) rfl) Tryz.underlying64 rfl (by rw [Tryz.infoN,kc_size,hN])) ?_
 simp only [nrm]
 refine list_val (.slice s3 m cap2) (by kernel_rfl) (by kernel_rfl) ?_
 simp only [nrm]
 have hgw:=hB.gr.size
 refine list_call 71 #[.agg (kc K),.int .u32 1,.agg (kc N),.slice s3 m cap2] (by kernel_rfl) (by kernel_rfl) ((xor_ok K N hK hN (unhide hKb) (unhide hNb) 1 ⟨by decide,by decide⟩ C _ m cap2 (by omega) _ ((unhide l3).gr hB.gr)).mono ?_)
 rintro r u6 ⟨gx,rfl,hgx,hx,hg⟩
 refine ⟨_,rfl,?_⟩
 replace hB:=hB.more hg
 rw [unhide hxx] at hx
 rw [unhide hCl]
 replace hgx:=Nat.le_trans hgw hgx
 clear hg hgw
 simp only [nrm]
 (refine wpList_step fun K hK=>?_; replace hK:=hide hK; go_simp; refine unhide hK _ _ ?_; clear hK K)
 (refine wpList_step fun K hK=>?_; replace hK:=hide hK; go_simp; refine unhide hK _ _ ?_; clear hK K)
 refine wpList_nil ?_
 have hP:Hid (Opd P w (.returned (.tuple #[.slice (some ⟨gx,0,none⟩) m m,.int .i64 0])) u6):=⟨gx,by rw [← unhide hm],hgx,hx,hB.gr⟩
 clear hB hx hgx
 go_wp2_with fail
 rw [unhide hT]
 exact unhide hP
end Go.Proofs.YthahhglbeafkmaaGreatDoor
namespace Go.Proofs.YthahhglbeafkmaaGreatDoor
open Go.RowKit
set_option maxRecDepth 100000
set_option linter.unusedSimpArgs false
set_option linter.unusedVariables false
theorem Ob.nil (b:Nat) (w:World):Ob b w (.slice none 0 0) []:=⟨rfl,.inl ⟨rfl,rfl⟩⟩
set_option maxHeartbeats 4000000 in
theorem reight_ok (n:Int) (hn:0≤n) (hn2:n<18446744073709551616) (w:World):Calls Tryz.prog 75 #[.int .u64 n] w (Obd (lowL n 8) w):=by
 obtain ⟨T,hT⟩:∃ T,T=Obd (lowL n 8) w:=⟨_,rfl⟩
 rw [← hT]
 replace hT:=hide hT
 have hG:Hid (Gr w w):=Gr.refl w
 go_enter Tryz.func75,Tryz.ntmps75
 go_wp2_with fail
 go_loopw [4,3] (fun i o wr=>∃ i':Nat,∃ v:Value,∃ L:List Int,i'≤8∧i=.int .i64 i'∧v=o∧Hid (L=lowL n i')∧Hid (Ob w.heap.size wr v L)∧Hid (Gr w wr)) (fun i _ _=>8 - (intOf i).toNat)
 case atStart=>exact ⟨0,_,[],by omega,rfl,rfl,(show ([]:List Int)=lowL n 0 from rfl),Ob.nil _ _,hG⟩
 case round =>
 clear hG
 obtain ⟨i,v,L,hi,rfl,rfl,hL,ob,hG⟩:=hrel
 by_cases hl:i<8
 ·have iI:(i:Int)<8:=by omega
  have hLl:L.length=i:=by rw [unhide hL,lowL_len]
  obtain ⟨x,hx⟩:∃ x:Int,x=n / 256 ^ i % 256:=⟨_,rfl⟩
  have hL2:Hid (L++[x]=lowL n (i+1)):=by
   show L++[x]=_
   rw [lowL_snoc,unhide hL,hx]
  obtain ⟨k,hk⟩:∃ k,k=8 * i:=⟨_,rfl⟩
  have e1:(8:Int) * (i:Int)=(k:Int):=by omega
  have e2:IntKind.i64.wrap (k:Int)=(k:Int):=by rw [IntKind.wrap_i64]; omega
  obtain ⟨q,hq⟩:∃ q,n / 2 ^ k=q:=⟨_,rfl⟩
  have hkk:min k 64=k:=by omega
  have e3:n / 2 ^ min k 64=q:=by rw [hkk]; exact hq
  have e4:IntKind.u8.wrap q=x:=by
   rw [IntKind.wrap_u8',hx,← hq,hk,Int.pow_mul]
   rfl
  have hx0:0≤x∧x<256:=by omega
  replace hx:=hide hx
  replace hk:=hide hk
  clear hkk
  go_upto_region 5 with fail
  replace hG:=unhide hG
  replace ob:=unhide ob
  refine wp_region_lit ?_
  refine list_val v (by kernel_rfl) (by kernel_rfl) ?_
  simp only [nrm]
  refine list_val (.int .u64 n) (by kernel_rfl) (by kernel_rfl) ?_
  simp only [nrm]
  refine list_val (.int .i64 i) (by kernel_rfl) (by kernel_rfl) ?_
  simp only [nrm]
  refine list_val (.int .i64 k) (by kernel_rfl) (by go_simp) ?_
  simp only [nrm]
  refine list_val (.int .u64 q) (by kernel_rfl) (by go_simp) ?_
  simp only [nrm]
  refine list_val (.int .u8 x) (by kernel_rfl) (by go_simp) ?_
  simp only [nrm]
  refine list_valw (.slice (some ⟨wr.heap.size,0,none⟩) 1 1) (wr.alloc (.cells (kc [x]) 5 (0,0))) (by kernel_rfl) (by kernel_rfl) ?_
  simp only [nrm]
  have hnew:=blk_new wr (.cells (kc [x]) 5 (0,0))
  have hgx:=(Gr.refl wr).alloc (.cells (kc [x]) 5 (0,0))
  replace hG:=hG.trans hgx
  replace ob:=ob.gr hgx
  clear hgx
  generalize World.alloc _ _=w1 at *
  generalize wr.heap.size=g1 at *
  refine app_bs (by kernel_rfl) (.tmp 9) (.tmp 15) rfl w.heap.size v L rfl ob (some ⟨g1,0,none⟩) 1 1 [x] rfl rfl (.inr ⟨g1,0,rfl,kc_at hnew⟩) (by omega) hG.size ?_
  intro v2 w2 ob2 hgr
  simp only [nrm]
  replace hG:=Ob.grown ob (Nat.le_refl _) hG hgr
  clear hgr hnew ob
  (refine wpList_step fun K hK=>?_; replace hK:=hide hK; go_simp; refine unhide hK _ _ ?_; clear hK K)
  refine wpList_nil ?_
  replace hG:=hide hG
  replace ob2:=hide ob2
  clear e1 e2 e3 e4 hq
  go_wp2_with fail
  go_roundw
  case rel=>exact ⟨i+1,v2,_,by omega,by go_num,rfl,hL2,ob2,hG⟩
  case measure=>simp [intOf]; omega
 ·have iI:¬ (i:Int)<8:=by omega
  have e:i=8:=by omega
  have hP:Hid (Obd (lowL n 8) w (.returned v) wr):=⟨v,rfl,by rw [← e,← unhide hL]; exact unhide ob,unhide hG⟩
  clear ob hG hL e
  go_wp2_with fail
  rw [unhide hT]
  exact unhide hP
set_option maxHeartbeats 4000000 in
theorem rfilled_ok (B:List Int) (a:Option Addr) (n cap:Nat) (hbig:n≤100000) (w:World) (lb:Lb w a n cap B):Calls Tryz.prog 74 #[.slice a n cap] w (Obd (pd B) w):=by
 obtain ⟨T,hT⟩:∃ T,T=Obd (pd B) w:=⟨_,rfl⟩
 rw [← hT]
 replace hT:=hide hT
 have hn:=hide lb.len
 replace lb:=hide lb
 go_enter Tryz.func74,Tryz.ntmps74
 go_upto_region 1 with fail
 refine wp_region_lit ?_
 refine list_valw (.slice (some ⟨w.heap.size,0,none⟩) 0 0) (w.alloc (.cells (kc []) 5 (0,0))) (by kernel_rfl) (by kernel_rfl) ?_
 simp only [nrm]
 have hG:=(Gr.refl w).alloc (.cells (kc []) 5 (0,0))
 have ob:Ob w.heap.size (w.alloc (.cells (kc []) 5 (0,0))) (.slice (some ⟨w.heap.size,0,none⟩) 0 0) []:=ob_of (blk_new _ _) rfl (Nat.le_refl _) (by omega)
 generalize World.alloc _ _=w1 at *
 refine list_val (.slice a n cap) (by kernel_rfl) (by kernel_rfl) ?_
 simp only [nrm]
 refine app_bs (by kernel_rfl) (.tmp 4) (.tmp 5) rfl w.heap.size _ [] rfl ob _ n cap B rfl (unhide hn) ((unhide lb).gr hG).sl (by simp; omega) hG.size ?_
 intro v2 w2 ob2 hgr
 simp only [nrm]
 replace hG:=Ob.grown ob (Nat.le_refl _) hG hgr
 rw [List.nil_append] at ob2
 clear hgr ob
 (refine wpList_step fun K hK=>?_; replace hK:=hide hK; go_simp; refine unhide hK _ _ ?_; clear hK K)
 refine wpList_nil ?_
 have hBl:Hid (B.length=n):=hn
 replace hG:=hide hG
 replace ob2:=hide ob2
 go_wp2_with fail
 go_loopw [3] (fun o wr=>∃ k:Nat,∃ a':Option Addr,∃ c':Nat,∃ m:Nat,∃ L:List Int,o=.slice a' m c'∧Hid (m=n+k)∧k≤padz n∧Hid (L=B++List.replicate k 0)∧Hid (Ob w.heap.size wr (.slice a' m c') L)∧Hid (Gr w wr)) (fun o _=>n+padz n - slen o)
 case atStart =>
  obtain ⟨a',c',h1,_⟩:=(unhide ob2).slice
  rw [unhide hBl] at h1
  exact ⟨0,a',c',n,B,h1,rfl,Nat.zero_le _,(List.append_nil B).symm,by rw [← h1]; exact ob2,hG⟩
 case round =>
 clear hG ob2
 obtain ⟨k,a',c',m,L,rfl,hm,hk,hL,ob,hG⟩:=hrel
 have hLl:Hid (L.length=m):=by
  show L.length=m
  rw [unhide hL,List.length_append,unhide hBl,List.length_replicate,unhide hm]
 obtain ⟨r,hr⟩:∃ r,r=m % 16:=⟨_,rfl⟩
 have e1:Int.tmod (m:Int) 16=(r:Int):=by rw [Int.tmod_eq_emod_of_nonneg (by omega)]; omega
 have hmb:m≤200000:=by have:=unhide hm; have:=padz_lt n; omega
 by_cases hl:k<padz n
 ·have r0:¬ (r:Int)=0:=by have:=unhide hm; unfold padz at hl; omega
  have r00:¬ r=0:=by omega
  have hL2:Hid (L++[0]=B++List.replicate (k+1) 0):=by
   show L++[0]=_
   rw [unhide hL,List.append_assoc,← List.replicate_succ']
  have hm2:Hid (m+1=n+(k+1)):=by have:=unhide hm; show m+1=_; omega
  replace hr:=hide hr
  go_upto_region 3 with fail
  replace hG:=unhide hG
  replace ob:=unhide ob
  refine wp_region_lit ?_
  refine list_val (.slice a' m c') (by kernel_rfl) (by kernel_rfl) ?_
  simp only [nrm]
  refine list_valw (.slice (some ⟨wr.heap.size,0,none⟩) 1 1) (wr.alloc (.cells (kc [0]) 5 (0,0))) (by kernel_rfl) (by kernel_rfl) ?_
  simp only [nrm]
  have hnew:=blk_new wr (.cells (kc [0]) 5 (0,0))
  have hgx:=(Gr.refl wr).alloc (.cells (kc [0]) 5 (0,0))
  replace hG:=hG.trans hgx
  replace ob:=ob.gr hgx
  clear hgx
  generalize World.alloc _ _=w1 at *
  generalize wr.heap.size=g1 at *
  refine app_bs (by kernel_rfl) (.tmp 11) (.tmp 12) rfl w.heap.size _ L rfl ob (some ⟨g1,0,none⟩) 1 1 [0] rfl rfl (.inr ⟨g1,0,rfl,kc_at hnew⟩) (by rw [unhide hLl]; omega) hG.size ?_
  intro v2 w2 ob2 hgr
  simp only [nrm]
  replace hG:=Ob.grown ob (Nat.le_refl _) hG hgr
  clear hgr hnew ob
  obtain ⟨a2,c2,rfl,_⟩:=ob2.slice
  rw [List.length_append,unhide hLl,List.length_cons,List.length_nil,Nat.zero_add] at ob2 ⊢
  (refine wpList_step fun K hK=>?_; replace hK:=hide hK; go_simp; refine unhide hK _ _ ?_; clear hK K)
  refine wpList_nil ?_
  replace hG:=hide hG
  replace ob2:=hide ob2
  clear e1 r0 r00
  go_wp2_with fail
  go_roundw
  case rel=>exact ⟨k+1,a2,c2,m+1,_,rfl,hm2,by omega,hL2,ob2,hG⟩
  case measure =>
   have:=unhide hm
   simp [slen]
   omega
 ·have r0:(r:Int)=0:=by
   have:=unhide hm
   have h9:k=padz n:=by omega
   unfold padz at h9
   omega
  have r00:r=0:=by omega
  have hP:Hid (Obd (pd B) w (.returned (.slice a' m c')) wr):=⟨_,rfl,by
   have h9:k=padz n:=by omega
   have h8:L=pd B:=by
    rw [unhide hL,h9]
    unfold pd
    rw [unhide hBl]
   rw [← h8]
   exact unhide ob,unhide hG⟩
  clear ob hG hL
  replace hr:=hide hr
  go_wp2_with fail
  rw [unhide hT]
  exact unhide hP
end Go.Proofs.YthahhglbeafkmaaGreatDoor
namespace Go.Proofs.YthahhglbeafkmaaGreatDoor
open Go.RowKit
set_option maxRecDepth 100000
set_option linter.unusedSimpArgs false
set_option linter.unusedVariables false
theorem nobyte {a b c d e:Blk} (ha:a.t≠5) (hb:b.t≠5) (hc:c.t≠5) (hd:d.t≠5) (he:e.t≠5):∀ x ∈ [a,b,c,d,e],x.t≠5:=by
 intro x hx
 simp only [List.mem_cons,List.not_mem_nil,or_false] at hx
 rcases hx with rfl | rfl | rfl | rfl | rfl <;> assumption
set_option maxHeartbeats 4000000 in
theorem rtag_ok (K N:List Int) (hK:K.length=32) (hN:N.length=12) (hKb:IsB K) (hNb:IsB N) (A C:List Int) (s s2:Option Addr) (n n2 cap cap2:Nat) (hbn:n≤20000) (hbn2:n2≤20000) (w:World) (la:Lb w s n cap A) (lc:Lb w s2 n2 cap2 C):Calls Tryz.prog 49 #[.agg (kc K),.agg (kc N),.slice s n cap,.slice s2 n2 cap2] w (Tg (tagL K N A C) w):=by
 obtain ⟨T,hT⟩:∃ T,T=Tg (tagL K N A C) w:=⟨_,rfl⟩
 rw [← hT]
 replace hT:=hide hT
 obtain ⟨SK,hSK⟩:∃ S,S=kc K:=⟨_,rfl⟩
 obtain ⟨SN,hSN⟩:∃ S,S=kc N:=⟨_,rfl⟩
 rw [← hSK,← hSN]
 replace hSK:=hide hSK
 replace hSN:=hide hSN
 have e1:IntKind.u64.wrap (n:Int)=(n:Int):=by rw [IntKind.wrap_u64]; omega
 have e2:IntKind.u64.wrap (n2:Int)=(n2:Int):=by rw [IntKind.wrap_u64]; omega
 have hAl:=hide la.len
 have hCl:=hide lc.len
 have hAb:=hide la.isB
 have hCb:=hide lc.isB
 replace hKb:=hide hKb
 replace hNb:=hide hNb
 replace la:=hide la
 replace lc:=hide lc
 go_enter Tryz.func49,Tryz.ntmps49
 go_upto_region 1 with fail
 have hB:=((((Bl.nil w).new SK 23).new SN 64).new #[.int .u8 0,.int .u8 0,.int .u8 0,.int .u8 0,.int .u8 0,.int .u8 0,.int .u8 0,.int .u8 0,.int .u8 0,.int .u8 0,.int .u8 0,.int .u8 0,.int .u8 0,.int .u8 0,.int .u8 0,.int .u8 0] 94)
 simp only [size_alloc,List.nil_append,List.cons_append] at hB
 generalize World.alloc _ _=u at *
 rw [unhide hSK,unhide hSN] at hB
 replace hB:Bl w [⟨w.heap.size,kc K,23⟩,⟨w.heap.size+1,kc N,64⟩,⟨w.heap.size+1+1,kc ZT,94⟩] u:=hB
 refine wp_region_lit ?_
 refine list_val (.agg (kc K)) (by kernel_rfl) (exec_arr _ 23 (.tmp 4) rfl (w.heap.size) (by kernel_rfl) (kc K) 23 _ (hB.get 0 (x:=⟨w.heap.size,kc K,23⟩) rfl) Tryz.underlying23 rfl (by rw [Tryz.infoKey,kc_size,hK])) ?_
 simp only [nrm]
 refine list_val (.agg (kc N)) (by kernel_rfl) (exec_arr _ 64 (.tmp 5) rfl (w.heap.size+1) (by kernel_rfl) (kc N) 64 _ (hB.get 1 (x:=⟨w.heap.size+1,kc N,64⟩) rfl) Tryz.underlying64 rfl (by rw [Tryz.infoN,kc_size,hN])) ?_
 simp only [nrm]
 refine list_call 38 #[.agg (kc K),.int .u32 0,.agg (kc N)] (by kernel_rfl) (by kernel_rfl) ((rblock_ok K N hK hN (unhide hKb) (unhide hNb) 0 _).mono ?_)
 rintro r u1 ⟨rfl,hg⟩
 refine ⟨_,rfl,?_⟩
 replace hB:=hB.more hg
 clear hg
 obtain ⟨D,hD⟩:∃ D,D=bk K N 0:=⟨_,rfl⟩
 rw [← hD]
 have hDl:D.length=64:=by rw [hD,bk_len]
 replace hD:=hide hD
 simp only [nrm]
 replace hB:=hide hB
 (refine wpList_step fun K hK=>?_; replace hK:=hide hK; go_simp; refine unhide hK _ _ ?_; clear hK K)
 replace hB:=(unhide hB).new #[.int .u8 0,.int .u8 0,.int .u8 0,.int .u8 0,.int .u8 0,.int .u8 0,.int .u8 0,.int .u8 0,.int .u8 0,.int .u8 0,.int .u8 0,.int .u8 0,.int .u8 0,.int .u8 0,.int .u8 0,.int .u8 0,.int .u8 0,.int .u8 0,.int .u8 0,.int .u8 0,.int .u8 0,.int .u8 0,.int .u8 0,.int .u8 0,.int .u8 0,.int .u8 0,.int .u8 0,.int .u8 0,.int .u8 0,.int .u8 0,.int .u8 0,.int .u8 0,.int .u8 0,.int .u8 0,.int .u8 0,.int .u8 0,.int .u8 0,.int .u8 0,.int .u8 0,.int .u8 0,.int .u8 0,.int .u8 0,.int .u8 0,.int .u8 0,.int .u8 0,.int .u8 0,.int .u8 0,.int .u8 0,.int .u8 0,.int .u8 0,.int .u8 0,.int .u8 0,.int .u8 0,.int .u8 0,.int .u8 0,.int .u8 0,.int .u8 0,.int .u8 0,.int .u8 0,.int .u8 0,.int .u8 0,.int .u8 0,.int .u8 0,.int .u8 0] 87
 simp only [List.nil_append,List.cons_append] at hB
 generalize World.alloc _ _=u2 at *
 generalize u1.heap.size=h9 at *
 replace hB:Bl w [⟨w.heap.size,kc K,23⟩,⟨w.heap.size+1,kc N,64⟩,⟨w.heap.size+1+1,kc ZT,94⟩,⟨h9,kc Z64,87⟩] u2:=hB
 refine list_store 87 (.tmp 9) (.tmp 14) (h9) (kc D) 87 (kc Z64) (by kernel_rfl) rfl (by kernel_rfl) (by kernel_rfl) (hB.get 3 (x:=⟨h9,kc Z64,87⟩) rfl) (by rw [Tryz.info64,kc_size,hDl]) ((show (kc Z64).size=64 from rfl).trans ((kc_size _).trans hDl).symm) (kc_one _) ?_
 replace hB:=hB.set 3 (x:=⟨h9,kc Z64,87⟩) rfl (kc D)
 simp only [List.set_cons_zero,List.set_cons_succ] at hB
 generalize World.setRow _ _ _=u3 at *
 simp only [nrm]
 refine wpList_nil ?_
 replace hB:=hide hB
 go_upto_region 2 with fail
 replace hB:=unhide hB
 refine wp_region_lit ?_
 replace hB:=hide hB
 (refine wpList_step fun K hK=>?_; replace hK:=hide hK; go_simp; refine unhide hK _ _ ?_; clear hK K)
 replace hB:=(unhide hB).new #[.int .u8 0,.int .u8 0,.int .u8 0,.int .u8 0,.int .u8 0,.int .u8 0,.int .u8 0,.int .u8 0,.int .u8 0,.int .u8 0,.int .u8 0,.int .u8 0,.int .u8 0,.int .u8 0,.int .u8 0,.int .u8 0,.int .u8 0,.int .u8 0,.int .u8 0,.int .u8 0,.int .u8 0,.int .u8 0,.int .u8 0,.int .u8 0,.int .u8 0,.int .u8 0,.int .u8 0,.int .u8 0,.int .u8 0,.int .u8 0,.int .u8 0,.int .u8 0] 23
 simp only [List.nil_append,List.cons_append] at hB
 generalize World.alloc _ _=u4 at *
 generalize u3.heap.size=h10 at *
 replace hB:Bl w [⟨w.heap.size,kc K,23⟩,⟨w.heap.size+1,kc N,64⟩,⟨w.heap.size+1+1,kc ZT,94⟩,⟨h9,kc D,87⟩,⟨h10,kc ZK,23⟩] u4:=hB
 refine wpList_nil ?_
 replace hB:=hide hB
 go_upto_region 3 with fail
 replace hB:=unhide hB
 refine any_start (S:=fun _=>True) (by kernel_rfl) ?_
 replace hB:=hB.drew
 generalize World.drew _=x0 at *
 simp only [List.size_toArray,List.length_cons,List.length_nil,Array.replicate,List.replicate]
 refine any_take (i:=0) (v:=(.slice (some ⟨h10,0,none⟩) 32 32)) #[false,false,false] rfl (by kernel_rfl) (by kernel_rfl) (by kernel_rfl) (by kernel_rfl) (fun _ _ _ h=>h) (.inl ⟨by kernel_rfl,fun x_ hu=>by kernel_rfl⟩) trivial ?_
 simp only [nrm]
 refine any_take (i:=1) (v:=(.slice (some ⟨h9,0,none⟩) 32 64)) #[true,false,false] rfl (by kernel_rfl) (by kernel_rfl) (by kernel_rfl) (by kernel_rfl) (fun _ _ _ h=>h) (.inl ⟨by kernel_rfl,fun x_ hu=>by kernel_rfl⟩) trivial ?_
 simp only [nrm]
 refine any_one (i:=2) (by kernel_rfl) rfl (fun K_ hQ=>?_)
 rw [if_pos (by kernel_rfl)]
 obtain ⟨E,hE⟩:∃ E,E=D.take 32:=⟨_,rfl⟩
 have hEl:E.length=32:=by rw [hE,List.length_take,hDl]; rfl
 refine copy_wp (.tmp 15) (.tmp 16) rfl h10 0 32 32 (some ⟨h9,0,none⟩) 32 64 (by kernel_rfl) (by kernel_rfl) (ZK.map (Value.int .u8)) 23 (hB.get 4 (x:=⟨h10,kc ZK,23⟩) rfl) E (by rw [hEl]; rfl) (.inr ⟨h9,0,rfl,by rw [hE]; exact (kc_at (hB.get 3 (x:=⟨h9,kc D,87⟩) rfl)).take 32⟩) (by rw [hEl]; exact Nat.le_refl _) ?_
 have hcell:=laid (S:=E) (o:=0) (hB.get 4 (x:=⟨h10,kc ZK,23⟩) rfl) (by rw [hEl]; exact Nat.le_refl _)
 rw [lay_all ZK E hEl] at hcell
 have hB2:=hB.but (setCells_bt (E.map (Value.int .u8)) x0 h10 0) 4 (x:=⟨h10,kc ZK,23⟩) rfl rfl hcell
 simp only [List.set_cons_zero,List.set_cons_succ] at hB2
 clear hcell hB
 generalize World.setCells _ _ _ _=x1 at *
 refine hQ.out _ _ trivial (fun _=>?_)
 clear hQ K_
 simp only [nrm]
 refine any_done (by kernel_rfl) ?_
 rw [hEl]
 have hB:=hB2
 clear hB2
 have hTg:Hid (tagL K N A C=mcL E (tin A C)):=by
  show tagL K N A C=_
  unfold tagL otk
  rw [hE,unhide hD]
 have hEb:Hid (IsB E):=by rw [hE,unhide hD]; exact (bk_isB _ _ _).take 32
 replace hE:=hide hE
 replace hB:=hide hB
 go_upto_region 4 with fail
 replace hB:=unhide hB
 refine wp_region_lit ?_
 refine list_val (.slice s n cap) (by kernel_rfl) (by kernel_rfl) ?_
 simp only [nrm]
 have hgw:=hB.gr.size
 refine list_call 74 #[.slice s n cap] (by kernel_rfl) (by kernel_rfl) ((rfilled_ok A s n cap (by omega) _ ((unhide la).gr hB.gr)).mono ?_)
 rintro r x3 ⟨v1,rfl,ob,hg⟩
 refine ⟨_,rfl,?_⟩
 replace hB:=hB.more hg
 replace ob:=ob.up hgw
 clear hg hgw
 simp only [nrm]
 refine list_val (.slice s2 n2 cap2) (by kernel_rfl) (by kernel_rfl) ?_
 simp only [nrm]
 refine list_call 74 #[.slice s2 n2 cap2] (by kernel_rfl) (by kernel_rfl) ((rfilled_ok C s2 n2 cap2 (by omega) _ ((unhide lc).gr hB.gr)).mono ?_)
 rintro r x4 ⟨v2,rfl,ob2,hg⟩
 refine ⟨_,rfl,?_⟩
 replace hB:=hB.more hg
 replace ob:=ob.gr hg
 obtain ⟨a2,c2,rfl,l2⟩:=ob2.lb (pd_isB (unhide hCb))
 obtain ⟨m2,hm2⟩:∃ m,(pd C).length=m:=⟨_,rfl⟩
 rw [hm2] at l2 ⊢
 have hm2b:m2≤20016:=by rw [← hm2,pd_len,unhide hCl]; have:=padz_lt n2; omega
 have hAb2:(pd A).length≤20016:=by rw [pd_len,unhide hAl]; have:=padz_lt n; omega
 clear hg ob2
 simp only [nrm]
 refine app_bs (by kernel_rfl) (.tmp 19) (.tmp 21) rfl w.heap.size v1 (pd A) rfl ob a2 m2 c2 (pd C) rfl hm2 l2.sl (by omega) hB.gr.size ?_
 intro v3 x5 ob3 hgr
 simp only [nrm]
 replace hB:=hB.grown ob (Nat.le_refl _) hgr (nobyte (show (23:TypeId)≠5 by decide) (show (64:TypeId)≠5 by decide) (show (94:TypeId)≠5 by decide) (show (87:TypeId)≠5 by decide) (show (23:TypeId)≠5 by decide))
 have hLb:(pd A++pd C).length≤40032:=by rw [List.length_append,hm2]; omega
 clear hgr ob l2
 (refine wpList_step fun K hK=>?_; replace hK:=hide hK; go_simp; refine unhide hK _ _ ?_; clear hK K)
 refine wpList_nil ?_
 replace hB:=hide hB
 replace ob3:=hide ob3
 go_upto_region 5 with fail
 replace hB:=unhide hB
 replace ob3:=unhide ob3
 refine wp_region_lit ?_
 refine list_val v3 (by kernel_rfl) (by kernel_rfl) ?_
 simp only [nrm]
 refine list_val (.slice s n cap) (by kernel_rfl) (by kernel_rfl) ?_
 simp only [nrm]
 refine list_val (.int .i64 n) (by kernel_rfl) (by kernel_rfl) ?_
 simp only [nrm]
 refine list_val (.int .u64 n) (by kernel_rfl) (by go_simp) ?_
 simp only [nrm]
 refine list_call 75 #[.int .u64 n] (by kernel_rfl) (by kernel_rfl) ((reight_ok n (by omega) (by omega) _).mono ?_)
 rintro r x6 ⟨v4,rfl,obe,hg⟩
 refine ⟨_,rfl,?_⟩
 replace hB:=hB.more hg
 replace ob3:=ob3.gr hg
 obtain ⟨a6,c6,rfl,l6⟩:=obe.lb (lowL_isB _ _)
 rw [lowL_len] at l6 ⊢
 clear hg obe
 simp only [nrm]
 refine app_bs (by kernel_rfl) (.tmp 23) (.tmp 27) rfl w.heap.size v3 (pd A++pd C) rfl ob3 a6 8 c6 (lowL (n:Int) 8) rfl (lowL_len _ _) l6.sl (by omega) hB.gr.size ?_
 intro v5 x7 ob5 hgr
 simp only [nrm]
 replace hB:=hB.grown ob3 (Nat.le_refl _) hgr (nobyte (show (23:TypeId)≠5 by decide) (show (64:TypeId)≠5 by decide) (show (94:TypeId)≠5 by decide) (show (87:TypeId)≠5 by decide) (show (23:TypeId)≠5 by decide))
 clear hgr ob3 l6
 (refine wpList_step fun K hK=>?_; replace hK:=hide hK; go_simp; refine unhide hK _ _ ?_; clear hK K)
 refine wpList_nil ?_
 replace hB:=hide hB
 replace ob5:=hide ob5
 go_upto_region 6 with fail
 replace hB:=unhide hB
 replace ob5:=unhide ob5
 refine any_start (S:=fun v=>∃ z,Bl w [⟨w.heap.size,kc K,23⟩,⟨w.heap.size+1,kc N,64⟩,⟨w.heap.size+1+1,z,94⟩,⟨h9,kc D,87⟩,⟨h10,kc E,23⟩] v) (by kernel_rfl) ?_
 replace hB:=hB.drew
 replace ob5:=ob5.gr (Gr.refl _).drew
 generalize World.drew _=y0 at *
 simp only [List.size_toArray,List.length_cons,List.length_nil,Array.replicate,List.replicate]
 refine any_take (i:=0) (v:=(.agg (kc E))) #[false,false,false,false,false,false,false,false,false] rfl (by kernel_rfl) (by kernel_rfl) (by kernel_rfl) (by kernel_rfl) (fun _ _ _ h=>h) (.inl ⟨by kernel_rfl,fun x_ hu=>by obtain ⟨z,hz⟩:=hu; exact exec_arr _ 23 (.tmp 10) rfl (h10) (by kernel_rfl) (kc E) 23 _ (hz.get 4 (x:=⟨h10,kc E,23⟩) rfl) Tryz.underlying23 rfl (by rw [Tryz.infoKey,kc_size,hEl])⟩) ⟨_,hB⟩ ?_
 simp only [nrm]
 refine any_take (i:=1) (v:=v5) #[true,false,false,false,false,false,false,false,false] rfl (by kernel_rfl) (by kernel_rfl) (by kernel_rfl) (by kernel_rfl) (fun _ _ _ h=>h) (.inl ⟨by kernel_rfl,fun x_ hu=>by kernel_rfl⟩) ⟨_,hB⟩ ?_
 simp only [nrm]
 refine any_take (i:=2) (v:=(.slice s2 n2 cap2)) #[true,true,false,false,false,false,false,false,false] rfl (by kernel_rfl) (by kernel_rfl) (by kernel_rfl) (by kernel_rfl) (fun _ _ _ h=>h) (.inl ⟨by kernel_rfl,fun x_ hu=>by kernel_rfl⟩) ⟨_,hB⟩ ?_
 simp only [nrm]
 refine any_take (i:=3) (v:=(.int .i64 n2)) #[true,true,true,false,false,false,false,false,false] rfl (by kernel_rfl) (by kernel_rfl) (by kernel_rfl) (by kernel_rfl) (fun _ _ _ h=>h) (.inl ⟨by kernel_rfl,fun x_ hu=>by kernel_rfl⟩) ⟨_,hB⟩ ?_
 simp only [nrm]
 refine any_take (i:=4) (v:=(.int .u64 n2)) #[true,true,true,true,false,false,false,false,false] rfl (by kernel_rfl) (by kernel_rfl) (by kernel_rfl) (by kernel_rfl) (fun _ _ _ h=>h) (.inl ⟨by kernel_rfl,fun x_ hu=>by go_simp⟩) ⟨_,hB⟩ ?_
 simp only [nrm]
 refine any_one (i:=5) (by kernel_rfl) rfl (fun K_ hQ=>?_)
 refine step_callw (by kernel_rfl) 75 #[.int .u64 n2] (by kernel_rfl) ((reight_ok n2 (by omega) (by omega) _).mono ?_)
 rintro r y1 ⟨v6,rfl,obe,hg⟩
 refine ⟨_,rfl,?_⟩
 replace hB:=hB.more hg
 replace ob5:=ob5.gr hg
 obtain ⟨a7,c7,rfl,l7⟩:=obe.lb (lowL_isB _ _)
 rw [lowL_len] at l7 ⊢
 clear hg obe
 refine hQ.out _ _ ⟨_,hB⟩ (fun _=>?_)
 clear hQ K_
 simp only [nrm]
 refine any_one (i:=6) (by kernel_rfl) rfl (fun K_ hQ=>?_)
 rw [if_pos (by kernel_rfl)]
 refine app_op (.tmp 30) (.tmp 34) rfl w.heap.size v5 (pd A++pd C++lowL (n:Int) 8) rfl ob5 a7 8 c7 (lowL (n2:Int) 8) rfl (lowL_len _ _) l7.sl (by rw [List.length_append,lowL_len]; omega) hB.gr.size ?_
 intro v8 y2 ob8 hgr
 replace hB:=hB.grown ob5 (Nat.le_refl _) hgr (nobyte (show (23:TypeId)≠5 by decide) (show (64:TypeId)≠5 by decide) (show (94:TypeId)≠5 by decide) (show (87:TypeId)≠5 by decide) (show (23:TypeId)≠5 by decide))
 clear hgr ob5 l7
 have hti:pd A++pd C++lowL (n:Int) 8++lowL (n2:Int) 8=tin A C:=by
  unfold tin
  rw [unhide hAl,unhide hCl,List.append_assoc (pd A++pd C)]
 obtain ⟨m8,hm8⟩:∃ m,(tin A C).length=m:=⟨_,rfl⟩
 have hm8b:m8≤40048:=by
  rw [← hm8,← hti,List.length_append,List.length_append,lowL_len,lowL_len]
  omega
 rw [hti] at ob8
 have htb:IsB (tin A C):=by
  rw [← hti]
  exact (((pd_isB (unhide hAb)).append (pd_isB (unhide hCb))).append (lowL_isB _ _)).append (lowL_isB _ _)
 obtain ⟨a8,c8,rfl,l8⟩:=ob8.lb htb
 rw [hm8] at l8 ⊢
 refine hQ.out _ _ ⟨_,hB⟩ (fun _=>?_)
 clear hQ K_ ob8 htb
 simp only [nrm]
 refine any_one (i:=7) (by kernel_rfl) rfl (fun K_ hQ=>?_)
 refine step_callw (by kernel_rfl) 76 #[.agg (kc E),.slice a8 m8 c8] (by kernel_rfl) ((rmac_ok E (tin A C) hEl (unhide hEb) a8 m8 c8 (by omega) _ l8).mono ?_)
 rintro r y3 ⟨rfl,hg⟩
 refine ⟨_,rfl,?_⟩
 replace hB:=hB.more hg
 rw [← unhide hTg]
 have hXl:=tagL_len K N A C
 clear hTg hg l8 hti
 generalize tagL K N A C=X at *
 refine hQ.out _ _ ⟨_,hB⟩ (fun _=>?_)
 clear hQ K_
 simp only [nrm]
 refine any_one (i:=8) (by kernel_rfl) rfl (fun K_ hQ=>?_)
 rw [if_pos (by kernel_rfl)]
 refine wp_store_row 94 (.tmp 8) (.tmp 36) rfl (w.heap.size+1+1) (kc X) (by kernel_rfl) (by kernel_rfl) 94 (kc ZT) (hB.get 2 (x:=⟨w.heap.size+1+1,kc ZT,94⟩) rfl) (by rw [Tryz.infoT,kc_size,hXl]) ((show (kc ZT).size=16 from rfl).trans ((kc_size _).trans hXl).symm) (kc_one _) ?_
 have hB9:=hB.set 2 (x:=⟨w.heap.size+1+1,kc ZT,94⟩) rfl (kc X)
 simp only [List.set_cons_zero,List.set_cons_succ] at hB9
 generalize World.setRow _ _ _=y4 at *
 refine hQ.out _ _ ⟨_,hB9⟩ (fun _=>?_)
 clear hQ K_
 simp only [nrm]
 refine any_done (by kernel_rfl) ?_
 clear hB
 replace hB9:=hide hB9
 go_wp2_with fail
 have hB:=unhide hB9
 rw [unhide hT]
 exact bodyPost_ret (v:=.agg (kc X)) (results_cell_row Tryz.results49 _ _ (w.heap.size+1+1) 94 (kc X) (0,0) _ rfl (hB.get 2 (x:=⟨w.heap.size+1+1,kc X,94⟩) rfl) Tryz.underlying94 rfl (by rw [Tryz.infoT,kc_size,hXl])) rfl (⟨rfl,hB.gr⟩)
set_option maxHeartbeats 4000000 in
theorem rseal_ok (K N:List Int) (hK:K.length=32) (hN:N.length=12) (hKb:IsB K) (hNb:IsB N) (A P:List Int) (s s2:Option Addr) (n n2 cap cap2:Nat) (hbn:n≤20000) (hbig:n2≤20000) (w:World) (la:Lb w s n cap A) (lp:Lb w s2 n2 cap2 P):Calls Tryz.prog 25 #[.agg (kc K),.agg (kc N),.slice s n cap,.slice s2 n2 cap2] w (Obd (sealL K N A P) w):=by
 obtain ⟨T,hT⟩:∃ T,T=Obd (sealL K N A P) w:=⟨_,rfl⟩
 rw [← hT]
 replace hT:=hide hT
 obtain ⟨SK,hSK⟩:∃ S,S=kc K:=⟨_,rfl⟩
 obtain ⟨SN,hSN⟩:∃ S,S=kc N:=⟨_,rfl⟩
 rw [← hSK,← hSN]
 replace hSK:=hide hSK
 replace hSN:=hide hSN
 have hPl:=hide lp.len
 replace hKb:=hide hKb
 replace hNb:=hide hNb
 replace la:=hide la
 replace lp:=hide lp
 go_enter Tryz.func25,Tryz.ntmps25
 go_upto_region 1 with fail
 have hB:=(((Bl.nil w).new SK 23).new SN 64)
 simp only [size_alloc,List.nil_append,List.cons_append] at hB
 generalize World.alloc _ _=u at *
 rw [unhide hSK,unhide hSN] at hB
 replace hB:Bl w [⟨w.heap.size,kc K,23⟩,⟨w.heap.size+1,kc N,64⟩] u:=hB
 refine wp_region_lit ?_
 refine list_val (.agg (kc K)) (by kernel_rfl) (exec_arr _ 23 (.tmp 4) rfl (w.heap.size) (by kernel_rfl) (kc K) 23 _ (hB.get 0 (x:=⟨w.heap.size,kc K,23⟩) rfl) Tryz.underlying23 rfl (by rw [Tryz.infoKey,kc_size,hK])) ?_
 simp only [nrm]
 refine list_val (.agg (kc N)) (by kernel_rfl) (exec_arr _ 64 (.tmp 5) rfl (w.heap.size+1) (by kernel_rfl) (kc N) 64 _ (hB.get 1 (x:=⟨w.heap.size+1,kc N,64⟩) rfl) Tryz.underlying64 rfl (by rw [Tryz.infoN,kc_size,hN])) ?_
 simp only [nrm]
 refine list_val (.slice s2 n2 cap2) (by kernel_rfl) (by kernel_rfl) ?_
 simp only [nrm]
 have hgw:=hB.gr.size
 refine list_call 48 #[.agg (kc K),.int .u32 1,.agg (kc N),.slice s2 n2 cap2] (by kernel_rfl) (by kernel_rfl) ((rxor_ok K N hK hN (unhide hKb) (unhide hNb) 1 P _ n2 cap2 (by omega) _ ((unhide lp).gr hB.gr)).mono ?_)
 rintro r u1 ⟨vx,rfl,ob,hg⟩
 refine ⟨_,rfl,?_⟩
 replace hB:=hB.more hg
 have hXl:Hid ((xl K N 1 P).length=n2):=by rw [xl_len]; exact unhide hPl
 have hXb:=hide (xl_isB K N 1 P)
 have hSe:Hid (sealL K N A P=xl K N 1 P++tagL K N A (xl K N 1 P)):=rfl
 generalize xl K N 1 P=X at *
 replace ob:=ob.up hgw
 obtain ⟨cs,cc,rfl,lx⟩:=ob.lb (unhide hXb)
 rw [unhide hXl] at lx ob ⊢
 clear hg hgw
 simp only [nrm]
 (refine wpList_step fun K hK=>?_; replace hK:=hide hK; go_simp; refine unhide hK _ _ ?_; clear hK K)
 refine wpList_nil ?_
 replace hB:=hide hB
 replace ob:=hide ob
 replace lx:=hide lx
 go_upto_region 2 with fail
 replace hB:=unhide hB
 replace ob:=unhide ob
 replace lx:=unhide lx
 refine wp_region_lit ?_
 refine list_val (.agg (kc K)) (by kernel_rfl) (exec_arr _ 23 (.tmp 4) rfl (w.heap.size) (by kernel_rfl) (kc K) 23 _ (hB.get 0 (x:=⟨w.heap.size,kc K,23⟩) rfl) Tryz.underlying23 rfl (by rw [Tryz.infoKey,kc_size,hK])) ?_
 simp only [nrm]
 refine list_val (.agg (kc N)) (by kernel_rfl) (exec_arr _ 64 (.tmp 5) rfl (w.heap.size+1) (by kernel_rfl) (kc N) 64 _ (hB.get 1 (x:=⟨w.heap.size+1,kc N,64⟩) rfl) Tryz.underlying64 rfl (by rw [Tryz.infoN,kc_size,hN])) ?_
 simp only [nrm]
 refine list_val (.slice s n cap) (by kernel_rfl) (by kernel_rfl) ?_
 simp only [nrm]
 refine list_val (.slice cs n2 cc) (by kernel_rfl) (by kernel_rfl) ?_
 simp only [nrm]
 refine list_call 49 #[.agg (kc K),.agg (kc N),.slice s n cap,.slice cs n2 cc] (by kernel_rfl) (by kernel_rfl) ((rtag_ok K N hK hN (unhide hKb) (unhide hNb) A X s cs n n2 cap cc hbn hbig _ ((unhide la).gr hB.gr) lx).mono ?_)
 rintro r u2 ⟨rfl,hg⟩
 refine ⟨_,rfl,?_⟩
 replace hB:=hB.more hg
 replace ob:=ob.gr hg
 clear hg lx
 have hYl:=tagL_len K N A X
 generalize tagL K N A X=Y at *
 simp only [nrm]
 replace hB:=hide hB
 (refine wpList_step fun K hK=>?_; replace hK:=hide hK; go_simp; refine unhide hK _ _ ?_; clear hK K)
 replace ob:=ob.gr ((Gr.refl u2).alloc (.cells #[.int .u8 0,.int .u8 0,.int .u8 0,.int .u8 0,.int .u8 0,.int .u8 0,.int .u8 0,.int .u8 0,.int .u8 0,.int .u8 0,.int .u8 0,.int .u8 0,.int .u8 0,.int .u8 0,.int .u8 0,.int .u8 0] 94 (0,0)))
 replace hB:=(unhide hB).new #[.int .u8 0,.int .u8 0,.int .u8 0,.int .u8 0,.int .u8 0,.int .u8 0,.int .u8 0,.int .u8 0,.int .u8 0,.int .u8 0,.int .u8 0,.int .u8 0,.int .u8 0,.int .u8 0,.int .u8 0,.int .u8 0] 94
 simp only [List.nil_append,List.cons_append] at hB
 generalize World.alloc _ _=u3 at *
 generalize u2.heap.size=h10 at *
 replace hB:Bl w [⟨w.heap.size,kc K,23⟩,⟨w.heap.size+1,kc N,64⟩,⟨h10,kc ZT,94⟩] u3:=hB
 have ob2:=ob.other (hB.get 2 (x:=⟨h10,kc ZT,94⟩) rfl) (show (94:TypeId)≠5 by decide) (kc Y)
 clear ob
 refine list_store 94 (.tmp 10) (.tmp 19) (h10) (kc Y) 94 (kc ZT) (by kernel_rfl) rfl (by kernel_rfl) (by kernel_rfl) (hB.get 2 (x:=⟨h10,kc ZT,94⟩) rfl) (by rw [Tryz.infoT,kc_size,hYl]) ((show (kc ZT).size=16 from rfl).trans ((kc_size _).trans hYl).symm) (kc_one _) ?_
 replace hB:=hB.set 2 (x:=⟨h10,kc ZT,94⟩) rfl (kc Y)
 simp only [List.set_cons_zero,List.set_cons_succ] at hB
 generalize World.setRow _ _ _=u4 at *
 simp only [nrm]
 refine wpList_nil ?_
 replace hB:=hide hB
 replace ob2:=hide ob2
 go_upto_region 3 with fail
 replace hB:=unhide hB
 replace ob2:=unhide ob2
 refine wp_region_lit ?_
 refine list_val (.slice cs n2 cc) (by kernel_rfl) (by kernel_rfl) ?_
 simp only [nrm]
 refine list_val (.slice (some ⟨h10,0,none⟩) 16 16) (by kernel_rfl) (by kernel_rfl) ?_
 simp only [nrm]
 refine app_bs (by kernel_rfl) (.tmp 20) (.tmp 21) rfl w.heap.size _ X rfl ob2 (some ⟨h10,0,none⟩) 16 16 Y rfl hYl (.inr ⟨h10,0,rfl,kc_at (hB.get 2 (x:=⟨h10,kc Y,94⟩) rfl)⟩) (by rw [unhide hXl]; omega) hB.gr.size ?_
 intro v2 u5 ob5 hgr
 simp only [nrm]
 have hG:=Ob.grown ob2 (Nat.le_refl _) hB.gr hgr
 rw [← unhide hSe] at ob5
 clear hgr ob2 hB
 (refine wpList_step fun K hK=>?_; replace hK:=hide hK; go_simp; refine unhide hK _ _ ?_; clear hK K)
 refine wpList_nil ?_
 have hP:Hid (Obd (sealL K N A P) w (.returned v2) u5):=⟨v2,rfl,ob5,hG⟩
 clear ob5 hG
 go_wp2_with fail
 rw [unhide hT]
 exact unhide hP
end Go.Proofs.YthahhglbeafkmaaGreatDoor
