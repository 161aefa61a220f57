/-
  What the proof leans on.
-/
import Derived.Deep.QuietTactic
import Derived.BigQuiet
import Derived.OpenShut
import Derived.Lib.AppendStr
import Derived.Test.YthahhglbeafkmaaGreatDoorCK4
namespace Go.Proofs.YthahhglbeafkmaaGreatDoor
open Go.RowKit
set_option maxRecDepth 100000
set_option linter.unusedSimpArgs false
set_option linter.unusedVariables false
theorem left_ok (x:Int) (n:Nat) (hn:1≤n∧n≤31) (w:World) :
  Calls Tryz.prog 84 #[.int .u32 x,.int .i64 n] w (fun r w'=>r=.returned (.int .u32 (lt x n))∧w'=w.drew):=by
 obtain ⟨m,hm⟩:∃ m,m=32 - n:=⟨_,rfl⟩
 have e1:32 - (n:Int)=(m:Int):=by omega
 have e2:IntKind.i64.wrap (m:Int)=(m:Int):=by rw [IntKind.wrap_i64]; omega
 have m0:0≤(m:Int):=by omega
 have n0:0≤(n:Int):=by omega
 replace hm:=hide hm
 go_enter Tryz.func84,Tryz.ntmps84
 go_wp2_with fail
 go_still_tail 8,(by kernel_rfl)
 go_wp2_with fail
 refine bodyPost_ret (v:=.int .u32 (lt x n)) ?_ rfl ⟨rfl,rfl⟩
 unfold lt
 rw [← unhide hm]
 simp [results,Tryz.results84,go_sem]
theorem left_int (x m:Int) (hm:1≤m∧m≤31) (w:World) :
  Calls Tryz.prog 84 #[.int .u32 x,.int .i64 m] w (fun r w'=>r=.returned (.int .u32 (lt x m.toNat))∧w'=w.drew):=by
 obtain ⟨n,rfl⟩:=Int.eq_ofNat_of_zero_le (a:=m) (by omega)
 exact left_ok x n (by omega) w
set_option maxHeartbeats 4000000 in
theorem rquarter_ok (a b c d:Int) (w:World):Calls Tryz.prog 66 #[.agg (uc [a,b,c,d])] w (Rnd (ql (quar a b c d)) w):=by
 obtain ⟨T,hT⟩:∃ T,T=Rnd (ql (quar a b c d)) w:=⟨_,rfl⟩
 rw [← hT]
 unfold Rnd at hT
 replace hT:=hide hT
 obtain ⟨SA,hSA⟩:∃ S,S=uc [a,b,c,d]:=⟨_,rfl⟩
 rw [← hSA]
 replace hSA:=hide hSA
 go_enter Tryz.func66,Tryz.ntmps66
 go_upto_region 1 with fail
 have hB:=((Bl.nil w).new SA 117).new #[.int .u32 0,.int .u32 0,.int .u32 0,.int .u32 0] 117
 simp only [size_alloc,List.nil_append,List.cons_append] at hB
 generalize World.alloc _ _=u at *
 rw [unhide hSA] at hB
 replace hB:Bl w [⟨w.heap.size,uc [a,b,c,d],117⟩,⟨w.heap.size+1,uc [0,0,0,0],117⟩] u:=hB
 have c0:u.cell? ⟨w.heap.size,0,none⟩=some (.int .u32 a):=uc_cell (hB.get 0 (x:=⟨w.heap.size,uc [a,b,c,d],117⟩) rfl) 0 (by simp)
 have c1:u.cell? ⟨w.heap.size,1,none⟩=some (.int .u32 b):=uc_cell (hB.get 0 (x:=⟨w.heap.size,uc [a,b,c,d],117⟩) rfl) 1 (by simp)
 have c2:u.cell? ⟨w.heap.size,2,none⟩=some (.int .u32 c):=uc_cell (hB.get 0 (x:=⟨w.heap.size,uc [a,b,c,d],117⟩) rfl) 2 (by simp)
 have c3:u.cell? ⟨w.heap.size,3,none⟩=some (.int .u32 d):=uc_cell (hB.get 0 (x:=⟨w.heap.size,uc [a,b,c,d],117⟩) rfl) 3 (by simp)
 replace hB:=hide hB
 go_quiet (fail)
 replace hB:=(unhide hB).drewN nq
 clear c0 c1 c2 c3
 generalize World.drewN _ _=v at *
 replace hB:=hide hB
 go_upto_region 2 with fail
 refine wp_region_lit ?_
 refine list_val (.int .u32 a) (by kernel_rfl) (by kernel_rfl) ?_
 simp only [nrm]
 refine list_val (.int .u32 b) (by kernel_rfl) (by kernel_rfl) ?_
 simp only [nrm]
 refine list_val (.int .u32 (ad a b)) (by kernel_rfl) (by kernel_rfl) ?_
 simp only [nrm]
 generalize e1:(ad a b)=x1
 replace e1:=hide e1
 replace hB:=hide hB
 (refine wpList_step fun K hK=>?_; replace hK:=hide hK; go_simp; refine unhide hK _ _ ?_; clear hK K)
 replace hB:=unhide hB
 refine wpList_nil ?_
 replace hB:=hide hB
 go_upto_region 3 with fail
 replace hB:=unhide hB
 refine wp_region_lit ?_
 refine list_val (.int .u32 d) (by kernel_rfl) (by kernel_rfl) ?_
 simp only [nrm]
 refine list_val (.int .u32 x1) (by kernel_rfl) (by kernel_rfl) ?_
 simp only [nrm]
 refine list_val (.int .u32 (xr d x1)) (by kernel_rfl) (by kernel_rfl) ?_
 simp only [nrm]
 refine list_call 84 #[.int .u32 (xr d x1),.int .i64 16] (by kernel_rfl) (by kernel_rfl) ((left_int (xr d x1) 16 (by omega) _).mono ?_)
 rintro r v ⟨rfl,rfl⟩
 refine ⟨_,rfl,?_⟩
 replace hB:=hB.drew
 generalize World.drew _=v at *
 rw [show Int.toNat 16=16 from rfl]
 simp only [nrm]
 generalize e2:(lt (xr d x1) 16)=x2
 replace e2:=hide e2
 replace hB:=hide hB
 (refine wpList_step fun K hK=>?_; replace hK:=hide hK; go_simp; refine unhide hK _ _ ?_; clear hK K)
 replace hB:=unhide hB
 refine wpList_nil ?_
 replace hB:=hide hB
 go_upto_region 4 with fail
 replace hB:=unhide hB
 refine wp_region_lit ?_
 refine list_val (.int .u32 c) (by kernel_rfl) (by kernel_rfl) ?_
 simp only [nrm]
 refine list_val (.int .u32 x2) (by kernel_rfl) (by kernel_rfl) ?_
 simp only [nrm]
 refine list_val (.int .u32 (ad c x2)) (by kernel_rfl) (by kernel_rfl) ?_
 simp only [nrm]
 generalize e3:(ad c x2)=x3
 replace e3:=hide e3
 replace hB:=hide hB
 (refine wpList_step fun K hK=>?_; replace hK:=hide hK; go_simp; refine unhide hK _ _ ?_; clear hK K)
 replace hB:=unhide hB
 refine wpList_nil ?_
 replace hB:=hide hB
 go_upto_region 5 with fail
 replace hB:=unhide hB
 refine wp_region_lit ?_
 refine list_val (.int .u32 b) (by kernel_rfl) (by kernel_rfl) ?_
 simp only [nrm]
 refine list_val (.int .u32 x3) (by kernel_rfl) (by kernel_rfl) ?_
 simp only [nrm]
 refine list_val (.int .u32 (xr b x3)) (by kernel_rfl) (by kernel_rfl) ?_
 simp only [nrm]
 refine list_call 84 #[.int .u32 (xr b x3),.int .i64 12] (by kernel_rfl) (by kernel_rfl) ((left_int (xr b x3) 12 (by omega) _).mono ?_)
 rintro r v ⟨rfl,rfl⟩
 refine ⟨_,rfl,?_⟩
 replace hB:=hB.drew
 generalize World.drew _=v at *
 rw [show Int.toNat 12=12 from rfl]
 simp only [nrm]
 generalize e4:(lt (xr b x3) 12)=x4
 replace e4:=hide e4
 replace hB:=hide hB
 (refine wpList_step fun K hK=>?_; replace hK:=hide hK; go_simp; refine unhide hK _ _ ?_; clear hK K)
 replace hB:=unhide hB
 refine wpList_nil ?_
 replace hB:=hide hB
 go_upto_region 6 with fail
 replace hB:=unhide hB
 refine wp_region_lit ?_
 refine list_val (.int .u32 x1) (by kernel_rfl) (by kernel_rfl) ?_
 simp only [nrm]
 refine list_val (.int .u32 x4) (by kernel_rfl) (by kernel_rfl) ?_
 simp only [nrm]
 refine list_val (.int .u32 (ad x1 x4)) (by kernel_rfl) (by kernel_rfl) ?_
 simp only [nrm]
 generalize e5:(ad x1 x4)=x5
 replace e5:=hide e5
 replace hB:=hide hB
 (refine wpList_step fun K hK=>?_; replace hK:=hide hK; go_simp; refine unhide hK _ _ ?_; clear hK K)
 replace hB:=unhide hB
 refine wpList_nil ?_
 replace hB:=hide hB
 go_upto_region 7 with fail
 replace hB:=unhide hB
 refine wp_region_lit ?_
 refine list_val (.int .u32 x2) (by kernel_rfl) (by kernel_rfl) ?_
 simp only [nrm]
 refine list_val (.int .u32 x5) (by kernel_rfl) (by kernel_rfl) ?_
 simp only [nrm]
 refine list_val (.int .u32 (xr x2 x5)) (by kernel_rfl) (by kernel_rfl) ?_
 simp only [nrm]
 refine list_call 84 #[.int .u32 (xr x2 x5),.int .i64 8] (by kernel_rfl) (by kernel_rfl) ((left_int (xr x2 x5) 8 (by omega) _).mono ?_)
 rintro r v ⟨rfl,rfl⟩
 refine ⟨_,rfl,?_⟩
 replace hB:=hB.drew
 generalize World.drew _=v at *
 rw [show Int.toNat 8=8 from rfl]
 simp only [nrm]
 generalize e6:(lt (xr x2 x5) 8)=x6
 replace e6:=hide e6
 replace hB:=hide hB
 (refine wpList_step fun K hK=>?_; replace hK:=hide hK; go_simp; refine unhide hK _ _ ?_; clear hK K)
 replace hB:=unhide hB
 refine wpList_nil ?_
 replace hB:=hide hB
 go_upto_region 8 with fail
 replace hB:=unhide hB
 refine wp_region_lit ?_
 refine list_val (.int .u32 x3) (by kernel_rfl) (by kernel_rfl) ?_
 simp only [nrm]
 refine list_val (.int .u32 x6) (by kernel_rfl) (by kernel_rfl) ?_
 simp only [nrm]
 refine list_val (.int .u32 (ad x3 x6)) (by kernel_rfl) (by kernel_rfl) ?_
 simp only [nrm]
 generalize e7:(ad x3 x6)=x7
 replace e7:=hide e7
 replace hB:=hide hB
 (refine wpList_step fun K hK=>?_; replace hK:=hide hK; go_simp; refine unhide hK _ _ ?_; clear hK K)
 replace hB:=unhide hB
 refine wpList_nil ?_
 replace hB:=hide hB
 go_upto_region 9 with fail
 replace hB:=unhide hB
 refine wp_region_lit ?_
 refine list_val (.int .u32 x4) (by kernel_rfl) (by kernel_rfl) ?_
 simp only [nrm]
 refine list_val (.int .u32 x7) (by kernel_rfl) (by kernel_rfl) ?_
 simp only [nrm]
 refine list_val (.int .u32 (xr x4 x7)) (by kernel_rfl) (by kernel_rfl) ?_
 simp only [nrm]
 refine list_call 84 #[.int .u32 (xr x4 x7),.int .i64 7] (by kernel_rfl) (by kernel_rfl) ((left_int (xr x4 x7) 7 (by omega) _).mono ?_)
 rintro r v ⟨rfl,rfl⟩
 refine ⟨_,rfl,?_⟩
 replace hB:=hB.drew
 generalize World.drew _=v at *
 rw [show Int.toNat 7=7 from rfl]
 simp only [nrm]
 generalize e8:(lt (xr x4 x7) 7)=x8
 replace e8:=hide e8
 replace hB:=hide hB
 (refine wpList_step fun K hK=>?_; replace hK:=hide hK; go_simp; refine unhide hK _ _ ?_; clear hK K)
 replace hB:=unhide hB
 refine wpList_nil ?_
 replace hB:=hide hB
 go_upto_region 10 with fail
 replace hB:=unhide hB
 refine wp_region_lit ?_
 refine list_val (.int .u32 x5) (by kernel_rfl) (by kernel_rfl) ?_
 simp only [nrm]
 refine list_val (.int .u32 x8) (by kernel_rfl) (by kernel_rfl) ?_
 simp only [nrm]
 refine list_val (.int .u32 x7) (by kernel_rfl) (by kernel_rfl) ?_
 simp only [nrm]
 refine list_val (.int .u32 x6) (by kernel_rfl) (by kernel_rfl) ?_
 simp only [nrm]
 refine list_val (.agg (uc [x5,x8,x7,x6])) (by kernel_rfl) (by kernel_rfl) ?_
 simp only [nrm]
 refine list_store 117 (.tmp 2) (.tmp 47) (w.heap.size+1) (uc [x5,x8,x7,x6]) 117 (uc [0,0,0,0]) (by kernel_rfl) rfl (by kernel_rfl) (by kernel_rfl) (hB.get 1 (x:=⟨w.heap.size+1,uc [0,0,0,0],117⟩) rfl) (by rw [Tryz.info4,uc_size,(show [x5,x8,x7,x6].length=4 from rfl)]) ((show (uc [0,0,0,0]).size=4 from rfl).trans ((uc_size _).trans (show [x5,x8,x7,x6].length=4 from rfl)).symm) (uc_one _) ?_
 replace hB:=hB.set 1 (x:=⟨w.heap.size+1,uc [0,0,0,0],117⟩) rfl (uc [x5,x8,x7,x6])
 simp only [List.set_cons_zero,List.set_cons_succ] at hB
 generalize World.setRow _ _ _=u9 at *
 simp only [nrm]
 refine wpList_nil ?_
 replace hB:=hide hB
 go_wp2_with fail
 replace hB:=unhide hB
 rw [unhide hT]
 exact bodyPost_ret (v:=.agg (uc [x5,x8,x7,x6])) (results_cell_row Tryz.results66 _ _ (w.heap.size+1) 117 (uc [x5,x8,x7,x6]) (0,0) _ rfl (hB.get 1 (x:=⟨w.heap.size+1,uc [x5,x8,x7,x6],117⟩) rfl) Tryz.underlying117 rfl (by rw [Tryz.info4,uc_size,(show [x5,x8,x7,x6].length=4 from rfl)])) rfl (⟨by rw [ql,quar,unhide e1,unhide e2,unhide e3,unhide e4,unhide e5,unhide e6,unhide e7,unhide e8],hB.gr⟩)
def wd (K:List Int) (o:Nat):Int:=bits .or .u32 (bits .or .u32 (bits .or .u32 (K.getD o 0) (K.getD (o+1) 0 * 256)) (K.getD (o+2) 0 * 65536)) (K.getD (o+3) 0 * 16777216)
theorem rword_ok (K:List Int) (hb:IsB K) (g o n cap:Nat) (hn:n=K.length - o) (ho:o+4≤K.length) (w:World) (h:w.heap[g]?=some (.cells (kc K) 23 (0,0))∨w.heap[g]?=some (.cells (kc K) 64 (0,0))) (hg:o+3<K.length) :
  Calls Tryz.prog 64 #[.slice (some ⟨g,o,none⟩) n cap] w (fun r w'=>r=.returned (.int .u32 (wd K o))∧Gr w w'):=by
 have hc:∀ j,j<4→w.cell? ⟨g,o+j,none⟩=some (.int .u8 (K.getD (o+j) 0)):=fun j hj=>by
  rcases h with h | h
  ·exact kc_cell h _ (by omega)
  ·exact kc_cell h _ (by omega)
 have c0:=hc 0 (by omega)
 have c1:=hc 1 (by omega)
 have c2:=hc 2 (by omega)
 have c3:=hc 3 (by omega)
 rw [Nat.add_zero] at c0
 have b0:=hb.at_ o
 have b1:=hb.at_ (o+1)
 have b2:=hb.at_ (o+2)
 have b3:=hb.at_ (o+3)
 unfold wd
 generalize K.getD o 0=x0 at *
 generalize K.getD (o+1) 0=x1 at *
 generalize K.getD (o+2) 0=x2 at *
 generalize K.getD (o+3) 0=x3 at *
 have n0:(0:Int)<n:=by omega
 have n1:(1:Int)<n:=by omega
 have n2:(2:Int)<n:=by omega
 have n3:(3:Int)<n:=by omega
 have m0:0<n:=by omega
 have m1:1<n:=by omega
 have m2:2<n:=by omega
 have m3:3<n:=by omega
 clear h hc hn
 go_enter Tryz.func64,Tryz.ntmps64
 go_wp2_with fail
 go_quiet (fail)
 go_wp2_with fail
 refine bodyPost_ret (v:=.int .u32 (bits .or .u32 (bits .or .u32 (bits .or .u32 x0 (x1 * 256)) (x2 * 65536)) (x3 * 16777216))) ?_ rfl ⟨rfl,(Gr.refl w).drewN nq⟩
 simp [results,Tryz.results64,go_sem]
def ic (l:List Nat):Array Value:=(l.map (fun x:Nat=>Value.int .i64 (x:Int))).toArray
theorem ic_size (l:List Nat):(ic l).size=l.length:=by simp [ic]
theorem ic_one (l:List Nat):(ic l).all (·.oneCell')=true:=by unfold ic; simp [Value.oneCell']
theorem ic_cell {v:World} {g:Nat} {l:List Nat} {t:TypeId} (h:v.heap[g]?=some (.cells (ic l) t (0,0))) (i:Nat) (hi:i<l.length):v.cell? ⟨g,i,none⟩=some (.int .i64 ((l.getD i 0:Nat):Int)):=by
 refine cell_of h ?_
 unfold ic
 simp [hi]
def PL:List Nat:=[0,4,8,12,1,5,9,13,2,6,10,14,3,7,11,15,0,5,10,15,1,6,11,12,2,7,8,13,3,4,9,14]
def P32:List Nat:=List.replicate 32 0
theorem Tryz.info84:(Tryz.prog.info? 115).map (·.size)=some 32:=by kernel_rfl
theorem Tryz.infoP4:(Tryz.prog.info? 114).map (·.size)=some 4:=by kernel_rfl
theorem rplaces_ok (w:World):Calls Tryz.prog 65 #[] w (fun r w'=>r=.returned (.agg (ic PL))∧Gr w w'):=by
 go_enter Tryz.func65,Tryz.ntmps65
 go_upto_region 1 with fail
 have hB:=(Bl.nil w).new #[.int .i64 0,.int .i64 0,.int .i64 0,.int .i64 0,.int .i64 0,.int .i64 0,.int .i64 0,.int .i64 0,.int .i64 0,.int .i64 0,.int .i64 0,.int .i64 0,.int .i64 0,.int .i64 0,.int .i64 0,.int .i64 0,.int .i64 0,.int .i64 0,.int .i64 0,.int .i64 0,.int .i64 0,.int .i64 0,.int .i64 0,.int .i64 0,.int .i64 0,.int .i64 0,.int .i64 0,.int .i64 0,.int .i64 0,.int .i64 0,.int .i64 0,.int .i64 0] 115
 simp only [List.nil_append] at hB
 generalize World.alloc _ _=u at *
 replace hB:Bl w [⟨w.heap.size,ic P32,115⟩] u:=hB
 refine wp_region_lit ?_
 refine list_val (.agg (ic [0,4,8,12])) (by kernel_rfl) (by kernel_rfl) ?_
 simp only [nrm]
 refine list_val (.agg (ic [1,5,9,13])) (by kernel_rfl) (by kernel_rfl) ?_
 simp only [nrm]
 refine list_val (.agg (ic [2,6,10,14])) (by kernel_rfl) (by kernel_rfl) ?_
 simp only [nrm]
 refine list_val (.agg (ic [3,7,11,15])) (by kernel_rfl) (by kernel_rfl) ?_
 simp only [nrm]
 refine list_val (.agg (ic [0,5,10,15])) (by kernel_rfl) (by kernel_rfl) ?_
 simp only [nrm]
 refine list_val (.agg (ic [1,6,11,12])) (by kernel_rfl) (by kernel_rfl) ?_
 simp only [nrm]
 refine list_val (.agg (ic [2,7,8,13])) (by kernel_rfl) (by kernel_rfl) ?_
 simp only [nrm]
 refine list_val (.agg (ic [3,4,9,14])) (by kernel_rfl) (by kernel_rfl) ?_
 simp only [nrm]
 refine list_val (.agg (ic PL)) (by kernel_rfl) (by kernel_rfl) ?_
 simp only [nrm]
 refine list_store 115 (.tmp 0) (.tmp 9) w.heap.size (ic PL) 115 (ic P32) (by kernel_rfl) rfl (by kernel_rfl) (by kernel_rfl) (hB.get 0 (x:=⟨w.heap.size,ic P32,115⟩) rfl) (by rw [Tryz.info84]; rfl) rfl (ic_one _) ?_
 replace hB:=hB.set 0 (x:=⟨w.heap.size,ic P32,115⟩) rfl (ic PL)
 simp only [List.set_cons_zero,List.set_cons_succ] at hB
 generalize World.setRow _ _ _=u3 at *
 simp only [nrm]
 refine wpList_nil ?_
 go_wp2_with fail
 exact bodyPost_ret (v:=.agg (ic PL)) (results_cell_row Tryz.results65 _ _ w.heap.size 115 (ic PL) (0,0) _ rfl (hB.get 0 (x:=⟨w.heap.size,ic PL,115⟩) rfl) Tryz.underlying115 rfl (by rw [Tryz.info84]; rfl)) rfl ⟨rfl,hB.gr⟩
def pl4 (t:Nat):List Nat:=(PL.drop (4 * t)).take 4
theorem pl4_len (t:Nat) (h:t<8):(pl4 t).length=4:=by unfold pl4 PL; simp; omega
theorem pl4_lt (t:Nat) (h:t<8):∀ i,(pl4 t).getD i 0<16:=by
 have hd:∀ t,t<8→∀ i,i<4→(pl4 t).getD i 0<16:=by decide
 intro i
 rcases Nat.lt_or_ge i 4 with hi | hi
 ·exact hd t h i hi
 ·rw [List.getD_eq_getElem?_getD,List.getElem?_eq_none (by rw [pl4_len t h]; exact hi)]
  decide
def qpl (X:List Int) (p:List Nat):List Int:=qp X (p.getD 0 0) (p.getD 1 0) (p.getD 2 0) (p.getD 3 0)
def dq (X:List Int):Nat→List Int
 | 0=>X
 | t+1=>qpl (dq X t) (pl4 t)
theorem dq_len (X:List Int):∀ t,(dq X t).length=X.length
 | 0=>rfl
 | t+1=>by rw [dq,qpl,qp_len,dq_len X t]
theorem dq_all (X:List Int):dq X 8=dbl X:=rfl
theorem index_P (t:Nat) (h:t<8) (w:World):(Instr.index 115 (.agg (ic PL)) (.int .i64 t)).run Tryz.prog w=.ok (.agg (ic (pl4 t))) w:=by
 have hd:t=0∨t=1∨t=2∨t=3∨t=4∨t=5∨t=6∨t=7:=by omega
 rcases hd with rfl | rfl | rfl | rfl | rfl | rfl | rfl | rfl <;> (show Sem.run _ _ _=_; kernel_rfl)
theorem Tryz.infoA:(Tryz.prog.info? 112).map (·.size)=some 16:=by kernel_rfl
def wk (K W:List Int) (p:Nat):Nat→List Int
 | 0=>W
 | n+1=>(wk K W p n).set (p+n) (wd K (4 * n))
theorem wk_len (K W:List Int) (p:Nat):∀ n,(wk K W p n).length=W.length
 | 0=>rfl
 | n+1=>by rw [wk,List.length_set,wk_len K W p n]
def qset (X:List Int) (p:List Nat) (q:List Int):Nat→List Int
 | 0=>X
 | i+1=>(qset X p q i).set (p.getD i 0) (q.getD i 0)
theorem qset_len (X:List Int) (p:List Nat) (q:List Int):∀ i,(qset X p q i).length=X.length
 | 0=>rfl
 | i+1=>by rw [qset,List.length_set,qset_len X p q i]
theorem qset_all (X:List Int) (p:List Nat):qset X p (ql (quar (X.getD (p.getD 0 0) 0) (X.getD (p.getD 1 0) 0) (X.getD (p.getD 2 0) 0) (X.getD (p.getD 3 0) 0))) 4=qpl X p:=rfl
def NQ (v0:World) (q:Value) (u:World):Prop:=∃ g,New v0 (uc [0,0,0,0]) 117 u q g
theorem NQ.gr {v0 u v:World} {q:Value} (h:NQ v0 q u) (k:Gr u v):NQ v0 q v:=by
 obtain ⟨g,h⟩:=h
 exact ⟨g,h.more k⟩
def ob (K:List Int) (o:Nat):Int:=bits .or .u32 (bits .or .u32 (bits .or .u32 (bits .or .u32 0 (K.getD o 0 * 2 ^ 0 % 4294967296)) (K.getD (o+1) 0 * 2 ^ 8 % 4294967296)) (K.getD (o+2) 0 * 2 ^ 16 % 4294967296)) (K.getD (o+3) 0 * 2 ^ 24 % 4294967296)
theorem ob_wd (K:List Int) (h:IsB K) (o:Nat):ob K o=wd K o:=by
 have b0:=h.at_ o
 have b1:=h.at_ (o+1)
 have b2:=h.at_ (o+2)
 have b3:=h.at_ (o+3)
 unfold ob wd
 rw [show K.getD o 0 * 2 ^ 0 % 4294967296=K.getD o 0 from by omega,or_zero _ ⟨b0.1,by omega⟩,show K.getD (o+1) 0 * 2 ^ 8 % 4294967296=K.getD (o+1) 0 * 256 from by omega,show K.getD (o+2) 0 * 2 ^ 16 % 4294967296=K.getD (o+2) 0 * 65536 from by omega,show K.getD (o+3) 0 * 2 ^ 24 % 4294967296=K.getD (o+3) 0 * 16777216 from by omega]
theorem kw_key (K:List Int):kw 4 K W0 32=[1634760805,857760878,2036477234,1797285236,ob K 0,ob K 4,ob K 8,ob K 12,ob K 16,ob K 20,ob K 24,ob K 28,0,0,0,0]:=by kernel_rfl
theorem kw_nonce (N:List Int) (a0 a1 a2 a3 a4 a5 a6 a7 a8 a9 a10 a11 a12:Int):kw 13 N [a0,a1,a2,a3,a4,a5,a6,a7,a8,a9,a10,a11,a12,0,0,0] 12=[a0,a1,a2,a3,a4,a5,a6,a7,a8,a9,a10,a11,a12,ob N 0,ob N 4,ob N 8]:=by kernel_rfl
theorem wk_key (K:List Int):wk K W0 4 8=[1634760805,857760878,2036477234,1797285236,wd K 0,wd K 4,wd K 8,wd K 12,wd K 16,wd K 20,wd K 24,wd K 28,0,0,0,0]:=by kernel_rfl
theorem wk_nonce (N:List Int) (a0 a1 a2 a3 a4 a5 a6 a7 a8 a9 a10 a11 a12:Int):wk N [a0,a1,a2,a3,a4,a5,a6,a7,a8,a9,a10,a11,a12,0,0,0] 13 3=[a0,a1,a2,a3,a4,a5,a6,a7,a8,a9,a10,a11,a12,wd N 0,wd N 4,wd N 8]:=by kernel_rfl
theorem words_eq (K N:List Int) (hK:IsB K) (hN:IsB N) (c:Int):wk N ((wk K W0 4 8).set 12 c) 13 3=(bg K N).set 12 c:=by
 unfold bg
 rw [kw_key,kw_nonce,wk_key]
 simp only [List.set_cons_zero,List.set_cons_succ]
 rw [wk_nonce]
 simp only [ob_wd K hK,ob_wd N hN]
set_option maxHeartbeats 8000000 in
theorem rblock_ok (K N:List Int) (hK:K.length=32) (hN:N.length=12) (hKb:IsB K) (hNb:IsB N) (c:Int) (w:World):Calls Tryz.prog 38 #[.agg (kc K),.int .u32 c,.agg (kc N)] w (Bts (bk K N c) w):=by
 obtain ⟨T,hT⟩:∃ T,T=Bts (bk K N c) w:=⟨_,rfl⟩
 rw [← hT]
 replace hT:=hide hT
 obtain ⟨SK,hSK⟩:∃ S,S=kc K:=⟨_,rfl⟩
 obtain ⟨SN,hSN⟩:∃ S,S=kc N:=⟨_,rfl⟩
 rw [← hSK,← hSN]
 replace hSK:=hide hSK
 replace hSN:=hide hSN
 replace hKb:=hide hKb
 replace hNb:=hide hNb
 go_enter Tryz.func38,Tryz.ntmps38
 go_upto_region 1 with fail
 have hB:=(((Bl.nil w).new SK 23).new SN 64).new #[.int .u8 0,.int .u8 0,.int .u8 0,.int .u8 0,.int .u8 0,.int .u8 0,.int .u8 0,.int .u8 0,.int .u8 0,.int .u8 0,.int .u8 0,.int .u8 0,.int .u8 0,.int .u8 0,.int .u8 0,.int .u8 0,.int .u8 0,.int .u8 0,.int .u8 0,.int .u8 0,.int .u8 0,.int .u8 0,.int .u8 0,.int .u8 0,.int .u8 0,.int .u8 0,.int .u8 0,.int .u8 0,.int .u8 0,.int .u8 0,.int .u8 0,.int .u8 0,.int .u8 0,.int .u8 0,.int .u8 0,.int .u8 0,.int .u8 0,.int .u8 0,.int .u8 0,.int .u8 0,.int .u8 0,.int .u8 0,.int .u8 0,.int .u8 0,.int .u8 0,.int .u8 0,.int .u8 0,.int .u8 0,.int .u8 0,.int .u8 0,.int .u8 0,.int .u8 0,.int .u8 0,.int .u8 0,.int .u8 0,.int .u8 0,.int .u8 0,.int .u8 0,.int .u8 0,.int .u8 0,.int .u8 0,.int .u8 0,.int .u8 0,.int .u8 0] 87
 simp only [size_alloc,List.nil_append,List.cons_append] at hB
 generalize World.alloc _ _=u at *
 rw [unhide hSK,unhide hSN] at hB
 refine wp_region_lit ?_
 refine list_val (.agg (uc W0)) (by kernel_rfl) (by kernel_rfl) ?_
 simp only [nrm]
 replace hB:=hide hB
 (refine wpList_step fun K hK=>?_; replace hK:=hide hK; go_simp; refine unhide hK _ _ ?_; clear hK K)
 replace hB:=(unhide hB).new #[.int .u32 0,.int .u32 0,.int .u32 0,.int .u32 0,.int .u32 0,.int .u32 0,.int .u32 0,.int .u32 0,.int .u32 0,.int .u32 0,.int .u32 0,.int .u32 0,.int .u32 0,.int .u32 0,.int .u32 0,.int .u32 0] 112
 simp only [List.nil_append,List.cons_append] at hB
 generalize World.alloc _ _=u1 at *
 generalize u.heap.size=h7 at *
 replace hB:Bl w [⟨w.heap.size,kc K,23⟩,⟨w.heap.size+1,kc N,64⟩,⟨w.heap.size+1+1,kc Z64,87⟩,⟨h7,uc Z16,112⟩] u1:=hB
 refine list_store 112 (.tmp 7) (.tmp 20) (h7) (uc W0) 112 (uc Z16) (by kernel_rfl) rfl (by kernel_rfl) (by kernel_rfl) (hB.get 3 (x:=⟨h7,uc Z16,112⟩) rfl) (by rw [Tryz.infoA,uc_size,(show W0.length=16 from rfl)]) ((show (uc Z16).size=16 from rfl).trans ((uc_size _).trans (show W0.length=16 from rfl)).symm) (uc_one _) ?_
 replace hB:=hB.set 3 (x:=⟨h7,uc Z16,112⟩) rfl (uc W0)
 simp only [List.set_cons_zero,List.set_cons_succ] at hB
 generalize World.setRow _ _ _=u2 at *
 simp only [nrm]
 refine wpList_nil ?_
 replace hB:=hide hB
 have hpl:W0.length=16:=rfl
 go_wp2_with fail
 go_loopw [8] (fun i wr=>∃ n:Nat,∃ m:List Int,n≤8∧i=.int .i64 n∧Hid (m=wk K W0 4 n)∧Hid (Bl w [⟨w.heap.size,kc K,23⟩,⟨w.heap.size+1,kc N,64⟩,⟨w.heap.size+1+1,kc Z64,87⟩,⟨h7,uc m,112⟩] wr)) (fun i _=>8 - (intOf i).toNat)
 case atStart=>exact ⟨0,W0,by omega,rfl,rfl,hB⟩
 case round =>
 clear hB
 obtain ⟨n,m,hn,rfl,hm,hB⟩:=hrel
 have hml:m.length=16:=by rw [unhide hm,wk_len]; exact hpl
 by_cases hl:n<8
 ·obtain ⟨i4,hi4⟩:∃ x,x=4+n:=⟨_,rfl⟩
  obtain ⟨o,ho⟩:∃ x,x=4 * n:=⟨_,rfl⟩
  obtain ⟨l1,hl1⟩:∃ x,x=32 - o:=⟨_,rfl⟩
  have nI:(n:Int)<8:=by omega
  have e1:4+(n:Int)=(i4:Int):=by omega
  have e2:4 * (n:Int)=(o:Int):=by omega
  have e3:IntKind.i64.wrap (i4:Int)=(i4:Int):=by rw [IntKind.wrap_i64]; omega
  have e4:IntKind.i64.wrap (o:Int)=(o:Int):=by rw [IntKind.wrap_i64]; omega
  have e5:(o:Int)≤32:=by omega
  have e6:o≤32:=by omega
  have e7:¬ 32=o:=by omega
  have e8:32 - o=l1:=hl1.symm
  have e9:(i4:Int)<16:=by omega
  have e10:i4<16:=by omega
  have c4:=uc_cell ((unhide hB).get 3 (x:=⟨h7,uc m,112⟩) rfl) i4 (by omega)
  generalize m.getD i4 0=z at c4
  replace hi4:=hide hi4
  replace ho:=hide ho
  replace hl1:=hide hl1
  clear c4
  go_upto_region 5 with fail
  replace hB:=unhide hB
  refine wp_region_lit ?_
  refine list_val (.int .i64 n) (by kernel_rfl) (by kernel_rfl) ?_
  simp only [nrm]
  refine list_val (.int .i64 i4) (by kernel_rfl) (by go_simp) ?_
  simp only [nrm]
  refine list_val (.int .i64 n) (by kernel_rfl) (by kernel_rfl) ?_
  simp only [nrm]
  refine list_val (.int .i64 o) (by kernel_rfl) (by go_simp) ?_
  simp only [nrm]
  refine list_val (.slice (some ⟨w.heap.size,o,none⟩) l1 l1) (by kernel_rfl) (by go_simp) ?_
  simp only [nrm]
  refine list_call 64 #[.slice (some ⟨w.heap.size,o,none⟩) l1 l1] (by kernel_rfl) (by kernel_rfl) ((rword_ok K (unhide hKb) (w.heap.size) o l1 l1 (by have:=unhide hl1; omega) (by have:=unhide ho; omega) _ (.inl (hB.get 0 (x:=⟨w.heap.size,kc K,23⟩) rfl)) (by have:=unhide ho; omega)).mono ?_)
  rintro r u2 ⟨rfl,hg⟩
  refine ⟨_,rfl,?_⟩
  replace hB:=hB.more hg
  clear hg
  obtain ⟨x,hx⟩:∃ x,x=wd K o:=⟨_,rfl⟩
  rw [← hx]
  replace hx:=hide hx
  simp only [nrm]
  refine list_val (.pointer (some ⟨h7,i4,none⟩)) (by kernel_rfl) (by go_simp) ?_
  simp only [nrm]
  have c4:=uc_cell (hB.get 3 (x:=⟨h7,uc m,112⟩) rfl) i4 (by omega)
  generalize m.getD i4 0=z at c4
  have fz:=froz_of (i:=i4) (hB.get 3 (x:=⟨h7,uc m,112⟩) rfl)
  have hB2:=hB.cell 3 (x:=⟨h7,uc m,112⟩) rfl i4 (.int .u32 x)
  simp only [List.set_cons_zero,List.set_cons_succ,uc_set] at hB2
  clear hB
  replace hB2:=hide hB2
  (refine wpList_step fun K hK=>?_; replace hK:=hide hK; go_simp; refine unhide hK _ _ ?_; clear hK K)
  clear c4 fz
  refine wpList_nil ?_
  have hm2:Hid (m.set i4 x=wk K W0 4 (n+1)):=by
   rw [wk,← unhide hm,unhide hx,unhide hi4,unhide ho]
   exact rfl
  clear hn hx
  go_wp2_with fail
  go_roundw
  case rel=>exact ⟨n+1,_,by omega,by go_num,hm2,hB2⟩
  case measure=>simp [intOf]; omega
 have e:n=8:=by omega
 subst e
 clear hl hn
 go_upto_region 6 with fail
 replace hB:=unhide hB
 refine wp_region_lit ?_
 refine list_val (.int .u32 c) (by kernel_rfl) (by kernel_rfl) ?_
 simp only [nrm]
 refine list_val (.pointer (some ⟨h7,12,none⟩)) (by kernel_rfl) (by kernel_rfl) ?_
 simp only [nrm]
 have c4:=uc_cell (hB.get 3 (x:=⟨h7,uc m,112⟩) rfl) 12 (by omega)
 generalize m.getD 12 0=z at c4
 have fz:=froz_of (i:=12) (hB.get 3 (x:=⟨h7,uc m,112⟩) rfl)
 replace hB:=hB.cell 3 (x:=⟨h7,uc m,112⟩) rfl 12 (.int .u32 c)
 simp only [List.set_cons_zero,List.set_cons_succ,uc_set] at hB
 replace hB:=hide hB
 (refine wpList_step fun K hK=>?_; replace hK:=hide hK; go_simp; refine unhide hK _ _ ?_; clear hK K)
 clear c4 fz
 refine wpList_nil ?_
 clear hpl
 have hpl:(m.set 12 c).length=16:=by rw [List.length_set]; exact hml
 have hk1:Hid (m.set 12 c=(wk K W0 4 8).set 12 c):=by rw [unhide hm]; exact rfl
 generalize m.set 12 c=V1 at *
 clear hm hml m
 go_wp2_with fail
 go_loopw [9] (fun i wr=>∃ n:Nat,∃ m:List Int,n≤3∧i=.int .i64 n∧Hid (m=wk N V1 13 n)∧Hid (Bl w [⟨w.heap.size,kc K,23⟩,⟨w.heap.size+1,kc N,64⟩,⟨w.heap.size+1+1,kc Z64,87⟩,⟨h7,uc m,112⟩] wr)) (fun i _=>3 - (intOf i).toNat)
 case atStart=>exact ⟨0,V1,by omega,rfl,rfl,hB⟩
 case round =>
 clear hB
 obtain ⟨n,m,hn,rfl,hm,hB⟩:=hrel
 have hml:m.length=16:=by rw [unhide hm,wk_len]; exact hpl
 by_cases hl:n<3
 ·obtain ⟨i4,hi4⟩:∃ x,x=13+n:=⟨_,rfl⟩
  obtain ⟨o,ho⟩:∃ x,x=4 * n:=⟨_,rfl⟩
  obtain ⟨l1,hl1⟩:∃ x,x=12 - o:=⟨_,rfl⟩
  have nI:(n:Int)<3:=by omega
  have e1:13+(n:Int)=(i4:Int):=by omega
  have e2:4 * (n:Int)=(o:Int):=by omega
  have e3:IntKind.i64.wrap (i4:Int)=(i4:Int):=by rw [IntKind.wrap_i64]; omega
  have e4:IntKind.i64.wrap (o:Int)=(o:Int):=by rw [IntKind.wrap_i64]; omega
  have e5:(o:Int)≤12:=by omega
  have e6:o≤12:=by omega
  have e7:¬ 12=o:=by omega
  have e8:12 - o=l1:=hl1.symm
  have e9:(i4:Int)<16:=by omega
  have e10:i4<16:=by omega
  have c4:=uc_cell ((unhide hB).get 3 (x:=⟨h7,uc m,112⟩) rfl) i4 (by omega)
  generalize m.getD i4 0=z at c4
  replace hi4:=hide hi4
  replace ho:=hide ho
  replace hl1:=hide hl1
  clear c4
  go_upto_region 10 with fail
  replace hB:=unhide hB
  refine wp_region_lit ?_
  refine list_val (.int .i64 n) (by kernel_rfl) (by kernel_rfl) ?_
  simp only [nrm]
  refine list_val (.int .i64 i4) (by kernel_rfl) (by go_simp) ?_
  simp only [nrm]
  refine list_val (.int .i64 n) (by kernel_rfl) (by kernel_rfl) ?_
  simp only [nrm]
  refine list_val (.int .i64 o) (by kernel_rfl) (by go_simp) ?_
  simp only [nrm]
  refine list_val (.slice (some ⟨w.heap.size+1,o,none⟩) l1 l1) (by kernel_rfl) (by go_simp) ?_
  simp only [nrm]
  refine list_call 64 #[.slice (some ⟨w.heap.size+1,o,none⟩) l1 l1] (by kernel_rfl) (by kernel_rfl) ((rword_ok N (unhide hNb) (w.heap.size+1) o l1 l1 (by have:=unhide hl1; omega) (by have:=unhide ho; omega) _ (.inr (hB.get 1 (x:=⟨w.heap.size+1,kc N,64⟩) rfl)) (by have:=unhide ho; omega)).mono ?_)
  rintro r u2 ⟨rfl,hg⟩
  refine ⟨_,rfl,?_⟩
  replace hB:=hB.more hg
  clear hg
  obtain ⟨x,hx⟩:∃ x,x=wd N o:=⟨_,rfl⟩
  rw [← hx]
  replace hx:=hide hx
  simp only [nrm]
  refine list_val (.pointer (some ⟨h7,i4,none⟩)) (by kernel_rfl) (by go_simp) ?_
  simp only [nrm]
  have c4:=uc_cell (hB.get 3 (x:=⟨h7,uc m,112⟩) rfl) i4 (by omega)
  generalize m.getD i4 0=z at c4
  have fz:=froz_of (i:=i4) (hB.get 3 (x:=⟨h7,uc m,112⟩) rfl)
  have hB2:=hB.cell 3 (x:=⟨h7,uc m,112⟩) rfl i4 (.int .u32 x)
  simp only [List.set_cons_zero,List.set_cons_succ,uc_set] at hB2
  clear hB
  replace hB2:=hide hB2
  (refine wpList_step fun K hK=>?_; replace hK:=hide hK; go_simp; refine unhide hK _ _ ?_; clear hK K)
  clear c4 fz
  refine wpList_nil ?_
  have hm2:Hid (m.set i4 x=wk N V1 13 (n+1)):=by
   rw [wk,← unhide hm,unhide hx,unhide hi4,unhide ho]
   exact rfl
  clear hn hx
  go_wp2_with fail
  go_roundw
  case rel=>exact ⟨n+1,_,by omega,by go_num,hm2,hB2⟩
  case measure=>simp [intOf]; omega
 have e:n=3:=by omega
 subst e
 clear hl hn
 have hVV:Hid (m=(bg K N).set 12 c):=by
  rw [unhide hm,unhide hk1]
  exact words_eq K N (unhide hKb) (unhide hNb) c
 clear hm hk1 hpl
 obtain ⟨V,hV⟩:∃ V,V=m:=⟨_,rfl⟩
 rw [← hV] at hVV hml hB
 clear hV m
 have hVl:V.length=16:=hml
 clear hml
 go_upto_region 11 with fail
 replace hB:=unhide hB
 refine wp_region_lit ?_
 refine list_val (.agg (uc V)) (by kernel_rfl) (exec_arr _ 112 (.tmp 7) rfl (h7) (by kernel_rfl) (uc V) 112 _ (hB.get 3 (x:=⟨h7,uc V,112⟩) rfl) Tryz.underlying112 rfl (by rw [Tryz.infoA,uc_size,hVl])) ?_
 simp only [nrm]
 replace hB:=hide hB
 (refine wpList_step fun K hK=>?_; replace hK:=hide hK; go_simp; refine unhide hK _ _ ?_; clear hK K)
 replace hB:=(unhide hB).new #[.int .u32 0,.int .u32 0,.int .u32 0,.int .u32 0,.int .u32 0,.int .u32 0,.int .u32 0,.int .u32 0,.int .u32 0,.int .u32 0,.int .u32 0,.int .u32 0,.int .u32 0,.int .u32 0,.int .u32 0,.int .u32 0] 112
 simp only [List.nil_append,List.cons_append] at hB
 generalize World.alloc _ _=u4 at *
 generalize wr.heap.size=h10 at *
 replace hB:Bl w [⟨w.heap.size,kc K,23⟩,⟨w.heap.size+1,kc N,64⟩,⟨w.heap.size+1+1,kc Z64,87⟩,⟨h7,uc V,112⟩,⟨h10,uc Z16,112⟩] u4:=hB
 refine list_store 112 (.tmp 10) (.tmp 45) (h10) (uc V) 112 (uc Z16) (by kernel_rfl) rfl (by kernel_rfl) (by kernel_rfl) (hB.get 4 (x:=⟨h10,uc Z16,112⟩) rfl) (by rw [Tryz.infoA,uc_size,hVl]) ((show (uc Z16).size=16 from rfl).trans ((uc_size _).trans hVl).symm) (uc_one _) ?_
 replace hB:=hB.set 4 (x:=⟨h10,uc Z16,112⟩) rfl (uc V)
 simp only [List.set_cons_zero,List.set_cons_succ] at hB
 generalize World.setRow _ _ _=u5 at *
 simp only [nrm]
 refine wpList_nil ?_
 replace hB:=hide hB
 go_wp2_with fail
 go_loopw [11] (fun i wr=>∃ r:Nat,∃ X:List Int,r≤10∧i=.int .i64 r∧Hid (X=rn V r)∧Hid (Bl w [⟨w.heap.size,kc K,23⟩,⟨w.heap.size+1,kc N,64⟩,⟨w.heap.size+1+1,kc Z64,87⟩,⟨h7,uc V,112⟩,⟨h10,uc X,112⟩] wr)) (fun i _=>10 - (intOf i).toNat)
 case atStart=>exact ⟨0,V,by omega,rfl,rfl,hB⟩
 case round =>
 clear hB
 obtain ⟨r,X,hr,rfl,hX,hB⟩:=hrel
 have hXl:X.length=16:=by rw [unhide hX,rn_len]; exact hVl
 by_cases hrl:r<10
 ·have rI:(r:Int)<10:=by omega
  go_upto_region 15 with fail
  replace hB:=unhide hB
  refine wp_region_lit ?_
  refine list_call 65 #[] (by kernel_rfl) (by kernel_rfl) ((rplaces_ok _).mono ?_)
  rintro rr u2 ⟨rfl,hg⟩
  refine ⟨_,rfl,?_⟩
  replace hB:=hB.more hg
  clear hg
  simp only [nrm]
  refine list_val (.int .i64 0) (by kernel_rfl) (by kernel_rfl) ?_
  simp only [nrm]
  refine wpList_nil ?_
  replace hB:=hide hB
  obtain ⟨PA,hPA⟩:∃ S,S=ic PL:=⟨_,rfl⟩
  rw [← hPA]
  replace hPA:=hide hPA
  go_wp2_with fail
  go_loopw [51] (fun i wr=>∃ t:Nat,∃ Y:List Int,t≤8∧i=.int .i64 t∧Hid (Y=dq X t)∧Hid (Bl w [⟨w.heap.size,kc K,23⟩,⟨w.heap.size+1,kc N,64⟩,⟨w.heap.size+1+1,kc Z64,87⟩,⟨h7,uc V,112⟩,⟨h10,uc Y,112⟩] wr)) (fun i _=>8 - (intOf i).toNat)
  case atStart=>exact ⟨0,X,by omega,rfl,rfl,hB⟩
  case round =>
  clear hB
  obtain ⟨t,Y,ht,rfl,hY,hB⟩:=hrel
  have hYl:Y.length=16:=by rw [unhide hY,dq_len]; exact hXl
  by_cases htl:t<8
  ·have tI:(t:Int)<8:=by omega
   have hidx:∀ w,(Instr.index 115 (.agg PA) (.int .i64 t)).run Tryz.prog w=.ok (.agg (ic (pl4 t))) w:=fun w=>by rw [unhide hPA]; exact index_P t htl w
   have hpl:=pl4_len t htl
   have hplt:=pl4_lt t htl
   have hY2:Hid (qpl Y (pl4 t)=dq X (t+1)):=by rw [unhide hY]; exact rfl
   generalize pl4 t=p at *
   replace hplt:=hide hplt
   replace hidx:=hide hidx
   go_upto_region 17 with fail
   replace hB:=unhide hB
   refine wp_region_lit ?_
   refine list_val (.agg (ic p)) (by kernel_rfl) (by have e:=unhide hidx; go_simp) ?_
   simp only [nrm]
   clear hidx
   replace hB:=hide hB
   (refine wpList_step fun K hK=>?_; replace hK:=hide hK; go_simp; refine unhide hK _ _ ?_; clear hK K)
   replace hB:=(unhide hB).new #[.int .i64 0,.int .i64 0,.int .i64 0,.int .i64 0] 114
   simp only [List.nil_append,List.cons_append] at hB
   generalize World.alloc _ _=u7 at *
   generalize wr.heap.size=h13 at *
   replace hB:Bl w [⟨w.heap.size,kc K,23⟩,⟨w.heap.size+1,kc N,64⟩,⟨w.heap.size+1+1,kc Z64,87⟩,⟨h7,uc V,112⟩,⟨h10,uc Y,112⟩,⟨h13,ic [0,0,0,0],114⟩] u7:=hB
   refine list_store 114 (.tmp 13) (.tmp 53) h13 (ic p) 114 (ic [0,0,0,0]) (by kernel_rfl) rfl (by kernel_rfl) (by kernel_rfl) (hB.get 5 (x:=⟨h13,ic [0,0,0,0],114⟩) rfl) (by rw [Tryz.infoP4,ic_size,hpl]) ((show (ic [0,0,0,0]).size=4 from rfl).trans ((ic_size _).trans hpl).symm) (ic_one _) ?_
   replace hB:=hB.set 5 (x:=⟨h13,ic [0,0,0,0],114⟩) rfl (ic p)
   simp only [List.set_cons_zero,List.set_cons_succ] at hB
   generalize World.setRow _ _ _=u8 at *
   simp only [nrm]
   refine wpList_nil ?_
   replace hB:=hide hB
   go_upto_region 18 with fail
   replace hB:=unhide hB
   obtain ⟨p0,hp0⟩:∃ x,x=p.getD 0 0:=⟨_,rfl⟩
   have pa0:p0<16:=by rw [hp0]; exact (unhide hplt) 0
   have pb0:(p0:Int)<16:=by omega
   replace hp0:=hide hp0
   obtain ⟨y0,hy0⟩:∃ x,x=Y.getD p0 0:=⟨_,rfl⟩
   replace hy0:=hide hy0
   obtain ⟨p1,hp1⟩:∃ x,x=p.getD 1 0:=⟨_,rfl⟩
   have pa1:p1<16:=by rw [hp1]; exact (unhide hplt) 1
   have pb1:(p1:Int)<16:=by omega
   replace hp1:=hide hp1
   obtain ⟨y1,hy1⟩:∃ x,x=Y.getD p1 0:=⟨_,rfl⟩
   replace hy1:=hide hy1
   obtain ⟨p2,hp2⟩:∃ x,x=p.getD 2 0:=⟨_,rfl⟩
   have pa2:p2<16:=by rw [hp2]; exact (unhide hplt) 2
   have pb2:(p2:Int)<16:=by omega
   replace hp2:=hide hp2
   obtain ⟨y2,hy2⟩:∃ x,x=Y.getD p2 0:=⟨_,rfl⟩
   replace hy2:=hide hy2
   obtain ⟨p3,hp3⟩:∃ x,x=p.getD 3 0:=⟨_,rfl⟩
   have pa3:p3<16:=by rw [hp3]; exact (unhide hplt) 3
   have pb3:(p3:Int)<16:=by omega
   replace hp3:=hide hp3
   obtain ⟨y3,hy3⟩:∃ x,x=Y.getD p3 0:=⟨_,rfl⟩
   replace hy3:=hide hy3
   refine any_start (S:=fun v=>Gr (World.drew u8) v) (by kernel_rfl) ?_
   replace hB:=hB.drew
   generalize World.drew u8=v0 at *
   have hG:=Gr.refl v0
   simp only [List.size_toArray,List.length_cons,List.length_nil,Array.replicate,List.replicate]
   refine any_take (i:=0) (v:=(.pointer (some ⟨h13,0,none⟩))) #[false,false,false,false,false,false,false,false,false,false,false,false,false,false,false,false,false,false,false,false] rfl (by kernel_rfl) (by kernel_rfl) (by kernel_rfl) (by kernel_rfl) (fun _ _ _ h=>h) (.inl ⟨by kernel_rfl,fun x_ hu=>by kernel_rfl⟩) hG ?_
   simp only [nrm]
   refine any_take (i:=1) (v:=(.int .i64 p0)) #[true,false,false,false,false,false,false,false,false,false,false,false,false,false,false,false,false,false,false,false] rfl (by kernel_rfl) (by kernel_rfl) (by kernel_rfl) (by kernel_rfl) (fun _ _ _ h=>h) (.inl ⟨by kernel_rfl,fun x_ hu=>by have c0:=ic_cell ((hB.more hu).get 5 (x:=⟨h13,ic p,114⟩) rfl) 0 (by omega); rw [← unhide hp0] at c0; go_simp⟩) hG ?_
   simp only [nrm]
   refine any_take (i:=2) (v:=(.pointer (some ⟨h10,p0,none⟩))) #[true,true,false,false,false,false,false,false,false,false,false,false,false,false,false,false,false,false,false,false] rfl (by kernel_rfl) (by kernel_rfl) (by kernel_rfl) (by kernel_rfl) (fun _ _ _ h=>h) (.inl ⟨by kernel_rfl,fun x_ hu=>by go_simp⟩) hG ?_
   simp only [nrm]
   refine any_take (i:=3) (v:=(.int .u32 y0)) #[true,true,true,false,false,false,false,false,false,false,false,false,false,false,false,false,false,false,false,false] rfl (by kernel_rfl) (by kernel_rfl) (by kernel_rfl) (by kernel_rfl) (fun _ _ _ h=>h) (.inl ⟨by kernel_rfl,fun x_ hu=>by have c0:=uc_cell ((hB.more hu).get 4 (x:=⟨h10,uc Y,112⟩) rfl) p0 (by omega); rw [← unhide hy0] at c0; go_simp⟩) hG ?_
   simp only [nrm]
   refine any_take (i:=4) (v:=(.pointer (some ⟨h13,1,none⟩))) #[true,true,true,true,false,false,false,false,false,false,false,false,false,false,false,false,false,false,false,false] rfl (by kernel_rfl) (by kernel_rfl) (by kernel_rfl) (by kernel_rfl) (fun _ _ _ h=>h) (.inl ⟨by kernel_rfl,fun x_ hu=>by kernel_rfl⟩) hG ?_
   simp only [nrm]
   refine any_take (i:=5) (v:=(.int .i64 p1)) #[true,true,true,true,true,false,false,false,false,false,false,false,false,false,false,false,false,false,false,false] rfl (by kernel_rfl) (by kernel_rfl) (by kernel_rfl) (by kernel_rfl) (fun _ _ _ h=>h) (.inl ⟨by kernel_rfl,fun x_ hu=>by have c0:=ic_cell ((hB.more hu).get 5 (x:=⟨h13,ic p,114⟩) rfl) 1 (by omega); rw [← unhide hp1] at c0; go_simp⟩) hG ?_
   simp only [nrm]
   refine any_take (i:=6) (v:=(.pointer (some ⟨h10,p1,none⟩))) #[true,true,true,true,true,true,false,false,false,false,false,false,false,false,false,false,false,false,false,false] rfl (by kernel_rfl) (by kernel_rfl) (by kernel_rfl) (by kernel_rfl) (fun _ _ _ h=>h) (.inl ⟨by kernel_rfl,fun x_ hu=>by go_simp⟩) hG ?_
   simp only [nrm]
   refine any_take (i:=7) (v:=(.int .u32 y1)) #[true,true,true,true,true,true,true,false,false,false,false,false,false,false,false,false,false,false,false,false] rfl (by kernel_rfl) (by kernel_rfl) (by kernel_rfl) (by kernel_rfl) (fun _ _ _ h=>h) (.inl ⟨by kernel_rfl,fun x_ hu=>by have c0:=uc_cell ((hB.more hu).get 4 (x:=⟨h10,uc Y,112⟩) rfl) p1 (by omega); rw [← unhide hy1] at c0; go_simp⟩) hG ?_
   simp only [nrm]
   refine any_take (i:=8) (v:=(.pointer (some ⟨h13,2,none⟩))) #[true,true,true,true,true,true,true,true,false,false,false,false,false,false,false,false,false,false,false,false] rfl (by kernel_rfl) (by kernel_rfl) (by kernel_rfl) (by kernel_rfl) (fun _ _ _ h=>h) (.inl ⟨by kernel_rfl,fun x_ hu=>by kernel_rfl⟩) hG ?_
   simp only [nrm]
   refine any_take (i:=9) (v:=(.int .i64 p2)) #[true,true,true,true,true,true,true,true,true,false,false,false,false,false,false,false,false,false,false,false] rfl (by kernel_rfl) (by kernel_rfl) (by kernel_rfl) (by kernel_rfl) (fun _ _ _ h=>h) (.inl ⟨by kernel_rfl,fun x_ hu=>by have c0:=ic_cell ((hB.more hu).get 5 (x:=⟨h13,ic p,114⟩) rfl) 2 (by omega); rw [← unhide hp2] at c0; go_simp⟩) hG ?_
   simp only [nrm]
   refine any_take (i:=10) (v:=(.pointer (some ⟨h10,p2,none⟩))) #[true,true,true,true,true,true,true,true,true,true,false,false,false,false,false,false,false,false,false,false] rfl (by kernel_rfl) (by kernel_rfl) (by kernel_rfl) (by kernel_rfl) (fun _ _ _ h=>h) (.inl ⟨by kernel_rfl,fun x_ hu=>by go_simp⟩) hG ?_
   simp only [nrm]
   refine any_take (i:=11) (v:=(.int .u32 y2)) #[true,true,true,true,true,true,true,true,true,true,true,false,false,false,false,false,false,false,false,false] rfl (by kernel_rfl) (by kernel_rfl) (by kernel_rfl) (by kernel_rfl) (fun _ _ _ h=>h) (.inl ⟨by kernel_rfl,fun x_ hu=>by have c0:=uc_cell ((hB.more hu).get 4 (x:=⟨h10,uc Y,112⟩) rfl) p2 (by omega); rw [← unhide hy2] at c0; go_simp⟩) hG ?_
   simp only [nrm]
   refine any_take (i:=12) (v:=(.pointer (some ⟨h13,3,none⟩))) #[true,true,true,true,true,true,true,true,true,true,true,true,false,false,false,false,false,false,false,false] rfl (by kernel_rfl) (by kernel_rfl) (by kernel_rfl) (by kernel_rfl) (fun _ _ _ h=>h) (.inl ⟨by kernel_rfl,fun x_ hu=>by kernel_rfl⟩) hG ?_
   simp only [nrm]
   refine any_take (i:=13) (v:=(.int .i64 p3)) #[true,true,true,true,true,true,true,true,true,true,true,true,true,false,false,false,false,false,false,false] rfl (by kernel_rfl) (by kernel_rfl) (by kernel_rfl) (by kernel_rfl) (fun _ _ _ h=>h) (.inl ⟨by kernel_rfl,fun x_ hu=>by have c0:=ic_cell ((hB.more hu).get 5 (x:=⟨h13,ic p,114⟩) rfl) 3 (by omega); rw [← unhide hp3] at c0; go_simp⟩) hG ?_
   simp only [nrm]
   refine any_take (i:=14) (v:=(.pointer (some ⟨h10,p3,none⟩))) #[true,true,true,true,true,true,true,true,true,true,true,true,true,true,false,false,false,false,false,false] rfl (by kernel_rfl) (by kernel_rfl) (by kernel_rfl) (by kernel_rfl) (fun _ _ _ h=>h) (.inl ⟨by kernel_rfl,fun x_ hu=>by go_simp⟩) hG ?_
   simp only [nrm]
   refine any_take (i:=15) (v:=(.int .u32 y3)) #[true,true,true,true,true,true,true,true,true,true,true,true,true,true,true,false,false,false,false,false] rfl (by kernel_rfl) (by kernel_rfl) (by kernel_rfl) (by kernel_rfl) (fun _ _ _ h=>h) (.inl ⟨by kernel_rfl,fun x_ hu=>by have c0:=uc_cell ((hB.more hu).get 4 (x:=⟨h10,uc Y,112⟩) rfl) p3 (by omega); rw [← unhide hy3] at c0; go_simp⟩) hG ?_
   simp only [nrm]
   refine any_take (i:=16) (v:=(.agg (uc [y0,y1,y2,y3]))) #[true,true,true,true,true,true,true,true,true,true,true,true,true,true,true,true,false,false,false,false] rfl (by kernel_rfl) (by kernel_rfl) (by kernel_rfl) (by kernel_rfl) (fun _ _ _ h=>h) (.inl ⟨by kernel_rfl,fun x_ hu=>by kernel_rfl⟩) hG ?_
   simp only [nrm]
   refine float_first (fun q u=>NQ v0 q u) 14 (fun b_=>#[true,true,true,true,true,true,true,true,true,true,true,true,true,true,true,true,true,false,b_,false]) 18 17 false rfl rfl (fun _ g_=>hG.trans g_) (by kernel_rfl) (fun b_=>by cases b_ <;> rfl) ?_ ?_
   all_goals simp only [fw1,Act.put,List.setIfInBounds_toArray,List.set_cons_zero,List.set_cons_succ,List.getElem_toArray,List.getElem_cons_zero,List.getElem_cons_succ]
   ·intro q_ x_ hgx K_ hK
    refine wpOp_step (o:=_) rfl (fun K' hK'=>?_)
    replace hK':=hide hK'
    replace hK:=hide hK
    refine step_val (.pointer (some ⟨x_.heap.size,0,none⟩)) (x_.alloc (.cells #[.int .u32 0,.int .u32 0,.int .u32 0,.int .u32 0] 117 (0,0))) (by kernel_rfl) (by kernel_rfl) ?_
    exact unhide hK' _ _ (unhide hK _ _ ((Gr.refl _).alloc _) (⟨_,rfl,Nat.le_trans hG.size hgx.size,blk_new _ _⟩))
   intro b1_17 q1_17 x1_17 hg hTq hall
   replace hG:=hG.trans hg
   clear hall
   refine wpOp_step (o:=_) rfl (fun K_ hK=>?_)
   replace hK:=hide hK
   refine step_callw (by kernel_rfl) 66 #[.agg (uc [y0,y1,y2,y3])] (by kernel_rfl) ((rquarter_ok y0 y1 y2 y3 _).mono ?_)
   rintro r v17 ⟨rfl,hg⟩
   refine ⟨_,rfl,?_⟩
   replace hTq:=fun e=>NQ.gr (hTq e) hg
   replace hG:=hG.trans hg
   clear hg
   generalize hq:quar y0 y1 y2 y3=q
   replace hq:=hide hq
   refine unhide hK _ _ ⟨hG,?_⟩
   clear hK K_
   simp only [nrm]
   refine float_again (fun q u=>NQ v0 q u) 14 (fun b_=>#[true,true,true,true,true,true,true,true,true,true,true,true,true,true,true,true,true,true,b_,false]) 18 19 true (b:=b1_17) (q:=q1_17) rfl rfl hTq (fun _ g_=>hG.trans g_) (by kernel_rfl) (fun b_=>by cases b_ <;> rfl) ?_ ?_
   all_goals simp only [fw1,Act.put,List.setIfInBounds_toArray,List.set_cons_zero,List.set_cons_succ,List.getElem_toArray,List.getElem_cons_zero,List.getElem_cons_succ]
   ·intro q_ x_ hgx K_ hK
    refine wpOp_step (o:=_) rfl (fun K' hK'=>?_)
    replace hK':=hide hK'
    replace hK:=hide hK
    refine step_val (.pointer (some ⟨x_.heap.size,0,none⟩)) (x_.alloc (.cells #[.int .u32 0,.int .u32 0,.int .u32 0,.int .u32 0] 117 (0,0))) (by kernel_rfl) (by kernel_rfl) ?_
    exact unhide hK' _ _ (unhide hK _ _ ((Gr.refl _).alloc _) (⟨_,rfl,Nat.le_trans hG.size hgx.size,blk_new _ _⟩))
   clear hTq
   intro b1_19 q1_19 x1_19 hg hTq hall
   replace hG:=hG.trans hg
   obtain rfl:b1_19=true:=hall (by trivial)
   replace hTq:=hTq rfl
   clear hall
   obtain ⟨h14,rfl,hge14,hnew⟩:=hTq
   refine wpOp_step (o:=_) rfl (fun K_ hK=>?_)
   replace hK:=hide hK
   rw [if_pos (by kernel_rfl)]
   refine wp_store_row 117 (.tmp 14) (.tmp 71) rfl h14 (uc (ql q)) (by kernel_rfl) (by kernel_rfl) 117 (uc [0,0,0,0]) hnew (by rw [Tryz.info4]; rfl) rfl (uc_one _) ?_
   have hB7:=(hB.join hG [⟨h14,uc [0,0,0,0],117⟩] (by intro x hx; rw [List.mem_singleton] at hx; subst hx; exact ⟨hnew,hge14⟩) (List.pairwise_singleton _ _)).set 6 (x:=⟨h14,uc [0,0,0,0],117⟩) rfl (uc (ql q))
   simp only [List.cons_append,List.nil_append,List.set_cons_zero,List.set_cons_succ] at hB7
   have hG2:=hG.row h14 hge14 (uc (ql q))
   generalize World.setRow _ _ _=v9 at *
   refine unhide hK _ _ ⟨hG2,?_⟩
   clear hK K_
   simp only [nrm]
   clear hB hG hG2 hnew hge14
   replace hB:=hB7
   clear hB7
   refine any_done (by kernel_rfl) ?_
   have hq2:Hid (qset Y p (ql q) 4=qpl Y p):=by
    rw [← unhide hq,unhide hy0,unhide hy1,unhide hy2,unhide hy3,unhide hp0,unhide hp1,unhide hp2,unhide hp3]
    exact qset_all Y p
   have hqn:Hid ((ql q).length=4):=rfl
   clear hp0 hp1 hp2 hp3 hy0 hy1 hy2 hy3 pa0 pa1 pa2 pa3 pb0 pb1 pb2 pb3
   generalize ql q=qq at *
   clear hq
   replace hB:=hide hB
   go_wp2_with fail
   go_loopw [72] (fun i wr=>∃ i':Nat,∃ Z:List Int,i'≤4∧i=.int .i64 i'∧Hid (Z=qset Y p qq i')∧Hid (Bl w [⟨w.heap.size,kc K,23⟩,⟨w.heap.size+1,kc N,64⟩,⟨w.heap.size+1+1,kc Z64,87⟩,⟨h7,uc V,112⟩,⟨h10,uc Z,112⟩,⟨h13,ic p,114⟩,⟨h14,uc qq,117⟩] wr)) (fun i _=>4 - (intOf i).toNat)
   case atStart=>exact ⟨0,Y,by omega,rfl,rfl,hB⟩
   case round =>
   clear hB
   obtain ⟨i,Z,hi,rfl,hZ,hB⟩:=hrel
   have hZl:Z.length=16:=by rw [unhide hZ,qset_len]; exact hYl
   by_cases hil:i<4
   ·obtain ⟨a,ha⟩:∃ x,x=p.getD i 0:=⟨_,rfl⟩
    have a1:a<16:=by rw [ha]; exact (unhide hplt) i
    have a2:(a:Int)<16:=by omega
    have iI:(i:Int)<4:=by omega
    have c0:=ic_cell ((unhide hB).get 5 (x:=⟨h13,ic p,114⟩) rfl) i (by omega)
    have c1:=uc_cell ((unhide hB).get 6 (x:=⟨h14,uc qq,117⟩) rfl) i (by rw [unhide hqn]; exact hil)
    have c2:=uc_cell ((unhide hB).get 4 (x:=⟨h10,uc Z,112⟩) rfl) a (by omega)
    have fz:=froz_of (i:=a) ((unhide hB).get 4 (x:=⟨h10,uc Z,112⟩) rfl)
    have hZ2:Hid (Z.set a (qq.getD i 0)=qset Y p qq (i+1)):=by
     rw [qset,← unhide hZ,← ha]
     exact rfl
    have hB2:=(unhide hB).drew.cell 4 (x:=⟨h10,uc Z,112⟩) rfl a (.int .u32 (qq.getD i 0))
    simp only [List.set_cons_zero,List.set_cons_succ,uc_set] at hB2
    rw [← ha] at c0
    generalize qq.getD i 0=b at *
    generalize Z.getD a 0=z at *
    replace ha:=hide ha
    replace hB2:=hide hB2
    go_wp2_with fail
    go_still_tail 7,(by kernel_rfl)
    go_wp2_with fail
    go_roundw
    case rel=>exact ⟨i+1,_,by omega,by go_num,hZ2,hB2⟩
    case measure=>simp [intOf]; omega
   have ei:i=4:=by omega
   subst ei
   have hZ3:Hid (Z=dq X (t+1)):=by rw [unhide hZ,unhide hq2]; exact unhide hY2
   have hB2:Hid (Bl w [⟨w.heap.size,kc K,23⟩,⟨w.heap.size+1,kc N,64⟩,⟨w.heap.size+1+1,kc Z64,87⟩,⟨h7,uc V,112⟩,⟨h10,uc Z,112⟩] wr):=Bl.left (L:=[⟨w.heap.size,kc K,23⟩,⟨w.heap.size+1,kc N,64⟩,⟨w.heap.size+1+1,kc Z64,87⟩,⟨h7,uc V,112⟩,⟨h10,uc Z,112⟩]) (M:=[⟨h13,ic p,114⟩,⟨h14,uc qq,117⟩]) (unhide hB)
   clear hB hZ hq2 hY2 hqn
   go_wp2_with fail
   go_roundw
   case rel=>exact ⟨t+1,Z,by omega,by go_num,hZ3,hB2⟩
   case measure=>simp [intOf]; omega
  have et:t=8:=by omega
  subst et
  have hX3:Hid (Y=rn V (r+1)):=by rw [unhide hY,dq_all,rn,← unhide hX]; exact rfl
  clear hY
  go_wp2_with fail
  go_roundw
  case rel=>exact ⟨r+1,Y,by omega,by go_num,hX3,hB⟩
  case measure=>simp [intOf]; omega
 have er:r=10:=by omega
 subst er
 clear hr hrl
 obtain ⟨SM,hSM⟩:∃ S,S=sm X V:=⟨_,rfl⟩
 have hSg:Hid (∀ i,i<16→SM.getD i 0=(X.getD i 0+V.getD i 0) % 4294967296):=fun i hi=>by
  rw [hSM]
  unfold sm
  rw [List.getD_eq_getElem?_getD,List.getElem?_map,List.getElem?_range hi]
  exact ad_eq _ _
 have hfin:Hid (bts SM=bk K N c):=by
  rw [hSM,unhide hX,unhide hVV]
  exact rfl
 replace hSM:=hide hSM
 go_upto_region 25 with fail
 refine wp_region_lit ?_
 (refine wpList_step fun K hK=>?_; replace hK:=hide hK; go_simp; refine unhide hK _ _ ?_; clear hK K)
 replace hB:=(unhide hB).new #[.int .u8 0,.int .u8 0,.int .u8 0,.int .u8 0,.int .u8 0,.int .u8 0,.int .u8 0,.int .u8 0,.int .u8 0,.int .u8 0,.int .u8 0,.int .u8 0,.int .u8 0,.int .u8 0,.int .u8 0,.int .u8 0,.int .u8 0,.int .u8 0,.int .u8 0,.int .u8 0,.int .u8 0,.int .u8 0,.int .u8 0,.int .u8 0,.int .u8 0,.int .u8 0,.int .u8 0,.int .u8 0,.int .u8 0,.int .u8 0,.int .u8 0,.int .u8 0,.int .u8 0,.int .u8 0,.int .u8 0,.int .u8 0,.int .u8 0,.int .u8 0,.int .u8 0,.int .u8 0,.int .u8 0,.int .u8 0,.int .u8 0,.int .u8 0,.int .u8 0,.int .u8 0,.int .u8 0,.int .u8 0,.int .u8 0,.int .u8 0,.int .u8 0,.int .u8 0,.int .u8 0,.int .u8 0,.int .u8 0,.int .u8 0,.int .u8 0,.int .u8 0,.int .u8 0,.int .u8 0,.int .u8 0,.int .u8 0,.int .u8 0,.int .u8 0] 87
 simp only [List.nil_append,List.cons_append] at hB
 generalize World.alloc _ _=u9 at *
 generalize wr.heap.size=h16 at *
 replace hB:Hid (Bl w [⟨w.heap.size,kc K,23⟩,⟨w.heap.size+1,kc N,64⟩,⟨w.heap.size+1+1,kc Z64,87⟩,⟨h7,uc V,112⟩,⟨h10,uc X,112⟩,⟨h16,kc Z64,87⟩] u9):=hB
 refine wpList_nil ?_
 go_wp2_with fail
 go_loopw [84] (fun i wr=>∃ i':Nat,∃ m:List Int,i'≤16∧i=.int .i64 i'∧Hid (m=fil (btf SM) (4 * i') Z64)∧Hid (Bl w [⟨w.heap.size,kc K,23⟩,⟨w.heap.size+1,kc N,64⟩,⟨w.heap.size+1+1,kc Z64,87⟩,⟨h7,uc V,112⟩,⟨h10,uc X,112⟩,⟨h16,kc m,87⟩] wr)) (fun i _=>16 - (intOf i).toNat)
 case atStart=>exact ⟨0,Z64,by omega,rfl,(fil_zero _ _).symm,hB⟩
 case round =>
 clear hB
 obtain ⟨i,m,hi,rfl,hm,hB⟩:=hrel
 have hzl:Z64.length=64:=rfl
 have hml:m.length=64:=by rw [unhide hm,fil_len _ _ _ (by omega)]; rfl
 by_cases hil:i<16
 ·have c0:=uc_cell ((unhide hB).get 4 (x:=⟨h10,uc X,112⟩) rfl) i (by omega)
  have c1:=uc_cell ((unhide hB).get 3 (x:=⟨h7,uc V,112⟩) rfl) i (by omega)
  have hs0:=(unhide hSg) i hil
  generalize X.getD i 0=x at *
  generalize V.getD i 0=y at *
  have iI:(i:Int)<16:=by omega
  replace hs0:=hide hs0
  go_wp2_with fail
  go_quiet (fail)
  replace hB:Hid (Bl w [⟨w.heap.size,kc K,23⟩,⟨w.heap.size+1,kc N,64⟩,⟨w.heap.size+1+1,kc Z64,87⟩,⟨h7,uc V,112⟩,⟨h10,uc X,112⟩,⟨h16,kc m,87⟩] (wr.drewN nq)):=(unhide hB).drewN nq
  clear c0 c1
  generalize World.drewN _ _=u10 at *
  generalize hs:(x+y) % 4294967296=s at *
  replace hs:Hid (SM.getD i 0=s):=hs0
  clear hs0
  go_wp2_with fail
  go_loopw [19] (fun j wr=>∃ k:Nat,∃ m:List Int,k≤4∧j=.int .i64 k∧Hid (m=fil (btf SM) (4 * i+k) Z64)∧Hid (Bl w [⟨w.heap.size,kc K,23⟩,⟨w.heap.size+1,kc N,64⟩,⟨w.heap.size+1+1,kc Z64,87⟩,⟨h7,uc V,112⟩,⟨h10,uc X,112⟩,⟨h16,kc m,87⟩] wr)) (fun j _=>4 - (intOf j).toNat)
  case atStart=>exact ⟨0,m,by omega,rfl,hm,hB⟩
  case round =>
  clear hB hm hml m
  obtain ⟨k,m,hk,rfl,hm,hB⟩:=hrel
  have hml:m.length=64:=by rw [unhide hm,fil_len _ _ _ (by omega)]; rfl
  by_cases hkl:k<4
  ·obtain ⟨o,ho⟩:∃ x,x=4 * i:=⟨_,rfl⟩
   obtain ⟨t,ht⟩:∃ x,x=4 * i+k:=⟨_,rfl⟩
   obtain ⟨k8,hk8⟩:∃ x,x=8 * k:=⟨_,rfl⟩
   have hbt:btf SM t=s / 2 ^ k8 % 256:=by
    unfold btf
    rw [show t / 4=i from by omega,show t % 4 * 8=k8 from by omega,unhide hs]
   have c1:=kc_cell ((unhide hB).get 5 (x:=⟨h16,kc m,87⟩) rfl) t (by omega)
   have fz:=froz_of (i:=t) ((unhide hB).get 5 (x:=⟨h16,kc m,87⟩) rfl)
   generalize m.getD t 0=z at c1
   have hm2:Hid (m.set t (s / 2 ^ k8 % 256)=fil (btf SM) (4 * i+(k+1)) Z64):=by
    rw [unhide hm,← hbt,ht]
    exact fil_set _ _ _ (by omega)
   have hB2:=(unhide hB).cell 5 (x:=⟨h16,kc m,87⟩) rfl t (.int .u8 (s / 2 ^ k8 % 256))
   simp only [List.set_cons_zero,List.set_cons_succ,kc_set] at hB2
   clear hbt
   replace hB2:=hide hB2
   have f1:4 * (i:Int)=(o:Int):=by omega
   have f2:(o:Int)+(k:Int)=(t:Int):=by omega
   have f3:8 * (k:Int)=(k8:Int):=by omega
   have f4:IntKind.i64.wrap (o:Int)=(o:Int):=by rw [IntKind.wrap_i64]; omega
   have f5:IntKind.i64.wrap (t:Int)=(t:Int):=by rw [IntKind.wrap_i64]; omega
   have f6:IntKind.i64.wrap (k8:Int)=(k8:Int):=by rw [IntKind.wrap_i64]; omega
   have f7:(t:Int)<64:=by omega
   have f8:t<64:=by omega
   have f9:0≤(k8:Int):=by omega
   have f10:min k8 32=k8:=by omega
   have f11:k8≤32:=by omega
   have kI:(k:Int)<4:=by omega
   replace ho:=hide ho
   replace ht:=hide ht
   replace hk8:=hide hk8
   go_wp2_with fail
   go_roundw
   case rel=>exact ⟨k+1,_,by omega,by go_num,hm2,hB2⟩
   case measure=>simp [intOf]; omega
  have ek:k=4:=by omega
  subst ek
  have hm2:Hid (m=fil (btf SM) (4 * (i+1)) Z64):=by rw [unhide hm]; exact rfl
  clear hm
  go_wp2_with fail
  go_roundw
  case rel=>exact ⟨i+1,_,by omega,by go_num,hm2,hB⟩
  case measure=>simp [intOf]; omega
 have ei:i=16:=by omega
 subst ei
 have hM:m=bk K N c:=by
  rw [← unhide hfin,unhide hm]
  have h:=fil_all (btf SM) Z64
  rw [hzl] at h
  exact h
 clear hm
 go_upto_region 35 with fail
 replace hB:=unhide hB
 refine wp_region_lit ?_
 refine list_val (.agg (kc m)) (by kernel_rfl) (exec_arr _ 87 (.tmp 16) rfl (h16) (by kernel_rfl) (kc m) 87 _ (hB.get 5 (x:=⟨h16,kc m,87⟩) rfl) Tryz.underlying87 rfl (by rw [Tryz.info64,kc_size,hml])) ?_
 simp only [nrm]
 refine list_store 87 (.tmp 6) (.tmp 109) (w.heap.size+1+1) (kc m) 87 (kc Z64) (by kernel_rfl) rfl (by kernel_rfl) (by kernel_rfl) (hB.get 2 (x:=⟨w.heap.size+1+1,kc Z64,87⟩) rfl) (by rw [Tryz.info64,kc_size,hml]) ((show (kc Z64).size=64 from rfl).trans ((kc_size _).trans hml).symm) (kc_one _) ?_
 replace hB:=hB.set 2 (x:=⟨w.heap.size+1+1,kc Z64,87⟩) rfl (kc m)
 simp only [List.set_cons_zero,List.set_cons_succ] at hB
 generalize World.setRow _ _ _=u12 at *
 simp only [nrm]
 refine wpList_nil ?_
 go_wp2_with fail
 rw [unhide hT,← hM]
 exact bodyPost_ret (v:=.agg (kc m)) (results_cell_row Tryz.results38 _ _ (w.heap.size+1+1) 87 (kc m) (0,0) _ rfl (hB.get 2 (x:=⟨w.heap.size+1+1,kc m,87⟩) rfl) Tryz.underlying87 rfl (by rw [Tryz.info64,kc_size,hml])) rfl (⟨rfl,hB.gr⟩)
theorem Bl.grown {w v v':World} {L:List Blk} (h:Bl w L v) {b:Nat} {x:Value} {M:List Int} (ho:Ob b v x M) (hb:w.heap.size≤b) (k:v.grownBy v' x.ownBlock) (ht:∀ y ∈ L,y.t≠5):Bl w L v':=by
 refine ⟨Ob.grown ho hb h.gr k,fun y hy=>?_,h.ne⟩
 obtain ⟨h1,h2⟩:=h.at_ y hy
 refine ⟨?_,h2⟩
 rw [k.block y.g (lt_of_block h1) ?_]
 ·exact h1
 ·intro e
  rcases ho.2 with ⟨rfl,_⟩ | ⟨g,cap,cur,rfl,_,h3,_⟩
  ·cases e
  ·have e2:y.g=g:=by simpa [Value.ownBlock] using e
   rw [e2] at h1
   rw [h3] at h1
   simp only [Blk.obj,Option.some.injEq,Obj.cells.injEq] at h1
   exact ht y hy h1.2.1.symm
theorem Ob.other {b:Nat} {w:World} {v:Value} {L:List Int} (h:Ob b w v L) {g:Nat} {c:Array Value} {t:TypeId} (hg:w.heap[g]?=some (.cells c t (0,0))) (ht:t≠5) (cs:Array Value):Ob b (w.setRow g cs) v L:=by
 rcases h with ⟨h0,h1 | ⟨g',cap,cur,h1,h2,h3,h4⟩⟩
 ·exact ⟨h0,.inl h1⟩
 ·refine ⟨h0,.inr ⟨g',cap,cur,h1,h2,?_,h4⟩⟩
  have hne:g'≠g:=by
   rintro rfl
   rw [hg] at h3
   simp only [Option.some.injEq,Obj.cells.injEq] at h3
   exact ht h3.2.1
  exact (setRow_other w g g' cs hne).trans h3
end Go.Proofs.YthahhglbeafkmaaGreatDoor
namespace Go.Proofs.YthahhglbeafkmaaGreatDoor
open Go.RowKit
set_option maxRecDepth 100000
set_option linter.unusedSimpArgs false
set_option linter.unusedVariables false
def Pq (w:World) (p o:Nat) (ps:List (List Int)):Prop:=∀ j,j<ps.length→∃ a n c,w.cell? ⟨p,o+j,none⟩=some (.slice a n c)∧(ps.getD j []).length=n∧IsB (ps.getD j [])∧Sl w a (ps.getD j [])∧n≤c∧c<9223372036854775808
theorem Pq.gr {w v:World} {p o:Nat} {ps:List (List Int)} (h:Pq w p o ps) (k:Gr w v):Pq v p o ps:=by
 intro j hj
 obtain ⟨a,n,c,h1,h2,h3,h4,h5⟩:=h j hj
 exact ⟨a,n,c,k.cell h1,h2,h3,h4.gr k,h5⟩
def Pr (w:World) (a:Option Addr) (ps:List (List Int)):Prop:=ps=[]∨∃ p o,a=some ⟨p,o,none⟩∧Pq w p o ps
theorem Pr.gr {w v:World} {a:Option Addr} {ps:List (List Int)} (h:Pr w a ps) (k:Gr w v):Pr v a ps:=by
 rcases h with h | ⟨p,o,h1,h2⟩
 ·exact .inl h
 ·exact .inr ⟨p,o,h1,h2.gr k⟩
def PqX (g:Nat) (w:World) (p o:Nat) (ps:List (List Int)):Prop:=∀ j,j<ps.length→∃ a n c,w.cell? ⟨p,o+j,none⟩=some (.slice a n c)∧p≠g∧(ps.getD j []).length=n∧IsB (ps.getD j [])∧SlX g w a (ps.getD j [])∧n≤c∧c<9223372036854775808
theorem PqX.bt {g:Nat} {w v:World} {p o:Nat} {ps:List (List Int)} (h:PqX g w p o ps) (k:Bt g w v):PqX g v p o ps:=by
 intro j hj
 obtain ⟨a,n,c,h1,h2,h3,h4,h5,h6⟩:=h j hj
 exact ⟨a,n,c,k.cell h1 h2,h2,h3,h4,h5.bt k,h6⟩
def PrX (g:Nat) (w:World) (a:Option Addr) (ps:List (List Int)):Prop:=ps=[]∨∃ p o,a=some ⟨p,o,none⟩∧PqX g w p o ps
theorem Pr.far {w v:World} {a:Option Addr} {ps:List (List Int)} (h:Pr w a ps) (k:Gr w v) {g:Nat} (hg:w.heap.size≤g):PrX g v a ps:=by
 rcases h with h | ⟨p,o,h1,h2⟩
 ·exact .inl h
 ·refine .inr ⟨p,o,h1,fun j hj=>?_⟩
  obtain ⟨a,n,c,h3,h4,h5,h6,h7⟩:=h2 j hj
  exact ⟨a,n,c,k.cell h3,(by have:=lt_of_cell h3; omega),h4,h5,h6.far k hg,h7⟩
def wrf (g:Nat):Value:=.func (.func 58) #[.pointer (some ⟨g,0,none⟩)] #[]
theorem flat_next (ps:List (List Int)) (k:Nat) (h:k<ps.length):(ps.take (k+1)).flatten=(ps.take k).flatten++ps.getD k []:=by
 rw [List.take_add_one,List.getElem?_eq_getElem h,List.flatten_append]
 simp [h]
theorem flat_le (ps:List (List Int)) (k:Nat):(ps.take k).flatten.length≤ps.flatten.length:=by
 have h:ps.flatten=(ps.take k).flatten++(ps.drop k).flatten:=by rw [← List.flatten_append,List.take_append_drop]
 rw [h,List.length_append]
 omega
set_option maxHeartbeats 2000000 in
theorem feed_ok (g:Nat) (L:List Int) (ps:List (List Int)) (a:Option Addr) (m cap:Nat) (hm:ps.length=m) (hmb:m<4611686018427387904) (hbig:L.length+ps.flatten.length<1152921504606846000) (w:World) (hH:H g L w) (hP:PrX g w a ps) :
  Calls Tryz.prog 131 #[wrf g,.slice a m cap] w (fun r w'=>∃ v,r=.returned v∧H g (L++ps.flatten) w'∧Bt g w w'):=by
 obtain ⟨W,hW⟩:∃ W,W=wrf g:=⟨_,rfl⟩
 rw [← hW]
 obtain ⟨T,hT⟩:∃ T,T=(fun (r:Ending) (w':World)=>∃ v,r=.returned v∧H g (L++ps.flatten) w'∧Bt g w w'):=⟨_,rfl⟩
 rw [← hT]
 replace hT:=hide hT
 replace hW:=hide hW
 replace hP:=hide hP
 have hH0:H g (L++(ps.take 0).flatten) w:=by simpa using hH
 replace hH:=hide hH0
 clear hH0
 go_enter Tryz.func131,Tryz.ntmps131
 go_wp2_with fail
 go_loopw [8] (fun i wr=>∃ k:Nat,k≤m∧i=.int .i64 k∧Hid (H g (L++(ps.take k).flatten) wr)∧Hid (Bt g w wr)) (fun i _=>m - (intOf i).toNat)
 case atStart=>exact ⟨0,by omega,rfl,hH,Bt.refl g w⟩
 case round =>
 clear hH
 obtain ⟨k,hk,rfl,hH,hB⟩:=hrel
 by_cases hl:k<m
 ·have kI:(k:Int)<(m:Int):=by omega
  obtain ⟨p,o,rfl,hq⟩:∃ p o,a=some ⟨p,o,none⟩∧PqX g wr p o ps:=by
   rcases (unhide hP) with h | ⟨p,o,h1,h2⟩
   ·rw [h] at hm; simp at hm; omega
   ·exact ⟨p,o,h1,h2.bt (unhide hB)⟩
  obtain ⟨aP,nP,cP,cc,_,hPl,hPb,hPs,hPc,hPm⟩:=hq k (by omega)
  clear hq
  have hnx:=hide (flat_next ps k (by omega))
  have hle:=flat_le ps (k+1)
  rw [unhide hnx,List.length_append] at hle
  generalize ps.getD k []=P at *
  have kw:IntKind.i64.wrap ((k:Int)+1)=(k:Int)+1:=by rw [IntKind.wrap_i64]; omega
  replace hPs:=hide hPs
  replace hPb:=hide hPb
  replace hle:=hide hle
  go_upto_region 3 with fail
  refine wp_region_lit ?_
  iterate 2 (refine wpList_step fun K hK=>?_; replace hK:=hide hK; go_simp; refine unhide hK _ _ ?_; clear hK K)
  rw [unhide hW]
  refine list_call 58 #[.pointer (some ⟨g,0,none⟩),.slice aP nP cP] (by kernel_rfl) (by kernel_rfl) ((write_ok g (L++(ps.take k).flatten) P (unhide hPb) (by have:=unhide hle; rw [List.length_append]; omega) aP nP cP hPl hPc hPm _ (unhide hH) (unhide hPs)).mono ?_)
  rintro r v1 ⟨rfl,hH2,hbt⟩
  refine ⟨_,rfl,?_⟩
  rw [← unhide hW]
  replace hB:=hide ((unhide hB).trans hbt)
  have hH3:Hid (H g (L++(ps.take (k+1)).flatten) v1):=by rw [unhide hnx,← List.append_assoc]; exact hH2
  clear hH hbt hH2 hnx
  simp only [nrm]
  refine wpList_nil ?_
  go_wp2_with fail
  go_roundw
  case rel=>exact ⟨k+1,by omega,by go_num,hH3,hB⟩
  case measure=>simp [intOf]; omega
 ·have e:k=m:=by omega
  subst e
  have hH3:Hid (H g (L++ps.flatten) wr):=by
   have:=unhide hH
   rw [List.take_of_length_le (by omega)] at this
   exact this
  clear hH
  go_wp2_with fail
  refine bodyPost_end (v:=.tuple #[]) ?_ rfl ?_
  ·simp [results,Tryz.results131,go_sem]
  ·rw [unhide hT]
   exact ⟨_,rfl,unhide hH3,unhide hB⟩
def kxb (a x:Int):Int:=bits .xor .u8 a x
theorem kxb_rng (a x:Int):0≤kxb a x∧kxb a x<256:=by
 have:=bounds_u8 (wf_bits .xor .u8 a x)
 unfold kxb
 omega
def XK (K:List Int) (x:Int):Nat→List Int
 | 0=>K
 | n+1=>(XK K x n).set n (kxb ((XK K x n).getD n 0) x)
theorem XK_len (K:List Int) (x:Int):∀ n,(XK K x n).length=K.length
 | 0=>rfl
 | n+1=>by rw [XK,List.length_set,XK_len K x n]
theorem XK_get (K:List Int) (x:Int) (j:Nat):∀ n,n≤K.length→(XK K x n).getD j 0=if j<n then kxb (K.getD j 0) x else K.getD j 0
 | 0,_=>by simp [XK]
 | n+1,h=>by
  rw [XK,getD_set _ _ _ _ (by rw [XK_len]; omega),XK_get K x n n (by omega),if_neg (Nat.lt_irrefl n)]
  by_cases e:j=n
  ·subst e
   rw [if_pos rfl,if_pos (by omega)]
  ·rw [if_neg e,XK_get K x j n (by omega)]
   by_cases h2:j<n
   ·rw [if_pos h2,if_pos (by omega)]
   ·rw [if_neg h2,if_neg (by omega)]
def k6 (B:List Int):List Int:=if 64<B.length then sumL B else B
def padK (B:List Int) (x:Int):List Int:=(List.range 64).map fun i=>kxb ((k6 B).getD i 0) x
theorem padK_len (B:List Int) (x:Int):(padK B x).length=64:=by unfold padK; simp
theorem padK_isB (B:List Int) (x:Int):IsB (padK B x):=by
 intro y hy
 unfold padK at hy
 obtain ⟨i,_,rfl⟩:=List.mem_map.1 hy
 exact kxb_rng _ _
def z6 (B:List Int):List Int:=k6 B++List.replicate (64 - (k6 B).length) 0
theorem k6_len (B:List Int):(k6 B).length≤64:=by
 unfold k6
 split
 ·rw [sumL_len]; omega
 ·omega
theorem z6_len (B:List Int):(z6 B).length=64:=by
 have:=k6_len B
 unfold z6
 rw [List.length_append,List.length_replicate]
 omega
theorem z6_get (B:List Int) (j:Nat):(z6 B).getD j 0=(k6 B).getD j 0:=by
 unfold z6
 simp only [List.getD_eq_getElem?_getD,List.getElem?_append]
 split
 ·rfl
 ·rename_i h
  rw [List.getElem?_eq_none (by omega:(k6 B).length≤j)]
  simp only [List.getElem?_replicate]
  split <;> rfl
theorem pad_all (B:List Int) (x:Int):XK (z6 B) x 64=padK B x:=by
 apply List.ext_getElem (by rw [XK_len,z6_len,padK_len])
 intro i h1 h2
 have h3:=XK_get (z6 B) x i 64 (by rw [z6_len]; omega)
 have hi:i<64:=by rw [padK_len] at h2; exact h2
 rw [if_pos hi,z6_get] at h3
 rw [List.getD_eq_getElem?_getD,List.getElem?_eq_getElem h1] at h3
 simp only [Option.getD_some] at h3
 rw [h3]
 unfold padK
 simp
theorem Tryz.infoL:(Tryz.prog.info? 87).map (·.size)=some 64:=by kernel_rfl
def Z6:List Int:=List.replicate 64 0
def Padd (K:List Int) (x:Int) (w:World) (r:Ending) (w':World):Prop:=∃ g,r=.returned (.slice (some ⟨g,0,none⟩) 64 64)∧w.heap.size≤g∧w'.heap[g]?=some (.cells (kc (XK K x 64)) 87 (0,0))∧Gr w w'
set_option maxHeartbeats 2000000 in
theorem pads1_ok (K:List Int) (hK:K.length=64) (x:Int) (gk:Nat) (w:World) (hk:w.heap[gk]?=some (.cells (kc K) 87 (0,0))):Calls Tryz.prog 134 #[.int .u8 x,.pointer (some ⟨gk,0,none⟩)] w (Padd K x w):=by
 obtain ⟨T,hT⟩:∃ T,T=Padd K x w:=⟨_,rfl⟩
 rw [← hT]
 replace hT:=hide hT
 replace hk:=hide hk
 go_enter Tryz.func134,Tryz.ntmps134
 go_upto_region 1 with fail
 refine wp_region_lit ?_
 refine list_val (.agg (kc K)) (by kernel_rfl) (exec_arr _ 87 (.tmp 1) rfl gk (by kernel_rfl) (kc K) 87 _ (unhide hk) Tryz.underlying87 rfl (by rw [Tryz.infoL,kc_size,hK])) ?_
 simp only [nrm]
 iterate 1 (refine wpList_step fun K hK=>?_; replace hK:=hide hK; go_simp; refine unhide hK _ _ ?_; clear hK K)
 have hB:=(Bl.nil w).new #[.int .u8 0,.int .u8 0,.int .u8 0,.int .u8 0,.int .u8 0,.int .u8 0,.int .u8 0,.int .u8 0,.int .u8 0,.int .u8 0,.int .u8 0,.int .u8 0,.int .u8 0,.int .u8 0,.int .u8 0,.int .u8 0,.int .u8 0,.int .u8 0,.int .u8 0,.int .u8 0,.int .u8 0,.int .u8 0,.int .u8 0,.int .u8 0,.int .u8 0,.int .u8 0,.int .u8 0,.int .u8 0,.int .u8 0,.int .u8 0,.int .u8 0,.int .u8 0,.int .u8 0,.int .u8 0,.int .u8 0,.int .u8 0,.int .u8 0,.int .u8 0,.int .u8 0,.int .u8 0,.int .u8 0,.int .u8 0,.int .u8 0,.int .u8 0,.int .u8 0,.int .u8 0,.int .u8 0,.int .u8 0,.int .u8 0,.int .u8 0,.int .u8 0,.int .u8 0,.int .u8 0,.int .u8 0,.int .u8 0,.int .u8 0,.int .u8 0,.int .u8 0,.int .u8 0,.int .u8 0,.int .u8 0,.int .u8 0,.int .u8 0,.int .u8 0] 87
 simp only [List.nil_append] at hB
 generalize World.alloc _ _=u at *
 replace hB:Bl w [⟨w.heap.size,kc Z6,87⟩] u:=hB
 refine list_store 87 (.tmp 4) (.tmp 6) w.heap.size (kc K) 87 (kc Z6) (by kernel_rfl) rfl (by kernel_rfl) (by kernel_rfl) (hB.get 0 (x:=⟨w.heap.size,kc Z6,87⟩) rfl) (by rw [Tryz.infoL,kc_size,hK]) ((show (kc Z6).size=64 from rfl).trans ((kc_size _).trans hK).symm) (kc_one _) ?_
 replace hB:=hB.set 0 (x:=⟨w.heap.size,kc Z6,87⟩) rfl (kc K)
 simp only [List.set_cons_zero,List.set_cons_succ] at hB
 generalize World.setRow _ _ _=u1 at *
 simp only [nrm]
 refine wpList_nil ?_
 replace hB:Hid (Bl w [⟨w.heap.size,kc (XK K x 0),87⟩] u1):=hB
 go_wp2_with fail
 go_loopw [7] (fun i wr=>∃ (n:Nat) (m:List Int),n≤64∧i=.int .i64 n∧Hid (m=XK K x n)∧Hid (Bl w [⟨w.heap.size,kc m,87⟩] wr)) (fun i _=>64 - (intOf i).toNat)
 case atStart=>exact ⟨0,XK K x 0,by omega,rfl,rfl,hB⟩
 case round =>
 clear hB
 obtain ⟨n,m,hn,rfl,hm,hB⟩:=hrel
 have hml:m.length=64:=by rw [unhide hm,XK_len,hK]
 by_cases hl:n<64
 ·have nI:(n:Int)<64:=by omega
  have nJ:0≤(n:Int)∧(n:Int)<64:=by omega
  have hg:=(unhide hB).get 0 (x:=⟨w.heap.size,kc m,87⟩) rfl
  have cs:=kc_cell hg n (by omega)
  have fs:=froz_of (i:=n) hg
  clear hg
  have hm2:Hid (m.set n (kxb (m.getD n 0) x)=XK K x (n+1)):=by rw [unhide hm]; exact rfl
  have hB2:=(unhide hB).cell 0 (x:=⟨w.heap.size,kc m,87⟩) rfl n (.int .u8 (kxb (m.getD n 0) x))
  simp only [List.set_cons_zero,List.set_cons_succ,kc_set] at hB2
  generalize m.getD n 0=y at *
  replace hB2:Hid (Bl w [⟨w.heap.size,kc (m.set n (bits .xor .u8 y x)),87⟩] (wr.setCell ⟨w.heap.size,n,none⟩ (.int .u8 (bits .xor .u8 y x)))):=hB2
  replace hm2:Hid (m.set n (bits .xor .u8 y x)=XK K x (n+1)):=hm2
  go_wp2_with fail
  go_roundw
  case rel=>exact ⟨n+1,_,by omega,by go_num,hm2,hB2⟩
  case measure=>simp [intOf]; omega
 ·have e:n=64:=by omega
  subst e
  have hP:Hid (Padd K x w (.returned (.slice (some ⟨w.heap.size,0,none⟩) 64 64)) wr):=⟨_,rfl,Nat.le_refl _,(by rw [← unhide hm]; exact (unhide hB).get 0 (x:=⟨w.heap.size,kc m,87⟩) rfl),(unhide hB).gr⟩
  clear hl hm hB
  go_wp2_with fail
  rw [unhide hT]
  exact unhide hP
def padf (gk:Nat):Value:=.func (.func 134) #[] #[.pointer (some ⟨gk,0,none⟩)]
def Padf (B:List Int) (w:World) (r:Ending) (w':World):Prop:=∃ g,r=.returned (padf g)∧w.heap.size≤g∧w'.heap[g]?=some (.cells (kc (z6 B)) 87 (0,0))∧Gr w w'
theorem sp_kc (L Z:List Int) (h:L.length≤Z.length):sp (Z.map (Value.int .u8)) 0 (L.map (Value.int .u8))=(L++Z.drop L.length).map (Value.int .u8):=by
 have h1:=sp_mid (L.map (Value.int .u8)) [] ((Z.take L.length).map (Value.int .u8)) ((Z.drop L.length).map (Value.int .u8)) (by simp; omega)
 simp only [List.nil_append,List.length_nil,← List.map_append,List.take_append_drop] at h1
 exact h1
set_option maxHeartbeats 2000000 in
theorem pads_ok (B:List Int) (hb:IsB B) (n:Nat) (hn:B.length=n) (hbig:n<1152921504606846000) (a:Option Addr) (cap:Nat) (hcap:n≤cap) (hcb:cap<9223372036854775808) (w:World) (hF:Fst w) (hA:Sl w a B) :
  Calls Tryz.prog 130 #[.slice a n cap] w (Padf B w):=by
 obtain ⟨T,hT⟩:∃ T,T=Padf B w:=⟨_,rfl⟩
 rw [← hT]
 replace hT:=hide hT
 replace hF:=hide hF
 replace hA:=hide hA
 replace hb:=hide hb
 replace hn:=hide hn
 have tail:∀ (L:List Int) (a':Option Addr) (m c:Nat) (v:World),L=k6 B→L.length=m→Sl v a' L→v.heap[w.heap.size]?=some (.cells (kc Z6) 87 (0,0))→Gr w v→L.length≤64∧(v.setCells w.heap.size 0 (L.map (Value.int .u8))).heap[w.heap.size]?=some (.cells (kc (z6 B)) 87 (0,0))∧Gr w (v.setCells w.heap.size 0 (L.map (Value.int .u8))):=by
  intro L a' m c v hL hm hs hv hg
  have hlen:L.length≤64:=by rw [hL]; exact k6_len B
  refine ⟨hlen,?_,(setCells_bt _ v w.heap.size 0).gr hg (Nat.le_refl _)⟩
  rw [setCells_heap _ v w.heap.size 0 (Z6.map (Value.int .u8)) 87 hv,sp_kc L Z6 hlen]
  have e:L++Z6.drop L.length=z6 B:=by
   rw [hL]
   unfold z6 Z6
   rw [List.drop_replicate]
  rw [e]
  rfl
 replace tail:=hide tail
 by_cases hl:64<n
 ·have lI:64<(n:Int):=by omega
  go_enter Tryz.func130,Tryz.ntmps130
  go_upto_region 3 with fail
  have hB:=(Bl.nil w).new #[.int .u8 0,.int .u8 0,.int .u8 0,.int .u8 0,.int .u8 0,.int .u8 0,.int .u8 0,.int .u8 0,.int .u8 0,.int .u8 0,.int .u8 0,.int .u8 0,.int .u8 0,.int .u8 0,.int .u8 0,.int .u8 0,.int .u8 0,.int .u8 0,.int .u8 0,.int .u8 0,.int .u8 0,.int .u8 0,.int .u8 0,.int .u8 0,.int .u8 0,.int .u8 0,.int .u8 0,.int .u8 0,.int .u8 0,.int .u8 0,.int .u8 0,.int .u8 0,.int .u8 0,.int .u8 0,.int .u8 0,.int .u8 0,.int .u8 0,.int .u8 0,.int .u8 0,.int .u8 0,.int .u8 0,.int .u8 0,.int .u8 0,.int .u8 0,.int .u8 0,.int .u8 0,.int .u8 0,.int .u8 0,.int .u8 0,.int .u8 0,.int .u8 0,.int .u8 0,.int .u8 0,.int .u8 0,.int .u8 0,.int .u8 0,.int .u8 0,.int .u8 0,.int .u8 0,.int .u8 0,.int .u8 0,.int .u8 0,.int .u8 0,.int .u8 0] 87
  simp only [List.nil_append] at hB
  generalize World.alloc _ _=u at *
  replace hB:Bl w [⟨w.heap.size,kc Z6,87⟩] u:=hB
  refine wp_region_lit ?_
  iterate 1 (refine wpList_step fun K hK=>?_; replace hK:=hide hK; go_simp; refine unhide hK _ _ ?_; clear hK K)
  refine list_call 36 #[.slice a n cap] (by kernel_rfl) (by kernel_rfl) ((sum_ok B (unhide hb) n (unhide hn) hbig a cap hcap hcb _ ((unhide hF).gr hB.gr) ((unhide hA).gr hB.gr)).mono ?_)
  rintro r u1 ⟨rfl,hg⟩
  refine ⟨_,rfl,?_⟩
  replace hB:=hB.more hg
  clear hg
  simp only [nrm]
  have hk6:k6 B=sumL B:=by unfold k6; rw [if_pos (by rw [unhide hn]; exact hl)]
  obtain ⟨M,hM⟩:∃ M,M=sumL B:=⟨_,rfl⟩
  have hMl:M.length=32:=by rw [hM]; exact sumL_len B
  rw [← hM] at hk6
  rw [← hM]
  clear hM
  replace hk6:=hide hk6
  iterate 1 (refine wpList_step fun K hK=>?_; replace hK:=hide hK; go_simp; refine unhide hK _ _ ?_; clear hK K)
  replace hB:=hB.new #[.int .u8 0,.int .u8 0,.int .u8 0,.int .u8 0,.int .u8 0,.int .u8 0,.int .u8 0,.int .u8 0,.int .u8 0,.int .u8 0,.int .u8 0,.int .u8 0,.int .u8 0,.int .u8 0,.int .u8 0,.int .u8 0,.int .u8 0,.int .u8 0,.int .u8 0,.int .u8 0,.int .u8 0,.int .u8 0,.int .u8 0,.int .u8 0,.int .u8 0,.int .u8 0,.int .u8 0,.int .u8 0,.int .u8 0,.int .u8 0,.int .u8 0,.int .u8 0] 23
  simp only [List.cons_append,List.nil_append] at hB
  generalize World.alloc _ _=u2 at *
  generalize u1.heap.size=gs at *
  replace hB:Bl w [⟨w.heap.size,kc Z6,87⟩,⟨gs,kc Z32,23⟩] u2:=hB
  refine list_store 23 (.tmp 4) (.tmp 9) gs (kc M) 23 (kc Z32) (by kernel_rfl) rfl (by kernel_rfl) (by kernel_rfl) (hB.get 1 (x:=⟨gs,kc Z32,23⟩) rfl) (by rw [Tryz.infoKey,kc_size,hMl]) ((show (kc Z32).size=32 from rfl).trans ((kc_size _).trans hMl).symm) (kc_one _) ?_
  replace hB:=hB.set 1 (x:=⟨gs,kc Z32,23⟩) rfl (kc M)
  simp only [List.set_cons_zero,List.set_cons_succ] at hB
  generalize World.setRow _ _ _=u3 at *
  simp only [nrm]
  refine wpList_nil ?_
  replace hB:=hide hB
  go_upto_region 5 with fail
  replace hB:=unhide hB
  refine wp_region_lit ?_
  iterate 2 (refine wpList_step fun K hK=>?_; replace hK:=hide hK; go_simp; refine unhide hK _ _ ?_; clear hK K)
  have hs:Sl u3 (some ⟨gs,0,none⟩) M:=.inr ⟨gs,0,rfl,kc_at (hB.get 1 (x:=⟨gs,kc M,23⟩) rfl)⟩
  have ht:=(unhide tail) M _ 32 0 u3 (unhide hk6).symm hMl hs (hB.get 0 (x:=⟨w.heap.size,kc Z6,87⟩) rfl) hB.gr
  refine wpList_plain rfl fun K hK=>?_
  refine copy_wp (.tmp 11) (.tmp 12) rfl w.heap.size 0 64 64 (some ⟨gs,0,none⟩) 32 32 (by kernel_rfl) (by kernel_rfl) (Z6.map (Value.int .u8)) 87 (hB.get 0 (x:=⟨w.heap.size,kc Z6,87⟩) rfl) M (by rw [hMl]; rfl) (.inr ⟨gs,0,rfl,kc_at (hB.get 1 (x:=⟨gs,kc M,23⟩) rfl)⟩) (by rw [hMl]; decide) ?_
  refine hK _ _ ?_
  clear hK K hB hs
  simp only [nrm]
  generalize World.setCells _ _ _ _=u4 at *
  refine wpList_nil ?_
  have hP:Hid (Padf B w (.returned (padf w.heap.size)) u4):=⟨_,rfl,Nat.le_refl _,ht.2.1,ht.2.2⟩
  clear ht tail hk6
  go_wp2_with fail
  rw [unhide hT]
  exact unhide hP
 ·have lI:¬ 64<(n:Int):=by omega
  have hk6:Hid (B=k6 B):=by unfold k6; rw [if_neg (by rw [unhide hn]; exact hl)]; exact rfl
  go_enter Tryz.func130,Tryz.ntmps130
  go_upto_region 5 with fail
  have hB:=(Bl.nil w).new #[.int .u8 0,.int .u8 0,.int .u8 0,.int .u8 0,.int .u8 0,.int .u8 0,.int .u8 0,.int .u8 0,.int .u8 0,.int .u8 0,.int .u8 0,.int .u8 0,.int .u8 0,.int .u8 0,.int .u8 0,.int .u8 0,.int .u8 0,.int .u8 0,.int .u8 0,.int .u8 0,.int .u8 0,.int .u8 0,.int .u8 0,.int .u8 0,.int .u8 0,.int .u8 0,.int .u8 0,.int .u8 0,.int .u8 0,.int .u8 0,.int .u8 0,.int .u8 0,.int .u8 0,.int .u8 0,.int .u8 0,.int .u8 0,.int .u8 0,.int .u8 0,.int .u8 0,.int .u8 0,.int .u8 0,.int .u8 0,.int .u8 0,.int .u8 0,.int .u8 0,.int .u8 0,.int .u8 0,.int .u8 0,.int .u8 0,.int .u8 0,.int .u8 0,.int .u8 0,.int .u8 0,.int .u8 0,.int .u8 0,.int .u8 0,.int .u8 0,.int .u8 0,.int .u8 0,.int .u8 0,.int .u8 0,.int .u8 0,.int .u8 0,.int .u8 0] 87
  simp only [List.nil_append] at hB
  generalize World.alloc _ _=u at *
  replace hB:Bl w [⟨w.heap.size,kc Z6,87⟩] u:=hB
  refine wp_region_lit ?_
  iterate 2 (refine wpList_step fun K hK=>?_; replace hK:=hide hK; go_simp; refine unhide hK _ _ ?_; clear hK K)
  have hs:=(unhide hA).gr hB.gr
  have ht:=(unhide tail) B a n 0 u (unhide hk6) (unhide hn) hs (hB.get 0 (x:=⟨w.heap.size,kc Z6,87⟩) rfl) hB.gr
  refine wpList_plain rfl fun K hK=>?_
  refine copy_wp (.tmp 11) (.tmp 12) rfl w.heap.size 0 64 64 a n cap (by kernel_rfl) (by kernel_rfl) (Z6.map (Value.int .u8)) 87 (hB.get 0 (x:=⟨w.heap.size,kc Z6,87⟩) rfl) B (by rw [unhide hn]; exact (Nat.min_eq_left (by omega)).symm) (by rcases hs with h | ⟨p,o,h1,h2⟩; exact .inl h; exact .inr ⟨p,o,h1,h2⟩) (by have:=ht.1; rw [List.length_map]; exact Nat.le_trans (by omega) (Nat.le_of_eq (show 64=Z6.length from rfl))) ?_
  refine hK _ _ ?_
  clear hK K hB hs
  simp only [nrm]
  generalize World.setCells _ _ _ _=u4 at *
  refine wpList_nil ?_
  have hP:Hid (Padf B w (.returned (padf w.heap.size)) u4):=⟨_,rfl,Nat.le_refl _,ht.2.1,ht.2.2⟩
  clear ht tail hk6
  go_wp2_with fail
  rw [unhide hT]
  exact unhide hP
end Go.Proofs.YthahhglbeafkmaaGreatDoor
namespace Go.Proofs.YthahhglbeafkmaaGreatDoor
open Go.RowKit
set_option maxRecDepth 100000
set_option linter.unusedSimpArgs false
set_option linter.unusedVariables false
def hmacL (key text:List Int):List Int:=sumL (padK key 92++sumL (padK key 54++text))
theorem hmacL_len (key text:List Int):(hmacL key text).length=32:=sumL_len _
theorem sumL_isB (B:List Int):IsB (sumL B):=keyL_isB _
structure HI (w:World) (g4 gk g1 g2:Nat) (K L1 L2:List Int) (v:World):Prop where
 b4:v.heap[g4]?=some (.cells (kc Z32) 23 (0,0))
 bk:v.heap[gk]?=some (.cells (kc K) 87 (0,0))
 h1:H g1 L1 v
 h2:H g2 L2 v
 gr:Gr w v
 n4:w.heap.size≤g4
 nk:g4<gk
 n1:gk<g1
 n2:g1<g2
 n9:g2<v.heap.size
theorem HI.more {w:World} {g4 gk g1 g2:Nat} {K L1 L2:List Int} {u v:World} (h:HI w g4 gk g1 g2 K L1 L2 u) (k:Gr u v):HI w g4 gk g1 g2 K L1 L2 v :=
 ⟨k.blk h.b4,k.blk h.bk,h.h1.gr k,h.h2.gr k,h.gr.trans k,h.n4,h.nk,h.n1,h.n2,Nat.lt_of_lt_of_le h.n9 k.size⟩
theorem HI.one {w:World} {g4 gk g1 g2:Nat} {K L1 L2 M:List Int} {u v:World} (h:HI w g4 gk g1 g2 K L1 L2 u) (k:Bt g1 u v) (hm:H g1 M v):HI w g4 gk g1 g2 K M L2 v:=by
 have a1:=h.n4; have a2:=h.nk; have a3:=h.n1; have a4:=h.n2
 exact ⟨k.blk h.b4 (by omega),k.blk h.bk (by omega),hm,h.h2.bt k (by omega),k.gr h.gr (by omega),h.n4,h.nk,h.n1,h.n2,Nat.lt_of_lt_of_le h.n9 k.size⟩
theorem HI.two {w:World} {g4 gk g1 g2:Nat} {K L1 L2 M:List Int} {u v:World} (h:HI w g4 gk g1 g2 K L1 L2 u) (k:Bt g2 u v) (hm:H g2 M v):HI w g4 gk g1 g2 K L1 M v:=by
 have a1:=h.n4; have a2:=h.nk; have a3:=h.n1; have a4:=h.n2
 exact ⟨k.blk h.b4 (by omega),k.blk h.bk (by omega),h.h1.bt k (by omega),hm,k.gr h.gr (by omega),h.n4,h.nk,h.n1,h.n2,Nat.lt_of_lt_of_le h.n9 k.size⟩
theorem PrX.one {g:Nat} {w:World} {p:Nat} {a:Option Addr} {n c:Nat} {t:TypeId} {P:List Int} (h:w.heap[p]?=some (.cells #[.slice a n c] t (0,0))) (hp:p≠g) (hn:P.length=n) (hb:IsB P) (hs:SlX g w a P) (hc:n≤c) (hm:c<9223372036854775808):PrX g w (some ⟨p,0,none⟩) [P]:=by
 refine .inr ⟨p,0,rfl,fun j hj=>?_⟩
 have hj0:j=0:=by simp at hj; exact hj
 subst hj0
 exact ⟨a,n,c,cell_of h rfl,hp,hn,hb,hs,hc,hm⟩
theorem PrX.pair {g:Nat} {w:World} {p:Nat} {a b:Option Addr} {n c m d:Nat} {t:TypeId} {P Q:List Int} (h:w.heap[p]?=some (.cells #[.slice a n c,.slice b m d] t (0,0))) (hp:p≠g) (hn:P.length=n) (hb:IsB P) (hs:SlX g w a P) (hc:n≤c) (hm:c<9223372036854775808)
  (hn2:Q.length=m) (hb2:IsB Q) (hs2:SlX g w b Q) (hc2:m≤d) (hm2:d<9223372036854775808):PrX g w (some ⟨p,0,none⟩) [P,Q]:=by
 refine .inr ⟨p,0,rfl,fun j hj=>?_⟩
 have hj0:j=0∨j=1:=by simp at hj; omega
 rcases hj0 with rfl | rfl
 ·exact ⟨a,n,c,cell_of h rfl,hp,hn,hb,hs,hc,hm⟩
 ·exact ⟨b,m,d,cell_of h rfl,hp,hn2,hb2,hs2,hc2,hm2⟩
def Coded (key text:List Int) (w:World) (r:Ending) (w':World):Prop:=r=.returned (.agg (kc (hmacL key text)))∧Gr w w'
set_option maxHeartbeats 2000000 in
theorem hmac_ok (B:List Int) (hb:IsB B) (n:Nat) (hn:B.length=n) (hnb:n<1152921504606846000) (a:Option Addr) (cap:Nat) (hcap:n≤cap) (hcb:cap<9223372036854775808) (ps:List (List Int)) (ap:Option Addr) (m cp:Nat) (hm:ps.length=m) (hmb:m<4611686018427387904) (hbig:ps.flatten.length<1152921504606840000)
  (w:World) (hF:Fst w) (hA:Sl w a B) (hP:Pr w ap ps):Calls Tryz.prog 124 #[.slice a n cap,.slice ap m cp] w (Coded B ps.flatten w):=by
 obtain ⟨T,hT⟩:∃ T,T=Coded B ps.flatten w:=⟨_,rfl⟩
 rw [← hT]
 replace hT:=hide hT
 replace hF:=hide hF
 replace hA:=hide hA
 replace hP:=hide hP
 replace hb:=hide hb
 replace hn:=hide hn
 replace hm:=hide hm
 replace hbig:=hide hbig
 go_enter Tryz.func124,Tryz.ntmps124
 go_upto_region 1 with fail
 have hB:=(Bl.nil w).new #[.int .u8 0,.int .u8 0,.int .u8 0,.int .u8 0,.int .u8 0,.int .u8 0,.int .u8 0,.int .u8 0,.int .u8 0,.int .u8 0,.int .u8 0,.int .u8 0,.int .u8 0,.int .u8 0,.int .u8 0,.int .u8 0,.int .u8 0,.int .u8 0,.int .u8 0,.int .u8 0,.int .u8 0,.int .u8 0,.int .u8 0,.int .u8 0,.int .u8 0,.int .u8 0,.int .u8 0,.int .u8 0,.int .u8 0,.int .u8 0,.int .u8 0,.int .u8 0] 23
 simp only [List.nil_append] at hB
 generalize World.alloc _ _=u1 at *
 replace hB:Bl w [⟨w.heap.size,kc Z32,23⟩] u1:=hB
 refine wp_region_lit ?_
 iterate 1 (refine wpList_step fun K hK=>?_; replace hK:=hide hK; go_simp; refine unhide hK _ _ ?_; clear hK K)
 refine list_call 130 #[.slice a n cap] (by kernel_rfl) (by kernel_rfl) ((pads_ok B (unhide hb) n (unhide hn) hnb a cap hcap hcb _ ((unhide hF).gr hB.gr) ((unhide hA).gr hB.gr)).mono ?_)
 rintro r u2 ⟨gk,rfl,hgk,hk,hg⟩
 refine ⟨_,rfl,?_⟩
 have n0:=lt_of_block (hB.get 0 (x:=⟨w.heap.size,kc Z32,23⟩) rfl)
 have nk:w.heap.size<gk:=by dsimp only at n0; omega
 have n1:=lt_of_block hk
 replace hB:=hB.more hg
 clear hg hgk n0
 simp only [nrm]
 replace hB:=hide hB
 replace hk:=hide hk
 obtain ⟨PF,hPF⟩:∃ PF,PF=padf gk:=⟨_,rfl⟩
 rw [← hPF]
 replace hPF:=hide hPF
 iterate 1 (refine wpList_step fun K hK=>?_; replace hK:=hide hK; go_simp; refine unhide hK _ _ ?_; clear hK K)
 refine wpList_nil ?_
 go_upto_region 2 with fail
 replace hB:=unhide hB
 replace hk:=unhide hk
 refine wp_region_lit ?_
 refine list_call 57 #[] (by kernel_rfl) (by kernel_rfl) ((new_ok _ ((unhide hF).gr hB.gr)).mono ?_)
 rintro r u3 ⟨g1,rfl,hg1,hH1,hg⟩
 refine ⟨_,rfl,?_⟩
 have nk1:gk<g1:=by omega
 have m1:g1<u3.heap.size:=by obtain ⟨l,_,_,h3,_⟩:=hH1; exact lt_of_block h3
 replace hB:=hB.more hg
 replace hk:=hg.blk hk
 clear hg hg1 n1
 simp only [nrm]
 refine list_call 57 #[] (by kernel_rfl) (by kernel_rfl) ((new_ok _ ((unhide hF).gr hB.gr)).mono ?_)
 rintro r u4 ⟨g2,rfl,hg2,hH2,hg⟩
 refine ⟨_,rfl,?_⟩
 have n12:g1<g2:=by omega
 have m2:g2<u4.heap.size:=by obtain ⟨l,_,_,h3,_⟩:=hH2; exact lt_of_block h3
 replace hB:=hB.more hg
 replace hk:=hg.blk hk
 replace hH1:=hH1.gr hg
 clear hg hg2 m1
 simp only [nrm]
 have hI:HI w w.heap.size gk g1 g2 (z6 B) [] [] u4:=⟨hB.get 0 (x:=⟨w.heap.size,kc Z32,23⟩) rfl,hk,hH1,hH2,hB.gr,Nat.le_refl _,nk,nk1,n12,m2⟩
 clear hB hk hH1 hH2 m2
 replace hI:=hide hI
 iterate 2 (refine wpList_step fun K hK=>?_; replace hK:=hide hK; go_simp; refine unhide hK _ _ ?_; clear hK K)
 refine wpList_nil ?_
 go_upto_region 3 with fail
 refine wp_region_lit ?_
 iterate 1 (refine wpList_step fun K hK=>?_; replace hK:=hide hK; go_simp; refine unhide hK _ _ ?_; clear hK K)
 refine list_val (wrf g1) (by kernel_rfl) (by kernel_rfl) ?_
 simp only [nrm]
 iterate 1 (refine wpList_step fun K hK=>?_; replace hK:=hide hK; go_simp; refine unhide hK _ _ ?_; clear hK K)
 rw [unhide hPF]
 replace hI:=unhide hI
 refine list_call 134 #[.int .u8 54,.pointer (some ⟨gk,0,none⟩)] (by kernel_rfl) (by kernel_rfl) ((pads1_ok (z6 B) (z6_len B) 54 gk _ hI.bk).mono ?_)
 rintro r u5 ⟨gp,rfl,hgp,hp,hg⟩
 refine ⟨_,rfl,?_⟩
 have npg:gp≠g1:=by have:=hI.n9; omega
 replace hI:=hI.more hg
 clear hg hgp
 rw [pad_all] at hp
 rw [← unhide hPF]
 simp only [nrm]
 replace hI:=hide hI
 replace hp:=hide hp
 obtain ⟨WF,hWF⟩:∃ WF,WF=wrf g1:=⟨_,rfl⟩
 rw [← hWF]
 replace hWF:=hide hWF
 iterate 1 (refine wpList_step fun K hK=>?_; replace hK:=hide hK; go_simp; refine unhide hK _ _ ?_; clear hK K)
 have hg:=(Gr.refl u5).alloc (.cells #[.slice (some ⟨gp,0,none⟩) 64 64] 43)
 have hnew:(u5.alloc (.cells #[.slice (some ⟨gp,0,none⟩) 64 64] 43)).heap[u5.heap.size]?=some (.cells #[.slice (some ⟨gp,0,none⟩) 64 64] 43 (0,0)):=blk_new _ _
 have hng:u5.heap.size≠g1:=by have:=(unhide hI).n9; omega
 replace hI:=(unhide hI).more hg
 replace hp:=hg.blk (unhide hp)
 generalize World.alloc _ _=u6 at *
 generalize u5.heap.size=gb at *
 clear hg
 rw [unhide hWF]
 refine list_call 131 #[wrf g1,.slice (some ⟨gb,0,none⟩) 1 1] (by kernel_rfl) (by kernel_rfl) ((feed_ok g1 [] [padK B 54] (some ⟨gb,0,none⟩) 1 1 rfl (by omega) (by simp [padK_len]) _ hI.h1 (PrX.one hnew hng (padK_len B 54) (padK_isB B 54) (.inr ⟨gp,0,rfl,kc_at hp,npg⟩) (by omega) (by omega))).mono ?_)
 rintro r u7 ⟨vr,rfl,hH,hbt⟩
 refine ⟨_,rfl,?_⟩
 replace hI:=hI.one hbt hH
 rw [show ([]:List Int)++[padK B 54].flatten=padK B 54 by simp] at hI
 clear hbt hH hp hnew hng npg hWF
 simp only [nrm]
 refine wpList_nil ?_
 replace hI:=hide hI
 go_upto_region 4 with fail
 refine wp_region_lit ?_
 iterate 1 (refine wpList_step fun K hK=>?_; replace hK:=hide hK; go_simp; refine unhide hK _ _ ?_; clear hK K)
 refine list_val (wrf g1) (by kernel_rfl) (by kernel_rfl) ?_
 simp only [nrm]
 replace hI:=unhide hI
 refine list_val (.slice ap m cp) (by kernel_rfl) (by kernel_rfl) ?_
 simp only [nrm]
 refine list_call 131 #[wrf g1,.slice ap m cp] (by kernel_rfl) (by kernel_rfl) ((feed_ok g1 (padK B 54) ps ap m cp (unhide hm) hmb (by rw [padK_len]; have:=unhide hbig; omega) _ hI.h1 ((unhide hP).far hI.gr (by have a2:=hI.nk; have a3:=hI.n1; omega))).mono ?_)
 rintro r u8 ⟨vr2,rfl,hH,hbt⟩
 refine ⟨_,rfl,?_⟩
 replace hI:=hI.one hbt hH
 clear hbt hH
 simp only [nrm]
 refine wpList_nil ?_
 replace hI:=hide hI
 go_upto_region 5 with fail
 refine wp_region_lit ?_
 iterate 1 (refine wpList_step fun K hK=>?_; replace hK:=hide hK; go_simp; refine unhide hK _ _ ?_; clear hK K)
 replace hI:=unhide hI
 refine list_call 59 #[.pointer (some ⟨g1,0,none⟩)] (by kernel_rfl) (by kernel_rfl) ((hsum_ok g1 (padK B 54++ps.flatten) (by rw [List.length_append,padK_len]; have:=unhide hbig; omega) _ hI.h1).mono ?_)
 rintro r u9 ⟨rfl,hg⟩
 refine ⟨_,rfl,?_⟩
 replace hI:=hI.more hg
 clear hg
 simp only [nrm]
 have hSum:Hid (sumL (padK B 92++sumL (padK B 54++ps.flatten))=hmacL B ps.flatten):=rfl
 obtain ⟨M,hM⟩:∃ M,M=sumL (padK B 54++ps.flatten):=⟨_,rfl⟩
 have hMl:M.length=32:=by rw [hM]; exact sumL_len _
 have hMb:IsB M:=by rw [hM]; exact sumL_isB _
 rw [← hM] at hSum
 rw [← hM]
 clear hM
 replace hI:=hide hI
 replace hMb:=hide hMb
 iterate 1 (refine wpList_step fun K hK=>?_; replace hK:=hide hK; go_simp; refine unhide hK _ _ ?_; clear hK K)
 have hL:=(Bl.nil u9).new #[.int .u8 0,.int .u8 0,.int .u8 0,.int .u8 0,.int .u8 0,.int .u8 0,.int .u8 0,.int .u8 0,.int .u8 0,.int .u8 0,.int .u8 0,.int .u8 0,.int .u8 0,.int .u8 0,.int .u8 0,.int .u8 0,.int .u8 0,.int .u8 0,.int .u8 0,.int .u8 0,.int .u8 0,.int .u8 0,.int .u8 0,.int .u8 0,.int .u8 0,.int .u8 0,.int .u8 0,.int .u8 0,.int .u8 0,.int .u8 0,.int .u8 0,.int .u8 0] 23
 simp only [List.nil_append] at hL
 generalize World.alloc _ _=u10 at *
 replace hL:Bl u9 [⟨u9.heap.size,kc Z32,23⟩] u10:=hL
 refine list_store 23 (.tmp 8) (.tmp 24) u9.heap.size (kc M) 23 (kc Z32) (by kernel_rfl) rfl (by kernel_rfl) (by kernel_rfl) (hL.get 0 (x:=⟨u9.heap.size,kc Z32,23⟩) rfl) (by rw [Tryz.infoKey,kc_size,hMl]) ((show (kc Z32).size=32 from rfl).trans ((kc_size _).trans hMl).symm) (kc_one _) ?_
 replace hL:=hL.set 0 (x:=⟨u9.heap.size,kc Z32,23⟩) rfl (kc M)
 simp only [List.set_cons_zero,List.set_cons_succ] at hL
 generalize World.setRow _ _ _=u11 at *
 simp only [nrm]
 refine wpList_nil ?_
 have hks:=hL.get 0 (x:=⟨u9.heap.size,kc M,23⟩) rfl
 dsimp only at hks
 have nsg:u9.heap.size≠g2:=by have:=(unhide hI).n9; omega
 replace hI:=(unhide hI).more hL.gr
 generalize u9.heap.size=gs at *
 clear hL
 replace hI:=hide hI
 replace hks:=hide hks
 go_upto_region 6 with fail
 replace hI:=unhide hI
 replace hks:=unhide hks
 refine any_start (S:=fun _=>True) (by kernel_rfl) ?_
 have hg:=(Gr.refl u11).drew
 generalize World.drew _=u11b at *
 replace hI:=hI.more hg
 replace hks:=hg.blk hks
 clear hg
 rw [unhide hPF]
 simp only [List.size_toArray,List.length_cons,List.length_nil,Array.replicate,List.replicate]
 refine any_take (i:=0) (v:=(.pointer (some ⟨g2,0,none⟩))) #[false,false,false,false,false,false,false] rfl (by kernel_rfl) (by kernel_rfl) (by kernel_rfl) (by kernel_rfl) (fun _ _ _ h=>h) (.inl ⟨by kernel_rfl,fun x_ hu=>by kernel_rfl⟩) trivial ?_
 simp only [nrm]
 refine any_take (i:=1) (v:=(wrf g2)) #[true,false,false,false,false,false,false] rfl (by kernel_rfl) (by kernel_rfl) (by kernel_rfl) (by kernel_rfl) (fun _ _ _ h=>h) (.inl ⟨by kernel_rfl,fun x_ hu=>by kernel_rfl⟩) trivial ?_
 simp only [nrm]
 refine any_take (i:=2) (v:=(padf gk)) #[true,true,false,false,false,false,false] rfl (by kernel_rfl) (by kernel_rfl) (by kernel_rfl) (by kernel_rfl) (fun _ _ _ h=>h) (.inl ⟨by kernel_rfl,fun x_ hu=>by kernel_rfl⟩) trivial ?_
 simp only [nrm]
 refine any_take (i:=4) (v:=(.slice (some ⟨gs,0,none⟩) 32 32)) #[true,true,true,false,false,false,false] rfl (by kernel_rfl) (by kernel_rfl) (by kernel_rfl) (by kernel_rfl) (fun _ _ _ h=>h) (.inl ⟨by kernel_rfl,fun x_ hu=>by go_simp⟩) trivial ?_
 simp only [nrm]
 refine any_one (i:=3) (by kernel_rfl) rfl (fun K hK=>?_)
 refine step_callw (by kernel_rfl) 134 #[.int .u8 92,.pointer (some ⟨gk,0,none⟩)] (by kernel_rfl) ((pads1_ok (z6 B) (z6_len B) 92 gk _ hI.bk).mono ?_)
 rintro r u12 ⟨gq,rfl,hgq,hq,hg⟩
 refine ⟨_,rfl,?_⟩
 have nqg:gq≠g2:=by have:=hI.n9; omega
 replace hI:=hI.more hg
 replace hks:=hg.blk hks
 clear hg hgq
 rw [pad_all] at hq
 refine hK.out _ _ trivial (fun _=>?_)
 clear hK K
 simp only [nrm]
 refine any_one (i:=5) (by kernel_rfl) rfl (fun K hK=>?_)
 replace hI:=hide hI
 replace hq:=hide hq
 replace hks:=hide hks
 obtain ⟨WG,hWG⟩:∃ WG,WG=wrf g2:=⟨_,rfl⟩
 rw [← hWG]
 replace hWG:=hide hWG
 replace hK:=hide hK
 go_simp
 refine (unhide hK).out _ _ trivial (fun _=>?_)
 clear hK K
 have hg:=(Gr.refl u12).alloc (.cells #[.slice (some ⟨gq,0,none⟩) 64 64,.slice (some ⟨gs,0,none⟩) 32 32] 43)
 have hnew:(u12.alloc (.cells #[.slice (some ⟨gq,0,none⟩) 64 64,.slice (some ⟨gs,0,none⟩) 32 32] 43)).heap[u12.heap.size]?=some (.cells #[.slice (some ⟨gq,0,none⟩) 64 64,.slice (some ⟨gs,0,none⟩) 32 32] 43 (0,0)):=blk_new _ _
 have hng:u12.heap.size≠g2:=by have:=(unhide hI).n9; omega
 replace hI:=(unhide hI).more hg
 replace hq:=hg.blk (unhide hq)
 replace hks:=hg.blk (unhide hks)
 generalize World.alloc _ _=u13 at *
 generalize u12.heap.size=gc at *
 clear hg
 rw [unhide hWG]
 clear hWG
 refine any_one (i:=6) (by kernel_rfl) rfl (fun K hK=>?_)
 refine step_callw (by kernel_rfl) 131 #[wrf g2,.slice (some ⟨gc,0,none⟩) 2 2] (by kernel_rfl) ((feed_ok g2 [] [padK B 92,M] (some ⟨gc,0,none⟩) 2 2 rfl (by omega) (by simp [padK_len,hMl]) _ hI.h2 (PrX.pair hnew hng (padK_len B 92) (padK_isB B 92) (.inr ⟨gq,0,rfl,kc_at hq,nqg⟩) (by omega) (by omega) hMl (unhide hMb) (.inr ⟨gs,0,rfl,kc_at hks,nsg⟩) (by omega) (by omega))).mono ?_)
 rintro r u14 ⟨vr3,rfl,hH,hbt⟩
 refine ⟨_,rfl,?_⟩
 replace hI:=hI.two hbt hH
 clear hbt hH hnew hng hq hks
 refine hK.out _ _ trivial (fun _=>?_)
 clear hK K
 simp only [nrm]
 refine any_done (by kernel_rfl) ?_
 try simp only [nrm]
 rw [show ([]:List Int)++[padK B 92,M].flatten=padK B 92++M by simp] at hI
 replace hI:=hide hI
 go_upto_region 7 with fail
 refine wp_region_lit ?_
 iterate 1 (refine wpList_step fun K hK=>?_; replace hK:=hide hK; go_simp; refine unhide hK _ _ ?_; clear hK K)
 replace hI:=unhide hI
 refine list_call 59 #[.pointer (some ⟨g2,0,none⟩)] (by kernel_rfl) (by kernel_rfl) ((hsum_ok g2 (padK B 92++M) (by rw [List.length_append,padK_len,hMl]; omega) _ hI.h2).mono ?_)
 rintro r u15 ⟨rfl,hg⟩
 refine ⟨_,rfl,?_⟩
 replace hI:=hI.more hg
 clear hg
 rw [unhide hSum]
 simp only [nrm]
 have hRl:(hmacL B ps.flatten).length=32:=hmacL_len _ _
 obtain ⟨R,hR⟩:∃ R,R=hmacL B ps.flatten:=⟨_,rfl⟩
 rw [← hR] at hRl
 rw [← hR]
 refine list_store 23 (.tmp 4) (.tmp 33) w.heap.size (kc R) 23 (kc Z32) (by kernel_rfl) rfl (by kernel_rfl) (by kernel_rfl) hI.b4 (by rw [Tryz.infoKey,kc_size,hRl]) ((show (kc Z32).size=32 from rfl).trans ((kc_size _).trans hRl).symm) (kc_one _) ?_
 have hb4:=setRow_heap u15 w.heap.size _ (kc R) _ _ hI.b4
 have hgr:=hI.gr.row w.heap.size (Nat.le_refl _) (kc R)
 generalize World.setRow _ _ _=u16 at *
 clear hI
 simp only [nrm]
 refine wpList_nil ?_
 go_wp2_with fail
 rw [unhide hT]
 exact bodyPost_ret (v:=.agg (kc R)) (results_cell_row Tryz.results124 _ _ w.heap.size 23 (kc R) (0,0) _ rfl hb4 Tryz.underlying23 rfl (by rw [Tryz.infoKey,kc_size,hRl])) rfl ⟨by rw [hR],hgr⟩
end Go.Proofs.YthahhglbeafkmaaGreatDoor
namespace Go.Proofs.YthahhglbeafkmaaGreatDoor
open Go.RowKit
set_option maxRecDepth 100000
set_option linter.unusedSimpArgs false
set_option linter.unusedVariables false
theorem Lb.nil (w:World):Lb w none 0 0 []:=⟨rfl,(by intro x hx; cases hx),.inl rfl,by omega,by omega⟩
theorem Pr.one {w:World} {p:Nat} {a:Option Addr} {n c:Nat} {t:TypeId} {P:List Int} (h:w.heap[p]?=some (.cells #[.slice a n c] t (0,0))) (hp:Lb w a n c P):Pr w (some ⟨p,0,none⟩) [P]:=by
 refine .inr ⟨p,0,rfl,fun j hj=>?_⟩
 have hj0:j=0:=by simp at hj; exact hj
 subst hj0
 exact ⟨a,n,c,cell_of h rfl,hp.len,hp.isB,hp.sl,hp.cap,hp.max⟩
theorem Pr.three {w:World} {p:Nat} {a b e:Option Addr} {n c m d k f:Nat} {t:TypeId} {P Q R:List Int} (h:w.heap[p]?=some (.cells #[.slice a n c,.slice b m d,.slice e k f] t (0,0))) (hp:Lb w a n c P) (hq:Lb w b m d Q) (hr:Lb w e k f R):Pr w (some ⟨p,0,none⟩) [P,Q,R]:=by
 refine .inr ⟨p,0,rfl,fun j hj=>?_⟩
 have hj0:j=0∨j=1∨j=2:=by simp at hj; omega
 rcases hj0 with rfl | rfl | rfl
 ·exact ⟨a,n,c,cell_of h rfl,hp.len,hp.isB,hp.sl,hp.cap,hp.max⟩
 ·exact ⟨b,m,d,cell_of h rfl,hq.len,hq.isB,hq.sl,hq.cap,hq.max⟩
 ·exact ⟨e,k,f,cell_of h rfl,hr.len,hr.isB,hr.sl,hr.cap,hr.max⟩
end Go.Proofs.YthahhglbeafkmaaGreatDoor
namespace Go.Proofs.YthahhglbeafkmaaGreatDoor
open Go.RowKit
set_option maxRecDepth 100000
set_option linter.unusedSimpArgs false
set_option linter.unusedVariables false
def lastT (K I:List Int):Nat→List Int
 | 0=>[]
 | i+1=>hmacL K (lastT K I i++(I++[(((i+1) % 256:Nat):Int)]))
def outT (K I:List Int):Nat→List Int
 | 0=>[]
 | i+1=>outT K I i++lastT K I (i+1)
theorem outT_len (K I:List Int):∀ i,(outT K I i).length=32 * i
 | 0=>rfl
 | i+1=>by
  rw [outT,List.length_append,outT_len K I i,lastT,hmacL_len]
  omega
theorem outT_add (K I:List Int) (m:Nat):∀ d,∃ r,outT K I (m+d)=outT K I m++r
 | 0=>⟨[],by simp⟩
 | d+1=>by
  obtain ⟨r,hr⟩:=outT_add K I m d
  refine ⟨r++lastT K I (m+d+1),?_⟩
  rw [← Nat.add_assoc,outT,hr,List.append_assoc]
def spL (K I:List Int) (n:Nat):List Int:=(outT K I ((n+31) / 32)).take n
theorem spL_len (K I:List Int) (n:Nat):(spL K I n).length=n:=by
 unfold spL
 rw [List.length_take,outT_len]
 omega
theorem spL_of (K I:List Int) (n m:Nat) (h:n≤32 * m):(outT K I m).take n=spL K I n:=by
 obtain ⟨d,hd⟩:∃ d,m=(n+31) / 32+d:=⟨m - (n+31) / 32,by omega⟩
 obtain ⟨r,hr⟩:=outT_add K I ((n+31) / 32) d
 unfold spL
 rw [hd,hr,List.take_append_of_le_length (by rw [outT_len]; omega)]
theorem lastT_isB (K I:List Int):∀ i,IsB (lastT K I i)
 | 0=>by intro x hx; cases hx
 | i+1=>by rw [lastT]; exact sumL_isB _
theorem outT_isB (K I:List Int):∀ i,IsB (outT K I i)
 | 0=>by intro x hx; cases hx
 | i+1=>by rw [outT]; exact isB_append (outT_isB K I i) (lastT_isB K I (i+1))
theorem spL_isB (K I:List Int) (n:Nat):IsB (spL K I n):=isB_take (outT_isB _ _ _) n
theorem lastT_len (K I:List Int) (i:Nat):(lastT K I (i+1)).length=32:=by rw [lastT]; exact hmacL_len _ _
def Spr (K I:List Int) (n:Nat) (w:World) (r:Ending) (w':World):Prop:=∃ a,r=.returned (.slice a n n)∧Lb w' a n n (spL K I n)∧(∀ x,a=some x→w.heap.size≤x.block)∧Gr w w'
structure SI (w:World) (b gk:Nat) (K I:List Int) (i:Nat) (v7:Value) (a8:Option Addr) (n8 c8:Nat) (v:World):Prop where
 ob:Ob b v v7 (outT K I i)
 la:Lb v a8 n8 c8 (lastT K I i)
 bk:v.heap[gk]?=some (.cells (kc K) 23 (0,0))
 gr:Gr w v
 sz:b≤v.heap.size
theorem SI.more {w:World} {b gk:Nat} {K I:List Int} {i:Nat} {v7:Value} {a8:Option Addr} {n8 c8:Nat} {u v:World} (h:SI w b gk K I i v7 a8 n8 c8 u) (k:Gr u v):SI w b gk K I i v7 a8 n8 c8 v :=
 ⟨h.ob.gr k,h.la.gr k,k.blk h.bk,h.gr.trans k,Nat.le_trans h.sz k.size⟩
set_option maxHeartbeats 2000000 in
theorem spread_ok (K:List Int) (hKl:K.length=32) (hKb:IsB K) (I:List Int) (a:Option Addr) (ni ci:Nat) (n:Nat) (hn:n≤8160) (hni:ni≤1152921504606830000) (w:World) (hF:Fst w) (hI:Lb w a ni ci I) :
  Calls Tryz.prog 106 #[.agg (kc K),.slice a ni ci,.int .i64 n] w (Spr K I n w):=by
 obtain ⟨T,hT⟩:∃ T,T=Spr K I n w:=⟨_,rfl⟩
 rw [← hT]
 obtain ⟨KK,hKK⟩:∃ KK,KK=kc K:=⟨_,rfl⟩
 rw [← hKK]
 have hKs:KK.size=32:=by rw [hKK,kc_size,hKl]
 replace hT:=hide hT
 replace hF:=hide hF
 replace hI:=hide hI
 replace hKK:=hide hKK
 replace hKb:=hide hKb
 have w1:IntKind.i64.wrap ((n:Int)+32)=(n:Int)+32:=by rw [IntKind.wrap_i64]; omega
 have w2:(0:Int)≤(n:Int)+32:=by omega
 go_enter Tryz.func106,Tryz.ntmps106
 go_upto_region 1 with fail
 have hB:=(Bl.nil w).new KK 23
 simp only [List.nil_append] at hB
 generalize World.alloc _ _=u1 at *
 refine wp_region_lit ?_
 iterate 2 (refine wpList_step fun K hK=>?_; replace hK:=hide hK; go_simp; refine unhide hK _ _ ?_; clear hK K)
 refine wpList_make_room u1 rfl (.const (.int .i64 0)) (.tmp 12) rfl 0 ((n:Int)+32) 0 (n+32) (by kernel_rfl) (by kernel_rfl) (by omega) (by omega) (by omega) (by omega) ?_
 have hO:Ob u1.heap.size (u1.alloc (.cells (kc (List.replicate (n+32) 0)) 5 (0,0))) (.slice (some ⟨u1.heap.size,0,none⟩) 0 (n+32)) [] :=
  ⟨rfl,.inr ⟨u1.heap.size,n+32,_,rfl,Nat.le_refl _,blk_new _ _,by simp,by unfold maxLen; omega,by rw [kc_size]; simp,by simp⟩⟩
 have hg:=(Gr.refl u1).alloc (.cells (kc (List.replicate (n+32) 0)) 5 (0,0))
 have hgk:w.heap.size<u1.heap.size:=by have:=lt_of_block (hB.get 0 (x:=⟨w.heap.size,KK,23⟩) rfl); exact this
 replace hB:=hB.more hg
 have hbs:=hg.size
 generalize World.alloc _ _=u2 at *
 generalize u1.heap.size=b at *
 clear hg
 simp only [nrm]
 have hS:SI w b w.heap.size K I 0 (.slice (some ⟨b,0,none⟩) 0 (n+32)) none 0 0 u2:=⟨hO,Lb.nil _,(by rw [← unhide hKK]; exact hB.get 0 (x:=⟨w.heap.size,KK,23⟩) rfl),hB.gr,hbs⟩
 clear hO hB hbs
 replace hS:=hide hS
 iterate 1 (refine wpList_step fun K hK=>?_; replace hK:=hide hK; go_simp; refine unhide hK _ _ ?_; clear hK K)
 refine wpList_nil ?_
 go_wp2_with fail
 go_loopw [7,8,9] (fun x y z wr=>∃ (i:Nat) (a7:Option Addr) (c7:Nat) (a8:Option Addr) (n8 c8:Nat),i≤(n+31) / 32∧x=.slice a7 (32 * i) c7∧y=.slice a8 n8 c8∧z=.int .i64 ((i+1:Nat):Int)∧Hid (SI w b w.heap.size K I i (.slice a7 (32 * i) c7) a8 n8 c8 wr)) (fun x _ _ _=>n+32 - slenV x)
 case atStart=>exact ⟨0,_,n+32,none,0,0,by omega,rfl,rfl,rfl,hS⟩
 case round =>
 clear hS
 obtain ⟨i,a7,c7,a8,n8,c8,hi,rfl,rfl,rfl,hS⟩:=hrel
 by_cases hl:32 * i<n
 ·have lI:32 * (i:Int)<(n:Int):=by omega
  have e1:IntKind.i64.wrap ((i:Int)+1+1)=(i:Int)+1+1:=by rw [IntKind.wrap_i64]; omega
  obtain ⟨y,hy⟩:∃ y:Int,y=(((i+1) % 256:Nat):Int):=⟨_,rfl⟩
  have e2:IntKind.u8.wrap ((i:Int)+1)=y:=by rw [IntKind.wrap_u8',hy]; omega
  have hyb:0≤y∧y<256:=by omega
  have hnx:Hid (hmacL K ([lastT K I i,I,[y]]:List (List Int)).flatten=lastT K I (i+1)):=by
   have e:([lastT K I i,I,[y]]:List (List Int)).flatten=lastT K I i++(I++[y]):=by simp
   rw [e,hy]
   exact rfl
  replace hy:=hide hy
  go_upto_region 6 with fail
  refine wp_region_lit ?_
  iterate 5 (refine wpList_step fun K hK=>?_; replace hK:=hide hK; go_simp; refine unhide hK _ _ ?_; clear hK K)
  refine list_valw (.slice (some ⟨wr.heap.size,0,none⟩) 1 1) (wr.alloc (.cells (kc [y]) 5 (0,0))) (by kernel_rfl) (by kernel_rfl) ?_
  simp only [nrm]
  have hg:=(Gr.refl wr).alloc (.cells (kc [y]) 5 (0,0))
  have l3:Lb (wr.alloc (.cells (kc [y]) 5 (0,0))) (some ⟨wr.heap.size,0,none⟩) 1 1 [y]:=⟨rfl,(by intro x hx; simp at hx; subst hx; exact hyb),.inr ⟨_,0,rfl,kc_at (blk_new _ _)⟩,by omega,by omega⟩
  replace hS:=(unhide hS).more hg
  generalize World.alloc _ _=v1 at *
  generalize wr.heap.size=g1 at *
  clear hg
  refine list_valw (.slice (some ⟨v1.heap.size,0,none⟩) 3 3) (v1.alloc (.cells #[.slice a8 n8 c8,.slice a ni ci,.slice (some ⟨g1,0,none⟩) 1 1] 43 (0,0))) (by kernel_rfl) (by kernel_rfl) ?_
  simp only [nrm]
  have hg:=(Gr.refl v1).alloc (.cells #[.slice a8 n8 c8,.slice a ni ci,.slice (some ⟨g1,0,none⟩) 1 1] 43 (0,0))
  have hnew:=blk_new v1 (.cells #[.slice a8 n8 c8,.slice a ni ci,.slice (some ⟨g1,0,none⟩) 1 1] 43 (0,0))
  replace hS:=hS.more hg
  replace l3:=l3.gr hg
  generalize World.alloc _ _=v2 at *
  generalize v1.heap.size=g2 at *
  clear hg
  have hP:=Pr.three hnew hS.la ((unhide hI).gr hS.gr) l3
  refine list_call 124 #[.slice (some ⟨w.heap.size,0,none⟩) 32 32,.slice (some ⟨g2,0,none⟩) 3 3] (by kernel_rfl) (by kernel_rfl) ((hmac_ok K (unhide hKb) 32 hKl (by omega) _ 32 (by omega) (by omega) [lastT K I i,I,[y]] _ 3 3 rfl (by omega) (by have h1:(lastT K I i).length≤32:=(by cases i with | zero=>simp [lastT] | succ j=>rw [lastT_len]; omega); have h2:=(unhide hI).len; simp only [List.flatten_cons,List.flatten_nil,List.length_append,List.length_nil,List.length_cons]; omega) _ ((unhide hF).gr hS.gr) (.inr ⟨_,0,rfl,kc_at hS.bk⟩) hP).mono ?_)
  rintro r v3 ⟨rfl,hg⟩
  refine ⟨_,rfl,?_⟩
  replace hS:=hS.more hg
  clear hg hP hnew l3
  rw [unhide hnx]
  simp only [nrm]
  obtain ⟨M,hM⟩:∃ M,M=lastT K I (i+1):=⟨_,rfl⟩
  have hMl:M.length=32:=by rw [hM]; exact lastT_len _ _ _
  have hMb:IsB M:=by rw [hM]; exact lastT_isB _ _ _
  rw [← hM]
  replace hM:=hide hM
  replace hS:=hide hS
  replace hMb:=hide hMb
  iterate 1 (refine wpList_step fun K hK=>?_; replace hK:=hide hK; go_simp; refine unhide hK _ _ ?_; clear hK K)
  have hL:=(Bl.nil v3).new #[.int .u8 0,.int .u8 0,.int .u8 0,.int .u8 0,.int .u8 0,.int .u8 0,.int .u8 0,.int .u8 0,.int .u8 0,.int .u8 0,.int .u8 0,.int .u8 0,.int .u8 0,.int .u8 0,.int .u8 0,.int .u8 0,.int .u8 0,.int .u8 0,.int .u8 0,.int .u8 0,.int .u8 0,.int .u8 0,.int .u8 0,.int .u8 0,.int .u8 0,.int .u8 0,.int .u8 0,.int .u8 0,.int .u8 0,.int .u8 0,.int .u8 0,.int .u8 0] 23
  simp only [List.nil_append] at hL
  generalize World.alloc _ _=v4 at *
  replace hL:Bl v3 [⟨v3.heap.size,kc Z32,23⟩] v4:=hL
  refine list_store 23 (.tmp 10) (.tmp 27) v3.heap.size (kc M) 23 (kc Z32) (by kernel_rfl) rfl (by kernel_rfl) (by kernel_rfl) (hL.get 0 (x:=⟨v3.heap.size,kc Z32,23⟩) rfl) (by rw [Tryz.infoKey,kc_size,hMl]) ((show (kc Z32).size=32 from rfl).trans ((kc_size _).trans hMl).symm) (kc_one _) ?_
  replace hL:=hL.set 0 (x:=⟨v3.heap.size,kc Z32,23⟩) rfl (kc M)
  simp only [List.set_cons_zero,List.set_cons_succ] at hL
  generalize World.setRow _ _ _=v5 at *
  simp only [nrm]
  refine wpList_nil ?_
  have hks:=hL.get 0 (x:=⟨v3.heap.size,kc M,23⟩) rfl
  dsimp only at hks
  have hobl:∀ q,(Value.slice a7 (32 * i) c7).ownBlock=some q→q≠v3.heap.size:=fun q hq=>by have:=(World.ownsRow.lt (unhide hS).ob q hq).2; omega
  replace hS:=hide ((unhide hS).more hL.gr)
  generalize v3.heap.size=gc at *
  clear hL
  replace hobl:=hide hobl
  replace hks:=hide hks
  go_upto_region 8 with fail
  replace hS:=unhide hS
  replace hks:=unhide hks
  replace hobl:=unhide hobl
  refine wp_region_lit ?_
  iterate 2 (refine wpList_step fun K hK=>?_; replace hK:=hide hK; go_simp; refine unhide hK _ _ ?_; clear hK K)
  refine app_bs (by kernel_rfl) (.tmp 29) (.tmp 30) rfl b (.slice a7 (32 * i) c7) (outT K I i) (by kernel_rfl) hS.ob (some ⟨gc,0,none⟩) 32 32 M (by kernel_rfl) hMl (.inr ⟨gc,0,rfl,kc_at hks⟩) (by rw [outT_len]; omega) hS.sz ?_
  intro x5 v6 hO2 hgb
  have hks2:v6.heap[gc]?=some (.cells (kc M) 23 (0,0)):=by rw [hgb.block gc (lt_of_block hks) (fun e=>hobl gc e.symm rfl)]; exact hks
  have hbk2:v6.heap[w.heap.size]?=some (.cells (kc K) 23 (0,0)):=by
   rw [hgb.block w.heap.size (lt_of_block hS.bk) (fun e=>by have:=(World.ownsRow.lt hS.ob _ e.symm).1; omega)]; exact hS.bk
  have hG2:=hS.ob.grown (by omega) hS.gr hgb
  have hsz2:=Nat.le_trans hS.sz hgb.size
  obtain ⟨a5,c5,rfl,_,_,_⟩:=hO2.slice
  have hO3:Ob b v6 (.slice a5 (32 * (i+1)) c5) (outT K I (i+1)):=by
   have e:outT K I (i+1)=outT K I i++M:=by rw [outT,unhide hM]
   rw [← e] at hO2
   rw [outT_len] at hO2
   exact hO2
  have hlen:(outT K I i++M).length=32 * (i+1):=by rw [List.length_append,outT_len,hMl]; omega
  rw [hlen]
  have hS2:SI w b w.heap.size K I (i+1) (.slice a5 (32 * (i+1)) c5) (some ⟨gc,0,none⟩) 32 32 v6:=⟨hO3,⟨lastT_len _ _ _,lastT_isB _ _ _,.inr ⟨gc,0,rfl,by rw [← unhide hM]; exact kc_at hks2⟩,by omega,by omega⟩,hbk2,hG2,hsz2⟩
  clear hS hO2 hO3 hgb hks hks2 hbk2 hG2 hsz2 hobl hlen
  simp only [nrm]
  replace hS2:=hide hS2
  iterate 1 (refine wpList_step fun K hK=>?_; replace hK:=hide hK; go_simp; refine unhide hK _ _ ?_; clear hK K)
  refine wpList_nil ?_
  go_wp2_with fail
  refine ⟨⟨i+1,a5,c5,some ⟨gc,0,none⟩,32,32,by omega,rfl,rfl,by congr 1,hS2⟩,?_⟩
  show n+32 - 32 * (i+1)<n+32 - 32 * i
  omega
 ·have lI:¬ 32 * (i:Int)<(n:Int):=by omega
  obtain ⟨a6,c6,e6,hc6,hm6,hs6⟩:=(unhide hS).ob.slice
  rw [outT_len] at e6 hc6
  obtain ⟨rfl,_,rfl⟩:=(Value.slice.injEq _ _ _ _ _ _).mp e6
  have n1:(n:Int)≤(c7:Int):=by omega
  have n2:n≤c7:=by omega
  have hP:Hid (Spr K I n w (.returned (.slice a7 n n)) wr):=by
   refine ⟨a7,rfl,⟨spL_len _ _ _,spL_isB _ _ _,?_,Nat.le_refl _,by omega⟩,(fun x hx=>by have:=(World.ownsRow.lt (unhide hS).ob x.block (by rw [hx]; rfl)).1; omega),(unhide hS).gr⟩
   rw [← spL_of K I n i (by omega)]
   rcases hs6 with h | ⟨p,o,h1,h2⟩
   ·left; rw [h]; simp
   ·exact .inr ⟨p,o,h1,h2.take n⟩
  clear hs6 hm6 hc6 e6 hS
  go_wp2_with fail
  rw [unhide hT]
  exact unhide hP
end Go.Proofs.YthahhglbeafkmaaGreatDoor
namespace Go.Proofs.YthahhglbeafkmaaGreatDoor
open Go.RowKit
set_option maxRecDepth 100000
set_option linter.unusedSimpArgs false
set_option linter.unusedVariables false
def lw (X:Nat):Nat→List Int
 | 0=>[]
 | k+1=>lw X k++[((X / 256 ^ k % 256:Nat):Int)]
theorem lw_len (X:Nat):∀ k,(lw X k).length=k
 | 0=>rfl
 | k+1=>by rw [lw,List.length_append,lw_len X k]; rfl
theorem lw_isB (X:Nat):∀ k,IsB (lw X k)
 | 0=>by intro x hx; cases hx
 | k+1=>by
  intro x hx
  rw [lw] at hx
  rcases List.mem_append.1 hx with h | h
  ·exact lw_isB X k x h
  ·have:x=((X / 256 ^ k % 256:Nat):Int):=by simpa using h
   omega
def lwz (B:List Int) (X k:Nat):List Int:=B++(lw X k++List.replicate (4 - k) 0)
theorem lwz_len (B:List Int) (X k:Nat) (hk:k≤4):(lwz B X k).length=B.length+4:=by
 unfold lwz
 rw [List.length_append,List.length_append,lw_len,List.length_replicate]
 omega
theorem lwz_next (B:List Int) (X k:Nat) (hk:k<4):(lwz B X k).set (B.length+k) ((X / 256 ^ k % 256:Nat):Int)=lwz B X (k+1):=by
 obtain ⟨m,hm⟩:∃ m,4 - k=m+1:=⟨3 - k,by omega⟩
 have hm2:4 - (k+1)=m:=by omega
 unfold lwz
 rw [hm,hm2,List.set_append_right _ _ (by omega),Nat.add_sub_cancel_left,List.set_append_right _ _ (by rw [lw_len]; omega),lw_len,Nat.sub_self,List.replicate_succ,List.set_cons_zero,lw,List.append_assoc]
 rfl
theorem lwz_zero (B:List Int) (X:Nat):lwz B X 0=B++List.replicate 4 0:=rfl
theorem lwz_all (B:List Int) (X:Nat):lwz B X 4=B++lw X 4:=by unfold lwz; simp
def Putd (B:List Int) (X:Nat) (n:Nat) (w:World) (r:Ending) (w':World):Prop:=∃ g,r=.returned (.slice (some ⟨g,0,none⟩) (n+4) (n+4))∧w.heap.size≤g∧w'.heap[g]?=some (.cells (kc (B++lw X 4)) 5 (0,0))∧Gr w w'
set_option maxHeartbeats 2000000 in
theorem put_ok (B:List Int) (a:Option Addr) (n c:Nat) (X:Nat) (hX:X<4294967296) (hn:n≤140737488351232) (w:World) (hB:Lb w a n c B):Calls Tryz.prog 68 #[.slice a n c,.int .u64 X,.int .i64 4] w (Putd B X n w):=by
 obtain ⟨T,hT⟩:∃ T,T=Putd B X n w:=⟨_,rfl⟩
 rw [← hT]
 replace hT:=hide hT
 have hl:=hB.len
 replace hB:=hide hB
 have w1:IntKind.i64.wrap ((n:Int)+4)=(n:Int)+4:=by rw [IntKind.wrap_i64]; omega
 have w2:(0:Int)≤(n:Int)+4:=by omega
 replace hl:=hide hl
 go_enter Tryz.func68,Tryz.ntmps68
 go_upto_region 1 with fail
 refine wp_region_lit ?_
 iterate 4 (refine wpList_step fun K hK=>?_; replace hK:=hide hK; go_simp; refine unhide hK _ _ ?_; clear hK K)
 refine wpList_make_room w rfl (.tmp 12) (.tmp 12) rfl ((n:Int)+4) ((n:Int)+4) (n+4) (n+4) (by kernel_rfl) (by kernel_rfl) (by omega) (by omega) (by omega) (by omega) ?_
 have hv:=blk_new w (.cells (kc (List.replicate (n+4) 0)) 5 (0,0))
 have hg:=(Gr.refl w).alloc (.cells (kc (List.replicate (n+4) 0)) 5 (0,0))
 generalize World.alloc _ _=u1 at *
 simp only [nrm]
 replace hv:=hide hv
 replace hg:=hide hg
 iterate 1 (refine wpList_step fun K hK=>?_; replace hK:=hide hK; go_simp; refine unhide hK _ _ ?_; clear hK K)
 refine wpList_nil ?_
 go_upto_region 2 with fail
 refine wp_region_lit ?_
 iterate 2 (refine wpList_step fun K hK=>?_; replace hK:=hide hK; go_simp; refine unhide hK _ _ ?_; clear hK K)
 refine wpList_plain rfl fun K hK=>?_
 refine copy_wp (.tmp 14) (.tmp 15) rfl w.heap.size 0 (n+4) (n+4) a n c (by kernel_rfl) (by kernel_rfl) ((List.replicate (n+4) (0:Int)).map (Value.int .u8)) 5 (unhide hv) B (by rw [unhide hl]; exact (Nat.min_eq_left (by omega)).symm) (by rcases ((unhide hB).gr (unhide hg)).sl with h | ⟨p,o,h1,h2⟩; exact .inl h; exact .inr ⟨p,o,h1,h2⟩) (by rw [List.length_map,List.length_replicate,unhide hl]; omega) ?_
 have hv2:=setCells_heap (B.map (Value.int .u8)) u1 w.heap.size 0 _ _ (unhide hv)
 rw [sp_kc B _ (by rw [List.length_replicate,unhide hl]; omega)] at hv2
 have e0:B++(List.replicate (n+4) (0:Int)).drop B.length=lwz B X 0:=by
  rw [lwz_zero,List.drop_replicate,unhide hl]
  congr 2
  omega
 rw [e0] at hv2
 have hg2:=(setCells_bt (B.map (Value.int .u8)) u1 w.heap.size 0).gr (unhide hg) (Nat.le_refl _)
 refine hK _ _ ?_
 clear hK K hv hg e0
 simp only [nrm]
 generalize World.setCells _ _ _ _=u2 at *
 rw [unhide hl]
 replace hv2:Hid (u2.heap[w.heap.size]?=some (.cells (kc (lwz B X 0)) 5 (0,0))):=hv2
 replace hg2:=hide hg2
 iterate 1 (refine wpList_step fun K hK=>?_; replace hK:=hide hK; go_simp; refine unhide hK _ _ ?_; clear hK K)
 refine wpList_nil ?_
 go_wp2_with fail
 go_loopw [8,1] (fun i x wr=>∃ k:Nat,k≤4∧i=.int .i64 ((n+k:Nat):Int)∧x=.int .u64 ((X / 256 ^ k:Nat):Int)∧Hid (wr.heap[w.heap.size]?=some (.cells (kc (lwz B X k)) 5 (0,0)))∧Hid (Gr w wr)) (fun i _ _=>n+4 - (intOf i).toNat)
 case atStart=>exact ⟨0,by omega,rfl,by simp,hv2,hg2⟩
 case round =>
 clear hv2 hg2
 obtain ⟨k,hk,rfl,rfl,hv,hg⟩:=hrel
 by_cases hlt:k<4
 ·obtain ⟨q,hq⟩:∃ q,q=n+k:=⟨_,rfl⟩
  obtain ⟨Y,hY⟩:∃ Y,Y=X / 256 ^ k:=⟨_,rfl⟩
  obtain ⟨y,hy⟩:∃ y:Int,y=((Y % 256:Nat):Int):=⟨_,rfl⟩
  have q1:(q:Int)<(n:Int)+4:=by omega
  have q2:q<n+4:=by omega
  have q3:0≤(q:Int)∧(q:Int)<((n+4:Nat):Int):=by omega
  have q4:IntKind.i64.wrap ((q:Int)+1)=(q:Int)+1:=by rw [IntKind.wrap_i64]; omega
  have e1:IntKind.u8.wrap (Y:Int)=y:=by rw [IntKind.wrap_u8',hy]; omega
  obtain ⟨Z,hZ⟩:∃ Z,Z=X / 256 ^ (k+1):=⟨_,rfl⟩
  have e2:(Y:Int) / 256=(Z:Int):=by rw [hZ,hY,Nat.pow_succ,← Nat.div_div_eq_div_mul]; omega
  have cs:=kc_cell (unhide hv) q (by rw [lwz_len _ _ _ (by omega),unhide hl]; omega)
  have fs:=froz_of (i:=q) (unhide hv)
  have hv2:=heap_setCell_same wr w.heap.size q _ _ (.int .u8 y) (unhide hv)
  rw [kc_set] at hv2
  have hnx:(lwz B X k).set q y=lwz B X (k+1):=by
   rw [hq,hy,hY,← unhide hl]
   exact lwz_next B X k hlt
  rw [hnx] at hv2
  have hg2:=(setCells_bt [.int .u8 y] wr w.heap.size q).gr (unhide hg) (Nat.le_refl _)
  replace hg2:Hid (Gr w (wr.setCell ⟨w.heap.size,q,none⟩ (.int .u8 y))):=hg2
  replace hv2:=hide hv2
  rw [← hq,← hY]
  generalize (lwz B X k).getD q 0=old at cs
  clear hnx
  replace hq:=hide hq
  replace hY:=hide hY
  replace hy:=hide hy
  replace hZ:=hide hZ
  go_wp2_with fail
  have h1:=unhide hq
  refine ⟨⟨k+1,by omega,by congr 1; omega,by rw [unhide hZ],hv2,hg2⟩,?_⟩
  show n+4 - ((q:Int)+1).toNat<n+4 - (q:Int).toNat
  omega
 ·have e:k=4:=by omega
  subst e
  have hP:Hid (Putd B X n w (.returned (.slice (some ⟨w.heap.size,0,none⟩) (n+4) (n+4))) wr):=⟨_,rfl,Nat.le_refl _,by rw [← lwz_all]; exact unhide hv,unhide hg⟩
  clear hlt hv hg
  go_wp2_with fail
  rw [unhide hT]
  exact unhide hP
theorem put32_ok (B:List Int) (a:Option Addr) (n c:Nat) (X:Nat) (hX:X<4294967296) (hn:n≤140737488351232) (w:World) (hB:Lb w a n c B):Calls Tryz.prog 41 #[.slice a n c,.int .u32 X] w (Putd B X n w):=by
 obtain ⟨T,hT⟩:∃ T,T=Putd B X n w:=⟨_,rfl⟩
 rw [← hT]
 replace hT:=hide hT
 replace hB:=hide hB
 go_enter Tryz.func41,Tryz.ntmps41
 go_wp2_with (go_at_call 68; refine (put_ok B a n c X hX hn _ (unhide hB)).mono ?_; rintro e u1 ⟨g,rfl,h1,h2,h3⟩)
 rw [unhide hT]
 exact ⟨g,rfl,h1,h2,h3⟩
theorem length_ok (X:Nat) (hX:X<4294967296) (w:World):Calls Tryz.prog 125 #[.int .i64 X] w (Putd [] X 0 w):=by
 obtain ⟨T,hT⟩:∃ T,T=Putd [] X 0 w:=⟨_,rfl⟩
 rw [← hT]
 replace hT:=hide hT
 have e1:IntKind.u32.wrap (X:Int)=(X:Int):=by rw [IntKind.wrap_u32]; omega
 go_enter Tryz.func125,Tryz.ntmps125
 go_wp2_with (go_at_call 41; refine (put32_ok [] none 0 0 X hX (by omega) _ (Lb.nil _)).mono ?_; rintro e u1 ⟨g,rfl,h1,h2,h3⟩)
 rw [unhide hT]
 exact ⟨g,rfl,h1,h2,h3⟩
def tb (s:ByteArray):List Int:=s.data.toList.map fun x=>((x.toNat:Nat):Int)
theorem tb_len (s:ByteArray):(tb s).length=s.size:=by unfold tb; simp
theorem tb_isB (s:ByteArray):IsB (tb s):=by
 intro x hx
 obtain ⟨y,_,rfl⟩:=List.mem_map.1 hx
 have:=y.toNat_lt
 omega
theorem tb_cells (s:ByteArray):Lib.strCells s=(tb s).map (Value.int .u8):=by unfold Lib.strCells tb; simp
theorem app_str {w:World} {ops:Array Oper} {rest:List Oper} {o:Oper} {a:Act} {Q:Exit→Act→World→Prop} (hgd:o.guard=none) (s x:Operand)
  (ho:o.op=.call { callee:=.builtin .append,args:=#[s,x],argTypes:=#[43,9] }) (b:Nat) (v:Value) (L:List Int) (hs:a.eval s=v) (hown:Ob b w v L)
  (t:ByteArray) (hx:a.eval x=.string t) (hbig:L.length+t.size≤140737488355328) (hB:b≤w.heap.size)
  (h:∀ v' w',Ob b w' v' (L++tb t)→w.grownBy w' v.ownBlock→wpList Tryz.prog ops Q rest (a.put o.dst v') w') :
  wpList Tryz.prog ops Q (o::rest) a w:=by
 obtain ⟨i0,hi,hz0,hz1,hz2⟩:=info_parts Tryz.info5
 refine Lib.wpList_append_own_string w hgd s x 43 9 ho b 5 i0 Tryz.underlying43 Tryz.underlying9 hi hz0 hz1 hz2 v L.length _ hs hown t hx (by unfold maxLen; omega) hbig hB ?_
 intro v' w' h1 h2 _
 refine h v' w' ?_ h2
 unfold Ob
 rw [List.length_append,List.map_append,tb_len,← tb_cells]
 exact h1
theorem Putd.ob {w w':World} {B:List Int} {X n g:Nat} (hn:B.length=n) (hg:w.heap.size≤g) (h:w'.heap[g]?=some (.cells (kc (B++lw X 4)) 5 (0,0))) (hb:n≤281474976710656):Ob w.heap.size w' (.slice (some ⟨g,0,none⟩) (n+4) (n+4)) (B++lw X 4):=by
 have hl:(B++lw X 4).length=n+4:=by rw [List.length_append,lw_len,hn]
 refine ⟨by simp,.inr ⟨g,n+4,kc (B++lw X 4),by rw [hl],hg,h,by omega,by unfold maxLen; omega,by rw [kc_size,hl]; omega,?_⟩⟩
 unfold kc
 rw [Nat.mul_one]
 exact List.take_of_length_le (by simp)
theorem Ob.lb {b:Nat} {w:World} {v:Value} {L:List Int} (h:Ob b w v L) (hb:IsB L):∃ a c,v=.slice a L.length c∧Lb w a L.length c L:=by
 obtain ⟨a,c,h1,h2,h3,h4⟩:=h.slice
 exact ⟨a,c,h1,rfl,hb,h4,h2,by unfold maxLen at h3; omega⟩
def tpart (p:List Int):List Int:=lw p.length 4++p
theorem tpart_isB {p:List Int} (h:IsB p):IsB (tpart p):=isB_append (lw_isB _ _) h
def infL (l:List Int) (ps:List (List Int)) (k:Nat):List Int:=tpart l++((ps.take k).map tpart).flatten
theorem infL_next (l:List Int) (ps:List (List Int)) (k:Nat) (h:k<ps.length):infL l ps (k+1)=infL l ps k++tpart (ps.getD k []):=by
 unfold infL
 rw [List.take_add_one,List.getElem?_eq_getElem h,List.map_append,List.flatten_append,← List.append_assoc]
 simp [h]
def infoL (l:List Int) (ps:List (List Int)):List Int:=infL l ps ps.length
def small4 (ps:List (List Int)):Prop:=ps.length≤100∧∀ p ∈ ps,p.length≤4096
theorem infL_len (l:List Int) (ps:List (List Int)) (hl:l.length≤1000) (hp:small4 ps):∀ k,k≤ps.length→(infL l ps k).length≤1004+4100 * k
 | 0,_=>by unfold infL tpart; simp [lw_len]; omega
 | k+1,h=>by
  rw [infL_next l ps k (by omega),List.length_append]
  have h1:=infL_len l ps hl hp k (by omega)
  have h2:(tpart (ps.getD k [])).length≤4100:=by
   have h3:(ps.getD k []) ∈ ps:=by rw [List.getD_eq_getElem?_getD,List.getElem?_eq_getElem (by omega)]; exact List.getElem_mem _
   have:=hp.2 _ h3
   unfold tpart
   rw [List.length_append,lw_len]
   omega
  omega
def Infd (L:List Int) (w:World) (r:Ending) (w':World):Prop:=∃ v,r=.returned v∧Ob w.heap.size w' v L∧Gr w w'
set_option maxHeartbeats 2000000 in
theorem infoOf_ok (t:ByteArray) (ht:t.size≤1000) (ps:List (List Int)) (ap:Option Addr) (m cp:Nat) (hm:ps.length=m) (hp:small4 ps) (w:World) (hP:Pr w ap ps):Calls Tryz.prog 107 #[.string t,.slice ap m cp] w (Infd (infoL (tb t) ps) w):=by
 obtain ⟨T,hT⟩:∃ T,T=Infd (infoL (tb t) ps) w:=⟨_,rfl⟩
 rw [← hT]
 have hmb:m≤100:=by rw [← hm]; exact hp.1
 have htl:(tb t).length≤1000:=by rw [tb_len]; exact ht
 replace hT:=hide hT
 replace hP:=hide hP
 replace hp:=hide hp
 replace hm:=hide hm
 replace htl:=hide htl
 go_enter Tryz.func107,Tryz.ntmps107
 go_upto_region 1 with fail
 refine wp_region_lit ?_
 iterate 2 (refine wpList_step fun K hK=>?_; replace hK:=hide hK; go_simp; refine unhide hK _ _ ?_; clear hK K)
 refine list_call 125 #[.int .i64 t.size] (by kernel_rfl) (by kernel_rfl) ((length_ok t.size (by omega) _).mono ?_)
 rintro r u1 ⟨g,rfl,h1,h2,hg⟩
 refine ⟨_,rfl,?_⟩
 have hO:=Putd.ob (B:=[]) (n:=0) rfl h1 h2 (by omega)
 rw [List.nil_append] at hO
 clear h1 h2
 simp only [nrm]
 replace hO:=hide hO
 replace hg:=hide hg
 iterate 1 (refine wpList_step fun K hK=>?_; replace hK:=hide hK; go_simp; refine unhide hK _ _ ?_; clear hK K)
 refine app_str rfl (.tmp 10) (.tmp 11) rfl w.heap.size _ (lw t.size 4) (by kernel_rfl) (unhide hO) t (by kernel_rfl) (by rw [lw_len]; omega) (unhide hg).size ?_
 intro v2 u2 hO2 hgb
 have hG:=(unhide hO).grown (Nat.le_refl _) (unhide hg) hgb
 clear hgb hO hg
 have hO3:Ob w.heap.size u2 v2 (infL (tb t) ps 0):=by
  have e:infL (tb t) ps 0=lw t.size 4++tb t:=by unfold infL tpart; rw [tb_len]; simp
  rw [e]; exact hO2
 clear hO2
 obtain ⟨a2,c2,rfl,_,_,_⟩:=hO3.slice
 simp only [nrm]
 replace hO3:=hide hO3
 replace hG:=hide hG
 obtain ⟨n2,hn2⟩:∃ n2,n2=(infL (tb t) ps 0).length:=⟨_,rfl⟩
 rw [← hn2] at hO3
 rw [← hn2]
 replace hn2:=hide hn2
 iterate 1 (refine wpList_step fun K hK=>?_; replace hK:=hide hK; go_simp; refine unhide hK _ _ ?_; clear hK K)
 refine wpList_nil ?_
 go_wp2_with fail
 go_loopw [5,15] (fun x i wr=>∃ (k n:Nat) (a:Option Addr) (c:Nat),k≤m∧i=.int .i64 k∧x=.slice a n c∧Hid (n=(infL (tb t) ps k).length)∧Hid (Ob w.heap.size wr (.slice a n c) (infL (tb t) ps k))∧Hid (Gr w wr)) (fun _ i _=>m - (intOf i).toNat)
 case atStart=>exact ⟨0,n2,a2,c2,by omega,rfl,rfl,hn2,hO3,hG⟩
 case round =>
 clear hO3 hG hn2
 obtain ⟨k,n,a,c,hk,rfl,rfl,hn,hO,hG⟩:=hrel
 by_cases hl:k<m
 ·have kI:(k:Int)<(m:Int):=by omega
  obtain ⟨p,o,rfl,hq⟩:∃ p o,ap=some ⟨p,o,none⟩∧Pq w p o ps:=by
   rcases (unhide hP) with h | ⟨p,o,h1,h2⟩
   ·have:=unhide hm; rw [h] at this; simp at this; omega
   ·exact ⟨p,o,h1,h2⟩
  obtain ⟨aP,nP,cP,cc,hPl,hPb,hPs,hPc,hPm⟩:=hq k (by rw [unhide hm]; exact hl)
  replace cc:=(unhide hG).cell cc
  clear hq
  have hnx:=hide (infL_next (tb t) ps k (by rw [unhide hm]; exact hl))
  have hPs4:(ps.getD k []).length≤4096:=(unhide hp).2 _ (by rw [List.getD_eq_getElem?_getD,List.getElem?_eq_getElem (by rw [unhide hm]; exact hl)]; exact List.getElem_mem _)
  have hlen:=infL_len (tb t) ps (unhide htl) (unhide hp) k (by rw [unhide hm]; omega)
  generalize ps.getD k []=P at *
  have hPI:nP≤4096:=by omega
  replace hPs:=hide hPs
  replace hPb:=hide hPb
  replace hPl:=hide hPl
  replace hPs4:=hide hPs4
  replace hlen:=hide hlen
  go_upto_region 5 with fail
  refine wp_region_lit ?_
  iterate 3 (refine wpList_step fun K hK=>?_; replace hK:=hide hK; go_simp; refine unhide hK _ _ ?_; clear hK K)
  refine list_call 125 #[.int .i64 nP] (by kernel_rfl) (by kernel_rfl) ((length_ok nP (by omega) _).mono ?_)
  rintro r v1 ⟨g1,rfl,h1,h2,hg⟩
  refine ⟨_,rfl,?_⟩
  replace hO:=(unhide hO).gr hg
  replace hG:=(unhide hG).trans hg
  have hs1:Sl v1 (some ⟨g1,0,none⟩) (lw nP 4):=.inr ⟨g1,0,rfl,by rw [List.nil_append] at h2; exact kc_at h2⟩
  clear hg h1 h2
  simp only [nrm]
  refine app_bs (by kernel_rfl) (.tmp 19) (.tmp 22) rfl w.heap.size (.slice a n c) (infL (tb t) ps k) (by kernel_rfl) hO (some ⟨g1,0,none⟩) 4 4 (lw nP 4) (by kernel_rfl) (lw_len _ _) hs1 (by have:=unhide hlen; omega) hG.size ?_
  intro x2 v2 hO2 hgb
  replace hG:=hO.grown (Nat.le_refl _) hG hgb
  clear hgb hO hs1
  simp only [nrm]
  replace hO2:=hide hO2
  replace hG:=hide hG
  iterate 1 (refine wpList_step fun K hK=>?_; replace hK:=hide hK; go_simp; refine unhide hK _ _ ?_; clear hK K)
  replace hO2:=unhide hO2
  replace hG:=unhide hG
  refine app_bs (by kernel_rfl) (.tmp 23) (.tmp 24) rfl w.heap.size x2 (infL (tb t) ps k++lw nP 4) (by kernel_rfl) hO2 aP nP cP P (by kernel_rfl) (unhide hPl) ((unhide hPs).gr hG) (by rw [List.length_append,lw_len]; have:=unhide hlen; omega) hG.size ?_
  intro x3 v3 hO3 hgb
  replace hG:=hO2.grown (Nat.le_refl _) hG hgb
  clear hgb hO2
  have hO4:Ob w.heap.size v3 x3 (infL (tb t) ps (k+1)):=by
   rw [unhide hnx]
   unfold tpart
   rw [unhide hPl,← List.append_assoc]
   exact hO3
  obtain ⟨a5,c5,rfl,_,_,_⟩:=hO4.slice
  clear hO3
  obtain ⟨n5,hn5⟩:∃ n5,n5=(infL (tb t) ps (k+1)).length:=⟨_,rfl⟩
  rw [← hn5] at hO4
  rw [← hn5]
  replace hn5:=hide hn5
  simp only [nrm]
  replace hO4:=hide hO4
  replace hG:=hide hG
  iterate 1 (refine wpList_step fun K hK=>?_; replace hK:=hide hK; go_simp; refine unhide hK _ _ ?_; clear hK K)
  refine wpList_nil ?_
  go_wp2_with fail
  go_roundw
  case rel=>exact ⟨k+1,n5,a5,c5,by omega,by go_num,rfl,hn5,hO4,hG⟩
  case measure=>simp [intOf]; omega
 ·have e:k=m:=by omega
  subst e
  have hPd:Hid (Infd (infoL (tb t) ps) w (.returned (.slice a n c)) wr):=⟨_,rfl,by unfold infoL; rw [unhide hm]; exact unhide hO,unhide hG⟩
  clear hO hG hn
  go_wp2_with fail
  rw [unhide hT]
  exact unhide hPd
end Go.Proofs.YthahhglbeafkmaaGreatDoor
