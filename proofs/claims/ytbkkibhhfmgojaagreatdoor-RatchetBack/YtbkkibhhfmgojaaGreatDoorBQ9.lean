/-
  What the proof leans on.
-/
import Derived.Laws.StructEq
import Derived.Great.BuildSlice
import Derived.Lib.BufferWrite
import Derived.Lib.LazyBuf
import Derived.Test.YtbkkibhhfmgojaaGreatDoorBQ8
set_option linter.unusedSimpArgs false
set_option linter.unusedVariables false
set_option maxRecDepth 100000
set_option maxHeartbeats 40000000
namespace Go.Proofs.YtbkkibhhfmgojaaGreatDoor
open Go.RowKit
def tTurn:ByteArray:=⟨#[116,117,114,110]⟩
noncomputable def rtL (R A U:List Int):List Int:=(spL R (infoL (tb tTurn) [agL A U]) 64).take 32
noncomputable def chL (R A U:List Int):List Int:=(spL R (infoL (tb tTurn) [agL A U]) 64).drop 32
theorem rtL_K (R A U:List Int):IsK (rtL R A U):=⟨by unfold rtL; rw[List.length_take,bH]; rfl,db (dA _ _ _) _⟩
theorem chL_K (R A U:List Int):IsK (chL R A U):=⟨by unfold chL; rw[List.length_drop,bH],dw (dA _ _ _) _⟩
theorem pr_one {w:World} {p:Nat} {a:Option Addr} {n c:Nat} {t:TypeId} {P:List Int} (h:w.heap[p]?=some (.cells #[.slice a n c] t (0,0))) (hp:Lb w a n c P):Pr w (some ⟨p,0,none⟩) [P]:=by
 refine .inr ⟨p,0,rfl,fun j hj=>?_⟩;have hj2:j=0:=by simp at hj; omega
 subst hj2;exact⟨a,n,c,aw h rfl,hp.len,hp.isB,hp.sl,hp.cap,hp.max⟩
theorem small_one {A:List Int} (hA:A.length=32):small4 [A]:=⟨by simp,fun p hp=>by
 simp only[List.mem_cons,List.not_mem_nil,or_false] at hp;subst hp;omega⟩
theorem stir_ok (R X U:List Int) (hR:IsK R) (hX:IsK X) (hU:IsK U) (w:World) (hF:FL w):Calls Tryz.prog 34 #[.agg (kc R),.agg (kc X),.agg (kc U)] w (Twod (rtL R X U) (chL R X U) w):=by
 obtain⟨T,hT⟩:∃ T:Ending→World→Prop,T=(Twod (rtL R X U) (chL R X U) w):=⟨_,rfl⟩;rw[← hT];replace hT:=ao hT;have hRl:=hR.1;have hXl:=hX.1;have hUl:=hU.1;replace hF:=ao hF;replace hR:=ao hR;replace hX:=ao hX;replace hU:=ao hU;obtain⟨A0_,hA0_⟩:∃ S_,S_=kc R:=⟨_,rfl⟩;rw[← hA0_];replace hA0_:=ao hA0_;obtain⟨A1_,hA1_⟩:∃ S_,S_=kc X:=⟨_,rfl⟩;rw[← hA1_];replace hA1_:=ao hA1_;obtain⟨A2_,hA2_⟩:∃ S_,S_=kc U:=⟨_,rfl⟩;rw[← hA2_];replace hA2_:=ao hA2_;go_enter Tryz.func34,Tryz.ntmps34;go_upto_region 1 with fail;have hB:=((((((Bl.nil w).new A0_ 23).new A1_ 23).new A2_ 23).new (kc Z32) 23).new (kc Z32) 23);simp only[aB,ac] at hB;rw[aj hA0_,aj hA1_,aj hA2_] at hB;generalize hu_:World.alloc _ _=u0;replace hB:Bl w [⟨w.heap.size,kc R,23⟩,⟨w.heap.size+1,kc X,23⟩,⟨w.heap.size+1+1,kc U,23⟩,⟨w.heap.size+1+1+1,kc Z32,23⟩,⟨w.heap.size+1+1+1+1,kc Z32,23⟩] u0:=by
  rw[← hu_];rw[aj hA0_,aj hA1_,aj hA2_];exact hB
 clear hu_ hA0_ hA1_ hA2_;refine ag ?_;refine ak (.agg (kc X)) aa (ax _ 23 (.tmp 4) rfl (w.heap.size+1) aa (kc X) 23 _ (hB.get 1 (x:=⟨w.heap.size+1,kc X,23⟩) rfl) Tryz.underlying23 rfl (by rw[Tryz.infoKey,au,hXl])) ?_;simp only[aq];refine ak (.agg (kc U)) aa (ax _ 23 (.tmp 5) rfl (w.heap.size+1+1) aa (kc U) 23 _ (hB.get 2 (x:=⟨w.heap.size+1+1,kc U,23⟩) rfl) Tryz.underlying23 rfl (by rw[Tryz.infoKey,au,hUl])) ?_;simp only[aq];refine av 81 #[.agg (kc X),.agg (kc U)] aa aa ((agree_any X U (aj hX) (aj hU) u0).mono ?_);rintro r_ u1 ⟨⟨e_,rfl⟩,hg⟩;replace hB:=hB.more hg;clear hg;obtain⟨G,hG⟩:∃ P,P=agL X U:=⟨_,rfl⟩;have hGk:IsK G:=by rw[hG]; exact agL_isK X U
 have hGl:=hGk.1;rw[← hG];replace hG:=ao hG;replace hGk:=ao hGk;refine⟨_,rfl,?_⟩;simp only[aq];refine ak (.tuple #[.agg (kc G),.int .i64 e_]) aa aa ?_;simp only[aq];refine ak (.agg (kc G)) aa aa ?_;simp only[aq];refine ak (.int .i64 e_) aa aa ?_;simp only[aq];refine aH (.pointer (some ⟨u1.heap.size,0,none⟩)) (u1.alloc (.cells (kc Z32) 23 (0,0))) aa aa ?_;replace hB:=hB.new (kc Z32) 23;simp only[ac] at hB;generalize World.alloc _ _=u2 at *;generalize u1.heap.size=g8 at *;simp only[aq];refine aA 23 (.tmp 8) (.tmp 14) (g8) (kc G) 23 (kc Z32) aa rfl aa aa (hB.get 5 (x:=⟨g8,kc Z32,23⟩) rfl) (by rw[Tryz.infoKey,au,hGl]) ((au _).trans (zl32.trans (hGl.symm.trans (au _).symm))) (aL _) ?_;replace hB:=hB.set 5 (x:=⟨g8,kc Z32,23⟩) rfl (kc G);simp only[ab] at hB;generalize World.setRow _ _ _=u3 at *;simp only[aq]
 (refine af fun K hK=>?_;go_simp;refine aj hK _ _ ?_;clear hK K)
 refine ai ?_;replace hB:=ao hB;go_upto_region 2 with fail;replace hB:=aj hB;refine aE (S:=fun v_=>v_.heap[w.heap.size]?=some (.cells (kc R) 23 (0,0))) aa ?_;replace hB:=hB.drew;generalize World.drew _=u4 at *;simp only[ae,Array.replicate,List.replicate];refine ar (i:=0) (v:=(.agg (kc R))) #[false,false,false,false,false,false,false,false] rfl aa aa aa aa (fun _ _ _ h=>h) (.inl ⟨by kernel_rfl,fun x_ hu=>ax _ 23 (.tmp 3) rfl (w.heap.size) aa (kc R) 23 _ hu Tryz.underlying23 rfl (by rw[Tryz.infoKey,au,hRl])⟩) (hB.get 0 (x:=⟨w.heap.size,kc R,23⟩) rfl) ?_;simp only[aq];refine ar (i:=1) (v:=(.slice (some ⟨g8,0,none⟩) 32 32)) #[true,false,false,false,false,false,false,false] rfl aa aa aa aa (fun _ _ _ h=>h) (.inl ⟨by kernel_rfl,fun x_ hu=>by kernel_rfl⟩) (hB.get 0 (x:=⟨w.heap.size,kc R,23⟩) rfl) ?_;simp only[aq];refine ay (i:=2) aa rfl (fun K hK=>?_);replace hB:=ao hB;replace hK:=ao hK;go_simp
 have hg:=(Gr.refl u4).alloc (.cells #[.slice (some ⟨g8,0,none⟩) 32 32] 55 (0,0));have hnew:=aS u4 (.cells #[.slice (some ⟨g8,0,none⟩) 32 32] 55 (0,0));replace hK:=aj hK;replace hB:=(aj hB).more hg;generalize World.alloc _ _=u5 at *;generalize u4.heap.size=gq at *;clear hg;refine hK.out _ _ (hB.get 0 (x:=⟨w.heap.size,kc R,23⟩) rfl) (fun _=>?_);clear hK K;simp only[aq];refine ay (i:=3) aa rfl (fun K hK=>?_);refine az aa 32 #[.agg (kc R),.string ⟨#[116,117,114,110]⟩,.slice (some ⟨gq,0,none⟩) 1 1] aa ((two_ok R hRl (aj hR).2 tTurn (by decide) [G] (some ⟨gq,0,none⟩) 1 1 rfl (small_one hGl) u5 ((aj hF).gr hB.gr).1 (pr_one hnew (dv (n:=32) (hB.get 5 (x:=⟨g8,kc G,23⟩) rfl) hGl (aj hGk).2 (by decide)))).mono ?_);rintro r_ u6 ⟨rfl,hg⟩;replace hB:=hB.more hg;clear hg;obtain⟨P,hP⟩:∃ P,P=(spL R (infoL (tb tTurn) [G]) 64).take 32:=⟨_,rfl⟩
 obtain⟨Q,hQ⟩:∃ P,P=(spL R (infoL (tb tTurn) [G]) 64).drop 32:=⟨_,rfl⟩;have hPl:P.length=32:=by rw[hP,List.length_take,bH]; rfl
 have hQl:Q.length=32:=by rw[hQ,List.length_drop,bH]
 rw[← hP,← hQ];replace hP:=ao hP;replace hQ:=ao hQ;refine⟨_,rfl,?_⟩;refine hK.out _ _ (hB.get 0 (x:=⟨w.heap.size,kc R,23⟩) rfl) (fun _=>?_);clear hK K;simp only[aq];refine ar (i:=4) (v:=(.agg (kc P))) #[true,true,true,true,false,false,false,false] rfl aa aa aa aa (fun _ _ _ h=>h) (.inl ⟨by kernel_rfl,fun x_ hu=>by kernel_rfl⟩) (hB.get 0 (x:=⟨w.heap.size,kc R,23⟩) rfl) ?_;simp only[aq];refine ar (i:=5) (v:=(.agg (kc Q))) #[true,true,true,true,true,false,false,false] rfl aa aa aa aa (fun _ _ _ h=>h) (.inl ⟨by kernel_rfl,fun x_ hu=>by kernel_rfl⟩) (hB.get 0 (x:=⟨w.heap.size,kc R,23⟩) rfl) ?_;simp only[aq];refine ay (i:=6) aa rfl (fun K hK=>?_);refine cv 23 (.tmp 6) (.tmp 20) (w.heap.size+1+1+1) (kc P) 23 (kc Z32) aa rfl aa aa (hB.get 3 (x:=⟨w.heap.size+1+1+1,kc Z32,23⟩) rfl) (by rw[Tryz.infoKey,au,hPl]) ((au _).trans (zl32.trans (hPl.symm.trans (au _).symm))) (aL _) ?_
 replace hB:=hB.set 3 (x:=⟨w.heap.size+1+1+1,kc Z32,23⟩) rfl (kc P);simp only[ab] at hB;generalize World.setRow _ _ _=u7 at *;refine hK.out _ _ (hB.get 0 (x:=⟨w.heap.size,kc R,23⟩) rfl) (fun _=>?_);clear hK K;simp only[aq];refine ay (i:=7) aa rfl (fun K hK=>?_);refine cv 23 (.tmp 7) (.tmp 21) (w.heap.size+1+1+1+1) (kc Q) 23 (kc Z32) aa rfl aa aa (hB.get 4 (x:=⟨w.heap.size+1+1+1+1,kc Z32,23⟩) rfl) (by rw[Tryz.infoKey,au,hQl]) ((au _).trans (zl32.trans (hQl.symm.trans (au _).symm))) (aL _) ?_;replace hB:=hB.set 4 (x:=⟨w.heap.size+1+1+1+1,kc Z32,23⟩) rfl (kc Q);simp only[ab] at hB;generalize World.setRow _ _ _=u8 at *;refine hK.out _ _ (hB.get 0 (x:=⟨w.heap.size,kc R,23⟩) rfl) (fun _=>?_);clear hK K;simp only[aq];refine aF aa ?_;replace hB:=ao hB;go_wp2_with fail;replace hB:=aj hB;rw[aj hT]
 exact bodyPost_ret (v:=.tuple #[.agg (kc P),.agg (kc Q)]) (res2 Tryz.results34 (bC aa (hB.get 3 (x:=⟨w.heap.size+1+1+1,kc P,23⟩) rfl) Tryz.underlying23 rfl (by rw[Tryz.infoKey,au,hPl])) (bC aa (hB.get 4 (x:=⟨w.heap.size+1+1+1+1,kc Q,23⟩) rfl) Tryz.underlying23 rfl (by rw[Tryz.infoKey,au,hQl]))) rfl (⟨by rw[aj hP,aj hQ,aj hG]; rfl,hB.gr⟩)
theorem zstep_ok (R O P S C:List Int) (hR:R.length=32) (hO:O.length=32) (hP:P.length=32) (hS:S.length=32) (hC:IsK C) (x y z:Int) (v:Value) (hv:v.oneCell'=true) (hy:0≤y∧y<4294967295) (w:World) (hF:FL w):Calls Tryz.prog 107 #[.agg (fl [bw R,bw O,bw P,bw S,bw C,[.int .u32 x],[.int .u32 y],[.int .u32 z],[v]])] w (fun r w'=>r=.returned (.tuple #[.agg (fl [bw R,bw O,bw P,bw S,bw (bx C [2]),[.int .u32 x],[.int .u32 (y+1)],[.int .u32 z],[v]]),.agg (kc (bx C [1]))])∧Gr w w'):=by
 obtain⟨T,hT⟩:∃ T:Ending→World→Prop,T=(fun r w'=>r=.returned (.tuple #[.agg (fl [bw R,bw O,bw P,bw S,bw (bx C [2]),[.int .u32 x],[.int .u32 (y+1)],[.int .u32 z],[v]]),.agg (kc (bx C [1]))])∧Gr w w'):=⟨_,rfl⟩;rw[← hT];replace hT:=ao hT;have hCl:=hC.1;replace hF:=ao hF;replace hC:=ao hC;obtain⟨A0_,hA0_⟩:∃ S_,S_=fl [bw R,bw O,bw P,bw S,bw C,[.int .u32 x],[.int .u32 y],[.int .u32 z],[v]]:=⟨_,rfl⟩;rw[← hA0_];replace hA0_:=ao hA0_;go_enter Tryz.func107,Tryz.ntmps107;go_upto_region 1 with fail;have hB:=((((Bl.nil w).new A0_ 32).new (fl [bw Z32,bw Z32,bw Z32,bw Z32,bw Z32,[.int .u32 0],[.int .u32 0],[.int .u32 0],[.slice none 0 0]]) 32).new (kc Z32) 23);simp only[aB,ac] at hB;rw[aj hA0_] at hB;generalize hu_:World.alloc _ _=u0
 replace hB:Bl w [⟨w.heap.size,fl [bw R,bw O,bw P,bw S,bw C,[.int .u32 x],[.int .u32 y],[.int .u32 z],[v]],32⟩,⟨w.heap.size+1,fl [bw Z32,bw Z32,bw Z32,bw Z32,bw Z32,[.int .u32 0],[.int .u32 0],[.int .u32 0],[.slice none 0 0]],32⟩,⟨w.heap.size+1+1,kc Z32,23⟩] u0:=by
  rw[← hu_];rw[aj hA0_];exact hB
 clear hu_ hA0_;refine ag ?_;refine ak (.pointer (some ⟨w.heap.size,128,none⟩)) aa aa ?_;simp only[aq];refine ak (.agg (kc C)) aa (aV _ (.tmp 5) rfl (w.heap.size) 128 aa (hB.get 0 (x:=⟨w.heap.size,fl [bw R,bw O,bw P,bw S,bw C,[.int .u32 x],[.int .u32 y],[.int .u32 z],[v]],32⟩) rfl) NR (nR hR hO hP hS hCl _ _ _ _) 4 C rfl rfl rfl) ?_;simp only[aq];refine av 45 #[.agg (kc C)] aa aa ((step_ok C hCl (aj hC).2 u0 ((aj hF).gr hB.gr).1).mono ?_);rintro r_ u1 ⟨rfl,hg⟩;replace hB:=hB.more hg;clear hg;obtain⟨N,hN⟩:∃ P,P=bx C [2]:=⟨_,rfl⟩;obtain⟨M,hM⟩:∃ P,P=bx C [1]:=⟨_,rfl⟩;have hNl:N.length=32:=by rw[hN]; exact bA _ _
 have hMl:M.length=32:=by rw[hM]; exact bA _ _
 rw[← hN,← hM] at hT ⊢;replace hN:=ao hN;replace hM:=ao hM;refine⟨_,rfl,?_⟩;simp only[aq];refine ak (.tuple #[.agg (kc N),.agg (kc M)]) aa aa ?_;simp only[aq];refine ak (.agg (kc N)) aa aa ?_;simp only[aq];refine ak (.agg (kc M)) aa aa ?_;simp only[aq];refine ak (.pointer (some ⟨w.heap.size,128,none⟩)) aa aa ?_;simp only[aq];refine bG 23 (.tmp 10) (.tmp 8) (w.heap.size) 128 (bw N) aa rfl aa aa hB 0 rfl NR (nR hR hO hP hS hCl _ _ _ _) 4 (by rw[aJ,hNl]; rfl) rfl (by rw[aJ,hNl]; kernel_rfl) (cu _) ?_;intro u2 hB_ _;clear hB;replace hB:Bl w [⟨w.heap.size,fl [bw R,bw O,bw P,bw S,bw N,[.int .u32 x],[.int .u32 y],[.int .u32 z],[v]],32⟩,⟨w.heap.size+1,fl [bw Z32,bw Z32,bw Z32,bw Z32,bw Z32,[.int .u32 0],[.int .u32 0],[.int .u32 0],[.slice none 0 0]],32⟩,⟨w.heap.size+1+1,kc Z32,23⟩] u2:=hB_;clear hB_;simp only[aq]
 refine aA 23 (.tmp 3) (.tmp 9) (w.heap.size+1+1) (kc M) 23 (kc Z32) aa rfl aa aa (hB.get 2 (x:=⟨w.heap.size+1+1,kc Z32,23⟩) rfl) (by rw[Tryz.infoKey,au,hMl]) ((au _).trans (zl32.trans (hMl.symm.trans (au _).symm))) (aL _) ?_;replace hB:=hB.set 2 (x:=⟨w.heap.size+1+1,kc Z32,23⟩) rfl (kc M);simp only[ab] at hB;generalize World.setRow _ _ _=u3 at *;simp only[aq];refine ai ?_;replace hB:=ao hB;go_upto_region 2 with fail;replace hB:=aj hB;refine ag ?_;refine ak (.pointer (some ⟨w.heap.size,161,none⟩)) aa aa ?_;simp only[aq];refine ak (.int .u32 y) aa (aU _ (.tmp 11) rfl (w.heap.size) 161 aa y (aI (nR hR hO hP hS hNl _ _ _ _) (hB.get 0 (x:=⟨w.heap.size,fl [bw R,bw O,bw P,bw S,bw N,[.int .u32 x],[.int .u32 y],[.int .u32 z],[v]],32⟩) rfl) 6 (v:=.int .u32 y) rfl rfl)) ?_;simp only[aq]
 refine ak (.int .u32 (y+1)) aa (by have h:=IntKind.wrap_u32 (y+1); have e:(y+1) % 4294967296=y+1:=(by omega); go_simp) ?_;simp only[aq];refine ak (.pointer (some ⟨w.heap.size,161,none⟩)) aa aa ?_;simp only[aq];refine cC (.tmp 14) (.tmp 13) (w.heap.size) 161 (y+1) aa rfl aa aa hB 0 rfl NR (nR hR hO hP hS hNl _ _ _ _) 6 _ rfl rfl ?_;intro u4 hB_ _;clear hB;replace hB:Bl w [⟨w.heap.size,fl [bw R,bw O,bw P,bw S,bw N,[.int .u32 x],[.int .u32 (y+1)],[.int .u32 z],[v]],32⟩,⟨w.heap.size+1,fl [bw Z32,bw Z32,bw Z32,bw Z32,bw Z32,[.int .u32 0],[.int .u32 0],[.int .u32 0],[.slice none 0 0]],32⟩,⟨w.heap.size+1+1,kc M,23⟩] u4:=hB_;clear hB_;simp only[aq];refine ai ?_;replace hB:=ao hB;go_upto_region 3 with fail;replace hB:=aj hB
 refine aE (S:=fun v_=>v_.heap[w.heap.size]?=some (.cells (fl [bw R,bw O,bw P,bw S,bw N,[.int .u32 x],[.int .u32 (y+1)],[.int .u32 z],[v]]) 32 (0,0))∧v_.heap[w.heap.size+1+1]?=some (.cells (kc M) 23 (0,0))) aa ?_;replace hB:=hB.drew;generalize World.drew _=u5 at *;simp only[ae,Array.replicate,List.replicate];refine ar (i:=0) (v:=(.agg (fl [bw R,bw O,bw P,bw S,bw N,[.int .u32 x],[.int .u32 (y+1)],[.int .u32 z],[v]]))) #[false,false,false,false] rfl aa aa aa aa (fun _ _ _ h=>h) (.inl ⟨by kernel_rfl,fun x_ hu=>aQ _ 32 (.tmp 1) rfl (w.heap.size) aa hu.1 NR (nR hR hO hP hS hNl _ _ _ _) Tryz.underlying32 rfl aa⟩) ⟨(hB.get 0 (x:=⟨w.heap.size,fl [bw R,bw O,bw P,bw S,bw N,[.int .u32 x],[.int .u32 (y+1)],[.int .u32 z],[v]],32⟩) rfl),(hB.get 2 (x:=⟨w.heap.size+1+1,kc M,23⟩) rfl)⟩ ?_;simp only[aq]
 refine ar (i:=1) (v:=(.agg (kc M))) #[true,false,false,false] rfl aa aa aa aa (fun _ _ _ h=>h) (.inl ⟨by kernel_rfl,fun x_ hu=>ax _ 23 (.tmp 3) rfl (w.heap.size+1+1) aa (kc M) 23 _ hu.2 Tryz.underlying23 rfl (by rw[Tryz.infoKey,au,hMl])⟩) ⟨(hB.get 0 (x:=⟨w.heap.size,fl [bw R,bw O,bw P,bw S,bw N,[.int .u32 x],[.int .u32 (y+1)],[.int .u32 z],[v]],32⟩) rfl),(hB.get 2 (x:=⟨w.heap.size+1+1,kc M,23⟩) rfl)⟩ ?_;simp only[aq];refine ay (i:=2) aa rfl (fun K hK=>?_);refine bM 32 (.tmp 2) (.tmp 15) (w.heap.size+1) (S2:=[bw R,bw O,bw P,bw S,bw N,[.int .u32 x],[.int .u32 (y+1)],[.int .u32 z],[v]]) aa rfl aa aa hB 1 rfl NR (nR zl32 zl32 zl32 zl32 zl32 _ _ _ _) (nR hR hO hP hS hNl _ _ _ _) aa (oR _ _ _ _ _ rfl rfl rfl hv) ?_;intro u6 hB_ _;clear hB
 replace hB:Bl w [⟨w.heap.size,fl [bw R,bw O,bw P,bw S,bw N,[.int .u32 x],[.int .u32 (y+1)],[.int .u32 z],[v]],32⟩,⟨w.heap.size+1,fl [bw R,bw O,bw P,bw S,bw N,[.int .u32 x],[.int .u32 (y+1)],[.int .u32 z],[v]],32⟩,⟨w.heap.size+1+1,kc M,23⟩] u6:=hB_;clear hB_;refine hK.out _ _ ⟨(hB.get 0 (x:=⟨w.heap.size,fl [bw R,bw O,bw P,bw S,bw N,[.int .u32 x],[.int .u32 (y+1)],[.int .u32 z],[v]],32⟩) rfl),(hB.get 2 (x:=⟨w.heap.size+1+1,kc M,23⟩) rfl)⟩ (fun _=>?_);clear hK K;simp only[aq];refine ay (i:=3) aa rfl (fun K hK=>?_);refine cv 23 (.tmp 3) (.tmp 16) (w.heap.size+1+1) (kc M) 23 (kc M) aa rfl aa aa (hB.get 2 (x:=⟨w.heap.size+1+1,kc M,23⟩) rfl) (by rw[Tryz.infoKey,au,hMl]) ((au _).trans (hMl.trans (hMl.symm.trans (au _).symm))) (aL _) ?_;replace hB:=hB.set 2 (x:=⟨w.heap.size+1+1,kc M,23⟩) rfl (kc M);simp only[ab] at hB;generalize World.setRow _ _ _=u7 at *
 refine hK.out _ _ ⟨(hB.get 0 (x:=⟨w.heap.size,fl [bw R,bw O,bw P,bw S,bw N,[.int .u32 x],[.int .u32 (y+1)],[.int .u32 z],[v]],32⟩) rfl),(hB.get 2 (x:=⟨w.heap.size+1+1,kc M,23⟩) rfl)⟩ (fun _=>?_);clear hK K;simp only[aq];refine aF aa ?_;replace hB:=ao hB;go_wp2_with fail;replace hB:=aj hB;rw[aj hT];exact bodyPost_ret (v:=.tuple #[.agg (fl [bw R,bw O,bw P,bw S,bw N,[.int .u32 x],[.int .u32 (y+1)],[.int .u32 z],[v]]),.agg (kc M)]) (res2 Tryz.results107 (bC aa (hB.get 1 (x:=⟨w.heap.size+1,fl [bw R,bw O,bw P,bw S,bw N,[.int .u32 x],[.int .u32 (y+1)],[.int .u32 z],[v]],32⟩) rfl) Tryz.underlying32 rfl (by rw[bf (nR hR hO hP hS hNl _ _ _ _)]; kernel_rfl)) (bC aa (hB.get 2 (x:=⟨w.heap.size+1+1,kc M,23⟩) rfl) Tryz.underlying23 rfl (by rw[Tryz.infoKey,au,hMl]))) rfl (⟨rfl,hB.gr⟩)
theorem zturn_ok (R O P S C U F:List Int) (hR:IsK R) (hO:IsK O) (hP:P.length=32) (hS:S.length=32) (hC:C.length=32) (hU:IsK U) (hX:IsK F) (x y z:Int) (v:Value) (hv:v.oneCell'=true) (w:World) (hF:FL w):Calls Tryz.prog 105 #[.agg (fl [bw R,bw O,bw P,bw S,bw C,[.int .u32 x],[.int .u32 y],[.int .u32 z],[v]]),.agg (kc U),.agg (kc F)] w (Vl (.agg (fl [bw (rtL (rtL R O U) F U),bw F,bw U,bw (chL (rtL R O U) F U),bw (chL R O U),[.int .u32 0],[.int .u32 0],[.int .u32 x],[v]])) w):=by
 obtain⟨T,hT⟩:∃ T:Ending→World→Prop,T=(Vl (.agg (fl [bw (rtL (rtL R O U) F U),bw F,bw U,bw (chL (rtL R O U) F U),bw (chL R O U),[.int .u32 0],[.int .u32 0],[.int .u32 x],[v]])) w):=⟨_,rfl⟩;rw[← hT];replace hT:=ao hT;have hRl:=hR.1;have hOl:=hO.1;have hPl:=hP;have hSl:=hS;have hCl:=hC;have hUl:=hU.1;have hXl:=hX.1;replace hF:=ao hF;replace hR:=ao hR;replace hO:=ao hO;replace hU:=ao hU;replace hX:=ao hX;obtain⟨A0_,hA0_⟩:∃ S_,S_=fl [bw R,bw O,bw P,bw S,bw C,[.int .u32 x],[.int .u32 y],[.int .u32 z],[v]]:=⟨_,rfl⟩;rw[← hA0_];replace hA0_:=ao hA0_;obtain⟨A1_,hA1_⟩:∃ S_,S_=kc U:=⟨_,rfl⟩;rw[← hA1_];replace hA1_:=ao hA1_;obtain⟨A2_,hA2_⟩:∃ S_,S_=kc F:=⟨_,rfl⟩;rw[← hA2_];replace hA2_:=ao hA2_;go_enter Tryz.func105,Tryz.ntmps105;go_upto_region 1 with fail
 have hB:=(((((Bl.nil w).new A0_ 32).new A1_ 23).new A2_ 23).new (fl [bw Z32,bw Z32,bw Z32,bw Z32,bw Z32,[.int .u32 0],[.int .u32 0],[.int .u32 0],[.slice none 0 0]]) 32);simp only[aB,ac] at hB;rw[aj hA0_,aj hA1_,aj hA2_] at hB;generalize hu_:World.alloc _ _=u0;replace hB:Bl w [⟨w.heap.size,fl [bw R,bw O,bw P,bw S,bw C,[.int .u32 x],[.int .u32 y],[.int .u32 z],[v]],32⟩,⟨w.heap.size+1,kc U,23⟩,⟨w.heap.size+1+1,kc F,23⟩,⟨w.heap.size+1+1+1,fl [bw Z32,bw Z32,bw Z32,bw Z32,bw Z32,[.int .u32 0],[.int .u32 0],[.int .u32 0],[.slice none 0 0]],32⟩] u0:=by
  rw[← hu_];rw[aj hA0_,aj hA1_,aj hA2_];exact hB
 clear hu_ hA0_ hA1_ hA2_;refine ag ?_;refine ak (.pointer (some ⟨w.heap.size,160,none⟩)) aa aa ?_;simp only[aq];refine ak (.int .u32 x) aa (aU _ (.tmp 7) rfl (w.heap.size) 160 aa x (aI (nR hRl hOl hPl hSl hCl _ _ _ _) (hB.get 0 (x:=⟨w.heap.size,fl [bw R,bw O,bw P,bw S,bw C,[.int .u32 x],[.int .u32 y],[.int .u32 z],[v]],32⟩) rfl) 5 (v:=.int .u32 x) rfl rfl)) ?_;simp only[aq];refine ak (.pointer (some ⟨w.heap.size,162,none⟩)) aa aa ?_;simp only[aq];refine cC (.tmp 9) (.tmp 8) (w.heap.size) 162 x aa rfl aa aa hB 0 rfl NR (nR hRl hOl hPl hSl hCl _ _ _ _) 7 _ rfl rfl ?_;intro u1 hB_ _;clear hB;replace hB:Bl w [⟨w.heap.size,fl [bw R,bw O,bw P,bw S,bw C,[.int .u32 x],[.int .u32 y],[.int .u32 x],[v]],32⟩,⟨w.heap.size+1,kc U,23⟩,⟨w.heap.size+1+1,kc F,23⟩,⟨w.heap.size+1+1+1,fl [bw Z32,bw Z32,bw Z32,bw Z32,bw Z32,[.int .u32 0],[.int .u32 0],[.int .u32 0],[.slice none 0 0]],32⟩] u1:=hB_;clear hB_
 simp only[aq];refine ak (.pointer (some ⟨w.heap.size,160,none⟩)) aa aa ?_;simp only[aq];refine cC (.tmp 10) (.const (.int .u32 0)) (w.heap.size) 160 0 aa rfl aa aa hB 0 rfl NR (nR hRl hOl hPl hSl hCl _ _ _ _) 5 _ rfl rfl ?_;intro u2 hB_ _;clear hB;replace hB:Bl w [⟨w.heap.size,fl [bw R,bw O,bw P,bw S,bw C,[.int .u32 0],[.int .u32 y],[.int .u32 x],[v]],32⟩,⟨w.heap.size+1,kc U,23⟩,⟨w.heap.size+1+1,kc F,23⟩,⟨w.heap.size+1+1+1,fl [bw Z32,bw Z32,bw Z32,bw Z32,bw Z32,[.int .u32 0],[.int .u32 0],[.int .u32 0],[.slice none 0 0]],32⟩] u2:=hB_;clear hB_;simp only[aq];refine ak (.pointer (some ⟨w.heap.size,161,none⟩)) aa aa ?_;simp only[aq];refine cC (.tmp 11) (.const (.int .u32 0)) (w.heap.size) 161 0 aa rfl aa aa hB 0 rfl NR (nR hRl hOl hPl hSl hCl _ _ _ _) 6 _ rfl rfl ?_;intro u3 hB_ _;clear hB
 replace hB:Bl w [⟨w.heap.size,fl [bw R,bw O,bw P,bw S,bw C,[.int .u32 0],[.int .u32 0],[.int .u32 x],[v]],32⟩,⟨w.heap.size+1,kc U,23⟩,⟨w.heap.size+1+1,kc F,23⟩,⟨w.heap.size+1+1+1,fl [bw Z32,bw Z32,bw Z32,bw Z32,bw Z32,[.int .u32 0],[.int .u32 0],[.int .u32 0],[.slice none 0 0]],32⟩] u3:=hB_;clear hB_;simp only[aq];refine ai ?_;replace hB:=ao hB;go_upto_region 2 with fail;replace hB:=aj hB;refine ag ?_;refine ak (.agg (kc U)) aa (ax _ 23 (.tmp 4) rfl (w.heap.size+1) aa (kc U) 23 _ (hB.get 1 (x:=⟨w.heap.size+1,kc U,23⟩) rfl) Tryz.underlying23 rfl (by rw[Tryz.infoKey,au,hUl])) ?_;simp only[aq];refine ak (.pointer (some ⟨w.heap.size,64,none⟩)) aa aa ?_;simp only[aq];refine bG 23 (.tmp 13) (.tmp 12) (w.heap.size) 64 (bw U) aa rfl aa aa hB 0 rfl NR (nR hRl hOl hPl hSl hCl _ _ _ _) 2 (by rw[aJ,hUl]; rfl) rfl (by rw[aJ,hUl]; kernel_rfl) (cu _) ?_;intro u4 hB_ _;clear hB
 replace hB:Bl w [⟨w.heap.size,fl [bw R,bw O,bw U,bw S,bw C,[.int .u32 0],[.int .u32 0],[.int .u32 x],[v]],32⟩,⟨w.heap.size+1,kc U,23⟩,⟨w.heap.size+1+1,kc F,23⟩,⟨w.heap.size+1+1+1,fl [bw Z32,bw Z32,bw Z32,bw Z32,bw Z32,[.int .u32 0],[.int .u32 0],[.int .u32 0],[.slice none 0 0]],32⟩] u4:=hB_;clear hB_;simp only[aq];refine ai ?_;replace hB:=ao hB;go_upto_region 3 with fail;replace hB:=aj hB;refine ag ?_;refine ak (.pointer (some ⟨w.heap.size,0,none⟩)) aa aa ?_;simp only[aq];refine ak (.agg (kc R)) aa (aV _ (.tmp 15) rfl (w.heap.size) 0 aa (hB.get 0 (x:=⟨w.heap.size,fl [bw R,bw O,bw U,bw S,bw C,[.int .u32 0],[.int .u32 0],[.int .u32 x],[v]],32⟩) rfl) NR (nR hRl hOl hUl hSl hCl _ _ _ _) 0 R rfl rfl rfl) ?_;simp only[aq];refine ak (.pointer (some ⟨w.heap.size,32,none⟩)) aa aa ?_;simp only[aq]
 refine ak (.agg (kc O)) aa (aV _ (.tmp 17) rfl (w.heap.size) 32 aa (hB.get 0 (x:=⟨w.heap.size,fl [bw R,bw O,bw U,bw S,bw C,[.int .u32 0],[.int .u32 0],[.int .u32 x],[v]],32⟩) rfl) NR (nR hRl hOl hUl hSl hCl _ _ _ _) 1 O rfl rfl rfl) ?_;simp only[aq];refine ak (.agg (kc U)) aa (ax _ 23 (.tmp 4) rfl (w.heap.size+1) aa (kc U) 23 _ (hB.get 1 (x:=⟨w.heap.size+1,kc U,23⟩) rfl) Tryz.underlying23 rfl (by rw[Tryz.infoKey,au,hUl])) ?_;simp only[aq];refine av 34 #[.agg (kc R),.agg (kc O),.agg (kc U)] aa aa ((stir_ok R O U (aj hR) (aj hO) (aj hU) u4 ((aj hF).gr hB.gr)).mono ?_);rintro r_ u5 ⟨rfl,hg⟩;replace hB:=hB.more hg;clear hg;obtain⟨R1,hRe1⟩:∃ P,P=rtL R O U:=⟨_,rfl⟩;obtain⟨C1,hCe1⟩:∃ P,P=chL R O U:=⟨_,rfl⟩;have hRk1:IsK R1:=by rw[hRe1]; exact rtL_K _ _ _
 have hR1:=hRk1.1;have hC1:C1.length=32:=by rw[hCe1]; exact(chL_K _ _ _).1
 rw[← hRe1,← hCe1];replace hRe1:=ao hRe1;replace hCe1:=ao hCe1;replace hRk1:=ao hRk1;refine⟨_,rfl,?_⟩;simp only[aq];refine ak (.tuple #[.agg (kc R1),.agg (kc C1)]) aa aa ?_;simp only[aq];refine ak (.agg (kc R1)) aa aa ?_;simp only[aq];refine ak (.agg (kc C1)) aa aa ?_;simp only[aq];refine ak (.pointer (some ⟨w.heap.size,0,none⟩)) aa aa ?_;simp only[aq];refine bG 23 (.tmp 23) (.tmp 21) (w.heap.size) 0 (bw R1) aa rfl aa aa hB 0 rfl NR (nR hRl hOl hUl hSl hCl _ _ _ _) 0 (by rw[aJ,hR1]; rfl) rfl (by rw[aJ,hR1]; kernel_rfl) (cu _) ?_;intro u6 hB_ _;clear hB;replace hB:Bl w [⟨w.heap.size,fl [bw R1,bw O,bw U,bw S,bw C,[.int .u32 0],[.int .u32 0],[.int .u32 x],[v]],32⟩,⟨w.heap.size+1,kc U,23⟩,⟨w.heap.size+1+1,kc F,23⟩,⟨w.heap.size+1+1+1,fl [bw Z32,bw Z32,bw Z32,bw Z32,bw Z32,[.int .u32 0],[.int .u32 0],[.int .u32 0],[.slice none 0 0]],32⟩] u6:=hB_;clear hB_;simp only[aq]
 refine ak (.pointer (some ⟨w.heap.size,128,none⟩)) aa aa ?_;simp only[aq];refine bG 23 (.tmp 24) (.tmp 22) (w.heap.size) 128 (bw C1) aa rfl aa aa hB 0 rfl NR (nR hR1 hOl hUl hSl hCl _ _ _ _) 4 (by rw[aJ,hC1]; rfl) rfl (by rw[aJ,hC1]; kernel_rfl) (cu _) ?_;intro u7 hB_ _;clear hB;replace hB:Bl w [⟨w.heap.size,fl [bw R1,bw O,bw U,bw S,bw C1,[.int .u32 0],[.int .u32 0],[.int .u32 x],[v]],32⟩,⟨w.heap.size+1,kc U,23⟩,⟨w.heap.size+1+1,kc F,23⟩,⟨w.heap.size+1+1+1,fl [bw Z32,bw Z32,bw Z32,bw Z32,bw Z32,[.int .u32 0],[.int .u32 0],[.int .u32 0],[.slice none 0 0]],32⟩] u7:=hB_;clear hB_;simp only[aq];refine ai ?_;replace hB:=ao hB;go_upto_region 4 with fail;replace hB:=aj hB;refine ag ?_;refine ak (.agg (kc F)) aa (ax _ 23 (.tmp 5) rfl (w.heap.size+1+1) aa (kc F) 23 _ (hB.get 2 (x:=⟨w.heap.size+1+1,kc F,23⟩) rfl) Tryz.underlying23 rfl (by rw[Tryz.infoKey,au,hXl])) ?_;simp only[aq]
 refine ak (.pointer (some ⟨w.heap.size,32,none⟩)) aa aa ?_;simp only[aq];refine bG 23 (.tmp 26) (.tmp 25) (w.heap.size) 32 (bw F) aa rfl aa aa hB 0 rfl NR (nR hR1 hOl hUl hSl hC1 _ _ _ _) 1 (by rw[aJ,hXl]; rfl) rfl (by rw[aJ,hXl]; kernel_rfl) (cu _) ?_;intro u8 hB_ _;clear hB;replace hB:Bl w [⟨w.heap.size,fl [bw R1,bw F,bw U,bw S,bw C1,[.int .u32 0],[.int .u32 0],[.int .u32 x],[v]],32⟩,⟨w.heap.size+1,kc U,23⟩,⟨w.heap.size+1+1,kc F,23⟩,⟨w.heap.size+1+1+1,fl [bw Z32,bw Z32,bw Z32,bw Z32,bw Z32,[.int .u32 0],[.int .u32 0],[.int .u32 0],[.slice none 0 0]],32⟩] u8:=hB_;clear hB_;simp only[aq];refine ai ?_;replace hB:=ao hB;go_upto_region 5 with fail;replace hB:=aj hB;refine ag ?_;refine ak (.pointer (some ⟨w.heap.size,0,none⟩)) aa aa ?_;simp only[aq]
 refine ak (.agg (kc R1)) aa (aV _ (.tmp 28) rfl (w.heap.size) 0 aa (hB.get 0 (x:=⟨w.heap.size,fl [bw R1,bw F,bw U,bw S,bw C1,[.int .u32 0],[.int .u32 0],[.int .u32 x],[v]],32⟩) rfl) NR (nR hR1 hXl hUl hSl hC1 _ _ _ _) 0 R1 rfl rfl rfl) ?_;simp only[aq];refine ak (.agg (kc F)) aa (ax _ 23 (.tmp 5) rfl (w.heap.size+1+1) aa (kc F) 23 _ (hB.get 2 (x:=⟨w.heap.size+1+1,kc F,23⟩) rfl) Tryz.underlying23 rfl (by rw[Tryz.infoKey,au,hXl])) ?_;simp only[aq];refine ak (.agg (kc U)) aa (ax _ 23 (.tmp 4) rfl (w.heap.size+1) aa (kc U) 23 _ (hB.get 1 (x:=⟨w.heap.size+1,kc U,23⟩) rfl) Tryz.underlying23 rfl (by rw[Tryz.infoKey,au,hUl])) ?_;simp only[aq];refine av 34 #[.agg (kc R1),.agg (kc F),.agg (kc U)] aa aa ((stir_ok R1 F U (aj hRk1) (aj hX) (aj hU) u8 ((aj hF).gr hB.gr)).mono ?_);rintro r_ u9 ⟨rfl,hg⟩;replace hB:=hB.more hg;clear hg;obtain⟨R2,hRe2⟩:∃ P,P=rtL R1 F U:=⟨_,rfl⟩
 obtain⟨C2,hCe2⟩:∃ P,P=chL R1 F U:=⟨_,rfl⟩;have hRk2:IsK R2:=by rw[hRe2]; exact rtL_K _ _ _
 have hR2:=hRk2.1;have hC2:C2.length=32:=by rw[hCe2]; exact(chL_K _ _ _).1
 rw[← hRe2,← hCe2];replace hRe2:=ao hRe2;replace hCe2:=ao hCe2;replace hRk2:=ao hRk2;refine⟨_,rfl,?_⟩;simp only[aq];refine ak (.tuple #[.agg (kc R2),.agg (kc C2)]) aa aa ?_;simp only[aq];refine ak (.agg (kc R2)) aa aa ?_;simp only[aq];refine ak (.agg (kc C2)) aa aa ?_;simp only[aq];refine ak (.pointer (some ⟨w.heap.size,0,none⟩)) aa aa ?_;simp only[aq];refine bG 23 (.tmp 35) (.tmp 33) (w.heap.size) 0 (bw R2) aa rfl aa aa hB 0 rfl NR (nR hR1 hXl hUl hSl hC1 _ _ _ _) 0 (by rw[aJ,hR2]; rfl) rfl (by rw[aJ,hR2]; kernel_rfl) (cu _) ?_;intro u10 hB_ _;clear hB;replace hB:Bl w [⟨w.heap.size,fl [bw R2,bw F,bw U,bw S,bw C1,[.int .u32 0],[.int .u32 0],[.int .u32 x],[v]],32⟩,⟨w.heap.size+1,kc U,23⟩,⟨w.heap.size+1+1,kc F,23⟩,⟨w.heap.size+1+1+1,fl [bw Z32,bw Z32,bw Z32,bw Z32,bw Z32,[.int .u32 0],[.int .u32 0],[.int .u32 0],[.slice none 0 0]],32⟩] u10:=hB_;clear hB_;simp only[aq]
 refine ak (.pointer (some ⟨w.heap.size,96,none⟩)) aa aa ?_;simp only[aq];refine bG 23 (.tmp 36) (.tmp 34) (w.heap.size) 96 (bw C2) aa rfl aa aa hB 0 rfl NR (nR hR2 hXl hUl hSl hC1 _ _ _ _) 3 (by rw[aJ,hC2]; rfl) rfl (by rw[aJ,hC2]; kernel_rfl) (cu _) ?_;intro u11 hB_ _;clear hB;replace hB:Bl w [⟨w.heap.size,fl [bw R2,bw F,bw U,bw C2,bw C1,[.int .u32 0],[.int .u32 0],[.int .u32 x],[v]],32⟩,⟨w.heap.size+1,kc U,23⟩,⟨w.heap.size+1+1,kc F,23⟩,⟨w.heap.size+1+1+1,fl [bw Z32,bw Z32,bw Z32,bw Z32,bw Z32,[.int .u32 0],[.int .u32 0],[.int .u32 0],[.slice none 0 0]],32⟩] u11:=hB_;clear hB_;simp only[aq];refine ai ?_;replace hB:=ao hB;go_upto_region 6 with fail;replace hB:=aj hB;refine ag ?_
 refine ak (.agg (fl [bw R2,bw F,bw U,bw C2,bw C1,[.int .u32 0],[.int .u32 0],[.int .u32 x],[v]])) aa (aQ _ 32 (.tmp 3) rfl (w.heap.size) aa (hB.get 0 (x:=⟨w.heap.size,fl [bw R2,bw F,bw U,bw C2,bw C1,[.int .u32 0],[.int .u32 0],[.int .u32 x],[v]],32⟩) rfl) NR (nR hR2 hXl hUl hC2 hC1 _ _ _ _) Tryz.underlying32 rfl aa) ?_;simp only[aq];refine aX 32 (.tmp 6) (.tmp 37) (w.heap.size+1+1+1) (S2:=[bw R2,bw F,bw U,bw C2,bw C1,[.int .u32 0],[.int .u32 0],[.int .u32 x],[v]]) aa rfl aa aa hB 3 rfl NR (nR zl32 zl32 zl32 zl32 zl32 _ _ _ _) (nR hR2 hXl hUl hC2 hC1 _ _ _ _) aa (oR _ _ _ _ _ rfl rfl rfl hv) ?_;intro u12 hB_ _;clear hB
 replace hB:Bl w [⟨w.heap.size,fl [bw R2,bw F,bw U,bw C2,bw C1,[.int .u32 0],[.int .u32 0],[.int .u32 x],[v]],32⟩,⟨w.heap.size+1,kc U,23⟩,⟨w.heap.size+1+1,kc F,23⟩,⟨w.heap.size+1+1+1,fl [bw R2,bw F,bw U,bw C2,bw C1,[.int .u32 0],[.int .u32 0],[.int .u32 x],[v]],32⟩] u12:=hB_;clear hB_;simp only[aq];refine ai ?_;replace hB:=ao hB;go_wp2_with fail;replace hB:=aj hB;rw[aj hT];exact bodyPost_ret (v:=.agg (fl [bw R2,bw F,bw U,bw C2,bw C1,[.int .u32 0],[.int .u32 0],[.int .u32 x],[v]])) (res1 Tryz.results105 (bC aa (hB.get 3 (x:=⟨w.heap.size+1+1+1,fl [bw R2,bw F,bw U,bw C2,bw C1,[.int .u32 0],[.int .u32 0],[.int .u32 x],[v]],32⟩) rfl) Tryz.underlying32 rfl (by rw[bf (nR hR2 hXl hUl hC2 hC1 _ _ _ _)]; kernel_rfl))) rfl (⟨by rw[aj hRe2,aj hCe2,aj hRe1,aj hCe1],hB.gr⟩)
theorem Bl.add {w v:World} {L:List Blk} (h:Bl w L v) (x:Blk) (hx:v.heap[x.g]?=some x.obj) (hw:w.heap.size≤x.g) (hn:∀ y ∈ L,y.g≠x.g):Bl w (L++[x]) v:=by
 refine⟨h.gr,fun y hy=>?_,List.pairwise_append.2 ⟨h.ne,List.pairwise_singleton _ _,fun y hy z hz=>?_⟩⟩
 ·rcases List.mem_append.1 hy with hy | hy
  ·exact h.at_ y hy
  ·rw[List.mem_singleton] at hy;subst hy;exact⟨hx,hw⟩
 ·rw[List.mem_singleton] at hz;subst hz;exact hn y hy
theorem mem_of_getD {α:Type} {l:List α} {d:α} {i:Nat} (h:i<l.length):l.getD i d ∈ l:=by
 rw[List.getD_eq_getElem?_getD,List.getElem?_eq_getElem h];exact List.getElem_mem h
def bv (b:List Int):List Value:=b.map (Value.int .u8)
theorem bv_len (b:List Int):(bv b).length=b.length:=by unfold bv; simp
structure Ls (k:Nat) (w:World) (a:Option Addr) (n c:Nat) (R:List (List Value)):Prop where
 len:R.length=n
 row:∀ r ∈ R,r.length=k
 sl:R=[]∨∃ p o,a=some ⟨p,o,none⟩∧w.rangeAt p o R.flatten
 cap:n≤c
 max:c<9223372036854775808
theorem range_gr {w v:World} {p o:Nat} {L:List Value} (h:w.rangeAt p o L) (g:Gr w v):v.rangeAt p o L:=fun j x hj=>g.cell (h j x hj)
theorem Ls.gr {k:Nat} {w v:World} {a:Option Addr} {n c:Nat} {R:List (List Value)} (h:Ls k w a n c R) (g:Gr w v):Ls k v a n c R:=by
 refine⟨h.len,h.row,?_,h.cap,h.max⟩;rcases h.sl with h | ⟨p,o,h1,h2⟩
 ·exact .inl h
 ·exact .inr ⟨p,o,h1,range_gr h2 g⟩
theorem flat_row:∀ (R:List (List Value)) (k:Nat),(∀ r ∈ R,r.length=k)→∀ (i j:Nat),i<R.length→j<k→R.flatten[k * i+j]?=(R.getD i [])[j]?
 | [],_,_,i,_,hi,_=>absurd hi (Nat.not_lt_zero i)
 | r::R,k,h,0,j,_,hj=>by
  have hr:=h r List.mem_cons_self;rw[List.flatten_cons,Nat.mul_zero,Nat.zero_add,List.getElem?_append_left (by omega)]
  rfl
 | r::R,k,h,i+1,j,hi,hj=>by
  have hr:=h r List.mem_cons_self;have ih:=flat_row R k (fun x hx=>h x (List.mem_cons_of_mem _ hx)) i j (by simpa using hi) hj;rw[List.flatten_cons,List.getElem?_append_right (by rw[hr,Nat.mul_succ]; omega),hr,show k * (i+1)+j - k=k * i+j from by rw[Nat.mul_succ]; omega,ih]
  rfl
theorem Ls.at_ {k:Nat} {w:World} {a:Option Addr} {n c:Nat} {R:List (List Value)} (h:Ls k w a n c R) (i:Nat) (hi:i<n):∃ p o,a=some ⟨p,o,none⟩∧w.rangeAt p (o+k * i) (R.getD i []):=by
 have hl:=h.len;rcases h.sl with h0 | ⟨p,o,h1,h2⟩
 ·rw[h0] at hl;simp at hl;omega
 ·refine⟨p,o,h1,fun j x hj=>?_⟩;have hrl:=h.row _ (mem_of_getD (d:=[]) (show i<R.length by omega));have hj2:j<k:=by have:=(List.getElem?_eq_some_iff.1 hj).1; omega
  rw[Nat.add_assoc];exact h2 _ _ (by rw[flat_row R k h.row i j (by omega) hj2]; exact hj)
def Or_ (k:Nat) (e:TypeId) (b:Nat) (w:World) (v:Value) (R:List (List Value)):Prop:=(∀ r ∈ R,r.length=k)∧w.ownsRow b e k v R.length R.flatten
theorem flat_len:∀ (R:List (List Value)) (k:Nat),(∀ r ∈ R,r.length=k)→R.flatten.length=R.length * k
 | [],_,_=>by simp
 | r::R,k,h=>by
  have h1:=h r List.mem_cons_self;have ih:=flat_len R k (fun x hx=>h x (List.mem_cons_of_mem _ hx));rw[List.flatten_cons,List.length_append,ih,h1,List.length_cons,Nat.add_mul];omega
theorem ownsRow_gr {k:Nat} {e:TypeId} {b:Nat} {w u:World} {v:Value} {n:Nat} {xs:List Value} (h:w.ownsRow b e k v n xs) (g:Gr w u):u.ownsRow b e k v n xs:=by
 obtain⟨h1,h2 | ⟨p,cap,cur,h2,h3,h4,h5⟩⟩:=h
 ·exact⟨h1,.inl h2⟩
 ·exact⟨h1,.inr ⟨p,cap,cur,h2,h3,g.blk h4,h5⟩⟩
theorem Or_.gr {k:Nat} {e:TypeId} {b:Nat} {w u:World} {v:Value} {R:List (List Value)} (h:Or_ k e b w v R) (g:Gr w u):Or_ k e b u v R:=⟨h.1,ownsRow_gr h.2 g⟩
theorem Or_.ls {k:Nat} {e:TypeId} {b:Nat} {w:World} {v:Value} {R:List (List Value)} (h:Or_ k e b w v R):∃ a c,v=.slice a R.length c∧Ls k w a R.length c R:=by
 rcases h.2.2 with ⟨h1,h2⟩ | ⟨g,cap,cur,h1,h2,h3,h4,h5,h6,h7⟩
 ·have e:R=[]:=List.eq_nil_of_length_eq_zero h2;subst e;exact⟨none,0,h1,rfl,(fun r hr=>by cases hr),.inl rfl,Nat.le_refl _,by omega⟩
 ·refine⟨_,cap,h1,rfl,h.1,.inr ⟨g,0,rfl,fun j x hj=>?_⟩,h4,by unfold maxLen at h5; omega⟩;rw[Nat.zero_add];refine aw h3 ?_;rw[← Array.getElem?_toList];have hjl:=(List.getElem?_eq_some_iff.1 hj).1;rw[h.2.1] at hjl;rw[← h7,List.getElem?_take,if_pos hjl] at hj;exact hj
structure Lt (t e:TypeId) (k n:Nat):Prop where
 ht:Tryz.prog.underlying t=some (.slice e)
 hi:∃ i z,Tryz.prog.info? e=some i∧i.zero=some z∧i.size=k∧i.bytes=n∧z.cells.size=k
 hk:0<k
 hn:n≤100
theorem app_rows0 {t e:TypeId} {k nb:Nat} (L:Lt t e k nb) {w:World} {o:Oper} {a:Act} {K:Act→World→Prop} {Q:Exit→Act→World→Prop} (s x:Operand)
  (ho:o.op=.call { callee:=.builtin .append,args:=#[s,x],argTypes:=#[t,t] }) (b:Nat) (v:Value) (R:List (List Value)) (hs:a.eval s=v) (hown:Or_ k e b w v R)
  (sp:Option Addr) (n sc:Nat) (l:List (List Value)) (hx:a.eval x=.slice sp n sc) (hn:l.length=n) (hrow:∀ r ∈ l,r.length=k) (hsl:l=[]∨∃ p o,sp=some ⟨p,o,none⟩∧w.rangeAt p o l.flatten) (h1:∀ r ∈ l,∀ u ∈ r,u.oneCell'=true) (hbig:((R.length+n)+(R.length+n) / 4+192) * nb≤281474976710656∧R.length+n≤4611686018427387904) (hB:b≤w.heap.size)
  (h:∀ v' w',Or_ k e b w' v' (R++l)→w.grownBy w' v.ownBlock→K (a.put o.dst v') w'):o.wp Tryz.prog a w K Q:=by
 obtain⟨i0,z0,hi,hz0,hz1,hz2,hz3⟩:=L.hi;have hnb:=L.hn;rcases hsl with rfl | ⟨p,q,rfl,hat⟩
 ·obtain rfl:0=n:=hn;obtain⟨a',c',rfl,hls⟩:=hown.ls;have hc:=hls.cap;have hrun:(Builtin.append_ #[t,t] o.type #[.slice a' R.length c',.slice sp 0 sc]).run Tryz.prog w=.ok (.slice a' R.length c') w:=by
   cases a' <;> cases sp <;> simp[Builtin.append_,run_underlying L.ht,sizeOf,typeInfo,hi,Builtin.lenOf,Builtin.firstCells,loadCells,loadCellsFrom,storeCells,hc]
  unfold Oper.wp;simp[execOp,ho,resolve,invoke,builtin,hs,hx,hrun,Result.andThen];exact h _ _ (by rw[List.append_nil]; exact hown) (World.grownBy.refl _ _)
 ·have hfl:=flat_len l k hrow;refine wp_append_own_wide w s x t ho b e i0 z0 k nb L.ht hi hz0 hz1 hz2 hz3 L.hk v R.length _ hs hown.2 ⟨p,q,none⟩ n sc l.flatten hx (by rw[hfl,hn]) ?_ ?_ (by unfold maxLen; omega) hbig.1 hB ?_
  ·intro j u hj;rw[Addr.add_mid];exact hat j u hj
  ·intro u hu;obtain⟨r,hr,hu⟩:=List.mem_flatten.1 hu;exact h1 r hr u hu
  ·intro v' w' h1 h2 _;refine h v' w' ⟨?_,?_⟩ h2
   ·intro r hr;rcases List.mem_append.1 hr with hr | hr
    ·exact hown.1 r hr
    ·exact hrow r hr
   ·rw[List.length_append,List.flatten_append,hn];exact h1
theorem app_rows {t e:TypeId} {k nb:Nat} (L:Lt t e k nb) {w:World} {o:Oper} {a:Act} {K:Act→World→Prop} {Q:Exit→Act→World→Prop} (s x:Operand)
  (ho:o.op=.call { callee:=.builtin .append,args:=#[s,x],argTypes:=#[t,t] }) (b:Nat) (v:Value) (R:List (List Value)) (hs:a.eval s=v) (hown:Or_ k e b w v R)
  (sp:Option Addr) (n sc:Nat) (l:List (List Value)) (hx:a.eval x=.slice sp n sc) (hl:Ls k w sp n sc l) (h1:∀ r ∈ l,∀ u ∈ r,u.oneCell'=true) (hbig:((R.length+n)+(R.length+n) / 4+192) * nb≤281474976710656∧R.length+n≤4611686018427387904) (hB:b≤w.heap.size)
  (h:∀ v' w',Or_ k e b w' v' (R++l)→w.grownBy w' v.ownBlock→K (a.put o.dst v') w'):o.wp Tryz.prog a w K Q :=
 app_rows0 L s x ho b v R hs hown sp n sc l hx hl.len hl.row hl.sl h1 hbig hB h
structure Chg (F F':List Nat) (w v:World):Prop where
 os:v.os=w.os
 tape:v.tape=w.tape
 output:v.output=w.output
 size:w.heap.size≤v.heap.size
 block:∀ i,i<w.heap.size→i ∉ F→v.heap[i]?=w.heap[i]?
 new:∀ i ∈ F',i ∈ F∨w.heap.size≤i
theorem Gr.chg0 {w v:World} (h:Gr w v) (F:List Nat):Chg F F w v:=⟨h.os,h.tape,h.output,h.size,fun i hi _=>h.block i hi,fun i hi=>.inl hi⟩
theorem Chg.gr {F F':List Nat} {w u v:World} (h:Chg F F' w u) (k:Gr u v):Chg F F' w v :=
 ⟨k.os.trans h.os,k.tape.trans h.tape,k.output.trans h.output,Nat.le_trans h.size k.size,fun i hi hn=>(k.block i (Nat.lt_of_lt_of_le hi h.size)).trans (h.block i hi hn),h.new⟩
theorem Chg.bt2 {F:List Nat} {w u v:World} {b:Nat} (h:Chg F F w u) (k:Bt b u v) (hb:b ∈ F∨w.heap.size≤b):Chg F F w v :=
 ⟨k.os.trans h.os,k.tape.trans h.tape,k.output.trans h.output,Nat.le_trans h.size k.size,fun i hi hn=>(k.block i (Nat.lt_of_lt_of_le hi h.size) (by
  rintro rfl;rcases hb with hb | hb
  ·exact hn hb
  ·omega)).trans (h.block i hi hn),fun i hi=>.inl hi⟩
def bare (w:World):World:={ w with heap:=#[] }
structure Bc (F:List Nat) (w:World) (L:List Blk) (v:World):Prop where
 bl:Bl (bare w) L v
 chg:Chg F F w v
 fo:∀ x ∈ L,x.g ∈ F∨w.heap.size≤x.g
theorem fo_set {P:Nat→Prop} {L:List Blk} (h:∀ x ∈ L,P x.g) (i:Nat) {x:Blk} (hi:L[i]?=some x) (c:Array Value) (t:TypeId):∀ y ∈ L.set i ⟨x.g,c,t⟩,P y.g:=fun y hy =>
 (List.mem_or_eq_of_mem_set hy).elim (h y) (fun e=>by rw[e]; exact h x (List.mem_of_getElem? hi))
theorem Bc.get {F:List Nat} {w v:World} {L:List Blk} (h:Bc F w L v) (i:Nat) {x:Blk} (hi:L[i]?=some x):v.heap[x.g]?=some (.cells x.c x.t (0,0)):=h.bl.get i hi
theorem Bc.own {F:List Nat} {w v:World} {L:List Blk} (h:Bc F w L v) (i:Nat) {x:Blk} (hi:L[i]?=some x):x.g ∈ F∨w.heap.size≤x.g:=h.fo x (List.mem_of_getElem? hi)
theorem Bc.more {F:List Nat} {w u v:World} {L:List Blk} (h:Bc F w L u) (k:Gr u v):Bc F w L v:=⟨h.bl.more k,h.chg.gr k,h.fo⟩
theorem Bc.drew {F:List Nat} {w v:World} {L:List Blk} (h:Bc F w L v):Bc F w L v.drew:=h.more (Gr.refl v).drew
theorem Bc.cell {F:List Nat} {w v:World} {L:List Blk} (h:Bc F w L v) (k:Nat) {x:Blk} (hk:L[k]?=some x) (i:Nat) (y:Value):Bc F w (L.set k ⟨x.g,x.c.setIfInBounds i y,x.t⟩) (v.setCell ⟨x.g,i,none⟩ y) :=
 ⟨h.bl.cell k hk i y,h.chg.bt2 (Bt.setCell v i y) (h.own k hk),fo_set (P:=fun g=>g ∈ F∨w.heap.size≤g) h.fo k hk _ _⟩
theorem Bc.nil (F:List Nat) (w:World):Bc F w [] w:=⟨⟨⟨rfl,rfl,rfl,Nat.zero_le _,fun i hi=>absurd hi (Nat.not_lt_zero i)⟩,(fun _ h=>by cases h),List.Pairwise.nil⟩,(Gr.refl w).chg0 F,fun _ h=>by cases h⟩
theorem Bc.add {F:List Nat} {w v:World} {L:List Blk} (h:Bc F w L v) (x:Blk) (hx:v.heap[x.g]?=some x.obj) (hw:x.g ∈ F∨w.heap.size≤x.g) (hn:∀ y ∈ L,y.g≠x.g):Bc F w (L++[x]) v :=
 ⟨h.bl.add x hx (Nat.zero_le _) hn,h.chg,fun y hy=>(List.mem_append.1 hy).elim (h.fo y) (fun e=>by rw[List.mem_singleton] at e; rw[e]; exact hw)⟩
theorem ty_ne {v:World} {a b:Nat} {c d:Array Value} {s t:TypeId} (ha:v.heap[a]?=some (.cells c s (0,0))) (hb:v.heap[b]?=some (.cells d t (0,0))) (hn:s≠t):a≠b:=by
 rintro rfl;rw[ha] at hb;have:=Option.some.inj hb;injection this with _ h6 _;exact hn h6
abbrev P0 (g:Nat):Value:=.pointer (some ⟨g,0,none⟩)
theorem or_bt {k:Nat} {e:TypeId} {b:Nat} {u u':World} {v:Value} {R:List (List Value)} (h:Or_ k e b u v R) {g:Nat} {c:Array Value} {t:TypeId} (hg:u.heap[g]?=some (.cells c t (0,0))) (ht:t≠e) (hk:Bt g u u'):Or_ k e b u' v R:=by
 refine⟨h.1,h.2.1,?_⟩;rcases h.2.2 with h1 | ⟨p,cap,cur,h1,h2,h3,h4⟩
 ·exact .inl h1
 ·exact .inr ⟨p,cap,cur,h1,h2,hk.blk h3 (ty_ne h3 hg (Ne.symm ht)),h4⟩
theorem ob_base {b c:Nat} {w:World} {v:Value} {L:List Int} (h:Ob b w v L) (hc:c≤b):Ob c w v L:=by
 refine⟨h.1,?_⟩;rcases h.2 with h1 | ⟨g,cap,cur,h1,h2,h3⟩
 ·exact .inl h1
 ·exact .inr ⟨g,cap,cur,h1,Nat.le_trans hc h2,h3⟩
theorem ob_lb {b:Nat} {w:World} {v:Value} {L:List Int} (h:Ob b w v L) (hb:IsB L) {n:Nat} (hn:L.length=n):∃ a c,v=.slice a n c∧Lb w a n c L:=by
 obtain⟨a,c,h1,h2,h3,h4⟩:=h.slice;subst hn;exact⟨a,c,h1,rfl,hb,h4,h2,by unfold maxLen at h3; omega⟩
theorem exec_sby {op:Oper} {a:Act} (w:World) (x:Operand) (ho:op.op=.load 55 x) (g i:Nat) (hx:a.eval x=.pointer (some ⟨g,i,none⟩)) (s:Option Addr) (n c:Nat) (hc:w.cell? ⟨g,i,none⟩=some (.slice s n c)):(execOp a.eval op).run Tryz.prog w=.ok (.value (.slice s n c)) w:=by
 unfold execOp;simp only[ho,hx,Instr.loadAt,Instr.sureAddr,Sem.run_bind,Sem.run_pure,Result.andThen_ok];go_simp
theorem ob_none (b:Nat) (w:World):Ob b w (.slice none 0 0) []:=⟨rfl,.inl ⟨rfl,rfl⟩⟩
theorem put4_ok (B:List Int) (s:Option Addr) (n cap:Nat) (x:Int) (hx:0≤x) (hn:n≤1000) (w:World) (lb:Lb w s n cap B):Calls Tryz.prog 109 #[.slice s n cap,.int .u64 x,.int .i64 4] w (Mkd (B++lowL x 4) w):=by
 obtain⟨T,hT⟩:∃ T,T=Mkd (B++lowL x 4) w:=⟨_,rfl⟩;rw[← hT];replace hT:=ao hT;obtain⟨m,hm⟩:∃ m,m=n+4:=⟨_,rfl⟩;have i1:(n:Int)+4=(m:Int):=by omega
 have i2:IntKind.i64.wrap (m:Int)=(m:Int):=by rw[IntKind.wrap_i64]; omega
 replace lb:=ao lb;replace hm:=ao hm;go_enter Tryz.func109,Tryz.ntmps109;go_upto_region 1 with fail;have hmb:m≤1008:=by have:=aj hm; omega
 refine ag ?_;refine ak (.slice s n cap) aa aa ?_;simp only[aq];refine ak (.int .i64 n) aa aa ?_;simp only[aq];refine ak (.int .i64 4) aa aa ?_;simp only[aq];refine ak (.int .i64 m) aa (by go_simp) ?_;simp only[aq];refine bF _ rfl (.tmp 12) (.tmp 12) rfl (m:Int) (m:Int) m m aa aa rfl rfl (Nat.le_refl _) (by omega) ?_;simp only[aq];have hB:=(Bl.nil w).new (kc (List.replicate m 0)) 5;simp only[List.nil_append] at hB;generalize World.alloc _ _=u at *;replace hB:=ao hB
 (refine af fun K hK=>?_;go_simp;refine aj hK _ _ ?_;clear hK K)
 refine ai ?_;go_upto_region 2 with fail;replace hB:=aj hB;have hnm:n≤m:=by have:=aj hm; omega
 have lb2:Hid (Lb u s n cap B):=(aj lb).gr hB.gr;refine ag ?_;refine ak (.slice (some ⟨w.heap.size,0,none⟩) m m) aa aa ?_;simp only[aq];refine ak (.slice s n cap) aa aa ?_;simp only[aq];refine wpList_plain rfl fun K hK=>?_;refine bu (.tmp 14) (.tmp 15) rfl w.heap.size 0 m m s n cap aa aa ((List.replicate m 0).map (Value.int .u8)) 5 (hB.get 0 (x:=⟨w.heap.size,kc (List.replicate m 0),5⟩) rfl) B (by rw[(aj lb).len]; exact(Nat.min_eq_left (by omega)).symm) (aj lb2).sl (by rw[(aj lb).len,List.length_map,List.length_replicate]; omega) ?_;have hcell:=laid (S:=B) (o:=0) (hB.get 0 (x:=⟨w.heap.size,kc (List.replicate m 0),5⟩) rfl) (by rw[(aj lb).len,List.length_replicate]; omega);have hB2:=hB.but (aM (B.map (Value.int .u8)) u w.heap.size 0) 0 (x:=⟨w.heap.size,kc (List.replicate m 0),5⟩) rfl rfl hcell;simp only[List.set_cons_zero] at hB2;refine hK _ _ ?_;clear hK K hcell hB;simp only[aq]
 generalize World.setCells _ _ _ _=u1 at *;rw[(aj lb).len]
 (refine af fun K hK=>?_;go_simp;refine aj hK _ _ ?_;clear hK K)
 refine ai ?_;have hL:lay (List.replicate m 0) 0 B=bB B x 4 0:=by
  unfold lay bB;rw[List.take_zero,List.nil_append,Nat.zero_add,List.drop_replicate,(aj lb).len,show m - n=4 from by have:=aj hm; omega]
  rfl
 rw[hL] at hB2;replace hB2:=ao hB2;clear hL lb2;go_wp2_with fail
 go_loopw [1,8] (fun y i wr=>∃ k:Nat,k≤4∧y=.int .u64 (x / 256 ^ k)∧i=.int .i64 (n+k:Nat)∧Hid (Bl w [⟨w.heap.size,kc (bB B x 4 k),5⟩] wr)) (fun _ i _=>m - (intOf i).toNat)
 case atStart=>exact⟨0,Nat.zero_le _,by simp,rfl,hB2⟩
 case round =>
 clear hB2;obtain⟨k,hk,rfl,rfl,hB⟩:=hrel;have hBn:B.length=n:=(aj lb).len;have hlen:=filled_len B x 4 k hk;rw[hBn] at hlen;by_cases hlt:k<4
 ·obtain⟨q,hq⟩:∃ q,q=n+k:=⟨_,rfl⟩;rw[← hq];have hqm:q<m:=by have:=aj hm; omega
  have qI:(q:Int)<(m:Int):=by omega
  have c1:=bJ ((aj hB).get 0 (x:=⟨w.heap.size,kc (bB B x 4 k),5⟩) rfl) q (by omega);generalize (bB B x 4 k).getD q 0=z at c1;have f1:=aO (i:=q) ((aj hB).get 0 (x:=⟨w.heap.size,kc (bB B x 4 k),5⟩) rfl);have hy0:0≤x / 256 ^ k:=Int.ediv_nonneg hx (Int.pow_nonneg (by omega));have hst:=filled_step B x 4 k hlt;have hdv:x / 256 ^ k / 256=x / 256 ^ (k+1):=by rw[Int.pow_succ,Int.ediv_ediv_of_nonneg (Int.pow_nonneg (by omega))]
  rw[hBn,← hq] at hst;generalize x / 256 ^ k=y at *;have hB1:=(aj hB).cell 0 (x:=⟨w.heap.size,kc (bB B x 4 k),5⟩) rfl q (.int .u8 (y % 256));simp only[ab,cD,hst] at hB1;replace hB1:=ao hB1;replace hdv:=ao hdv;replace hq:=ao hq;replace hy0:=ao hy0;have i3:IntKind.i64.wrap ((q:Int)+1)=(q:Int)+1:=by rw[IntKind.wrap_i64]; omega
  have i4:IntKind.u8.wrap y=y % 256:=by rw[IntKind.wrap_u8]
  replace hy0:=aj hy0;clear hst hlen hB hBn;go_wp2_with fail;go_roundw
  case rel=>exact⟨k+1,by omega,by rw[aj hdv],by have:=aj hq; go_num,hB1⟩
  case measure=>have:=aj hq; simp[intOf]; omega
 ·have hqm:¬ n+k<m:=by have:=aj hm; omega
  have qI:¬ ((n+k:Nat):Int)<(m:Int):=by omega
  have hk8:k=4:=by omega
  have hF:Hid (Mkd (B++lowL x 4) w (.returned (.slice (some ⟨w.heap.size,0,none⟩) m m)) wr):=by
   refine⟨w.heap.size,?_,(aj hB).own 0 (x:=⟨w.heap.size,kc (bB B x 4 k),5⟩) rfl,?_,(aj hB).gr⟩
   ·rw[List.length_append,aN,hBn,← aj hm]
   ·have h:=(aj hB).get 0 (x:=⟨w.heap.size,kc (bB B x 4 k),5⟩) rfl;rw[hk8] at h;have e:bB B x 4 4=B++lowL x 4:=by simp[bB]
    rw[e] at h;exact h
  clear hlen hB hBn;generalize n+k=q at *;go_wp2_with fail;rw[aj hT];exact aj hF
theorem exec_win {a:Act} {o:Oper} (w:World) (x y z:Operand) (ho:o.op=.slice 55 x (some y) (some z) none) (p len cap l h m:Nat) (hx:a.eval x=.slice (some ⟨p,0,none⟩) len cap) (hy:a.eval y=.int .i64 l) (hz:a.eval z=.int .i64 h) (h1:h=l+m) (h0:0<m) (h2:h≤cap) :
  (execOp a.eval o).run Tryz.prog w=.ok (.value (.slice (some ⟨p,l,none⟩) m (cap - l))) w:=by
 have e0:h - l=m:=by omega
 have e1:(0:Int)≤l:=by omega
 have e2:(l:Int)≤h:=by omega
 have e3:(h:Int)≤cap:=by omega
 have hu:Tryz.prog.underlying 55=some (.slice (Tryz.prog.elem 55)):=by kernel_rfl
 have hs:(sizeOf (Tryz.prog.elem 55)).run Tryz.prog w=.ok 1 w:=by kernel_rfl
 have hne:¬ cap=l:=by omega
 simp[execOp,ho,hx,hy,hz,run_sliceAt_slice _ _ _ _ _ _ hu,run_slice_lh _ _ _ _ _ hu _ _ _ _ e1 e2 e3,hs,sliced,hne,Addr.add_mid,e0]
theorem ob_at {b:Nat} {w:World} {v:Value} {L:List Int} (h:Ob b w v L) (hn:L≠[]):∃ p c,v=.slice (some ⟨p,0,none⟩) L.length c∧b≤p∧At w p 0 L∧L.length≤c∧c<9223372036854775808∧∃ cur,w.heap[p]?=some (.cells cur 5 (0,0)):=by
 obtain⟨a,c,e,h1,h2,h3⟩:=h.slice;rcases h.2 with ⟨_,e2⟩ | ⟨g,cap,cur,f1,f2,f3,_⟩
 ·exact absurd (List.eq_nil_of_length_eq_zero e2) hn
 ·rw[e] at f1;injection f1 with g1 g2 g3;subst g1 g3;rcases h3 with h3 | ⟨p,o,h4,h5⟩
  ·exact absurd h3 hn
  ·have h6:=Option.some.inj h4;injection h6 with h7 h8 _;subst h7 h8;exact⟨g,c,e,f2,h5,h1,by unfold maxLen at h2; omega,cur,f3⟩
theorem exec_err {op:Oper} {a:Act} (w:World) (x:Operand) (ho:op.op=.load 33 x) (g i:Nat) (hx:a.eval x=.pointer (some ⟨g,i,none⟩)) (v:Int) (hc:w.cell? ⟨g,i,none⟩=some (.int .i64 v)):(execOp a.eval op).run Tryz.prog w=.ok (.value (.int .i64 v)) w:=by
 unfold execOp;simp only[ho,hx,Instr.loadAt,Instr.sureAddr,Sem.run_bind,Sem.run_pure,Result.andThen_ok];go_simp
theorem Chg.bt1 {g:Nat} {w v:World} (h:Chg [g] [g] w v):Bt g w v:=⟨h.os,h.tape,h.output,h.size,fun i hi hn=>h.block i hi (by simp[hn])⟩
theorem clone_ok (B:List Int) (p q n c:Nat) (w:World) (hB0:Lb w (some ⟨p,q,none⟩) n c B) (hn:n≤100000):Calls Tryz.prog 110 #[.slice (some ⟨p,q,none⟩) n c] w (Infd B w):=by
 obtain⟨T,hT⟩:∃ T,T=Infd B w:=⟨_,rfl⟩;rw[← hT];replace hT:=ao hT;replace hB0:=ao hB0;go_enter Tryz.func110,Tryz.ntmps110;go_upto_region 1 with fail;refine ag ?_;refine ak (.slice (some ⟨p,q,none⟩) n c) aa aa ?_;simp only[aq];refine ak (.bool false) aa aa ?_;simp only[aq];refine ai ?_;go_upto_region 3 with fail;refine ag ?_;refine aH (.slice (some ⟨w.heap.size,0,none⟩) 0 0) (w.alloc (.cells #[] 5 (0,0))) aa aa ?_;have hO:Ob w.heap.size (w.alloc (.cells #[] 5 (0,0))) (.slice (some ⟨w.heap.size,0,none⟩) 0 0) []:=blk_bytes [] (Nat.le_refl _) (Nat.zero_le _);have hG:=(Gr.refl w).alloc (.cells #[] 5 (0,0));generalize World.alloc _ _=u at *;simp only[aq];refine ak (.slice (some ⟨p,q,none⟩) n c) aa aa ?_;simp only[aq]
 refine dJ aa (.tmp 5) (.tmp 6) rfl w.heap.size _ [] rfl hO (some ⟨p,q,none⟩) n c B rfl (aj hB0).len ((aj hB0).gr hG).sl (by simp only[List.length_nil,Nat.zero_add]; omega) hG.size ?_;intro v9 u9 hO9 hgr;rw[List.nil_append] at hO9;have hZ:Hid (Infd B w (.returned v9) u9):=⟨v9,rfl,hO9,hO.grown (Nat.le_refl _) hG hgr⟩;clear hO9 hgr hO hG;simp only[aq]
 (refine af fun K hK=>?_;go_simp;refine aj hK _ _ ?_;clear hK K)
 refine ai ?_;go_wp2_with fail;rw[aj hT];exact aj hZ
def rdr (k p n c:Nat):Array Value:=#[.int .i64 (k:Int),.int .i64 0,.slice (some ⟨p,0,none⟩) n c]
structure Rdr (g p n c k:Nat) (L:List Int) (w:World):Prop where
 cel:w.heap[g]?=some (.cells (rdr k p n c) 177 (0,0))
 at_:At w p 0 L
 ne:p≠g
 len:L.length=n
 isB:IsB L
 cap:n≤c
 max:c<9223372036854775808
theorem Rdr.gr {g p n c k:Nat} {L:List Int} {w v:World} (h:Rdr g p n c k L w) (e:Gr w v):Rdr g p n c k L v:=⟨e.blk h.cel,fun j hj=>e.cell (h.at_ j hj),h.ne,h.len,h.isB,h.cap,h.max⟩
theorem Rdr.bt {g p n c k q:Nat} {L:List Int} {w v:World} (h:Rdr g p n c k L w) (e:Bt q w v) (hq:g≠q) (hp:p≠q):Rdr g p n c k L v:=⟨e.blk h.cel hq,h.at_.bt e hp,h.ne,h.len,h.isB,h.cap,h.max⟩
theorem Rdr.to {g p n c k m:Nat} {L:List Int} {w v:World} (h:Rdr g p n c k L w) (e:Bt g w v) (hc:v.heap[g]?=some (.cells (rdr m p n c) 177 (0,0))):Rdr g p n c m L v:=⟨hc,h.at_.bt e h.ne,h.ne,h.len,h.isB,h.cap,h.max⟩
theorem rerr_ok (g p n c k:Nat) (w:World) (hc:w.heap[g]?=some (.cells (rdr k p n c) 177 (0,0))):Calls Tryz.prog 141 #[P0 g] w (Vl (.int .i64 0) w):=by
 obtain⟨T,hT⟩:∃ T,T=Vl (.int .i64 0) w:=⟨_,rfl⟩;rw[← hT];replace hT:=ao hT;replace hc:=ao hc;go_enter Tryz.func141,Tryz.ntmps141;go_upto_region 3 with fail;have hcl:=hc;refine ag ?_;refine ak (.pointer (some ⟨g,0,none⟩)) aa aa ?_;simp only[aq];refine ak (.pointer (some ⟨g,0,none⟩)) aa aa ?_;simp only[aq];refine ak (.pointer (some ⟨g,0,none⟩)) aa aa ?_;simp only[aq];refine ak (.pointer (some ⟨g,1,none⟩)) aa aa ?_;simp only[aq];refine ak (.int .i64 0) aa (exec_err _ (.tmp 8) rfl g 1 aa 0 (aw (aj hc) (i:=1) rfl)) ?_;simp only[aq]
 (refine af fun K hK=>?_;go_simp;refine aj hK _ _ ?_;clear hK K)
 refine ai ?_;have hZ:Hid (Vl (.int .i64 0) w (.returned (.int .i64 0)) w):=⟨rfl,Gr.refl w⟩;go_wp2_with fail;rw[aj hT];exact aj hZ
theorem rleft_ok (g p n c k:Nat) (hkn:k≤n) (hn:n≤100000) (w:World) (hc:w.heap[g]?=some (.cells (rdr k p n c) 177 (0,0))):Calls Tryz.prog 74 #[P0 g] w (Vl (.int .i64 ((n - k:Nat):Int)) w):=by
 obtain⟨T,hT⟩:∃ T,T=Vl (.int .i64 ((n - k:Nat):Int)) w:=⟨_,rfl⟩;rw[← hT];replace hT:=ao hT;obtain⟨j,hj⟩:∃ j,j=n - k:=⟨_,rfl⟩;rw[← hj] at hT;have hw:IntKind.i64.wrap ((n:Int) - (k:Int))=(j:Int):=by rw[IntKind.wrap_i64]; omega
 clear hj;replace hc:=ao hc;go_enter Tryz.func74,Tryz.ntmps74;go_upto_region 3 with fail;refine aE (S:=fun (v:World)=>v.heap[g]?=some (.cells (rdr k p n c) 177 (0,0))) aa ?_;have hG:=(Gr.refl w).drew;have hS:(fun (v:World)=>v.heap[g]?=some (.cells (rdr k p n c) 177 (0,0))) w.drew:=hG.blk (aj hc);generalize World.drew _=x0 at *;simp only[ae,Array.replicate,List.replicate];refine ar (i:=0) (v:=(.pointer (some ⟨g,0,none⟩))) #[false,false,false,false,false,false,false,false,false,false,false,false] rfl aa aa aa aa (fun _ _ _ h=>h) (.inl ⟨by kernel_rfl,fun x_ hu=>by kernel_rfl⟩) hS ?_;simp only[aq];refine ar (i:=1) (v:=(.pointer (some ⟨g,0,none⟩))) #[true,false,false,false,false,false,false,false,false,false,false,false] rfl aa aa aa aa (fun _ _ _ h=>h) (.inl ⟨by kernel_rfl,fun x_ hu=>by kernel_rfl⟩) hS ?_;simp only[aq]
 refine ar (i:=2) (v:=(.pointer (some ⟨g,2,none⟩))) #[true,true,false,false,false,false,false,false,false,false,false,false] rfl aa aa aa aa (fun _ _ _ h=>h) (.inl ⟨by kernel_rfl,fun x_ hu=>by kernel_rfl⟩) hS ?_;simp only[aq];refine ar (i:=3) (v:=(.slice (some ⟨p,0,none⟩) n c)) #[true,true,true,false,false,false,false,false,false,false,false,false] rfl aa aa aa aa (fun _ _ _ h=>h) (.inl ⟨by kernel_rfl,fun x_ hu=>exec_sby _ (.tmp 7) rfl g 2 aa (some ⟨p,0,none⟩) n c (aw hu (i:=2) rfl)⟩) hS ?_;simp only[aq];refine ar (i:=4) (v:=(.int .i64 (n:Int))) #[true,true,true,true,false,false,false,false,false,false,false,false] rfl aa aa aa aa (fun _ _ _ h=>h) (.inl ⟨by kernel_rfl,fun x_ hu=>by kernel_rfl⟩) hS ?_;simp only[aq]
 refine ar (i:=5) (v:=(.pointer (some ⟨g,0,none⟩))) #[true,true,true,true,true,false,false,false,false,false,false,false] rfl aa aa aa aa (fun _ _ _ h=>h) (.inl ⟨by kernel_rfl,fun x_ hu=>by kernel_rfl⟩) hS ?_;simp only[aq];refine ar (i:=6) (v:=(.pointer (some ⟨g,0,none⟩))) #[true,true,true,true,true,true,false,false,false,false,false,false] rfl aa aa aa aa (fun _ _ _ h=>h) (.inl ⟨by kernel_rfl,fun x_ hu=>by kernel_rfl⟩) hS ?_;simp only[aq];refine ar (i:=7) (v:=(.pointer (some ⟨g,0,none⟩))) #[true,true,true,true,true,true,true,false,false,false,false,false] rfl aa aa aa aa (fun _ _ _ h=>h) (.inl ⟨by kernel_rfl,fun x_ hu=>by kernel_rfl⟩) hS ?_;simp only[aq];refine ar (i:=8) (v:=(.pointer (some ⟨g,0,none⟩))) #[true,true,true,true,true,true,true,true,false,false,false,false] rfl aa aa aa aa (fun _ _ _ h=>h) (.inl ⟨by kernel_rfl,fun x_ hu=>by kernel_rfl⟩) hS ?_;simp only[aq]
 refine ar (i:=9) (v:=(.int .i64 (k:Int))) #[true,true,true,true,true,true,true,true,true,false,false,false] rfl aa aa aa aa (fun _ _ _ h=>h) (.inl ⟨by kernel_rfl,fun x_ hu=>bY _ (.tmp 13) rfl g 0 aa (k:Int) (aw hu (i:=0) rfl)⟩) hS ?_;simp only[aq];refine ar (i:=10) (v:=(.int .i64 (j:Int))) #[true,true,true,true,true,true,true,true,true,true,false,false] rfl aa aa aa aa (fun _ _ _ h=>h) (.inl ⟨by kernel_rfl,fun x_ hu=>by go_simp⟩) hS ?_;simp only[aq];refine ay (i:=11) aa rfl (fun K_ hQ=>?_);replace hQ:=ao hQ;go_simp;refine(aj hQ).out _ _ hS (fun _=>?_);clear hQ K_;refine aF aa ?_;have hZ:Hid (Vl (.int .i64 (j:Int)) w (.returned (.int .i64 (j:Int))) x0):=⟨rfl,hG⟩;replace hG:=ao hG;go_wp2_with fail;rw[aj hT];exact aj hZ
def Tkn (g p n c k m:Nat) (L:List Int) (w:World) (r:Ending) (w':World):Prop:=r=.returned (.slice (some ⟨p,k,none⟩) m (c - k))∧Rdr g p n c (k+m) L w'∧Bt g w w'
theorem rtake_ok (g p n c k m:Nat) (L:List Int) (w:World) (hR:Rdr g p n c k L w) (hkn:k+m≤n) (hm:0<m) (hn:n≤100000):Calls Tryz.prog 111 #[P0 g,.int .i64 (m:Int)] w (Tkn g p n c k m L w):=by
 obtain⟨T,hT⟩:∃ T,T=Tkn g p n c k m L w:=⟨_,rfl⟩;rw[← hT];replace hT:=ao hT;have hcn:=hR.cap;obtain⟨km,hkm⟩:∃ x,x=k+m:=⟨_,rfl⟩;have hw1:IntKind.i64.wrap ((k:Int)+(m:Int))=(km:Int):=by rw[IntKind.wrap_i64]; omega
 obtain⟨j,hj⟩:∃ j,j=n - k:=⟨_,rfl⟩;have hmj:¬ (j:Int)<(m:Int):=by omega
 have hB:=(Bc.nil [g] w).add ⟨g,rdr k p n c,177⟩ hR.cel (.inl (by simp)) (fun y hy=>by cases hy);replace hB:Bc [g] w [⟨g,rdr k p n c,177⟩] w:=hB;replace hR:=ao hR; replace hB:=ao hB; replace hkm:=ao hkm; replace hj:=ao hj;go_enter Tryz.func111,Tryz.ntmps111;go_upto_region 1 with fail;replace hB:=aj hB;refine ag ?_;refine ak (.pointer (some ⟨g,0,none⟩)) aa aa ?_;simp only[aq];refine av 141 #[.pointer (some ⟨g,0,none⟩)] aa aa ((rerr_ok g p n c k _ (hB.get 0 (x:=⟨g,rdr k p n c,177⟩) rfl)).mono ?_);rintro r u1 ⟨rfl,hg⟩;refine⟨_,rfl,?_⟩;replace hB:=hB.more hg;clear hg;simp only[aq];refine ak (.bool false) aa (by go_simp) ?_;simp only[aq];refine ai ?_;replace hB:=ao hB;go_upto_region 6 with fail;replace hB:=aj hB;refine ag ?_;refine ak (.int .i64 (m:Int)) aa aa ?_;simp only[aq];refine ak (.pointer (some ⟨g,0,none⟩)) aa aa ?_;simp only[aq]
 refine av 74 #[.pointer (some ⟨g,0,none⟩)] aa aa ((rleft_ok g p n c k (by omega) hn _ (hB.get 0 (x:=⟨g,rdr k p n c,177⟩) rfl)).mono ?_);rintro r u2 ⟨rfl,hg⟩;refine⟨_,rfl,?_⟩;rw[← aj hj];replace hB:=hB.more hg;clear hg;simp only[aq];refine ak (.bool false) aa (by go_simp) ?_;simp only[aq];refine ai ?_;replace hB:=ao hB;go_upto_region 9 with fail;replace hB:=aj hB;refine ag ?_;refine ak (.pointer (some ⟨g,0,none⟩)) aa aa ?_;simp only[aq];refine ak (.pointer (some ⟨g,0,none⟩)) aa aa ?_;simp only[aq];refine ak (.pointer (some ⟨g,0,none⟩)) aa aa ?_;simp only[aq];refine ak (.pointer (some ⟨g,0,none⟩)) aa aa ?_;simp only[aq];refine ak (.int .i64 (k:Int)) aa (bY _ (.tmp 26) rfl g 0 aa (k:Int) (aw (hB.get 0 (x:=⟨g,rdr k p n c,177⟩) rfl) (i:=0) rfl)) ?_;simp only[aq]
 (refine af fun K hK=>?_;go_simp;refine aj hK _ _ ?_;clear hK K)
 refine ai ?_;replace hB:=ao hB;go_upto_region 10 with fail;replace hB:=aj hB;refine ag ?_;refine ak (.pointer (some ⟨g,0,none⟩)) aa aa ?_;simp only[aq];refine ak (.pointer (some ⟨g,0,none⟩)) aa aa ?_;simp only[aq];refine ak (.pointer (some ⟨g,0,none⟩)) aa aa ?_;simp only[aq];refine ak (.pointer (some ⟨g,0,none⟩)) aa aa ?_;simp only[aq];refine ak (.int .i64 (k:Int)) aa (bY _ (.tmp 31) rfl g 0 aa (k:Int) (aw (hB.get 0 (x:=⟨g,rdr k p n c,177⟩) rfl) (i:=0) rfl)) ?_;simp only[aq];refine ak (.int .i64 (m:Int)) aa aa ?_;simp only[aq];refine ak (.int .i64 (km:Int)) aa (by go_simp) ?_;simp only[aq];refine ak (.pointer (some ⟨g,0,none⟩)) aa aa ?_;simp only[aq];refine ak (.pointer (some ⟨g,0,none⟩)) aa aa ?_;simp only[aq];refine ak (.pointer (some ⟨g,0,none⟩)) aa aa ?_;simp only[aq];have c4:=aw (hB.get 0 (x:=⟨g,rdr k p n c,177⟩) rfl) (i:=0) rfl
 have fz:=aO (i:=0) (hB.get 0 (x:=⟨g,rdr k p n c,177⟩) rfl);have hB2:=hB.cell 0 (x:=⟨g,rdr k p n c,177⟩) rfl 0 (.int .i64 (km:Int));simp only[ab] at hB2;replace hB2:Bc [g] w [⟨g,rdr km p n c,177⟩] _:=hB2;clear hB;replace hB2:=ao hB2;dsimp only at c4 fz
 (refine af fun K hK=>?_;go_simp;refine aj hK _ _ ?_;clear hK K)
 clear c4 fz;have hB:=aj hB2;clear hB2;generalize World.setCell _ _ _=u3 at *;refine ai ?_;clear hw1;replace hB:=ao hB;go_upto_region 11 with fail;replace hB:=aj hB;refine aE (S:=fun (v:World)=>v.heap[g]?=some (.cells (rdr km p n c) 177 (0,0))) aa ?_;replace hB:=hB.drew;generalize World.drew _=x0 at *;have hS:(fun (v:World)=>v.heap[g]?=some (.cells (rdr km p n c) 177 (0,0))) x0:=(hB.get 0 (x:=⟨g,rdr km p n c,177⟩) rfl);replace hB:=ao hB;simp only[ae,Array.replicate,List.replicate];refine ar (i:=0) (v:=(.pointer (some ⟨g,0,none⟩))) #[false,false,false,false,false,false,false,false,false,false,false,false] rfl aa aa aa aa (fun _ _ _ h=>h) (.inl ⟨by kernel_rfl,fun x_ hu=>by kernel_rfl⟩) hS ?_;simp only[aq]
 refine ar (i:=1) (v:=(.pointer (some ⟨g,0,none⟩))) #[true,false,false,false,false,false,false,false,false,false,false,false] rfl aa aa aa aa (fun _ _ _ h=>h) (.inl ⟨by kernel_rfl,fun x_ hu=>by kernel_rfl⟩) hS ?_;simp only[aq];refine ar (i:=2) (v:=(.pointer (some ⟨g,2,none⟩))) #[true,true,false,false,false,false,false,false,false,false,false,false] rfl aa aa aa aa (fun _ _ _ h=>h) (.inl ⟨by kernel_rfl,fun x_ hu=>by kernel_rfl⟩) hS ?_;simp only[aq];refine ar (i:=3) (v:=(.slice (some ⟨p,0,none⟩) n c)) #[true,true,true,false,false,false,false,false,false,false,false,false] rfl aa aa aa aa (fun _ _ _ h=>h) (.inl ⟨by kernel_rfl,fun x_ hu=>exec_sby _ (.tmp 40) rfl g 2 aa (some ⟨p,0,none⟩) n c (aw hu (i:=2) rfl)⟩) hS ?_;simp only[aq]
 refine ar (i:=4) (v:=(.int .i64 (k:Int))) #[true,true,true,true,false,false,false,false,false,false,false,false] rfl aa aa aa aa (fun _ _ _ h=>h) (.inl ⟨by kernel_rfl,fun x_ hu=>by kernel_rfl⟩) hS ?_;simp only[aq];refine ar (i:=5) (v:=(.pointer (some ⟨g,0,none⟩))) #[true,true,true,true,true,false,false,false,false,false,false,false] rfl aa aa aa aa (fun _ _ _ h=>h) (.inl ⟨by kernel_rfl,fun x_ hu=>by kernel_rfl⟩) hS ?_;simp only[aq];refine ar (i:=6) (v:=(.pointer (some ⟨g,0,none⟩))) #[true,true,true,true,true,true,false,false,false,false,false,false] rfl aa aa aa aa (fun _ _ _ h=>h) (.inl ⟨by kernel_rfl,fun x_ hu=>by kernel_rfl⟩) hS ?_;simp only[aq];refine ar (i:=7) (v:=(.pointer (some ⟨g,0,none⟩))) #[true,true,true,true,true,true,true,false,false,false,false,false] rfl aa aa aa aa (fun _ _ _ h=>h) (.inl ⟨by kernel_rfl,fun x_ hu=>by kernel_rfl⟩) hS ?_;simp only[aq]
 refine ar (i:=8) (v:=(.pointer (some ⟨g,0,none⟩))) #[true,true,true,true,true,true,true,true,false,false,false,false] rfl aa aa aa aa (fun _ _ _ h=>h) (.inl ⟨by kernel_rfl,fun x_ hu=>by kernel_rfl⟩) hS ?_;simp only[aq];refine ar (i:=9) (v:=(.int .i64 (km:Int))) #[true,true,true,true,true,true,true,true,true,false,false,false] rfl aa aa aa aa (fun _ _ _ h=>h) (.inl ⟨by kernel_rfl,fun x_ hu=>bY _ (.tmp 46) rfl g 0 aa (km:Int) (aw hu (i:=0) rfl)⟩) hS ?_;simp only[aq];refine ar (i:=10) (v:=(.slice (some ⟨p,k,none⟩) m (c - k))) #[true,true,true,true,true,true,true,true,true,true,false,false] rfl aa aa aa aa (fun _ _ _ h=>h) (.inl ⟨by kernel_rfl,fun x_ hu=>exec_win _ (.tmp 41) (.tmp 42) (.tmp 47) rfl p n c k km m aa aa aa (aj hkm) hm (by have:=aj hkm; omega)⟩) hS ?_;simp only[aq];refine ay (i:=11) aa rfl (fun K_ hQ=>?_);replace hQ:=ao hQ;go_simp;refine(aj hQ).out _ _ hS (fun _=>?_)
 clear hQ K_;refine aF aa ?_;have hZ:Hid (Tkn g p n c k m L w (.returned (.slice (some ⟨p,k,none⟩) m (c - k))) x0):=by
  have hb:=(aj hB).chg.bt1;refine⟨rfl,(aj hR).to hb ?_,hb⟩;rw[← aj hkm];exact hS
 generalize c - k=cc at *;clear hS;go_wp2_with fail;rw[aj hT];exact aj hZ
theorem ru32_ok (g p n c k:Nat) (L:List Int) (w:World) (hR:Rdr g p n c k L w) (hkn:k+4≤n) (hn:n≤100000):Calls Tryz.prog 69 #[P0 g] w (fun r w'=>r=.returned (.int .u32 (lowN ((L.drop k).take 4)))∧Rdr g p n c (k+4) L w'∧Bt g w w'):=by
 obtain⟨T,hT⟩:∃ T:Ending→World→Prop,T=fun r w'=>r=.returned (.int .u32 (lowN ((L.drop k).take 4)))∧Rdr g p n c (k+4) L w'∧Bt g w w':=⟨_,rfl⟩;rw[← hT];replace hT:=ao hT;have hl:((L.drop k).take 4).length=4:=by rw[List.length_take,List.length_drop,hR.len]; omega
 have hb:IsB ((L.drop k).take 4):=fun x hx=>hR.isB x (List.mem_of_mem_drop (List.mem_of_mem_take hx));have hbd:=lowN_bd _ hb;rw[hl] at hbd;replace hR:=ao hR; replace hb:=ao hb;go_enter Tryz.func69,Tryz.ntmps69;go_upto_region 1 with fail;refine ag ?_;refine ak (.pointer (some ⟨g,0,none⟩)) aa aa ?_;simp only[aq];refine av 111 #[P0 g,.int .i64 (4:Nat)] aa aa ((rtake_ok g p n c k 4 L w (aj hR) hkn (by omega) hn).mono ?_);rintro r u1 ⟨rfl,hR1,hb1⟩;refine⟨_,rfl,?_⟩;have hat:At u1 p k ((L.drop k).take 4):=by
  have h:=(hR1.at_.drop k).take 4;rw[Nat.zero_add] at h;exact h
 replace hat:=ao hat; replace hR1:=ao hR1; replace hb1:=ao hb1;simp only[aq];refine av 112 #[.slice (some ⟨p,k,none⟩) 4 (c - k)] aa aa ((onum_ok p k 4 (c - k) _ u1 hl (by omega) (aj hb) (aj hat)).mono ?_);rintro r u2 ⟨rfl,rfl⟩;refine⟨_,rfl,?_⟩;generalize lowN ((L.drop k).take 4)=y at *;rw[show (256:Int) ^ 4=4294967296 from by decide] at hbd;have e9:IntKind.u32.wrap y=y:=by rw[IntKind.wrap_u32]; omega
 simp only[aq];refine ak (.int .u32 y) aa (by go_simp) ?_;simp only[aq]
 (refine af fun K hK=>?_;go_simp;refine aj hK _ _ ?_;clear hK K)
 refine ai ?_;have hZ:Hid (T (.returned (.int .u32 y)) u2):=by
  rw[aj hT];exact⟨rfl,aj hR1,aj hb1⟩
 clear hbd;go_wp2_with fail;exact aj hZ
theorem rraw_ok (g p n c k m:Nat) (L:List Int) (w:World) (hR:Rdr g p n c k L w) (hkn:k+m≤n) (hm:0<m) (hn:n≤100000):Calls Tryz.prog 71 #[P0 g,.int .i64 (m:Int)] w (fun r w'=>∃ v,r=.returned v∧Ob w.heap.size w' v ((L.drop k).take m)∧Rdr g p n c (k+m) L w'∧Bt g w w'):=by
 obtain⟨T,hT⟩:∃ T:Ending→World→Prop,T=fun r w'=>∃ v,r=.returned v∧Ob w.heap.size w' v ((L.drop k).take m)∧Rdr g p n c (k+m) L w'∧Bt g w w':=⟨_,rfl⟩;rw[← hT];replace hT:=ao hT;have hl:((L.drop k).take m).length=m:=by rw[List.length_take,List.length_drop,hR.len]; omega
 have hb:IsB ((L.drop k).take m):=fun x hx=>hR.isB x (List.mem_of_mem_drop (List.mem_of_mem_take hx));replace hR:=ao hR; replace hb:=ao hb;go_enter Tryz.func71,Tryz.ntmps71;go_upto_region 1 with fail;refine ag ?_;refine ak (.pointer (some ⟨g,0,none⟩)) aa aa ?_;simp only[aq];refine ak (.int .i64 (m:Int)) aa aa ?_;simp only[aq];refine av 111 #[P0 g,.int .i64 (m:Int)] aa aa ((rtake_ok g p n c k m L w (aj hR) hkn hm hn).mono ?_);rintro r u1 ⟨rfl,hR1,hb1⟩;refine⟨_,rfl,?_⟩;have hlb:Lb u1 (some ⟨p,k,none⟩) m (c - k) ((L.drop k).take m):=by
  have h:=(hR1.at_.drop k).take m;rw[Nat.zero_add] at h;exact⟨hl,aj hb,.inr ⟨p,k,rfl,h⟩,by have:=hR1.cap; omega,by have:=hR1.max; omega⟩
 replace hlb:=ao hlb; replace hR1:=ao hR1; replace hb1:=ao hb1;simp only[aq];refine av 110 #[.slice (some ⟨p,k,none⟩) m (c - k)] aa aa ((clone_ok _ p k m (c - k) u1 (aj hlb) (by omega)).mono ?_);rintro r u2 ⟨v,rfl,hO,hG⟩;refine⟨_,rfl,?_⟩;have hZ:Hid (T (.returned v) u2):=by
  rw[aj hT];exact⟨v,rfl,ob_base hO (aj hb1).size,(aj hR1).gr hG,(aj hb1).trans (hG.bt g)⟩
 clear hO hG;simp only[aq]
 (refine af fun K hK=>?_;go_simp;refine aj hK _ _ ?_;clear hK K)
 refine ai ?_;go_wp2_with fail;exact aj hZ
theorem exec_win0 {a:Act} {o:Oper} (w:World) (x y z:Operand) (ho:o.op=.slice 55 x (some y) (some z) none) (p len cap l h m q:Nat) (hx:a.eval x=.slice (some ⟨p,0,none⟩) len cap) (hy:a.eval y=.int .i64 l) (hz:a.eval z=.int .i64 h) (h1:h=l+m) (hq:q=if cap=l then 0 else l) (h2:h≤cap) :
  (execOp a.eval o).run Tryz.prog w=.ok (.value (.slice (some ⟨p,q,none⟩) m (cap - l))) w:=by
 have e0:h - l=m:=by omega
 have e1:(0:Int)≤l:=by omega
 have e2:(l:Int)≤h:=by omega
 have e3:(h:Int)≤cap:=by omega
 have hu:Tryz.prog.underlying 55=some (.slice (Tryz.prog.elem 55)):=by kernel_rfl
 have hs:(sizeOf (Tryz.prog.elem 55)).run Tryz.prog w=.ok 1 w:=by kernel_rfl
 subst hq;by_cases hne:cap=l
 ·subst hne;simp[execOp,ho,hx,hy,hz,run_sliceAt_slice _ _ _ _ _ _ hu,run_slice_lh _ _ _ _ _ hu _ _ _ _ e1 e2 e3,hs,sliced,Addr.add_mid,e0]
 ·simp[execOp,ho,hx,hy,hz,run_sliceAt_slice _ _ _ _ _ _ hu,run_slice_lh _ _ _ _ _ hu _ _ _ _ e1 e2 e3,hs,sliced,hne,Addr.add_mid,e0]
def Tk0 (g p n c k m:Nat) (L:List Int) (w:World) (r:Ending) (w':World):Prop:=∃ q,r=.returned (.slice (some ⟨p,q,none⟩) m (c - k))∧Rdr g p n c (k+m) L w'∧Bt g w w'
theorem rtake0_ok (g p n c k m:Nat) (L:List Int) (w:World) (hR:Rdr g p n c k L w) (hkn:k+m≤n) (hn:n≤100000):Calls Tryz.prog 111 #[P0 g,.int .i64 (m:Int)] w (Tk0 g p n c k m L w):=by
 obtain⟨T,hT⟩:∃ T,T=Tk0 g p n c k m L w:=⟨_,rfl⟩;rw[← hT];replace hT:=ao hT;obtain⟨q9,hq9⟩:∃ q9,q9=if c=k then 0 else k:=⟨_,rfl⟩
 replace hq9:=ao hq9;have hcn:=hR.cap;obtain⟨km,hkm⟩:∃ x,x=k+m:=⟨_,rfl⟩;have hw1:IntKind.i64.wrap ((k:Int)+(m:Int))=(km:Int):=by rw[IntKind.wrap_i64]; omega
 obtain⟨j,hj⟩:∃ j,j=n - k:=⟨_,rfl⟩;have hmj:¬ (j:Int)<(m:Int):=by omega
 have hB:=(Bc.nil [g] w).add ⟨g,rdr k p n c,177⟩ hR.cel (.inl (by simp)) (fun y hy=>by cases hy);replace hB:Bc [g] w [⟨g,rdr k p n c,177⟩] w:=hB;replace hR:=ao hR; replace hB:=ao hB; replace hkm:=ao hkm; replace hj:=ao hj;go_enter Tryz.func111,Tryz.ntmps111;go_upto_region 1 with fail;replace hB:=aj hB;refine ag ?_;refine ak (.pointer (some ⟨g,0,none⟩)) aa aa ?_;simp only[aq];refine av 141 #[.pointer (some ⟨g,0,none⟩)] aa aa ((rerr_ok g p n c k _ (hB.get 0 (x:=⟨g,rdr k p n c,177⟩) rfl)).mono ?_);rintro r u1 ⟨rfl,hg⟩;refine⟨_,rfl,?_⟩;replace hB:=hB.more hg;clear hg;simp only[aq];refine ak (.bool false) aa (by go_simp) ?_;simp only[aq];refine ai ?_;replace hB:=ao hB;go_upto_region 6 with fail;replace hB:=aj hB;refine ag ?_;refine ak (.int .i64 (m:Int)) aa aa ?_;simp only[aq];refine ak (.pointer (some ⟨g,0,none⟩)) aa aa ?_;simp only[aq]
 refine av 74 #[.pointer (some ⟨g,0,none⟩)] aa aa ((rleft_ok g p n c k (by omega) hn _ (hB.get 0 (x:=⟨g,rdr k p n c,177⟩) rfl)).mono ?_);rintro r u2 ⟨rfl,hg⟩;refine⟨_,rfl,?_⟩;rw[← aj hj];replace hB:=hB.more hg;clear hg;simp only[aq];refine ak (.bool false) aa (by go_simp) ?_;simp only[aq];refine ai ?_;replace hB:=ao hB;go_upto_region 9 with fail;replace hB:=aj hB;refine ag ?_;refine ak (.pointer (some ⟨g,0,none⟩)) aa aa ?_;simp only[aq];refine ak (.pointer (some ⟨g,0,none⟩)) aa aa ?_;simp only[aq];refine ak (.pointer (some ⟨g,0,none⟩)) aa aa ?_;simp only[aq];refine ak (.pointer (some ⟨g,0,none⟩)) aa aa ?_;simp only[aq];refine ak (.int .i64 (k:Int)) aa (bY _ (.tmp 26) rfl g 0 aa (k:Int) (aw (hB.get 0 (x:=⟨g,rdr k p n c,177⟩) rfl) (i:=0) rfl)) ?_;simp only[aq]
 (refine af fun K hK=>?_;go_simp;refine aj hK _ _ ?_;clear hK K)
 refine ai ?_;replace hB:=ao hB;go_upto_region 10 with fail;replace hB:=aj hB;refine ag ?_;refine ak (.pointer (some ⟨g,0,none⟩)) aa aa ?_;simp only[aq];refine ak (.pointer (some ⟨g,0,none⟩)) aa aa ?_;simp only[aq];refine ak (.pointer (some ⟨g,0,none⟩)) aa aa ?_;simp only[aq];refine ak (.pointer (some ⟨g,0,none⟩)) aa aa ?_;simp only[aq];refine ak (.int .i64 (k:Int)) aa (bY _ (.tmp 31) rfl g 0 aa (k:Int) (aw (hB.get 0 (x:=⟨g,rdr k p n c,177⟩) rfl) (i:=0) rfl)) ?_;simp only[aq];refine ak (.int .i64 (m:Int)) aa aa ?_;simp only[aq];refine ak (.int .i64 (km:Int)) aa (by go_simp) ?_;simp only[aq];refine ak (.pointer (some ⟨g,0,none⟩)) aa aa ?_;simp only[aq];refine ak (.pointer (some ⟨g,0,none⟩)) aa aa ?_;simp only[aq];refine ak (.pointer (some ⟨g,0,none⟩)) aa aa ?_;simp only[aq];have c4:=aw (hB.get 0 (x:=⟨g,rdr k p n c,177⟩) rfl) (i:=0) rfl
 have fz:=aO (i:=0) (hB.get 0 (x:=⟨g,rdr k p n c,177⟩) rfl);have hB2:=hB.cell 0 (x:=⟨g,rdr k p n c,177⟩) rfl 0 (.int .i64 (km:Int));simp only[ab] at hB2;replace hB2:Bc [g] w [⟨g,rdr km p n c,177⟩] _:=hB2;clear hB;replace hB2:=ao hB2;dsimp only at c4 fz
 (refine af fun K hK=>?_;go_simp;refine aj hK _ _ ?_;clear hK K)
 clear c4 fz;have hB:=aj hB2;clear hB2;generalize World.setCell _ _ _=u3 at *;refine ai ?_;clear hw1;replace hB:=ao hB;go_upto_region 11 with fail;replace hB:=aj hB;refine aE (S:=fun (v:World)=>v.heap[g]?=some (.cells (rdr km p n c) 177 (0,0))) aa ?_;replace hB:=hB.drew;generalize World.drew _=x0 at *;have hS:(fun (v:World)=>v.heap[g]?=some (.cells (rdr km p n c) 177 (0,0))) x0:=(hB.get 0 (x:=⟨g,rdr km p n c,177⟩) rfl);replace hB:=ao hB;simp only[ae,Array.replicate,List.replicate];refine ar (i:=0) (v:=(.pointer (some ⟨g,0,none⟩))) #[false,false,false,false,false,false,false,false,false,false,false,false] rfl aa aa aa aa (fun _ _ _ h=>h) (.inl ⟨by kernel_rfl,fun x_ hu=>by kernel_rfl⟩) hS ?_;simp only[aq]
 refine ar (i:=1) (v:=(.pointer (some ⟨g,0,none⟩))) #[true,false,false,false,false,false,false,false,false,false,false,false] rfl aa aa aa aa (fun _ _ _ h=>h) (.inl ⟨by kernel_rfl,fun x_ hu=>by kernel_rfl⟩) hS ?_;simp only[aq];refine ar (i:=2) (v:=(.pointer (some ⟨g,2,none⟩))) #[true,true,false,false,false,false,false,false,false,false,false,false] rfl aa aa aa aa (fun _ _ _ h=>h) (.inl ⟨by kernel_rfl,fun x_ hu=>by kernel_rfl⟩) hS ?_;simp only[aq];refine ar (i:=3) (v:=(.slice (some ⟨p,0,none⟩) n c)) #[true,true,true,false,false,false,false,false,false,false,false,false] rfl aa aa aa aa (fun _ _ _ h=>h) (.inl ⟨by kernel_rfl,fun x_ hu=>exec_sby _ (.tmp 40) rfl g 2 aa (some ⟨p,0,none⟩) n c (aw hu (i:=2) rfl)⟩) hS ?_;simp only[aq]
 refine ar (i:=4) (v:=(.int .i64 (k:Int))) #[true,true,true,true,false,false,false,false,false,false,false,false] rfl aa aa aa aa (fun _ _ _ h=>h) (.inl ⟨by kernel_rfl,fun x_ hu=>by kernel_rfl⟩) hS ?_;simp only[aq];refine ar (i:=5) (v:=(.pointer (some ⟨g,0,none⟩))) #[true,true,true,true,true,false,false,false,false,false,false,false] rfl aa aa aa aa (fun _ _ _ h=>h) (.inl ⟨by kernel_rfl,fun x_ hu=>by kernel_rfl⟩) hS ?_;simp only[aq];refine ar (i:=6) (v:=(.pointer (some ⟨g,0,none⟩))) #[true,true,true,true,true,true,false,false,false,false,false,false] rfl aa aa aa aa (fun _ _ _ h=>h) (.inl ⟨by kernel_rfl,fun x_ hu=>by kernel_rfl⟩) hS ?_;simp only[aq];refine ar (i:=7) (v:=(.pointer (some ⟨g,0,none⟩))) #[true,true,true,true,true,true,true,false,false,false,false,false] rfl aa aa aa aa (fun _ _ _ h=>h) (.inl ⟨by kernel_rfl,fun x_ hu=>by kernel_rfl⟩) hS ?_;simp only[aq]
 refine ar (i:=8) (v:=(.pointer (some ⟨g,0,none⟩))) #[true,true,true,true,true,true,true,true,false,false,false,false] rfl aa aa aa aa (fun _ _ _ h=>h) (.inl ⟨by kernel_rfl,fun x_ hu=>by kernel_rfl⟩) hS ?_;simp only[aq];refine ar (i:=9) (v:=(.int .i64 (km:Int))) #[true,true,true,true,true,true,true,true,true,false,false,false] rfl aa aa aa aa (fun _ _ _ h=>h) (.inl ⟨by kernel_rfl,fun x_ hu=>bY _ (.tmp 46) rfl g 0 aa (km:Int) (aw hu (i:=0) rfl)⟩) hS ?_;simp only[aq];refine ar (i:=10) (v:=(.slice (some ⟨p,q9,none⟩) m (c - k))) #[true,true,true,true,true,true,true,true,true,true,false,false] rfl aa aa aa aa (fun _ _ _ h=>h) (.inl ⟨by kernel_rfl,fun x_ hu=>exec_win0 _ (.tmp 41) (.tmp 42) (.tmp 47) rfl p n c k km m q9 aa aa aa (aj hkm) (aj hq9) (by have:=aj hkm; omega)⟩) hS ?_;simp only[aq];refine ay (i:=11) aa rfl (fun K_ hQ=>?_);replace hQ:=ao hQ;go_simp;refine(aj hQ).out _ _ hS (fun _=>?_)
 clear hQ K_;refine aF aa ?_;have hZ:Hid (Tk0 g p n c k m L w (.returned (.slice (some ⟨p,q9,none⟩) m (c - k))) x0):=by
  have hb:=(aj hB).chg.bt1;refine⟨_,rfl,(aj hR).to hb ?_,hb⟩;rw[← aj hkm];exact hS
 generalize c - k=cc at *;clear hS;go_wp2_with fail;rw[aj hT];exact aj hZ
theorem rraw0_ok (g p n c k:Nat) (L:List Int) (w:World) (hR:Rdr g p n c k L w) (hkn:k≤n) (hn:n≤100000):Calls Tryz.prog 71 #[P0 g,.int .i64 (0:Nat)] w (fun r w'=>∃ v,r=.returned v∧Ob w.heap.size w' v ((L.drop k).take 0)∧Rdr g p n c (k+0) L w'∧Bt g w w'):=by
 obtain⟨T,hT⟩:∃ T:Ending→World→Prop,T=fun r w'=>∃ v,r=.returned v∧Ob w.heap.size w' v ((L.drop k).take 0)∧Rdr g p n c (k+0) L w'∧Bt g w w':=⟨_,rfl⟩;rw[← hT];replace hT:=ao hT;have hl:((L.drop k).take 0).length=0:=by rw[List.length_take,List.length_drop,hR.len]; omega
 have hb:IsB ((L.drop k).take 0):=fun x hx=>hR.isB x (List.mem_of_mem_drop (List.mem_of_mem_take hx));replace hR:=ao hR; replace hb:=ao hb;go_enter Tryz.func71,Tryz.ntmps71;go_upto_region 1 with fail;refine ag ?_;refine ak (.pointer (some ⟨g,0,none⟩)) aa aa ?_;simp only[aq];refine ak (.int .i64 (0:Nat)) aa aa ?_;simp only[aq];refine av 111 #[P0 g,.int .i64 (0:Nat)] aa aa ((rtake0_ok g p n c k 0 L w (aj hR) hkn hn).mono ?_);rintro r u1 ⟨q9,rfl,hR1,hb1⟩;refine⟨_,rfl,?_⟩;have hlb:Lb u1 (some ⟨p,q9,none⟩) 0 (c - k) ((L.drop k).take 0):=by
  exact⟨hl,aj hb,.inl rfl,by have:=hR1.cap; omega,by have:=hR1.max; omega⟩
 replace hlb:=ao hlb; replace hR1:=ao hR1; replace hb1:=ao hb1;simp only[aq];refine av 110 #[.slice (some ⟨p,q9,none⟩) 0 (c - k)] aa aa ((clone_ok _ p q9 0 (c - k) u1 (aj hlb) (by omega)).mono ?_);rintro r u2 ⟨v,rfl,hO,hG⟩;refine⟨_,rfl,?_⟩;have hZ:Hid (T (.returned v) u2):=by
  rw[aj hT];exact⟨v,rfl,ob_base hO (aj hb1).size,(aj hR1).gr hG,(aj hb1).trans (hG.bt g)⟩
 clear hO hG;simp only[aq]
 (refine af fun K hK=>?_;go_simp;refine aj hK _ _ ?_;clear hK K)
 refine ai ?_;go_wp2_with fail;exact aj hZ
theorem rrawn_ok (g p n c k m:Nat) (L:List Int) (w:World) (hR:Rdr g p n c k L w) (hkn:k+m≤n) (hn:n≤100000):Calls Tryz.prog 71 #[P0 g,.int .i64 (m:Int)] w (fun r w'=>∃ v,r=.returned v∧Ob w.heap.size w' v ((L.drop k).take m)∧Rdr g p n c (k+m) L w'∧Bt g w w'):=by
 rcases Nat.eq_zero_or_pos m with rfl | h
 ·exact rraw0_ok g p n c k L w hR hkn hn
 ·exact rraw_ok g p n c k m L w hR hkn h hn
theorem exec_u32 {op:Oper} {a:Act} (w:World) (x:Operand) (ho:op.op=.load 29 x) (g i:Nat) (hx:a.eval x=.pointer (some ⟨g,i,none⟩)) (v:Int) (hc:w.cell? ⟨g,i,none⟩=some (.int .u32 v)):(execOp a.eval op).run Tryz.prog w=.ok (.value (.int .u32 v)) w:=by
 unfold execOp;simp only[ho,hx,Instr.loadAt,Instr.sureAddr,Sem.run_bind,Sem.run_pure,Result.andThen_ok];go_simp
def hdl (K:List Int) (p q:Int):List Value:=bv K++[.int .u32 p,.int .u32 q]
theorem bv_get (K:List Int) (i:Nat) (h:i<K.length):(bv K)[i]?=some (.int .u8 (K.getD i 0)):=by unfold bv; simp[h]
theorem mid_get {A D:List Value} {K:List Int} {o:Nat} (hA:A.length=o) (j:Nat) (hj:j<K.length):(A++(bv K++D))[o+j]?=some (.int .u8 (K.getD j 0)):=by
 subst hA;rw[List.getElem?_append_right (by omega),Nat.add_sub_cancel_left,List.getElem?_append_left (by rw[bv_len]; exact hj)];exact bv_get K j hj
theorem beh_get {A D:List Value} {x:Value} {o:Nat} (hA:A.length=o):(A++(x::D))[o]?=some x:=by
 subst hA;simp
theorem at_mid {w:World} {g o:Nat} {C A D:List Value} {K:List Int} {t:TypeId} (h:w.heap[g]?=some (.cells C.toArray t (0,0))) (hC:C=A++(bv K++D)) (hA:A.length=o):At w g o K:=fun j hj=>by
 refine aw h ?_;rw[List.getElem?_toArray,hC];exact mid_get hA j hj
theorem hd_prev {K:List Int} (h:K.length=32) (p q:Int):(hdl K p q).toArray[32]?=some (.int .u32 p):=by
 rw[List.getElem?_toArray]; exact beh_get (by rw[bv_len,h])
theorem hd_num {K:List Int} (h:K.length=32) (p q:Int):(hdl K p q).toArray[33]?=some (.int .u32 q):=by
 rw[List.getElem?_toArray];have e:hdl K p q=(bv K++[.int .u32 p])++[.int .u32 q]:=by unfold hdl; simp
 rw[e]; exact beh_get (by simp[bv_len,h])
theorem hdl_key (K:List Int) (p q:Int):hdl K p q=[]++(bv K++[.int .u32 p,.int .u32 q]):=rfl
theorem setRow_bt (w:World) (g:Nat) (c:Array Value):Bt g w (w.setRow g c):=⟨rfl,rfl,rfl,by rw[setRow_size]; exact Nat.le_refl _,fun i _ hn=>setRow_other w g i c hn⟩
def Ret (L:List Int) (w:World) (r:Ending) (w':World):Prop:=∃ g p c,r=.returned (.pointer (some ⟨g,0,none⟩))∧w.heap.size≤g∧w.heap.size≤p∧Rdr g p L.length c 0 L w'∧(∃ cur,w'.heap[p]?=some (.cells cur 5 (0,0)))∧Gr w w'
theorem oreadt_ok (B:List Int) (p q n c:Nat) (w:World) (hB0:Lb w (some ⟨p,q,none⟩) n c B) (hn:n≤100000) (h0:0<n):Calls Tryz.prog 67 #[.slice (some ⟨p,q,none⟩) n c] w (Ret B w):=by
 obtain⟨T,hT⟩:∃ T,T=Ret B w:=⟨_,rfl⟩;rw[← hT];replace hT:=ao hT;replace hB0:=ao hB0;go_enter Tryz.func67,Tryz.ntmps67;go_upto_region 1 with fail;refine ag ?_;refine ak (.slice (some ⟨p,q,none⟩) n c) aa aa ?_;simp only[aq];refine av 110 #[.slice (some ⟨p,q,none⟩) n c] aa aa ((clone_ok B p q n c w (aj hB0) hn).mono ?_);rintro r u ⟨v,rfl,hO,hG⟩;have hl:=(aj hB0).len;obtain⟨p2,c2,rfl,h1,h2,h3,h4,cur,h5⟩:=ob_at hO (by intro e; rw[e] at hl; simp at hl; omega);refine⟨_,rfl,?_⟩;clear hO;replace h2:=ao h2; replace h5:=ao h5; replace hG:=ao hG;rw[hl] at h3;rw[hl];simp only[aq];refine ak (.agg (rdr 0 p2 n c2)) aa aa ?_;simp only[aq];refine aH (.pointer (some ⟨u.heap.size,0,none⟩)) (u.alloc (.cells (rdr 0 p2 n c2) 177 (0,0))) aa aa ?_;have hZ:Hid (Ret B w (.returned (.pointer (some ⟨u.heap.size,0,none⟩))) (u.alloc (.cells (rdr 0 p2 n c2) 177 (0,0)))):=by
  have hg2:=(Gr.refl u).alloc (.cells (rdr 0 p2 n c2) 177 (0,0));have hp:=lt_of_block (aj h5);show Ret B w _ _;unfold Ret;rw[hl];exact⟨u.heap.size,p2,c2,rfl,(aj hG).size,h1,⟨aS _ _,fun j hj=>hg2.cell (aj h2 j hj),(fun e=>by omega),hl,(aj hB0).isB,h3,h4⟩,⟨cur,hg2.blk (aj h5)⟩,(aj hG).trans hg2⟩
 generalize World.alloc _ _=u2 at *;simp only[aq]
 (refine af fun K hK=>?_;go_simp;refine aj hK _ _ ?_;clear hK K)
 refine ai ?_;go_wp2_with fail;rw[aj hT];exact aj hZ
theorem put32g_ok (B:List Int) (s:Option Addr) (n cap:Nat) (x:Int) (hx:0≤x∧x<4294967296) (hn:n≤1000) (w:World) (lb:Lb w s n cap B):Calls Tryz.prog 64 #[.slice s n cap,.int .u32 x] w (Mkd (B++lowL x 4) w):=by
 obtain⟨T,hT⟩:∃ T,T=Mkd (B++lowL x 4) w:=⟨_,rfl⟩;rw[← hT];replace hT:=ao hT;have hwx:IntKind.u64.wrap x=x:=by rw[IntKind.wrap_u64]; omega
 obtain⟨hx0,hx1⟩:=hx;replace lb:=ao lb;go_enter Tryz.func64,Tryz.ntmps64;go_upto_region 1 with fail;refine ag ?_;refine ak (.slice s n cap) aa aa ?_;simp only[aq];refine ak (.int .u32 x) aa aa ?_;simp only[aq];refine ak (.int .u64 x) aa (by go_simp) ?_;simp only[aq];refine av 109 #[.slice s n cap,.int .u64 x,.int .i64 4] aa aa ((put4_ok B s n cap x hx0 hn w (aj lb)).mono ?_);rintro r u hF;obtain⟨L,hL⟩:∃ L,L=B++lowL x 4:=⟨_,rfl⟩;rw[← hL] at hF hT;obtain⟨g,rfl,hg1,hg2,hg3⟩:=hF;have hF:Hid (Mkd L w (.returned (.slice (some ⟨g,0,none⟩) L.length L.length)) u):=⟨g,rfl,hg1,hg2,hg3⟩;refine⟨_,rfl,?_⟩;clear hg1 hg2 hg3 hL;generalize L.length=m at *;simp only[aq]
 (refine af fun K hK=>?_;go_simp;refine aj hK _ _ ?_;clear hK K)
 refine ai ?_;go_wp2_with fail;rw[aj hT];exact aj hF
def allZ (l:List Int):Bool:=decide (l=List.replicate l.length 0)
theorem rep_take (l:List Int) (k:Nat) (h:k<l.length):l.take (k+1)=(List.replicate l.length (0:Int)).take (k+1) ↔ l.take k=(List.replicate l.length (0:Int)).take k∧l.getD k 0=0:=by
 rw[take_eq_step l _ k h (by simpa using h)];simp[h]
theorem u8_or_zero (u y:Int) (hu:0≤u∧u<256) (hy:0≤y∧y<256):(0≤bits .or .u8 u y∧bits .or .u8 u y<256)∧(bits .or .u8 u y=0 ↔ u=0∧y=0):=by
 have h:=or_xor u y 0 hu hy ⟨by omega,by omega⟩;have e:bits .xor .u8 y 0=y:=by
  obtain⟨n,rfl⟩:=Int.eq_ofNat_of_zero_le hy.1;have:=dz n 0 (by omega) (by omega);simpa using this
 rw[e] at h;exact h
theorem zero_ok (l:List Int) (a:Option Addr) (n c:Nat) (hn:n≤281474976710656) (w:World) (la:Lb w a n c l) :
  Calls Tryz.prog 73 #[.slice a n c] w (fun e w'=>e=.returned (.bool (allZ l))∧w'=w):=by
 have hl:=ao la.len;replace la:=ao la;go_enter Tryz.func73,Tryz.ntmps73;go_wp2_with fail
 go_loopw [3,8] (fun x i wr=>∃ (k:Nat) (u:Int),k≤n∧i=.int .i64 k∧x=.int .u8 u∧Hid (Unl l (List.replicate l.length 0) k u)∧wr=w) (fun _ i _=>n - (intOf i).toNat)
 case atStart=>exact⟨0,0,Nat.zero_le _,rfl,rfl,(⟨by omega,by simp⟩:Unl l (List.replicate l.length 0) 0 0),rfl⟩
 case round =>
 obtain⟨k,u,hk,rfl,rfl,hU,rfl⟩:=hrel;by_cases hlt:k<n
 ·obtain⟨p,o,rfl,c0⟩:=(aj la).cellAt hlt;obtain⟨x,hx⟩:∃ x,x=l.getD k 0:=⟨_,rfl⟩;rw[← hx] at c0;have HS:Hid (Unl l (List.replicate l.length 0) (k+1) (bits .or .u8 u x)):=by
   have h1:=aj hU;have h2:=u8_or_zero u x h1.1 (by rw[hx]; exact(aj la).isB.at_ k);refine⟨h2.1,?_⟩;rw[h2.2,rep_take l k (by rw[aj hl]; exact hlt),h1.2,hx]
  clear hx hU;have kI:(k:Int)<(n:Int):=by omega
  go_wp2_with fail;go_roundw
  case rel=>exact⟨k+1,_,by omega,by go_num,rfl,HS,trivial⟩
  case measure=>simp[intOf]; omega
 ·have kI:¬ (k:Int)<(n:Int):=by omega
  have hU2:=(aj hU).2;rw[List.take_of_length_le (by rw[aj hl]; omega),List.take_of_length_le (by rw[List.length_replicate,aj hl]; omega)] at hU2;have HU:=ao (show (u == 0)=allZ l by unfold allZ; rw[Bool.eq_iff_iff]; simpa using hU2);clear hU hU2;go_wp2_with fail;refine bodyPost_ret (v:=.bool (u == 0)) (by simp[results,Tryz.results73,go_sem]) rfl ⟨?_,rfl⟩;rw[aj HU]
theorem get1_ok (x:Int) (p o c:Nat) (w:World) (lb:Lb w (some ⟨p,o,none⟩) 1 c [x]):Calls Tryz.prog 70 #[.slice (some ⟨p,o,none⟩) 1 c] w (Vl (.int .u64 x) w):=by
 obtain⟨T,hT⟩:∃ T,T=Vl (.int .u64 x) w:=⟨_,rfl⟩;rw[← hT];replace hT:=ao hT;have hc1:=lb.cap;have hc0:¬ c=0:=by omega
 have hat:At w p o [x]:=by
  rcases lb.sl with h | ⟨p',o',h1,h2⟩
  ·cases h
  ·have h3:=Option.some.inj h1;injection h3 with h4 h5 _;subst h4 h5;exact h2
 have hxe:lowN [x]=x:=by simp[lowN]
 replace lb:=ao lb; replace hat:=ao hat;go_enter Tryz.func70,Tryz.ntmps70;go_upto_region 1 with fail;refine ag ?_;refine ak (.slice (some ⟨p,o,none⟩) 1 c) aa aa ?_;simp only[aq];refine ak (.slice (some ⟨p,o,none⟩) 1 c) aa aa ?_;simp only[aq];refine ak (.int .i64 1) aa aa ?_;simp only[aq];refine ak (.int .i64 (1:Nat)) aa aa ?_;simp only[aq];refine ak (.slice (if c=0 then (some ⟨p,o,none⟩:Option Addr) else (some ⟨p,o,none⟩:Option Addr).map (·.add 0)) 1 c) aa (exec_upto w (.tmp 3) (.tmp 6) rfl (some ⟨p,o,none⟩) 1 c 1 rfl rfl hc1 (by omega)) ?_;rw[if_neg hc0,Option.map_some,add_zero];simp only[aq];refine av 112 #[.slice (some ⟨p,o,none⟩) 1 c] aa aa ((onum_ok p o 1 c [x] w rfl (by omega) (aj lb).isB (aj hat)).mono ?_);rintro r u ⟨rfl,rfl⟩;rw[hxe];refine⟨_,rfl,?_⟩;simp only[aq]
 (refine af fun K hK=>?_;go_simp;refine aj hK _ _ ?_;clear hK K)
 refine ai ?_;have hZ:Hid (Vl (.int .u64 x) u (.returned (.int .u64 x)) u):=⟨rfl,Gr.refl u⟩;go_wp2_with fail;rw[aj hT];exact aj hZ
theorem Tryz.infoKy:(Tryz.prog.info? 23).map (·.size)=some 32:=by kernel_rfl
theorem rkey_ok (g p n c k:Nat) (L:List Int) (w:World) (hR:Rdr g p n c k L w) (hkn:k+32≤n) (hn:n≤100000):Calls Tryz.prog 68 #[P0 g] w (fun r w'=>r=.returned (.agg (kc ((L.drop k).take 32)))∧Rdr g p n c (k+32) L w'∧Bt g w w'):=by
 obtain⟨T,hT⟩:∃ T:Ending→World→Prop,T=fun r w'=>r=.returned (.agg (kc ((L.drop k).take 32)))∧Rdr g p n c (k+32) L w'∧Bt g w w':=⟨_,rfl⟩;rw[← hT];replace hT:=ao hT;have hl:((L.drop k).take 32).length=32:=by rw[List.length_take,List.length_drop,hR.len]; omega
 have hgl:=lt_of_block hR.cel;have hpl:p<w.heap.size:=dE (hR.at_ 0 (by rw[hR.len]; omega));obtain⟨K,hK0⟩:∃ K,K=(L.drop k).take 32:=⟨_,rfl⟩;rw[← hK0] at hl hT;replace hR:=ao hR; replace hK0:=ao hK0;go_enter Tryz.func68,Tryz.ntmps68;go_upto_region 2 with fail
 have hB:=(((Bl.nil w).new #[.int .u8 0,.int .u8 0,.int .u8 0,.int .u8 0,.int .u8 0,.int .u8 0,.int .u8 0,.int .u8 0,.int .u8 0,.int .u8 0,.int .u8 0,.int .u8 0,.int .u8 0,.int .u8 0,.int .u8 0,.int .u8 0,.int .u8 0,.int .u8 0,.int .u8 0,.int .u8 0,.int .u8 0,.int .u8 0,.int .u8 0,.int .u8 0,.int .u8 0,.int .u8 0,.int .u8 0,.int .u8 0,.int .u8 0,.int .u8 0,.int .u8 0,.int .u8 0] 23).new #[.int .u8 0,.int .u8 0,.int .u8 0,.int .u8 0,.int .u8 0,.int .u8 0,.int .u8 0,.int .u8 0,.int .u8 0,.int .u8 0,.int .u8 0,.int .u8 0,.int .u8 0,.int .u8 0,.int .u8 0,.int .u8 0,.int .u8 0,.int .u8 0,.int .u8 0,.int .u8 0,.int .u8 0,.int .u8 0,.int .u8 0,.int .u8 0,.int .u8 0,.int .u8 0,.int .u8 0,.int .u8 0,.int .u8 0,.int .u8 0,.int .u8 0,.int .u8 0] 23);simp only[aB,ac] at hB;generalize World.alloc _ _=u at *;replace hB:Bl w [⟨w.heap.size,kc Z32,23⟩,⟨w.heap.size+1,kc Z32,23⟩] u:=hB
 have hk0:=(hB.get 0 (x:=⟨w.heap.size,kc Z32,23⟩) rfl);have hk1:=(hB.get 1 (x:=⟨w.heap.size+1,kc Z32,23⟩) rfl);have hg0:=hB.gr;have hsz:=lt_of_block hk1;dsimp only at hk0 hk1 hsz;clear hB;obtain⟨h0,e0⟩:∃ h,h=w.heap.size:=⟨_,rfl⟩;obtain⟨h1,e1⟩:∃ h,h=w.heap.size+1:=⟨_,rfl⟩;rw[← e0] at hk0;rw[← e1] at hk1;rw[← e1,← e0];have hn0:h0≠g:=by omega
 have hn1:h1≠g:=by omega
 have hnp:h1≠p:=by omega
 have h01:h0≠h1:=by omega
 have hgn:g≠h1:=by omega
 have hpn:p≠h1:=by omega
 have hgn0:g≠h0:=by omega
 have hpn0:p≠h0:=by omega
 have hlow0:w.heap.size≤h0:=by omega
 have hlow1:w.heap.size≤h1:=by omega
 clear hgl hpl hsz e0 e1;replace hk0:=ao hk0; replace hk1:=ao hk1; replace hg0:=ao hg0;refine aE (S:=fun _=>True) aa ?_;have hdr:=(Gr.refl u).drew;replace hR:=ao ((aj hR).gr ((aj hg0).trans hdr));replace hk0:=ao (hdr.blk (aj hk0));replace hk1:=ao (hdr.blk (aj hk1));replace hg0:=ao ((aj hg0).trans hdr);clear hdr;generalize World.drew _=x0 at *;simp only[ae,Array.replicate,List.replicate];refine ar (i:=0) (v:=(.slice (some ⟨h1,0,none⟩) 32 32)) #[false,false,false,false] rfl aa aa aa aa (fun _ _ _ h=>h) (.inl ⟨by kernel_rfl,fun x_ hu=>by kernel_rfl⟩) trivial ?_;simp only[aq];refine ar (i:=1) (v:=(.pointer (some ⟨g,0,none⟩))) #[true,false,false,false] rfl aa aa aa aa (fun _ _ _ h=>h) (.inl ⟨by kernel_rfl,fun x_ hu=>by kernel_rfl⟩) trivial ?_;simp only[aq];refine ay (i:=2) aa rfl (fun K_ hQ=>?_)
 refine az aa 111 #[P0 g,.int .i64 ((32:Nat):Int)] aa ((rtake_ok g p n c k 32 L x0 (aj hR) hkn (by omega) hn).mono ?_);rintro r u1 ⟨rfl,hR1,hb1⟩;refine⟨_,rfl,?_⟩;replace hk0:=ao (hb1.blk (aj hk0) hn0);replace hk1:=ao (hb1.blk (aj hk1) hn1);have hat:At u1 p k K:=by
  have h:=(hR1.at_.drop k).take 32;rw[Nat.zero_add,← aj hK0] at h;exact h
 replace hat:=ao hat; replace hR1:=ao hR1; replace hb1:=ao hb1;refine hQ.out _ _ trivial (fun _=>?_);clear hQ K_;simp only[aq];refine ay (i:=3) aa rfl (fun K_ hQ=>?_);rw[if_pos aa];refine bu (.tmp 4) (.tmp 6) rfl h1 0 32 32 (some ⟨p,k,none⟩) 32 (c - k) aa aa (bv Z32) 23 (aj hk1) K (by rw[hl]; rfl) (.inr ⟨p,k,rfl,aj hat⟩) (by rw[hl]; decide) ?_;have hcell:=laid (S:=K) (o:=0) (aj hk1) (by rw[hl]; decide);rw[lay_all _ _ (by rw[hl]; rfl)] at hcell;have hbt:=aM (K.map (Value.int .u8)) u1 h1 0;have hk0':=hbt.blk (aj hk0) h01;have hR2:=(aj hR1).bt hbt hgn hpn;have hb2:Bt g w (u1.setCells h1 0 (K.map (Value.int .u8))):=by
  have hg0:=aj hg0; have hb1:=aj hb1;exact⟨hbt.os.trans (hb1.os.trans hg0.os),hbt.tape.trans (hb1.tape.trans hg0.tape),hbt.output.trans (hb1.output.trans hg0.output),Nat.le_trans hg0.size (Nat.le_trans hb1.size hbt.size),fun i hi hne=>by
   have s1:=hg0.size; have s2:=hb1.size;rw[hbt.block i (by omega) (by omega),hb1.block i (by omega) hne,hg0.block i hi]⟩
 generalize World.setCells _ _ _ _=u2 at *;replace hk0:=ao hk0';replace hk1:=ao hcell;replace hR1:=ao hR2;replace hb1:=ao hb2;clear hat hk0' hcell hR2 hb2 hbt hg0;rw[hl];refine hQ.out _ _ trivial (fun _=>?_);clear hQ K_;simp only[aq];refine aF aa ?_;go_upto_region 3 with fail;refine ag ?_;refine ak (.agg (kc K)) aa (ax _ 23 (.tmp 3) rfl h1 aa (kc K) 23 _ (aj hk1) Tryz.underlying23 rfl (by rw[Tryz.infoKy,au,hl])) ?_;simp only[aq];refine aA 23 (.tmp 2) (.tmp 8) h0 (kc K) 23 (kc Z32) aa rfl aa aa (aj hk0) (by rw[Tryz.infoKy,au,hl]) (by rw[au,au,hl]; rfl) (aL _) ?_;have hbt:=setRow_bt u2 h0 (kc K);have hk:=setRow_heap u2 h0 _ (kc K) 23 (0,0) (aj hk0);have hP:Hid (T (.returned (.agg (kc K))) (u2.setRow h0 (kc K))):=by
  rw[aj hT];refine⟨rfl,(aj hR1).bt hbt hgn0 hpn0,?_⟩;have hb1:=aj hb1;exact⟨hbt.os.trans hb1.os,hbt.tape.trans hb1.tape,hbt.output.trans hb1.output,Nat.le_trans hb1.size hbt.size,fun i hi hne=>by
   have s2:=hb1.size;rw[hbt.block i (by omega) (by omega),hb1.block i hi hne]⟩
 generalize World.setRow _ _ _=u3 at *;replace hk:=ao hk;clear hbt;simp only[aq];refine ai ?_;go_wp2_with fail;exact bodyPost_ret (v:=.agg (kc K)) (results_cell_row Tryz.results68 _ _ h0 23 (kc K) (0,0) _ rfl (aj hk) Tryz.underlying23 rfl (by rw[Tryz.infoKy,au,hl])) rfl (aj hP)
def hdB (K:List Int) (p q:Int):List Int:=(K++lowL p 4)++lowL q 4
def U4 (x:Int):Prop:=0≤x∧x<4294967296
theorem Infd.lb {L:List Int} {w w':World} {r:Ending} (h:Infd L w r w') (hb:IsB L) {n:Nat} (hn:L.length=n):∃ a c,r=.returned (.slice a n c)∧Lb w' a n c L∧Ob w.heap.size w' (.slice a n c) L∧Gr w w':=by
 obtain⟨v,rfl,h1,h2⟩:=h;obtain⟨a,c,rfl,h3⟩:=ob_lb h1 hb hn;exact⟨a,c,rfl,h3,h1,h2⟩
theorem fputh_ok (K:List Int) (hl:K.length=32) (hb:IsB K) (p q:Int) (hp:U4 p) (hq:U4 q) (w:World):Calls Tryz.prog 49 #[.agg (hdl K p q).toArray] w (Infd (hdB K p q) w):=by
 obtain⟨T,hT⟩:∃ T,T=Infd (hdB K p q) w:=⟨_,rfl⟩;rw[← hT];replace hT:=ao hT;obtain⟨C,hC⟩:∃ C,C=(hdl K p q).toArray:=⟨_,rfl⟩;rw[← hC];replace hC:=ao hC;replace hb:=ao hb;go_enter Tryz.func49,Tryz.ntmps49;go_upto_region 1 with fail;have hB:=((Bl.nil w).new C 42);simp only[aB,ac] at hB;generalize World.alloc _ _=u at *;rw[aj hC] at hB;replace hB:Bl w [⟨w.heap.size,(hdl K p q).toArray,42⟩] u:=hB;clear hC;have hbl:Hid (u.heap[w.heap.size]?=some (.cells (hdl K p q).toArray 42 (0,0))):=(hB.get 0 (x:=⟨w.heap.size,(hdl K p q).toArray,42⟩) rfl);have hG:=hB.gr;clear hB;refine ag ?_;refine ak (.pointer (some ⟨w.heap.size,0,none⟩)) aa aa ?_;simp only[aq];refine ak (.slice (some ⟨w.heap.size,0,none⟩) 32 32) aa aa ?_;simp only[aq]
 refine dJ aa (.const (.slice none 0 0)) (.tmp 5) rfl w.heap.size _ [] rfl (ob_none _ _) (some ⟨w.heap.size,0,none⟩) 32 32 K aa hl (.inr ⟨_,0,rfl,at_mid (aj hbl) (hdl_key K p q) rfl⟩) (by simp) hG.size ?_;intro v1 u1 hO1 hgr;rw[List.nil_append] at hO1;have hg1:Gr u u1:=(ob_none u.heap.size u).grown (Nat.le_refl _) (Gr.refl u) hgr;obtain⟨a1,c1,rfl,hlb1⟩:=ob_lb hO1 (aj hb) hl;clear hO1 hgr;replace hG:=hG.trans hg1;replace hbl:=ao (hg1.blk (aj hbl));clear hg1;replace hlb1:=ao hlb1;simp only[aq]
 (refine af fun K hK=>?_;go_simp;refine aj hK _ _ ?_;clear hK K)
 refine ai ?_;go_upto_region 2 with fail;refine ag ?_;refine ak (.slice a1 32 c1) aa aa ?_;simp only[aq];refine ak (.pointer (some ⟨w.heap.size,32,none⟩)) aa aa ?_;simp only[aq];refine ak (.int .u32 p) aa (exec_u32 _ (.tmp 8) rfl (w.heap.size) 32 aa p (aw (aj hbl) (hd_prev hl p q))) ?_;simp only[aq];refine av 64 #[.slice a1 32 c1,.int .u32 p] aa aa ((put32g_ok K a1 32 c1 p hp (by omega) u1 (aj hlb1)).mono ?_);rintro r u2 ⟨h,rfl,hh1,hh2,hh3⟩;have hl2:(K++lowL p 4).length=36:=by simp[hl,aN]
 rw[hl2];have hlb2:=ao (dv hh2 hl2 (bi (aj hb) (bI _ _)) (by decide));replace hG:=hG.trans hh3;replace hbl:=ao (hh3.blk (aj hbl));clear hh1 hh2 hh3;refine⟨_,rfl,?_⟩;simp only[aq]
 (refine af fun K hK=>?_;go_simp;refine aj hK _ _ ?_;clear hK K)
 refine ai ?_;go_upto_region 3 with fail;refine ag ?_;refine ak (.slice (some ⟨h,0,none⟩) 36 36) aa aa ?_;simp only[aq];refine ak (.pointer (some ⟨w.heap.size,33,none⟩)) aa aa ?_;simp only[aq];refine ak (.int .u32 q) aa (exec_u32 _ (.tmp 12) rfl (w.heap.size) 33 aa q (aw (aj hbl) (hd_num hl p q))) ?_;simp only[aq];refine av 64 #[.slice (some ⟨h,0,none⟩) 36 36,.int .u32 q] aa aa ((put32g_ok (K++lowL p 4) (some ⟨h,0,none⟩) 36 36 q hq (by omega) u2 (aj hlb2)).mono ?_);rintro r u3 ⟨h3,rfl,hh1,hh2,hh3⟩;have hl3:((K++lowL p 4)++lowL q 4).length=40:=by simp[hl,aN]
 have hZ:Hid (Infd (hdB K p q) w (.returned (.slice (some ⟨h3,0,none⟩) 40 40)) u3):=⟨_,rfl,ob_of hh2 hl3 (Nat.le_trans hG.size hh1) (by omega),hG.trans hh3⟩;rw[hl3];clear hh1 hh2 hh3;refine⟨_,rfl,?_⟩;simp only[aq]
 (refine af fun K hK=>?_;go_simp;refine aj hK _ _ ?_;clear hK K)
 refine ai ?_;go_wp2_with fail;rw[aj hT];exact aj hZ
structure Sk where
 K:List Int
 n:Int
 S:List Int
def Sk.Ok (s:Sk):Prop:=IsK s.K∧IsK s.S∧(0≤s.n∧s.n<4294967296)
def skr (s:Sk):List Value:=[bw s.K,[.int .u32 s.n],bw s.S].flatten
theorem skr_len {s:Sk} (h:s.Ok):(skr s).length=65:=by
 unfold skr;simp[aJ,h.1.1,h.2.1.1]
def Skp (w:World) (a:Option Addr) (n c:Nat) (L:List Sk):Prop:=(∀ s ∈ L,s.Ok)∧Ls 65 w a n c (L.map skr)
theorem Skp.gr {w v:World} {a:Option Addr} {n c:Nat} {L:List Sk} (h:Skp w a n c L) (g:Gr w v):Skp v a n c L:=⟨h.1,h.2.gr g⟩
theorem Skp.len {w:World} {a:Option Addr} {n c:Nat} {L:List Sk} (h:Skp w a n c L):L.length=n:=by have:=h.2.len; simpa using this
theorem Skp.at_ {w:World} {a:Option Addr} {n c:Nat} {L:List Sk} (h:Skp w a n c L) (i:Nat) (s:Sk) (hi:L[i]?=some s):∃ p o,a=some ⟨p,o,none⟩∧w.rangeAt p (o+65 * i) (skr s):=by
 have hl:=(List.getElem?_eq_some_iff.1 hi).1;obtain⟨p,o,h1,h2⟩:=h.2.at_ i (by rw[← h.len]; exact hl);refine⟨p,o,h1,?_⟩;have e:(L.map skr).getD i []=skr s:=by simp[List.getD,hi]
 rwa [e] at h2
theorem Skp.ok {w:World} {a:Option Addr} {n c:Nat} {L:List Sk} (h:Skp w a n c L) (i:Nat) (s:Sk) (hi:L[i]?=some s):s.Ok:=h.1 s (List.mem_of_getElem? hi)
def isW (K:List Int) (m:Int) (s:Sk):Bool:=decide (s.K=K∧s.n=m)
def fnd (L:List Sk) (K:List Int) (m:Int):Nat:=L.findIdx (isW K m)
def fndZ (L:List Sk) (K:List Int) (m:Int):Int:=if fnd L K m<L.length then (fnd L K m:Int) else -1
theorem exec_isk {a:Act} {o:Oper} (w:World) (x y:Operand) (ho:o.op=.indexAddr 30 x y) (g q len cap i:Nat) (hx:a.eval x=.slice (some ⟨g,q,none⟩) len cap) (hy:a.eval y=.int .i64 i) (hi:i<len) :
  (execOp a.eval o).run Tryz.prog w=.ok (.value (.pointer (some ⟨g,q+65 * i,none⟩))) w:=by
 have h1:(i:Int)<(len:Int):=by omega
 have hs:(Tryz.prog.info? 95).map (·.size)=some 65:=by kernel_rfl
 obtain⟨i0,h2,h3⟩:=Option.map_eq_some_iff.1 hs;have hu:=Tryz.underlying30;have hc:i * 65=65 * i:=Nat.mul_comm _ _;unfold execOp;simp only[ho,hx,hy];go_simp
theorem exec_lsk {op:Oper} {a:Act} (w:World) (x:Operand) (ho:op.op=.load 95 x) (g o:Nat) (hx:a.eval x=.pointer (some ⟨g,o,none⟩)) (s:Sk) (hs:s.Ok) (h:w.rangeAt g o (skr s)) :
  (execOp a.eval op).run Tryz.prog w=.ok (.value (.agg (fl [bw s.K,[.int .u32 s.n],bw s.S]))) w :=
 bz (P:=Tryz.prog) w 95 x ho g o hx (skr s) _ h Tryz.underlying95 rfl (by rw[skr_len hs]; kernel_rfl)
theorem isFor1_ok (A M K:List Int) (n m:Int) (hA:A.length=32) (hM:M.length=32) (hK:K.length=32) (g:Nat) (w:World) (hg0:w.heap[g]?=some (.cells (fl [bw K,[.int .u32 m]]) 154 (0,0))):Calls Tryz.prog 117 #[.agg (fl [bw A,[.int .u32 n],bw M]),.pointer (some ⟨g,0,none⟩)] w (Vl (.bool (decide (A=K∧n=m))) w):=by
 obtain⟨T,hT⟩:∃ T:Ending→World→Prop,T=(Vl (.bool (decide (A=K∧n=m))) w):=⟨_,rfl⟩;rw[← hT];replace hT:=ao hT;have hlt:=lt_of_block hg0;replace hg0:=ao hg0;obtain⟨A0_,hA0_⟩:∃ S_,S_=fl [bw A,[.int .u32 n],bw M]:=⟨_,rfl⟩;rw[← hA0_];replace hA0_:=ao hA0_;go_enter Tryz.func117,Tryz.ntmps117;go_upto_region 1 with fail;have hB:=((Bl.nil w).new A0_ 95);simp only[aB,ac] at hB;rw[aj hA0_] at hB;generalize hu_:World.alloc _ _=u0;replace hB:Bl w [⟨w.heap.size,fl [bw A,[.int .u32 n],bw M],95⟩] u0:=by
  rw[← hu_];rw[aj hA0_];exact hB
 clear hu_ hA0_;have hB1:=ao (hB.gr.blk (aj hg0));refine aE (S:=fun v_=>v_.heap[w.heap.size]?=some (.cells (fl [bw A,[.int .u32 n],bw M]) 95 (0,0))∧v_.heap[g]?=some (.cells (fl [bw K,[.int .u32 m]]) 154 (0,0))) aa ?_;replace hB1:=ao ((Gr.refl u0).drew.blk (aj hB1));replace hB:=hB.drew;generalize World.drew _=u1 at *;simp only[ae,Array.replicate,List.replicate];have hs:=ao (And.intro (hB.get 0 (x:=⟨w.heap.size,fl [bw A,[.int .u32 n],bw M],95⟩) rfl) (aj hB1));refine ar (i:=0) (v:=(.agg (fl [bw A,[.int .u32 n],bw M]))) #[false,false,false,false,false] rfl aa aa aa aa (fun _ _ _ h=>h) (.inl ⟨by kernel_rfl,fun x_ hu=>aQ _ 95 (.tmp 2) rfl (w.heap.size) aa hu.1 NS (nS hA hM _) Tryz.underlying95 rfl aa⟩) (aj hs) ?_;simp only[aq]
 refine ar (i:=2) (v:=(.agg (fl [bw K,[.int .u32 m]]))) #[true,false,false,false,false] rfl aa aa aa aa (fun _ _ _ h=>h) (.inl ⟨by kernel_rfl,fun x_ hu=>aQ _ 154 (.tmp 1) rfl g aa hu.2 NW (nW hK _) Tryz.underlying154 rfl aa⟩) (aj hs) ?_;simp only[aq];refine ay (i:=1) aa rfl (fun K hK_=>?_);refine az aa 88 #[.agg (fl [bw A,[.int .u32 n],bw M])] aa ((forWhat_ok A M n hA hM u1).mono ?_);rintro r_ u2 ⟨rfl,hg⟩;replace hB:=hB.more hg;replace hs:=ao (And.intro (hg.blk (aj hs).1) (hg.blk (aj hs).2));clear hg;refine⟨_,rfl,?_⟩;refine hK_.out _ _ (aj hs) (fun _=>?_);clear hK_ K;simp only[aq];refine ar (i:=3) (v:=(.bool (decide (A=K∧n=m)))) #[true,true,true,false,false] rfl aa aa aa aa (fun _ _ _ h=>h) (.inl ⟨by kernel_rfl,fun x_ hu=>exec_eqW _ (.tmp 5) (.tmp 6) rfl A K hA hK n m aa aa⟩) (aj hs) ?_;simp only[aq];refine ay (i:=4) aa rfl (fun K hK_=>?_);replace hK_:=ao hK_;go_simp
 refine(aj hK_).out _ _ (aj hs) (fun _=>?_);clear hK_ K;simp only[aq];refine aF aa ?_;replace hB:=ao hB;go_wp2_with fail;replace hB:=aj hB;rw[aj hT];exact(⟨by simp,hB.gr⟩)
theorem idx_ok (L:List Sk) (K:List Int) (m:Int) (hK:K.length=32) (a:Option Addr) (n c g:Nat) (w:World) (hL:Skp w a n c L) (hg0:w.heap[g]?=some (.cells (fl [bw K,[.int .u32 m]]) 154 (0,0))):Calls Tryz.prog 102 #[.slice a n c,.func (.func 117) #[] #[.pointer (some ⟨g,0,none⟩)]] w (Vl (.int .i64 (fndZ L K m)) w):=by
 obtain⟨T,hT⟩:∃ T:Ending→World→Prop,T=(Vl (.int .i64 (fndZ L K m)) w):=⟨_,rfl⟩;rw[← hT];replace hT:=ao hT;have hn:=hL.len;have hc:=hL.2.cap;have hm:=hL.2.max;replace hL:=ao hL;replace hg0:=ao hg0;obtain⟨FV,hFV⟩:∃ f,f=Value.func (.func 117) #[] #[.pointer (some ⟨g,0,none⟩)]:=⟨_,rfl⟩;rw[← hFV];replace hFV:=ao hFV;go_enter Tryz.func102,Tryz.ntmps102;go_upto_region 1 with fail;obtain⟨u0,hu_⟩:∃ u,u=w:=⟨_,rfl⟩;rw[← hu_];have hB:Bl w [] u0:=hu_ ▸ Bl.nil w;clear hu_;have hI:Hid ((∀ k s,k<0→L[k]?=some s→isW K m s=false)∧Gr w u0):=⟨fun k s hk _=>absurd hk (by omega),hB.gr⟩;clear hB;go_wp2_with fail
 go_loopw [8] (fun i wr=>∃ j:Nat,j≤n∧i=.int .i64 (j:Int)∧Hid ((∀ k s,k<j→L[k]?=some s→isW K m s=false)∧Gr w wr)) (fun i _=>n - (intOf i).toNat)
 case atStart=>exact⟨0,by omega,rfl,hI⟩
 case round =>
 clear hI;obtain⟨j,hj,rfl,hA⟩:=hrel;obtain⟨hE,hG⟩:=aj hA;clear hA;by_cases hlt:j<n
 ·have jI:(j:Int)<(n:Int):=by omega
  obtain⟨s,hs⟩:∃ s,L[j]?=some s:=⟨_,List.getElem?_eq_getElem (by omega)⟩;have hsk:=(aj hL).ok j s hs;obtain⟨p,o,ha,hr⟩:=((aj hL).gr hG).at_ j s hs;subst ha;replace hE:=ao hE;replace hG:=ao hG;replace hs:=ao hs;replace hr:=ao hr;replace hsk:=ao hsk;go_upto_region 4 with fail;refine ag ?_;refine ak FV aa aa ?_;simp only[aq];refine ak (.slice (some ⟨p,o,none⟩) n c) aa aa ?_;simp only[aq];refine ak (.int .i64 (j:Int)) aa aa ?_;simp only[aq];refine ak (.pointer (some ⟨p,o+65 * j,none⟩)) aa (exec_isk _ (.tmp 12) (.tmp 13) rfl p o n c j aa aa hlt) ?_;simp only[aq];refine ak (.agg (fl [bw s.K,[.int .u32 s.n],bw s.S])) aa (exec_lsk _ (.tmp 14) rfl p (o+65 * j) aa s (aj hsk) (aj hr)) ?_;simp only[aq]
  refine av 117 #[.agg (fl [bw s.K,[.int .u32 s.n],bw s.S]),.pointer (some ⟨g,0,none⟩)] aa (by rw[aj hFV]; kernel_rfl) ((isFor1_ok s.K s.S K s.n m (aj hsk).1.1 (aj hsk).2.1.1 hK g wr ((aj hG).blk (aj hg0))).mono ?_);rintro r_ u1 ⟨rfl,hg⟩;replace hG:=ao ((aj hG).trans hg);clear hg hr;refine⟨_,rfl,?_⟩;simp only[aq];refine ai ?_;by_cases hb:s.K=K∧s.n=m
  ·rw[show decide (s.K=K∧s.n=m)=true from decide_eq_true hb];have hf:fnd L K m=j:=by
    unfold fnd;have hjl:j<L.length:=by omega
    have hsj:L[j]=s:=by
     have:=aj hs;rw[List.getElem?_eq_getElem hjl] at this;exact Option.some.inj this
    refine(List.findIdx_eq hjl).2 ⟨by rw[hsj]; exact decide_eq_true hb,fun k hk=>?_⟩;exact(aj hE) k _ hk (List.getElem?_eq_getElem (by omega))
   have hZ:Hid (Vl (.int .i64 (fndZ L K m)) w (.returned (.int .i64 (j:Int))) u1):=⟨by unfold fndZ; rw[hf,if_pos (by omega)],aj hG⟩;clear hb hf hE hG;go_wp2_with fail;rw[aj hT];exact aj hZ
  ·rw[show decide (s.K=K∧s.n=m)=false from decide_eq_false hb];have hI2:Hid ((∀ k t,k<j+1→L[k]?=some t→isW K m t=false)∧Gr w u1):=⟨fun k t hk ht=>by
    rcases Nat.lt_or_ge k j with h | h
    ·exact(aj hE) k t h ht
    ·have:k=j:=by omega
     subst this;have e:=(aj hs).symm.trans ht;injection e with e;subst e;exact decide_eq_false hb,aj hG⟩
   clear hb hE hG;have jw:IntKind.i64.wrap ((j:Int)+1)=(j:Int)+1:=by rw[IntKind.wrap_i64]; omega
   go_wp2_with fail;go_roundw
   case rel=>exact⟨j+1,by omega,by simp,hI2⟩
   case measure=>simp[intOf]; omega
 ·have jI:¬ (j:Int)<(n:Int):=by omega
  have hZ:Hid (Vl (.int .i64 (fndZ L K m)) w (.returned (.int .i64 (-1))) wr):=⟨by
   have hf:fnd L K m=L.length:=by
    unfold fnd;refine List.findIdx_eq_length.2 fun x hx=>?_;obtain⟨k,hk,rfl⟩:=List.getElem_of_mem hx;exact hE k _ (by omega) (List.getElem?_eq_getElem hk)
   unfold fndZ;rw[hf,if_neg (by omega)],hG⟩
  clear hE hG;go_wp2_with fail;rw[aj hT];exact aj hZ
theorem Skp.take {w:World} {a:Option Addr} {n c:Nat} {L:List Sk} (h:Skp w a n c L) (i:Nat) (hi:i≤n):Skp w a i c (L.take i):=by
 have hl:=h.len;refine⟨fun s hs=>h.1 s (List.mem_of_mem_take hs),?_,fun r hr=>?_,?_,Nat.le_trans hi h.2.cap,h.2.max⟩
 ·simp; omega
 ·rw[List.map_take] at hr;exact h.2.row r (List.mem_of_mem_take hr)
 ·rcases h.2.sl with h0 | ⟨p,o,h1,h2⟩
  ·left; rw[List.map_take,h0]; simp
  ·refine .inr ⟨p,o,h1,fun j x hj=>h2 j x ?_⟩;have e:(L.map skr).flatten=((L.take i).map skr).flatten++((L.drop i).map skr).flatten:=by
    rw[← List.flatten_append,← List.map_append,List.take_append_drop]
   rw[e,List.getElem?_append_left (List.getElem?_eq_some_iff.1 hj).1];exact hj
def twB (L:List Sk):Bool:=(List.range L.length).any fun i=>(L.take i).any (isW (L.getD i ⟨[],0,[]⟩).K (L.getD i ⟨[],0,[]⟩).n)
theorem fndZ_any (L:List Sk) (K:List Int) (m:Int):decide (0≤fndZ L K m)=L.any (isW K m):=by
 unfold fndZ;by_cases h:fnd L K m<L.length
 ·rw[if_pos h];have h2:L.any (isW K m)=true:=by
   rw[List.any_eq_true];exact List.findIdx_lt_length.1 h
  rw[h2]; simp
 ·rw[if_neg h];have h2:L.any (isW K m)=false:=by
   cases e:L.any (isW K m)
   ·rfl
   ·rw[List.any_eq_true] at e;exact absurd (List.findIdx_lt_length.2 e) h
  rw[h2]; decide
def Fnc (K:List Int) (m:Int) (w:World) (r:Ending) (w':World):Prop:=∃ g,r=.returned (.func (.func 117) #[] #[.pointer (some ⟨g,0,none⟩)])∧w'.heap[g]?=some (.cells (fl [bw K,[.int .u32 m]]) 154 (0,0))∧Gr w w'
theorem isFor_ok (K:List Int) (m:Int) (hK:K.length=32) (w:World)  : Calls Tryz.prog 87 #[.agg (fl [bw K,[.int .u32 m]])] w (Fnc K m w):=by
 obtain⟨T,hT⟩:∃ T:Ending→World→Prop,T=(Fnc K m w):=⟨_,rfl⟩;rw[← hT];replace hT:=ao hT;obtain⟨A0_,hA0_⟩:∃ S_,S_=fl [bw K,[.int .u32 m]]:=⟨_,rfl⟩;rw[← hA0_];replace hA0_:=ao hA0_;go_enter Tryz.func87,Tryz.ntmps87;go_upto_region 1 with fail;have hB:=((Bl.nil w).new A0_ 154);simp only[aB,ac] at hB;rw[aj hA0_] at hB;generalize hu_:World.alloc _ _=u0;replace hB:Bl w [⟨w.heap.size,fl [bw K,[.int .u32 m]],154⟩] u0:=by
  rw[← hu_];rw[aj hA0_];exact hB
 clear hu_ hA0_;refine ag ?_;refine ak (.func (.func 117) #[] #[.pointer (some ⟨w.heap.size,0,none⟩)]) aa aa ?_;simp only[aq]
 (refine af fun K hK=>?_;go_simp;refine aj hK _ _ ?_;clear hK K)
 refine ai ?_;replace hB:=ao hB;go_wp2_with fail;replace hB:=aj hB;rw[aj hT];exact(⟨w.heap.size,rfl,hB.get 0 (x:=⟨w.heap.size,fl [bw K,[.int .u32 m]],154⟩) rfl,hB.gr⟩)
theorem has_ok (L:List Sk) (K:List Int) (m:Int) (hK:K.length=32) (a:Option Addr) (n c g:Nat) (w:World) (hL:Skp w a n c L) (hg0:w.heap[g]?=some (.cells (fl [bw K,[.int .u32 m]]) 154 (0,0))):Calls Tryz.prog 86 #[.slice a n c,.func (.func 117) #[] #[.pointer (some ⟨g,0,none⟩)]] w (Vl (.bool (L.any (isW K m))) w):=by
 obtain⟨T,hT⟩:∃ T:Ending→World→Prop,T=(Vl (.bool (L.any (isW K m))) w):=⟨_,rfl⟩;rw[← hT];replace hT:=ao hT;replace hL:=ao hL;replace hg0:=ao hg0;go_enter Tryz.func86,Tryz.ntmps86;go_upto_region 1 with fail;obtain⟨u0,hu_⟩:∃ u,u=w:=⟨_,rfl⟩;rw[← hu_];have hB:Bl w [] u0:=hu_ ▸ Bl.nil w;clear hu_;refine ag ?_;refine ak (.slice a n c) aa aa ?_;simp only[aq];refine ak (.func (.func 117) #[] #[.pointer (some ⟨g,0,none⟩)]) aa aa ?_;simp only[aq];refine av 102 #[.slice a n c,.func (.func 117) #[] #[.pointer (some ⟨g,0,none⟩)]] aa aa ((idx_ok L K m hK a n c g u0 ((aj hL).gr hB.gr) (hB.gr.blk (aj hg0))).mono ?_);rintro r_ u1 ⟨rfl,hg⟩;replace hB:=hB.more hg;clear hg;obtain⟨q,hq⟩:∃ q,q=fndZ L K m:=⟨_,rfl⟩;rw[← hq];have hqb:decide (0≤q)=L.any (isW K m):=by rw[hq]; exact fndZ_any L K m
 replace hq:=ao hq;replace hqb:=ao hqb;refine⟨_,rfl,?_⟩;simp only[aq];refine ak (.bool (decide (0≤q))) aa (by go_simp) ?_;simp only[aq]
 (refine af fun K hK=>?_;go_simp;refine aj hK _ _ ?_;clear hK K)
 refine ai ?_;replace hB:=ao hB;go_wp2_with fail;replace hB:=aj hB;rw[aj hT];exact(⟨by rw[← aj hqb]; rfl,hB.gr⟩)
theorem twice_ok (L:List Sk) (a:Option Addr) (n c:Nat) (w:World) (hL:Skp w a n c L):Calls Tryz.prog 43 #[.slice a n c] w (Vl (.bool (twB L)) w):=by
 obtain⟨T,hT⟩:∃ T:Ending→World→Prop,T=(Vl (.bool (twB L)) w):=⟨_,rfl⟩;rw[← hT];replace hT:=ao hT;have hn:=hL.len;have hc:=hL.2.cap;have hm:=hL.2.max;replace hL:=ao hL;go_enter Tryz.func43,Tryz.ntmps43;go_upto_region 1 with fail;obtain⟨u0,hu_⟩:∃ u,u=w:=⟨_,rfl⟩;rw[← hu_];have hB:Bl w [] u0:=hu_ ▸ Bl.nil w;clear hu_;have hI:Hid ((∀ k,k<0→(L.take k).any (isW (L.getD k ⟨[],0,[]⟩).K (L.getD k ⟨[],0,[]⟩).n)=false)∧Gr w u0):=⟨fun k hk=>absurd hk (by omega),hB.gr⟩;clear hB;go_wp2_with fail
 go_loopw [7] (fun i wr=>∃ j:Nat,j≤n∧i=.int .i64 (j:Int)∧Hid ((∀ k,k<j→(L.take k).any (isW (L.getD k ⟨[],0,[]⟩).K (L.getD k ⟨[],0,[]⟩).n)=false)∧Gr w wr)) (fun i _=>n - (intOf i).toNat)
 case atStart=>exact⟨0,by omega,rfl,hI⟩
 case round =>
 clear hI;obtain⟨j,hj,rfl,hA⟩:=hrel;obtain⟨hE,hG⟩:=aj hA;clear hA;by_cases hlt:j<n
 ·have jI:(j:Int)<(n:Int):=by omega
  obtain⟨s,hs⟩:∃ s,L[j]?=some s:=⟨_,List.getElem?_eq_getElem (by omega)⟩;have hsd:L.getD j ⟨[],0,[]⟩=s:=by simp[List.getD,hs]
  have hsk:=(aj hL).ok j s hs;obtain⟨p,o,ha,hr⟩:=((aj hL).gr hG).at_ j s hs;subst ha;have hL0:=ao ((aj hL).gr hG);have hT0:=ao ((((aj hL).gr hG)).take j (by omega));have hKl:s.K.length=32:=hsk.1.1;have hSl:s.S.length=32:=hsk.2.1.1;replace hE:=ao hE;replace hr:=ao hr;replace hsk:=ao hsk;replace hsd:=ao hsd;have hB:=Bl.nil wr;replace hG:=ao hG;go_upto_region 3 with fail;refine ag ?_;refine ak (.int .i64 (j:Int)) aa aa ?_;simp only[aq];refine ak (.pointer (some ⟨p,o+65 * j,none⟩)) aa (exec_isk _ (.tmp 5) (.tmp 7) rfl p o n c j aa aa hlt) ?_;simp only[aq];refine ak (.agg (fl [bw s.K,[.int .u32 s.n],bw s.S])) aa (exec_lsk _ (.tmp 10) rfl p (o+65 * j) aa s (aj hsk) (aj hr)) ?_;simp only[aq];refine aH (.pointer (some ⟨wr.heap.size,0,none⟩)) (wr.alloc (.cells (fl [bw Z32,[.int .u32 0],bw Z32]) 95 (0,0))) aa aa ?_;replace hB:=hB.new (fl [bw Z32,[.int .u32 0],bw Z32]) 95;simp only[ac] at hB
  generalize World.alloc _ _=u1 at *;generalize wr.heap.size=g4 at *;simp only[aq]
  (refine af fun K hK=>?_;go_simp;refine aj hK _ _ ?_;clear hK K)
  refine aX 95 (.tmp 4) (.tmp 11) (g4) (S2:=[bw s.K,[.int .u32 s.n],bw s.S]) aa rfl aa aa hB 0 rfl NS (nS zl32 zl32 _) (nS hKl hSl _) aa (oS _ _ rfl) ?_;intro u2 hB_ _;clear hB;replace hB:Bl wr [⟨g4,fl [bw s.K,[.int .u32 s.n],bw s.S],95⟩] u2:=hB_;clear hB_;simp only[aq];refine ai ?_;replace hB:=ao hB;go_upto_region 4 with fail;replace hB:=aj hB;refine aE (S:=fun v_=>v_.heap[g4]?=some (.cells (fl [bw s.K,[.int .u32 s.n],bw s.S]) 95 (0,0))) aa ?_;replace hB:=hB.drew;generalize World.drew _=u3 at *;simp only[ae,Array.replicate,List.replicate];refine ar (i:=0) (v:=(.slice (some ⟨p,o,none⟩) n c)) #[false,false,false,false,false,false,false] rfl aa aa aa aa (fun _ _ _ h=>h) (.inl ⟨by kernel_rfl,fun x_ hu=>by kernel_rfl⟩) (hB.get 0 (x:=⟨g4,fl [bw s.K,[.int .u32 s.n],bw s.S],95⟩) rfl) ?_;simp only[aq]
  refine ar (i:=1) (v:=(.int .i64 (j:Int))) #[true,false,false,false,false,false,false] rfl aa aa aa aa (fun _ _ _ h=>h) (.inl ⟨by kernel_rfl,fun x_ hu=>by kernel_rfl⟩) (hB.get 0 (x:=⟨g4,fl [bw s.K,[.int .u32 s.n],bw s.S],95⟩) rfl) ?_;simp only[aq];refine ar (i:=2) (v:=(.slice (some ⟨p,o,none⟩) j c)) #[true,true,false,false,false,false,false] rfl aa aa aa aa (fun _ _ _ h=>h) (.inl ⟨by kernel_rfl,fun x_ hu=>by have h1:(j:Int)≤(c:Int):=(by omega); go_simp⟩) (hB.get 0 (x:=⟨g4,fl [bw s.K,[.int .u32 s.n],bw s.S],95⟩) rfl) ?_;simp only[aq];refine ar (i:=3) (v:=(.agg (fl [bw s.K,[.int .u32 s.n],bw s.S]))) #[true,true,true,false,false,false,false] rfl aa aa aa aa (fun _ _ _ h=>h) (.inl ⟨by kernel_rfl,fun x_ hu=>aQ _ 95 (.tmp 4) rfl (g4) aa hu NS (nS hKl hSl _) Tryz.underlying95 rfl aa⟩) (hB.get 0 (x:=⟨g4,fl [bw s.K,[.int .u32 s.n],bw s.S],95⟩) rfl) ?_;simp only[aq]
  refine ay (i:=4) aa rfl (fun K hK=>?_);refine az aa 88 #[.agg (fl [bw s.K,[.int .u32 s.n],bw s.S])] aa ((forWhat_ok s.K s.S s.n hKl hSl u3).mono ?_);rintro r_ u4 ⟨rfl,hg⟩;replace hB:=hB.more hg;clear hg;refine⟨_,rfl,?_⟩;refine hK.out _ _ (hB.get 0 (x:=⟨g4,fl [bw s.K,[.int .u32 s.n],bw s.S],95⟩) rfl) (fun _=>?_);clear hK K;simp only[aq];refine ay (i:=5) aa rfl (fun K hK=>?_);refine az aa 87 #[.agg (fl [bw s.K,[.int .u32 s.n]])] aa ((isFor_ok s.K s.n hKl u4).mono ?_);rintro r_ u5 ⟨q,rfl,hq,hg⟩;replace hB:=hB.more hg;clear hg;replace hq:=ao hq;refine⟨_,rfl,?_⟩;refine hK.out _ _ (hB.get 0 (x:=⟨g4,fl [bw s.K,[.int .u32 s.n],bw s.S],95⟩) rfl) (fun _=>?_);clear hK K;simp only[aq];refine ay (i:=6) aa rfl (fun K hK=>?_)
  refine az aa 86 #[.slice (some ⟨p,o,none⟩) j c,.func (.func 117) #[] #[.pointer (some ⟨q,0,none⟩)]] aa ((has_ok (L.take j) s.K s.n hKl (some ⟨p,o,none⟩) j c q u5 ((aj hT0).gr hB.gr) (aj hq)).mono ?_);rintro r_ u6 ⟨rfl,hg⟩;replace hB:=hB.more hg;clear hg;obtain⟨tb_,htb⟩:∃ x,x=(L.take j).any (isW s.K s.n):=⟨_,rfl⟩;rw[← htb];replace htb:=ao htb;refine⟨_,rfl,?_⟩;refine hK.out _ _ (hB.get 0 (x:=⟨g4,fl [bw s.K,[.int .u32 s.n],bw s.S],95⟩) rfl) (fun _=>?_);clear hK K;simp only[aq];refine aF aa ?_;replace hG:=ao ((aj hG).trans hB.gr);clear hB;cases tb_ with
  | true =>
   have hZ:Hid (Vl (.bool (twB L)) w (.returned (.bool true)) u6):=⟨by
    have:twB L=true:=by
     unfold twB;rw[List.any_eq_true];refine⟨j,List.mem_range.2 (by omega),?_⟩;rw[aj hsd];exact(aj htb).symm
    rw[this],aj hG⟩
   clear hE hG hq;go_wp2_with fail;rw[aj hT];exact aj hZ
  | false =>
   have hI2:Hid ((∀ k,k<j+1→(L.take k).any (isW (L.getD k ⟨[],0,[]⟩).K (L.getD k ⟨[],0,[]⟩).n)=false)∧Gr w u6):=⟨fun k hk=>by
    rcases Nat.lt_or_ge k j with h | h
    ·exact(aj hE) k h
    ·have:k=j:=by omega
     subst this;rw[aj hsd];exact(aj htb).symm,aj hG⟩
   clear hE hG hq;have jw:IntKind.i64.wrap ((j:Int)+1)=(j:Int)+1:=by rw[IntKind.wrap_i64]; omega
   go_wp2_with fail;go_roundw
   case rel=>exact⟨j+1,by omega,by simp,hI2⟩
   case measure=>simp[intOf]; omega
 ·have jI:¬ (j:Int)<(n:Int):=by omega
  have hZ:Hid (Vl (.bool (twB L)) w (.returned (.bool false)) wr):=⟨by
   have:twB L=false:=by
    unfold twB;rw[List.any_eq_false];intro k hk;have:=hE k (by have:=List.mem_range.1 hk; omega);simpa using this
   rw[this],hG⟩
  clear hE hG;go_wp2_with fail;rw[aj hT];exact aj hZ
end Go.Proofs.YtbkkibhhfmgojaaGreatDoor
