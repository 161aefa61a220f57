/-
  What the proof leans on.
-/
import Derived.Laws.BytesArg
import Derived.ChangeKeysEq
import Derived.WideShapes
import Derived.Test.YthahhglbeafkmaaGreatDoorRK8
namespace Go.Proofs.YthahhglbeafkmaaGreatDoor
open Go.RowKit
set_option maxRecDepth 100000
set_option linter.unusedSimpArgs false
set_option linter.unusedVariables false
theorem ac8 (a b:Nat) (ha:a<256) (hb:b<256):bits .and .u8 (a:Int) (b:Int)=((a &&& b:Nat):Int):=by
 have hx:a &&& b<2 ^ 8:=Nat.and_lt_two_pow a (by omega)
 have h1:(BitVec.ofInt 8 (a:Int)).toNat=a:=by
  rw [BitVec.ofInt_natCast,BitVec.toNat_ofNat]; exact Nat.mod_eq_of_lt (by omega)
 have h2:(BitVec.ofInt 8 (b:Int)).toNat=b:=by
  rw [BitVec.ofInt_natCast,BitVec.toNat_ofNat]; exact Nat.mod_eq_of_lt (by omega)
 show IntKind.u8.wrap ((BitVec.ofInt 8 (a:Int) &&& BitVec.ofInt 8 (b:Int)).toNat:Int)=_
 rw [BitVec.toNat_and,h1,h2,IntKind.wrap_u8]
 omega
theorem and15 (x:Int) (h:0≤x∧x<256):bits .and .u8 x 15=x % 16:=by
 obtain ⟨n,rfl⟩:=Int.eq_ofNat_of_zero_le h.1
 have h1:=ac8 n 15 (by omega) (by omega)
 have e:n &&& 15=n % 16:=Nat.and_two_pow_sub_one_eq_mod n 4
 rw [e] at h1
 simpa using h1
theorem and252_all:∀ n:Fin 256,n.val &&& 252=n.val / 4 * 4:=by decide +kernel
theorem and252 (x:Int) (h:0≤x∧x<256):bits .and .u8 x 252=x / 4 * 4:=by
 obtain ⟨n,rfl⟩:=Int.eq_ofNat_of_zero_le h.1
 have hn:n<256:=by omega
 have h1:=ac8 n 252 hn (by omega)
 have e:n &&& 252=n / 4 * 4:=and252_all ⟨n,hn⟩
 rw [e] at h1
 simpa using h1
def am (M:List Int) (o:Nat) (k:Int):Nat→List Int
 | 0=>M
 | j+1=>(am M o k j).set (o+4 * j) (bits .and .u8 ((am M o k j).getD (o+4 * j) 0) k)
theorem am_len (M:List Int) (o:Nat) (k:Int):∀ j,(am M o k j).length=M.length
 | 0=>rfl
 | j+1=>by rw [am,List.length_set,am_len M o k j]
theorem list16:∀ (M:List Int),M.length=16→∃ m0 m1 m2 m3 m4 m5 m6 m7 m8 m9 m10 m11 m12 m13 m14 m15,M=[m0,m1,m2,m3,m4,m5,m6,m7,m8,m9,m10,m11,m12,m13,m14,m15]
 | [m0,m1,m2,m3,m4,m5,m6,m7,m8,m9,m10,m11,m12,m13,m14,m15],_=>⟨_,_,_,_,_,_,_,_,_,_,_,_,_,_,_,_,rfl⟩
theorem am_cl (K:List Int) (hK:K.length=32) (hb:IsB K):am (am (K.take 16) 3 15 4) 4 252 3=clL K:=by
 obtain ⟨m0,m1,m2,m3,m4,m5,m6,m7,m8,m9,m10,m11,m12,m13,m14,m15,hM⟩:=list16 (K.take 16) (by rw [List.length_take,hK]; rfl)
 have hB:IsB [m0,m1,m2,m3,m4,m5,m6,m7,m8,m9,m10,m11,m12,m13,m14,m15]:=by rw [← hM]; exact hb.take 16
 have e:K=[m0,m1,m2,m3,m4,m5,m6,m7,m8,m9,m10,m11,m12,m13,m14,m15]++K.drop 16:=by rw [← hM,List.take_append_drop]
 rw [hM,e]
 generalize K.drop 16=R
 have e1:am (am [m0,m1,m2,m3,m4,m5,m6,m7,m8,m9,m10,m11,m12,m13,m14,m15] 3 15 4) 4 252 3=[m0,m1,m2,bits .and .u8 m3 15,bits .and .u8 m4 252,m5,m6,bits .and .u8 m7 15,bits .and .u8 m8 252,m9,m10,bits .and .u8 m11 15,bits .and .u8 m12 252,m13,m14,bits .and .u8 m15 15]:=rfl
 have e2:clL ([m0,m1,m2,m3,m4,m5,m6,m7,m8,m9,m10,m11,m12,m13,m14,m15]++R)=[m0,m1,m2,m3 % 16,m4 / 4 * 4,m5,m6,m7 % 16,m8 / 4 * 4,m9,m10,m11 % 16,m12 / 4 * 4,m13,m14,m15 % 16]:=rfl
 rw [e1,e2,and15 m3 (hB _ (by simp)),and15 m7 (hB _ (by simp)),and15 m11 (hB _ (by simp)),and15 m15 (hB _ (by simp)),and252 m4 (hB _ (by simp)),and252 m8 (hB _ (by simp)),and252 m12 (hB _ (by simp))]
set_option maxHeartbeats 4000000 in
theorem clamp_ok (K:List Int) (hK:K.length=32) (hKb:IsB K) (w:World):Calls Tryz.prog 111 #[.agg (kc K)] w (Tg (clL K) w):=by
 obtain ⟨T,hT⟩:∃ T,T=Tg (clL K) w:=⟨_,rfl⟩
 rw [← hT]
 replace hT:=hide hT
 obtain ⟨SK,hSK⟩:∃ S,S=kc K:=⟨_,rfl⟩
 rw [← hSK]
 replace hSK:=hide hSK
 have hcl:=hide (am_cl K hK hKb)
 replace hKb:=hide hKb
 have hbl4:(K.take 16).length=16:=by rw [List.length_take,hK]; rfl
 have hbl5:(am (K.take 16) 3 15 4).length=16:=by rw [am_len,hbl4]
 go_enter Tryz.func111,Tryz.ntmps111
 go_upto_region 2 with fail
 have hB:=(((Bl.nil w).new SK 23).new #[.int .u8 0,.int .u8 0,.int .u8 0,.int .u8 0,.int .u8 0,.int .u8 0,.int .u8 0,.int .u8 0,.int .u8 0,.int .u8 0,.int .u8 0,.int .u8 0,.int .u8 0,.int .u8 0,.int .u8 0,.int .u8 0] 94).new #[.int .u8 0,.int .u8 0,.int .u8 0,.int .u8 0,.int .u8 0,.int .u8 0,.int .u8 0,.int .u8 0,.int .u8 0,.int .u8 0,.int .u8 0,.int .u8 0,.int .u8 0,.int .u8 0,.int .u8 0,.int .u8 0] 94
 simp only [size_alloc,List.nil_append,List.cons_append] at hB
 generalize World.alloc _ _=u at *
 rw [unhide hSK] at hB
 replace hB:Bl w [⟨w.heap.size,kc K,23⟩,⟨w.heap.size+1,kc ZT,94⟩,⟨w.heap.size+1+1,kc ZT,94⟩] u:=hB
 refine any_start (S:=fun _=>True) (by kernel_rfl) ?_
 replace hB:=hB.drew
 generalize World.drew _=u0 at *
 simp only [List.size_toArray,List.length_cons,List.length_nil,Array.replicate,List.replicate]
 refine any_take (i:=0) (v:=(.slice (some ⟨w.heap.size+1+1,0,none⟩) 16 16)) #[false,false,false] rfl (by kernel_rfl) (by kernel_rfl) (by kernel_rfl) (by kernel_rfl) (fun _ _ _ h=>h) (.inl ⟨by kernel_rfl,fun x_ hu=>by kernel_rfl⟩) trivial ?_
 simp only [nrm]
 refine any_take (i:=1) (v:=(.slice (some ⟨w.heap.size,0,none⟩) 32 32)) #[true,false,false] rfl (by kernel_rfl) (by kernel_rfl) (by kernel_rfl) (by kernel_rfl) (fun _ _ _ h=>h) (.inl ⟨by kernel_rfl,fun x_ hu=>by kernel_rfl⟩) trivial ?_
 simp only [nrm]
 refine any_one (i:=2) (by kernel_rfl) rfl (fun K_ hQ=>?_)
 rw [if_pos (by kernel_rfl)]
 refine copy_wp (.tmp 6) (.tmp 7) rfl (w.heap.size+1+1) 0 16 16 (some ⟨w.heap.size,0,none⟩) 32 32 (by kernel_rfl) (by kernel_rfl) (ZT.map (Value.int .u8)) 94 (hB.get 2 (x:=⟨w.heap.size+1+1,kc ZT,94⟩) rfl) (K.take 16) (by rw [hbl4]; rfl) (.inr ⟨w.heap.size,0,rfl,(kc_at (hB.get 0 (x:=⟨w.heap.size,kc K,23⟩) rfl)).take 16⟩) (by rw [hbl4]; decide) ?_
 have hcell:=laid (S:=K.take 16) (o:=0) (hB.get 2 (x:=⟨w.heap.size+1+1,kc ZT,94⟩) rfl) (by rw [hbl4]; decide)
 have eL:lay ZT 0 (K.take 16)=K.take 16:=by unfold lay; rw [List.take_zero,List.nil_append,List.drop_eq_nil_of_le (by rw [hbl4]; decide),List.append_nil]
 rw [eL] at hcell
 have hB2:=hB.but (setCells_bt ((K.take 16).map (Value.int .u8)) u0 (w.heap.size+1+1) 0) 2 (x:=⟨w.heap.size+1+1,kc ZT,94⟩) rfl rfl hcell
 simp only [List.set_cons_zero,List.set_cons_succ] at hB2
 generalize World.setCells _ _ _ _=u1 at *
 clear hcell hB eL
 refine hQ.out _ _ trivial (fun _=>?_)
 clear hQ K_
 simp only [nrm]
 refine any_done (by kernel_rfl) ?_
 rw [hbl4]
 replace hB2:=hide hB2
 go_wp2_with fail
 go_loopw [4] (fun i wr=>∃ j:Nat,j≤4∧i=.int .i64 ((3+4 * j:Nat):Int)∧Hid (Bl w [⟨w.heap.size,kc K,23⟩,⟨w.heap.size+1,kc ZT,94⟩,⟨w.heap.size+1+1,kc (am (K.take 16) 3 15 j),94⟩] wr)) (fun i _=>20 - (intOf i).toNat)
 case atStart=>exact ⟨0,by omega,rfl,hB2⟩
 case round =>
 clear hB2
 obtain ⟨j,hj,rfl,hB⟩:=hrel
 have hml:=am_len (K.take 16) 3 15 j
 rw [hbl4] at hml
 by_cases hjl:j<4
 ·obtain ⟨q,hq⟩:∃ q,q=3+4 * j:=⟨_,rfl⟩
  rw [← hq]
  have hq16:q<16:=by omega
  have qI:(q:Int)<16:=by omega
  have c1:=kc_cell ((unhide hB).get 2 (x:=⟨w.heap.size+1+1,kc (am (K.take 16) 3 15 j),94⟩) rfl) q (by omega)
  have f1:=froz_of (i:=q) ((unhide hB).get 2 (x:=⟨w.heap.size+1+1,kc (am (K.take 16) 3 15 j),94⟩) rfl)
  obtain ⟨z,hz⟩:∃ z,z=(am (K.take 16) 3 15 j).getD q 0:=⟨_,rfl⟩
  rw [← hz] at c1
  have hB1:=(unhide hB).cell 2 (x:=⟨w.heap.size+1+1,kc (am (K.take 16) 3 15 j),94⟩) rfl q (.int .u8 (bits .and .u8 z 15))
  have hst:(am (K.take 16) 3 15 j).set q (bits .and .u8 z 15)=am (K.take 16) 3 15 (j+1):=by rw [hz,hq]; rfl
  simp only [List.set_cons_zero,List.set_cons_succ,kc_set,hst] at hB1
  replace hB1:=hide hB1
  replace hq:=hide hq
  replace hz:=hide hz
  have i3:IntKind.i64.wrap ((q:Int)+4)=(q:Int)+4:=by rw [IntKind.wrap_i64]; omega
  clear hst hml hB
  generalize am (K.take 16) 3 15 j=MM at *
  go_wp2_with fail
  go_roundw
  case rel=>exact ⟨j+1,by omega,by have:=unhide hq; go_num,hB1⟩
  case measure=>have:=unhide hq; simp [intOf]; omega
 have hj2:j=4:=by omega
 subst hj2
 have qI:¬ ((3+4 * 4:Nat):Int)<16:=by omega
 clear hjl hj hml
 have hB2:=hB
 clear hB
 go_wp2_with fail
 go_loopw [5] (fun i wr=>∃ j:Nat,j≤3∧i=.int .i64 ((4+4 * j:Nat):Int)∧Hid (Bl w [⟨w.heap.size,kc K,23⟩,⟨w.heap.size+1,kc ZT,94⟩,⟨w.heap.size+1+1,kc (am (am (K.take 16) 3 15 4) 4 252 j),94⟩] wr)) (fun i _=>20 - (intOf i).toNat)
 case atStart=>exact ⟨0,by omega,rfl,hB2⟩
 case round =>
 clear hB2
 obtain ⟨j,hj,rfl,hB⟩:=hrel
 have hml:=am_len (am (K.take 16) 3 15 4) 4 252 j
 rw [hbl5] at hml
 by_cases hjl:j<3
 ·obtain ⟨q,hq⟩:∃ q,q=4+4 * j:=⟨_,rfl⟩
  rw [← hq]
  have hq16:q<16:=by omega
  have qI:(q:Int)<16:=by omega
  have c1:=kc_cell ((unhide hB).get 2 (x:=⟨w.heap.size+1+1,kc (am (am (K.take 16) 3 15 4) 4 252 j),94⟩) rfl) q (by omega)
  have f1:=froz_of (i:=q) ((unhide hB).get 2 (x:=⟨w.heap.size+1+1,kc (am (am (K.take 16) 3 15 4) 4 252 j),94⟩) rfl)
  obtain ⟨z,hz⟩:∃ z,z=(am (am (K.take 16) 3 15 4) 4 252 j).getD q 0:=⟨_,rfl⟩
  rw [← hz] at c1
  have hB1:=(unhide hB).cell 2 (x:=⟨w.heap.size+1+1,kc (am (am (K.take 16) 3 15 4) 4 252 j),94⟩) rfl q (.int .u8 (bits .and .u8 z 252))
  have hst:(am (am (K.take 16) 3 15 4) 4 252 j).set q (bits .and .u8 z 252)=am (am (K.take 16) 3 15 4) 4 252 (j+1):=by rw [hz,hq]; rfl
  simp only [List.set_cons_zero,List.set_cons_succ,kc_set,hst] at hB1
  replace hB1:=hide hB1
  replace hq:=hide hq
  replace hz:=hide hz
  have i3:IntKind.i64.wrap ((q:Int)+4)=(q:Int)+4:=by rw [IntKind.wrap_i64]; omega
  clear hst hml hB
  generalize am (am (K.take 16) 3 15 4) 4 252 j=MM at *
  go_wp2_with fail
  go_roundw
  case rel=>exact ⟨j+1,by omega,by have:=unhide hq; go_num,hB1⟩
  case measure=>have:=unhide hq; simp [intOf]; omega
 have hj2:j=3:=by omega
 subst hj2
 have qI:¬ ((4+4 * 3:Nat):Int)<16:=by omega
 clear hjl hj hml
 replace hB:=unhide hB
 rw [unhide hcl] at hB
 have hDl:(clL K).length=16:=clL_len _
 replace hB:=hide hB
 clear hcl hbl4 hbl5
 go_upto_region 11 with fail
 replace hB:=unhide hB
 refine wp_region_lit ?_
 refine list_val (.agg (kc (clL K))) (by kernel_rfl) (exec_arr _ 94 (.tmp 3) rfl (w.heap.size+1+1) (by kernel_rfl) (kc (clL K)) 94 _ (hB.get 2 (x:=⟨w.heap.size+1+1,kc (clL K),94⟩) rfl) Tryz.underlying94 rfl (by rw [Tryz.infoT,kc_size,hDl])) ?_
 simp only [nrm]
 refine list_store 94 (.tmp 2) (.tmp 27) (w.heap.size+1) (kc (clL K)) 94 (kc ZT) (by kernel_rfl) rfl (by kernel_rfl) (by kernel_rfl) (hB.get 1 (x:=⟨w.heap.size+1,kc ZT,94⟩) rfl) (by rw [Tryz.infoT,kc_size,hDl]) ((show (kc ZT).size=16 from rfl).trans ((kc_size _).trans hDl).symm) (kc_one _) ?_
 replace hB:=hB.set 1 (x:=⟨w.heap.size+1,kc ZT,94⟩) rfl (kc (clL K))
 simp only [List.set_cons_zero,List.set_cons_succ] at hB
 generalize World.setRow _ _ _=u8 at *
 simp only [nrm]
 refine wpList_nil ?_
 replace hB:=hide hB
 go_wp2_with fail
 replace hB:=unhide hB
 rw [unhide hT]
 exact bodyPost_ret (v:=.agg (kc (clL K))) (results_cell_row Tryz.results111 _ _ (w.heap.size+1) 94 (kc (clL K)) (0,0) _ rfl (hB.get 1 (x:=⟨w.heap.size+1,kc (clL K),94⟩) rfl) Tryz.underlying94 rfl (by rw [Tryz.infoT,kc_size,hDl])) rfl (⟨rfl,hB.gr⟩)
end Go.Proofs.YthahhglbeafkmaaGreatDoor
namespace Go.Proofs.YthahhglbeafkmaaGreatDoor
open Go.RowKit
set_option maxRecDepth 100000
set_option linter.unusedSimpArgs false
set_option linter.unusedVariables false
structure F5 where
 (a b c d e:Int)
def F5.l (x:F5):List Value:=[.int .u64 x.a,.int .u64 x.b,.int .u64 x.c,.int .u64 x.d,.int .u64 x.e]
def F5.v (x:F5):Int:=v5 x.a x.b x.c x.d x.e
def Fd (x:F5):Prop:=Dg x.a∧Dg x.b∧Dg x.c∧Dg x.d∧Dg x.e
def Fc (n:Int) (x:F5):Prop:=Car n x.a x.b x.c x.d x.e
def cdl (l:List Int) (f:Int) (S M A:F5):List Value:=l.map (Value.int .u8)++(.int .i64 f::(S.l++(M.l++A.l)))
def cd (l:List Int) (f:Int) (S M A:F5):Array Value:=(cdl l f S M A).toArray
def Lies (g:Nat) (l:List Int) (f:Int) (S M A:F5) (w:World):Prop:=l.length=16∧w.heap[g]?=some (.cells (cd l f S M A) 165 (0,0))
theorem Lies.gr {g:Nat} {l:List Int} {f:Int} {S M A:F5} {w v:World} (h:Lies g l f S M A w) (k:Gr w v):Lies g l f S M A v:=⟨h.1,k.blk h.2⟩
theorem cdl_len (l:List Int) (f:Int) (S M A:F5) (h:l.length=16):(cdl l f S M A).length=32:=by unfold cdl F5.l; simp [h]
theorem Lies.rng {g:Nat} {l:List Int} {f:Int} {S M A:F5} {w:World} (h:Lies g l f S M A w) (o:Nat) (X:List Value) (hX:(cdl l f S M A).drop o=X++(cdl l f S M A).drop (o+X.length)):w.rangeAt g o X:=by
 intro j v hj
 refine cell_of h.2 ?_
 unfold cd
 have hlt:=(List.getElem?_eq_some_iff.1 hj).1
 rw [List.getElem?_toArray,← List.getElem?_drop,hX,List.getElem?_append_left hlt]
 exact hj
theorem drop_l (l:List Int) (r:List Value) (h:l.length=16) (k:Nat):(l.map (Value.int .u8)++r).drop (16+k)=r.drop k:=by
 rw [List.drop_append,List.drop_eq_nil_of_le (by simp [h]),List.nil_append,List.length_map,h,Nat.add_sub_cancel_left]
theorem Lies.sum {g:Nat} {l:List Int} {f:Int} {S M A:F5} {w:World} (h:Lies g l f S M A w):w.rangeAt g 17 S.l:=by
 refine h.rng 17 S.l ?_
 unfold cdl
 rw [drop_l l _ h.1 1,show S.l.length=5 from rfl,drop_l l _ h.1 6]
 rfl
theorem Lies.mul {g:Nat} {l:List Int} {f:Int} {S M A:F5} {w:World} (h:Lies g l f S M A w):w.rangeAt g 22 M.l:=by
 refine h.rng 22 M.l ?_
 unfold cdl
 rw [drop_l l _ h.1 6,show M.l.length=5 from rfl,drop_l l _ h.1 11]
 rfl
theorem Lies.add {g:Nat} {l:List Int} {f:Int} {S M A:F5} {w:World} (h:Lies g l f S M A w):w.rangeAt g 27 A.l:=by
 refine h.rng 27 A.l ?_
 unfold cdl
 rw [drop_l l _ h.1 11,show A.l.length=5 from rfl,drop_l l _ h.1 16]
 rfl
theorem Lies.fill {g:Nat} {l:List Int} {f:Int} {S M A:F5} {w:World} (h:Lies g l f S M A w):w.cell? ⟨g,16,none⟩=some (.int .i64 f):=by
 refine cell_of h.2 ?_
 unfold cd cdl
 rw [List.getElem?_toArray,List.getElem?_append_right (by simp [h.1])]
 simp [h.1]
theorem Lies.left {g:Nat} {l:List Int} {f:Int} {S M A:F5} {w:World} (h:Lies g l f S M A w):At w g 0 l:=by
 intro j hj
 refine cell_of h.2 ?_
 unfold cd cdl
 rw [List.getElem?_toArray,Nat.zero_add,List.getElem?_append_left (by simpa using hj)]
 simp [hj]
theorem Lies.setS {g:Nat} {l:List Int} {f:Int} {S M A:F5} {w:World} (h:Lies g l f S M A w) (S':F5):Lies g l f S' M A (w.setCells g 17 S'.l):=by
 refine ⟨h.1,?_⟩
 rw [setCells_heap _ w g 17 _ _ h.2]
 have e:=sp_mid S'.l (l.map (Value.int .u8)++[.int .i64 f]) S.l (M.l++A.l) rfl
 have e1:(l.map (Value.int .u8)++[Value.int .i64 f]).length=17:=by simp [h.1]
 rw [e1] at e
 have e2:cdl l f S M A=l.map (Value.int .u8)++[Value.int .i64 f]++(S.l++(M.l++A.l)):=by unfold cdl; simp
 have e3:cdl l f S' M A=l.map (Value.int .u8)++[Value.int .i64 f]++(S'.l++(M.l++A.l)):=by unfold cdl; simp
 rw [e2,e,← e3]
 rfl
theorem Lies.setF {g:Nat} {l:List Int} {f:Int} {S M A:F5} {w:World} (h:Lies g l f S M A w) (f':Int):Lies g l f' S M A (w.setCell ⟨g,16,none⟩ (.int .i64 f')):=by
 refine ⟨h.1,?_⟩
 rw [heap_setCell_same w g 16 _ _ _ h.2]
 unfold cd
 rw [List.setIfInBounds_toArray]
 have e:(cdl l f S M A).set 16 (.int .i64 f')=cdl l f' S M A:=by
  unfold cdl
  rw [List.set_append_right _ _ (by simp [h.1])]
  simp [h.1]
 rw [e]
theorem Lies.setL {g:Nat} {l:List Int} {f:Int} {S M A:F5} {w:World} (h:Lies g l f S M A w) (o:Nat) (B:List Int) (ho:o+B.length≤16):Lies g (lay l o B) f S M A (w.setCells g o (B.map (Value.int .u8))):=by
 have hl:=h.1
 refine ⟨by rw [lay_len _ _ _ (by omega),hl],?_⟩
 rw [setCells_heap _ w g o _ _ h.2]
 have e:cdl l f S M A=(l.take o).map (Value.int .u8)++(((l.drop o).take B.length).map (Value.int .u8)++((l.drop (o+B.length)).map (Value.int .u8)++(.int .i64 f::(S.l++(M.l++A.l))))):=by
  unfold cdl
  generalize (Value.int .i64 f::(S.l++(M.l++A.l)))=R
  rw [← List.append_assoc,← List.append_assoc,← List.map_append,← List.map_append]
  congr 2
  rw [List.append_assoc,← List.drop_drop,List.take_append_drop,List.take_append_drop]
 have h1:=sp_mid (B.map (Value.int .u8)) ((l.take o).map (Value.int .u8)) (((l.drop o).take B.length).map (Value.int .u8)) ((l.drop (o+B.length)).map (Value.int .u8)++(.int .i64 f::(S.l++(M.l++A.l)))) (by simp; omega)
 rw [List.length_map,List.length_take,Nat.min_eq_left (by omega),← e] at h1
 rw [h1]
 unfold cd cdl lay
 simp
theorem exec_five {op:Oper} {a:Act} (w:World) (x:Operand) (ho:op.op=.load 160 x) (g o:Nat) (hx:a.eval x=.pointer (some ⟨g,o,none⟩)) (X:F5) (h:w.rangeAt g o X.l):(execOp a.eval op).run Tryz.prog w=.ok (.value (.agg (fc X.a X.b X.c X.d X.e))) w:=by
 have:=exec_row (P:=Tryz.prog) w 160 x ho g o hx X.l _ h Tryz.underlying160 rfl Tryz.infoPL
 exact this
theorem store_five {ops:Array Oper} {Q:Exit→Act→World→Prop} {a:Act} {w:World} {o:Oper} {K:Act→World→Prop} {E:Prop} (x y:Operand) (g off:Nat) (X:F5) (hw:Region.wanted o (yielded ops a.tmps)=true) (ho:o.op=.store 160 x y)
  (hx:a.eval x=.pointer (some ⟨g,off,none⟩)) (hy:a.eval y=.agg (fc X.a X.b X.c X.d X.e)) (ht:w.there g off 5)
  (h:K (a.put o.dst undef) (w.setCells g off X.l)):if Region.wanted o (yielded ops a.tmps)=true then Oper.wp Tryz.prog o a w K Q else E:=by
 rw [if_pos hw]
 exact wp_store_mid 160 x y ho g off (fc X.a X.b X.c X.d X.e) hx hy ht Tryz.infoPL (fc_one _ _ _ _ _) h
theorem Lies.there {g:Nat} {l:List Int} {f:Int} {S M A:F5} {w:World} (h:Lies g l f S M A w) (o n:Nat) (hn:o+n≤32):w.there g o n:=there_of h.2 (by rw [cdl_len _ _ _ _ _ h.1]; exact hn)
def acF (r a0:Nat) (B:List Int):Nat→Nat
 | 0=>a0
 | k+1=>(acF r a0 B k+bN B k) * r % P5
theorem acc_step (x:Int) (n b r:Nat) (h:x % 1361129467683753853853498429727072845819=(n:Int)):(x+(b:Int)) * (r:Int) % 1361129467683753853853498429727072845819=(((n+b) * r % P5:Nat):Int):=by
 rw [Int.natCast_emod,Int.natCast_mul,Int.natCast_add,← h,P5_eq,show ((1361129467683753853853498429727072845819:Nat):Int)=1361129467683753853853498429727072845819 from rfl]
 have hx:x=1361129467683753853853498429727072845819 * (x / 1361129467683753853853498429727072845819)+x % 1361129467683753853853498429727072845819:=by omega
 generalize x % 1361129467683753853853498429727072845819=y at *
 generalize x / 1361129467683753853853498429727072845819=q at *
 subst hx
 have e:(1361129467683753853853498429727072845819 * q+y+(b:Int)) * (r:Int)=(y+b) * r+1361129467683753853853498429727072845819 * (q * r):=by
  rw [show 1361129467683753853853498429727072845819 * q+y+(b:Int)=1361129467683753853853498429727072845819 * q+(y+b) from by omega,Int.add_mul,Int.mul_assoc,Int.add_comm]
 rw [e,Int.add_mul_emod_self_left]
theorem lowN_blk (B:List Int) (k:Nat) (hb:IsB B) (h:16 * (k+1)≤B.length):lowN ((B.drop (16 * k)).take 16)+340282366920938463463374607431768211456=((bN B k:Nat):Int):=by
 have hB:=(hb.drop (16 * k)).take 16
 have hl:((B.drop (16 * k)).take 16).length=16:=by rw [List.length_take,List.length_drop]; omega
 rw [lowN_V _ hB]
 unfold bN
 rw [V_snoc,nb_len,hl]
 have e:(256:Nat) ^ 16=340282366920938463463374607431768211456:=by decide
 rw [e]
 omega
def Off (g:Nat) (l:List Int) (f:Int) (M A:F5) (w:World) (a:Option Addr) (n c:Nat) (B:List Int):Prop:=∀ v S,Bt g w v→Lies g l f S M A v→Lb v a n c B
structure pTI (r n0:Nat) (g:Nat) (l:List Int) (f:Int) (M A:F5) (B:List Int) (w:World) (j:Nat) (S:F5) (v:World):Prop where
 lies:Lies g l f S M A v
 car:Fc ((acF r n0 B j:Nat):Int) S
 bt:Bt g w v
def pTook (r n0:Nat) (g:Nat) (l:List Int) (f:Int) (M A:F5) (B:List Int) (w:World) (e:Ending) (v:World):Prop:=∃ a' c' S,e=.returned (.slice a' (B.length % 16) c')∧Off g l f M A w a' (B.length % 16) c' (B.drop (16 * (B.length / 16)))∧pTI r n0 g l f M A B w (B.length / 16) S v
theorem pTI.gr {r n0:Nat} {g:Nat} {l:List Int} {f:Int} {M A:F5} {B:List Int} {w:World} {j:Nat} {S:F5} {u v:World} (h:pTI r n0 g l f M A B w j S u) (k:Gr u v):pTI r n0 g l f M A B w j S v:=⟨h.lies.gr k,h.car,h.bt.trans (k.bt g)⟩
theorem pTI.step {r n0:Nat} {g:Nat} {l:List Int} {f:Int} {M A:F5} {B:List Int} {w:World} {j:Nat} {S:F5} {v:World} (h:pTI r n0 g l f M A B w j S v) (S':F5) (hS:Fc ((acF r n0 B (j+1):Nat):Int) S'):pTI r n0 g l f M A B w (j+1) S' (v.setCells g 17 S'.l) :=
 ⟨h.lies.setS S',hS,h.bt.trans (setCells_bt _ v g 17)⟩
theorem or_top (x:Int) (h:0≤x∧x<16777216):bits .or .u64 x 16777216=x+16777216:=or_add x 16777216 24 (by rw [show ((2 ^ 24:Nat):Int)=16777216 from rfl]; omega) (by omega) (by omega) (by omega) (by rw [show ((2 ^ 24:Nat):Int)=16777216 from rfl]; omega)
theorem v5_top (a b c d e:Int):v5 a b c d (e+16777216)=v5 a b c d e+340282366920938463463374607431768211456:=by unfold v5; omega
theorem v5_add (a b c d e f g h i j:Int):v5 (a+f) (b+g) (c+h) (d+i) (e+j)=v5 a b c d e+v5 f g h i j:=by unfold v5; omega
theorem Off.rest {g:Nat} {l:List Int} {f:Int} {M A:F5} {w:World} {a:Option Addr} {n c:Nat} {B:List Int} (h:Off g l f M A w a n c B) (k:Nat) (hk:k≤n):Off g l f M A w (if c=k then a else a.map (·.add k)) (n - k) (c - k) (B.drop k):=fun v S h1 h2=>(h v S h1 h2).rest k hk
theorem exec_to16 {a:Act} {op:Oper} (w:World) (x y:Operand) (ho:op.op=.slice 43 x none (some y) none) (p o n cap:Nat) (hx:a.eval x=.slice (some ⟨p,o,none⟩) n cap) (hy:a.eval y=.int .i64 (16:Nat)) (hc:n≤cap) (hn:16≤n) :
  (execOp a.eval op).run Tryz.prog w=.ok (.value (.slice (some ⟨p,o,none⟩) 16 cap)) w:=by
 have h:=exec_upto w x y ho (some ⟨p,o,none⟩) n cap 16 hx hy hc hn
 rw [if_neg (by omega),Option.map_some,add_zero] at h
 exact h
set_option maxHeartbeats 8000000 in
theorem ptake_ok (r n0:Nat) (g:Nat) (l:List Int) (f:Int) (S0 M A:F5) (hMd:Fd M) (hMr:M.v=(r:Int)) (B:List Int) (a:Option Addr) (n cap:Nat) (hB0:B.length=n) (hb:IsB B) (w:World) (hL:Lies g l f S0 M A w) (hc0:Fc (n0:Int) S0) (hO:Off g l f M A w a n cap B) :
  Calls Tryz.prog 114 #[.pointer (some ⟨g,0,none⟩),.slice a n cap] w (pTook r n0 g l f M A B w):=by
 obtain ⟨N,hN⟩:∃ N,N=B.length:=⟨_,rfl⟩
 have hnN:n=N:=by rw [hN,hB0]
 subst hnN
 clear hB0
 obtain ⟨T,hT0⟩:∃ T,T=pTook r n0 g l f M A B w:=⟨_,rfl⟩
 rw [← hT0]
 replace hT0:=hide hT0
 replace hN:=hide hN
 replace hb:=hide hb
 have hgw:g<w.heap.size:=lt_of_block hL.2
 have hT:Hid (pTI r n0 g l f M A B w 0 S0 w):=⟨hL,hc0,Bt.refl g w⟩
 replace hO:=hide hO
 replace hMr:=hide hMr
 clear hL hc0
 go_enter Tryz.func114,Tryz.ntmps114
 go_wp2_with fail
 go_loopw [1] (fun b wr=>∃ (j:Nat) (a:Option Addr) (c:Nat) (S:F5),b=.slice a (n - 16 * j) c∧16 * j≤n∧Hid (Off g l f M A w a (n - 16 * j) c (B.drop (16 * j)))∧Hid (pTI r n0 g l f M A B w j S wr)) (fun b _=>slen b)
 case atStart=>exact ⟨0,a,cap,S0,rfl,by omega,by simpa using hO,hT⟩
 case round =>
 clear hT hO
 obtain ⟨j,a',c,S,rfl,hj,hO,hT⟩:=hrel
 obtain ⟨m,hm⟩:∃ m,m=n - 16 * j:=⟨_,rfl⟩
 rw [← hm] at hO
 rw [← hm]
 replace hT:=unhide hT
 replace hO:=unhide hO
 have hlb:=hO wr S hT.bt hT.lies
 have hcm:=hlb.cap
 have hcb:=hlb.max
 have hlm:=hlb.len
 have hmn:m≤n∧(16≤m→m - 16=n - 16 * (j+1)∧16 * (j+1)≤n)∧(¬ 16≤m→j=n / 16∧m=n % 16):=by omega
 replace hm:=hide hm
 replace hmn:=hide hmn
 by_cases hm16:16≤m
 ·obtain ⟨p,o,ha,hat⟩:=(show ∃ p o,a'=some ⟨p,o,none⟩∧At wr p o (B.drop (16 * j)) by
   rcases hlb.sl with h0 | h0
   ·have:=hlb.len; rw [h0] at this; simp at this; omega
   ·exact h0)
  subst ha
  have hat5:Hid (At wr p o ((B.drop (16 * j)).take 16)):=hat.take 16
  have hb5:Hid (IsB ((B.drop (16 * j)).take 16)):=((unhide hb).drop (16 * j)).take 16
  have hl5:Hid (((B.drop (16 * j)).take 16).length=16):=by
   show List.length _=16
   rw [List.length_take,hlb.len]
   omega
  have hgr0:g<wr.heap.size:=Nat.lt_of_lt_of_le hgw hT.bt.size
  have mI:16≤(m:Int):=by omega
  have cI:16≤(c:Int):=by omega
  have mI2:¬ (m:Int)<16:=by omega
  clear hlb hat hlm
  replace hT:=hide hT
  replace hO:=hide hO
  go_upto_region 2 with fail
  replace hT:=unhide hT
  refine wp_region_lit ?_
  refine list_val (.slice (some ⟨p,o,none⟩) m c) (by kernel_rfl) (by kernel_rfl) ?_
  simp only [nrm]
  refine list_val (.slice (some ⟨p,o,none⟩) 16 c) (by kernel_rfl) (exec_to16 _ (.tmp 9) (.const (.int .i64 16)) rfl p o m c (by kernel_rfl) (by kernel_rfl) hcm hm16) ?_
  simp only [nrm]
  refine list_call 112 #[.slice (some ⟨p,o,none⟩) 16 c] (by kernel_rfl) (by kernel_rfl) ((number_ok ((B.drop (16 * j)).take 16) p o c (unhide hl5) (unhide hb5) (by omega) hcb _ (unhide hat5)).mono ?_)
  rintro r x1 ⟨y0,y1,y2,y3,y4,rfl,hy0,hy1,hy2,hy3,hy4,hyv,hgr⟩
  refine ⟨_,rfl,?_⟩
  have hx1g:=Nat.lt_of_lt_of_le hgr0 hgr.size
  replace hT:=hT.gr hgr
  clear hgr
  simp only [nrm]
  replace hT:=hide hT
  (refine wpList_step fun K hK=>?_; replace hK:=hide hK; go_simp; refine unhide hK _ _ ?_; clear hK K)
  have hB:=(Bl.nil x1).new #[.int .u64 0,.int .u64 0,.int .u64 0,.int .u64 0,.int .u64 0] 160
  simp only [List.nil_append] at hB
  generalize World.alloc _ _=x2 at *
  obtain ⟨gn,hgn⟩:∃ q,q=x1.heap.size:=⟨_,rfl⟩
  rw [← hgn] at hB ⊢
  replace hB:Bl x1 [⟨gn,fc 0 0 0 0 0,160⟩] x2:=hB
  replace hT:=unhide hT
  refine list_store 160 (.tmp 5) (.tmp 11) gn (fc y0 y1 y2 y3 y4) 160 (fc 0 0 0 0 0) (by kernel_rfl) rfl (by kernel_rfl) (by kernel_rfl) (hB.get 0 (x:=⟨gn,fc 0 0 0 0 0,160⟩) rfl) Tryz.infoPL rfl (fc_one _ _ _ _ _) ?_
  replace hB:=hB.set 0 (x:=⟨gn,fc 0 0 0 0 0,160⟩) rfl (fc y0 y1 y2 y3 y4)
  simp only [List.set_cons_zero,List.set_cons_succ] at hB
  generalize World.setRow _ _ _=x3 at *
  simp only [nrm]
  refine wpList_nil ?_
  have htop:=or_top y4 hy4
  replace hB:=hide hB; replace hT:=hide hT; replace hgn:=hide hgn
  have hx1:Hid (g<x1.heap.size):=hx1g
  replace hyv:=hide hyv
  replace hy0:=hide hy0; replace hy1:=hide hy1; replace hy2:=hide hy2; replace hy3:=hide hy3; replace hy4:=hide hy4
  go_upto_region 3 with fail
  replace hB:=unhide hB
  refine wp_region_lit ?_
  refine list_val (.pointer (some ⟨gn,4,none⟩)) (by kernel_rfl) (by kernel_rfl) ?_
  simp only [nrm]
  refine list_val (.int .u64 y4) (by kernel_rfl) (exec_u64 _ (.tmp 12) rfl gn 4 (by kernel_rfl) y4 (cell_of (hB.get 0 (x:=⟨gn,fc y0 y1 y2 y3 y4,160⟩) rfl) rfl)) ?_
  simp only [nrm]
  refine list_val (.int .u64 (y4+16777216)) (by kernel_rfl) (by go_simp) ?_
  simp only [nrm]
  refine list_val (.pointer (some ⟨gn,4,none⟩)) (by kernel_rfl) (by kernel_rfl) ?_
  simp only [nrm]
  have c4:World.cell? _ ⟨gn,4,none⟩=some (.int .u64 y4):=cell_of (hB.get 0 (x:=⟨gn,fc y0 y1 y2 y3 y4,160⟩) rfl) rfl
  have fz:=froz_of (i:=4) (hB.get 0 (x:=⟨gn,fc y0 y1 y2 y3 y4,160⟩) rfl)
  have hB2:=hB.cell 0 (x:=⟨gn,fc y0 y1 y2 y3 y4,160⟩) rfl 4 (.int .u64 (y4+16777216))
  simp only [List.set_cons_zero,List.set_cons_succ,fc_set4] at hB2
  clear hB
  replace hB2:=hide hB2
  (refine wpList_step fun K hK=>?_; replace hK:=hide hK; go_simp; refine unhide hK _ _ ?_; clear hK K)
  clear c4 fz
  refine wpList_nil ?_
  generalize World.setCell _ _ _=x4 at *
  go_upto_region 4 with fail
  have hB:=unhide hB2
  clear hB2 htop
  replace hT:=(unhide hT).gr hB.gr
  refine any_start (S:=fun v=>v.heap[gn]?=some (.cells (fc y0 y1 y2 y3 (y4+16777216)) 160 (0,0))∧v.rangeAt g 22 M.l) (by kernel_rfl) ?_
  replace hB:=hB.drew
  replace hT:=hT.gr (Gr.refl _).drew
  have hS:(World.drew x4).heap[gn]?=some (.cells (fc y0 y1 y2 y3 (y4+16777216)) 160 (0,0))∧World.rangeAt (World.drew x4) g 22 M.l:=⟨hB.get 0 (x:=⟨gn,fc y0 y1 y2 y3 (y4+16777216),160⟩) rfl,hT.lies.mul⟩
  generalize World.drew _=x40 at *
  have hng:gn≠g:=by
   have h1:=unhide hgn
   have h2:=unhide hx1
   omega
  obtain ⟨ca,cb,cc,cd_,ce,-,cm⟩:=hT.car
  replace hy0:=unhide hy0; replace hy1:=unhide hy1; replace hy2:=unhide hy2; replace hy3:=unhide hy3; replace hy4:=unhide hy4
  unfold Dg at cb cc cd_ ce hy0 hy1 hy2 hy3
  have sm0:Sm S.a:=by unfold Sm; omega
  have sm1:Sm S.b:=by unfold Sm; omega
  have sm2:Sm S.c:=by unfold Sm; omega
  have sm3:Sm S.d:=by unfold Sm; omega
  have sm4:Sm S.e:=by unfold Sm; omega
  have sm5:Sm y0:=by unfold Sm; omega
  have sm6:Sm y1:=by unfold Sm; omega
  have sm7:Sm y2:=by unfold Sm; omega
  have sm8:Sm y3:=by unfold Sm; omega
  have sm9:Sm (y4+16777216):=by unfold Sm; omega
  have tm0:0≤S.a+y0∧S.a+y0<268435456:=by omega
  have tm1:0≤S.b+y1∧S.b+y1<268435456:=by omega
  have tm2:0≤S.c+y2∧S.c+y2<268435456:=by omega
  have tm3:0≤S.d+y3∧S.d+y3<268435456:=by omega
  have tm4:0≤S.e+(y4+16777216)∧S.e+(y4+16777216)<268435456:=by omega
  have hval:v5 (S.a+y0) (S.b+y1) (S.c+y2) (S.d+y3) (S.e+(y4+16777216)) * v5 M.a M.b M.c M.d M.e % 1361129467683753853853498429727072845819=((acF r n0 B (j+1):Nat):Int):=by
   have e1:=unhide hyv
   have e2:v5 M.a M.b M.c M.d M.e=(r:Int):=hMr
   rw [v5_add,v5_top,e1,lowN_blk B j (unhide hb) (by rw [← unhide hN]; exact ((unhide hmn).2.1 hm16).2),e2]
   exact acc_step _ _ _ _ cm
  clear ca cb cc cd_ ce cm hy0 hy1 hy2 hy3 hy4
  simp only [List.size_toArray,List.length_cons,List.length_nil,Array.replicate,List.replicate]
  refine any_take (i:=0) (v:=(.pointer (some ⟨g,0,none⟩))) #[false,false,false,false,false,false,false,false,false,false,false,false,false,false,false] rfl (by kernel_rfl) (by kernel_rfl) (by kernel_rfl) (by kernel_rfl) (fun _ _ _ h=>h) (.inl ⟨by kernel_rfl,fun x_ hu=>by kernel_rfl⟩) hS ?_
  simp only [nrm]
  refine any_take (i:=1) (v:=(.pointer (some ⟨g,0,none⟩))) #[true,false,false,false,false,false,false,false,false,false,false,false,false,false,false] rfl (by kernel_rfl) (by kernel_rfl) (by kernel_rfl) (by kernel_rfl) (fun _ _ _ h=>h) (.inl ⟨by kernel_rfl,fun x_ hu=>by kernel_rfl⟩) hS ?_
  simp only [nrm]
  refine any_take (i:=2) (v:=(.pointer (some ⟨g,0,none⟩))) #[true,true,false,false,false,false,false,false,false,false,false,false,false,false,false] rfl (by kernel_rfl) (by kernel_rfl) (by kernel_rfl) (by kernel_rfl) (fun _ _ _ h=>h) (.inl ⟨by kernel_rfl,fun x_ hu=>by kernel_rfl⟩) hS ?_
  simp only [nrm]
  refine any_take (i:=3) (v:=(.pointer (some ⟨g,17,none⟩))) #[true,true,true,false,false,false,false,false,false,false,false,false,false,false,false] rfl (by kernel_rfl) (by kernel_rfl) (by kernel_rfl) (by kernel_rfl) (fun _ _ _ h=>h) (.inl ⟨by kernel_rfl,fun x_ hu=>by kernel_rfl⟩) hS ?_
  simp only [nrm]
  refine any_take (i:=5) (v:=(.agg (fc y0 y1 y2 y3 (y4+16777216)))) #[true,true,true,true,false,false,false,false,false,false,false,false,false,false,false] rfl (by kernel_rfl) (by kernel_rfl) (by kernel_rfl) (by kernel_rfl) (fun _ _ _ h=>h) (.inl ⟨by kernel_rfl,fun x_ hu=>exec_arr _ 160 (.tmp 5) rfl gn (by kernel_rfl) (fc y0 y1 y2 y3 (y4+16777216)) 160 _ hu.1 Tryz.underlying160 rfl Tryz.infoPL⟩) hS ?_
  simp only [nrm]
  refine any_take (i:=7) (v:=(.pointer (some ⟨g,0,none⟩))) #[true,true,true,true,false,true,false,false,false,false,false,false,false,false,false] rfl (by kernel_rfl) (by kernel_rfl) (by kernel_rfl) (by kernel_rfl) (fun _ _ _ h=>h) (.inl ⟨by kernel_rfl,fun x_ hu=>by kernel_rfl⟩) hS ?_
  simp only [nrm]
  refine any_take (i:=8) (v:=(.pointer (some ⟨g,0,none⟩))) #[true,true,true,true,false,true,false,true,false,false,false,false,false,false,false] rfl (by kernel_rfl) (by kernel_rfl) (by kernel_rfl) (by kernel_rfl) (fun _ _ _ h=>h) (.inl ⟨by kernel_rfl,fun x_ hu=>by kernel_rfl⟩) hS ?_
  simp only [nrm]
  refine any_take (i:=9) (v:=(.pointer (some ⟨g,22,none⟩))) #[true,true,true,true,false,true,false,true,true,false,false,false,false,false,false] rfl (by kernel_rfl) (by kernel_rfl) (by kernel_rfl) (by kernel_rfl) (fun _ _ _ h=>h) (.inl ⟨by kernel_rfl,fun x_ hu=>by kernel_rfl⟩) hS ?_
  simp only [nrm]
  refine any_take (i:=10) (v:=(.agg (fc M.a M.b M.c M.d M.e))) #[true,true,true,true,false,true,false,true,true,true,false,false,false,false,false] rfl (by kernel_rfl) (by kernel_rfl) (by kernel_rfl) (by kernel_rfl) (fun _ _ _ h=>h) (.inl ⟨by kernel_rfl,fun x_ hu=>exec_five _ (.tmp 25) rfl g 22 (by kernel_rfl) M hu.2⟩) hS ?_
  simp only [nrm]
  refine any_one (i:=4) (by kernel_rfl) rfl (fun K hK=>?_)
  refine step_val (.agg (fc S.a S.b S.c S.d S.e)) _ (by kernel_rfl) (exec_five _ (.tmp 19) rfl g 17 (by kernel_rfl) S hT.lies.sum) ?_
  refine hK.out _ _ hS (fun _=>?_)
  clear hK K
  simp only [nrm]
  refine any_one (i:=6) (by kernel_rfl) rfl (fun K hK=>?_)
  refine step_callw (by kernel_rfl) 117 #[.agg (fc S.a S.b S.c S.d S.e),.agg (fc y0 y1 y2 y3 (y4+16777216))] (by kernel_rfl) ((plus_ok S.a S.b S.c S.d S.e y0 y1 y2 y3 (y4+16777216) sm0 sm1 sm2 sm3 sm4 sm5 sm6 sm7 sm8 sm9 _).mono ?_)
  rintro r x5 ⟨rfl,hgr⟩
  refine ⟨_,rfl,?_⟩
  replace hT:=hT.gr hgr
  replace hS:_∧_:=⟨hgr.blk hS.1,hT.lies.mul⟩
  clear hgr
  refine hK.out _ _ hS (fun _=>?_)
  clear hK K
  simp only [nrm]
  refine any_one (i:=11) (by kernel_rfl) rfl (fun K hK=>?_)
  refine step_callw (by kernel_rfl) 128 #[.agg (fc (S.a+y0) (S.b+y1) (S.c+y2) (S.d+y3) (S.e+(y4+16777216))),.agg (fc M.a M.b M.c M.d M.e)] (by kernel_rfl) ((times_ok (S.a+y0) (S.b+y1) (S.c+y2) (S.d+y3) (S.e+(y4+16777216)) M.a M.b M.c M.d M.e tm0 tm1 tm2 tm3 tm4 hMd.1 hMd.2.1 hMd.2.2.1 hMd.2.2.2.1 hMd.2.2.2.2 _).mono ?_)
  rintro r x6 ⟨z0,z1,z2,z3,z4,rfl,hz0,hgr⟩
  refine ⟨_,rfl,?_⟩
  have hz:Fc ((acF r n0 B (j+1):Nat):Int) ⟨z0,z1,z2,z3,z4⟩:=by
   rw [hval] at hz0
   exact hz0
  clear hz0
  replace hT:=hT.gr hgr
  replace hS:_∧_:=⟨hgr.blk hS.1,hT.lies.mul⟩
  clear hgr
  refine hK.out _ _ hS (fun _=>?_)
  clear hK K
  simp only [nrm]
  refine any_take (i:=12) (v:=(.pointer (some ⟨g,0,none⟩))) #[true,true,true,true,true,true,true,true,true,true,true,true,false,false,false] rfl (by kernel_rfl) (by kernel_rfl) (by kernel_rfl) (by kernel_rfl) (fun _ _ _ h=>h) (.inl ⟨by kernel_rfl,fun x_ hu=>by kernel_rfl⟩) hS ?_
  simp only [nrm]
  refine any_take (i:=13) (v:=(.pointer (some ⟨g,17,none⟩))) #[true,true,true,true,true,true,true,true,true,true,true,true,true,false,false] rfl (by kernel_rfl) (by kernel_rfl) (by kernel_rfl) (by kernel_rfl) (fun _ _ _ h=>h) (.inl ⟨by kernel_rfl,fun x_ hu=>by kernel_rfl⟩) hS ?_
  simp only [nrm]
  refine any_one (i:=14) (by kernel_rfl) rfl (fun K hK=>?_)
  refine store_five (.tmp 29) (.tmp 27) g 17 ⟨z0,z1,z2,z3,z4⟩ (by kernel_rfl) rfl (by kernel_rfl) (by kernel_rfl) (hT.lies.there 17 5 (by omega)) ?_
  have hT3:=hT.step ⟨z0,z1,z2,z3,z4⟩ hz
  have hS3:(World.setCells x6 g 17 (F5.l ⟨z0,z1,z2,z3,z4⟩)).heap[gn]?=some (.cells (fc y0 y1 y2 y3 (y4+16777216)) 160 (0,0))∧World.rangeAt (World.setCells x6 g 17 (F5.l ⟨z0,z1,z2,z3,z4⟩)) g 22 M.l:=⟨(setCells_other _ _ g 17 gn hng).trans hS.1,hT3.lies.mul⟩
  refine hK.out _ _ hS3 (fun _=>?_)
  clear hK K hS3 hT
  simp only [nrm]
  generalize World.setCells _ _ _ _=x7 at *
  refine any_done (by kernel_rfl) ?_
  have hO4:=(unhide hO).rest 16 hm16
  rw [List.drop_drop,show 16 * j+16=16 * (j+1) from by omega] at hO4
  replace hO4:=hide hO4
  replace hT3:=hide hT3
  clear hO hS hval sm0 sm1 sm2 sm3 sm4 sm5 sm6 sm7 sm8 sm9 tm0 tm1 tm2 tm3 tm4 hz
  go_upto_region 5 with fail
  refine wp_region_lit ?_
  refine list_val (.slice (some ⟨p,o,none⟩) m c) (by kernel_rfl) (by kernel_rfl) ?_
  simp only [nrm]
  refine list_val (.slice (if c=16 then some ⟨p,o,none⟩ else (some (⟨p,o,none⟩:Addr)).map (·.add 16)) (m - 16) (c - 16)) (by kernel_rfl) (exec_from _ (.tmp 30) (.const (.int .i64 16)) rfl (some ⟨p,o,none⟩) m c 16 (by kernel_rfl) (by kernel_rfl) hcm hm16) ?_
  simp only [nrm]
  generalize (if c=16 then some ⟨p,o,none⟩ else (some (⟨p,o,none⟩:Addr)).map (·.add 16))=a9 at *
  (refine wpList_step fun K hK=>?_; replace hK:=hide hK; go_simp; refine unhide hK _ _ ?_; clear hK K)
  refine wpList_nil ?_
  have em:m - 16=n - 16 * (j+1):=((unhide hmn).2.1 hm16).1
  rw [em] at hO4
  replace em:=hide em
  go_wp2_with fail
  refine ⟨⟨j+1,a9,c - 16,⟨z0,z1,z2,z3,z4⟩,by rw [unhide em],((unhide hmn).2.1 hm16).2,hO4,hT3⟩,?_⟩
  show m - 16<m
  omega
 ·have mI:¬ 16≤(m:Int):=by omega
  have e0:j=n / 16:=((unhide hmn).2.2 hm16).1
  have e1:m=n % 16:=((unhide hmn).2.2 hm16).2
  have hT5:Hid (pTook r n0 g l f M A B w (.returned (.slice a' m c)) wr):=by
   refine ⟨a',c,S,?_,?_,?_⟩
   ·rw [← unhide hN,e1]
   ·rw [← unhide hN,← e1,← e0]
    exact hO
   ·rw [← unhide hN,← e0]
    exact hT
  clear hT hO hlb e0 e1 hlm
  go_wp2_with fail
  show T (.returned (.slice a' m c)) wr
  rw [unhide hT0]
  exact unhide hT5
end Go.Proofs.YthahhglbeafkmaaGreatDoor
namespace Go.Proofs.YthahhglbeafkmaaGreatDoor
open Go.RowKit
set_option maxRecDepth 100000
set_option linter.unusedSimpArgs false
set_option linter.unusedVariables false
def rK (K:List Int):Nat:=V (nb (clL K))
def sK (K:List Int):Nat:=V (nb (K.drop 16))
def Cd (K:List Int) (g:Nat) (L:List Int) (w:World):Prop:=∃ l S M A,Lies g l ((L.length % 16:Nat):Int) S M A w∧IsB l∧l.take (L.length % 16)=L.drop (16 * (L.length / 16))∧Fc ((acN (rK K) L (L.length / 16):Nat):Int) S∧Fd M∧M.v=(rK K:Int)∧Fd A∧A.v=(sK K:Int)
theorem bN_left {L:List Int} (P:List Int) (k:Nat) (h:16 * (k+1)≤L.length):bN (L++P) k=bN L k:=by
 unfold bN
 rw [List.drop_append_of_le_length (by omega),List.take_append_of_le_length (by rw [List.length_drop]; omega)]
theorem acN_left (r:Nat) {L:List Int} (P:List Int):∀ k,16 * k≤L.length→acN r (L++P) k=acN r L k
 | 0,_=>rfl
 | k+1,h=>by rw [acN,acN,acN_left r P k (by omega),bN_left P k h]
theorem acN_append (r:Nat) {L:List Int} (P:List Int) (m:Nat) (hL:L.length=16 * m):∀ k,acN r (L++P) (m+k)=acF r (acN r L m) P k
 | 0=>acN_left r P m (by omega)
 | k+1=>by
  have e:m+(k+1)=(m+k)+1:=by omega
  have e2:bN (L++P) (m+k)=bN P k:=by
   unfold bN
   rw [Nat.mul_add,← List.drop_drop,← hL,List.drop_left]
  rw [e,acN,acF,acN_append r P m hL k,e2]
theorem lay_zero (l B:List Int):(lay l 0 B).take B.length=B:=by
 unfold lay
 simp
theorem lay_take (l B:List Int) (f:Nat) (hf:f≤l.length):(lay l f B).take (f+B.length)=l.take f++B:=by
 unfold lay
 rw [← List.append_assoc]
 have e:(l.take f++B).length=f+B.length:=by rw [List.length_append,List.length_take,Nat.min_eq_left hf]
 rw [← e,List.take_left]
theorem Cd.whole {K:List Int} {g:Nat} {L P l:List Int} {S M A:F5} {v:World} (hL:L.length % 16=0) (h1:Lies g (lay l 0 (P.drop (16 * (P.length / 16)))) ((P.length % 16:Nat):Int) S M A v) (h2:IsB l) (h3:IsB P)
  (h4:Fc ((acF (rK K) (acN (rK K) L (L.length / 16)) P (P.length / 16):Nat):Int) S) (h5:Fd M) (h6:M.v=(rK K:Int)) (h7:Fd A) (h8:A.v=(sK K:Int)):Cd K g (L++P) v:=by
 have e1:(L++P).length / 16=L.length / 16+P.length / 16:=by rw [List.length_append]; omega
 have e2:(L++P).length % 16=P.length % 16:=by rw [List.length_append]; omega
 have e3:(P.drop (16 * (P.length / 16))).length=P.length % 16:=by rw [List.length_drop]; omega
 refine ⟨_,S,M,A,by rw [e2]; exact h1,lay_isB h2 (h3.drop _),?_,?_,h5,h6,h7,h8⟩
 ·rw [e2,e1,← e3,lay_zero,Nat.mul_add,← List.drop_drop,show 16 * (L.length / 16)=L.length by omega,List.drop_left]
 ·rw [e1,acN_append (rK K) P (L.length / 16) (by omega)]
  exact h4
theorem Cd.part {K:List Int} {g:Nat} {L P l:List Int} {S M A:F5} {v:World} (hk:L.length % 16+P.length<16) (hl:l.length=16) (hlt:l.take (L.length % 16)=L.drop (16 * (L.length / 16))) (h1:Lies g (lay l (L.length % 16) P) ((L.length % 16+P.length:Nat):Int) S M A v) (h2:IsB l) (h3:IsB P)
  (h4:Fc ((acN (rK K) L (L.length / 16):Nat):Int) S) (h5:Fd M) (h6:M.v=(rK K:Int)) (h7:Fd A) (h8:A.v=(sK K:Int)):Cd K g (L++P) v:=by
 have e1:(L++P).length / 16=L.length / 16:=by rw [List.length_append]; omega
 have e2:(L++P).length % 16=L.length % 16+P.length:=by rw [List.length_append]; omega
 refine ⟨_,S,M,A,by rw [e2]; exact h1,lay_isB h2 h3,?_,?_,h5,h6,h7,h8⟩
 ·rw [e2,e1,lay_take l P _ (by omega),hlt,List.drop_append_of_le_length (by omega)]
 ·rw [e1,acN_left (rK K) P (L.length / 16) (by omega)]
  exact h4
theorem ac_fill (r:Nat) {L C l:List Int} (hk:0<L.length % 16) (hl:l.length=16) (hC:C.length=16 - L.length % 16) (hlt:l.take (L.length % 16)=L.drop (16 * (L.length / 16))):acF r (acN r L (L.length / 16)) (lay l (L.length % 16) C) 1=acN r (L++C) ((L++C).length / 16):=by
 have e1:(L++C).length / 16=L.length / 16+1:=by rw [List.length_append]; omega
 have e3:lay l (L.length % 16) C=L.drop (16 * (L.length / 16))++C:=by
  have:=lay_take l C (L.length % 16) (by omega)
  rw [List.take_of_length_le (by rw [lay_len _ _ _ (by omega)]; omega),hlt] at this
  exact this
 rw [e1,acN,acF,acF,acN_left r C (L.length / 16) (by omega),e3]
 congr 3
 unfold bN
 rw [Nat.mul_zero,List.drop_zero,List.drop_append_of_le_length (by omega)]
theorem exec_i64 {op:Oper} {a:Act} (w:World) (x:Operand) (ho:op.op=.load 3 x) (g i:Nat) (hx:a.eval x=.pointer (some ⟨g,i,none⟩)) (v:Int) (hc:w.cell? ⟨g,i,none⟩=some (.int .i64 v)):(execOp a.eval op).run Tryz.prog w=.ok (.value (.int .i64 v)) w:=by
 unfold execOp
 simp only [ho,hx,Instr.loadAt,Instr.sureAddr,Sem.run_bind,Sem.run_pure,Result.andThen_ok]
 go_simp
def pWrote (K:List Int) (g:Nat) (L:List Int) (w:World) (r:Ending) (w':World):Prop:=r=.returned (.int .i64 0)∧Cd K g L w'∧Bt g w w'
theorem Lies.froz {g:Nat} {l:List Int} {f:Int} {S M A:F5} {w:World} (h:Lies g l f S M A w) (i:Nat):w.frozen? ⟨g,i,none⟩=false:=froz_of h.2
theorem Lies.off {g:Nat} {l:List Int} {f:Int} {M A:F5} {w:World} (hb:IsB l) (hl:l.length=16):Off g l f M A w (some ⟨g,0,none⟩) 16 16 l:=fun v S _ h=>⟨hl,hb,.inr ⟨g,0,rfl,h.left⟩,Nat.le_refl _,by omega⟩
theorem Bt.setCell {g:Nat} (w:World) (o:Nat) (x:Value):Bt g w (w.setCell ⟨g,o,none⟩ x):=setCells_bt [x] w g o
set_option maxHeartbeats 4000000 in
theorem pwrite_whole (K L P:List Int) (g:Nat) (hL:L.length % 16=0) (s:Option Addr) (n cap:Nat) (w:World) (hC:Cd K g L w) (lb:∀ v,Bt g w v→Lb v s n cap P):Calls Tryz.prog 91 #[.pointer (some ⟨g,0,none⟩),.slice s n cap] w (pWrote K g (L++P) w):=by
 obtain ⟨l,S,M,A,hH,hlB,hlt,hc,hMd,hMr,hAd,hAs⟩:=hC
 obtain ⟨T,hT⟩:∃ T,T=pWrote K g (L++P) w:=⟨_,rfl⟩
 rw [← hT]
 replace hT:=hide hT
 have hl16:=hH.1
 rw [hL] at hH
 have cc:w.cell? ⟨g,16,none⟩=some (.int .i64 0):=hH.fill
 have hPl:=(lb w (Bt.refl g w)).len
 have hPb:=(lb w (Bt.refl g w)).isB
 have hO:Off g l 0 M A w s n cap P:=fun v S h1 h2=>lb v h1
 have hBt:=Bt.refl g w
 replace hH:Lies g l 0 S M A w:=hH
 replace hH:=hide hH; replace hO:=hide hO; replace hBt:=hide hBt; replace hlt:=hide hlt; replace hPl:=hide hPl; replace hL:=hide hL
 clear lb
 go_enter Tryz.func91,Tryz.ntmps91
 go_upto_region 10 with fail
 clear cc
 replace hH:=unhide hH; replace hO:=unhide hO; replace hBt:=unhide hBt; replace hPl:=unhide hPl
 refine any_start (S:=fun _=>True) (by kernel_rfl) ?_
 replace hH:=hH.gr (Gr.refl _).drew
 replace hO:Off _ _ _ _ _ _ _ _ _ _:=fun v S h1 h2=>hO v S (((Gr.refl _).drew.bt g).trans h1) h2
 replace hBt:=hBt.trans ((Gr.refl _).drew.bt g)
 generalize World.drew _=x0 at *
 simp only [List.size_toArray,List.length_cons,List.length_nil,Array.replicate,List.replicate]
 refine any_take (i:=0) (v:=(.pointer (some ⟨g,0,none⟩))) #[false,false,false,false,false,false,false,false,false,false,false,false,false,false] rfl (by kernel_rfl) (by kernel_rfl) (by kernel_rfl) (by kernel_rfl) (fun _ _ _ h=>h) (.inl ⟨by kernel_rfl,fun x_ hu=>by kernel_rfl⟩) trivial ?_
 simp only [nrm]
 refine any_take (i:=1) (v:=(.pointer (some ⟨g,0,none⟩))) #[true,false,false,false,false,false,false,false,false,false,false,false,false,false] rfl (by kernel_rfl) (by kernel_rfl) (by kernel_rfl) (by kernel_rfl) (fun _ _ _ h=>h) (.inl ⟨by kernel_rfl,fun x_ hu=>by kernel_rfl⟩) trivial ?_
 simp only [nrm]
 refine any_take (i:=2) (v:=(.pointer (some ⟨g,0,none⟩))) #[true,true,false,false,false,false,false,false,false,false,false,false,false,false] rfl (by kernel_rfl) (by kernel_rfl) (by kernel_rfl) (by kernel_rfl) (fun _ _ _ h=>h) (.inl ⟨by kernel_rfl,fun x_ hu=>by kernel_rfl⟩) trivial ?_
 simp only [nrm]
 refine any_take (i:=3) (v:=(.pointer (some ⟨g,0,none⟩))) #[true,true,true,false,false,false,false,false,false,false,false,false,false,false] rfl (by kernel_rfl) (by kernel_rfl) (by kernel_rfl) (by kernel_rfl) (fun _ _ _ h=>h) (.inl ⟨by kernel_rfl,fun x_ hu=>by kernel_rfl⟩) trivial ?_
 simp only [nrm]
 refine any_take (i:=4) (v:=(.pointer (some ⟨g,0,none⟩))) #[true,true,true,true,false,false,false,false,false,false,false,false,false,false] rfl (by kernel_rfl) (by kernel_rfl) (by kernel_rfl) (by kernel_rfl) (fun _ _ _ h=>h) (.inl ⟨by kernel_rfl,fun x_ hu=>by kernel_rfl⟩) trivial ?_
 simp only [nrm]
 refine any_take (i:=5) (v:=(.slice (some ⟨g,0,none⟩) 16 16)) #[true,true,true,true,true,false,false,false,false,false,false,false,false,false] rfl (by kernel_rfl) (by kernel_rfl) (by kernel_rfl) (by kernel_rfl) (fun _ _ _ h=>h) (.inl ⟨by kernel_rfl,fun x_ hu=>by kernel_rfl⟩) trivial ?_
 simp only [nrm]
 refine any_take (i:=6) (v:=(.pointer (some ⟨g,0,none⟩))) #[true,true,true,true,true,true,false,false,false,false,false,false,false,false] rfl (by kernel_rfl) (by kernel_rfl) (by kernel_rfl) (by kernel_rfl) (fun _ _ _ h=>h) (.inl ⟨by kernel_rfl,fun x_ hu=>by kernel_rfl⟩) trivial ?_
 simp only [nrm]
 refine any_take (i:=7) (v:=(.slice s n cap)) #[true,true,true,true,true,true,true,false,false,false,false,false,false,false] rfl (by kernel_rfl) (by kernel_rfl) (by kernel_rfl) (by kernel_rfl) (fun _ _ _ h=>h) (.inl ⟨by kernel_rfl,fun x_ hu=>by kernel_rfl⟩) trivial ?_
 simp only [nrm]
 refine any_one (i:=8) (by kernel_rfl) rfl (fun K_ hQ=>?_)
 refine step_callw (by kernel_rfl) 114 #[.pointer (some ⟨g,0,none⟩),.slice s n cap] (by kernel_rfl) ((ptake_ok (rK K) (acN (rK K) L (L.length / 16)) g l 0 S M A hMd hMr P s n cap hPl hPb _ hH hc hO).mono ?_)
 rintro r x1 ⟨a2,c2,S2,rfl,hO2,hTI⟩
 refine ⟨_,rfl,?_⟩
 have hdl:(P.drop (16 * (P.length / 16))).length=P.length % 16:=by rw [List.length_drop]; omega
 obtain ⟨d,hd⟩:∃ d,d=P.length % 16:=⟨_,rfl⟩
 have hd16:d<16:=by omega
 rw [← hd] at hO2 hdl ⊢
 have hlb2:=hO2 x1 S2 hTI.bt hTI.lies
 replace hd:=hide hd
 clear hH hO
 refine hQ.out _ _ trivial (fun _=>?_)
 clear hQ K_
 simp only [nrm]
 refine any_one (i:=9) (by kernel_rfl) rfl (fun K_ hQ=>?_)
 rw [if_pos (by kernel_rfl)]
 obtain ⟨D,hD⟩:∃ D,D=P.drop (16 * (P.length / 16)):=⟨_,rfl⟩
 rw [← hD] at hlb2 hdl
 replace hD:=hide hD
 refine copy_wp (.tmp 57) (.tmp 60) rfl g 0 16 16 a2 d c2 (by kernel_rfl) (by kernel_rfl) (cdl l 0 S2 M A) 165 hTI.lies.2 D (by rw [hdl]; exact (Nat.min_eq_left (by omega)).symm) hlb2.sl (by rw [cdl_len _ _ _ _ _ hTI.lies.1,hdl]; omega) ?_
 have hH:=hTI.lies.setL 0 D (by rw [hdl]; omega)
 have hBt2:=hBt.trans (hTI.bt.trans (setCells_bt (D.map (Value.int .u8)) x1 g 0))
 have hcar2:=hTI.car
 clear hTI hlb2 hO2 hBt
 generalize World.setCells _ _ _ _=x2 at *
 rw [hdl]
 refine hQ.out _ _ trivial (fun _=>?_)
 clear hQ K_
 simp only [nrm]
 refine any_take (i:=10) (v:=(.pointer (some ⟨g,0,none⟩))) #[true,true,true,true,true,true,true,true,true,true,false,false,false,false] rfl (by kernel_rfl) (by kernel_rfl) (by kernel_rfl) (by kernel_rfl) (fun _ _ _ h=>h) (.inl ⟨by kernel_rfl,fun x_ hu=>by kernel_rfl⟩) trivial ?_
 simp only [nrm]
 refine any_take (i:=11) (v:=(.pointer (some ⟨g,0,none⟩))) #[true,true,true,true,true,true,true,true,true,true,true,false,false,false] rfl (by kernel_rfl) (by kernel_rfl) (by kernel_rfl) (by kernel_rfl) (fun _ _ _ h=>h) (.inl ⟨by kernel_rfl,fun x_ hu=>by kernel_rfl⟩) trivial ?_
 simp only [nrm]
 refine any_take (i:=12) (v:=(.pointer (some ⟨g,16,none⟩))) #[true,true,true,true,true,true,true,true,true,true,true,true,false,false] rfl (by kernel_rfl) (by kernel_rfl) (by kernel_rfl) (by kernel_rfl) (fun _ _ _ h=>h) (.inl ⟨by kernel_rfl,fun x_ hu=>by kernel_rfl⟩) trivial ?_
 simp only [nrm]
 refine any_one (i:=13) (by kernel_rfl) rfl (fun K_ hQ=>?_)
 have c4:=hH.fill
 have fz:=hH.froz 16
 have hH3:=hide (hH.setF (d:Int))
 have hBt3:=hide (hBt2.trans (Bt.setCell x2 16 (.int .i64 (d:Int))))
 clear hBt2 hH
 replace hQ:=hide hQ
 go_simp
 refine (unhide hQ).out _ _ trivial (fun _=>?_)
 clear hQ K_ c4 fz
 generalize World.setCell _ _ _=x3 at *
 refine any_done (by kernel_rfl) ?_
 have hW:Hid (pWrote K g (L++P) w (.returned (.int .i64 0)) x3):=⟨rfl,Cd.whole (unhide hL) (by rw [unhide hd,unhide hD] at hH3; exact unhide hH3) hlB hPb hcar2 hMd hMr hAd hAs,unhide hBt3⟩
 clear hH3 hBt3 hcar2
 go_wp2_with fail
 rw [unhide hT]
 exact unhide hW
set_option maxHeartbeats 8000000 in
theorem pwrite_some (K L P:List Int) (g:Nat) (hL:0<L.length % 16) (s:Option Addr) (n cap:Nat) (w:World) (hC:Cd K g L w) (lb:∀ v,Bt g w v→Lb v s n cap P):Calls Tryz.prog 91 #[.pointer (some ⟨g,0,none⟩),.slice s n cap] w (pWrote K g (L++P) w):=by
 obtain ⟨l,S,M,A,hH,hlB,hlt,hc,hMd,hMr,hAd,hAs⟩:=hC
 obtain ⟨T,hT⟩:∃ T,T=pWrote K g (L++P) w:=⟨_,rfl⟩
 rw [← hT]
 replace hT:=hide hT
 have hl16:=hH.1
 obtain ⟨f,hf⟩:∃ f,f=L.length % 16:=⟨_,rfl⟩
 rw [← hf] at hH hL hlt
 have cc:=hH.fill
 have hPl:=(lb w (Bt.refl g w)).len
 have hPb:=(lb w (Bt.refl g w)).isB
 have hcn:=hide (lb w (Bt.refl g w)).cap
 have hBt:=Bt.refl g w
 obtain ⟨m,hm2⟩:∃ m,m=min n (16 - f):=⟨_,rfl⟩
 obtain ⟨E,hE⟩:∃ E,E=P.take m:=⟨_,rfl⟩
 have hmn:Hid (m≤n):=by show m≤n; omega
 have hEl:E.length=m:=by rw [hE,List.length_take,hPl]; exact Nat.min_eq_left (unhide hmn)
 have hEB:IsB E:=by rw [hE]; exact hPb.take m
 have hsrc:Hid (∀ v,Bt g w v→(E=[]∨∃ p q,s=some ⟨p,q,none⟩∧At v p q E)):=by
  intro v hv
  rcases (lb v hv).sl with h | ⟨p,q,h1,h2⟩
  ·left; rw [hE,h]; simp
  ·right; exact ⟨p,q,h1,by rw [hE]; exact h2.take m⟩
 obtain ⟨q,hq⟩:∃ q,q=f+m:=⟨_,rfl⟩
 have f16:f<16:=by omega
 have q16:q≤16:=by omega
 have hfm:f+m≤16:=by omega
 have k0:0<(f:Int):=by omega
 have k1:(f:Int)≤16:=by omega
 have k2:¬ (16:Int)<f:=by omega
 have k3:¬ 16=f:=by omega
 have k5:(f:Int)+(m:Int)=(q:Int):=by omega
 have k6:IntKind.i64.wrap (q:Int)=(q:Int):=by rw [IntKind.wrap_i64]; omega
 replace lb:=hide lb
 replace hH:=hide hH; replace hBt:=hide hBt; replace hlt:=hide hlt; replace hPl:=hide hPl; replace hE:=hide hE; replace hf:=hide hf; replace hm2:=hide hm2; replace hq:=hide hq
 go_enter Tryz.func91,Tryz.ntmps91
 go_upto_region 4 with fail
 clear cc
 replace hH:=unhide hH; replace hBt:=unhide hBt
 replace hm2:Hid (m=Nat.min n (16 - f)):=hm2
 refine any_start (S:=fun v=>v.cell? ⟨g,16,none⟩=some (.int .i64 (f:Int))) (by kernel_rfl) ?_
 replace hH:=hH.gr (Gr.refl _).drew
 replace hBt:=hBt.trans ((Gr.refl _).drew.bt g)
 have hS:=hH.fill
 generalize World.drew _=x0 at *
 simp only [List.size_toArray,List.length_cons,List.length_nil,Array.replicate,List.replicate]
 refine any_take (i:=0) (v:=(.pointer (some ⟨g,0,none⟩))) #[false,false,false,false,false,false,false,false,false,false,false,false,false] rfl (by kernel_rfl) (by kernel_rfl) (by kernel_rfl) (by kernel_rfl) (fun _ _ _ h=>h) (.inl ⟨by kernel_rfl,fun x_ hu=>by kernel_rfl⟩) hS ?_
 simp only [nrm]
 refine any_take (i:=1) (v:=(.pointer (some ⟨g,0,none⟩))) #[true,false,false,false,false,false,false,false,false,false,false,false,false] rfl (by kernel_rfl) (by kernel_rfl) (by kernel_rfl) (by kernel_rfl) (fun _ _ _ h=>h) (.inl ⟨by kernel_rfl,fun x_ hu=>by kernel_rfl⟩) hS ?_
 simp only [nrm]
 refine any_take (i:=2) (v:=(.pointer (some ⟨g,0,none⟩))) #[true,true,false,false,false,false,false,false,false,false,false,false,false] rfl (by kernel_rfl) (by kernel_rfl) (by kernel_rfl) (by kernel_rfl) (fun _ _ _ h=>h) (.inl ⟨by kernel_rfl,fun x_ hu=>by kernel_rfl⟩) hS ?_
 simp only [nrm]
 refine any_take (i:=3) (v:=(.pointer (some ⟨g,0,none⟩))) #[true,true,true,false,false,false,false,false,false,false,false,false,false] rfl (by kernel_rfl) (by kernel_rfl) (by kernel_rfl) (by kernel_rfl) (fun _ _ _ h=>h) (.inl ⟨by kernel_rfl,fun x_ hu=>by kernel_rfl⟩) hS ?_
 simp only [nrm]
 refine any_take (i:=4) (v:=(.pointer (some ⟨g,0,none⟩))) #[true,true,true,true,false,false,false,false,false,false,false,false,false] rfl (by kernel_rfl) (by kernel_rfl) (by kernel_rfl) (by kernel_rfl) (fun _ _ _ h=>h) (.inl ⟨by kernel_rfl,fun x_ hu=>by kernel_rfl⟩) hS ?_
 simp only [nrm]
 refine any_take (i:=5) (v:=(.pointer (some ⟨g,0,none⟩))) #[true,true,true,true,true,false,false,false,false,false,false,false,false] rfl (by kernel_rfl) (by kernel_rfl) (by kernel_rfl) (by kernel_rfl) (fun _ _ _ h=>h) (.inl ⟨by kernel_rfl,fun x_ hu=>by kernel_rfl⟩) hS ?_
 simp only [nrm]
 refine any_take (i:=6) (v:=(.pointer (some ⟨g,0,none⟩))) #[true,true,true,true,true,true,false,false,false,false,false,false,false] rfl (by kernel_rfl) (by kernel_rfl) (by kernel_rfl) (by kernel_rfl) (fun _ _ _ h=>h) (.inl ⟨by kernel_rfl,fun x_ hu=>by kernel_rfl⟩) hS ?_
 simp only [nrm]
 refine any_take (i:=7) (v:=(.pointer (some ⟨g,16,none⟩))) #[true,true,true,true,true,true,true,false,false,false,false,false,false] rfl (by kernel_rfl) (by kernel_rfl) (by kernel_rfl) (by kernel_rfl) (fun _ _ _ h=>h) (.inl ⟨by kernel_rfl,fun x_ hu=>by kernel_rfl⟩) hS ?_
 simp only [nrm]
 refine any_take (i:=8) (v:=(.int .i64 f)) #[true,true,true,true,true,true,true,true,false,false,false,false,false] rfl (by kernel_rfl) (by kernel_rfl) (by kernel_rfl) (by kernel_rfl) (fun _ _ _ h=>h) (.inl ⟨by kernel_rfl,fun x_ hu=>exec_i64 _ (.tmp 21) rfl g 16 (by kernel_rfl) f hu⟩) hS ?_
 simp only [nrm]
 refine any_take (i:=9) (v:=(.slice (some ⟨g,f,none⟩) (16 - f) (16 - f))) #[true,true,true,true,true,true,true,true,true,false,false,false,false] rfl (by kernel_rfl) (by kernel_rfl) (by kernel_rfl) (by kernel_rfl) (fun _ _ _ h=>h) (.inl ⟨by kernel_rfl,fun x_ hu=>by go_simp⟩) hS ?_
 simp only [nrm]
 refine any_take (i:=10) (v:=(.slice s n cap)) #[true,true,true,true,true,true,true,true,true,true,false,false,false] rfl (by kernel_rfl) (by kernel_rfl) (by kernel_rfl) (by kernel_rfl) (fun _ _ _ h=>h) (.inl ⟨by kernel_rfl,fun x_ hu=>by kernel_rfl⟩) hS ?_
 simp only [nrm]
 refine any_one (i:=11) (by kernel_rfl) rfl (fun K_ hQ=>?_)
 rw [if_pos (by kernel_rfl)]
 refine copy_wp (.tmp 23) (.tmp 24) rfl g f (16 - f) (16 - f) s n cap (by kernel_rfl) (by kernel_rfl) (cdl l (f:Int) S M A) 165 hH.2 E (by rw [hEl]; exact unhide hm2) (unhide hsrc _ hBt) (by rw [cdl_len _ _ _ _ _ hl16,hEl]; omega) ?_
 replace hH:=hH.setL f E (by rw [hEl]; omega)
 replace hBt:=hBt.trans (setCells_bt (E.map (Value.int .u8)) x0 g f)
 generalize World.setCells _ _ _ _=x1 at *
 rw [hEl]
 have hS:=hH.fill
 refine hQ.out _ _ hS (fun _=>?_)
 clear hQ K_
 simp only [nrm]
 refine any_one (i:=12) (by kernel_rfl) rfl (fun K_ hQ=>?_)
 replace hQ:=hide hQ
 go_simp
 refine (unhide hQ).out _ _ hS (fun _=>?_)
 clear hQ K_
 refine any_done (by kernel_rfl) ?_
 clear hsrc
 replace hH:=hide hH; replace hBt:=hide hBt; replace hS:=hide hS
 go_upto_region 5 with fail
 replace hH:=unhide hH; replace hBt:=unhide hBt
 have c4:=hH.fill
 refine wp_region_lit ?_
 refine list_val (.pointer (some ⟨g,0,none⟩)) (by kernel_rfl) (by kernel_rfl) ?_
 simp only [nrm]
 refine list_val (.pointer (some ⟨g,0,none⟩)) (by kernel_rfl) (by kernel_rfl) ?_
 simp only [nrm]
 refine list_val (.pointer (some ⟨g,0,none⟩)) (by kernel_rfl) (by kernel_rfl) ?_
 simp only [nrm]
 refine list_val (.pointer (some ⟨g,16,none⟩)) (by kernel_rfl) (by kernel_rfl) ?_
 simp only [nrm]
 refine list_val (.int .i64 f) (by kernel_rfl) (exec_i64 _ (.tmp 29) rfl g 16 (by kernel_rfl) f c4) ?_
 simp only [nrm]
 refine list_val (.int .i64 m) (by kernel_rfl) (by kernel_rfl) ?_
 simp only [nrm]
 refine list_val (.int .i64 q) (by kernel_rfl) (by go_simp) ?_
 simp only [nrm]
 refine list_val (.pointer (some ⟨g,0,none⟩)) (by kernel_rfl) (by kernel_rfl) ?_
 simp only [nrm]
 refine list_val (.pointer (some ⟨g,0,none⟩)) (by kernel_rfl) (by kernel_rfl) ?_
 simp only [nrm]
 refine list_val (.pointer (some ⟨g,16,none⟩)) (by kernel_rfl) (by kernel_rfl) ?_
 simp only [nrm]
 have fz:=hH.froz 16
 have hH5:=hide (hH.setF (q:Int))
 have hBt5:=hide (hBt.trans (Bt.setCell x1 16 (.int .i64 (q:Int))))
 clear hBt hH
 (refine wpList_step fun K hK=>?_; replace hK:=hide hK; go_simp; refine unhide hK _ _ ?_; clear hK K)
 clear c4 fz
 refine wpList_nil ?_
 have hS5:=(unhide hH5).fill
 generalize World.setCell _ _ _=x2 at *
 obtain ⟨l2,hl2e⟩:∃ l2,l2=lay l f E:=⟨_,rfl⟩
 rw [← hl2e] at hH5
 have hl2:l2.length=16:=(unhide hH5).1
 have hlB2:IsB l2:=by rw [hl2e]; exact lay_isB hlB hEB
 by_cases hpart:q<16
 ·have q1:(q:Int)<16:=by omega
  have hW:Hid (pWrote K g (L++P) w (.returned (.int .i64 0)) x2):=by
   have hm3:=unhide hm2
   have hmm:m=n:=by
    have h1:m=min n (16 - f):=hm3
    have:=unhide hq
    omega
   have hEP:E=P:=by rw [unhide hE]; exact List.take_of_length_le (by rw [unhide hPl]; omega)
   have hq2:q=L.length % 16+P.length:=by rw [← unhide hf,unhide hPl,unhide hq,hmm]
   refine ⟨rfl,Cd.part (l:=l) (by omega) hl16 (by rw [← unhide hf]; exact unhide hlt) ?_ hlB hPb hc hMd hMr hAd hAs,unhide hBt5⟩
   rw [← hq2,← unhide hf,← hEP,← hl2e]
   exact unhide hH5
  clear hH5 hBt5
  replace hl2e:=hide hl2e
  go_wp2_with fail
  rw [unhide hT]
  exact unhide hW
 ·have q1:¬ (q:Int)<16:=by omega
  have hfill:=hide (ac_fill (rK K) (L:=L) (C:=E) (l:=l) (by rw [← unhide hf]; exact hL) hl16 (by rw [hEl,← unhide hf]; have:=unhide hq; omega) (by rw [← unhide hf]; exact unhide hlt))
  have hq3:Hid (q=16):=by show q=16; omega
  replace hl2e:=hide hl2e
  go_upto_region 8 with fail
  replace hS5:=hide hS5
  have hH:=unhide hH5
  have hBt:=unhide hBt5
  clear hH5 hBt5
  refine wp_region_lit ?_
  refine list_val (.pointer (some ⟨g,0,none⟩)) (by kernel_rfl) (by kernel_rfl) ?_
  simp only [nrm]
  refine list_val (.pointer (some ⟨g,0,none⟩)) (by kernel_rfl) (by kernel_rfl) ?_
  simp only [nrm]
  refine list_val (.pointer (some ⟨g,0,none⟩)) (by kernel_rfl) (by kernel_rfl) ?_
  simp only [nrm]
  refine list_val (.pointer (some ⟨g,0,none⟩)) (by kernel_rfl) (by kernel_rfl) ?_
  simp only [nrm]
  refine list_val (.pointer (some ⟨g,0,none⟩)) (by kernel_rfl) (by kernel_rfl) ?_
  simp only [nrm]
  refine list_val (.slice (some ⟨g,0,none⟩) 16 16) (by kernel_rfl) (by kernel_rfl) ?_
  simp only [nrm]
  refine list_call 114 #[.pointer (some ⟨g,0,none⟩),.slice (some ⟨g,0,none⟩) 16 16] (by kernel_rfl) (by kernel_rfl) ((ptake_ok (rK K) (acN (rK K) L (L.length / 16)) g l2 (q:Int) S M A hMd hMr l2 (some ⟨g,0,none⟩) 16 16 hl2 hlB2 _ hH hc (Lies.off hlB2 hl2)).mono ?_)
  rintro r x6 ⟨a3,c3,S3,rfl,-,hTI⟩
  refine ⟨_,rfl,?_⟩
  rw [hl2] at hTI ⊢
  have hH:=hTI.lies
  replace hBt:=hBt.trans hTI.bt
  have hc3:=hTI.car
  rw [show 16 / 16=1 from rfl] at hc3
  clear hTI
  simp only [nrm]
  refine wpList_nil ?_
  replace hH:=hide hH; replace hBt:=hide hBt; replace hc3:=hide hc3
  go_upto_region 9 with fail
  refine wp_region_lit ?_
  refine list_val (.slice s n cap) (by kernel_rfl) (by kernel_rfl) ?_
  simp only [nrm]
  refine list_val (.int .i64 m) (by kernel_rfl) (by kernel_rfl) ?_
  simp only [nrm]
  refine list_val (.slice (if cap=m then s else s.map (·.add m)) (n - m) (cap - m)) (by kernel_rfl) (exec_from _ (.tmp 49) (.tmp 50) rfl s n cap m (by kernel_rfl) (by kernel_rfl) (unhide hcn) (unhide hmn)) ?_
  simp only [nrm]
  obtain ⟨a9,ha9⟩:∃ x,x=(if cap=m then s else s.map (·.add m)):=⟨_,rfl⟩
  rw [← ha9]
  replace ha9:=hide ha9
  obtain ⟨n9,hn9⟩:∃ x,x=n - m:=⟨_,rfl⟩
  obtain ⟨c9,hc9⟩:∃ x,x=cap - m:=⟨_,rfl⟩
  rw [← hn9,← hc9]
  replace hn9:=hide hn9
  replace hc9:=hide hc9
  (refine wpList_step fun K hK=>?_; replace hK:=hide hK; go_simp; refine unhide hK _ _ ?_; clear hK K)
  refine wpList_nil ?_
  have hPl9:(P.drop m).length=n9:=by rw [List.length_drop,unhide hPl,← unhide hn9]
  have hPb9:IsB (P.drop m):=hPb.drop m
  have hO9:Hid (Off g l2 (q:Int) M A x6 a9 n9 c9 (P.drop m)):=by
   intro v S9 h1 h2
   have:=(unhide lb v ((unhide hBt).trans h1)).rest m (unhide hmn)
   rw [← unhide ha9,← unhide hn9,← unhide hc9] at this
   exact this
  replace hPl9:=hide hPl9
  go_upto_region 10 with fail
  replace hPl9:=unhide hPl9
  have hO:=unhide hO9
  clear hO9
  replace hH:=unhide hH; replace hBt:=unhide hBt
  have hc4:Fc ((acN (rK K) (L++E) ((L++E).length / 16):Nat):Int) S3:=by
   have h1:=unhide hc3
   have h2:=unhide hfill
   rw [← unhide hf,← unhide hl2e] at h2
   rw [h2] at h1
   exact h1
  clear hc3 hfill
  obtain ⟨P9,hP9⟩:∃ x,x=P.drop m:=⟨_,rfl⟩
  rw [← hP9] at hO hPl9 hPb9
  have hP9l:=hPl9
  have hP9b:=hPb9
  refine any_start (S:=fun _=>True) (by kernel_rfl) ?_
  replace hH:=hH.gr (Gr.refl _).drew
  replace hO:Off _ _ _ _ _ _ _ _ _ _:=fun v S h1 h2=>hO v S (((Gr.refl _).drew.bt g).trans h1) h2
  replace hBt:=hBt.trans ((Gr.refl _).drew.bt g)
  generalize World.drew _=x0 at *
  simp only [List.size_toArray,List.length_cons,List.length_nil,Array.replicate,List.replicate]
  refine any_take (i:=0) (v:=(.pointer (some ⟨g,0,none⟩))) #[false,false,false,false,false,false,false,false,false,false,false,false,false,false] rfl (by kernel_rfl) (by kernel_rfl) (by kernel_rfl) (by kernel_rfl) (fun _ _ _ h=>h) (.inl ⟨by kernel_rfl,fun x_ hu=>by kernel_rfl⟩) trivial ?_
  simp only [nrm]
  refine any_take (i:=1) (v:=(.pointer (some ⟨g,0,none⟩))) #[true,false,false,false,false,false,false,false,false,false,false,false,false,false] rfl (by kernel_rfl) (by kernel_rfl) (by kernel_rfl) (by kernel_rfl) (fun _ _ _ h=>h) (.inl ⟨by kernel_rfl,fun x_ hu=>by kernel_rfl⟩) trivial ?_
  simp only [nrm]
  refine any_take (i:=2) (v:=(.pointer (some ⟨g,0,none⟩))) #[true,true,false,false,false,false,false,false,false,false,false,false,false,false] rfl (by kernel_rfl) (by kernel_rfl) (by kernel_rfl) (by kernel_rfl) (fun _ _ _ h=>h) (.inl ⟨by kernel_rfl,fun x_ hu=>by kernel_rfl⟩) trivial ?_
  simp only [nrm]
  refine any_take (i:=3) (v:=(.pointer (some ⟨g,0,none⟩))) #[true,true,true,false,false,false,false,false,false,false,false,false,false,false] rfl (by kernel_rfl) (by kernel_rfl) (by kernel_rfl) (by kernel_rfl) (fun _ _ _ h=>h) (.inl ⟨by kernel_rfl,fun x_ hu=>by kernel_rfl⟩) trivial ?_
  simp only [nrm]
  refine any_take (i:=4) (v:=(.pointer (some ⟨g,0,none⟩))) #[true,true,true,true,false,false,false,false,false,false,false,false,false,false] rfl (by kernel_rfl) (by kernel_rfl) (by kernel_rfl) (by kernel_rfl) (fun _ _ _ h=>h) (.inl ⟨by kernel_rfl,fun x_ hu=>by kernel_rfl⟩) trivial ?_
  simp only [nrm]
  refine any_take (i:=5) (v:=(.slice (some ⟨g,0,none⟩) 16 16)) #[true,true,true,true,true,false,false,false,false,false,false,false,false,false] rfl (by kernel_rfl) (by kernel_rfl) (by kernel_rfl) (by kernel_rfl) (fun _ _ _ h=>h) (.inl ⟨by kernel_rfl,fun x_ hu=>by kernel_rfl⟩) trivial ?_
  simp only [nrm]
  refine any_take (i:=6) (v:=(.pointer (some ⟨g,0,none⟩))) #[true,true,true,true,true,true,false,false,false,false,false,false,false,false] rfl (by kernel_rfl) (by kernel_rfl) (by kernel_rfl) (by kernel_rfl) (fun _ _ _ h=>h) (.inl ⟨by kernel_rfl,fun x_ hu=>by kernel_rfl⟩) trivial ?_
  simp only [nrm]
  refine any_take (i:=7) (v:=(.slice a9 n9 c9)) #[true,true,true,true,true,true,true,false,false,false,false,false,false,false] rfl (by kernel_rfl) (by kernel_rfl) (by kernel_rfl) (by kernel_rfl) (fun _ _ _ h=>h) (.inl ⟨by kernel_rfl,fun x_ hu=>by kernel_rfl⟩) trivial ?_
  simp only [nrm]
  refine any_one (i:=8) (by kernel_rfl) rfl (fun K_ hQ=>?_)
  refine step_callw (by kernel_rfl) 114 #[.pointer (some ⟨g,0,none⟩),.slice a9 n9 c9] (by kernel_rfl) ((ptake_ok (rK K) (acN (rK K) (L++E) ((L++E).length / 16)) g l2 (q:Int) S3 M A hMd hMr P9 a9 n9 c9 hP9l hP9b _ hH hc4 hO).mono ?_)
  rintro r x1 ⟨a2,c2,S2,rfl,hO2,hTI⟩
  refine ⟨_,rfl,?_⟩
  have hdl:(P9.drop (16 * (P9.length / 16))).length=P9.length % 16:=by rw [List.length_drop]; omega
  obtain ⟨d,hd⟩:∃ d,d=P9.length % 16:=⟨_,rfl⟩
  have hd16:d<16:=by omega
  rw [← hd] at hO2 hdl ⊢
  have hlb2:=hO2 x1 S2 hTI.bt hTI.lies
  replace hd:=hide hd
  clear hH hO
  refine hQ.out _ _ trivial (fun _=>?_)
  clear hQ K_
  simp only [nrm]
  refine any_one (i:=9) (by kernel_rfl) rfl (fun K_ hQ=>?_)
  rw [if_pos (by kernel_rfl)]
  obtain ⟨D,hD⟩:∃ D,D=P9.drop (16 * (P9.length / 16)):=⟨_,rfl⟩
  rw [← hD] at hlb2 hdl
  replace hD:=hide hD
  refine copy_wp (.tmp 57) (.tmp 60) rfl g 0 16 16 a2 d c2 (by kernel_rfl) (by kernel_rfl) (cdl l2 (q:Int) S2 M A) 165 hTI.lies.2 D (by rw [hdl]; exact (Nat.min_eq_left (by omega)).symm) hlb2.sl (by rw [cdl_len _ _ _ _ _ hTI.lies.1,hdl]; omega) ?_
  have hH:=hTI.lies.setL 0 D (by rw [hdl]; omega)
  have hBt2:=hBt.trans (hTI.bt.trans (setCells_bt (D.map (Value.int .u8)) x1 g 0))
  have hcar2:=hTI.car
  clear hTI hlb2 hO2 hBt
  generalize World.setCells _ _ _ _=x2 at *
  rw [hdl]
  refine hQ.out _ _ trivial (fun _=>?_)
  clear hQ K_
  simp only [nrm]
  refine any_take (i:=10) (v:=(.pointer (some ⟨g,0,none⟩))) #[true,true,true,true,true,true,true,true,true,true,false,false,false,false] rfl (by kernel_rfl) (by kernel_rfl) (by kernel_rfl) (by kernel_rfl) (fun _ _ _ h=>h) (.inl ⟨by kernel_rfl,fun x_ hu=>by kernel_rfl⟩) trivial ?_
  simp only [nrm]
  refine any_take (i:=11) (v:=(.pointer (some ⟨g,0,none⟩))) #[true,true,true,true,true,true,true,true,true,true,true,false,false,false] rfl (by kernel_rfl) (by kernel_rfl) (by kernel_rfl) (by kernel_rfl) (fun _ _ _ h=>h) (.inl ⟨by kernel_rfl,fun x_ hu=>by kernel_rfl⟩) trivial ?_
  simp only [nrm]
  refine any_take (i:=12) (v:=(.pointer (some ⟨g,16,none⟩))) #[true,true,true,true,true,true,true,true,true,true,true,true,false,false] rfl (by kernel_rfl) (by kernel_rfl) (by kernel_rfl) (by kernel_rfl) (fun _ _ _ h=>h) (.inl ⟨by kernel_rfl,fun x_ hu=>by kernel_rfl⟩) trivial ?_
  simp only [nrm]
  refine any_one (i:=13) (by kernel_rfl) rfl (fun K_ hQ=>?_)
  have c4:=hH.fill
  have fz:=hH.froz 16
  have hH3:=hide (hH.setF (d:Int))
  have hBt3:=hide (hBt2.trans (Bt.setCell x2 16 (.int .i64 (d:Int))))
  clear hBt2 hH
  replace hQ:=hide hQ
  go_simp
  refine (unhide hQ).out _ _ trivial (fun _=>?_)
  clear hQ K_ c4 fz
  generalize World.setCell _ _ _=x3 at *
  refine any_done (by kernel_rfl) ?_
  have hW:Hid (pWrote K g (L++P) w (.returned (.int .i64 0)) x3):=by
   have e1:L++P=(L++E)++P9:=by rw [hP9,unhide hE,List.append_assoc,List.take_append_drop]
   rw [e1]
   refine ⟨rfl,Cd.whole ?_ (by rw [unhide hd,unhide hD] at hH3; exact unhide hH3) hlB2 hPb9 hcar2 hMd hMr hAd hAs,unhide hBt3⟩
   rw [List.length_append,hEl]
   have h1:=unhide hf
   have h2:=unhide hq
   have h3:=unhide hq3
   omega
  clear hH3 hBt3 hcar2 hc4
  go_wp2_with fail
  rw [unhide hT]
  exact unhide hW
theorem pwrite_ok (K L P:List Int) (g:Nat) (s:Option Addr) (n cap:Nat) (w:World) (hC:Cd K g L w) (lb:∀ v,Bt g w v→Lb v s n cap P):Calls Tryz.prog 91 #[.pointer (some ⟨g,0,none⟩),.slice s n cap] w (pWrote K g (L++P) w):=by
 rcases Nat.eq_zero_or_pos (L.length % 16) with h | h
 ·exact pwrite_whole K L P g h s n cap w hC lb
 ·exact pwrite_some K L P g h s n cap w hC lb
end Go.Proofs.YthahhglbeafkmaaGreatDoor
namespace Go.Proofs.YthahhglbeafkmaaGreatDoor
open Go.RowKit
set_option maxRecDepth 100000
set_option linter.unusedSimpArgs false
set_option linter.unusedVariables false
theorem nk_whole (L:List Int) (h:L.length % 16=0):nk L.length=L.length / 16:=by unfold nk; omega
theorem nk_some (L:List Int) (h:0<L.length % 16):nk L.length=L.length / 16+1:=by unfold nk; omega
theorem Cd.gr {K:List Int} {g:Nat} {L:List Int} {w v:World} (h:Cd K g L w) (k:Gr w v):Cd K g L v:=by
 obtain ⟨l,S,M,A,hH,hr⟩:=h
 exact ⟨l,S,M,A,hH.gr k,hr⟩
def endB (D:List Int):List Int:=D++1::List.replicate (15 - D.length) 0
theorem endB_len (D:List Int) (h:D.length<16):(endB D).length=16:=by unfold endB; simp; omega
theorem endB_isB (D:List Int) (h:IsB D):IsB (endB D):=fun x hx=>by
 unfold endB at hx
 rcases List.mem_append.1 hx with h1 | h1
 ·exact h x h1
 ·rcases List.mem_cons.1 h1 with h2 | h2
  ·subst h2; omega
  ·have:=List.eq_of_mem_replicate h2; omega
theorem endB_lay (D:List Int) (h:D.length<16):(lay ZT 0 D).set D.length 1=endB D:=by
 unfold lay endB ZT
 rw [List.take_zero,List.nil_append,Nat.zero_add,List.set_append_right _ _ (Nat.le_refl _),Nat.sub_self,List.drop_replicate]
 obtain ⟨k,hk⟩:∃ k,16 - D.length=k+1:=⟨15 - D.length,by omega⟩
 rw [hk,show 15 - D.length=k by omega,List.replicate_succ,List.set_cons_zero]
theorem lowN_zero:∀ n,lowN (List.replicate n 0)=0
 | 0=>rfl
 | n+1=>by rw [List.replicate_succ,lowN,lowN_zero n]; rfl
theorem lowN_end (L:List Int) (hb:IsB (L.drop (16 * (L.length / 16)))):lowN (endB (L.drop (16 * (L.length / 16))))=((bN L (L.length / 16):Nat):Int):=by
 have hl:(L.drop (16 * (L.length / 16))).length<16:=by rw [List.length_drop]; omega
 unfold bN endB
 rw [List.take_of_length_le (by omega),V_snoc,lowN_append,lowN,lowN_zero,lowN_V _ hb,nb_len]
 rw [Int.natCast_add,Int.natCast_mul,Int.natCast_pow]
 rfl
set_option maxHeartbeats 4000000 in
theorem end_whole (K L:List Int) (g:Nat) (hL:L.length % 16=0) (w:World) (hC:Cd K g L w):Calls Tryz.prog 115 #[.pointer (some ⟨g,0,none⟩)] w (Crd ((acN (rK K) L (nk L.length):Nat):Int) w):=by
 obtain ⟨l,S,M,A,hH,hlB,hlt,hc,hMd,hMr,hAd,hAs⟩:=hC
 rw [nk_whole L hL]
 obtain ⟨T,hT⟩:∃ T,T=Crd ((acN (rK K) L (L.length / 16):Nat):Int) w:=⟨_,rfl⟩
 rw [← hT]
 replace hT:=hide hT
 rw [hL] at hH
 have hg1:=(Gr.refl w).alloc (.cells #[.int .u64 0,.int .u64 0,.int .u64 0,.int .u64 0,.int .u64 0] 160 (0,0))
 have cc:World.cell? (w.alloc (.cells #[.int .u64 0,.int .u64 0,.int .u64 0,.int .u64 0,.int .u64 0] 160 (0,0))) ⟨g,16,none⟩=some (.int .i64 0):=(hH.gr hg1).fill
 replace hg1:=hide hg1
 replace hH:=hide hH; replace hlt:=hide hlt; replace hc:=hide hc
 go_enter Tryz.func115,Tryz.ntmps115
 go_upto_region 2 with fail
 have hB:=(Bl.nil w).new #[.int .u64 0,.int .u64 0,.int .u64 0,.int .u64 0,.int .u64 0] 160
 simp only [List.nil_append,List.cons_append] at hB
 clear cc hg1
 generalize World.alloc _ _=u at *
 replace hB:Bl w [⟨w.heap.size,fc 0 0 0 0 0,160⟩] u:=hB
 replace hH:=(unhide hH).gr hB.gr
 refine wp_region_lit ?_
 refine list_val (.pointer (some ⟨g,0,none⟩)) (by kernel_rfl) (by kernel_rfl) ?_
 simp only [nrm]
 refine list_val (.pointer (some ⟨g,0,none⟩)) (by kernel_rfl) (by kernel_rfl) ?_
 simp only [nrm]
 refine list_val (.pointer (some ⟨g,17,none⟩)) (by kernel_rfl) (by kernel_rfl) ?_
 simp only [nrm]
 refine list_val (.agg (fc S.a S.b S.c S.d S.e)) (by kernel_rfl) (exec_five _ (.tmp 12) rfl g 17 (by kernel_rfl) S hH.sum) ?_
 simp only [nrm]
 refine list_store 160 (.tmp 2) (.tmp 13) (w.heap.size) (fc S.a S.b S.c S.d S.e) 160 (fc 0 0 0 0 0) (by kernel_rfl) rfl (by kernel_rfl) (by kernel_rfl) (hB.get 0 (x:=⟨w.heap.size,fc 0 0 0 0 0,160⟩) rfl) Tryz.infoPL rfl (fc_one _ _ _ _ _) ?_
 replace hB:=hB.set 0 (x:=⟨w.heap.size,fc 0 0 0 0 0,160⟩) rfl (fc S.a S.b S.c S.d S.e)
 simp only [List.set_cons_zero,List.set_cons_succ] at hB
 generalize World.setRow _ _ _=u1 at *
 simp only [nrm]
 refine wpList_nil ?_
 replace hB:=hide hB
 clear hH
 go_wp2_with fail
 replace hB:=unhide hB
 rw [unhide hT]
 exact bodyPost_ret (v:=.agg (fc S.a S.b S.c S.d S.e)) (results_cell_row Tryz.results115 _ _ (w.heap.size) 160 (fc S.a S.b S.c S.d S.e) (0,0) _ rfl (hB.get 0 (x:=⟨w.heap.size,fc S.a S.b S.c S.d S.e,160⟩) rfl) Tryz.underlying160 rfl Tryz.infoPL) rfl (⟨_,_,_,_,_,rfl,unhide hc,hB.gr⟩)
set_option maxHeartbeats 8000000 in
theorem end_some (K L:List Int) (g:Nat) (hL:0<L.length % 16) (w:World) (hC:Cd K g L w):Calls Tryz.prog 115 #[.pointer (some ⟨g,0,none⟩)] w (Crd ((acN (rK K) L (nk L.length):Nat):Int) w):=by
 obtain ⟨l,S,M,A,hH,hlB,hlt,hc,hMd,hMr,hAd,hAs⟩:=hC
 rw [nk_some L hL]
 obtain ⟨T,hT⟩:∃ T,T=Crd ((acN (rK K) L (L.length / 16+1):Nat):Int) w:=⟨_,rfl⟩
 rw [← hT]
 replace hT:=hide hT
 have hl16:=hH.1
 obtain ⟨f,hf⟩:∃ f,f=L.length % 16:=⟨_,rfl⟩
 rw [← hf] at hH hL hlt
 have f16:f<16:=by omega
 have k0:¬ (f:Int)=0:=by omega
 have k00:¬ f=0:=by omega
 have k1:(f:Int)≤16:=by omega
 have k2:(f:Int)<16:=by omega
 have hg1:=(Gr.refl w).alloc (.cells #[.int .u64 0,.int .u64 0,.int .u64 0,.int .u64 0,.int .u64 0] 160 (0,0))
 have cc:World.cell? (w.alloc (.cells #[.int .u64 0,.int .u64 0,.int .u64 0,.int .u64 0,.int .u64 0] 160 (0,0))) ⟨g,16,none⟩=some (.int .i64 (f:Int)):=(hH.gr hg1).fill
 replace hg1:=hide hg1
 replace hH:=hide hH; replace hlt:=hide hlt; replace hf:=hide hf
 go_enter Tryz.func115,Tryz.ntmps115
 go_upto_region 4 with fail
 have hB:=((Bl.nil w).new #[.int .u64 0,.int .u64 0,.int .u64 0,.int .u64 0,.int .u64 0] 160).new #[.int .u8 0,.int .u8 0,.int .u8 0,.int .u8 0,.int .u8 0,.int .u8 0,.int .u8 0,.int .u8 0,.int .u8 0,.int .u8 0,.int .u8 0,.int .u8 0,.int .u8 0,.int .u8 0,.int .u8 0,.int .u8 0] 32
 simp only [size_alloc,List.nil_append,List.cons_append] at hB
 clear cc hg1
 generalize World.alloc _ _=u at *
 replace hB:Bl w [⟨w.heap.size,fc 0 0 0 0 0,160⟩,⟨w.heap.size+1,kc ZT,32⟩] u:=hB
 replace hH:=(unhide hH).gr hB.gr
 refine any_start (S:=fun v=>v.cell? ⟨g,16,none⟩=some (.int .i64 (f:Int))) (by kernel_rfl) ?_
 replace hH:=hH.gr (Gr.refl _).drew
 replace hB:=hB.drew
 have hS:=hH.fill
 generalize World.drew _=x0 at *
 simp only [List.size_toArray,List.length_cons,List.length_nil,Array.replicate,List.replicate]
 refine any_take (i:=0) (v:=(.slice (some ⟨w.heap.size+1,0,none⟩) 16 16)) #[false,false,false,false,false,false,false,false,false,false,false,false] rfl (by kernel_rfl) (by kernel_rfl) (by kernel_rfl) (by kernel_rfl) (fun _ _ _ h=>h) (.inl ⟨by kernel_rfl,fun x_ hu=>by kernel_rfl⟩) hS ?_
 simp only [nrm]
 refine any_take (i:=1) (v:=(.pointer (some ⟨g,0,none⟩))) #[true,false,false,false,false,false,false,false,false,false,false,false] rfl (by kernel_rfl) (by kernel_rfl) (by kernel_rfl) (by kernel_rfl) (fun _ _ _ h=>h) (.inl ⟨by kernel_rfl,fun x_ hu=>by kernel_rfl⟩) hS ?_
 simp only [nrm]
 refine any_take (i:=2) (v:=(.pointer (some ⟨g,0,none⟩))) #[true,true,false,false,false,false,false,false,false,false,false,false] rfl (by kernel_rfl) (by kernel_rfl) (by kernel_rfl) (by kernel_rfl) (fun _ _ _ h=>h) (.inl ⟨by kernel_rfl,fun x_ hu=>by kernel_rfl⟩) hS ?_
 simp only [nrm]
 refine any_take (i:=3) (v:=(.pointer (some ⟨g,0,none⟩))) #[true,true,true,false,false,false,false,false,false,false,false,false] rfl (by kernel_rfl) (by kernel_rfl) (by kernel_rfl) (by kernel_rfl) (fun _ _ _ h=>h) (.inl ⟨by kernel_rfl,fun x_ hu=>by kernel_rfl⟩) hS ?_
 simp only [nrm]
 refine any_take (i:=4) (v:=(.pointer (some ⟨g,0,none⟩))) #[true,true,true,true,false,false,false,false,false,false,false,false] rfl (by kernel_rfl) (by kernel_rfl) (by kernel_rfl) (by kernel_rfl) (fun _ _ _ h=>h) (.inl ⟨by kernel_rfl,fun x_ hu=>by kernel_rfl⟩) hS ?_
 simp only [nrm]
 refine any_take (i:=5) (v:=(.pointer (some ⟨g,0,none⟩))) #[true,true,true,true,true,false,false,false,false,false,false,false] rfl (by kernel_rfl) (by kernel_rfl) (by kernel_rfl) (by kernel_rfl) (fun _ _ _ h=>h) (.inl ⟨by kernel_rfl,fun x_ hu=>by kernel_rfl⟩) hS ?_
 simp only [nrm]
 refine any_take (i:=6) (v:=(.pointer (some ⟨g,0,none⟩))) #[true,true,true,true,true,true,false,false,false,false,false,false] rfl (by kernel_rfl) (by kernel_rfl) (by kernel_rfl) (by kernel_rfl) (fun _ _ _ h=>h) (.inl ⟨by kernel_rfl,fun x_ hu=>by kernel_rfl⟩) hS ?_
 simp only [nrm]
 refine any_take (i:=7) (v:=(.pointer (some ⟨g,0,none⟩))) #[true,true,true,true,true,true,true,false,false,false,false,false] rfl (by kernel_rfl) (by kernel_rfl) (by kernel_rfl) (by kernel_rfl) (fun _ _ _ h=>h) (.inl ⟨by kernel_rfl,fun x_ hu=>by kernel_rfl⟩) hS ?_
 simp only [nrm]
 refine any_take (i:=8) (v:=(.pointer (some ⟨g,16,none⟩))) #[true,true,true,true,true,true,true,true,false,false,false,false] rfl (by kernel_rfl) (by kernel_rfl) (by kernel_rfl) (by kernel_rfl) (fun _ _ _ h=>h) (.inl ⟨by kernel_rfl,fun x_ hu=>by kernel_rfl⟩) hS ?_
 simp only [nrm]
 refine any_take (i:=9) (v:=(.int .i64 f)) #[true,true,true,true,true,true,true,true,true,false,false,false] rfl (by kernel_rfl) (by kernel_rfl) (by kernel_rfl) (by kernel_rfl) (fun _ _ _ h=>h) (.inl ⟨by kernel_rfl,fun x_ hu=>exec_i64 _ (.tmp 22) rfl g 16 (by kernel_rfl) f hu⟩) hS ?_
 simp only [nrm]
 refine any_take (i:=10) (v:=(.slice (some ⟨g,0,none⟩) f 16)) #[true,true,true,true,true,true,true,true,true,true,false,false] rfl (by kernel_rfl) (by kernel_rfl) (by kernel_rfl) (by kernel_rfl) (fun _ _ _ h=>h) (.inl ⟨by kernel_rfl,fun x_ hu=>by go_simp⟩) hS ?_
 simp only [nrm]
 refine any_one (i:=11) (by kernel_rfl) rfl (fun K_ hQ=>?_)
 rw [if_pos (by kernel_rfl)]
 obtain ⟨D,hD⟩:∃ D,D=l.take f:=⟨_,rfl⟩
 have hDl:D.length=f:=by rw [hD,List.length_take,hl16]; omega
 have hDB:IsB D:=by rw [hD]; exact hlB.take f
 refine copy_wp (.tmp 14) (.tmp 24) rfl (w.heap.size+1) 0 16 16 (some ⟨g,0,none⟩) f 16 (by kernel_rfl) (by kernel_rfl) (ZT.map (Value.int .u8)) 32 (hB.get 1 (x:=⟨w.heap.size+1,kc ZT,32⟩) rfl) D (by rw [hDl]; exact (Nat.min_eq_left (by omega)).symm) (.inr ⟨g,0,rfl,by rw [hD]; exact hH.left.take f⟩) (by rw [hDl]; show 0+f≤16; omega) ?_
 have hcell:=laid (S:=D) (o:=0) (hB.get 1 (x:=⟨w.heap.size+1,kc ZT,32⟩) rfl) (by rw [hDl]; show 0+f≤16; omega)
 have hB2:=hB.but (setCells_bt (D.map (Value.int .u8)) x0 (w.heap.size+1) 0) 1 (x:=⟨w.heap.size+1,kc ZT,32⟩) rfl rfl hcell
 simp only [List.set_cons_zero,List.set_cons_succ] at hB2
 have hne:g≠w.heap.size+1:=by
  intro e
  have h1:=hB.get 1 (x:=⟨w.heap.size+1,kc ZT,32⟩) rfl
  have h2:=hH.2
  dsimp only at h1
  rw [e,h1] at h2
  simp only [Option.some.injEq,Obj.cells.injEq] at h2
  exact absurd h2.2.1 (by decide)
 replace hH:Lies g l (f:Int) S M A (World.setCells x0 (w.heap.size+1) 0 (D.map (Value.int .u8))):=⟨hH.1,(setCells_other _ x0 (w.heap.size+1) 0 g hne).trans hH.2⟩
 generalize World.setCells _ _ _ _=x1 at *
 clear hcell hB
 have hS:=hH.fill
 refine hQ.out _ _ hS (fun _=>?_)
 clear hQ K_
 simp only [nrm]
 refine any_done (by kernel_rfl) ?_
 rw [hDl]
 replace hB2:=hide hB2
 replace hH:=hide hH
 replace hD:=hide hD
 go_upto_region 5 with fail
 have hB:=unhide hB2
 clear hB2
 have hll:(lay ZT 0 D).length=16:=by rw [lay_len _ _ _ (by rw [hDl]; show 0+f≤16; omega)]; rfl
 refine wp_region_lit ?_
 refine list_val (.pointer (some ⟨g,0,none⟩)) (by kernel_rfl) (by kernel_rfl) ?_
 simp only [nrm]
 refine list_val (.pointer (some ⟨g,0,none⟩)) (by kernel_rfl) (by kernel_rfl) ?_
 simp only [nrm]
 refine list_val (.pointer (some ⟨g,0,none⟩)) (by kernel_rfl) (by kernel_rfl) ?_
 simp only [nrm]
 refine list_val (.pointer (some ⟨g,16,none⟩)) (by kernel_rfl) (by kernel_rfl) ?_
 simp only [nrm]
 refine list_val (.int .i64 f) (by kernel_rfl) (exec_i64 _ (.tmp 29) rfl g 16 (by kernel_rfl) f hS) ?_
 simp only [nrm]
 refine list_val (.pointer (some ⟨w.heap.size+1,f,none⟩)) (by kernel_rfl) (by go_simp) ?_
 simp only [nrm]
 have c4:=kc_cell (hB.get 1 (x:=⟨w.heap.size+1,kc (lay ZT 0 D),32⟩) rfl) f (by omega)
 have fz:=froz_of (i:=f) (hB.get 1 (x:=⟨w.heap.size+1,kc (lay ZT 0 D),32⟩) rfl)
 generalize (lay ZT 0 D).getD f 0=z at c4
 have hB2:=hB.cell 1 (x:=⟨w.heap.size+1,kc (lay ZT 0 D),32⟩) rfl f (.int .u8 1)
 have e9:(lay ZT 0 D).set f 1=endB D:=by
  have h:=endB_lay D (by omega)
  rw [hDl] at h
  exact h
 simp only [List.set_cons_zero,List.set_cons_succ,kc_set,e9] at hB2
 replace hH:Lies g l (f:Int) S M A (World.setCell x1 ⟨w.heap.size+1,f,none⟩ (.int .u8 1)):=⟨(unhide hH).1,(Below.heap_setCell x1 ⟨w.heap.size+1,f,none⟩ (.int .u8 1) g hne).trans (unhide hH).2⟩
 clear hB e9 hll hS
 replace hB2:=hide hB2
 replace hH:=hide hH
 (refine wpList_step fun K hK=>?_; replace hK:=hide hK; go_simp; refine unhide hK _ _ ?_; clear hK K)
 clear c4 fz
 refine wpList_nil ?_
 generalize World.setCell _ _ _=x2 at *
 have hEl:(endB D).length=16:=endB_len D (by omega)
 have hEB:=endB_isB D hDB
 have hEv:Hid (lowN (endB D)=((bN L (L.length / 16):Nat):Int)):=by
  have e1:D=L.drop (16 * (L.length / 16)):=by rw [unhide hD,unhide hlt]
  have h1:=lowN_end L (by rw [← e1]; exact hDB)
  rw [← e1] at h1
  exact h1
 generalize endB D=E at *
 go_upto_region 6 with fail
 have hB:=unhide hB2
 clear hB2
 replace hH:=unhide hH
 refine any_start (S:=fun v=>Lies g l (f:Int) S M A v) (by kernel_rfl) ?_
 replace hH:=hH.gr (Gr.refl _).drew
 replace hB:=hB.drew
 generalize World.drew _=x3 at *
 simp only [List.size_toArray,List.length_cons,List.length_nil,Array.replicate,List.replicate]
 refine any_take (i:=0) (v:=(.pointer (some ⟨g,0,none⟩))) #[false,false,false,false,false,false,false,false,false,false,false,false,false] rfl (by kernel_rfl) (by kernel_rfl) (by kernel_rfl) (by kernel_rfl) (fun _ _ _ h=>h) (.inl ⟨by kernel_rfl,fun x_ hu=>by kernel_rfl⟩) hH ?_
 simp only [nrm]
 refine any_take (i:=1) (v:=(.pointer (some ⟨g,0,none⟩))) #[true,false,false,false,false,false,false,false,false,false,false,false,false] rfl (by kernel_rfl) (by kernel_rfl) (by kernel_rfl) (by kernel_rfl) (fun _ _ _ h=>h) (.inl ⟨by kernel_rfl,fun x_ hu=>by kernel_rfl⟩) hH ?_
 simp only [nrm]
 refine any_take (i:=2) (v:=(.pointer (some ⟨g,17,none⟩))) #[true,true,false,false,false,false,false,false,false,false,false,false,false] rfl (by kernel_rfl) (by kernel_rfl) (by kernel_rfl) (by kernel_rfl) (fun _ _ _ h=>h) (.inl ⟨by kernel_rfl,fun x_ hu=>by kernel_rfl⟩) hH ?_
 simp only [nrm]
 refine any_take (i:=3) (v:=(.agg (fc S.a S.b S.c S.d S.e))) #[true,true,true,false,false,false,false,false,false,false,false,false,false] rfl (by kernel_rfl) (by kernel_rfl) (by kernel_rfl) (by kernel_rfl) (fun _ _ _ h=>h) (.inl ⟨by kernel_rfl,fun x_ hu=>exec_five _ (.tmp 34) rfl g 17 (by kernel_rfl) S hu.sum⟩) hH ?_
 simp only [nrm]
 refine any_take (i:=4) (v:=(.slice (some ⟨w.heap.size+1,0,none⟩) 16 16)) #[true,true,true,true,false,false,false,false,false,false,false,false,false] rfl (by kernel_rfl) (by kernel_rfl) (by kernel_rfl) (by kernel_rfl) (fun _ _ _ h=>h) (.inl ⟨by kernel_rfl,fun x_ hu=>by kernel_rfl⟩) hH ?_
 simp only [nrm]
 refine any_take (i:=7) (v:=(.pointer (some ⟨g,0,none⟩))) #[true,true,true,true,true,false,false,false,false,false,false,false,false] rfl (by kernel_rfl) (by kernel_rfl) (by kernel_rfl) (by kernel_rfl) (fun _ _ _ h=>h) (.inl ⟨by kernel_rfl,fun x_ hu=>by kernel_rfl⟩) hH ?_
 simp only [nrm]
 refine any_take (i:=8) (v:=(.pointer (some ⟨g,0,none⟩))) #[true,true,true,true,true,false,false,true,false,false,false,false,false] rfl (by kernel_rfl) (by kernel_rfl) (by kernel_rfl) (by kernel_rfl) (fun _ _ _ h=>h) (.inl ⟨by kernel_rfl,fun x_ hu=>by kernel_rfl⟩) hH ?_
 simp only [nrm]
 refine any_take (i:=9) (v:=(.pointer (some ⟨g,22,none⟩))) #[true,true,true,true,true,false,false,true,true,false,false,false,false] rfl (by kernel_rfl) (by kernel_rfl) (by kernel_rfl) (by kernel_rfl) (fun _ _ _ h=>h) (.inl ⟨by kernel_rfl,fun x_ hu=>by kernel_rfl⟩) hH ?_
 simp only [nrm]
 refine any_take (i:=10) (v:=(.agg (fc M.a M.b M.c M.d M.e))) #[true,true,true,true,true,false,false,true,true,true,false,false,false] rfl (by kernel_rfl) (by kernel_rfl) (by kernel_rfl) (by kernel_rfl) (fun _ _ _ h=>h) (.inl ⟨by kernel_rfl,fun x_ hu=>exec_five _ (.tmp 41) rfl g 22 (by kernel_rfl) M hu.mul⟩) hH ?_
 simp only [nrm]
 refine any_one (i:=5) (by kernel_rfl) rfl (fun K_ hQ=>?_)
 refine step_callw (by kernel_rfl) 112 #[.slice (some ⟨w.heap.size+1,0,none⟩) 16 16] (by kernel_rfl) ((number_ok E (w.heap.size+1) 0 16 hEl hEB (by omega) (by omega) _ (kc_at (hB.get 1 (x:=⟨w.heap.size+1,kc E,32⟩) rfl))).mono ?_)
 rintro r x4 ⟨y0,y1,y2,y3,y4,rfl,hy0,hy1,hy2,hy3,hy4,hyv,hgr⟩
 refine ⟨_,rfl,?_⟩
 replace hB:=hB.more hgr
 replace hH:=hH.gr hgr
 clear hgr
 obtain ⟨ca,cb,cc,cd_,ce,-,cm⟩:=hc
 unfold Dg at cb cc cd_ ce hy0 hy1 hy2 hy3
 have sm0:Sm S.a:=by unfold Sm; omega
 have sm1:Sm S.b:=by unfold Sm; omega
 have sm2:Sm S.c:=by unfold Sm; omega
 have sm3:Sm S.d:=by unfold Sm; omega
 have sm4:Sm S.e:=by unfold Sm; omega
 have sm5:Sm y0:=by unfold Sm; omega
 have sm6:Sm y1:=by unfold Sm; omega
 have sm7:Sm y2:=by unfold Sm; omega
 have sm8:Sm y3:=by unfold Sm; omega
 have sm9:Sm y4:=by unfold Sm; omega
 have tm0:0≤S.a+y0∧S.a+y0<268435456:=by omega
 have tm1:0≤S.b+y1∧S.b+y1<268435456:=by omega
 have tm2:0≤S.c+y2∧S.c+y2<268435456:=by omega
 have tm3:0≤S.d+y3∧S.d+y3<268435456:=by omega
 have tm4:0≤S.e+y4∧S.e+y4<268435456:=by omega
 have hval:v5 (S.a+y0) (S.b+y1) (S.c+y2) (S.d+y3) (S.e+y4) * v5 M.a M.b M.c M.d M.e % 1361129467683753853853498429727072845819=((acN (rK K) L (L.length / 16+1):Nat):Int):=by
  have e2:v5 M.a M.b M.c M.d M.e=(rK K:Int):=hMr
  rw [v5_add,hyv,unhide hEv,e2,acN]
  exact acc_step _ _ _ _ cm
 clear ca cb cc cd_ ce cm hy0 hy1 hy2 hy3 hy4 hyv
 refine hQ.out _ _ hH (fun _=>?_)
 clear hQ K_
 simp only [nrm]
 refine any_one (i:=6) (by kernel_rfl) rfl (fun K_ hQ=>?_)
 refine step_callw (by kernel_rfl) 117 #[.agg (fc S.a S.b S.c S.d S.e),.agg (fc y0 y1 y2 y3 y4)] (by kernel_rfl) ((plus_ok S.a S.b S.c S.d S.e y0 y1 y2 y3 y4 sm0 sm1 sm2 sm3 sm4 sm5 sm6 sm7 sm8 sm9 _).mono ?_)
 rintro r x5 ⟨rfl,hgr⟩
 refine ⟨_,rfl,?_⟩
 replace hB:=hB.more hgr
 replace hH:=hH.gr hgr
 clear hgr
 refine hQ.out _ _ hH (fun _=>?_)
 clear hQ K_
 simp only [nrm]
 refine any_one (i:=11) (by kernel_rfl) rfl (fun K_ hQ=>?_)
 refine step_callw (by kernel_rfl) 128 #[.agg (fc (S.a+y0) (S.b+y1) (S.c+y2) (S.d+y3) (S.e+y4)),.agg (fc M.a M.b M.c M.d M.e)] (by kernel_rfl) ((times_ok (S.a+y0) (S.b+y1) (S.c+y2) (S.d+y3) (S.e+y4) M.a M.b M.c M.d M.e tm0 tm1 tm2 tm3 tm4 hMd.1 hMd.2.1 hMd.2.2.1 hMd.2.2.2.1 hMd.2.2.2.2 _).mono ?_)
 rintro r x6 ⟨z0,z1,z2,z3,z4,rfl,hz,hgr⟩
 refine ⟨_,rfl,?_⟩
 rw [hval] at hz
 replace hB:=hB.more hgr
 replace hH:=hH.gr hgr
 clear hgr
 refine hQ.out _ _ hH (fun _=>?_)
 clear hQ K_
 simp only [nrm]
 refine any_one (i:=12) (by kernel_rfl) rfl (fun K_ hQ=>?_)
 rw [if_pos (by kernel_rfl)]
 refine wp_store_row 160 (.tmp 2) (.tmp 43) rfl (w.heap.size) (fc z0 z1 z2 z3 z4) (by kernel_rfl) (by kernel_rfl) 160 (fc 0 0 0 0 0) (hB.get 0 (x:=⟨w.heap.size,fc 0 0 0 0 0,160⟩) rfl) Tryz.infoPL rfl (fc_one _ _ _ _ _) ?_
 have hne0:g≠w.heap.size:=by
  intro e
  have h1:=hB.get 0 (x:=⟨w.heap.size,fc 0 0 0 0 0,160⟩) rfl
  have h2:=hH.2
  dsimp only at h1
  rw [e,h1] at h2
  simp only [Option.some.injEq,Obj.cells.injEq] at h2
  exact absurd h2.2.1 (by decide)
 replace hH:Lies g l (f:Int) S M A (World.setRow x6 (w.heap.size) (fc z0 z1 z2 z3 z4)):=⟨hH.1,(setRow_other x6 (w.heap.size) g _ hne0).trans hH.2⟩
 replace hB:=hB.set 0 (x:=⟨w.heap.size,fc 0 0 0 0 0,160⟩) rfl (fc z0 z1 z2 z3 z4)
 simp only [List.set_cons_zero,List.set_cons_succ] at hB
 generalize World.setRow _ _ _=x7 at *
 refine hQ.out _ _ hH (fun _=>?_)
 clear hQ K_
 simp only [nrm]
 refine any_done (by kernel_rfl) ?_
 replace hB:=hide hB
 clear hH hval sm0 sm1 sm2 sm3 sm4 sm5 sm6 sm7 sm8 sm9 tm0 tm1 tm2 tm3 tm4
 replace hz:=hide hz
 go_wp2_with fail
 replace hB:=unhide hB
 rw [unhide hT]
 exact bodyPost_ret (v:=.agg (fc z0 z1 z2 z3 z4)) (results_cell_row Tryz.results115 _ _ (w.heap.size) 160 (fc z0 z1 z2 z3 z4) (0,0) _ rfl (hB.get 0 (x:=⟨w.heap.size,fc z0 z1 z2 z3 z4,160⟩) rfl) Tryz.underlying160 rfl Tryz.infoPL) rfl (⟨_,_,_,_,_,rfl,unhide hz,hB.gr⟩)
theorem end_ok (K L:List Int) (g:Nat) (w:World) (hC:Cd K g L w):Calls Tryz.prog 115 #[.pointer (some ⟨g,0,none⟩)] w (Crd ((acN (rK K) L (nk L.length):Nat):Int) w):=by
 rcases Nat.eq_zero_or_pos (L.length % 16) with h | h
 ·exact end_whole K L g h w hC
 ·exact end_some K L g h w hC
set_option maxHeartbeats 4000000 in
theorem ctag_ok (K L:List Int) (g:Nat) (w:World) (hC:Cd K g L w):Calls Tryz.prog 92 #[.pointer (some ⟨g,0,none⟩)] w (Tg (mcL K L) w):=by
 obtain ⟨T,hT⟩:∃ T,T=Tg (mcL K L) w:=⟨_,rfl⟩
 rw [← hT]
 replace hT:=hide hT
 have hXl:(mcL K L).length=16:=tgL_len _
 replace hC:=hide hC
 go_enter Tryz.func92,Tryz.ntmps92
 go_upto_region 3 with fail
 have hB:=(Bl.nil w).new #[.int .u8 0,.int .u8 0,.int .u8 0,.int .u8 0,.int .u8 0,.int .u8 0,.int .u8 0,.int .u8 0,.int .u8 0,.int .u8 0,.int .u8 0,.int .u8 0,.int .u8 0,.int .u8 0,.int .u8 0,.int .u8 0] 94
 simp only [List.nil_append,List.cons_append] at hB
 generalize World.alloc _ _=u at *
 replace hB:Bl w [⟨w.heap.size,kc ZT,94⟩] u:=hB
 have hC2:=(unhide hC).gr hB.gr
 clear hC
 have hC3:=hC2
 obtain ⟨l,S,M,A,hH,hlB,hlt,hc,hMd,hMr,hAd,hAs⟩:=hC3
 refine any_start (S:=fun v=>Lies g l ((L.length % 16:Nat):Int) S M A v) (by kernel_rfl) ?_
 replace hC2:=hC2.gr (Gr.refl _).drew
 replace hB:=hB.drew
 replace hH:=hH.gr (Gr.refl _).drew
 generalize World.drew _=x0 at *
 simp only [List.size_toArray,List.length_cons,List.length_nil,Array.replicate,List.replicate]
 refine any_take (i:=0) (v:=(.pointer (some ⟨g,0,none⟩))) #[false,false,false,false,false,false,false,false,false,false] rfl (by kernel_rfl) (by kernel_rfl) (by kernel_rfl) (by kernel_rfl) (fun _ _ _ h=>h) (.inl ⟨by kernel_rfl,fun x_ hu=>by kernel_rfl⟩) hH ?_
 simp only [nrm]
 refine any_take (i:=3) (v:=(.pointer (some ⟨g,0,none⟩))) #[true,false,false,false,false,false,false,false,false,false] rfl (by kernel_rfl) (by kernel_rfl) (by kernel_rfl) (by kernel_rfl) (fun _ _ _ h=>h) (.inl ⟨by kernel_rfl,fun x_ hu=>by kernel_rfl⟩) hH ?_
 simp only [nrm]
 refine any_take (i:=4) (v:=(.pointer (some ⟨g,0,none⟩))) #[true,false,false,true,false,false,false,false,false,false] rfl (by kernel_rfl) (by kernel_rfl) (by kernel_rfl) (by kernel_rfl) (fun _ _ _ h=>h) (.inl ⟨by kernel_rfl,fun x_ hu=>by kernel_rfl⟩) hH ?_
 simp only [nrm]
 refine any_take (i:=5) (v:=(.pointer (some ⟨g,27,none⟩))) #[true,false,false,true,true,false,false,false,false,false] rfl (by kernel_rfl) (by kernel_rfl) (by kernel_rfl) (by kernel_rfl) (fun _ _ _ h=>h) (.inl ⟨by kernel_rfl,fun x_ hu=>by kernel_rfl⟩) hH ?_
 simp only [nrm]
 refine any_take (i:=6) (v:=(.agg (fc A.a A.b A.c A.d A.e))) #[true,false,false,true,true,true,false,false,false,false] rfl (by kernel_rfl) (by kernel_rfl) (by kernel_rfl) (by kernel_rfl) (fun _ _ _ h=>h) (.inl ⟨by kernel_rfl,fun x_ hu=>exec_five _ (.tmp 11) rfl g 27 (by kernel_rfl) A hu.add⟩) hH ?_
 simp only [nrm]
 refine any_one (i:=1) (by kernel_rfl) rfl (fun K_ hQ=>?_)
 refine step_callw (by kernel_rfl) 115 #[.pointer (some ⟨g,0,none⟩)] (by kernel_rfl) ((end_ok K L g _ hC2).mono ?_)
 rintro r x1 ⟨y0,y1,y2,y3,y4,rfl,hy,hgr⟩
 refine ⟨_,rfl,?_⟩
 clear hC2
 replace hB:=hB.more hgr
 replace hH:=hH.gr hgr
 clear hgr
 refine hQ.out _ _ hH (fun _=>?_)
 clear hQ K_
 simp only [nrm]
 refine any_one (i:=2) (by kernel_rfl) rfl (fun K_ hQ=>?_)
 refine step_callw (by kernel_rfl) 116 #[.agg (fc y0 y1 y2 y3 y4)] (by kernel_rfl) ((least_ok _ y0 y1 y2 y3 y4 hy _).mono ?_)
 rintro r x2 ⟨z0,z1,z2,z3,z4,rfl,hz0,hz1,hz2,hz3,hz4,hzv,hgr⟩
 refine ⟨_,rfl,?_⟩
 clear hy
 replace hB:=hB.more hgr
 replace hH:=hH.gr hgr
 clear hgr
 have hAd2:=hAd
 obtain ⟨ba,bb,bc,bd,be⟩:=hAd2
 unfold Dg at ba bb bc bd be hz0 hz1 hz2 hz3 hz4
 have sm0:Sm z0:=by unfold Sm; omega
 have sm1:Sm z1:=by unfold Sm; omega
 have sm2:Sm z2:=by unfold Sm; omega
 have sm3:Sm z3:=by unfold Sm; omega
 have sm4:Sm z4:=by unfold Sm; omega
 have sm5:Sm A.a:=by unfold Sm; omega
 have sm6:Sm A.b:=by unfold Sm; omega
 have sm7:Sm A.c:=by unfold Sm; omega
 have sm8:Sm A.d:=by unfold Sm; omega
 have sm9:Sm A.e:=by unfold Sm; omega
 have tm0:Sm (z0+A.a):=by unfold Sm; omega
 have tm1:Sm (z1+A.b):=by unfold Sm; omega
 have tm2:Sm (z2+A.c):=by unfold Sm; omega
 have tm3:Sm (z3+A.d):=by unfold Sm; omega
 have tm4:Sm (z4+A.e):=by unfold Sm; omega
 have hval:v5 (z0+A.a) (z1+A.b) (z2+A.c) (z3+A.d) (z4+A.e)=((mcN K L:Nat):Int):=by
  have e2:v5 A.a A.b A.c A.d A.e=(sK K:Int):=hAs
  rw [v5_add,hzv,e2]
  unfold mcN rK sK
  omega
 refine hQ.out _ _ hH (fun _=>?_)
 clear hQ K_
 simp only [nrm]
 refine any_one (i:=7) (by kernel_rfl) rfl (fun K_ hQ=>?_)
 refine step_callw (by kernel_rfl) 117 #[.agg (fc z0 z1 z2 z3 z4),.agg (fc A.a A.b A.c A.d A.e)] (by kernel_rfl) ((plus_ok z0 z1 z2 z3 z4 A.a A.b A.c A.d A.e sm0 sm1 sm2 sm3 sm4 sm5 sm6 sm7 sm8 sm9 _).mono ?_)
 rintro r x3 ⟨rfl,hgr⟩
 refine ⟨_,rfl,?_⟩
 replace hB:=hB.more hgr
 replace hH:=hH.gr hgr
 clear hgr
 refine hQ.out _ _ hH (fun _=>?_)
 clear hQ K_
 simp only [nrm]
 refine any_one (i:=8) (by kernel_rfl) rfl (fun K_ hQ=>?_)
 refine step_callw (by kernel_rfl) 118 #[.agg (fc (z0+A.a) (z1+A.b) (z2+A.c) (z3+A.d) (z4+A.e))] (by kernel_rfl) ((tag_ok (mcN K L) (z0+A.a) (z1+A.b) (z2+A.c) (z3+A.d) (z4+A.e) tm0 tm1 tm2 tm3 tm4 hval _).mono ?_)
 rintro r x4 ⟨rfl,hgr⟩
 refine ⟨_,rfl,?_⟩
 replace hB:=hB.more hgr
 replace hH:=hH.gr hgr
 clear hgr
 refine hQ.out _ _ hH (fun _=>?_)
 clear hQ K_
 simp only [nrm]
 refine any_one (i:=9) (by kernel_rfl) rfl (fun K_ hQ=>?_)
 rw [if_pos (by kernel_rfl)]
 refine wp_store_row 94 (.tmp 2) (.tmp 14) rfl (w.heap.size) (kc (mcL K L)) (by kernel_rfl) (by kernel_rfl) 94 (kc ZT) (hB.get 0 (x:=⟨w.heap.size,kc ZT,94⟩) rfl) (by rw [Tryz.infoT,kc_size,hXl]) ((show (kc ZT).size=16 from rfl).trans ((kc_size _).trans hXl).symm) (kc_one _) ?_
 have hne0:g≠w.heap.size:=by
  intro e
  have h1:=hB.get 0 (x:=⟨w.heap.size,kc ZT,94⟩) rfl
  have h2:=hH.2
  dsimp only at h1
  rw [e,h1] at h2
  simp only [Option.some.injEq,Obj.cells.injEq] at h2
  exact absurd h2.2.1 (by decide)
 replace hH:Lies g l _ S M A (World.setRow x4 (w.heap.size) (kc (mcL K L))):=⟨hH.1,(setRow_other x4 (w.heap.size) g _ hne0).trans hH.2⟩
 replace hB:=hB.set 0 (x:=⟨w.heap.size,kc ZT,94⟩) rfl (kc (mcL K L))
 simp only [List.set_cons_zero,List.set_cons_succ] at hB
 generalize World.setRow _ _ _=x5 at *
 refine hQ.out _ _ hH (fun _=>?_)
 clear hQ K_
 simp only [nrm]
 refine any_done (by kernel_rfl) ?_
 replace hB:=hide hB
 clear hH hval sm0 sm1 sm2 sm3 sm4 sm5 sm6 sm7 sm8 sm9 tm0 tm1 tm2 tm3 tm4 hz0 hz1 hz2 hz3 hz4 hzv ba bb bc bd be hc hMd hMr hAd hAs hlt
 go_wp2_with fail
 replace hB:=unhide hB
 rw [unhide hT]
 exact bodyPost_ret (v:=.agg (kc (mcL K L))) (results_cell_row Tryz.results92 _ _ (w.heap.size) 94 (kc (mcL K L)) (0,0) _ rfl (hB.get 0 (x:=⟨w.heap.size,kc (mcL K L),94⟩) rfl) Tryz.underlying94 rfl (by rw [Tryz.infoT,kc_size,hXl])) rfl (⟨rfl,hB.gr⟩)
def Newd (K:List Int) (w:World) (r:Ending) (w':World):Prop:=∃ g,r=.returned (.pointer (some ⟨g,0,none⟩))∧w.heap.size≤g∧Cd K g [] w'∧Gr w w'
theorem cd_new (K:List Int) (g:Nat) (M A:F5) (v:World) (h:v.heap[g]?=some (.cells (cd ZT 0 ⟨0,0,0,0,0⟩ M A) 165 (0,0))) (hM:Fd M) (hMv:M.v=(rK K:Int)) (hA:Fd A) (hAv:A.v=(sK K:Int)):Cd K g [] v:=by
 refine ⟨ZT,⟨0,0,0,0,0⟩,M,A,⟨rfl,h⟩,?_,rfl,?_,hM,hMv,hA,hAv⟩
 ·intro x hx
  have:=List.eq_of_mem_replicate hx
  omega
 ·show Car 0 0 0 0 0 0
  unfold Car Dg v5
  decide
set_option maxHeartbeats 4000000 in
theorem pnew_ok (K:List Int) (hK:K.length=32) (hKb:IsB K) (w:World):Calls Tryz.prog 88 #[.agg (kc K)] w (Newd K w):=by
 obtain ⟨T,hT⟩:∃ T,T=Newd K w:=⟨_,rfl⟩
 rw [← hT]
 replace hT:=hide hT
 obtain ⟨SK,hSK⟩:∃ S,S=kc K:=⟨_,rfl⟩
 rw [← hSK]
 replace hSK:=hide hSK
 replace hKb:=hide hKb
 go_enter Tryz.func88,Tryz.ntmps88
 go_upto_region 1 with fail
 have hB:=(Bl.nil w).new SK 23
 simp only [List.nil_append] at hB
 generalize World.alloc _ _=u at *
 rw [unhide hSK] at hB
 replace hB:Bl w [⟨w.heap.size,kc K,23⟩] u:=hB
 refine wp_region_lit ?_
 refine list_val (.agg (kc K)) (by kernel_rfl) (exec_arr _ 23 (.tmp 1) rfl (w.heap.size) (by kernel_rfl) (kc K) 23 _ (hB.get 0 (x:=⟨w.heap.size,kc K,23⟩) rfl) Tryz.underlying23 rfl (by rw [Tryz.infoKey,kc_size,hK])) ?_
 simp only [nrm]
 refine list_call 111 #[.agg (kc K)] (by kernel_rfl) (by kernel_rfl) ((clamp_ok K hK (unhide hKb) _).mono ?_)
 rintro r w1 ⟨rfl,hg⟩
 refine ⟨_,rfl,?_⟩
 replace hB:=hB.more hg
 clear hg
 obtain ⟨R,hR⟩:∃ R,R=clL K:=⟨_,rfl⟩
 have hRl:R.length=16:=by rw [hR]; exact clL_len K
 have hRb:Hid (IsB R):=by rw [hR]; exact clL_isB K (unhide hKb)
 have hRv:Hid (lowN R=(rK K:Int)):=by
  show lowN R=_
  rw [lowN_V R (unhide hRb),hR]
  rfl
 rw [← hR]
 replace hR:=hide hR
 simp only [nrm]
 replace hB:=hide hB
 (refine wpList_step fun K hK=>?_; replace hK:=hide hK; go_simp; refine unhide hK _ _ ?_; clear hK K)
 replace hB:=(unhide hB).new #[.int .u8 0,.int .u8 0,.int .u8 0,.int .u8 0,.int .u8 0,.int .u8 0,.int .u8 0,.int .u8 0,.int .u8 0,.int .u8 0,.int .u8 0,.int .u8 0,.int .u8 0,.int .u8 0,.int .u8 0,.int .u8 0] 94
 simp only [List.nil_append,List.cons_append] at hB
 generalize World.alloc _ _=w2 at *
 generalize w1.heap.size=h5 at *
 replace hB:Bl w [⟨w.heap.size,kc K,23⟩,⟨h5,kc ZT,94⟩] w2:=hB
 refine list_store 94 (.tmp 3) (.tmp 5) (h5) (kc R) 94 (kc ZT) (by kernel_rfl) rfl (by kernel_rfl) (by kernel_rfl) (hB.get 1 (x:=⟨h5,kc ZT,94⟩) rfl) (by rw [Tryz.infoT,kc_size,hRl]) ((show (kc ZT).size=16 from rfl).trans ((kc_size _).trans hRl).symm) (kc_one _) ?_
 replace hB:=hB.set 1 (x:=⟨h5,kc ZT,94⟩) rfl (kc R)
 simp only [List.set_cons_zero,List.set_cons_succ] at hB
 generalize World.setRow _ _ _=w3 at *
 simp only [nrm]
 refine wpList_nil ?_
 replace hB:=hide hB
 go_upto_region 2 with fail
 replace hB:=unhide hB
 have hKt:(K.drop 16).length=16:=by rw [List.length_drop,hK]
 have hKv:Hid (lowN (K.drop 16)=(sK K:Int)):=by
  show lowN (K.drop 16)=_
  rw [lowN_V _ ((unhide hKb).drop 16)]
  rfl
 refine any_start (S:=fun _=>True) (by kernel_rfl) ?_
 replace hB:=hB.drew
 generalize World.drew _=x0 at *
 simp only [List.size_toArray,List.length_cons,List.length_nil,Array.replicate,List.replicate]
 refine any_take (i:=0) (v:=(.slice (some ⟨h5,0,none⟩) 16 16)) #[false,false,false,false,false,false,false] rfl (by kernel_rfl) (by kernel_rfl) (by kernel_rfl) (by kernel_rfl) (fun _ _ _ h=>h) (.inl ⟨by kernel_rfl,fun x_ hu=>by kernel_rfl⟩) trivial ?_
 simp only [nrm]
 refine any_take (i:=2) (v:=(.slice (some ⟨w.heap.size,16,none⟩) 16 16)) #[true,false,false,false,false,false,false] rfl (by kernel_rfl) (by kernel_rfl) (by kernel_rfl) (by kernel_rfl) (fun _ _ _ h=>h) (.inl ⟨by kernel_rfl,fun x_ hu=>by kernel_rfl⟩) trivial ?_
 simp only [nrm]
 refine any_one (i:=1) (by kernel_rfl) rfl (fun K_ hQ=>?_)
 refine step_callw (by kernel_rfl) 112 #[.slice (some ⟨h5,0,none⟩) 16 16] (by kernel_rfl) ((number_ok R h5 0 16 hRl (unhide hRb) (by omega) (by omega) _ (kc_at (hB.get 1 (x:=⟨h5,kc R,94⟩) rfl))).mono ?_)
 rintro r x1 ⟨y0,y1,y2,y3,y4,rfl,hy0,hy1,hy2,hy3,hy4,hyv,hgr⟩
 refine ⟨_,rfl,?_⟩
 replace hB:=hB.more hgr
 clear hgr
 refine hQ.out _ _ trivial (fun _=>?_)
 clear hQ K_
 simp only [nrm]
 refine any_one (i:=3) (by kernel_rfl) rfl (fun K_ hQ=>?_)
 refine step_callw (by kernel_rfl) 112 #[.slice (some ⟨w.heap.size,16,none⟩) 16 16] (by kernel_rfl) ((number_ok (K.drop 16) (w.heap.size) 16 16 hKt ((unhide hKb).drop 16) (by omega) (by omega) _ ((kc_at (hB.get 0 (x:=⟨w.heap.size,kc K,23⟩) rfl)).drop 16)).mono ?_)
 rintro r x2 ⟨z0,z1,z2,z3,z4,rfl,hz0,hz1,hz2,hz3,hz4,hzv,hgr⟩
 refine ⟨_,rfl,?_⟩
 replace hB:=hB.more hgr
 clear hgr
 refine hQ.out _ _ trivial (fun _=>?_)
 clear hQ K_
 simp only [nrm]
 refine any_take (i:=4) (v:=(.agg (cd ZT 0 ⟨0,0,0,0,0⟩ ⟨y0,y1,y2,y3,y4⟩ ⟨z0,z1,z2,z3,z4⟩))) #[true,true,true,true,false,false,false] rfl (by kernel_rfl) (by kernel_rfl) (by kernel_rfl) (by kernel_rfl) (fun _ _ _ h=>h) (.inl ⟨by kernel_rfl,fun x_ hu=>by kernel_rfl⟩) trivial ?_
 simp only [nrm]
 refine any_one (i:=5) (by kernel_rfl) rfl (fun K_ hQ=>?_)
 refine step_val (.pointer (some ⟨x2.heap.size,0,none⟩)) (x2.alloc (.cells (cd ZT 0 ⟨0,0,0,0,0⟩ ⟨y0,y1,y2,y3,y4⟩ ⟨z0,z1,z2,z3,z4⟩) 165 (0,0))) (by kernel_rfl) (by kernel_rfl) ?_
 replace hB:=hB.new (cd ZT 0 ⟨0,0,0,0,0⟩ ⟨y0,y1,y2,y3,y4⟩ ⟨z0,z1,z2,z3,z4⟩) 165
 simp only [List.cons_append,List.nil_append] at hB
 generalize World.alloc _ _=x3 at *
 generalize x2.heap.size=h6 at *
 refine hQ.out _ _ trivial (fun _=>?_)
 clear hQ K_
 simp only [nrm]
 refine any_one (i:=6) (by kernel_rfl) rfl (fun K_ hQ=>?_)
 replace hQ:=hide hQ
 go_simp
 refine (unhide hQ).out _ _ trivial (fun _=>?_)
 clear hQ K_
 refine any_done (by kernel_rfl) ?_
 have hW:Hid (Newd K w (.returned (.pointer (some ⟨h6,0,none⟩))) x3):=by
  refine ⟨h6,rfl,hB.own 2 (x:=⟨h6,cd ZT 0 ⟨0,0,0,0,0⟩ ⟨y0,y1,y2,y3,y4⟩ ⟨z0,z1,z2,z3,z4⟩,165⟩) rfl,cd_new K h6 _ _ _ (hB.get 2 (x:=⟨h6,cd ZT 0 ⟨0,0,0,0,0⟩ ⟨y0,y1,y2,y3,y4⟩ ⟨z0,z1,z2,z3,z4⟩,165⟩) rfl) ⟨hy0,hy1,hy2,hy3,?_⟩ (hyv.trans (unhide hRv)) ⟨hz0,hz1,hz2,hz3,?_⟩ (hzv.trans (unhide hKv)),hB.gr⟩
  ·show 0≤y4∧y4<67108864
   omega
  ·show 0≤z4∧z4<67108864
   omega
 clear hB hy0 hy1 hy2 hy3 hy4 hyv hz0 hz1 hz2 hz3 hz4 hzv
 go_wp2_with fail
 rw [unhide hT]
 exact unhide hW
end Go.Proofs.YthahhglbeafkmaaGreatDoor
namespace Go.Proofs.YthahhglbeafkmaaGreatDoor
open Go.RowKit
set_option maxRecDepth 100000
set_option linter.unusedSimpArgs false
set_option linter.unusedVariables false
theorem list_ext {A B:List Int} (hl:A.length=B.length) (h:∀ i,i<A.length→A.getD i 0=B.getD i 0):A=B:=by
 apply List.ext_getElem hl
 intro i h1 h2
 have:=h i h1
 simpa [List.getD_eq_getElem?_getD,List.getElem?_eq_getElem h1,List.getElem?_eq_getElem h2] using this
theorem IsB.append {A B:List Int} (h:IsB A) (k:IsB B):IsB (A++B):=fun x hx=>by
 rcases List.mem_append.1 hx with h1 | h1
 ·exact h x h1
 ·exact k x h1
theorem rep_isB (n:Nat):IsB (List.replicate n 0):=fun x hx=>by have:=List.eq_of_mem_replicate hx; omega
theorem bts_isB (W:List Int):IsB (bts W):=fun x hx=>by
 unfold bts at hx
 obtain ⟨i,_,rfl⟩:=List.mem_map.1 hx
 unfold btf
 omega
theorem bk_isB (K N:List Int) (c:Int):IsB (bk K N c):=bts_isB _
theorem sf_rng (K N:List Int) (c:Int) (i:Nat):0≤sf K N c i∧sf K N c i<256:=(bk_isB K N _).at_ _
theorem xl_get (K N:List Int) (c:Int) (B:List Int) (i:Nat) (h:i<B.length):(xl K N c B).getD i 0=xf K N c B i:=by
 unfold xl
 rw [List.getD_eq_getElem?_getD,List.getElem?_map,List.getElem?_range h]
 rfl
theorem xl_twice (K N:List Int) (c:Int) (B:List Int) (hB:IsB B):xl K N c (xl K N c B)=B:=by
 refine list_ext (by rw [xl_len,xl_len]) fun i hi=>?_
 rw [xl_len,xl_len] at hi
 rw [xl_get _ _ _ _ _ (by rw [xl_len]; exact hi),xf,xl_get _ _ _ _ _ hi,xf]
 exact xb_twice _ _ (hB.at_ i) (sf_rng _ _ _ _)
theorem tgL_isB (n:Nat):IsB (tgL n):=fun x hx=>by
 unfold tgL at hx
 obtain ⟨i,_,rfl⟩:=List.mem_map.1 hx
 unfold tgf
 omega
def otk (K N:List Int):List Int:=(bk K N 0).take 32
theorem otk_len (K N:List Int):(otk K N).length=32:=by unfold otk; rw [List.length_take,bk_len]; rfl
theorem otk_isB (K N:List Int):IsB (otk K N):=(bk_isB K N 0).take 32
def padz (n:Nat):Nat:=(16 - n % 16) % 16
theorem padz_lt (n:Nat):padz n<16:=by unfold padz; omega
def pd (L:List Int):List Int:=L++List.replicate (padz L.length) 0
theorem pd_isB {L:List Int} (h:IsB L):IsB (pd L):=h.append (rep_isB _)
theorem pd_len (L:List Int):(pd L).length=L.length+padz L.length:=by simp [pd]
def tin (A C:List Int):List Int:=pd A++pd C++(lowL (A.length:Int) 8++lowL (C.length:Int) 8)
def tagL (K N A C:List Int):List Int:=mcL (otk K N) (tin A C)
theorem tagL_len (K N A C:List Int):(tagL K N A C).length=16:=tgL_len _
theorem tagL_isB (K N A C:List Int):IsB (tagL K N A C):=tgL_isB _
def sealL (K N A P:List Int):List Int:=xl K N 1 P++tagL K N A (xl K N 1 P)
theorem sealL_len (K N A P:List Int):(sealL K N A P).length=P.length+16:=by unfold sealL; rw [List.length_append,xl_len,tagL_len]
theorem sealL_isB (K N A P:List Int):IsB (sealL K N A P):=(xl_isB _ _ _ _).append (tagL_isB _ _ _ _)
def cntL (n:Int):List Int:=List.replicate 4 0++lowL n 8
theorem cntL_len (n:Int):(cntL n).length=12:=by unfold cntL; rw [List.length_append,lowL_len]; rfl
theorem cntL_isB (n:Int):IsB (cntL n):=(rep_isB 4).append (lowL_isB n 8)
theorem u8_or_nat (a b:Nat) (ha:a<256) (hb:b<256):bits .or .u8 (a:Int) (b:Int)=((a ||| b:Nat):Int):=by
 have hx:a ||| b<2 ^ 8:=Nat.or_lt_two_pow (by omega) (by omega)
 have h1:(BitVec.ofInt 8 (a:Int)).toNat=a:=by
  rw [BitVec.ofInt_natCast,BitVec.toNat_ofNat]; exact Nat.mod_eq_of_lt (by omega)
 have h2:(BitVec.ofInt 8 (b:Int)).toNat=b:=by
  rw [BitVec.ofInt_natCast,BitVec.toNat_ofNat]; exact Nat.mod_eq_of_lt (by omega)
 show IntKind.u8.wrap ((BitVec.ofInt 8 (a:Int) ||| BitVec.ofInt 8 (b:Int)).toNat:Int)=_
 rw [BitVec.toNat_or,h1,h2,IntKind.wrap_u8]
 omega
theorem nat_or_zero (a b:Nat):a ||| b=0 ↔ a=0∧b=0:=by
 constructor
 ·intro h
  have h1:=Nat.left_le_or (n:=a) (m:=b)
  have h2:=Nat.right_le_or (n:=a) (m:=b)
  omega
 ·rintro ⟨rfl,rfl⟩; rfl
theorem nat_xor_zero (a b:Nat):a ^^^ b=0 ↔ a=b:=by
 constructor
 ·intro h
  have:a ^^^ b ^^^ b=0 ^^^ b:=by rw [h]
  rw [Nat.xor_assoc,Nat.xor_self,Nat.xor_zero,Nat.zero_xor] at this
  exact this
 ·rintro rfl; exact Nat.xor_self a
theorem or_xor (u x y:Int) (hu:0≤u∧u<256) (hx:0≤x∧x<256) (hy:0≤y∧y<256) :
  (0≤bits .or .u8 u (bits .xor .u8 x y)∧bits .or .u8 u (bits .xor .u8 x y)<256)∧(bits .or .u8 u (bits .xor .u8 x y)=0 ↔ u=0∧x=y):=by
 obtain ⟨U,rfl⟩:=Int.eq_ofNat_of_zero_le hu.1
 obtain ⟨X,rfl⟩:=Int.eq_ofNat_of_zero_le hx.1
 obtain ⟨Y,rfl⟩:=Int.eq_ofNat_of_zero_le hy.1
 have h1:X ^^^ Y<256:=Nat.xor_lt_two_pow (n:=8) (by omega) (by omega)
 rw [u8_xor_nat X Y (by omega) (by omega),u8_or_nat U (X ^^^ Y) (by omega) h1]
 have h2:U ||| (X ^^^ Y)<256:=Nat.or_lt_two_pow (n:=8) (by omega) h1
 have h3:=nat_or_zero U (X ^^^ Y)
 have h4:=nat_xor_zero X Y
 refine ⟨by omega,?_⟩
 constructor
 ·intro h
  have:=h3.1 (by omega)
  exact ⟨by omega,by have:=h4.1 this.2; omega⟩
 ·rintro ⟨h,h'⟩
  have:=h3.2 ⟨by omega,h4.2 (by omega)⟩
  omega
theorem take_eq_step (l m:List Int) (k:Nat) (hl:k<l.length) (hm:k<m.length):l.take (k+1)=m.take (k+1) ↔ l.take k=m.take k∧l.getD k 0=m.getD k 0:=by
 have e:∀ x:List Int,k<x.length→x.take (k+1)=x.take k++[x.getD k 0]:=fun x hx=>by
  rw [List.take_add_one,List.getElem?_eq_getElem hx]
  simp [hx]
 rw [e l hl,e m hm]
 constructor
 ·intro h
  have:=List.append_inj h (by simp; omega)
  exact ⟨this.1,by simpa using this.2⟩
 ·rintro ⟨h1,h2⟩; rw [h1,h2]
def Unl (l m:List Int) (k:Nat) (u:Int):Prop:=(0≤u∧u<256)∧(u=0 ↔ l.take k=m.take k)
theorem Unl.step {l m:List Int} {k:Nat} {u x y:Int} (h:Unl l m k u) (hl:k<l.length) (hm:k<m.length) (hx:x=l.getD k 0) (hy:y=m.getD k 0) (bl:IsB l) (bm:IsB m) :
  Unl l m (k+1) (bits .or .u8 u (bits .xor .u8 x y)):=by
 subst hx; subst hy
 have:=or_xor u _ _ h.1 (bl.at_ k) (bm.at_ k)
 refine ⟨this.1,?_⟩
 rw [this.2,take_eq_step l m k hl hm,h.2]
set_option maxHeartbeats 1000000 in
theorem oequal_ok (l m:List Int) (a a':Option Addr) (n c c':Nat) (hn:n≤281474976710656) (w:World) (la:Lb w a n c l) (lb:Lb w a' n c' m) :
  Calls Tryz.prog 50 #[.slice a n c,.slice a' n c'] w (fun e w'=>e=.returned (.bool (decide (l=m)))∧w'=w):=by
 have hl:=hide la.len
 have hm:=hide lb.len
 replace la:=hide la
 replace lb:=hide lb
 go_enter Tryz.func50,Tryz.ntmps50
 go_wp2_with fail
 go_loopw [5,15] (fun x i wr=>∃ (k:Nat) (u:Int),k≤n∧i=.int .i64 k∧x=.int .u8 u∧Hid (Unl l m k u)∧wr=w) (fun _ i _=>n - (intOf i).toNat)
 case atStart=>exact ⟨0,0,Nat.zero_le _,rfl,rfl,(⟨by omega,by simp⟩:Unl l m 0 0),rfl⟩
 case round =>
 obtain ⟨k,u,hk,rfl,rfl,hU,rfl⟩:=hrel
 by_cases hlt:k<n
 ·obtain ⟨p,o,rfl,c0⟩:∃ p o,a=some ⟨p,o,none⟩∧wr.cell? ⟨p,o+k,none⟩=some (.int .u8 (l.getD k 0)):=by
   rcases (unhide la).sl with h | ⟨p,o,h1,h2⟩
   ·have:=unhide hl
    rw [h] at this
    simp at this
    omega
   ·exact ⟨p,o,h1,h2 k (by rw [unhide hl]; exact hlt)⟩
  obtain ⟨p',o',rfl,c1⟩:∃ p o,a'=some ⟨p,o,none⟩∧wr.cell? ⟨p,o+k,none⟩=some (.int .u8 (m.getD k 0)):=by
   rcases (unhide lb).sl with h | ⟨p,o,h1,h2⟩
   ·have:=unhide hm
    rw [h] at this
    simp at this
    omega
   ·exact ⟨p,o,h1,h2 k (by rw [unhide hm]; exact hlt)⟩
  obtain ⟨x,hx⟩:∃ x,x=l.getD k 0:=⟨_,rfl⟩
  obtain ⟨y,hy⟩:∃ y,y=m.getD k 0:=⟨_,rfl⟩
  rw [← hx] at c0
  rw [← hy] at c1
  have HS:=hide ((unhide hU).step (by rw [unhide hl]; exact hlt) (by rw [unhide hm]; exact hlt) hx hy (unhide la).isB (unhide lb).isB)
  clear hx hy hU
  have kI:(k:Int)<(n:Int):=by omega
  go_wp2_with fail
  go_roundw
  case rel=>exact ⟨k+1,_,by omega,by go_num,rfl,HS,trivial⟩
  case measure=>simp [intOf]; omega
 ·have kI:¬ (k:Int)<(n:Int):=by omega
  have e:l.take k=l∧m.take k=m:=⟨List.take_of_length_le (by rw [unhide hl]; omega),List.take_of_length_le (by rw [unhide hm]; omega)⟩
  have hU2:=(unhide hU).2
  rw [e.1,e.2] at hU2
  have HU:=hide (show (u == 0)=decide (l=m) by rw [Bool.eq_iff_iff]; simpa using hU2)
  clear hU hU2 e
  go_wp2_with fail
  refine bodyPost_ret (v:=.bool (u == 0)) (by simp [results,Tryz.results50,go_sem]) rfl ⟨?_,rfl⟩
  rw [unhide HU]
theorem Tryz.cells_b:Tryz.prog.cellsOf 5=1:=by kernel_rfl
theorem Tryz.info_b:(Tryz.prog.info? 5).map (fun i=>(i.zero,i.size,i.bytes))=some (some (.int .u8 0),1,1):=by kernel_rfl
theorem Tryz.plain_b:Tryz.prog.plainKey 5=true:=by kernel_rfl
theorem eqs_b (k m:List Int) (hl:k.length=m.length) (d:Nat) (is:List Nat) (h:∀ i ∈ is,i<k.length) (w:World):(Op.eqItems (d+1) 5 1 (kc k) (kc m) is).run Tryz.prog w=.ok (decide (∀ i ∈ is,k.getD i 0=m.getD i 0)) w:=by
 induction is with
 | nil=>simp [Op.eqItems]
 | cons i is ih =>
  have hi:i<k.length:=h i (by simp)
  have hp:∀ m:List Int,i<m.length→(part 5 (kc m) (i * 1)).run Tryz.prog w=.ok (.int .u8 (m.getD i 0)) w:=by
   intro m hm
   refine run_part_plain w Tryz.plain_b ?_
   simp [kc,List.getD,List.getElem?_eq_getElem hm]
  have he:=run_equalIn_int (P:=Tryz.prog) w d 5 .u8 .u8 (k.getD i 0) (m.getD i 0) Tryz.underlying5
  simp only [Op.eqItems,Sem.run_bind,hp k hi,hp m (by omega),he,Result.andThen_ok]
  have ih:=ih (fun j hj=>h j (List.mem_cons_of_mem _ hj))
  by_cases hq:k.getD i 0=m.getD i 0
  ·simp only [hq,beq_self_eq_true,if_true,List.mem_cons,forall_eq_or_imp,true_and]
   exact ih
  ·have hq2:(k.getD i 0 == m.getD i 0)=false:=by simpa using hq
   simp only [hq2,List.mem_cons,forall_eq_or_imp,hq,false_and,decide_false]
   rfl
end Go.Proofs.YthahhglbeafkmaaGreatDoor
