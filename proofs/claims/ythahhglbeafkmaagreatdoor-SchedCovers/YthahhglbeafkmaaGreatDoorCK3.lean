/-
  What the proof leans on.
-/
import Derived.Test.YthahhglbeafkmaaGreatDoorRows
import Derived.ChangeOld
import Derived.SizedLaws
import Derived.LaidMore
import Derived.Stop.Joined
import Derived.ProofKit
import Derived.OpenShut
import Derived.Test.YthahhglbeafkmaaGreatDoorCK2
namespace Go.Proofs.YthahhglbeafkmaaGreatDoor
open Go.RowKit
set_option maxRecDepth 1000000
set_option linter.unusedSimpArgs false
set_option linter.unusedVariables false
def loopsOf:Code→List Code
 | .loop c=>c::loopsOf c
 | .seq a b=>loopsOf a++loopsOf b
 | .block _ c=>loopsOf c
 | .scope c=>loopsOf c
 | .cond _ a b=>loopsOf a++loopsOf b
 | _=>[]
theorem right_gr (x m:Int) (hm:1≤m∧m≤31) (w:World):Calls Tryz.prog 63 #[.int .u32 x,.int .i64 m] w (fun r w'=>r=.returned (.int .u32 (tn x m.toNat))∧Gr w w') :=
 (right_int x m hm w).mono fun _ _ h=>⟨h.1,h.2 ▸ (Gr.refl w).drew⟩
noncomputable def lp (k:Nat):Code:=(((Tryz.f37.body).map loopsOf).getD []).getD k .skip
set_option maxHeartbeats 1000000 in
theorem rwords_loop (w:World) (D:List Int) (hD:IsB D) (hl:D.length=64) (p o len cap:Nat) (hlen:64≤len) (b0 b1 b2 b3:Blk) (gw:Nat) (hAt:∀ m v,Bl w [b0,b1,b2,b3,⟨gw,uc m,106⟩] v→At v p o D) (Q:Exit→Act→World→Prop) (hpan:∀ c t t' d w,Q (.panic c) ⟨t,d⟩ w→Q (.panic c) ⟨t',d⟩ w) (v:World)
  (hB:Bl w [b0,b1,b2,b3,⟨gw,uc Z64,106⟩] v) (c1 c2 c3 c4 c6 c7 c8 c9 c10 c11 c12 c13 c14 c15 c16 c17 c18 c19 c20 c21 c22 c23 c24 c25 c26 c27 c28 c29 c30 c31 c32 c33 c35 c36 c37 c38 c39 c40 c41 c42 c43 c44 c45 c46 c47 c48 c49 c50 c51 c52 c53 c54 c55 c56 c57 c58 c59 c60 c61 c62 c63 c64 c65 c66 c67 c68 c69 c70 c71 c72 c73 c74 c75 c76 c77 c78 c79 c80 c81 c82 c83 c84 c85 c86 c87 c88 c89 c90 c91 c92 c93 c94 c95 c96 c97 c98 c99 c100 c101 c102 c103 c104 c105 c106 c107 c108 c109 c110 c111 c112 c113 c114 c115 c116 c117 c118 c119 c120 c121 c122 c123 c124 c125 c126 c127 c128 c129 c130 c131 c132 c133 c134 c135 c136 c137 c138 c139 c140 c141 c142 c143 c144 c145 c146 c147 c148 c149 c150 c151 c152 c153 c154 c155 c156 c157 c158 c159 c160 c161 c162 c163 c164 c165 c166 c167 c168 c169 c170 c171 c172 c173 c174 c175 c176 c177 c178 c179 c180 c181 c182 c183 c184 c185 c186 c187 c188 c189 c190 c191 c192 c193 c194 c195 c196 c197 c198 c199 c200 c201 c202 c203 c204 c205 c206 c207 c208 c209 c210 c211 c212 c213 c214 c215 c216 c217 c218 c219 c220 c221 c222 c223 c224 c225 c226:Value)
  (hQ:∀ (u6 u7 u8 u34 u35 u36 u37 u38 u39 u40 u41 u42 u43 u44 u45 u46 u47 u48 u49 u50 u51 u52 u53 u54 u55 u56 u57 u58 u59 u60 u61 u62 u63 u64 u65 u66 u67 u68 u69 u70 u71 u72 u73 u74 u75 u76 u77 u78 u79 u80 u81 u82 u83 u84 u85 u86 u87 u88 u89 u90 u91 u92 u93 u94 u95 u96 u97 u98 u99 u100 u101 u102 u103 u104 u105 u106 u107 u108 u109 u110 u111:Value) (v':World),Bl w [b0,b1,b2,b3,⟨gw,uc (wds D),106⟩] v'→Q (.exit 2) ⟨#[.slice (some ⟨p,o,none⟩) len cap,c1,c2,c3,c4,.pointer (some ⟨gw,0,none⟩),u6,u7,u8,c9,c10,c11,c12,c13,c14,c15,c16,c17,c18,c19,c20,c21,c22,c23,c24,c25,c26,c27,c28,c29,c30,c31,c32,c33,u34,u35,u36,u37,u38,u39,u40,u41,u42,u43,u44,u45,u46,u47,u48,u49,u50,u51,u52,u53,u54,u55,u56,u57,u58,u59,u60,u61,u62,u63,u64,u65,u66,u67,u68,u69,u70,u71,u72,u73,u74,u75,u76,u77,u78,u79,u80,u81,u82,u83,u84,u85,u86,u87,u88,u89,u90,u91,u92,u93,u94,u95,u96,u97,u98,u99,u100,u101,u102,u103,u104,u105,u106,u107,u108,u109,u110,u111,c112,c113,c114,c115,c116,c117,c118,c119,c120,c121,c122,c123,c124,c125,c126,c127,c128,c129,c130,c131,c132,c133,c134,c135,c136,c137,c138,c139,c140,c141,c142,c143,c144,c145,c146,c147,c148,c149,c150,c151,c152,c153,c154,c155,c156,c157,c158,c159,c160,c161,c162,c163,c164,c165,c166,c167,c168,c169,c170,c171,c172,c173,c174,c175,c176,c177,c178,c179,c180,c181,c182,c183,c184,c185,c186,c187,c188,c189,c190,c191,c192,c193,c194,c195,c196,c197,c198,c199,c200,c201,c202,c203,c204,c205,c206,c207,c208,c209,c210,c211,c212,c213,c214,c215,c216,c217,c218,c219,c220,c221,c222,c223,c224,c225,c226],[]⟩ v') :
  Code.wp Tryz.prog (.loop (lp 1)) Q ⟨#[.slice (some ⟨p,o,none⟩) len cap,c1,c2,c3,c4,.pointer (some ⟨gw,0,none⟩),c6,c7,c8,c9,c10,c11,c12,c13,c14,c15,c16,c17,c18,c19,c20,c21,c22,c23,c24,c25,c26,c27,c28,c29,c30,c31,c32,c33,.int .i64 0,c35,c36,c37,c38,c39,c40,c41,c42,c43,c44,c45,c46,c47,c48,c49,c50,c51,c52,c53,c54,c55,c56,c57,c58,c59,c60,c61,c62,c63,c64,c65,c66,c67,c68,c69,c70,c71,c72,c73,c74,c75,c76,c77,c78,c79,c80,c81,c82,c83,c84,c85,c86,c87,c88,c89,c90,c91,c92,c93,c94,c95,c96,c97,c98,c99,c100,c101,c102,c103,c104,c105,c106,c107,c108,c109,c110,c111,c112,c113,c114,c115,c116,c117,c118,c119,c120,c121,c122,c123,c124,c125,c126,c127,c128,c129,c130,c131,c132,c133,c134,c135,c136,c137,c138,c139,c140,c141,c142,c143,c144,c145,c146,c147,c148,c149,c150,c151,c152,c153,c154,c155,c156,c157,c158,c159,c160,c161,c162,c163,c164,c165,c166,c167,c168,c169,c170,c171,c172,c173,c174,c175,c176,c177,c178,c179,c180,c181,c182,c183,c184,c185,c186,c187,c188,c189,c190,c191,c192,c193,c194,c195,c196,c197,c198,c199,c200,c201,c202,c203,c204,c205,c206,c207,c208,c209,c210,c211,c212,c213,c214,c215,c216,c217,c218,c219,c220,c221,c222,c223,c224,c225,c226],[]⟩ v:=by
 conv=>arg 2; arg 1; whnf
 dsimp only
 dsimp only at hQ
 replace hB:Hid (Bl w [b0,b1,b2,b3,⟨gw,uc (W12 D 0),106⟩] v):=hB
 replace hAt:=hide hAt
 replace hD:=hide hD
 replace hQ:=hide hQ
 have hlI:(64:Int)≤(len:Int):=by omega
 go_loopw [34] (fun i wr=>∃ n:Nat,∃ m:List Int,n≤64∧i=.int .i64 n∧Hid (m=W12 D n)∧Hid (Bl w [b0,b1,b2,b3,⟨gw,uc m,106⟩] wr)) (fun i _=>64 - (intOf i).toNat)
 case atStart=>exact ⟨0,W12 D 0,by omega,rfl,rfl,hB⟩
 case round =>
 clear hB
 obtain ⟨n,m,hn,rfl,hm,hB⟩:=hrel
 have hml:m.length=64:=by rw [unhide hm]; exact W12_len D n
 by_cases hil:n<64
 ·have nI:(n:Int)<64:=by omega
  by_cases h16:n<16
  ·obtain ⟨q0,hq0⟩:∃ q,q=4 * n:=⟨_,rfl⟩
   obtain ⟨q1,hq1⟩:∃ q,q=4 * n+1:=⟨_,rfl⟩
   obtain ⟨q2,hq2⟩:∃ q,q=4 * n+2:=⟨_,rfl⟩
   obtain ⟨q3,hq3⟩:∃ q,q=4 * n+3:=⟨_,rfl⟩
   have hA:At wr p o D:=(unhide hAt) m wr (unhide hB)
   have c0':=hA q0 (by omega)
   have c1':=hA q1 (by omega)
   have c2':=hA q2 (by omega)
   have c3':=hA q3 (by omega)
   have b0':=(unhide hD).at_ q0
   have b1':=(unhide hD).at_ q1
   have b2':=(unhide hD).at_ q2
   have b3':=(unhide hD).at_ q3
   clear hA
   have f3:=froz_of (i:=n) ((unhide hB).get 4 (x:=⟨gw,uc m,106⟩) rfl)
   have c4':=uc_cell ((unhide hB).get 4 (x:=⟨gw,uc m,106⟩) rfl) n (by omega)
   have hm2:Hid (m.set n (be (D.getD q0 0) (D.getD q1 0) (D.getD q2 0) (D.getD q3 0))=W12 D (n+1)):=by
    rw [unhide hm,hq0,hq1,hq2,hq3,W12_lo D n h16]
    exact rfl
   have hB2:=(unhide hB).drew.cell 4 (x:=⟨gw,uc m,106⟩) rfl n (.int .u32 (be (D.getD q0 0) (D.getD q1 0) (D.getD q2 0) (D.getD q3 0)))
   simp only [List.set_cons_zero,List.set_cons_succ,uc_set] at hB2
   replace hB2:=hide hB2
   generalize D.getD q0 0=x0 at *
   generalize D.getD q1 0=x1 at *
   generalize D.getD q2 0=x2 at *
   generalize D.getD q3 0=x3 at *
   generalize m.getD n 0=z at c4'
   have e0:4 * (n:Int)=(q0:Int):=by omega
   have g0:IntKind.i64.wrap (q0:Int)=(q0:Int):=by rw [IntKind.wrap_i64]; omega
   have l0:0≤(q0:Int)∧(q0:Int)<(len:Int):=by omega
   have m0:q0<len:=by omega
   have e1:(q0:Int)+1=(q1:Int):=by omega
   have g1:IntKind.i64.wrap (q1:Int)=(q1:Int):=by rw [IntKind.wrap_i64]; omega
   have l1:0≤(q1:Int)∧(q1:Int)<(len:Int):=by omega
   have m1:q1<len:=by omega
   have e2:(q0:Int)+2=(q2:Int):=by omega
   have g2:IntKind.i64.wrap (q2:Int)=(q2:Int):=by rw [IntKind.wrap_i64]; omega
   have l2:0≤(q2:Int)∧(q2:Int)<(len:Int):=by omega
   have m2:q2<len:=by omega
   have e3:(q0:Int)+3=(q3:Int):=by omega
   have g3:IntKind.i64.wrap (q3:Int)=(q3:Int):=by rw [IntKind.wrap_i64]; omega
   have l3:0≤(q3:Int)∧(q3:Int)<(len:Int):=by omega
   have m3:q3<len:=by omega
   have hI:(n:Int)<16:=by omega
   have nK:n<64:=by omega
   replace hq0:=hide hq0
   replace hq1:=hide hq1
   replace hq2:=hide hq2
   replace hq3:=hide hq3
   go_wp2_with fail
   go_still_tail 35,(by kernel_rfl)
   go_wp2_with fail
   go_roundw
   case rel=>exact ⟨n+1,_,by omega,by go_num,hm2,hB2⟩
   case measure=>simp [intOf]; omega
  ·have hI:¬ (n:Int)<16:=by omega
   obtain ⟨q0,hq0⟩:∃ q,q=n - 2:=⟨_,rfl⟩
   obtain ⟨q1,hq1⟩:∃ q,q=n - 7:=⟨_,rfl⟩
   obtain ⟨q2,hq2⟩:∃ q,q=n - 15:=⟨_,rfl⟩
   obtain ⟨q3,hq3⟩:∃ q,q=n - 16:=⟨_,rfl⟩
   have hg:=(unhide hB).get 4 (x:=⟨gw,uc m,106⟩) rfl
   have c0':=uc_cell hg q0 (by omega)
   have c1':=uc_cell hg q1 (by omega)
   have c2':=uc_cell hg q2 (by omega)
   have c3':=uc_cell hg q3 (by omega)
   have c4':=uc_cell hg n (by omega)
   have f4:=froz_of (i:=n) hg
   have hm2:Hid (m.set n ((m.getD q3 0+sg0 (m.getD q2 0)+m.getD q1 0+sg1 (m.getD q0 0)) % 4294967296)=W12 D (n+1)):=by
    rw [hq0,hq1,hq2,hq3,unhide hm,W12_hi D n (by omega),nx_ref]
    exact rfl
   clear hg
   obtain ⟨x1,hx1⟩:∃ x,x=m.getD q1 0:=⟨_,rfl⟩
   obtain ⟨x3,hx3⟩:∃ x,x=m.getD q3 0:=⟨_,rfl⟩
   rw [← hx1] at c1' hm2
   rw [← hx3] at c3' hm2
   replace hx1:=hide hx1
   replace hx3:=hide hx3
   generalize m.getD q0 0=x0 at *
   generalize m.getD q2 0=x2 at *
   clear c4' f4
   have e0:(n:Int) - 2=(q0:Int):=by omega
   have g0:IntKind.i64.wrap (q0:Int)=(q0:Int):=by rw [IntKind.wrap_i64]; omega
   have l0:0≤(q0:Int)∧(q0:Int)<64:=by omega
   have m0:q0<64:=by omega
   have e1:(n:Int) - 7=(q1:Int):=by omega
   have g1:IntKind.i64.wrap (q1:Int)=(q1:Int):=by rw [IntKind.wrap_i64]; omega
   have l1:0≤(q1:Int)∧(q1:Int)<64:=by omega
   have m1:q1<64:=by omega
   have e2:(n:Int) - 15=(q2:Int):=by omega
   have g2:IntKind.i64.wrap (q2:Int)=(q2:Int):=by rw [IntKind.wrap_i64]; omega
   have l2:0≤(q2:Int)∧(q2:Int)<64:=by omega
   have m2:q2<64:=by omega
   have e3:(n:Int) - 16=(q3:Int):=by omega
   have g3:IntKind.i64.wrap (q3:Int)=(q3:Int):=by rw [IntKind.wrap_i64]; omega
   have l3:0≤(q3:Int)∧(q3:Int)<64:=by omega
   have m3:q3<64:=by omega
   have nJ:0≤(n:Int)∧(n:Int)<64:=by omega
   have nK:n<64:=by omega
   replace hq0:=hide hq0
   replace hq1:=hide hq1
   replace hq2:=hide hq2
   replace hq3:=hide hq3
   go_wp2_with fail
   go_quiet (fail)
   replace hB:Hid (Bl w [b0,b1,b2,b3,⟨gw,uc m,106⟩] (wr.drewN nq)):=(unhide hB).drewN nq
   replace c1':(wr.drewN nq).cell? ⟨gw,q1,none⟩=some (.int .u32 x1):=c1'
   replace c3':(wr.drewN nq).cell? ⟨gw,q3,none⟩=some (.int .u32 x3):=c3'
   clear c0' c2'
   generalize World.drewN _ _=v at *
   go_upto_region 13 with fail
   replace hB:=unhide hB
   refine any_start (S:=fun v=>v.cell? ⟨gw,q3,none⟩=some (.int .u32 x3)∧v.cell? ⟨gw,q1,none⟩=some (.int .u32 x1)) (by kernel_rfl) ?_
   replace c1':v.drew.cell? ⟨gw,q1,none⟩=some (.int .u32 x1):=c1'
   replace c3':v.drew.cell? ⟨gw,q3,none⟩=some (.int .u32 x3):=c3'
   replace hB:=hB.drew
   generalize v.drew=v0_ at *
   simp only [List.size_toArray,List.length_cons,List.length_nil,Array.replicate,List.replicate]
   refine any_take (i:=0) (v:=(.int .i64 n)) #[false,false,false,false,false,false,false,false,false,false,false,false,false,false,false,false,false,false,false,false,false,false,false,false,false,false,false,false,false,false] rfl (by kernel_rfl) (by kernel_rfl) (by kernel_rfl) (by kernel_rfl) (fun c a_ w_ h=>hpan c _ _ _ w_ h) (.inl ⟨by kernel_rfl,fun x_ hu=>by kernel_rfl⟩) ⟨c3',c1'⟩ ?_
   simp only [nrm]
   refine any_take (i:=1) (v:=(.int .i64 n)) #[true,false,false,false,false,false,false,false,false,false,false,false,false,false,false,false,false,false,false,false,false,false,false,false,false,false,false,false,false,false] rfl (by kernel_rfl) (by kernel_rfl) (by kernel_rfl) (by kernel_rfl) (fun c a_ w_ h=>hpan c _ _ _ w_ h) (.inl ⟨by kernel_rfl,fun x_ hu=>by kernel_rfl⟩) ⟨c3',c1'⟩ ?_
   simp only [nrm]
   refine any_take (i:=2) (v:=(.int .i64 q3)) #[true,true,false,false,false,false,false,false,false,false,false,false,false,false,false,false,false,false,false,false,false,false,false,false,false,false,false,false,false,false] rfl (by kernel_rfl) (by kernel_rfl) (by kernel_rfl) (by kernel_rfl) (fun c a_ w_ h=>hpan c _ _ _ w_ h) (.inl ⟨by kernel_rfl,fun x_ hu=>by go_simp⟩) ⟨c3',c1'⟩ ?_
   simp only [nrm]
   refine any_take (i:=3) (v:=(.pointer (some ⟨gw,q3,none⟩))) #[true,true,true,false,false,false,false,false,false,false,false,false,false,false,false,false,false,false,false,false,false,false,false,false,false,false,false,false,false,false] rfl (by kernel_rfl) (by kernel_rfl) (by kernel_rfl) (by kernel_rfl) (fun c a_ w_ h=>hpan c _ _ _ w_ h) (.inl ⟨by kernel_rfl,fun x_ hu=>by go_simp⟩) ⟨c3',c1'⟩ ?_
   simp only [nrm]
   refine any_take (i:=4) (v:=(.int .u32 x3)) #[true,true,true,true,false,false,false,false,false,false,false,false,false,false,false,false,false,false,false,false,false,false,false,false,false,false,false,false,false,false] rfl (by kernel_rfl) (by kernel_rfl) (by kernel_rfl) (by kernel_rfl) (fun c a_ w_ h=>hpan c _ _ _ w_ h) (.inl ⟨by kernel_rfl,fun x_ hu=>by have c:=hu.1; go_simp⟩) ⟨c3',c1'⟩ ?_
   simp only [nrm]
   refine any_take (i:=5) (v:=(.int .u32 x2)) #[true,true,true,true,true,false,false,false,false,false,false,false,false,false,false,false,false,false,false,false,false,false,false,false,false,false,false,false,false,false] rfl (by kernel_rfl) (by kernel_rfl) (by kernel_rfl) (by kernel_rfl) (fun c a_ w_ h=>hpan c _ _ _ w_ h) (.inl ⟨by kernel_rfl,fun x_ hu=>by kernel_rfl⟩) ⟨c3',c1'⟩ ?_
   simp only [nrm]
   refine any_take (i:=7) (v:=(.int .u32 x2)) #[true,true,true,true,true,true,false,false,false,false,false,false,false,false,false,false,false,false,false,false,false,false,false,false,false,false,false,false,false,false] rfl (by kernel_rfl) (by kernel_rfl) (by kernel_rfl) (by kernel_rfl) (fun c a_ w_ h=>hpan c _ _ _ w_ h) (.inl ⟨by kernel_rfl,fun x_ hu=>by kernel_rfl⟩) ⟨c3',c1'⟩ ?_
   simp only [nrm]
   refine any_take (i:=10) (v:=(.int .u32 x2)) #[true,true,true,true,true,true,false,true,false,false,false,false,false,false,false,false,false,false,false,false,false,false,false,false,false,false,false,false,false,false] rfl (by kernel_rfl) (by kernel_rfl) (by kernel_rfl) (by kernel_rfl) (fun c a_ w_ h=>hpan c _ _ _ w_ h) (.inl ⟨by kernel_rfl,fun x_ hu=>by kernel_rfl⟩) ⟨c3',c1'⟩ ?_
   simp only [nrm]
   refine any_take (i:=11) (v:=(.int .u32 (x2 / 2 ^ 3))) #[true,true,true,true,true,true,false,true,false,false,true,false,false,false,false,false,false,false,false,false,false,false,false,false,false,false,false,false,false,false] rfl (by kernel_rfl) (by kernel_rfl) (by kernel_rfl) (by kernel_rfl) (fun c a_ w_ h=>hpan c _ _ _ w_ h) (.inl ⟨by kernel_rfl,fun x_ hu=>by go_simp⟩) ⟨c3',c1'⟩ ?_
   simp only [nrm]
   refine any_take (i:=14) (v:=(.int .i64 n)) #[true,true,true,true,true,true,false,true,false,false,true,true,false,false,false,false,false,false,false,false,false,false,false,false,false,false,false,false,false,false] rfl (by kernel_rfl) (by kernel_rfl) (by kernel_rfl) (by kernel_rfl) (fun c a_ w_ h=>hpan c _ _ _ w_ h) (.inl ⟨by kernel_rfl,fun x_ hu=>by kernel_rfl⟩) ⟨c3',c1'⟩ ?_
   simp only [nrm]
   refine any_take (i:=15) (v:=(.int .i64 q1)) #[true,true,true,true,true,true,false,true,false,false,true,true,false,false,true,false,false,false,false,false,false,false,false,false,false,false,false,false,false,false] rfl (by kernel_rfl) (by kernel_rfl) (by kernel_rfl) (by kernel_rfl) (fun c a_ w_ h=>hpan c _ _ _ w_ h) (.inl ⟨by kernel_rfl,fun x_ hu=>by go_simp⟩) ⟨c3',c1'⟩ ?_
   simp only [nrm]
   refine any_take (i:=16) (v:=(.pointer (some ⟨gw,q1,none⟩))) #[true,true,true,true,true,true,false,true,false,false,true,true,false,false,true,true,false,false,false,false,false,false,false,false,false,false,false,false,false,false] rfl (by kernel_rfl) (by kernel_rfl) (by kernel_rfl) (by kernel_rfl) (fun c a_ w_ h=>hpan c _ _ _ w_ h) (.inl ⟨by kernel_rfl,fun x_ hu=>by go_simp⟩) ⟨c3',c1'⟩ ?_
   simp only [nrm]
   refine any_take (i:=17) (v:=(.int .u32 x1)) #[true,true,true,true,true,true,false,true,false,false,true,true,false,false,true,true,true,false,false,false,false,false,false,false,false,false,false,false,false,false] rfl (by kernel_rfl) (by kernel_rfl) (by kernel_rfl) (by kernel_rfl) (fun c a_ w_ h=>hpan c _ _ _ w_ h) (.inl ⟨by kernel_rfl,fun x_ hu=>by have c:=hu.2; go_simp⟩) ⟨c3',c1'⟩ ?_
   simp only [nrm]
   refine any_take (i:=19) (v:=(.int .u32 x0)) #[true,true,true,true,true,true,false,true,false,false,true,true,false,false,true,true,true,true,false,false,false,false,false,false,false,false,false,false,false,false] rfl (by kernel_rfl) (by kernel_rfl) (by kernel_rfl) (by kernel_rfl) (fun c a_ w_ h=>hpan c _ _ _ w_ h) (.inl ⟨by kernel_rfl,fun x_ hu=>by kernel_rfl⟩) ⟨c3',c1'⟩ ?_
   simp only [nrm]
   refine any_take (i:=21) (v:=(.int .u32 x0)) #[true,true,true,true,true,true,false,true,false,false,true,true,false,false,true,true,true,true,false,true,false,false,false,false,false,false,false,false,false,false] rfl (by kernel_rfl) (by kernel_rfl) (by kernel_rfl) (by kernel_rfl) (fun c a_ w_ h=>hpan c _ _ _ w_ h) (.inl ⟨by kernel_rfl,fun x_ hu=>by kernel_rfl⟩) ⟨c3',c1'⟩ ?_
   simp only [nrm]
   refine any_take (i:=24) (v:=(.int .u32 x0)) #[true,true,true,true,true,true,false,true,false,false,true,true,false,false,true,true,true,true,false,true,false,true,false,false,false,false,false,false,false,false] rfl (by kernel_rfl) (by kernel_rfl) (by kernel_rfl) (by kernel_rfl) (fun c a_ w_ h=>hpan c _ _ _ w_ h) (.inl ⟨by kernel_rfl,fun x_ hu=>by kernel_rfl⟩) ⟨c3',c1'⟩ ?_
   simp only [nrm]
   refine any_take (i:=25) (v:=(.int .u32 (x0 / 2 ^ 10))) #[true,true,true,true,true,true,false,true,false,false,true,true,false,false,true,true,true,true,false,true,false,true,false,false,true,false,false,false,false,false] rfl (by kernel_rfl) (by kernel_rfl) (by kernel_rfl) (by kernel_rfl) (fun c a_ w_ h=>hpan c _ _ _ w_ h) (.inl ⟨by kernel_rfl,fun x_ hu=>by go_simp⟩) ⟨c3',c1'⟩ ?_
   simp only [nrm]
   refine any_one (i:=6) (by kernel_rfl) rfl (fun K hK=>?_)
   refine step_callw (by kernel_rfl) 63 #[.int .u32 x2,.int .i64 7] (by kernel_rfl) ((right_gr x2 7 (by omega) _).mono ?_)
   rintro r v1_ ⟨rfl,hg⟩
   refine ⟨_,rfl,?_⟩
   replace c1':=hg.cell c1'
   replace c3':=hg.cell c3'
   replace hB:=hB.more hg
   clear hg
   refine hK.out _ _ ⟨c3',c1'⟩ (fun _=>?_)
   clear hK K
   simp only [nrm]
   refine any_one (i:=8) (by kernel_rfl) rfl (fun K hK=>?_)
   refine step_callw (by kernel_rfl) 63 #[.int .u32 x2,.int .i64 18] (by kernel_rfl) ((right_gr x2 18 (by omega) _).mono ?_)
   rintro r v2_ ⟨rfl,hg⟩
   refine ⟨_,rfl,?_⟩
   replace c1':=hg.cell c1'
   replace c3':=hg.cell c3'
   replace hB:=hB.more hg
   clear hg
   refine hK.out _ _ ⟨c3',c1'⟩ (fun _=>?_)
   clear hK K
   simp only [nrm]
   refine any_take (i:=9) (v:=(.int .u32 (xr (tn x2 7) (tn x2 18)))) #[true,true,true,true,true,true,true,true,true,false,true,true,false,false,true,true,true,true,false,true,false,true,false,false,true,true,false,false,false,false] rfl (by kernel_rfl) (by kernel_rfl) (by kernel_rfl) (by kernel_rfl) (fun c a_ w_ h=>hpan c _ _ _ w_ h) (.inl ⟨by kernel_rfl,fun x_ hu=>by kernel_rfl⟩) ⟨c3',c1'⟩ ?_
   simp only [nrm]
   refine any_take (i:=12) (v:=(.int .u32 (xr (xr (tn x2 7) (tn x2 18)) (x2 / 2 ^ 3)))) #[true,true,true,true,true,true,true,true,true,true,true,true,false,false,true,true,true,true,false,true,false,true,false,false,true,true,false,false,false,false] rfl (by kernel_rfl) (by kernel_rfl) (by kernel_rfl) (by kernel_rfl) (fun c a_ w_ h=>hpan c _ _ _ w_ h) (.inl ⟨by kernel_rfl,fun x_ hu=>by kernel_rfl⟩) ⟨c3',c1'⟩ ?_
   simp only [nrm]
   refine any_take (i:=13) (v:=(.int .u32 (ad x3 (xr (xr (tn x2 7) (tn x2 18)) (x2 / 2 ^ 3))))) #[true,true,true,true,true,true,true,true,true,true,true,true,true,false,true,true,true,true,false,true,false,true,false,false,true,true,false,false,false,false] rfl (by kernel_rfl) (by kernel_rfl) (by kernel_rfl) (by kernel_rfl) (fun c a_ w_ h=>hpan c _ _ _ w_ h) (.inl ⟨by kernel_rfl,fun x_ hu=>by kernel_rfl⟩) ⟨c3',c1'⟩ ?_
   simp only [nrm]
   refine any_take (i:=18) (v:=(.int .u32 (ad (ad x3 (xr (xr (tn x2 7) (tn x2 18)) (x2 / 2 ^ 3))) x1))) #[true,true,true,true,true,true,true,true,true,true,true,true,true,true,true,true,true,true,false,true,false,true,false,false,true,true,false,false,false,false] rfl (by kernel_rfl) (by kernel_rfl) (by kernel_rfl) (by kernel_rfl) (fun c a_ w_ h=>hpan c _ _ _ w_ h) (.inl ⟨by kernel_rfl,fun x_ hu=>by kernel_rfl⟩) ⟨c3',c1'⟩ ?_
   simp only [nrm]
   refine any_one (i:=20) (by kernel_rfl) rfl (fun K hK=>?_)
   refine step_callw (by kernel_rfl) 63 #[.int .u32 x0,.int .i64 17] (by kernel_rfl) ((right_gr x0 17 (by omega) _).mono ?_)
   rintro r v3_ ⟨rfl,hg⟩
   refine ⟨_,rfl,?_⟩
   replace c1':=hg.cell c1'
   replace c3':=hg.cell c3'
   replace hB:=hB.more hg
   clear hg
   refine hK.out _ _ ⟨c3',c1'⟩ (fun _=>?_)
   clear hK K
   simp only [nrm]
   refine any_one (i:=22) (by kernel_rfl) rfl (fun K hK=>?_)
   refine step_callw (by kernel_rfl) 63 #[.int .u32 x0,.int .i64 19] (by kernel_rfl) ((right_gr x0 19 (by omega) _).mono ?_)
   rintro r v4_ ⟨rfl,hg⟩
   refine ⟨_,rfl,?_⟩
   replace c1':=hg.cell c1'
   replace c3':=hg.cell c3'
   replace hB:=hB.more hg
   clear hg
   refine hK.out _ _ ⟨c3',c1'⟩ (fun _=>?_)
   clear hK K
   simp only [nrm]
   refine any_take (i:=23) (v:=(.int .u32 (xr (tn x0 17) (tn x0 19)))) #[true,true,true,true,true,true,true,true,true,true,true,true,true,true,true,true,true,true,true,true,true,true,true,false,true,true,false,false,false,false] rfl (by kernel_rfl) (by kernel_rfl) (by kernel_rfl) (by kernel_rfl) (fun c a_ w_ h=>hpan c _ _ _ w_ h) (.inl ⟨by kernel_rfl,fun x_ hu=>by kernel_rfl⟩) ⟨c3',c1'⟩ ?_
   simp only [nrm]
   refine any_take (i:=26) (v:=(.int .u32 (xr (xr (tn x0 17) (tn x0 19)) (x0 / 2 ^ 10)))) #[true,true,true,true,true,true,true,true,true,true,true,true,true,true,true,true,true,true,true,true,true,true,true,true,true,true,false,false,false,false] rfl (by kernel_rfl) (by kernel_rfl) (by kernel_rfl) (by kernel_rfl) (fun c a_ w_ h=>hpan c _ _ _ w_ h) (.inl ⟨by kernel_rfl,fun x_ hu=>by kernel_rfl⟩) ⟨c3',c1'⟩ ?_
   simp only [nrm]
   refine any_take (i:=27) (v:=(.int .u32 (ad (ad (ad x3 (xr (xr (tn x2 7) (tn x2 18)) (x2 / 2 ^ 3))) x1) (xr (xr (tn x0 17) (tn x0 19)) (x0 / 2 ^ 10))))) #[true,true,true,true,true,true,true,true,true,true,true,true,true,true,true,true,true,true,true,true,true,true,true,true,true,true,true,false,false,false] rfl (by kernel_rfl) (by kernel_rfl) (by kernel_rfl) (by kernel_rfl) (fun c a_ w_ h=>hpan c _ _ _ w_ h) (.inl ⟨by kernel_rfl,fun x_ hu=>by kernel_rfl⟩) ⟨c3',c1'⟩ ?_
   simp only [nrm]
   refine any_take (i:=28) (v:=(.pointer (some ⟨gw,n,none⟩))) #[true,true,true,true,true,true,true,true,true,true,true,true,true,true,true,true,true,true,true,true,true,true,true,true,true,true,true,true,false,false] rfl (by kernel_rfl) (by kernel_rfl) (by kernel_rfl) (by kernel_rfl) (fun c a_ w_ h=>hpan c _ _ _ w_ h) (.inl ⟨by kernel_rfl,fun x_ hu=>by go_simp⟩) ⟨c3',c1'⟩ ?_
   simp only [nrm]
   refine any_one (i:=29) (by kernel_rfl) rfl (fun K hK=>?_)
   have c4':=uc_cell (hB.get 4 (x:=⟨gw,uc m,106⟩) rfl) n (by omega)
   have f4:=froz_of (i:=n) (hB.get 4 (x:=⟨gw,uc m,106⟩) rfl)
   obtain ⟨V,hV⟩:∃ V,V=(ad (ad (ad x3 (xr (xr (tn x2 7) (tn x2 18)) (x2 / 2 ^ 3))) x1) (xr (xr (tn x0 17) (tn x0 19)) (x0 / 2 ^ 10))):=⟨_,rfl⟩
   have hB2:=hB.cell 4 (x:=⟨gw,uc m,106⟩) rfl n (.int .u32 V)
   simp only [List.set_cons_zero,List.set_cons_succ,uc_set] at hB2
   have k1:=uc_cell (hB2.get 4 (x:=⟨gw,uc (m.set n V),106⟩) rfl) q1 (by rw [List.length_set]; omega)
   have k3:=uc_cell (hB2.get 4 (x:=⟨gw,uc (m.set n V),106⟩) rfl) q3 (by rw [List.length_set]; omega)
   rw [getD_set _ _ _ _ (by omega),if_neg (by have:=unhide hq1; omega),← unhide hx1] at k1
   rw [getD_set _ _ _ _ (by omega),if_neg (by have:=unhide hq3; omega),← unhide hx3] at k3
   rw [← hV]
   replace hK:=hide hK
   replace hB2:=hide hB2
   replace hV:=hide hV
   go_simp
   refine (unhide hK).out _ _ ⟨k3,k1⟩ (fun _=>?_)
   clear hK K
   refine any_done (by kernel_rfl) ?_
   try simp only [nrm]
   have hm3:Hid (m.set n V=W12 D (n+1)):=by
    rw [← unhide hm2,unhide hV]
    congr 1
    simp only [ad_eq,sg0,sg1]
    omega
   generalize World.setCell _ _ _=v9 at *
   clear k1 k3 c4' f4 c1' c3' hB
   go_wp2_with fail
   go_roundw
   case rel=>exact ⟨n+1,_,by omega,by go_num,hm3,hB2⟩
   case measure=>simp [intOf]; omega
 ·have e:n=64:=by omega
  subst e
  clear hil
  have hr0:m=wds D:=(unhide hm).trans (W12_all D)
  have hB3:Hid (Bl w [b0,b1,b2,b3,⟨gw,uc (wds D),106⟩] wr):=by rw [← hr0]; exact hB
  clear hB hm hr0 hAt
  go_wp2_with fail
  exact (unhide hQ) _ _ _ _ _ _ _ _ _ _ _ _ _ _ _ _ _ _ _ _ _ _ _ _ _ _ _ _ _ _ _ _ _ _ _ _ _ _ _ _ _ _ _ _ _ _ _ _ _ _ _ _ _ _ _ _ _ _ _ _ _ _ _ _ _ _ _ _ _ _ _ _ _ _ _ _ _ _ _ _ _ _ (unhide hB3)
set_option maxHeartbeats 1000000 in
theorem rsteps_loop (w:World) (z:St) (W K:List Int) (hW:W.length=64) (hK:K.length=64) (b0 b2 b3:Blk) (gk gw gt:Nat) (Q:Exit→Act→World→Prop) (hpan:∀ c t t' d w,Q (.panic c) ⟨t,d⟩ w→Q (.panic c) ⟨t',d⟩ w) (v:World)
  (hB:Bl w [b0,⟨gk,uc K,106⟩,b2,b3,⟨gw,uc W,106⟩,⟨gt,uc (stl z),108⟩] v) (c0 c1 c2 c4 c6 c7 c8 c10 c11 c12 c13 c14 c15 c16 c17 c18 c19 c20 c21 c22 c23 c24 c25 c26 c27 c28 c29 c30 c31 c32 c33 c34 c35 c36 c37 c38 c39 c40 c41 c42 c43 c44 c45 c46 c47 c48 c49 c50 c51 c52 c53 c54 c55 c56 c57 c58 c59 c60 c61 c62 c63 c64 c65 c66 c67 c68 c69 c70 c71 c72 c73 c74 c75 c76 c77 c78 c79 c80 c81 c82 c83 c84 c85 c86 c87 c88 c89 c90 c91 c92 c93 c94 c95 c96 c97 c98 c99 c100 c101 c102 c103 c104 c105 c106 c107 c108 c109 c110 c111 c112 c114 c115 c116 c117 c118 c119 c120 c121 c122 c123 c124 c125 c126 c127 c128 c129 c130 c131 c132 c133 c134 c135 c136 c137 c138 c139 c140 c141 c142 c143 c144 c145 c146 c147 c148 c149 c150 c151 c152 c153 c154 c155 c156 c157 c158 c159 c160 c161 c162 c163 c164 c165 c166 c167 c168 c169 c170 c171 c172 c173 c174 c175 c176 c177 c178 c179 c180 c181 c182 c183 c184 c185 c186 c187 c188 c189 c190 c191 c192 c193 c194 c195 c196 c197 c198 c199 c200 c201 c202 c203 c204 c205 c206 c207 c208 c209 c210 c211 c212 c213 c214 c215 c216 c217 c218 c219 c220 c221 c222 c223 c224 c225 c226:Value)
  (hQ:∀ (u10 u11 u12 u13 u14 u113 u114 u115 u116 u117 u118 u119 u120 u121 u122 u123 u124 u125 u126 u127 u128 u129 u130 u131 u132 u133 u134 u135 u136 u137 u138 u139 u140 u141 u142 u143 u144 u145 u146 u147 u148 u149 u150 u151 u152 u153 u154 u155 u156 u157 u158 u159 u160 u161 u162 u163 u164 u165 u166 u167 u168 u169 u170 u171 u172 u173 u174 u175 u176 u177 u178 u179 u180 u181 u182 u183 u184 u185 u186 u187 u188 u189 u190 u191 u192:Value) (v':World),Bl w [b0,⟨gk,uc K,106⟩,b2,b3,⟨gw,uc W,106⟩,⟨gt,uc (stl (rnds z W K 64)),108⟩] v'→Q (.exit 4) ⟨#[c0,c1,c2,.pointer (some ⟨gk,0,none⟩),c4,.pointer (some ⟨gw,0,none⟩),c6,c7,c8,.pointer (some ⟨gt,0,none⟩),u10,u11,u12,u13,u14,c15,c16,c17,c18,c19,c20,c21,c22,c23,c24,c25,c26,c27,c28,c29,c30,c31,c32,c33,c34,c35,c36,c37,c38,c39,c40,c41,c42,c43,c44,c45,c46,c47,c48,c49,c50,c51,c52,c53,c54,c55,c56,c57,c58,c59,c60,c61,c62,c63,c64,c65,c66,c67,c68,c69,c70,c71,c72,c73,c74,c75,c76,c77,c78,c79,c80,c81,c82,c83,c84,c85,c86,c87,c88,c89,c90,c91,c92,c93,c94,c95,c96,c97,c98,c99,c100,c101,c102,c103,c104,c105,c106,c107,c108,c109,c110,c111,c112,u113,u114,u115,u116,u117,u118,u119,u120,u121,u122,u123,u124,u125,u126,u127,u128,u129,u130,u131,u132,u133,u134,u135,u136,u137,u138,u139,u140,u141,u142,u143,u144,u145,u146,u147,u148,u149,u150,u151,u152,u153,u154,u155,u156,u157,u158,u159,u160,u161,u162,u163,u164,u165,u166,u167,u168,u169,u170,u171,u172,u173,u174,u175,u176,u177,u178,u179,u180,u181,u182,u183,u184,u185,u186,u187,u188,u189,u190,u191,u192,c193,c194,c195,c196,c197,c198,c199,c200,c201,c202,c203,c204,c205,c206,c207,c208,c209,c210,c211,c212,c213,c214,c215,c216,c217,c218,c219,c220,c221,c222,c223,c224,c225,c226],[]⟩ v') :
  Code.wp Tryz.prog (.loop (lp 2)) Q ⟨#[c0,c1,c2,.pointer (some ⟨gk,0,none⟩),c4,.pointer (some ⟨gw,0,none⟩),c6,c7,c8,.pointer (some ⟨gt,0,none⟩),c10,c11,c12,c13,c14,c15,c16,c17,c18,c19,c20,c21,c22,c23,c24,c25,c26,c27,c28,c29,c30,c31,c32,c33,c34,c35,c36,c37,c38,c39,c40,c41,c42,c43,c44,c45,c46,c47,c48,c49,c50,c51,c52,c53,c54,c55,c56,c57,c58,c59,c60,c61,c62,c63,c64,c65,c66,c67,c68,c69,c70,c71,c72,c73,c74,c75,c76,c77,c78,c79,c80,c81,c82,c83,c84,c85,c86,c87,c88,c89,c90,c91,c92,c93,c94,c95,c96,c97,c98,c99,c100,c101,c102,c103,c104,c105,c106,c107,c108,c109,c110,c111,c112,.int .i64 0,c114,c115,c116,c117,c118,c119,c120,c121,c122,c123,c124,c125,c126,c127,c128,c129,c130,c131,c132,c133,c134,c135,c136,c137,c138,c139,c140,c141,c142,c143,c144,c145,c146,c147,c148,c149,c150,c151,c152,c153,c154,c155,c156,c157,c158,c159,c160,c161,c162,c163,c164,c165,c166,c167,c168,c169,c170,c171,c172,c173,c174,c175,c176,c177,c178,c179,c180,c181,c182,c183,c184,c185,c186,c187,c188,c189,c190,c191,c192,c193,c194,c195,c196,c197,c198,c199,c200,c201,c202,c203,c204,c205,c206,c207,c208,c209,c210,c211,c212,c213,c214,c215,c216,c217,c218,c219,c220,c221,c222,c223,c224,c225,c226],[]⟩ v:=by
 conv=>arg 2; arg 1; whnf
 dsimp only
 dsimp only at hQ
 replace hB:Hid (Bl w [b0,⟨gk,uc K,106⟩,b2,b3,⟨gw,uc W,106⟩,⟨gt,uc (stl (rnds z W K 0)),108⟩] v):=hB
 replace hQ:=hide hQ
 go_loopw [113] (fun i wr=>∃ n:Nat,∃ q:St,n≤64∧i=.int .i64 n∧Hid (q=rnds z W K n)∧Hid (Bl w [b0,⟨gk,uc K,106⟩,b2,b3,⟨gw,uc W,106⟩,⟨gt,uc (stl q),108⟩] wr)) (fun i _=>64 - (intOf i).toNat)
 case atStart=>exact ⟨0,rnds z W K 0,by omega,rfl,rfl,hB⟩
 case round =>
 clear hB
 obtain ⟨n,q,hn,rfl,hq,hB⟩:=hrel
 by_cases hil:n<64
 ·have nI:(n:Int)<64:=by omega
  have nJ:0≤(n:Int)∧(n:Int)<64:=by omega
  obtain ⟨k,hk⟩:∃ k,k=K.getD n 0:=⟨_,rfl⟩
  obtain ⟨x,hx⟩:∃ x,x=W.getD n 0:=⟨_,rfl⟩
  have hq2:Hid (rnd q k x=rnds z W K (n+1)):=by rw [unhide hq,hk,hx]; exact rfl
  have hgW:=fun (u:World) (h:Bl w [b0,⟨gk,uc K,106⟩,b2,b3,⟨gw,uc W,106⟩,⟨gt,uc (stl q),108⟩] u)=>uc_cell (h.get 4 (x:=⟨gw,uc W,106⟩) rfl) n (by omega)
  have hgK:=fun (u:World) (h:Bl w [b0,⟨gk,uc K,106⟩,b2,b3,⟨gw,uc W,106⟩,⟨gt,uc (stl q),108⟩] u)=>uc_cell (h.get 1 (x:=⟨gk,uc K,106⟩) rfl) n (by omega)
  rw [← hx] at hgW
  rw [← hk] at hgK
  clear hk hx hq
  have hgS:=fun (u:World) (h:Bl w [b0,⟨gk,uc K,106⟩,b2,b3,⟨gw,uc W,106⟩,⟨gt,uc (stl q),108⟩] u) (j:Nat) (hj:j<8)=>uc_cell (h.get 5 (x:=⟨gt,uc (stl q),108⟩) rfl) j hj
  rcases q with ⟨qa,qb,qc,qd,qe,qf,qg,qh⟩
  have c0':wr.cell? ⟨gt,0,none⟩=some (.int .u32 qa):=hgS wr (unhide hB) 0 (by decide)
  have c4':wr.cell? ⟨gt,4,none⟩=some (.int .u32 qe):=hgS wr (unhide hB) 4 (by decide)
  replace hgW:=hide hgW
  replace hgK:=hide hgK
  replace hgS:=hide hgS
  go_wp2_with fail
  go_quiet (fail)
  replace hB:=(unhide hB).drewN nq
  clear c0' c4'
  generalize World.drewN _ _=v at *
  replace hB:=hide hB
  go_upto_region 20 with fail
  replace hB:=unhide hB
  refine any_start (S:=fun v=>Bl w [b0,⟨gk,uc K,106⟩,b2,b3,⟨gw,uc W,106⟩,⟨gt,uc (stl ⟨qa,qb,qc,qd,qe,qf,qg,qh⟩),108⟩] v) (by kernel_rfl) ?_
  replace hB:=hB.drew
  generalize World.drew _=v1_ at *
  simp only [List.size_toArray,List.length_cons,List.length_nil,Array.replicate,List.replicate]
  refine any_take (i:=0) (v:=(.pointer (some ⟨gt,7,none⟩))) #[false,false,false,false,false,false,false,false,false,false,false,false,false,false,false,false,false,false,false,false,false,false,false,false,false,false,false,false,false,false,false] rfl (by kernel_rfl) (by kernel_rfl) (by kernel_rfl) (by kernel_rfl) (fun c a_ w_ h=>hpan c _ _ _ w_ h) (.inl ⟨by kernel_rfl,fun x_ hu=>by kernel_rfl⟩) hB ?_
  simp only [nrm]
  refine any_take (i:=1) (v:=(.int .u32 qh)) #[true,false,false,false,false,false,false,false,false,false,false,false,false,false,false,false,false,false,false,false,false,false,false,false,false,false,false,false,false,false,false] rfl (by kernel_rfl) (by kernel_rfl) (by kernel_rfl) (by kernel_rfl) (fun c a_ w_ h=>hpan c _ _ _ w_ h) (.inl ⟨by kernel_rfl,fun x_ hu=>by have c:World.cell? x_ ⟨gt,7,none⟩=some (.int .u32 qh):=(unhide hgS) x_ hu 7 (by decide); go_simp⟩) hB ?_
  simp only [nrm]
  refine any_take (i:=2) (v:=(.int .u32 qe)) #[true,true,false,false,false,false,false,false,false,false,false,false,false,false,false,false,false,false,false,false,false,false,false,false,false,false,false,false,false,false,false] rfl (by kernel_rfl) (by kernel_rfl) (by kernel_rfl) (by kernel_rfl) (fun c a_ w_ h=>hpan c _ _ _ w_ h) (.inl ⟨by kernel_rfl,fun x_ hu=>by kernel_rfl⟩) hB ?_
  simp only [nrm]
  refine any_take (i:=4) (v:=(.int .u32 qe)) #[true,true,true,false,false,false,false,false,false,false,false,false,false,false,false,false,false,false,false,false,false,false,false,false,false,false,false,false,false,false,false] rfl (by kernel_rfl) (by kernel_rfl) (by kernel_rfl) (by kernel_rfl) (fun c a_ w_ h=>hpan c _ _ _ w_ h) (.inl ⟨by kernel_rfl,fun x_ hu=>by kernel_rfl⟩) hB ?_
  simp only [nrm]
  refine any_take (i:=7) (v:=(.int .u32 qe)) #[true,true,true,false,true,false,false,false,false,false,false,false,false,false,false,false,false,false,false,false,false,false,false,false,false,false,false,false,false,false,false] rfl (by kernel_rfl) (by kernel_rfl) (by kernel_rfl) (by kernel_rfl) (fun c a_ w_ h=>hpan c _ _ _ w_ h) (.inl ⟨by kernel_rfl,fun x_ hu=>by kernel_rfl⟩) hB ?_
  simp only [nrm]
  refine any_take (i:=11) (v:=(.int .u32 qe)) #[true,true,true,false,true,false,false,true,false,false,false,false,false,false,false,false,false,false,false,false,false,false,false,false,false,false,false,false,false,false,false] rfl (by kernel_rfl) (by kernel_rfl) (by kernel_rfl) (by kernel_rfl) (fun c a_ w_ h=>hpan c _ _ _ w_ h) (.inl ⟨by kernel_rfl,fun x_ hu=>by kernel_rfl⟩) hB ?_
  simp only [nrm]
  refine any_take (i:=12) (v:=(.pointer (some ⟨gt,5,none⟩))) #[true,true,true,false,true,false,false,true,false,false,false,true,false,false,false,false,false,false,false,false,false,false,false,false,false,false,false,false,false,false,false] rfl (by kernel_rfl) (by kernel_rfl) (by kernel_rfl) (by kernel_rfl) (fun c a_ w_ h=>hpan c _ _ _ w_ h) (.inl ⟨by kernel_rfl,fun x_ hu=>by kernel_rfl⟩) hB ?_
  simp only [nrm]
  refine any_take (i:=13) (v:=(.int .u32 qf)) #[true,true,true,false,true,false,false,true,false,false,false,true,true,false,false,false,false,false,false,false,false,false,false,false,false,false,false,false,false,false,false] rfl (by kernel_rfl) (by kernel_rfl) (by kernel_rfl) (by kernel_rfl) (fun c a_ w_ h=>hpan c _ _ _ w_ h) (.inl ⟨by kernel_rfl,fun x_ hu=>by have c:World.cell? x_ ⟨gt,5,none⟩=some (.int .u32 qf):=(unhide hgS) x_ hu 5 (by decide); go_simp⟩) hB ?_
  simp only [nrm]
  refine any_take (i:=14) (v:=(.int .u32 (an qe qf))) #[true,true,true,false,true,false,false,true,false,false,false,true,true,true,false,false,false,false,false,false,false,false,false,false,false,false,false,false,false,false,false] rfl (by kernel_rfl) (by kernel_rfl) (by kernel_rfl) (by kernel_rfl) (fun c a_ w_ h=>hpan c _ _ _ w_ h) (.inl ⟨by kernel_rfl,fun x_ hu=>by kernel_rfl⟩) hB ?_
  simp only [nrm]
  refine any_take (i:=15) (v:=(.int .u32 qe)) #[true,true,true,false,true,false,false,true,false,false,false,true,true,true,true,false,false,false,false,false,false,false,false,false,false,false,false,false,false,false,false] rfl (by kernel_rfl) (by kernel_rfl) (by kernel_rfl) (by kernel_rfl) (fun c a_ w_ h=>hpan c _ _ _ w_ h) (.inl ⟨by kernel_rfl,fun x_ hu=>by kernel_rfl⟩) hB ?_
  simp only [nrm]
  refine any_take (i:=16) (v:=(.int .u32 (xr 4294967295 qe))) #[true,true,true,false,true,false,false,true,false,false,false,true,true,true,true,true,false,false,false,false,false,false,false,false,false,false,false,false,false,false,false] rfl (by kernel_rfl) (by kernel_rfl) (by kernel_rfl) (by kernel_rfl) (fun c a_ w_ h=>hpan c _ _ _ w_ h) (.inl ⟨by kernel_rfl,fun x_ hu=>by kernel_rfl⟩) hB ?_
  simp only [nrm]
  refine any_take (i:=17) (v:=(.pointer (some ⟨gt,6,none⟩))) #[true,true,true,false,true,false,false,true,false,false,false,true,true,true,true,true,true,false,false,false,false,false,false,false,false,false,false,false,false,false,false] rfl (by kernel_rfl) (by kernel_rfl) (by kernel_rfl) (by kernel_rfl) (fun c a_ w_ h=>hpan c _ _ _ w_ h) (.inl ⟨by kernel_rfl,fun x_ hu=>by kernel_rfl⟩) hB ?_
  simp only [nrm]
  refine any_take (i:=18) (v:=(.int .u32 qg)) #[true,true,true,false,true,false,false,true,false,false,false,true,true,true,true,true,true,true,false,false,false,false,false,false,false,false,false,false,false,false,false] rfl (by kernel_rfl) (by kernel_rfl) (by kernel_rfl) (by kernel_rfl) (fun c a_ w_ h=>hpan c _ _ _ w_ h) (.inl ⟨by kernel_rfl,fun x_ hu=>by have c:World.cell? x_ ⟨gt,6,none⟩=some (.int .u32 qg):=(unhide hgS) x_ hu 6 (by decide); go_simp⟩) hB ?_
  simp only [nrm]
  refine any_take (i:=19) (v:=(.int .u32 (an (xr 4294967295 qe) qg))) #[true,true,true,false,true,false,false,true,false,false,false,true,true,true,true,true,true,true,true,false,false,false,false,false,false,false,false,false,false,false,false] rfl (by kernel_rfl) (by kernel_rfl) (by kernel_rfl) (by kernel_rfl) (fun c a_ w_ h=>hpan c _ _ _ w_ h) (.inl ⟨by kernel_rfl,fun x_ hu=>by kernel_rfl⟩) hB ?_
  simp only [nrm]
  refine any_take (i:=20) (v:=(.int .u32 (xr (an qe qf) (an (xr 4294967295 qe) qg)))) #[true,true,true,false,true,false,false,true,false,false,false,true,true,true,true,true,true,true,true,true,false,false,false,false,false,false,false,false,false,false,false] rfl (by kernel_rfl) (by kernel_rfl) (by kernel_rfl) (by kernel_rfl) (fun c a_ w_ h=>hpan c _ _ _ w_ h) (.inl ⟨by kernel_rfl,fun x_ hu=>by kernel_rfl⟩) hB ?_
  simp only [nrm]
  refine any_take (i:=22) (v:=(.int .i64 n)) #[true,true,true,false,true,false,false,true,false,false,false,true,true,true,true,true,true,true,true,true,true,false,false,false,false,false,false,false,false,false,false] rfl (by kernel_rfl) (by kernel_rfl) (by kernel_rfl) (by kernel_rfl) (fun c a_ w_ h=>hpan c _ _ _ w_ h) (.inl ⟨by kernel_rfl,fun x_ hu=>by kernel_rfl⟩) hB ?_
  simp only [nrm]
  refine any_take (i:=23) (v:=(.pointer (some ⟨gk,n,none⟩))) #[true,true,true,false,true,false,false,true,false,false,false,true,true,true,true,true,true,true,true,true,true,false,true,false,false,false,false,false,false,false,false] rfl (by kernel_rfl) (by kernel_rfl) (by kernel_rfl) (by kernel_rfl) (fun c a_ w_ h=>hpan c _ _ _ w_ h) (.inl ⟨by kernel_rfl,fun x_ hu=>by go_simp⟩) hB ?_
  simp only [nrm]
  refine any_take (i:=24) (v:=(.int .u32 k)) #[true,true,true,false,true,false,false,true,false,false,false,true,true,true,true,true,true,true,true,true,true,false,true,true,false,false,false,false,false,false,false] rfl (by kernel_rfl) (by kernel_rfl) (by kernel_rfl) (by kernel_rfl) (fun c a_ w_ h=>hpan c _ _ _ w_ h) (.inl ⟨by kernel_rfl,fun x_ hu=>by have c:=(unhide hgK) x_ hu; go_simp⟩) hB ?_
  simp only [nrm]
  refine any_take (i:=26) (v:=(.int .i64 n)) #[true,true,true,false,true,false,false,true,false,false,false,true,true,true,true,true,true,true,true,true,true,false,true,true,true,false,false,false,false,false,false] rfl (by kernel_rfl) (by kernel_rfl) (by kernel_rfl) (by kernel_rfl) (fun c a_ w_ h=>hpan c _ _ _ w_ h) (.inl ⟨by kernel_rfl,fun x_ hu=>by kernel_rfl⟩) hB ?_
  simp only [nrm]
  refine any_take (i:=27) (v:=(.pointer (some ⟨gw,n,none⟩))) #[true,true,true,false,true,false,false,true,false,false,false,true,true,true,true,true,true,true,true,true,true,false,true,true,true,false,true,false,false,false,false] rfl (by kernel_rfl) (by kernel_rfl) (by kernel_rfl) (by kernel_rfl) (fun c a_ w_ h=>hpan c _ _ _ w_ h) (.inl ⟨by kernel_rfl,fun x_ hu=>by go_simp⟩) hB ?_
  simp only [nrm]
  refine any_take (i:=28) (v:=(.int .u32 x)) #[true,true,true,false,true,false,false,true,false,false,false,true,true,true,true,true,true,true,true,true,true,false,true,true,true,false,true,true,false,false,false] rfl (by kernel_rfl) (by kernel_rfl) (by kernel_rfl) (by kernel_rfl) (fun c a_ w_ h=>hpan c _ _ _ w_ h) (.inl ⟨by kernel_rfl,fun x_ hu=>by have c:=(unhide hgW) x_ hu; go_simp⟩) hB ?_
  simp only [nrm]
  refine any_one (i:=3) (by kernel_rfl) rfl (fun K hK=>?_)
  refine step_callw (by kernel_rfl) 63 #[.int .u32 qe,.int .i64 6] (by kernel_rfl) ((right_gr qe 6 (by omega) _).mono ?_)
  rintro r v2_ ⟨rfl,hg⟩
  refine ⟨_,rfl,?_⟩
  replace hB:=hB.more hg
  clear hg
  refine hK.out _ _ hB (fun _=>?_)
  clear hK K
  simp only [nrm]
  refine any_one (i:=5) (by kernel_rfl) rfl (fun K hK=>?_)
  refine step_callw (by kernel_rfl) 63 #[.int .u32 qe,.int .i64 11] (by kernel_rfl) ((right_gr qe 11 (by omega) _).mono ?_)
  rintro r v3_ ⟨rfl,hg⟩
  refine ⟨_,rfl,?_⟩
  replace hB:=hB.more hg
  clear hg
  refine hK.out _ _ hB (fun _=>?_)
  clear hK K
  simp only [nrm]
  refine any_take (i:=6) (v:=(.int .u32 (xr (tn qe 6) (tn qe 11)))) #[true,true,true,true,true,true,false,true,false,false,false,true,true,true,true,true,true,true,true,true,true,false,true,true,true,false,true,true,true,false,false] rfl (by kernel_rfl) (by kernel_rfl) (by kernel_rfl) (by kernel_rfl) (fun c a_ w_ h=>hpan c _ _ _ w_ h) (.inl ⟨by kernel_rfl,fun x_ hu=>by kernel_rfl⟩) hB ?_
  simp only [nrm]
  refine any_one (i:=8) (by kernel_rfl) rfl (fun K hK=>?_)
  refine step_callw (by kernel_rfl) 63 #[.int .u32 qe,.int .i64 25] (by kernel_rfl) ((right_gr qe 25 (by omega) _).mono ?_)
  rintro r v4_ ⟨rfl,hg⟩
  refine ⟨_,rfl,?_⟩
  replace hB:=hB.more hg
  clear hg
  refine hK.out _ _ hB (fun _=>?_)
  clear hK K
  simp only [nrm]
  refine any_take (i:=9) (v:=(.int .u32 (xr (xr (tn qe 6) (tn qe 11)) (tn qe 25)))) #[true,true,true,true,true,true,true,true,true,false,false,true,true,true,true,true,true,true,true,true,true,false,true,true,true,false,true,true,true,false,false] rfl (by kernel_rfl) (by kernel_rfl) (by kernel_rfl) (by kernel_rfl) (fun c a_ w_ h=>hpan c _ _ _ w_ h) (.inl ⟨by kernel_rfl,fun x_ hu=>by kernel_rfl⟩) hB ?_
  simp only [nrm]
  refine any_take (i:=10) (v:=(.int .u32 (ad qh (xr (xr (tn qe 6) (tn qe 11)) (tn qe 25))))) #[true,true,true,true,true,true,true,true,true,true,false,true,true,true,true,true,true,true,true,true,true,false,true,true,true,false,true,true,true,false,false] rfl (by kernel_rfl) (by kernel_rfl) (by kernel_rfl) (by kernel_rfl) (fun c a_ w_ h=>hpan c _ _ _ w_ h) (.inl ⟨by kernel_rfl,fun x_ hu=>by kernel_rfl⟩) hB ?_
  simp only [nrm]
  refine any_take (i:=21) (v:=(.int .u32 (ad (ad qh (xr (xr (tn qe 6) (tn qe 11)) (tn qe 25))) (xr (an qe qf) (an (xr 4294967295 qe) qg))))) #[true,true,true,true,true,true,true,true,true,true,true,true,true,true,true,true,true,true,true,true,true,false,true,true,true,false,true,true,true,false,false] rfl (by kernel_rfl) (by kernel_rfl) (by kernel_rfl) (by kernel_rfl) (fun c a_ w_ h=>hpan c _ _ _ w_ h) (.inl ⟨by kernel_rfl,fun x_ hu=>by kernel_rfl⟩) hB ?_
  simp only [nrm]
  refine any_take (i:=25) (v:=(.int .u32 (ad (ad (ad qh (xr (xr (tn qe 6) (tn qe 11)) (tn qe 25))) (xr (an qe qf) (an (xr 4294967295 qe) qg))) k))) #[true,true,true,true,true,true,true,true,true,true,true,true,true,true,true,true,true,true,true,true,true,true,true,true,true,false,true,true,true,false,false] rfl (by kernel_rfl) (by kernel_rfl) (by kernel_rfl) (by kernel_rfl) (fun c a_ w_ h=>hpan c _ _ _ w_ h) (.inl ⟨by kernel_rfl,fun x_ hu=>by kernel_rfl⟩) hB ?_
  simp only [nrm]
  refine any_take (i:=29) (v:=(.int .u32 (ad (ad (ad (ad qh (xr (xr (tn qe 6) (tn qe 11)) (tn qe 25))) (xr (an qe qf) (an (xr 4294967295 qe) qg))) k) x))) #[true,true,true,true,true,true,true,true,true,true,true,true,true,true,true,true,true,true,true,true,true,true,true,true,true,true,true,true,true,false,false] rfl (by kernel_rfl) (by kernel_rfl) (by kernel_rfl) (by kernel_rfl) (fun c a_ w_ h=>hpan c _ _ _ w_ h) (.inl ⟨by kernel_rfl,fun x_ hu=>by kernel_rfl⟩) hB ?_
  simp only [nrm]
  refine any_one (i:=30) (by kernel_rfl) rfl (fun K hK=>?_)
  replace hK:=hide hK
  go_simp
  refine (unhide hK).out _ _ hB (fun _=>?_)
  clear hK K
  refine any_done (by kernel_rfl) ?_
  try simp only [nrm]
  have hT1:(ad (ad (ad (ad qh (xr (xr (tn qe 6) (tn qe 11)) (tn qe 25))) (xr (an qe qf) (an (xr 4294967295 qe) qg))) k) x)=T1 qe qf qg qh k x:=rfl
  rw [hT1]
  clear hT1
  generalize hT1:T1 qe qf qg qh k x=t1 at *
  replace hT1:=hide hT1
  replace hB:=hide hB
  go_upto_region 21 with fail
  replace hB:=unhide hB
  refine any_start (S:=fun v=>Bl w [b0,⟨gk,uc K,106⟩,b2,b3,⟨gw,uc W,106⟩,⟨gt,uc (stl ⟨qa,qb,qc,qd,qe,qf,qg,qh⟩),108⟩] v) (by kernel_rfl) ?_
  replace hB:=hB.drew
  generalize World.drew _=v5_ at *
  simp only [List.size_toArray,List.length_cons,List.length_nil,Array.replicate,List.replicate]
  refine any_take (i:=0) (v:=(.int .u32 qa)) #[false,false,false,false,false,false,false,false,false,false,false,false,false,false,false,false,false,false,false,false,false,false,false,false,false] rfl (by kernel_rfl) (by kernel_rfl) (by kernel_rfl) (by kernel_rfl) (fun c a_ w_ h=>hpan c _ _ _ w_ h) (.inl ⟨by kernel_rfl,fun x_ hu=>by kernel_rfl⟩) hB ?_
  simp only [nrm]
  refine any_take (i:=2) (v:=(.int .u32 qa)) #[true,false,false,false,false,false,false,false,false,false,false,false,false,false,false,false,false,false,false,false,false,false,false,false,false] rfl (by kernel_rfl) (by kernel_rfl) (by kernel_rfl) (by kernel_rfl) (fun c a_ w_ h=>hpan c _ _ _ w_ h) (.inl ⟨by kernel_rfl,fun x_ hu=>by kernel_rfl⟩) hB ?_
  simp only [nrm]
  refine any_take (i:=5) (v:=(.int .u32 qa)) #[true,false,true,false,false,false,false,false,false,false,false,false,false,false,false,false,false,false,false,false,false,false,false,false,false] rfl (by kernel_rfl) (by kernel_rfl) (by kernel_rfl) (by kernel_rfl) (fun c a_ w_ h=>hpan c _ _ _ w_ h) (.inl ⟨by kernel_rfl,fun x_ hu=>by kernel_rfl⟩) hB ?_
  simp only [nrm]
  refine any_take (i:=8) (v:=(.int .u32 qa)) #[true,false,true,false,false,true,false,false,false,false,false,false,false,false,false,false,false,false,false,false,false,false,false,false,false] rfl (by kernel_rfl) (by kernel_rfl) (by kernel_rfl) (by kernel_rfl) (fun c a_ w_ h=>hpan c _ _ _ w_ h) (.inl ⟨by kernel_rfl,fun x_ hu=>by kernel_rfl⟩) hB ?_
  simp only [nrm]
  refine any_take (i:=9) (v:=(.pointer (some ⟨gt,1,none⟩))) #[true,false,true,false,false,true,false,false,true,false,false,false,false,false,false,false,false,false,false,false,false,false,false,false,false] rfl (by kernel_rfl) (by kernel_rfl) (by kernel_rfl) (by kernel_rfl) (fun c a_ w_ h=>hpan c _ _ _ w_ h) (.inl ⟨by kernel_rfl,fun x_ hu=>by kernel_rfl⟩) hB ?_
  simp only [nrm]
  refine any_take (i:=10) (v:=(.int .u32 qb)) #[true,false,true,false,false,true,false,false,true,true,false,false,false,false,false,false,false,false,false,false,false,false,false,false,false] rfl (by kernel_rfl) (by kernel_rfl) (by kernel_rfl) (by kernel_rfl) (fun c a_ w_ h=>hpan c _ _ _ w_ h) (.inl ⟨by kernel_rfl,fun x_ hu=>by have c:World.cell? x_ ⟨gt,1,none⟩=some (.int .u32 qb):=(unhide hgS) x_ hu 1 (by decide); go_simp⟩) hB ?_
  simp only [nrm]
  refine any_take (i:=11) (v:=(.int .u32 (an qa qb))) #[true,false,true,false,false,true,false,false,true,true,true,false,false,false,false,false,false,false,false,false,false,false,false,false,false] rfl (by kernel_rfl) (by kernel_rfl) (by kernel_rfl) (by kernel_rfl) (fun c a_ w_ h=>hpan c _ _ _ w_ h) (.inl ⟨by kernel_rfl,fun x_ hu=>by kernel_rfl⟩) hB ?_
  simp only [nrm]
  refine any_take (i:=12) (v:=(.int .u32 qa)) #[true,false,true,false,false,true,false,false,true,true,true,true,false,false,false,false,false,false,false,false,false,false,false,false,false] rfl (by kernel_rfl) (by kernel_rfl) (by kernel_rfl) (by kernel_rfl) (fun c a_ w_ h=>hpan c _ _ _ w_ h) (.inl ⟨by kernel_rfl,fun x_ hu=>by kernel_rfl⟩) hB ?_
  simp only [nrm]
  refine any_take (i:=13) (v:=(.pointer (some ⟨gt,2,none⟩))) #[true,false,true,false,false,true,false,false,true,true,true,true,true,false,false,false,false,false,false,false,false,false,false,false,false] rfl (by kernel_rfl) (by kernel_rfl) (by kernel_rfl) (by kernel_rfl) (fun c a_ w_ h=>hpan c _ _ _ w_ h) (.inl ⟨by kernel_rfl,fun x_ hu=>by kernel_rfl⟩) hB ?_
  simp only [nrm]
  refine any_take (i:=14) (v:=(.int .u32 qc)) #[true,false,true,false,false,true,false,false,true,true,true,true,true,true,false,false,false,false,false,false,false,false,false,false,false] rfl (by kernel_rfl) (by kernel_rfl) (by kernel_rfl) (by kernel_rfl) (fun c a_ w_ h=>hpan c _ _ _ w_ h) (.inl ⟨by kernel_rfl,fun x_ hu=>by have c:World.cell? x_ ⟨gt,2,none⟩=some (.int .u32 qc):=(unhide hgS) x_ hu 2 (by decide); go_simp⟩) hB ?_
  simp only [nrm]
  refine any_take (i:=15) (v:=(.int .u32 (an qa qc))) #[true,false,true,false,false,true,false,false,true,true,true,true,true,true,true,false,false,false,false,false,false,false,false,false,false] rfl (by kernel_rfl) (by kernel_rfl) (by kernel_rfl) (by kernel_rfl) (fun c a_ w_ h=>hpan c _ _ _ w_ h) (.inl ⟨by kernel_rfl,fun x_ hu=>by kernel_rfl⟩) hB ?_
  simp only [nrm]
  refine any_take (i:=16) (v:=(.int .u32 (xr (an qa qb) (an qa qc)))) #[true,false,true,false,false,true,false,false,true,true,true,true,true,true,true,true,false,false,false,false,false,false,false,false,false] rfl (by kernel_rfl) (by kernel_rfl) (by kernel_rfl) (by kernel_rfl) (fun c a_ w_ h=>hpan c _ _ _ w_ h) (.inl ⟨by kernel_rfl,fun x_ hu=>by kernel_rfl⟩) hB ?_
  simp only [nrm]
  refine any_take (i:=17) (v:=(.pointer (some ⟨gt,1,none⟩))) #[true,false,true,false,false,true,false,false,true,true,true,true,true,true,true,true,true,false,false,false,false,false,false,false,false] rfl (by kernel_rfl) (by kernel_rfl) (by kernel_rfl) (by kernel_rfl) (fun c a_ w_ h=>hpan c _ _ _ w_ h) (.inl ⟨by kernel_rfl,fun x_ hu=>by kernel_rfl⟩) hB ?_
  simp only [nrm]
  refine any_take (i:=18) (v:=(.int .u32 qb)) #[true,false,true,false,false,true,false,false,true,true,true,true,true,true,true,true,true,true,false,false,false,false,false,false,false] rfl (by kernel_rfl) (by kernel_rfl) (by kernel_rfl) (by kernel_rfl) (fun c a_ w_ h=>hpan c _ _ _ w_ h) (.inl ⟨by kernel_rfl,fun x_ hu=>by have c:World.cell? x_ ⟨gt,1,none⟩=some (.int .u32 qb):=(unhide hgS) x_ hu 1 (by decide); go_simp⟩) hB ?_
  simp only [nrm]
  refine any_take (i:=19) (v:=(.pointer (some ⟨gt,2,none⟩))) #[true,false,true,false,false,true,false,false,true,true,true,true,true,true,true,true,true,true,true,false,false,false,false,false,false] rfl (by kernel_rfl) (by kernel_rfl) (by kernel_rfl) (by kernel_rfl) (fun c a_ w_ h=>hpan c _ _ _ w_ h) (.inl ⟨by kernel_rfl,fun x_ hu=>by kernel_rfl⟩) hB ?_
  simp only [nrm]
  refine any_take (i:=20) (v:=(.int .u32 qc)) #[true,false,true,false,false,true,false,false,true,true,true,true,true,true,true,true,true,true,true,true,false,false,false,false,false] rfl (by kernel_rfl) (by kernel_rfl) (by kernel_rfl) (by kernel_rfl) (fun c a_ w_ h=>hpan c _ _ _ w_ h) (.inl ⟨by kernel_rfl,fun x_ hu=>by have c:World.cell? x_ ⟨gt,2,none⟩=some (.int .u32 qc):=(unhide hgS) x_ hu 2 (by decide); go_simp⟩) hB ?_
  simp only [nrm]
  refine any_take (i:=21) (v:=(.int .u32 (an qb qc))) #[true,false,true,false,false,true,false,false,true,true,true,true,true,true,true,true,true,true,true,true,true,false,false,false,false] rfl (by kernel_rfl) (by kernel_rfl) (by kernel_rfl) (by kernel_rfl) (fun c a_ w_ h=>hpan c _ _ _ w_ h) (.inl ⟨by kernel_rfl,fun x_ hu=>by kernel_rfl⟩) hB ?_
  simp only [nrm]
  refine any_take (i:=22) (v:=(.int .u32 (xr (xr (an qa qb) (an qa qc)) (an qb qc)))) #[true,false,true,false,false,true,false,false,true,true,true,true,true,true,true,true,true,true,true,true,true,true,false,false,false] rfl (by kernel_rfl) (by kernel_rfl) (by kernel_rfl) (by kernel_rfl) (fun c a_ w_ h=>hpan c _ _ _ w_ h) (.inl ⟨by kernel_rfl,fun x_ hu=>by kernel_rfl⟩) hB ?_
  simp only [nrm]
  refine any_one (i:=1) (by kernel_rfl) rfl (fun K hK=>?_)
  refine step_callw (by kernel_rfl) 63 #[.int .u32 qa,.int .i64 2] (by kernel_rfl) ((right_gr qa 2 (by omega) _).mono ?_)
  rintro r v6_ ⟨rfl,hg⟩
  refine ⟨_,rfl,?_⟩
  replace hB:=hB.more hg
  clear hg
  refine hK.out _ _ hB (fun _=>?_)
  clear hK K
  simp only [nrm]
  refine any_one (i:=3) (by kernel_rfl) rfl (fun K hK=>?_)
  refine step_callw (by kernel_rfl) 63 #[.int .u32 qa,.int .i64 13] (by kernel_rfl) ((right_gr qa 13 (by omega) _).mono ?_)
  rintro r v7_ ⟨rfl,hg⟩
  refine ⟨_,rfl,?_⟩
  replace hB:=hB.more hg
  clear hg
  refine hK.out _ _ hB (fun _=>?_)
  clear hK K
  simp only [nrm]
  refine any_take (i:=4) (v:=(.int .u32 (xr (tn qa 2) (tn qa 13)))) #[true,true,true,true,false,true,false,false,true,true,true,true,true,true,true,true,true,true,true,true,true,true,true,false,false] rfl (by kernel_rfl) (by kernel_rfl) (by kernel_rfl) (by kernel_rfl) (fun c a_ w_ h=>hpan c _ _ _ w_ h) (.inl ⟨by kernel_rfl,fun x_ hu=>by kernel_rfl⟩) hB ?_
  simp only [nrm]
  refine any_one (i:=6) (by kernel_rfl) rfl (fun K hK=>?_)
  refine step_callw (by kernel_rfl) 63 #[.int .u32 qa,.int .i64 22] (by kernel_rfl) ((right_gr qa 22 (by omega) _).mono ?_)
  rintro r v8_ ⟨rfl,hg⟩
  refine ⟨_,rfl,?_⟩
  replace hB:=hB.more hg
  clear hg
  refine hK.out _ _ hB (fun _=>?_)
  clear hK K
  simp only [nrm]
  refine any_take (i:=7) (v:=(.int .u32 (xr (xr (tn qa 2) (tn qa 13)) (tn qa 22)))) #[true,true,true,true,true,true,true,false,true,true,true,true,true,true,true,true,true,true,true,true,true,true,true,false,false] rfl (by kernel_rfl) (by kernel_rfl) (by kernel_rfl) (by kernel_rfl) (fun c a_ w_ h=>hpan c _ _ _ w_ h) (.inl ⟨by kernel_rfl,fun x_ hu=>by kernel_rfl⟩) hB ?_
  simp only [nrm]
  refine any_take (i:=23) (v:=(.int .u32 (ad (xr (xr (tn qa 2) (tn qa 13)) (tn qa 22)) (xr (xr (an qa qb) (an qa qc)) (an qb qc))))) #[true,true,true,true,true,true,true,true,true,true,true,true,true,true,true,true,true,true,true,true,true,true,true,false,false] rfl (by kernel_rfl) (by kernel_rfl) (by kernel_rfl) (by kernel_rfl) (fun c a_ w_ h=>hpan c _ _ _ w_ h) (.inl ⟨by kernel_rfl,fun x_ hu=>by kernel_rfl⟩) hB ?_
  simp only [nrm]
  refine any_one (i:=24) (by kernel_rfl) rfl (fun K hK=>?_)
  replace hK:=hide hK
  go_simp
  refine (unhide hK).out _ _ hB (fun _=>?_)
  clear hK K
  refine any_done (by kernel_rfl) ?_
  try simp only [nrm]
  have hT2:(ad (xr (xr (tn qa 2) (tn qa 13)) (tn qa 22)) (xr (xr (an qa qb) (an qa qc)) (an qb qc)))=T2 qa qb qc:=rfl
  rw [hT2]
  clear hT2
  generalize hT2:T2 qa qb qc=t2 at *
  replace hT2:=hide hT2
  replace hB:=hide hB
  go_upto_region 22 with fail
  replace hB:=unhide hB
  refine wp_region_lit ?_
  refine list_val (.int .u32 t1) (by kernel_rfl) (by kernel_rfl) ?_
  simp only [nrm]
  refine list_val (.int .u32 t2) (by kernel_rfl) (by kernel_rfl) ?_
  simp only [nrm]
  refine list_val (.int .u32 (ad t1 t2)) (by kernel_rfl) (by kernel_rfl) ?_
  simp only [nrm]
  refine list_val (.int .u32 qa) (by kernel_rfl) (by kernel_rfl) ?_
  simp only [nrm]
  refine list_val (.pointer (some ⟨gt,1,none⟩)) (by kernel_rfl) (by kernel_rfl) ?_
  simp only [nrm]
  refine list_val (.int .u32 qb) (by kernel_rfl) (by have c:World.cell? _ ⟨gt,1,none⟩=some (.int .u32 qb):=(unhide hgS) _ hB 1 (by decide); go_simp) ?_
  simp only [nrm]
  refine list_val (.pointer (some ⟨gt,2,none⟩)) (by kernel_rfl) (by kernel_rfl) ?_
  simp only [nrm]
  refine list_val (.int .u32 qc) (by kernel_rfl) (by have c:World.cell? _ ⟨gt,2,none⟩=some (.int .u32 qc):=(unhide hgS) _ hB 2 (by decide); go_simp) ?_
  simp only [nrm]
  refine list_val (.pointer (some ⟨gt,3,none⟩)) (by kernel_rfl) (by kernel_rfl) ?_
  simp only [nrm]
  refine list_val (.int .u32 qd) (by kernel_rfl) (by have c:World.cell? _ ⟨gt,3,none⟩=some (.int .u32 qd):=(unhide hgS) _ hB 3 (by decide); go_simp) ?_
  simp only [nrm]
  refine list_val (.int .u32 t1) (by kernel_rfl) (by kernel_rfl) ?_
  simp only [nrm]
  refine list_val (.int .u32 (ad qd t1)) (by kernel_rfl) (by kernel_rfl) ?_
  simp only [nrm]
  refine list_val (.int .u32 qe) (by kernel_rfl) (by kernel_rfl) ?_
  simp only [nrm]
  refine list_val (.pointer (some ⟨gt,5,none⟩)) (by kernel_rfl) (by kernel_rfl) ?_
  simp only [nrm]
  refine list_val (.int .u32 qf) (by kernel_rfl) (by have c:World.cell? _ ⟨gt,5,none⟩=some (.int .u32 qf):=(unhide hgS) _ hB 5 (by decide); go_simp) ?_
  simp only [nrm]
  refine list_val (.pointer (some ⟨gt,6,none⟩)) (by kernel_rfl) (by kernel_rfl) ?_
  simp only [nrm]
  refine list_val (.int .u32 qg) (by kernel_rfl) (by have c:World.cell? _ ⟨gt,6,none⟩=some (.int .u32 qg):=(unhide hgS) _ hB 6 (by decide); go_simp) ?_
  simp only [nrm]
  refine list_val (.agg (uc (stl ⟨ad t1 t2,qa,qb,qc,ad qd t1,qe,qf,qg⟩))) (by kernel_rfl) (by kernel_rfl) ?_
  simp only [nrm]
  refine list_store 108 (.tmp 9) (.tmp 191) gt (uc (stl ⟨ad t1 t2,qa,qb,qc,ad qd t1,qe,qf,qg⟩)) 108 (uc (stl ⟨qa,qb,qc,qd,qe,qf,qg,qh⟩)) (by kernel_rfl) rfl (by kernel_rfl) (by kernel_rfl) (hB.get 5 (x:=⟨gt,uc (stl ⟨qa,qb,qc,qd,qe,qf,qg,qh⟩),108⟩) rfl) (by rw [Tryz.infoS]; rfl) rfl (uc_one _) ?_
  replace hB:=hB.set 5 (x:=⟨gt,uc (stl ⟨qa,qb,qc,qd,qe,qf,qg,qh⟩),108⟩) rfl (uc (stl ⟨ad t1 t2,qa,qb,qc,ad qd t1,qe,qf,qg⟩))
  simp only [List.set_cons_zero,List.set_cons_succ] at hB
  generalize World.setRow _ _ _=v9_ at *
  simp only [nrm]
  refine wpList_nil ?_
  have hq3:Hid ((⟨ad t1 t2,qa,qb,qc,ad qd t1,qe,qf,qg⟩:St)=rnds z W K (n+1)):=by
   rw [← unhide hq2,← unhide hT1,← unhide hT2]
   exact rfl
  replace hB:=hide hB
  go_wp2_with fail
  go_roundw
  case rel=>exact ⟨n+1,_,by omega,by go_num,hq3,hB⟩
  case measure=>simp [intOf]; omega
 ·have e:n=64:=by omega
  subst e
  clear hil
  have hB3:Hid (Bl w [b0,⟨gk,uc K,106⟩,b2,b3,⟨gw,uc W,106⟩,⟨gt,uc (stl (rnds z W K 64)),108⟩] wr):=by rw [← unhide hq]; exact hB
  clear hB hq
  go_wp2_with fail
  exact (unhide hQ) _ _ _ _ _ _ _ _ _ _ _ _ _ _ _ _ _ _ _ _ _ _ _ _ _ _ _ _ _ _ _ _ _ _ _ _ _ _ _ _ _ _ _ _ _ _ _ _ _ _ _ _ _ _ _ _ _ _ _ _ _ _ _ _ _ _ _ _ _ _ _ _ _ _ _ _ _ _ _ _ _ _ _ _ _ _ (unhide hB3)
set_option maxHeartbeats 1000000 in
theorem radds_loop (w:World) (s t:List Int) (hs:s.length=8) (ht:t.length=8) (b0 b1 b2 b4:Blk) (gs gt:Nat) (Q:Exit→Act→World→Prop) (v:World)
  (hB:Bl w [b0,b1,b2,⟨gs,uc s,108⟩,b4,⟨gt,uc t,108⟩] v) (c0 c1 c2 c3 c5 c6 c7 c8 c10 c11 c12 c13 c14 c15 c16 c17 c18 c19 c20 c21 c22 c23 c24 c25 c26 c27 c28 c29 c30 c31 c32 c33 c34 c35 c36 c37 c38 c39 c40 c41 c42 c43 c44 c45 c46 c47 c48 c49 c50 c51 c52 c53 c54 c55 c56 c57 c58 c59 c60 c61 c62 c63 c64 c65 c66 c67 c68 c69 c70 c71 c72 c73 c74 c75 c76 c77 c78 c79 c80 c81 c82 c83 c84 c85 c86 c87 c88 c89 c90 c91 c92 c93 c94 c95 c96 c97 c98 c99 c100 c101 c102 c103 c104 c105 c106 c107 c108 c109 c110 c111 c112 c113 c114 c115 c116 c117 c118 c119 c120 c121 c122 c123 c124 c125 c126 c127 c128 c129 c130 c131 c132 c133 c134 c135 c136 c137 c138 c139 c140 c141 c142 c143 c144 c145 c146 c147 c148 c149 c150 c151 c152 c153 c154 c155 c156 c157 c158 c159 c160 c161 c162 c163 c164 c165 c166 c167 c168 c169 c170 c171 c172 c173 c174 c175 c176 c177 c178 c179 c180 c181 c182 c183 c184 c185 c186 c187 c188 c189 c190 c191 c192 c194 c195 c196 c197 c198 c199 c200 c201 c202 c203 c204 c205 c206 c207 c208 c209 c210 c211 c212 c213 c214 c215 c216 c217 c218 c219 c220 c221 c222 c223 c224 c225 c226:Value)
  (hQ:∀ (u15 u193 u194 u195 u196 u197 u198 u199 u200 u201 u202 u203 u204:Value) (v':World),Bl w [b0,b1,b2,⟨gs,uc (SA s t 8),108⟩,b4,⟨gt,uc t,108⟩] v'→Q (.exit 6) ⟨#[c0,c1,c2,c3,.pointer (some ⟨gs,0,none⟩),c5,c6,c7,c8,.pointer (some ⟨gt,0,none⟩),c10,c11,c12,c13,c14,u15,c16,c17,c18,c19,c20,c21,c22,c23,c24,c25,c26,c27,c28,c29,c30,c31,c32,c33,c34,c35,c36,c37,c38,c39,c40,c41,c42,c43,c44,c45,c46,c47,c48,c49,c50,c51,c52,c53,c54,c55,c56,c57,c58,c59,c60,c61,c62,c63,c64,c65,c66,c67,c68,c69,c70,c71,c72,c73,c74,c75,c76,c77,c78,c79,c80,c81,c82,c83,c84,c85,c86,c87,c88,c89,c90,c91,c92,c93,c94,c95,c96,c97,c98,c99,c100,c101,c102,c103,c104,c105,c106,c107,c108,c109,c110,c111,c112,c113,c114,c115,c116,c117,c118,c119,c120,c121,c122,c123,c124,c125,c126,c127,c128,c129,c130,c131,c132,c133,c134,c135,c136,c137,c138,c139,c140,c141,c142,c143,c144,c145,c146,c147,c148,c149,c150,c151,c152,c153,c154,c155,c156,c157,c158,c159,c160,c161,c162,c163,c164,c165,c166,c167,c168,c169,c170,c171,c172,c173,c174,c175,c176,c177,c178,c179,c180,c181,c182,c183,c184,c185,c186,c187,c188,c189,c190,c191,c192,u193,u194,u195,u196,u197,u198,u199,u200,u201,u202,u203,u204,c205,c206,c207,c208,c209,c210,c211,c212,c213,c214,c215,c216,c217,c218,c219,c220,c221,c222,c223,c224,c225,c226],[]⟩ v') :
  Code.wp Tryz.prog (.loop (lp 3)) Q ⟨#[c0,c1,c2,c3,.pointer (some ⟨gs,0,none⟩),c5,c6,c7,c8,.pointer (some ⟨gt,0,none⟩),c10,c11,c12,c13,c14,c15,c16,c17,c18,c19,c20,c21,c22,c23,c24,c25,c26,c27,c28,c29,c30,c31,c32,c33,c34,c35,c36,c37,c38,c39,c40,c41,c42,c43,c44,c45,c46,c47,c48,c49,c50,c51,c52,c53,c54,c55,c56,c57,c58,c59,c60,c61,c62,c63,c64,c65,c66,c67,c68,c69,c70,c71,c72,c73,c74,c75,c76,c77,c78,c79,c80,c81,c82,c83,c84,c85,c86,c87,c88,c89,c90,c91,c92,c93,c94,c95,c96,c97,c98,c99,c100,c101,c102,c103,c104,c105,c106,c107,c108,c109,c110,c111,c112,c113,c114,c115,c116,c117,c118,c119,c120,c121,c122,c123,c124,c125,c126,c127,c128,c129,c130,c131,c132,c133,c134,c135,c136,c137,c138,c139,c140,c141,c142,c143,c144,c145,c146,c147,c148,c149,c150,c151,c152,c153,c154,c155,c156,c157,c158,c159,c160,c161,c162,c163,c164,c165,c166,c167,c168,c169,c170,c171,c172,c173,c174,c175,c176,c177,c178,c179,c180,c181,c182,c183,c184,c185,c186,c187,c188,c189,c190,c191,c192,.int .i64 0,c194,c195,c196,c197,c198,c199,c200,c201,c202,c203,c204,c205,c206,c207,c208,c209,c210,c211,c212,c213,c214,c215,c216,c217,c218,c219,c220,c221,c222,c223,c224,c225,c226],[]⟩ v:=by
 conv=>arg 2; arg 1; whnf
 dsimp only
 dsimp only at hQ
 replace hB:Hid (Bl w [b0,b1,b2,⟨gs,uc (SA s t 0),108⟩,b4,⟨gt,uc t,108⟩] v):=hB
 replace hQ:=hide hQ
 go_loopw [193] (fun i wr=>∃ n:Nat,∃ m:List Int,n≤8∧i=.int .i64 n∧Hid (m=SA s t n)∧Hid (Bl w [b0,b1,b2,⟨gs,uc m,108⟩,b4,⟨gt,uc t,108⟩] wr)) (fun i _=>8 - (intOf i).toNat)
 case atStart=>exact ⟨0,SA s t 0,by omega,rfl,rfl,hB⟩
 case round =>
 clear hB
 obtain ⟨n,m,hn,rfl,hm,hB⟩:=hrel
 have hml:m.length=8:=by rw [unhide hm,SA_len,hs]
 by_cases hil:n<8
 ·have nI:(n:Int)<8:=by omega
  have nJ:0≤(n:Int)∧(n:Int)<8:=by omega
  have cs:=uc_cell ((unhide hB).get 3 (x:=⟨gs,uc m,108⟩) rfl) n (by omega)
  have fs:=froz_of (i:=n) ((unhide hB).get 3 (x:=⟨gs,uc m,108⟩) rfl)
  have ct:=uc_cell ((unhide hB).get 5 (x:=⟨gt,uc t,108⟩) rfl) n (by omega)
  have hm2:Hid (m.set n ((m.getD n 0+t.getD n 0) % 4294967296)=SA s t (n+1)):=by
   rw [unhide hm,SA,ad_eq]
   exact rfl
  have hB2:=(unhide hB).drew.cell 3 (x:=⟨gs,uc m,108⟩) rfl n (.int .u32 ((m.getD n 0+t.getD n 0) % 4294967296))
  simp only [List.set_cons_zero,List.set_cons_succ,uc_set] at hB2
  replace hB2:=hide hB2
  generalize m.getD n 0=x at *
  generalize t.getD n 0=y at *
  go_wp2_with fail
  go_still_tail 8,(by kernel_rfl)
  go_wp2_with fail
  go_roundw
  case rel=>exact ⟨n+1,_,by omega,by go_num,hm2,hB2⟩
  case measure=>simp [intOf]; omega
 ·have e:n=8:=by omega
  subst e
  clear hil
  have hB3:Hid (Bl w [b0,b1,b2,⟨gs,uc (SA s t 8),108⟩,b4,⟨gt,uc t,108⟩] wr):=by rw [← unhide hm]; exact hB
  clear hB hm
  go_wp2_with fail
  exact (unhide hQ) _ _ _ _ _ _ _ _ _ _ _ _ _ _ (unhide hB3)
set_option maxHeartbeats 1000000 in
theorem rkey_loop (w:World) (s:List Int) (SS:Array Value) (hSS:Hid (SS=uc s)) (hs:s.length=8) (b0 b1 b2 b3:Blk) (go:Nat) (Q:Exit→Act→World→Prop) (v:World)
  (hB:Bl w [b0,b1,b2,b3,⟨go,kc Z32,23⟩] v) (c0 c1 c2 c3 c4 c5 c6 c7 c8 c9 c10 c11 c12 c13 c14 c15 c17 c18 c19 c20 c21 c22 c23 c24 c25 c26 c27 c28 c29 c30 c31 c32 c33 c34 c35 c36 c37 c38 c39 c40 c41 c42 c43 c44 c45 c46 c47 c48 c49 c50 c51 c52 c53 c54 c55 c56 c57 c58 c59 c60 c61 c62 c63 c64 c65 c66 c67 c68 c69 c70 c71 c72 c73 c74 c75 c76 c77 c78 c79 c80 c81 c82 c83 c84 c85 c86 c87 c88 c89 c90 c91 c92 c93 c94 c95 c96 c97 c98 c99 c100 c101 c102 c103 c104 c105 c106 c107 c108 c109 c110 c111 c112 c113 c114 c115 c116 c117 c118 c119 c120 c121 c122 c123 c124 c125 c126 c127 c128 c129 c130 c131 c132 c133 c134 c135 c136 c137 c138 c139 c140 c141 c142 c143 c144 c145 c146 c147 c148 c149 c150 c151 c152 c153 c154 c155 c156 c157 c158 c159 c160 c161 c162 c163 c164 c165 c166 c167 c168 c169 c170 c171 c172 c173 c174 c175 c176 c177 c178 c179 c180 c181 c182 c183 c184 c185 c186 c187 c188 c189 c190 c191 c192 c193 c194 c195 c196 c197 c198 c199 c200 c201 c202 c203 c204 c207 c208 c209 c210 c211 c212 c213 c214 c215 c216 c217 c218 c219 c220 c221 c222 c223 c224 c225 c226:Value)
  (hQ:∀ (u17 u18 u19 u206 u207 u208 u209 u210 u211 u212 u213 u214 u215 u216 u217 u218 u219 u220 u221 u222 u223 u224 u225:Value) (v':World),Bl w [b0,b1,b2,b3,⟨go,kc (keyL s),23⟩] v'→Q (.exit 8) ⟨#[c0,c1,c2,c3,c4,c5,c6,c7,c8,c9,c10,c11,c12,c13,c14,c15,.pointer (some ⟨go,0,none⟩),u17,u18,u19,c20,c21,c22,c23,c24,c25,c26,c27,c28,c29,c30,c31,c32,c33,c34,c35,c36,c37,c38,c39,c40,c41,c42,c43,c44,c45,c46,c47,c48,c49,c50,c51,c52,c53,c54,c55,c56,c57,c58,c59,c60,c61,c62,c63,c64,c65,c66,c67,c68,c69,c70,c71,c72,c73,c74,c75,c76,c77,c78,c79,c80,c81,c82,c83,c84,c85,c86,c87,c88,c89,c90,c91,c92,c93,c94,c95,c96,c97,c98,c99,c100,c101,c102,c103,c104,c105,c106,c107,c108,c109,c110,c111,c112,c113,c114,c115,c116,c117,c118,c119,c120,c121,c122,c123,c124,c125,c126,c127,c128,c129,c130,c131,c132,c133,c134,c135,c136,c137,c138,c139,c140,c141,c142,c143,c144,c145,c146,c147,c148,c149,c150,c151,c152,c153,c154,c155,c156,c157,c158,c159,c160,c161,c162,c163,c164,c165,c166,c167,c168,c169,c170,c171,c172,c173,c174,c175,c176,c177,c178,c179,c180,c181,c182,c183,c184,c185,c186,c187,c188,c189,c190,c191,c192,c193,c194,c195,c196,c197,c198,c199,c200,c201,c202,c203,c204,.agg SS,u206,u207,u208,u209,u210,u211,u212,u213,u214,u215,u216,u217,u218,u219,u220,u221,u222,u223,u224,u225,c226],[]⟩ v') :
  Code.wp Tryz.prog (.loop (lp 4)) Q ⟨#[c0,c1,c2,c3,c4,c5,c6,c7,c8,c9,c10,c11,c12,c13,c14,c15,.pointer (some ⟨go,0,none⟩),c17,c18,c19,c20,c21,c22,c23,c24,c25,c26,c27,c28,c29,c30,c31,c32,c33,c34,c35,c36,c37,c38,c39,c40,c41,c42,c43,c44,c45,c46,c47,c48,c49,c50,c51,c52,c53,c54,c55,c56,c57,c58,c59,c60,c61,c62,c63,c64,c65,c66,c67,c68,c69,c70,c71,c72,c73,c74,c75,c76,c77,c78,c79,c80,c81,c82,c83,c84,c85,c86,c87,c88,c89,c90,c91,c92,c93,c94,c95,c96,c97,c98,c99,c100,c101,c102,c103,c104,c105,c106,c107,c108,c109,c110,c111,c112,c113,c114,c115,c116,c117,c118,c119,c120,c121,c122,c123,c124,c125,c126,c127,c128,c129,c130,c131,c132,c133,c134,c135,c136,c137,c138,c139,c140,c141,c142,c143,c144,c145,c146,c147,c148,c149,c150,c151,c152,c153,c154,c155,c156,c157,c158,c159,c160,c161,c162,c163,c164,c165,c166,c167,c168,c169,c170,c171,c172,c173,c174,c175,c176,c177,c178,c179,c180,c181,c182,c183,c184,c185,c186,c187,c188,c189,c190,c191,c192,c193,c194,c195,c196,c197,c198,c199,c200,c201,c202,c203,c204,.agg SS,.int .i64 0,c207,c208,c209,c210,c211,c212,c213,c214,c215,c216,c217,c218,c219,c220,c221,c222,c223,c224,c225,c226],[]⟩ v:=by
 conv=>arg 2; arg 1; whnf
 dsimp only
 dsimp only at hQ
 replace hB:Hid (Bl w [b0,b1,b2,b3,⟨go,kc (KY s 0),23⟩] v):=hB
 replace hQ:=hide hQ
 go_loopw [206] (fun i wr=>∃ n:Nat,∃ m:List Int,n≤8∧i=.int .i64 n∧Hid (m=KY s n)∧Hid (Bl w [b0,b1,b2,b3,⟨go,kc m,23⟩] wr)) (fun i _=>8 - (intOf i).toNat)
 case atStart=>exact ⟨0,KY s 0,by omega,rfl,rfl,hB⟩
 case round =>
 clear hB
 obtain ⟨n,m,hn,rfl,hm,hB⟩:=hrel
 by_cases hil:n<8
 ·have nI:(n:Int)<8:=by omega
  have nJ:0≤(n:Int)∧(n:Int)<8:=by omega
  have hx:(Instr.index 108 (.agg SS) (.int .i64 n)).run Tryz.prog wr=.ok (.int .u32 (s.getD n 0)) wr:=index_u32 SS n _ hil (by rw [unhide hSS]; exact uc_get s n (by omega)) wr
  have hB0:Hid (Bl w [b0,b1,b2,b3,⟨go,kc (KZ s n 0),23⟩] wr):=by have:=unhide hB; rw [unhide hm] at this; exact this
  clear hB hm
  obtain ⟨x,hx0⟩:∃ x,x=s.getD n 0:=⟨_,rfl⟩
  rw [← hx0] at hx
  replace hx0:=hide hx0
  go_wp2_with fail
  go_loopw [210] (fun i wr=>∃ r:Nat,∃ m:List Int,r≤4∧i=.int .i64 r∧Hid (m=KZ s n r)∧Hid (Bl w [b0,b1,b2,b3,⟨go,kc m,23⟩] wr)) (fun i _=>4 - (intOf i).toNat)
  case atStart=>exact ⟨0,KZ s n 0,by omega,rfl,rfl,hB0⟩
  case round =>
  clear hB0 hx
  obtain ⟨r,m,hr,rfl,hm,hB⟩:=hrel
  have hml:m.length=32:=by rw [unhide hm]; exact KZ_len s n r
  by_cases hrl:r<4
  ·obtain ⟨q,hq⟩:∃ q,q=4 * n+r:=⟨_,rfl⟩
   obtain ⟨sh,hsh⟩:∃ sh,sh=24 - 8 * r:=⟨_,rfl⟩
   have r1:(r:Int)<4:=by omega
   have e0:4 * (n:Int)+(r:Int)=(q:Int):=by omega
   have e3:IntKind.i64.wrap (4 * (n:Int))=4 * (n:Int):=by rw [IntKind.wrap_i64]; omega
   have e4:IntKind.i64.wrap (q:Int)=(q:Int):=by rw [IntKind.wrap_i64]; omega
   have e5:IntKind.i64.wrap (8 * (r:Int))=8 * (r:Int):=by rw [IntKind.wrap_i64]; omega
   have e6:24 - 8 * (r:Int)=(sh:Int):=by omega
   have e7:IntKind.i64.wrap (sh:Int)=(sh:Int):=by rw [IntKind.wrap_i64]; omega
   have l0:0≤(q:Int)∧(q:Int)<32:=by omega
   have l1:q<32:=by omega
   have l2:0≤(sh:Int):=by omega
   have l3:(sh:Int)<32:=by omega
   have cs:=kc_cell ((unhide hB).get 4 (x:=⟨go,kc m,23⟩) rfl) q (by omega)
   have fs:=froz_of (i:=q) ((unhide hB).get 4 (x:=⟨go,kc m,23⟩) rfl)
   have hm2:Hid (m.set q (x / 2 ^ sh % 256)=KZ s n (r+1)):=by
    have h1:KZ s n (r+1)=(KZ s n r).set (4 * n+r) (yn (s.getD n 0) r):=rfl
    rw [h1,hq,hsh,unhide hm,← unhide hx0]
    exact rfl
   have hw8:IntKind.u8.wrap (x / 2 ^ sh)=x / 2 ^ sh % 256:=by rw [IntKind.wrap_u8']
   have hB2:=(unhide hB).cell 4 (x:=⟨go,kc m,23⟩) rfl q (.int .u8 (x / 2 ^ sh % 256))
   simp only [List.set_cons_zero,List.set_cons_succ,kc_set] at hB2
   replace hB2:=hide hB2
   generalize m.getD q 0=y at *
   replace hq:=hide hq
   replace hsh:=hide hsh
   go_wp2_with fail
   go_roundw
   case rel=>exact ⟨r+1,_,by omega,by go_num,hm2,hB2⟩
   case measure=>simp [intOf]; omega
  ·have e:r=4:=by omega
   subst e
   clear hrl
   have hB3:Hid (Bl w [b0,b1,b2,b3,⟨go,kc m,23⟩] wr):=hB
   have hm3:Hid (m=KY s (n+1)):=(unhide hm).trans (KZ_all s n)
   clear hB hm
   go_wp2_with fail
   go_roundw
   case rel=>exact ⟨n+1,_,by omega,by go_num,hm3,hB3⟩
   case measure=>simp [intOf]; omega
 ·have e:n=8:=by omega
  subst e
  clear hil
  have hB3:Hid (Bl w [b0,b1,b2,b3,⟨go,kc (keyL s),23⟩] wr):=by have:=unhide hB; rw [unhide hm] at this; exact this
  clear hB hm
  go_wp2_with fail
  exact (unhide hQ) _ _ _ _ _ _ _ _ _ _ _ _ _ _ _ _ _ _ _ _ _ _ _ _ (unhide hB3)
theorem Bl.left {w v:World} {L M:List Blk} (h:Bl w (L++M) v):Bl w L v:=⟨h.gr,fun x hx=>h.at_ x (List.mem_append_left _ hx),(List.pairwise_append.1 h.ne).1⟩
theorem cur_at {w:World} {gd:Nat} {cur:Array Value} {D:List Int} (h:w.heap[gd]?=some (.cells cur 5 (0,0))) (hc:cur.toList.take D.length=D.map (Value.int .u8)):At w gd 0 D:=by
 intro j hj
 rw [Nat.zero_add]
 refine cell_of h ?_
 rw [← Array.getElem?_toList]
 have e:(D.map (Value.int .u8))[j]?=some (.int .u8 (D.getD j 0)):=by simp [hj]
 rw [← hc,List.getElem?_take,if_pos hj] at e
 exact e
set_option maxHeartbeats 2000000 in
theorem router_loop (w:World) (D:List Int) (hD:IsB D) (N:Nat) (hN:D.length=64 * N) (cap:Nat) (hcap:D.length≤cap) (hcb:cap<9223372036854775808) (cur:Array Value) (hcur:cur.toList.take D.length=D.map (Value.int .u8)) (b0:Blk) (gk gd gs:Nat) (Q:Exit→Act→World→Prop) (hpan:∀ c t t' d w,Q (.panic c) ⟨t,d⟩ w→Q (.panic c) ⟨t',d⟩ w) (v:World)
  (hB:Bl w [b0,⟨gk,uc KL,106⟩,⟨gd,cur,5⟩,⟨gs,uc F0,108⟩] v) (c1 c2 c5 c6 c7 c8 c9 c10 c11 c12 c13 c14 c15 c16 c17 c18 c19 c20 c21 c22 c23 c24 c25 c26 c27 c28 c29 c30 c31 c32 c33 c34 c35 c36 c37 c38 c39 c40 c41 c42 c43 c44 c45 c46 c47 c48 c49 c50 c51 c52 c53 c54 c55 c56 c57 c58 c59 c60 c61 c62 c63 c64 c65 c66 c67 c68 c69 c70 c71 c72 c73 c74 c75 c76 c77 c78 c79 c80 c81 c82 c83 c84 c85 c86 c87 c88 c89 c90 c91 c92 c93 c94 c95 c96 c97 c98 c99 c100 c101 c102 c103 c104 c105 c106 c107 c108 c109 c110 c111 c112 c113 c114 c115 c116 c117 c118 c119 c120 c121 c122 c123 c124 c125 c126 c127 c128 c129 c130 c131 c132 c133 c134 c135 c136 c137 c138 c139 c140 c141 c142 c143 c144 c145 c146 c147 c148 c149 c150 c151 c152 c153 c154 c155 c156 c157 c158 c159 c160 c161 c162 c163 c164 c165 c166 c167 c168 c169 c170 c171 c172 c173 c174 c175 c176 c177 c178 c179 c180 c181 c182 c183 c184 c185 c186 c187 c188 c189 c190 c191 c192 c193 c194 c195 c196 c197 c198 c199 c200 c201 c202 c203 c204 c205 c206 c207 c208 c209 c210 c211 c212 c213 c214 c215 c216 c217 c218 c219 c220 c221 c222 c223 c224 c225 c226:Value)
  (hQ:∀ (u0 u5 u6 u7 u8 u9 u10 u11 u12 u13 u14 u15 u29 u30 u31 u32 u33 u34 u35 u36 u37 u38 u39 u40 u41 u42 u43 u44 u45 u46 u47 u48 u49 u50 u51 u52 u53 u54 u55 u56 u57 u58 u59 u60 u61 u62 u63 u64 u65 u66 u67 u68 u69 u70 u71 u72 u73 u74 u75 u76 u77 u78 u79 u80 u81 u82 u83 u84 u85 u86 u87 u88 u89 u90 u91 u92 u93 u94 u95 u96 u97 u98 u99 u100 u101 u102 u103 u104 u105 u106 u107 u108 u109 u110 u111 u112 u113 u114 u115 u116 u117 u118 u119 u120 u121 u122 u123 u124 u125 u126 u127 u128 u129 u130 u131 u132 u133 u134 u135 u136 u137 u138 u139 u140 u141 u142 u143 u144 u145 u146 u147 u148 u149 u150 u151 u152 u153 u154 u155 u156 u157 u158 u159 u160 u161 u162 u163 u164 u165 u166 u167 u168 u169 u170 u171 u172 u173 u174 u175 u176 u177 u178 u179 u180 u181 u182 u183 u184 u185 u186 u187 u188 u189 u190 u191 u192 u193 u194 u195 u196 u197 u198 u199 u200 u201 u202 u203 u204:Value) (v':World),Bl w [b0,⟨gk,uc KL,106⟩,⟨gd,cur,5⟩,⟨gs,uc (hbk N F0 D),108⟩] v'→Q (.exit 0) ⟨#[u0,c1,c2,.pointer (some ⟨gk,0,none⟩),.pointer (some ⟨gs,0,none⟩),u5,u6,u7,u8,u9,u10,u11,u12,u13,u14,u15,c16,c17,c18,c19,c20,c21,c22,c23,c24,c25,c26,c27,c28,u29,u30,u31,u32,u33,u34,u35,u36,u37,u38,u39,u40,u41,u42,u43,u44,u45,u46,u47,u48,u49,u50,u51,u52,u53,u54,u55,u56,u57,u58,u59,u60,u61,u62,u63,u64,u65,u66,u67,u68,u69,u70,u71,u72,u73,u74,u75,u76,u77,u78,u79,u80,u81,u82,u83,u84,u85,u86,u87,u88,u89,u90,u91,u92,u93,u94,u95,u96,u97,u98,u99,u100,u101,u102,u103,u104,u105,u106,u107,u108,u109,u110,u111,u112,u113,u114,u115,u116,u117,u118,u119,u120,u121,u122,u123,u124,u125,u126,u127,u128,u129,u130,u131,u132,u133,u134,u135,u136,u137,u138,u139,u140,u141,u142,u143,u144,u145,u146,u147,u148,u149,u150,u151,u152,u153,u154,u155,u156,u157,u158,u159,u160,u161,u162,u163,u164,u165,u166,u167,u168,u169,u170,u171,u172,u173,u174,u175,u176,u177,u178,u179,u180,u181,u182,u183,u184,u185,u186,u187,u188,u189,u190,u191,u192,u193,u194,u195,u196,u197,u198,u199,u200,u201,u202,u203,u204,c205,c206,c207,c208,c209,c210,c211,c212,c213,c214,c215,c216,c217,c218,c219,c220,c221,c222,c223,c224,c225,c226],[]⟩ v') :
  Code.wp Tryz.prog (.loop (lp 0)) Q ⟨#[.slice (some ⟨gd,0,none⟩) D.length cap,c1,c2,.pointer (some ⟨gk,0,none⟩),.pointer (some ⟨gs,0,none⟩),c5,c6,c7,c8,c9,c10,c11,c12,c13,c14,c15,c16,c17,c18,c19,c20,c21,c22,c23,c24,c25,c26,c27,c28,c29,c30,c31,c32,c33,c34,c35,c36,c37,c38,c39,c40,c41,c42,c43,c44,c45,c46,c47,c48,c49,c50,c51,c52,c53,c54,c55,c56,c57,c58,c59,c60,c61,c62,c63,c64,c65,c66,c67,c68,c69,c70,c71,c72,c73,c74,c75,c76,c77,c78,c79,c80,c81,c82,c83,c84,c85,c86,c87,c88,c89,c90,c91,c92,c93,c94,c95,c96,c97,c98,c99,c100,c101,c102,c103,c104,c105,c106,c107,c108,c109,c110,c111,c112,c113,c114,c115,c116,c117,c118,c119,c120,c121,c122,c123,c124,c125,c126,c127,c128,c129,c130,c131,c132,c133,c134,c135,c136,c137,c138,c139,c140,c141,c142,c143,c144,c145,c146,c147,c148,c149,c150,c151,c152,c153,c154,c155,c156,c157,c158,c159,c160,c161,c162,c163,c164,c165,c166,c167,c168,c169,c170,c171,c172,c173,c174,c175,c176,c177,c178,c179,c180,c181,c182,c183,c184,c185,c186,c187,c188,c189,c190,c191,c192,c193,c194,c195,c196,c197,c198,c199,c200,c201,c202,c203,c204,c205,c206,c207,c208,c209,c210,c211,c212,c213,c214,c215,c216,c217,c218,c219,c220,c221,c222,c223,c224,c225,c226],[]⟩ v:=by
 conv=>arg 2; arg 1; whnf
 dsimp only
 dsimp only at hQ
 replace hB:Hid (Bl w [b0,⟨gk,uc KL,106⟩,⟨gd,cur,5⟩,⟨gs,uc (hbk 0 F0 D),108⟩] v):=hB
 replace hQ:=hide hQ
 replace hD:=hide hD
 replace hcur:=hide hcur
 go_loopw [0] (fun x wr=>∃ (j len c:Nat) (a:Option Addr) (S:List Int),x=.slice a len c∧len+64 * j=64 * N∧len≤c∧c<9223372036854775808∧Hid (0<len→a=some ⟨gd,64 * j,none⟩)∧Hid (S=hbk j F0 D)∧Hid (Bl w [b0,⟨gk,uc KL,106⟩,⟨gd,cur,5⟩,⟨gs,uc S,108⟩] wr)) (fun x _=>slenV x)
 case atStart=>exact ⟨0,D.length,cap,_,hbk 0 F0 D,rfl,by omega,hcap,hcb,fun _=>rfl,rfl,hB⟩
 case round =>
 clear hB
 obtain ⟨j,len,c,a,S,rfl,hlen,hc1,hc2,ha,hS,hB⟩:=hrel
 by_cases hil:0<len
 ·obtain rfl:=(unhide ha) hil
  clear ha
  have lI:0<(len:Int):=by omega
  have l64:64≤len:=by omega
  have hSl:S.length=8:=by rw [unhide hS]; exact hbk_len _ _ rfl _
  go_upto_region 7 with fail
  replace hB:=(unhide hB).new #[.int .u32 0,.int .u32 0,.int .u32 0,.int .u32 0,.int .u32 0,.int .u32 0,.int .u32 0,.int .u32 0,.int .u32 0,.int .u32 0,.int .u32 0,.int .u32 0,.int .u32 0,.int .u32 0,.int .u32 0,.int .u32 0,.int .u32 0,.int .u32 0,.int .u32 0,.int .u32 0,.int .u32 0,.int .u32 0,.int .u32 0,.int .u32 0,.int .u32 0,.int .u32 0,.int .u32 0,.int .u32 0,.int .u32 0,.int .u32 0,.int .u32 0,.int .u32 0,.int .u32 0,.int .u32 0,.int .u32 0,.int .u32 0,.int .u32 0,.int .u32 0,.int .u32 0,.int .u32 0,.int .u32 0,.int .u32 0,.int .u32 0,.int .u32 0,.int .u32 0,.int .u32 0,.int .u32 0,.int .u32 0,.int .u32 0,.int .u32 0,.int .u32 0,.int .u32 0,.int .u32 0,.int .u32 0,.int .u32 0,.int .u32 0,.int .u32 0,.int .u32 0,.int .u32 0,.int .u32 0,.int .u32 0,.int .u32 0,.int .u32 0,.int .u32 0] 106
  simp only [List.cons_append,List.nil_append] at hB
  generalize World.alloc _ _=v1 at *
  generalize wr.heap.size=gw at *
  replace hB:Hid (Bl w [b0,⟨gk,uc KL,106⟩,⟨gd,cur,5⟩,⟨gs,uc S,108⟩,⟨gw,uc Z64,106⟩] v1):=hB
  go_wp2_with fail
  have hB5:IsB ((D.drop (64 * j)).take 64):=isB_take (isB_drop (unhide hD) _) _
  have hl5:((D.drop (64 * j)).take 64).length=64:=by rw [List.length_take,List.length_drop]; omega
  have hAt:∀ m v,Bl w [b0,⟨gk,uc KL,106⟩,⟨gd,cur,5⟩,⟨gs,uc S,108⟩,⟨gw,uc m,106⟩] v→At v gd (64 * j) ((D.drop (64 * j)).take 64):=by
   intro m v h
   have h1:=(cur_at (h.get 2 (x:=⟨gd,cur,5⟩) rfl) (unhide hcur)).drop (64 * j)
   rw [Nat.zero_add] at h1
   exact h1.take 64
  refine rwords_loop w ((D.drop (64 * j)).take 64) hB5 hl5 gd (64 * j) len c l64 b0 ⟨gk,uc KL,106⟩ ⟨gd,cur,5⟩ ⟨gs,uc S,108⟩ gw hAt _ ?_ _ (unhide hB) _ _ _ _ _ _ _ _ _ _ _ _ _ _ _ _ _ _ _ _ _ _ _ _ _ _ _ _ _ _ _ _ _ _ _ _ _ _ _ _ _ _ _ _ _ _ _ _ _ _ _ _ _ _ _ _ _ _ _ _ _ _ _ _ _ _ _ _ _ _ _ _ _ _ _ _ _ _ _ _ _ _ _ _ _ _ _ _ _ _ _ _ _ _ _ _ _ _ _ _ _ _ _ _ _ _ _ _ _ _ _ _ _ _ _ _ _ _ _ _ _ _ _ _ _ _ _ _ _ _ _ _ _ _ _ _ _ _ _ _ _ _ _ _ _ _ _ _ _ _ _ _ _ _ _ _ _ _ _ _ _ _ _ _ _ _ _ _ _ _ _ _ _ _ _ _ _ _ _ _ _ _ _ _ _ _ _ _ _ _ _ _ _ _ _ _ _ _ _ _ _ _ _ _ _ _ _ _ _ _ _ _ _ _ _ _ _ _ _ _ _ _ _ _ ?_
  ·exact fun c_ a_ a2_ d_ w_ h=>hpan c_ a_ a2_ d_ w_ h
  clear hB hAt
  intro q6 q7 q8 q34 q35 q36 q37 q38 q39 q40 q41 q42 q43 q44 q45 q46 q47 q48 q49 q50 q51 q52 q53 q54 q55 q56 q57 q58 q59 q60 q61 q62 q63 q64 q65 q66 q67 q68 q69 q70 q71 q72 q73 q74 q75 q76 q77 q78 q79 q80 q81 q82 q83 q84 q85 q86 q87 q88 q89 q90 q91 q92 q93 q94 q95 q96 q97 q98 q99 q100 q101 q102 q103 q104 q105 q106 q107 q108 q109 q110 q111 v2 hB
  obtain ⟨X,hX⟩:∃ X,X=wds ((D.drop (64 * j)).take 64):=⟨_,rfl⟩
  have hXl:X.length=64:=by rw [hX]; exact wds_len _
  rw [← hX] at hB
  replace hX:=hide hX
  replace hB:=hide hB
  clear hB5 hl5
  go_upto_region 15 with fail
  replace hB:=unhide hB
  refine wp_region_lit ?_
  refine list_val (.agg (uc S)) (by kernel_rfl) (exec_arr _ 108 (.tmp 4) rfl gs (by kernel_rfl) (uc S) 108 _ (hB.get 3 (x:=⟨gs,uc S,108⟩) rfl) Tryz.underlying108 rfl (by rw [Tryz.infoS,uc_size,hSl])) ?_
  simp only [nrm]
  iterate 1 (refine wpList_step fun K hK=>?_; replace hK:=hide hK; go_simp; refine unhide hK _ _ ?_; clear hK K)
  replace hB:=hB.new #[.int .u32 0,.int .u32 0,.int .u32 0,.int .u32 0,.int .u32 0,.int .u32 0,.int .u32 0,.int .u32 0] 108
  simp only [List.cons_append,List.nil_append] at hB
  generalize World.alloc _ _=v3 at *
  generalize v2.heap.size=gt at *
  replace hB:Bl w [b0,⟨gk,uc KL,106⟩,⟨gd,cur,5⟩,⟨gs,uc S,108⟩,⟨gw,uc X,106⟩,⟨gt,uc Z8,108⟩] v3:=hB
  refine list_store 108 (.tmp 9) (.tmp 112) gt (uc S) 108 (uc Z8) (by kernel_rfl) rfl (by kernel_rfl) (by kernel_rfl) (hB.get 5 (x:=⟨gt,uc Z8,108⟩) rfl) (by rw [Tryz.infoS,uc_size,hSl]) (by rw [uc_size,uc_size,hSl]; rfl) (uc_one _) ?_
  replace hB:=hB.set 5 (x:=⟨gt,uc Z8,108⟩) rfl (uc S)
  simp only [List.set_cons_zero,List.set_cons_succ] at hB
  generalize World.setRow _ _ _=v4 at *
  simp only [nrm]
  refine wpList_nil ?_
  have hB4:Hid (Bl w [b0,⟨gk,uc KL,106⟩,⟨gd,cur,5⟩,⟨gs,uc S,108⟩,⟨gw,uc X,106⟩,⟨gt,uc (stl (St.of S)),108⟩] v4):=by rw [stl_of S hSl]; exact hB
  clear hB
  go_wp2_with fail
  refine rsteps_loop w (St.of S) X KL hXl KL_len b0 ⟨gd,cur,5⟩ ⟨gs,uc S,108⟩ gk gw gt _ ?_ _ (unhide hB4) _ _ _ _ _ _ _ _ _ _ _ _ _ _ _ _ _ _ _ _ _ _ _ _ _ _ _ _ _ _ _ _ _ _ _ _ _ _ _ _ _ _ _ _ _ _ _ _ _ _ _ _ _ _ _ _ _ _ _ _ _ _ _ _ _ _ _ _ _ _ _ _ _ _ _ _ _ _ _ _ _ _ _ _ _ _ _ _ _ _ _ _ _ _ _ _ _ _ _ _ _ _ _ _ _ _ _ _ _ _ _ _ _ _ _ _ _ _ _ _ _ _ _ _ _ _ _ _ _ _ _ _ _ _ _ _ _ _ _ _ _ _ _ _ _ _ _ _ _ _ _ _ _ _ _ _ _ _ _ _ _ _ _ _ _ _ _ _ _ _ _ _ _ _ _ _ _ _ _ _ _ _ _ _ _ _ _ _ _ _ _ _ _ _ _ _ _ _ _ _ _ _ _ _ _ _ _ _ _ _ _ _ _ _ _ _ _ _ _ _ _ _ _ ?_
  ·exact fun c_ a_ a2_ d_ w_ h=>hpan c_ a_ a2_ d_ w_ h
  clear hB4
  intro q10 q11 q12 q13 q14 q113 q114 q115 q116 q117 q118 q119 q120 q121 q122 q123 q124 q125 q126 q127 q128 q129 q130 q131 q132 q133 q134 q135 q136 q137 q138 q139 q140 q141 q142 q143 q144 q145 q146 q147 q148 q149 q150 q151 q152 q153 q154 q155 q156 q157 q158 q159 q160 q161 q162 q163 q164 q165 q166 q167 q168 q169 q170 q171 q172 q173 q174 q175 q176 q177 q178 q179 q180 q181 q182 q183 q184 q185 q186 q187 q188 q189 q190 q191 q192 v5 hB
  obtain ⟨Y,hY⟩:∃ Y,Y=stl (rnds (St.of S) X KL 64):=⟨_,rfl⟩
  have hYl:Y.length=8:=by rw [hY]; rfl
  rw [← hY] at hB
  replace hY:=hide hY
  replace hB:=hide hB
  go_wp2_with fail
  refine radds_loop w S Y hSl hYl b0 ⟨gk,uc KL,106⟩ ⟨gd,cur,5⟩ ⟨gw,uc X,106⟩ gs gt _ _ (unhide hB) _ _ _ _ _ _ _ _ _ _ _ _ _ _ _ _ _ _ _ _ _ _ _ _ _ _ _ _ _ _ _ _ _ _ _ _ _ _ _ _ _ _ _ _ _ _ _ _ _ _ _ _ _ _ _ _ _ _ _ _ _ _ _ _ _ _ _ _ _ _ _ _ _ _ _ _ _ _ _ _ _ _ _ _ _ _ _ _ _ _ _ _ _ _ _ _ _ _ _ _ _ _ _ _ _ _ _ _ _ _ _ _ _ _ _ _ _ _ _ _ _ _ _ _ _ _ _ _ _ _ _ _ _ _ _ _ _ _ _ _ _ _ _ _ _ _ _ _ _ _ _ _ _ _ _ _ _ _ _ _ _ _ _ _ _ _ _ _ _ _ _ _ _ _ _ _ _ _ _ _ _ _ _ _ _ _ _ _ _ _ _ _ _ _ _ _ _ _ _ _ _ _ _ _ _ _ _ _ _ _ _ _ _ _ _ _ _ _ _ _ _ _ _ _ ?_
  clear hB
  intro q15 q193 q194 q195 q196 q197 q198 q199 q200 q201 q202 q203 q204 v6 hB
  have hnx:Hid (SA S Y 8=hbk (j+1) F0 D):=by
   rw [unhide hY,SA_all S X KL hSl,unhide hX,unhide hS]
   exact rfl
  obtain ⟨S2,hS2⟩:∃ S2,S2=SA S Y 8:=⟨_,rfl⟩
  rw [← hS2] at hB hnx
  clear hS2 hY hX hS
  have hB7:Hid (Bl w [b0,⟨gk,uc KL,106⟩,⟨gd,cur,5⟩,⟨gs,uc S2,108⟩] v6):=Bl.left (L:=[b0,⟨gk,uc KL,106⟩,⟨gd,cur,5⟩,⟨gs,uc S2,108⟩]) (M:=[⟨gw,uc X,106⟩,⟨gt,uc Y,108⟩]) hB
  clear hB
  have e1:(64:Int)≤(c:Int):=by omega
  have e2:64≤c:=by omega
  have lJ:(64:Int)≤(len:Int):=by omega
  go_wp2_with fail
  refine ⟨⟨j+1,len - 64,c - 64,_,S2,by congr 1,by omega,by omega,by omega,?_,hnx,hB7⟩,?_⟩
  ·intro h
   rw [if_neg (by omega)]
   congr 1
  ·show len - 64<len
   omega
 ·have e:len=0:=by omega
  have eN:j=N:=by omega
  subst e eN
  have hB3:Hid (Bl w [b0,⟨gk,uc KL,106⟩,⟨gd,cur,5⟩,⟨gs,uc (hbk j F0 D),108⟩] wr):=by rw [← unhide hS]; exact hB
  clear hB hS hil ha
  go_wp2_with fail
  exact (unhide hQ) _ _ _ _ _ _ _ _ _ _ _ _ _ _ _ _ _ _ _ _ _ _ _ _ _ _ _ _ _ _ _ _ _ _ _ _ _ _ _ _ _ _ _ _ _ _ _ _ _ _ _ _ _ _ _ _ _ _ _ _ _ _ _ _ _ _ _ _ _ _ _ _ _ _ _ _ _ _ _ _ _ _ _ _ _ _ _ _ _ _ _ _ _ _ _ _ _ _ _ _ _ _ _ _ _ _ _ _ _ _ _ _ _ _ _ _ _ _ _ _ _ _ _ _ _ _ _ _ _ _ _ _ _ _ _ _ _ _ _ _ _ _ _ _ _ _ _ _ _ _ _ _ _ _ _ _ _ _ _ _ _ _ _ _ _ _ _ _ _ _ _ _ _ _ _ _ _ _ _ _ _ _ _ _ _ _ _ _ _ (unhide hB3)
theorem padL_tot (B:List Int) (n:Nat) (hn:B.length=n):(B++padL n).length=64 * ((B++padL n).length / 64):=by
 have h:=padL_whole n
 rw [List.length_append,hn]
 omega
set_option maxHeartbeats 2000000 in
theorem rsum_ok (B:List Int) (hb:IsB B) (n:Nat) (hn:B.length=n) (hbig:n≤170000000000000) (a:Option Addr) (cap:Nat) (w:World) (hA:Sl w a B) :
  Calls Tryz.prog 37 #[.slice a n cap] w (Summed B w):=by
 obtain ⟨T,hT⟩:∃ T,T=Summed B w:=⟨_,rfl⟩
 rw [← hT]
 replace hT:=hide hT
 replace hA:=hide hA
 replace hb:=hide hb
 go_enter Tryz.func37,Tryz.ntmps37
 go_upto_region 1 with fail
 have hB:=(Bl.nil w).new #[.int .u8 0,.int .u8 0,.int .u8 0,.int .u8 0,.int .u8 0,.int .u8 0,.int .u8 0,.int .u8 0,.int .u8 0,.int .u8 0,.int .u8 0,.int .u8 0,.int .u8 0,.int .u8 0,.int .u8 0,.int .u8 0,.int .u8 0,.int .u8 0,.int .u8 0,.int .u8 0,.int .u8 0,.int .u8 0,.int .u8 0,.int .u8 0,.int .u8 0,.int .u8 0,.int .u8 0,.int .u8 0,.int .u8 0,.int .u8 0,.int .u8 0,.int .u8 0] 23
 simp only [List.nil_append] at hB
 generalize World.alloc _ _=u1 at *
 replace hB:Bl w [⟨w.heap.size,kc Z32,23⟩] u1:=hB
 refine wp_region_lit ?_
 refine list_call 60 #[] (by kernel_rfl) (by kernel_rfl) ((rconstants_ok _).mono ?_)
 rintro r u2 ⟨rfl,hg⟩
 refine ⟨_,rfl,?_⟩
 replace hB:=hB.more hg
 clear hg
 simp only [nrm]
 iterate 1 (refine wpList_step fun K hK=>?_; replace hK:=hide hK; go_simp; refine unhide hK _ _ ?_; clear hK K)
 replace hB:=hB.new #[.int .u32 0,.int .u32 0,.int .u32 0,.int .u32 0,.int .u32 0,.int .u32 0,.int .u32 0,.int .u32 0,.int .u32 0,.int .u32 0,.int .u32 0,.int .u32 0,.int .u32 0,.int .u32 0,.int .u32 0,.int .u32 0,.int .u32 0,.int .u32 0,.int .u32 0,.int .u32 0,.int .u32 0,.int .u32 0,.int .u32 0,.int .u32 0,.int .u32 0,.int .u32 0,.int .u32 0,.int .u32 0,.int .u32 0,.int .u32 0,.int .u32 0,.int .u32 0,.int .u32 0,.int .u32 0,.int .u32 0,.int .u32 0,.int .u32 0,.int .u32 0,.int .u32 0,.int .u32 0,.int .u32 0,.int .u32 0,.int .u32 0,.int .u32 0,.int .u32 0,.int .u32 0,.int .u32 0,.int .u32 0,.int .u32 0,.int .u32 0,.int .u32 0,.int .u32 0,.int .u32 0,.int .u32 0,.int .u32 0,.int .u32 0,.int .u32 0,.int .u32 0,.int .u32 0,.int .u32 0,.int .u32 0,.int .u32 0,.int .u32 0,.int .u32 0] 106
 simp only [List.cons_append,List.nil_append] at hB
 generalize World.alloc _ _=u3 at *
 generalize u2.heap.size=gk at *
 replace hB:Bl w [⟨w.heap.size,kc Z32,23⟩,⟨gk,uc Z64,106⟩] u3:=hB
 refine list_store 106 (.tmp 3) (.tmp 20) gk (uc KL) 106 (uc Z64) (by kernel_rfl) rfl (by kernel_rfl) (by kernel_rfl) (hB.get 1 (x:=⟨gk,uc Z64,106⟩) rfl) (by rw [Tryz.infoW,uc_size,KL_len]) ((show (uc Z64).size=64 from rfl).trans ((uc_size _).trans KL_len).symm) (uc_one _) ?_
 replace hB:=hB.set 1 (x:=⟨gk,uc Z64,106⟩) rfl (uc KL)
 simp only [List.set_cons_zero,List.set_cons_succ] at hB
 generalize World.setRow _ _ _=u4 at *
 simp only [nrm]
 refine wpList_nil ?_
 replace hB:=hide hB
 go_upto_region 2 with fail
 replace hB:=unhide hB
 refine wp_region_lit ?_
 iterate 2 (refine wpList_step fun K hK=>?_; replace hK:=hide hK; go_simp; refine unhide hK _ _ ?_; clear hK K)
 have hO:=blk_bytes (w:=u4) (b:=u4.heap.size) [] (Nat.le_refl _) (by simp)
 replace hO:Ob u4.heap.size (u4.alloc (.cells #[] 5 (0,0))) (.slice (some ⟨u4.heap.size,0,none⟩) 0 0) []:=hO
 have hG:=(Gr.refl u4).alloc (.cells #[] 5 (0,0))
 have hA1:=(unhide hA).gr (hB.gr.trans hG)
 generalize World.alloc _ _=u5 at *
 refine app_bs (by kernel_rfl) (.tmp 21) (.tmp 22) rfl u4.heap.size _ [] (by kernel_rfl) hO a n cap B (by kernel_rfl) hn hA1 (by simp; omega) hG.size ?_
 intro v1 u6 hO1 hG1
 replace hG1:=hO.grown (Nat.le_refl _) hG hG1
 rw [List.nil_append] at hO1
 clear hO hG hA1
 simp only [nrm]
 iterate 2 (refine wpList_step fun K hK=>?_; replace hK:=hide hK; go_simp; refine unhide hK _ _ ?_; clear hK K)
 refine list_call 61 #[.int .i64 n] (by kernel_rfl) (by kernel_rfl) ((rpad_ok n (by omega) _).mono ?_)
 rintro r u7 ⟨v2,rfl,hO2,hg⟩
 refine ⟨_,rfl,?_⟩
 obtain ⟨a2,c2,rfl,hc2,hc3,hs2⟩:=hO2.slice
 replace hO1:=hO1.gr hg
 replace hG1:=hG1.trans hg
 clear hg hO2
 simp only [nrm]
 refine app_bs (by kernel_rfl) (.tmp 23) (.tmp 26) rfl u4.heap.size v1 B (by kernel_rfl) hO1 a2 (padL n).length c2 (padL n) (by kernel_rfl) rfl hs2 (by rw [padL_len,hn]; unfold nz; omega) hG1.size ?_
 intro v3 u8 hO3 hG3
 replace hG3:=hO1.grown (Nat.le_refl _) hG1 hG3
 clear hO1 hG1 hs2 hc2 hc3
 have hDb:IsB (B++padL n):=isB_append (unhide hb) (padL_isB n)
 have hDl:=padL_tot B n hn
 have hD0:0<(B++padL n).length:=by rw [List.length_append,padL_len]; omega
 have hsum:Hid (keyL (hbk ((B++padL n).length / 64) F0 (B++padL n))=sumL B):=by rw [← hn]; exact rfl
 obtain ⟨D,hD⟩:∃ D,D=B++padL n:=⟨_,rfl⟩
 rw [← hD] at hDb hDl hD0 hO3 hsum
 clear hD
 rcases hO3.2 with ⟨_,h0⟩ | ⟨gd,c3,cur,h1,h2,h3,h4,h5,h6,h7⟩
 ·omega
 rw [Nat.mul_one] at h6 h7
 have hc3:c3<9223372036854775808:=by unfold maxLen at h5; omega
 subst h1
 have hB2:Bl w [⟨w.heap.size,kc Z32,23⟩,⟨gk,uc KL,106⟩,⟨gd,cur,5⟩] u8:=hB.join hG3 [⟨gd,cur,5⟩] (fun x hx=>by have hx2:x=⟨gd,cur,5⟩:=(by simpa using hx); subst hx2; exact ⟨h3,h2⟩) (List.pairwise_singleton _ _)
 clear hB hO3 hG3 h2 h3 h5 h6
 have hB:=hide hB2
 clear hB2
 replace hDl:=hide hDl
 replace h7:=hide h7
 simp only [nrm]
 iterate 1 (refine wpList_step fun K hK=>?_; replace hK:=hide hK; go_simp; refine unhide hK _ _ ?_; clear hK K)
 refine wpList_nil ?_
 go_upto_region 3 with fail
 replace hB:=unhide hB
 refine wp_region_lit ?_
 refine list_call 62 #[] (by kernel_rfl) (by kernel_rfl) ((rbegin_ok _).mono ?_)
 rintro r u9 ⟨rfl,hg⟩
 refine ⟨_,rfl,?_⟩
 replace hB:=hB.more hg
 clear hg
 simp only [nrm]
 iterate 1 (refine wpList_step fun K hK=>?_; replace hK:=hide hK; go_simp; refine unhide hK _ _ ?_; clear hK K)
 replace hB:=hB.new #[.int .u32 0,.int .u32 0,.int .u32 0,.int .u32 0,.int .u32 0,.int .u32 0,.int .u32 0,.int .u32 0] 108
 simp only [List.cons_append,List.nil_append] at hB
 generalize World.alloc _ _=u10 at *
 generalize u9.heap.size=gs at *
 replace hB:Bl w [⟨w.heap.size,kc Z32,23⟩,⟨gk,uc KL,106⟩,⟨gd,cur,5⟩,⟨gs,uc Z8,108⟩] u10:=hB
 refine list_store 108 (.tmp 4) (.tmp 28) gs (uc F0) 108 (uc Z8) (by kernel_rfl) rfl (by kernel_rfl) (by kernel_rfl) (hB.get 3 (x:=⟨gs,uc Z8,108⟩) rfl) (by rw [Tryz.infoS]; rfl) rfl (uc_one _) ?_
 replace hB:=hB.set 3 (x:=⟨gs,uc Z8,108⟩) rfl (uc F0)
 simp only [List.set_cons_zero,List.set_cons_succ] at hB
 generalize World.setRow _ _ _=u11 at *
 simp only [nrm]
 refine wpList_nil ?_
 replace hB:=hide hB
 go_wp2_with fail
 refine router_loop w D hDb (D.length / 64) (unhide hDl) c3 h4 hc3 cur (unhide h7) ⟨w.heap.size,kc Z32,23⟩ gk gd gs _ ?_ _ (unhide hB) _ _ _ _ _ _ _ _ _ _ _ _ _ _ _ _ _ _ _ _ _ _ _ _ _ _ _ _ _ _ _ _ _ _ _ _ _ _ _ _ _ _ _ _ _ _ _ _ _ _ _ _ _ _ _ _ _ _ _ _ _ _ _ _ _ _ _ _ _ _ _ _ _ _ _ _ _ _ _ _ _ _ _ _ _ _ _ _ _ _ _ _ _ _ _ _ _ _ _ _ _ _ _ _ _ _ _ _ _ _ _ _ _ _ _ _ _ _ _ _ _ _ _ _ _ _ _ _ _ _ _ _ _ _ _ _ _ _ _ _ _ _ _ _ _ _ _ _ _ _ _ _ _ _ _ _ _ _ _ _ _ _ _ _ _ _ _ _ _ _ _ _ _ _ _ _ _ _ _ _ _ _ _ _ _ _ _ _ _ _ _ _ _ _ _ _ _ _ _ _ _ _ _ _ _ _ _ _ _ _ _ _ _ _ _ _ _ _ _ _ _ _ _ _ ?_
 ·exact fun _ _ _ _ _ h=>h
 clear hB
 intro q0 q5 q6 q7 q8 q9 q10 q11 q12 q13 q14 q15 q29 q30 q31 q32 q33 q34 q35 q36 q37 q38 q39 q40 q41 q42 q43 q44 q45 q46 q47 q48 q49 q50 q51 q52 q53 q54 q55 q56 q57 q58 q59 q60 q61 q62 q63 q64 q65 q66 q67 q68 q69 q70 q71 q72 q73 q74 q75 q76 q77 q78 q79 q80 q81 q82 q83 q84 q85 q86 q87 q88 q89 q90 q91 q92 q93 q94 q95 q96 q97 q98 q99 q100 q101 q102 q103 q104 q105 q106 q107 q108 q109 q110 q111 q112 q113 q114 q115 q116 q117 q118 q119 q120 q121 q122 q123 q124 q125 q126 q127 q128 q129 q130 q131 q132 q133 q134 q135 q136 q137 q138 q139 q140 q141 q142 q143 q144 q145 q146 q147 q148 q149 q150 q151 q152 q153 q154 q155 q156 q157 q158 q159 q160 q161 q162 q163 q164 q165 q166 q167 q168 q169 q170 q171 q172 q173 q174 q175 q176 q177 q178 q179 q180 q181 q182 q183 q184 q185 q186 q187 q188 q189 q190 q191 q192 q193 q194 q195 q196 q197 q198 q199 q200 q201 q202 q203 q204 u12 hB
 obtain ⟨S,hS⟩:∃ S,S=hbk (D.length / 64) F0 D:=⟨_,rfl⟩
 have hSl:S.length=8:=by rw [hS]; exact hbk_len _ _ rfl _
 rw [← hS] at hB hsum
 clear hS
 replace hB:=hide hB
 go_upto_region 30 with fail
 replace hB:=(unhide hB).new #[.int .u8 0,.int .u8 0,.int .u8 0,.int .u8 0,.int .u8 0,.int .u8 0,.int .u8 0,.int .u8 0,.int .u8 0,.int .u8 0,.int .u8 0,.int .u8 0,.int .u8 0,.int .u8 0,.int .u8 0,.int .u8 0,.int .u8 0,.int .u8 0,.int .u8 0,.int .u8 0,.int .u8 0,.int .u8 0,.int .u8 0,.int .u8 0,.int .u8 0,.int .u8 0,.int .u8 0,.int .u8 0,.int .u8 0,.int .u8 0,.int .u8 0,.int .u8 0] 23
 simp only [List.cons_append,List.nil_append] at hB
 generalize World.alloc _ _=u13 at *
 generalize u12.heap.size=go at *
 replace hB:Bl w [⟨w.heap.size,kc Z32,23⟩,⟨gk,uc KL,106⟩,⟨gd,cur,5⟩,⟨gs,uc S,108⟩,⟨go,kc Z32,23⟩] u13:=hB
 refine wp_region_lit ?_
 obtain ⟨SS,hSS⟩:∃ SS,SS=uc S:=⟨_,rfl⟩
 refine list_val (.agg SS) (by kernel_rfl) (by rw [hSS]; exact exec_arr _ 108 (.tmp 4) rfl gs (by kernel_rfl) (uc S) 108 _ (hB.get 3 (x:=⟨gs,uc S,108⟩) rfl) Tryz.underlying108 rfl (by rw [Tryz.infoS,uc_size,hSl])) ?_
 simp only [nrm]
 refine list_val (.int .i64 0) (by kernel_rfl) (by kernel_rfl) ?_
 simp only [nrm]
 refine wpList_nil ?_
 replace hSS:=hide hSS
 replace hB:=hide hB
 go_wp2_with fail
 refine rkey_loop w S SS hSS hSl ⟨w.heap.size,kc Z32,23⟩ ⟨gk,uc KL,106⟩ ⟨gd,cur,5⟩ ⟨gs,uc S,108⟩ go _ _ (unhide hB) _ _ _ _ _ _ _ _ _ _ _ _ _ _ _ _ _ _ _ _ _ _ _ _ _ _ _ _ _ _ _ _ _ _ _ _ _ _ _ _ _ _ _ _ _ _ _ _ _ _ _ _ _ _ _ _ _ _ _ _ _ _ _ _ _ _ _ _ _ _ _ _ _ _ _ _ _ _ _ _ _ _ _ _ _ _ _ _ _ _ _ _ _ _ _ _ _ _ _ _ _ _ _ _ _ _ _ _ _ _ _ _ _ _ _ _ _ _ _ _ _ _ _ _ _ _ _ _ _ _ _ _ _ _ _ _ _ _ _ _ _ _ _ _ _ _ _ _ _ _ _ _ _ _ _ _ _ _ _ _ _ _ _ _ _ _ _ _ _ _ _ _ _ _ _ _ _ _ _ _ _ _ _ _ _ _ _ _ _ _ _ _ _ _ _ _ _ _ _ _ _ _ _ _ _ _ _ _ _ _ _ _ _ _ _ _ _ _ _ _ _ _ _ _ ?_
 clear hB hSS
 intro q17 q18 q19 q206 q207 q208 q209 q210 q211 q212 q213 q214 q215 q216 q217 q218 q219 q220 q221 q222 q223 q224 q225 u14 hB
 obtain ⟨M,hM⟩:∃ M,M=keyL S:=⟨_,rfl⟩
 have hMl:M.length=32:=by rw [hM]; exact keyL_len _
 rw [← hM] at hB hsum
 clear hM
 replace hB:=hide hB
 go_upto_region 39 with fail
 replace hB:=unhide hB
 refine wp_region_lit ?_
 refine list_val (.agg (kc M)) (by kernel_rfl) (exec_arr _ 23 (.tmp 16) rfl go (by kernel_rfl) (kc M) 23 _ (hB.get 4 (x:=⟨go,kc M,23⟩) rfl) Tryz.underlying23 rfl (by rw [Tryz.infoKey,kc_size,hMl])) ?_
 simp only [nrm]
 refine list_store 23 (.tmp 2) (.tmp 226) w.heap.size (kc M) 23 (kc Z32) (by kernel_rfl) rfl (by kernel_rfl) (by kernel_rfl) (hB.get 0 (x:=⟨w.heap.size,kc Z32,23⟩) rfl) (by rw [Tryz.infoKey,kc_size,hMl]) ((show (kc Z32).size=32 from rfl).trans ((kc_size _).trans hMl).symm) (kc_one _) ?_
 replace hB:=hB.set 0 (x:=⟨w.heap.size,kc Z32,23⟩) rfl (kc M)
 simp only [List.set_cons_zero,List.set_cons_succ] at hB
 generalize World.setRow _ _ _=u15 at *
 simp only [nrm]
 refine wpList_nil ?_
 go_wp2_with fail
 rw [unhide hT]
 exact bodyPost_ret (v:=.agg (kc M)) (results_cell_row Tryz.results37 _ _ w.heap.size 23 (kc M) (0,0) _ rfl (hB.get 0 (x:=⟨w.heap.size,kc M,23⟩) rfl) Tryz.underlying23 rfl (by rw [Tryz.infoKey,kc_size,hMl])) rfl ⟨by rw [unhide hsum],hB.gr⟩
end Go.Proofs.YthahhglbeafkmaaGreatDoor
namespace Go.Proofs.YthahhglbeafkmaaGreatDoor
open Go.ChangeShapes Go.WideShapes Go.ChangeAt Go.RowKit
set_option maxRecDepth 100000
set_option linter.unusedSimpArgs false
set_option linter.unusedVariables false
theorem own:ownKnob Tryz.prog.godebug=none:=by kernel_rfl
theorem laidOut:laidOutB Tryz.prog=true:=by kernel_rfl
theorem wf_byte {x:Int} (h:(Lit.int .u8 x).wf=true):0≤x∧x<256:=by
 have:=bounds_u8 h
 omega
theorem gFirst:Tryz.prog.globalNamed "hollowtree/sha.first" = some 0:=by kernel_rfl
theorem tFirst:(Tryz.prog.globals[0]?).map (·.type)=some 108:=by kernel_rfl
def ud (l:List Int):DataW Unit:=.agg (l.map fun z=>.lit (.int .u32 z))
theorem ud_inj {k l:List Int} (h:ud k=ud l):k=l:=by
 unfold ud at h
 have h1:k.map (fun z=>(DataW.lit (.int .u32 z):DataW Unit))=l.map (fun z=>(DataW.lit (.int .u32 z):DataW Unit)):=by simpa using h
 exact List.map_inj_right (fun x y e=>by simpa using e) |>.1 h1
theorem laid_eq:(Rows.laid_hollowtree_sha_first:DataW Unit)=ud F0:=by kernel_rfl
theorem Tryz.cellsS:Tryz.prog.cellsOf 108=8:=by kernel_rfl
theorem Tryz.cellsU:Tryz.prog.cellsOf 27=1:=by kernel_rfl
theorem first_cells {enc:TypeId × Value→Unit} {W:World} {base fuel:Nat} {sp:TypeId→Bool} {held:Bool} {cs:List Value} {x:DataW Unit × List MemPlace} (h:DataW.trod enc Tryz.prog W base sp held fuel 108 cs=some x) :
  ∃ zs:List Int,cs=zs.map (Value.int .u32)∧x.1=ud zs:=by
 obtain ⟨xs,m,_,hx,hl,hxl,hh⟩:=DataW.trod_array Tryz.underlying108 h
 rw [Tryz.cellsS] at hl
 have hc:∀ i,i<8→∃ z,cs[i]?=some (.int .u32 z)∧xs[i]?=some (.lit (.int .u32 z),[]):=by
  intro i hi
  have h1:=hh i hi
  rw [Tryz.cellsU,Nat.mul_one,List.getElem?_eq_getElem (by omega)] at h1
  obtain ⟨z,e,e2,_⟩:=DataW.trod_int Tryz.underlying27 h1
  refine ⟨z,?_,?_⟩
  ·have h2:((cs.drop i).take 1)[0]?=some (.int .u32 z):=by rw [e]; rfl
   simpa using h2
  ·rw [List.getElem?_eq_getElem (by omega),e2]
 refine ⟨cs.map (fun v=>match v with | .int _ z=>z | _=>0),?_,?_⟩
 ·apply List.ext_getElem?
  intro i
  rcases Nat.lt_or_ge i 8 with hi | hi
  ·obtain ⟨z,h1,_⟩:=hc i hi
   simp [h1]
  ·rw [List.getElem?_eq_none (by omega),List.getElem?_eq_none (by simp; omega)]
 ·rw [hx]
  unfold ud
  show DataW.agg _=DataW.agg _
  congr 1
  apply List.ext_getElem?
  intro i
  rcases Nat.lt_or_ge i 8 with hi | hi
  ·obtain ⟨z,h1,h2⟩:=hc i hi
   simp [h1,h2]
  ·rw [List.getElem?_eq_none (by simp; omega),List.getElem?_eq_none (by simp; omega)]
theorem first_laid {W:World} (h:laidMetH Tryz.prog [("hollowtree/sha.first",Rows.laid_hollowtree_sha_first)] W):Fst W:=by
 rw [MakeChecks.laidMetH_plain _ _ _ (by kernel_rfl)] at h
 obtain ⟨ps,⟨g0,t0,cs0,f0,p0,q0,hg0,ht0,hv0,hd0,_,_⟩,_,_⟩:=h
 obtain rfl:=Option.some.inj (gFirst.symm.trans hg0)
 obtain rfl:=Option.some.inj (tFirst.symm.trans ht0)
 rw [laid_eq] at hd0
 obtain ⟨zs,e1,e2⟩:=first_cells hd0
 have e3:F0=zs:=ud_inj e2
 subst e3
 intro j v hj
 rw [World.var?_cell hg0 hv0,Nat.zero_add,← Array.getElem?_toList,e1]
 exact hj
theorem Tryz.bytes5:Tryz.prog.bytesOf 5=1:=by kernel_rfl
theorem open_bytes {H:Type} {enc:TypeId × Value→H} {W:World} {a:Option Addr} {len cap:Nat} {d:DataW H} {p:List MemPlace}
  (h:DataW.Trod enc Tryz.prog W 0 (fun _=>true) true 43 (.slice a len cap) d p) (hw:∀ elems spare,d=.slice elems spare→(elems.length+spare.length) * Tryz.prog.bytesOf 5≤reachBytes) :
  ∃ l,IsB l∧l.length=len∧Sl W a l∧len≤cap∧cap≤140737488351232:=by
 obtain ⟨fuel,hf⟩:=h
 rcases open_ints Tryz.underlying43 Tryz.underlying5 (by kernel_rfl) hf with ⟨hcs,_⟩ | ⟨x,l,c,zs,hcs,_,hl,hm,hz,hx,hcell,hwz⟩
 ·simp [Value.cells] at hcs
  obtain ⟨rfl,rfl,rfl⟩:=hcs
  exact ⟨[],(by intro x hx; cases hx),rfl,.inl rfl,by omega,by omega⟩
 ·simp [Value.cells] at hcs
  obtain ⟨rfl,rfl,rfl⟩:=hcs
  simp only [Prod.mk.injEq] at hx
  simp only [if_true] at hz
  have:=hw _ _ hx.1
  rw [Tryz.bytes5] at this
  simp only [lits,List.length_map,List.length_take,List.length_drop,reachBytes] at this
  refine ⟨zs.take len,fun y hy=>wf_byte (hwz y (List.mem_of_mem_take hy)),by simp; omega,?_,by omega,by omega⟩
  rcases Nat.eq_zero_or_pos len with h0 | h0
  ·left
   subst h0
   rfl
  ·right
   obtain ⟨b,off,spot⟩:=x
   have hspot:spot=none:=by simpa [Addr.add] using World.cell?_spot (hcell 0 (by omega))
   subst hspot
   refine ⟨b,off,rfl,fun i hi=>?_⟩
   have hi2:i<len:=by rw [List.length_take] at hi; omega
   have:=hcell i (by omega)
   rw [Addr.add_mid] at this
   rw [this,List.getD_eq_getElem?_getD,List.getD_eq_getElem?_getD,List.getElem?_take,if_pos hi2]
end Go.Proofs.YthahhglbeafkmaaGreatDoor
namespace Go.Proofs.YthahhglbeafkmaaGreatDoor
open Go.RowKit
set_option maxRecDepth 100000
set_option linter.unusedSimpArgs false
set_option linter.unusedVariables false
section
variable {P:Program} {md:Region.Mode} {ops:Array Oper} {Q:Exit→Act→World→Prop} {S:World→Prop}
theorem float1 (W:World) (T:Value→World→Prop) (A:Value→Act) (F:Bool→Array Bool) (i1 c:Nat) (all:Bool)
  (hS:∀ v,Gr W v→S v) (hchk:chkM1 md ops F i1 c all=true) (hF:∀ b1,(F b1).setIfInBounds i1 true=F true)
  (new1:∀ q w,Gr W w→∀ K:Act→World→Prop,(∀ v w',Gr w w'→T v w'→K (A v) w')→wpOp P ops Q i1 K (A q) w)
  (next:∀ b q w,Gr W w→(b=true→T q w)→(all=true→b=true)→wpOp P ops Q c (fun a' w'=>S w'∧Any P md ops Q S ((F b).setIfInBounds c true) a' w') (A q) w)
  {l:Array Bool} {a:Act} {w:World} (h:∃ b q,l=F b∧a=A q∧Gr W w∧(b=true→T q w)):Any P md ops Q S l a w:=by
 refine any_stage (fun l a w=>∃ b q,l=F b∧a=A q∧Gr W w∧(b=true→T q w)) ?_ h
 rintro l a w ⟨b,q,rfl,rfl,gr,hT⟩
 obtain ⟨hne,hr⟩:=chkM1_spec hchk b
 refine ⟨hne,fun i hi=>?_⟩
 rcases hr i hi with ⟨rfl,e⟩ | ⟨rfl,e⟩
 ·exact new1 q w gr _ (fun v w' g t=>⟨hS _ (gr.trans g),.inl ⟨true,v,hF b,rfl,gr.trans g,fun _=>t⟩⟩)
 ·exact wpOp_mono (fun a' w' k=>⟨k.1,.inr k.2⟩) (next b q w gr hT e)
theorem float_first (T:Value→World→Prop) (p:Nat) (F:Bool→Array Bool) (i1 c:Nat) (all:Bool) {l:Array Bool} {a:Act} {W:World} (hl:l=F false) (ha:fw1 a p (a.tmps.getD p undef)=a)
  (hS:∀ v,Gr W v→S v) (hchk:chkM1 md ops F i1 c all=true) (hF:∀ b1,(F b1).setIfInBounds i1 true=F true)
  (new1:∀ q w,Gr W w→∀ K:Act→World→Prop,(∀ v w',Gr w w'→T v w'→K (fw1 a p v) w')→wpOp P ops Q i1 K (fw1 a p q) w)
  (next:∀ b q w,Gr W w→(b=true→T q w)→(all=true→b=true)→wpOp P ops Q c (fun a' w'=>S w'∧Any P md ops Q S ((F b).setIfInBounds c true) a' w') (fw1 a p q) w):Any P md ops Q S l a W :=
 float1 W T (fw1 a p) F i1 c all hS hchk hF new1 next ⟨false,_,hl,ha.symm,Gr.refl W,fun e=>by cases e⟩
theorem float_again (T:Value→World→Prop) (p:Nat) (F:Bool→Array Bool) (i1 c:Nat) (all:Bool) {b:Bool} {q:Value} {l:Array Bool} {a:Act} {W:World} (hl:l=F b) (ha:fw1 a p q=a) (hT:b=true→T q W)
  (hS:∀ v,Gr W v→S v) (hchk:chkM1 md ops F i1 c all=true) (hF:∀ b1,(F b1).setIfInBounds i1 true=F true)
  (new1:∀ q w,Gr W w→∀ K:Act→World→Prop,(∀ v w',Gr w w'→T v w'→K (fw1 a p v) w')→wpOp P ops Q i1 K (fw1 a p q) w)
  (next:∀ b q w,Gr W w→(b=true→T q w)→(all=true→b=true)→wpOp P ops Q c (fun a' w'=>S w'∧Any P md ops Q S ((F b).setIfInBounds c true) a' w') (fw1 a p q) w):Any P md ops Q S l a W :=
 float1 W T (fw1 a p) F i1 c all hS hchk hF new1 next ⟨b,q,hl,ha.symm,Gr.refl W,hT⟩
theorem step_val {o:Oper} {a:Act} {w:World} {K:Act→World→Prop} (v:Value) (w':World) (hw:Region.wanted o (yielded ops a.tmps)=true) (hx:(execOp a.eval o).run P w=.ok (.value v) w') (h:K (a.put o.dst v) w') :
  if Region.wanted o (yielded ops a.tmps)=true then Oper.wp P o a w K Q else K (a.put o.dst undef) w:=by
 rw [if_pos hw]
 unfold Oper.wp
 rw [hx]
 exact h
end
end Go.Proofs.YthahhglbeafkmaaGreatDoor
