/-
  What the proof leans on.
-/
import Derived.Test.YtcefkkoombmndabVO7
namespace Go.Proofs.Ytcefkkoombmndab
open Go.RowKit
set_option maxRecDepth 100000
set_option linter.unusedSimpArgs false
set_option linter.unusedVariables false
theorem exec_isS {a:Act} {o:Oper} (w:World) (x y:Operand) (ho:o.op=.indexAddr 39 x y) (g q len cap i:Nat) (hx:a.eval x=.slice (some ⟨g,q,none⟩) len cap) (hy:a.eval y=.int .i64 i) (hi:i<len) :
  (execOp a.eval o).run Try.prog w=.ok (.value (.pointer (some ⟨g,q+i,none⟩))) w:=by
 have h1:(i:Int)<(len:Int):=by omega
 have hs:(Try.prog.info? 9).map (·.size)=some 1:=by kernel_rfl
 obtain ⟨i0,h2,h3⟩:=Option.map_eq_some_iff.1 hs
 have hu:=Try.underlying39
 have hc:i * 1=i:=Nat.mul_one _
 unfold execOp
 simp only [ho,hx,hy]
 go_simp
theorem exec_neS {a:Act} {o:Oper} (w:World) (x y:Operand) (ho:o.op=.binOp .neq 9 x y 9) (s:ByteArray) (hx:a.eval x=.string s) (hy:a.eval y=.string s) :
  (execOp a.eval o).run Try.prog w=.ok (.value (.bool false)) w:=by
 unfold execOp
 simp only [ho,hx,hy]
 go_simp
theorem tx_at {b:Nat} {w:World} {a:Option Addr} {n c:Nat} {L:List ByteArray} (h:Or_ 1 9 b w (.slice a n c) (L.map tr1)) (j:Nat) (s:ByteArray) (hj:L[j]?=some s):∃ p o,a=some ⟨p,o,none⟩∧w.cell? ⟨p,o+j,none⟩=some (.string s):=by
 have h1:=(or_slice h).2
 have hl:=(List.getElem?_eq_some_iff.1 hj).1
 obtain ⟨p,o,h2,h3⟩:=h1.at_ j (by rw [← h1.len,List.length_map]; exact hl)
 refine ⟨p,o,h2,?_⟩
 have h4:(L.map tr1).getD j []=tr1 s:=by simp [List.getD,List.getElem?_map,hj]
 rw [h4] at h3
 have h5:=h3 0 _ rfl
 simpa using h5
set_option maxHeartbeats 4000000 in
theorem begins_ok (b:Nat) (w:World) (L M:List ByteArray) (s1 s2:Option Addr) (n1 c1 n2 c2:Nat) (h1:Or_ 1 9 b w (.slice s1 n1 c1) (L.map tr1)) (h2:Or_ 1 9 b w (.slice s2 n2 c2) (M.map tr1)) (hle:L.length≤M.length) (hpre:L=M.take L.length):Calls Try.prog 14 #[.slice s1 n1 c1,.slice s2 n2 c2] w (Vl (.bool true) w):=by
 obtain ⟨T,hT⟩:∃ T:Ending→World→Prop,T=(Vl (.bool true) w):=⟨_,rfl⟩
 rw [← hT]
 replace hT:=hide hT
 have e1:=or_len h1
 have e2:=or_len h2
 rw [List.length_map] at e1 e2
 subst e1 e2
 have hm1:=(or_slice h1).2.cap
 have hm2:=(or_slice h1).2.max
 have hm3:=(or_slice h2).2.cap
 have hm4:=(or_slice h2).2.max
 replace h1:=hide h1; replace h2:=hide h2; replace hpre:=hide hpre
 obtain ⟨l,hl⟩:∃ l,l=L.length:=⟨_,rfl⟩
 obtain ⟨m,hm⟩:∃ m,m=M.length:=⟨_,rfl⟩
 rw [← hl] at h1 hm1 hle hpre ⊢
 rw [← hm] at h2 hm3 hle ⊢
 replace hl:=hide hl; replace hm:=hide hm
 go_enter Try.func14,Try.ntmps14
 go_upto_region 1 with fail
 obtain ⟨u0,hu_⟩:∃ u,u=w:=⟨_,rfl⟩
 rw [← hu_]
 have hB:Bl w [] u0:=hu_ ▸ Bl.nil w
 clear hu_
 refine wp_region_lit ?_
 refine lvk (.slice s1 l c1) ?_
 simp only [nrm]
 refine lvk (.int .i64 l) ?_
 simp only [nrm]
 refine lvk (.slice s2 m c2) ?_
 simp only [nrm]
 refine lvk (.int .i64 m) ?_
 simp only [nrm]
 refine list_val (.bool false) (by kernel_rfl) (gtr_i _ (.tmp 7) (.tmp 9) (l:Int) (m:Int) false rfl (by kernel_rfl) (by kernel_rfl) (by simp; omega)) ?_
 simp only [nrm]
 refine wpList_nil ?_
 replace hB:=hide hB
 go_upto_region 3 with fail
 replace hB:=unhide hB
 refine wp_region_lit ?_
 refine lvk (.slice s1 l c1) ?_
 simp only [nrm]
 refine lvk (.int .i64 l) ?_
 simp only [nrm]
 refine lvk (.int .i64 0) ?_
 simp only [nrm]
 refine wpList_nil ?_
 replace hB:=hide hB
 go_wp2_with fail
 go_loopw [13] (fun i wr=>∃ j:Nat,j≤l∧i=.int .i64 (j:Int)∧Hid (Bl w [] wr)) (fun i _=>l - (intOf i).toNat)
 case atStart=>exact ⟨0,by omega,rfl,hB⟩
 case round =>
 clear hB
 obtain ⟨j,hj,rfl,hB⟩:=hrel
 have hB:=unhide hB
 by_cases hlt:j<l
 ·have jI:(j:Int)<(l:Int):=by omega
  obtain ⟨u,hu1⟩:∃ u,L[j]?=some u:=⟨_,List.getElem?_eq_getElem (by rw [← unhide hl]; exact hlt)⟩
  have hu2:M[j]?=some u:=by
   rw [← hu1]
   conv=>rhs; rw [unhide hpre]
   rw [List.getElem?_take,if_pos hlt]
  obtain ⟨p3,o3,ha3,hr3⟩:=tx_at (unhide h1) j u hu1
  obtain ⟨p4,o4,ha4,hr4⟩:=tx_at (unhide h2) j u hu2
  replace hr3:=hB.gr.cell hr3
  replace hr4:=hB.gr.cell hr4
  replace ha3:=hide ha3; replace ha4:=hide ha4; replace hr3:=hide hr3; replace hr4:=hide hr4
  clear hu1 hu2
  have hG:=hide (Gr.refl wr)
  replace hB:=hide hB
  go_upto_region 5 with fail
  replace hB:=unhide hB
  refine wp_region_lit ?_
  refine lvk (.int .i64 (j:Int)) ?_
  simp only [nrm]
  (refine wpList_step fun K hK=>?_; replace hK:=hide hK; go_simp; refine unhide hK _ _ ?_; clear hK K)
  refine wpList_nil ?_
  replace hB:=hide hB
  go_upto_region 6 with fail
  replace hB:=unhide hB
  refine any_start (S:=fun v_=>Gr wr v_) (by kernel_rfl) ?_
  replace hG:=hide ((unhide hG).gr ((Gr.refl wr).drew))
  replace hB:=hB.drew
  generalize World.drew _=u1 at *
  simp only [List.size_toArray,List.length_cons,List.length_nil,Array.replicate,List.replicate]
  have hS_:=hide (show (fun v_=>Gr wr v_) u1 from (unhide hG))
  refine any_tk 0 (.slice s1 l c1) (tf 9 0) rfl (fun x_ hu=>by kernel_rfl) (unhide hS_) ?_
  simp only [nrm]
  refine any_tk 1 (.int .i64 (j:Int)) (tf 9 1) rfl (fun x_ hu=>by kernel_rfl) (unhide hS_) ?_
  simp only [nrm]
  refine any_tk 2 (.pointer (some ⟨p3,o3+j,none⟩)) (tf 9 2) rfl (fun x_ hu=>exec_isS _ (.tmp 16) (.tmp 17) rfl p3 o3 l c1 j (by rw [← unhide ha3]; kernel_rfl) (by kernel_rfl) hlt) (unhide hS_) ?_
  simp only [nrm]
  refine any_tk 3 (.string u) (tf 9 3) rfl (fun x_ hu=>exec_cst _ (.tmp 18) rfl p3 (o3+j) (by kernel_rfl) u (hu.cell (unhide hr3))) (unhide hS_) ?_
  simp only [nrm]
  refine any_tk 4 (.slice s2 m c2) (tf 9 4) rfl (fun x_ hu=>by kernel_rfl) (unhide hS_) ?_
  simp only [nrm]
  refine any_tk 5 (.int .i64 (j:Int)) (tf 9 5) rfl (fun x_ hu=>by kernel_rfl) (unhide hS_) ?_
  simp only [nrm]
  refine any_tk 6 (.pointer (some ⟨p4,o4+j,none⟩)) (tf 9 6) rfl (fun x_ hu=>exec_isS _ (.tmp 20) (.tmp 21) rfl p4 o4 m c2 j (by rw [← unhide ha4]; kernel_rfl) (by kernel_rfl) (by omega)) (unhide hS_) ?_
  simp only [nrm]
  refine any_tk 7 (.string u) (tf 9 7) rfl (fun x_ hu=>exec_cst _ (.tmp 22) rfl p4 (o4+j) (by kernel_rfl) u (hu.cell (unhide hr4))) (unhide hS_) ?_
  simp only [nrm]
  refine any_tk 8 (.bool false) (tf 9 8) rfl (fun x_ hu=>exec_neS _ (.tmp 19) (.tmp 23) rfl u (by kernel_rfl) (by kernel_rfl)) (unhide hS_) ?_
  simp only [nrm]
  refine any_done (by kernel_rfl) ?_
  clear hS_
  have jw:IntKind.i64.wrap ((j:Int)+1)=(j:Int)+1:=by rw [IntKind.wrap_i64]; omega
  replace hB:=hide hB
  clear ha3 ha4 hr3 hr4 hG
  go_wp2_with fail
  go_roundw
  case rel=>exact ⟨j+1,by omega,by simp,hB⟩
  case measure=>simp [intOf]; omega
 ·have jI:¬ (j:Int)<(l:Int):=by omega
  replace hB:=hide hB
  go_upto_region 9 with fail
  replace hB:=unhide hB
  refine wp_region_lit ?_
  (refine wpList_step fun K hK=>?_; replace hK:=hide hK; go_simp; refine unhide hK _ _ ?_; clear hK K)
  refine wpList_nil ?_
  replace hB:=hide hB
  go_wp2_with fail
  replace hB:=unhide hB
  rw [unhide hT]
  exact (⟨rfl,hB.gr⟩)
end Go.Proofs.Ytcefkkoombmndab
namespace Go.Proofs.Ytcefkkoombmndab
open Go.RowKit
set_option maxRecDepth 100000
set_option linter.unusedSimpArgs false
set_option linter.unusedVariables false
def blockOf (n:Nat):Code→Option Code
 | .loop c=>blockOf n c
 | .seq a b=>match blockOf n a with
  | some c=>some c
  | none=>blockOf n b
 | .block k c=>if k=n then some c else blockOf n c
 | .scope c=>blockOf n c
 | .cond _ a b=>match blockOf n a with
  | some c=>some c
  | none=>blockOf n b
 | _=>none
noncomputable def oSwitch:Code:=((Try.f4.body.bind (blockOf 2)).getD .skip)
theorem le_app1 {α:Type} {l:List α} {n:Nat} (h:l.length≤n) (x:α):(l++[x]).length≤n+1:=by
 rw [List.length_append,List.length_singleton]; omega
structure Bd (n:Nat) (A B:Sd):Prop where
 qa:A.q.length≤n
 qb:B.q.length≤n
 wa:A.w.length≤n
 wb:B.w.length≤n
set_option maxHeartbeats 4000000 in
theorem br_saysome0 (b g n:Nat) (A B:Sd) (w:World) (z0 z1 z2 z4 z5 z8 z9 z10 z11 z12 z13 z14 z15 z16 z17 z18 z19 z20 z21 z22 z23 z24 z25 z26 z27 z28 z29 z30 z31 z32 z33 z34 z35 z36 z37 z38 z39 z40 z41 z42 z43 z44 z45 z46 z47 z49 z50 z51 z52 z53 z54 z55 z56 z57 z58 z59 z60 z61 z62 z63 z64 z65 z66 z67 z68 z69 z70 z71 z72 z73 z74 z75 z76 z77 z78 z79 z80 z81 z82 z83 z84 z85 z86 z87 z88 z89 z90 z91 z92 z93 z94 z95 z96 z97 z98 z99 z100 z101 z102 z103 z104 z105 z106 z107 z108 z109 z110 z111 z112 z113 z114 z115 z116 z117 z118 z119 z120 z121 z122 z123 z124 z125 z126 z127 z128 z129 z130 z131 z132 z133 z134 z135 z136 z137 z138 z139 z140 z141 z142 z143 z144 z145 z146 z147 z148 z149 z150 z151 z152 z153 z154 z155 z156 z157 z158 z159 z160 z161 z162 z163 z164 z165 z166 z167 z168 z169 z170 z171 z172 z173 z174 z175 z176 z177 z178 z179 z180 z181 z182 z183 z184 z185 z186 z187 z188 z189 z190 z191 z192 z193 z194 z195 z196 z197 z198 z199 z200 z201 z202 z203 z204 z205 z206 z207 z208 z209 z210 z211 z212 z213 z214 z215 z216 z217 z218 z219 z220 z221 z222 z223 z224 z225 z226 z227 z228 z229 z230 z231 z232 z233 z234 z235 z236 z237 z238 z239 z240 z241 z242:Value) (Q:Exit→Act→World→Prop) (hb:b≤w.heap.size) (hbg:b≤g) (hS:St b w g A B) (hI:Inv A B) (hN:Bd n A B) (hn:n≤400) (h0:A.c.O.length≠0) (hQ:∀ u2 u8 u9 u10 u11 u12 u13 u14 u15 u49 u50 u51 u52 u53 u54 u55 u56 u57 u58 u59 u60 u61 u62 u63 u64 u65 u66 u67 u68 u69 u70 u71 u72 u73 u74 u75 u76 u77 u78 u79 u80 u81 u82 u83 u84 u85 u86 u87 u88 u89 u90 u91 u92 u93 u94 u95 u96 u97 u98 u99 u100 u101 u102 u103 u104 u105 u106 u107 u108 u109 u110 u111 u112 u113 u114 u115 u116 u117 u118 u119 u120 u121 u122 u123 u124 u125 u126 u127 u128 u129 u130 u131 u132 u133 u134 u135 u136 u137 u138 u139 u140 u141 u142 u143 u144 u145 u146 u147 u148 u149 u150 u151 u152 u153 u154 u155 u156 u157 u158 u159 u160 u161 u162 u163 u164 u165 u166 u167 u168 u169 u170 u171 u172 u173 u174 u175 u176 u177 u178 u179 u180 u181 u182 u183:Value,∀ (A' B':Sd) (w':World),St b w' g A' B'→Inv A' B'→Cg g b w w'→Bd (n+1) A' B'→Q .normal ⟨#[z0,z1,u2,.pointer (some ⟨g,0,none⟩),z4,z5,.pointer (some ⟨g,0,none⟩),.pointer (some ⟨g,8,none⟩),u8,u9,u10,u11,u12,u13,u14,u15,z16,z17,z18,z19,z20,z21,z22,z23,z24,z25,z26,z27,z28,z29,z30,z31,z32,z33,z34,z35,z36,z37,z38,z39,z40,z41,z42,z43,z44,z45,z46,z47,.int .u64 1,u49,u50,u51,u52,u53,u54,u55,u56,u57,u58,u59,u60,u61,u62,u63,u64,u65,u66,u67,u68,u69,u70,u71,u72,u73,u74,u75,u76,u77,u78,u79,u80,u81,u82,u83,u84,u85,u86,u87,u88,u89,u90,u91,u92,u93,u94,u95,u96,u97,u98,u99,u100,u101,u102,u103,u104,u105,u106,u107,u108,u109,u110,u111,u112,u113,u114,u115,u116,u117,u118,u119,u120,u121,u122,u123,u124,u125,u126,u127,u128,u129,u130,u131,u132,u133,u134,u135,u136,u137,u138,u139,u140,u141,u142,u143,u144,u145,u146,u147,u148,u149,u150,u151,u152,u153,u154,u155,u156,u157,u158,u159,u160,u161,u162,u163,u164,u165,u166,u167,u168,u169,u170,u171,u172,u173,u174,u175,u176,u177,u178,u179,u180,u181,u182,u183,z184,z185,z186,z187,z188,z189,z190,z191,z192,z193,z194,z195,z196,z197,z198,z199,z200,z201,z202,z203,z204,z205,z206,z207,z208,z209,z210,z211,z212,z213,z214,z215,z216,z217,z218,z219,z220,z221,z222,z223,z224,z225,z226,z227,z228,z229,z230,z231,z232,z233,z234,z235,z236,z237,z238,z239,z240,z241,z242],[]⟩ w'):Code.wp Try.prog oSwitch Q ⟨#[z0,z1,z2,.pointer (some ⟨g,0,none⟩),z4,z5,.pointer (some ⟨g,0,none⟩),.pointer (some ⟨g,8,none⟩),z8,z9,z10,z11,z12,z13,z14,z15,z16,z17,z18,z19,z20,z21,z22,z23,z24,z25,z26,z27,z28,z29,z30,z31,z32,z33,z34,z35,z36,z37,z38,z39,z40,z41,z42,z43,z44,z45,z46,z47,.int .u64 1,z49,z50,z51,z52,z53,z54,z55,z56,z57,z58,z59,z60,z61,z62,z63,z64,z65,z66,z67,z68,z69,z70,z71,z72,z73,z74,z75,z76,z77,z78,z79,z80,z81,z82,z83,z84,z85,z86,z87,z88,z89,z90,z91,z92,z93,z94,z95,z96,z97,z98,z99,z100,z101,z102,z103,z104,z105,z106,z107,z108,z109,z110,z111,z112,z113,z114,z115,z116,z117,z118,z119,z120,z121,z122,z123,z124,z125,z126,z127,z128,z129,z130,z131,z132,z133,z134,z135,z136,z137,z138,z139,z140,z141,z142,z143,z144,z145,z146,z147,z148,z149,z150,z151,z152,z153,z154,z155,z156,z157,z158,z159,z160,z161,z162,z163,z164,z165,z166,z167,z168,z169,z170,z171,z172,z173,z174,z175,z176,z177,z178,z179,z180,z181,z182,z183,z184,z185,z186,z187,z188,z189,z190,z191,z192,z193,z194,z195,z196,z197,z198,z199,z200,z201,z202,z203,z204,z205,z206,z207,z208,z209,z210,z211,z212,z213,z214,z215,z216,z217,z218,z219,z220,z221,z222,z223,z224,z225,z226,z227,z228,z229,z230,z231,z232,z233,z234,z235,z236,z237,z238,z239,z240,z241,z242],[]⟩ w:=by
 have hI2:=hI.say h0
 have hc:=ssay_some0 b g A B w hb hbg hS hI h0 (by have:=hN.wa; omega)
 replace hQ:=hide hQ; replace hI2:=hide hI2; replace hc:=hide hc; replace hN:=hide hN
 conv=>arg 2; whnf
 go_upto_region 18 with fail
 have hB:=nilb w
 obtain ⟨w0,hw0⟩:∃ u,u=w:=⟨_,rfl⟩
 clear hw0
 refine wp_region_lit ?_
 refine lvk (.bool false) ?_
 simp only [nrm]
 (refine wpList_step fun K hK=>?_; replace hK:=hide hK; go_simp; refine unhide hK _ _ ?_; clear hK K)
 refine wpList_nil ?_
 replace hB:=hide hB
 go_upto_region 29 with fail
 replace hB:=unhide hB
 refine wp_region_lit ?_
 refine lvk (.bool true) ?_
 simp only [nrm]
 (refine wpList_step fun K hK=>?_; replace hK:=hide hK; go_simp; refine unhide hK _ _ ?_; clear hK K)
 refine wpList_nil ?_
 replace hB:=hide hB
 go_upto_region 30 with fail
 replace hB:=unhide hB
 refine wp_region_lit ?_
 refine lvk (.pointer (some ⟨g,0,none⟩)) ?_
 simp only [nrm]
 refine list_call 12 #[.pointer (some ⟨g,0,none⟩)] (by kernel_rfl) (by kernel_rfl) ((unhide hc).mono ?_)
 rintro r_ w1 ⟨rfl,hS1,hG1⟩
 refine ⟨_,rfl,?_⟩
 clear hB
 have hB:=nilb w1
 simp only [nrm]
 refine lvk (.bool false) ?_
 simp only [nrm]
 refine wpList_nil ?_
 go_wp2_with fail
 exact unhide hQ _ _ _ _ _ _ _ _ _ _ _ _ _ _ _ _ _ _ _ _ _ _ _ _ _ _ _ _ _ _ _ _ _ _ _ _ _ _ _ _ _ _ _ _ _ _ _ _ _ _ _ _ _ _ _ _ _ _ _ _ _ _ _ _ _ _ _ _ _ _ _ _ _ _ _ _ _ _ _ _ _ _ _ _ _ _ _ _ _ _ _ _ _ _ _ _ _ _ _ _ _ _ _ _ _ _ _ _ _ _ _ _ _ _ _ _ _ _ _ _ _ _ _ _ _ _ _ _ _ _ _ _ _ _ _ _ _ _ _ _ _ _ _ _ _ _ _ hS1 (unhide hI2) hG1 ⟨Nat.le_succ_of_le (unhide hN).qa,Nat.le_succ_of_le (unhide hN).qb,le_app1 (unhide hN).wa _,Nat.le_succ_of_le (unhide hN).wb⟩
set_option maxHeartbeats 4000000 in
theorem br_saynone0 (b g n:Nat) (A B:Sd) (w:World) (z0 z1 z2 z4 z5 z8 z9 z10 z11 z12 z13 z14 z15 z16 z17 z18 z19 z20 z21 z22 z23 z24 z25 z26 z27 z28 z29 z30 z31 z32 z33 z34 z35 z36 z37 z38 z39 z40 z41 z42 z43 z44 z45 z46 z47 z49 z50 z51 z52 z53 z54 z55 z56 z57 z58 z59 z60 z61 z62 z63 z64 z65 z66 z67 z68 z69 z70 z71 z72 z73 z74 z75 z76 z77 z78 z79 z80 z81 z82 z83 z84 z85 z86 z87 z88 z89 z90 z91 z92 z93 z94 z95 z96 z97 z98 z99 z100 z101 z102 z103 z104 z105 z106 z107 z108 z109 z110 z111 z112 z113 z114 z115 z116 z117 z118 z119 z120 z121 z122 z123 z124 z125 z126 z127 z128 z129 z130 z131 z132 z133 z134 z135 z136 z137 z138 z139 z140 z141 z142 z143 z144 z145 z146 z147 z148 z149 z150 z151 z152 z153 z154 z155 z156 z157 z158 z159 z160 z161 z162 z163 z164 z165 z166 z167 z168 z169 z170 z171 z172 z173 z174 z175 z176 z177 z178 z179 z180 z181 z182 z183 z184 z185 z186 z187 z188 z189 z190 z191 z192 z193 z194 z195 z196 z197 z198 z199 z200 z201 z202 z203 z204 z205 z206 z207 z208 z209 z210 z211 z212 z213 z214 z215 z216 z217 z218 z219 z220 z221 z222 z223 z224 z225 z226 z227 z228 z229 z230 z231 z232 z233 z234 z235 z236 z237 z238 z239 z240 z241 z242:Value) (Q:Exit→Act→World→Prop) (hb:b≤w.heap.size) (hbg:b≤g) (hS:St b w g A B) (hI:Inv A B) (hN:Bd n A B) (hn:n≤400) (h0:A.c.O.length=0) (hQ:∀ u2 u8 u9 u10 u11 u12 u13 u14 u15 u49 u50 u51 u52 u53 u54 u55 u56 u57 u58 u59 u60 u61 u62 u63 u64 u65 u66 u67 u68 u69 u70 u71 u72 u73 u74 u75 u76 u77 u78 u79 u80 u81 u82 u83 u84 u85 u86 u87 u88 u89 u90 u91 u92 u93 u94 u95 u96 u97 u98 u99 u100 u101 u102 u103 u104 u105 u106 u107 u108 u109 u110 u111 u112 u113 u114 u115 u116 u117 u118 u119 u120 u121 u122 u123 u124 u125 u126 u127 u128 u129 u130 u131 u132 u133 u134 u135 u136 u137 u138 u139 u140 u141 u142 u143 u144 u145 u146 u147 u148 u149 u150 u151 u152 u153 u154 u155 u156 u157 u158 u159 u160 u161 u162 u163 u164 u165 u166 u167 u168 u169 u170 u171 u172 u173 u174 u175 u176 u177 u178 u179 u180 u181 u182 u183:Value,∀ (A' B':Sd) (w':World),St b w' g A' B'→Inv A' B'→Cg g b w w'→Bd (n+1) A' B'→Q .normal ⟨#[z0,z1,u2,.pointer (some ⟨g,0,none⟩),z4,z5,.pointer (some ⟨g,0,none⟩),.pointer (some ⟨g,8,none⟩),u8,u9,u10,u11,u12,u13,u14,u15,z16,z17,z18,z19,z20,z21,z22,z23,z24,z25,z26,z27,z28,z29,z30,z31,z32,z33,z34,z35,z36,z37,z38,z39,z40,z41,z42,z43,z44,z45,z46,z47,.int .u64 1,u49,u50,u51,u52,u53,u54,u55,u56,u57,u58,u59,u60,u61,u62,u63,u64,u65,u66,u67,u68,u69,u70,u71,u72,u73,u74,u75,u76,u77,u78,u79,u80,u81,u82,u83,u84,u85,u86,u87,u88,u89,u90,u91,u92,u93,u94,u95,u96,u97,u98,u99,u100,u101,u102,u103,u104,u105,u106,u107,u108,u109,u110,u111,u112,u113,u114,u115,u116,u117,u118,u119,u120,u121,u122,u123,u124,u125,u126,u127,u128,u129,u130,u131,u132,u133,u134,u135,u136,u137,u138,u139,u140,u141,u142,u143,u144,u145,u146,u147,u148,u149,u150,u151,u152,u153,u154,u155,u156,u157,u158,u159,u160,u161,u162,u163,u164,u165,u166,u167,u168,u169,u170,u171,u172,u173,u174,u175,u176,u177,u178,u179,u180,u181,u182,u183,z184,z185,z186,z187,z188,z189,z190,z191,z192,z193,z194,z195,z196,z197,z198,z199,z200,z201,z202,z203,z204,z205,z206,z207,z208,z209,z210,z211,z212,z213,z214,z215,z216,z217,z218,z219,z220,z221,z222,z223,z224,z225,z226,z227,z228,z229,z230,z231,z232,z233,z234,z235,z236,z237,z238,z239,z240,z241,z242],[]⟩ w'):Code.wp Try.prog oSwitch Q ⟨#[z0,z1,z2,.pointer (some ⟨g,0,none⟩),z4,z5,.pointer (some ⟨g,0,none⟩),.pointer (some ⟨g,8,none⟩),z8,z9,z10,z11,z12,z13,z14,z15,z16,z17,z18,z19,z20,z21,z22,z23,z24,z25,z26,z27,z28,z29,z30,z31,z32,z33,z34,z35,z36,z37,z38,z39,z40,z41,z42,z43,z44,z45,z46,z47,.int .u64 1,z49,z50,z51,z52,z53,z54,z55,z56,z57,z58,z59,z60,z61,z62,z63,z64,z65,z66,z67,z68,z69,z70,z71,z72,z73,z74,z75,z76,z77,z78,z79,z80,z81,z82,z83,z84,z85,z86,z87,z88,z89,z90,z91,z92,z93,z94,z95,z96,z97,z98,z99,z100,z101,z102,z103,z104,z105,z106,z107,z108,z109,z110,z111,z112,z113,z114,z115,z116,z117,z118,z119,z120,z121,z122,z123,z124,z125,z126,z127,z128,z129,z130,z131,z132,z133,z134,z135,z136,z137,z138,z139,z140,z141,z142,z143,z144,z145,z146,z147,z148,z149,z150,z151,z152,z153,z154,z155,z156,z157,z158,z159,z160,z161,z162,z163,z164,z165,z166,z167,z168,z169,z170,z171,z172,z173,z174,z175,z176,z177,z178,z179,z180,z181,z182,z183,z184,z185,z186,z187,z188,z189,z190,z191,z192,z193,z194,z195,z196,z197,z198,z199,z200,z201,z202,z203,z204,z205,z206,z207,z208,z209,z210,z211,z212,z213,z214,z215,z216,z217,z218,z219,z220,z221,z222,z223,z224,z225,z226,z227,z228,z229,z230,z231,z232,z233,z234,z235,z236,z237,z238,z239,z240,z241,z242],[]⟩ w:=by
 have hI2:=hI.idle
 have hc:=ssay_none0 b g A B w hb hbg hS hI h0 (by have:=hN.wa; omega)
 replace hQ:=hide hQ; replace hI2:=hide hI2; replace hc:=hide hc; replace hN:=hide hN
 conv=>arg 2; whnf
 go_upto_region 18 with fail
 have hB:=nilb w
 obtain ⟨w0,hw0⟩:∃ u,u=w:=⟨_,rfl⟩
 clear hw0
 refine wp_region_lit ?_
 refine lvk (.bool false) ?_
 simp only [nrm]
 (refine wpList_step fun K hK=>?_; replace hK:=hide hK; go_simp; refine unhide hK _ _ ?_; clear hK K)
 refine wpList_nil ?_
 replace hB:=hide hB
 go_upto_region 29 with fail
 replace hB:=unhide hB
 refine wp_region_lit ?_
 refine lvk (.bool true) ?_
 simp only [nrm]
 (refine wpList_step fun K hK=>?_; replace hK:=hide hK; go_simp; refine unhide hK _ _ ?_; clear hK K)
 refine wpList_nil ?_
 replace hB:=hide hB
 go_upto_region 30 with fail
 replace hB:=unhide hB
 refine wp_region_lit ?_
 refine lvk (.pointer (some ⟨g,0,none⟩)) ?_
 simp only [nrm]
 refine list_call 12 #[.pointer (some ⟨g,0,none⟩)] (by kernel_rfl) (by kernel_rfl) ((unhide hc).mono ?_)
 rintro r_ w1 ⟨rfl,hS1,hG1⟩
 refine ⟨_,rfl,?_⟩
 clear hB
 have hB:=nilb w1
 simp only [nrm]
 refine lvk (.bool false) ?_
 simp only [nrm]
 refine wpList_nil ?_
 go_wp2_with fail
 exact unhide hQ _ _ _ _ _ _ _ _ _ _ _ _ _ _ _ _ _ _ _ _ _ _ _ _ _ _ _ _ _ _ _ _ _ _ _ _ _ _ _ _ _ _ _ _ _ _ _ _ _ _ _ _ _ _ _ _ _ _ _ _ _ _ _ _ _ _ _ _ _ _ _ _ _ _ _ _ _ _ _ _ _ _ _ _ _ _ _ _ _ _ _ _ _ _ _ _ _ _ _ _ _ _ _ _ _ _ _ _ _ _ _ _ _ _ _ _ _ _ _ _ _ _ _ _ _ _ _ _ _ _ _ _ _ _ _ _ _ _ _ _ _ _ _ _ _ _ _ hS1 (unhide hI2) hG1 ⟨Nat.le_succ_of_le (unhide hN).qa,Nat.le_succ_of_le (unhide hN).qb,le_app1 (unhide hN).wa _,Nat.le_succ_of_le (unhide hN).wb⟩
set_option maxHeartbeats 4000000 in
theorem br_saysome1 (b g n:Nat) (A B:Sd) (w:World) (z0 z1 z2 z4 z5 z8 z9 z10 z11 z12 z13 z14 z15 z16 z17 z18 z19 z20 z21 z22 z23 z24 z25 z26 z27 z28 z29 z30 z31 z32 z33 z34 z35 z36 z37 z38 z39 z40 z41 z42 z43 z44 z45 z46 z47 z49 z50 z51 z52 z53 z54 z55 z56 z57 z58 z59 z60 z61 z62 z63 z64 z65 z66 z67 z68 z69 z70 z71 z72 z73 z74 z75 z76 z77 z78 z79 z80 z81 z82 z83 z84 z85 z86 z87 z88 z89 z90 z91 z92 z93 z94 z95 z96 z97 z98 z99 z100 z101 z102 z103 z104 z105 z106 z107 z108 z109 z110 z111 z112 z113 z114 z115 z116 z117 z118 z119 z120 z121 z122 z123 z124 z125 z126 z127 z128 z129 z130 z131 z132 z133 z134 z135 z136 z137 z138 z139 z140 z141 z142 z143 z144 z145 z146 z147 z148 z149 z150 z151 z152 z153 z154 z155 z156 z157 z158 z159 z160 z161 z162 z163 z164 z165 z166 z167 z168 z169 z170 z171 z172 z173 z174 z175 z176 z177 z178 z179 z180 z181 z182 z183 z184 z185 z186 z187 z188 z189 z190 z191 z192 z193 z194 z195 z196 z197 z198 z199 z200 z201 z202 z203 z204 z205 z206 z207 z208 z209 z210 z211 z212 z213 z214 z215 z216 z217 z218 z219 z220 z221 z222 z223 z224 z225 z226 z227 z228 z229 z230 z231 z232 z233 z234 z235 z236 z237 z238 z239 z240 z241 z242:Value) (Q:Exit→Act→World→Prop) (hb:b≤w.heap.size) (hbg:b≤g) (hS:St b w g A B) (hI:Inv A B) (hN:Bd n A B) (hn:n≤400) (h0:B.c.O.length≠0) (hQ:∀ u2 u8 u9 u10 u11 u12 u13 u14 u15 u49 u50 u51 u52 u53 u54 u55 u56 u57 u58 u59 u60 u61 u62 u63 u64 u65 u66 u67 u68 u69 u70 u71 u72 u73 u74 u75 u76 u77 u78 u79 u80 u81 u82 u83 u84 u85 u86 u87 u88 u89 u90 u91 u92 u93 u94 u95 u96 u97 u98 u99 u100 u101 u102 u103 u104 u105 u106 u107 u108 u109 u110 u111 u112 u113 u114 u115 u116 u117 u118 u119 u120 u121 u122 u123 u124 u125 u126 u127 u128 u129 u130 u131 u132 u133 u134 u135 u136 u137 u138 u139 u140 u141 u142 u143 u144 u145 u146 u147 u148 u149 u150 u151 u152 u153 u154 u155 u156 u157 u158 u159 u160 u161 u162 u163 u164 u165 u166 u167 u168 u169 u170 u171 u172 u173 u174 u175 u176 u177 u178 u179 u180 u181 u182 u183:Value,∀ (A' B':Sd) (w':World),St b w' g A' B'→Inv A' B'→Cg g b w w'→Bd (n+1) A' B'→Q .normal ⟨#[z0,z1,u2,.pointer (some ⟨g,0,none⟩),z4,z5,.pointer (some ⟨g,8,none⟩),.pointer (some ⟨g,0,none⟩),u8,u9,u10,u11,u12,u13,u14,u15,z16,z17,z18,z19,z20,z21,z22,z23,z24,z25,z26,z27,z28,z29,z30,z31,z32,z33,z34,z35,z36,z37,z38,z39,z40,z41,z42,z43,z44,z45,z46,z47,.int .u64 1,u49,u50,u51,u52,u53,u54,u55,u56,u57,u58,u59,u60,u61,u62,u63,u64,u65,u66,u67,u68,u69,u70,u71,u72,u73,u74,u75,u76,u77,u78,u79,u80,u81,u82,u83,u84,u85,u86,u87,u88,u89,u90,u91,u92,u93,u94,u95,u96,u97,u98,u99,u100,u101,u102,u103,u104,u105,u106,u107,u108,u109,u110,u111,u112,u113,u114,u115,u116,u117,u118,u119,u120,u121,u122,u123,u124,u125,u126,u127,u128,u129,u130,u131,u132,u133,u134,u135,u136,u137,u138,u139,u140,u141,u142,u143,u144,u145,u146,u147,u148,u149,u150,u151,u152,u153,u154,u155,u156,u157,u158,u159,u160,u161,u162,u163,u164,u165,u166,u167,u168,u169,u170,u171,u172,u173,u174,u175,u176,u177,u178,u179,u180,u181,u182,u183,z184,z185,z186,z187,z188,z189,z190,z191,z192,z193,z194,z195,z196,z197,z198,z199,z200,z201,z202,z203,z204,z205,z206,z207,z208,z209,z210,z211,z212,z213,z214,z215,z216,z217,z218,z219,z220,z221,z222,z223,z224,z225,z226,z227,z228,z229,z230,z231,z232,z233,z234,z235,z236,z237,z238,z239,z240,z241,z242],[]⟩ w'):Code.wp Try.prog oSwitch Q ⟨#[z0,z1,z2,.pointer (some ⟨g,0,none⟩),z4,z5,.pointer (some ⟨g,8,none⟩),.pointer (some ⟨g,0,none⟩),z8,z9,z10,z11,z12,z13,z14,z15,z16,z17,z18,z19,z20,z21,z22,z23,z24,z25,z26,z27,z28,z29,z30,z31,z32,z33,z34,z35,z36,z37,z38,z39,z40,z41,z42,z43,z44,z45,z46,z47,.int .u64 1,z49,z50,z51,z52,z53,z54,z55,z56,z57,z58,z59,z60,z61,z62,z63,z64,z65,z66,z67,z68,z69,z70,z71,z72,z73,z74,z75,z76,z77,z78,z79,z80,z81,z82,z83,z84,z85,z86,z87,z88,z89,z90,z91,z92,z93,z94,z95,z96,z97,z98,z99,z100,z101,z102,z103,z104,z105,z106,z107,z108,z109,z110,z111,z112,z113,z114,z115,z116,z117,z118,z119,z120,z121,z122,z123,z124,z125,z126,z127,z128,z129,z130,z131,z132,z133,z134,z135,z136,z137,z138,z139,z140,z141,z142,z143,z144,z145,z146,z147,z148,z149,z150,z151,z152,z153,z154,z155,z156,z157,z158,z159,z160,z161,z162,z163,z164,z165,z166,z167,z168,z169,z170,z171,z172,z173,z174,z175,z176,z177,z178,z179,z180,z181,z182,z183,z184,z185,z186,z187,z188,z189,z190,z191,z192,z193,z194,z195,z196,z197,z198,z199,z200,z201,z202,z203,z204,z205,z206,z207,z208,z209,z210,z211,z212,z213,z214,z215,z216,z217,z218,z219,z220,z221,z222,z223,z224,z225,z226,z227,z228,z229,z230,z231,z232,z233,z234,z235,z236,z237,z238,z239,z240,z241,z242],[]⟩ w:=by
 have hI2:=(hI.swap.say h0).swap
 have hc:=ssay_some1 b g A B w hb hbg hS hI h0 (by have:=hN.wb; omega)
 replace hQ:=hide hQ; replace hI2:=hide hI2; replace hc:=hide hc; replace hN:=hide hN
 conv=>arg 2; whnf
 go_upto_region 18 with fail
 have hB:=nilb w
 obtain ⟨w0,hw0⟩:∃ u,u=w:=⟨_,rfl⟩
 clear hw0
 refine wp_region_lit ?_
 refine lvk (.bool false) ?_
 simp only [nrm]
 (refine wpList_step fun K hK=>?_; replace hK:=hide hK; go_simp; refine unhide hK _ _ ?_; clear hK K)
 refine wpList_nil ?_
 replace hB:=hide hB
 go_upto_region 29 with fail
 replace hB:=unhide hB
 refine wp_region_lit ?_
 refine lvk (.bool true) ?_
 simp only [nrm]
 (refine wpList_step fun K hK=>?_; replace hK:=hide hK; go_simp; refine unhide hK _ _ ?_; clear hK K)
 refine wpList_nil ?_
 replace hB:=hide hB
 go_upto_region 30 with fail
 replace hB:=unhide hB
 refine wp_region_lit ?_
 refine lvk (.pointer (some ⟨g,8,none⟩)) ?_
 simp only [nrm]
 refine list_call 12 #[.pointer (some ⟨g,8,none⟩)] (by kernel_rfl) (by kernel_rfl) ((unhide hc).mono ?_)
 rintro r_ w1 ⟨rfl,hS1,hG1⟩
 refine ⟨_,rfl,?_⟩
 clear hB
 have hB:=nilb w1
 simp only [nrm]
 refine lvk (.bool false) ?_
 simp only [nrm]
 refine wpList_nil ?_
 go_wp2_with fail
 exact unhide hQ _ _ _ _ _ _ _ _ _ _ _ _ _ _ _ _ _ _ _ _ _ _ _ _ _ _ _ _ _ _ _ _ _ _ _ _ _ _ _ _ _ _ _ _ _ _ _ _ _ _ _ _ _ _ _ _ _ _ _ _ _ _ _ _ _ _ _ _ _ _ _ _ _ _ _ _ _ _ _ _ _ _ _ _ _ _ _ _ _ _ _ _ _ _ _ _ _ _ _ _ _ _ _ _ _ _ _ _ _ _ _ _ _ _ _ _ _ _ _ _ _ _ _ _ _ _ _ _ _ _ _ _ _ _ _ _ _ _ _ _ _ _ _ _ _ _ _ hS1 (unhide hI2) hG1 ⟨Nat.le_succ_of_le (unhide hN).qa,Nat.le_succ_of_le (unhide hN).qb,Nat.le_succ_of_le (unhide hN).wa,le_app1 (unhide hN).wb _⟩
set_option maxHeartbeats 4000000 in
theorem br_saynone1 (b g n:Nat) (A B:Sd) (w:World) (z0 z1 z2 z4 z5 z8 z9 z10 z11 z12 z13 z14 z15 z16 z17 z18 z19 z20 z21 z22 z23 z24 z25 z26 z27 z28 z29 z30 z31 z32 z33 z34 z35 z36 z37 z38 z39 z40 z41 z42 z43 z44 z45 z46 z47 z49 z50 z51 z52 z53 z54 z55 z56 z57 z58 z59 z60 z61 z62 z63 z64 z65 z66 z67 z68 z69 z70 z71 z72 z73 z74 z75 z76 z77 z78 z79 z80 z81 z82 z83 z84 z85 z86 z87 z88 z89 z90 z91 z92 z93 z94 z95 z96 z97 z98 z99 z100 z101 z102 z103 z104 z105 z106 z107 z108 z109 z110 z111 z112 z113 z114 z115 z116 z117 z118 z119 z120 z121 z122 z123 z124 z125 z126 z127 z128 z129 z130 z131 z132 z133 z134 z135 z136 z137 z138 z139 z140 z141 z142 z143 z144 z145 z146 z147 z148 z149 z150 z151 z152 z153 z154 z155 z156 z157 z158 z159 z160 z161 z162 z163 z164 z165 z166 z167 z168 z169 z170 z171 z172 z173 z174 z175 z176 z177 z178 z179 z180 z181 z182 z183 z184 z185 z186 z187 z188 z189 z190 z191 z192 z193 z194 z195 z196 z197 z198 z199 z200 z201 z202 z203 z204 z205 z206 z207 z208 z209 z210 z211 z212 z213 z214 z215 z216 z217 z218 z219 z220 z221 z222 z223 z224 z225 z226 z227 z228 z229 z230 z231 z232 z233 z234 z235 z236 z237 z238 z239 z240 z241 z242:Value) (Q:Exit→Act→World→Prop) (hb:b≤w.heap.size) (hbg:b≤g) (hS:St b w g A B) (hI:Inv A B) (hN:Bd n A B) (hn:n≤400) (h0:B.c.O.length=0) (hQ:∀ u2 u8 u9 u10 u11 u12 u13 u14 u15 u49 u50 u51 u52 u53 u54 u55 u56 u57 u58 u59 u60 u61 u62 u63 u64 u65 u66 u67 u68 u69 u70 u71 u72 u73 u74 u75 u76 u77 u78 u79 u80 u81 u82 u83 u84 u85 u86 u87 u88 u89 u90 u91 u92 u93 u94 u95 u96 u97 u98 u99 u100 u101 u102 u103 u104 u105 u106 u107 u108 u109 u110 u111 u112 u113 u114 u115 u116 u117 u118 u119 u120 u121 u122 u123 u124 u125 u126 u127 u128 u129 u130 u131 u132 u133 u134 u135 u136 u137 u138 u139 u140 u141 u142 u143 u144 u145 u146 u147 u148 u149 u150 u151 u152 u153 u154 u155 u156 u157 u158 u159 u160 u161 u162 u163 u164 u165 u166 u167 u168 u169 u170 u171 u172 u173 u174 u175 u176 u177 u178 u179 u180 u181 u182 u183:Value,∀ (A' B':Sd) (w':World),St b w' g A' B'→Inv A' B'→Cg g b w w'→Bd (n+1) A' B'→Q .normal ⟨#[z0,z1,u2,.pointer (some ⟨g,0,none⟩),z4,z5,.pointer (some ⟨g,8,none⟩),.pointer (some ⟨g,0,none⟩),u8,u9,u10,u11,u12,u13,u14,u15,z16,z17,z18,z19,z20,z21,z22,z23,z24,z25,z26,z27,z28,z29,z30,z31,z32,z33,z34,z35,z36,z37,z38,z39,z40,z41,z42,z43,z44,z45,z46,z47,.int .u64 1,u49,u50,u51,u52,u53,u54,u55,u56,u57,u58,u59,u60,u61,u62,u63,u64,u65,u66,u67,u68,u69,u70,u71,u72,u73,u74,u75,u76,u77,u78,u79,u80,u81,u82,u83,u84,u85,u86,u87,u88,u89,u90,u91,u92,u93,u94,u95,u96,u97,u98,u99,u100,u101,u102,u103,u104,u105,u106,u107,u108,u109,u110,u111,u112,u113,u114,u115,u116,u117,u118,u119,u120,u121,u122,u123,u124,u125,u126,u127,u128,u129,u130,u131,u132,u133,u134,u135,u136,u137,u138,u139,u140,u141,u142,u143,u144,u145,u146,u147,u148,u149,u150,u151,u152,u153,u154,u155,u156,u157,u158,u159,u160,u161,u162,u163,u164,u165,u166,u167,u168,u169,u170,u171,u172,u173,u174,u175,u176,u177,u178,u179,u180,u181,u182,u183,z184,z185,z186,z187,z188,z189,z190,z191,z192,z193,z194,z195,z196,z197,z198,z199,z200,z201,z202,z203,z204,z205,z206,z207,z208,z209,z210,z211,z212,z213,z214,z215,z216,z217,z218,z219,z220,z221,z222,z223,z224,z225,z226,z227,z228,z229,z230,z231,z232,z233,z234,z235,z236,z237,z238,z239,z240,z241,z242],[]⟩ w'):Code.wp Try.prog oSwitch Q ⟨#[z0,z1,z2,.pointer (some ⟨g,0,none⟩),z4,z5,.pointer (some ⟨g,8,none⟩),.pointer (some ⟨g,0,none⟩),z8,z9,z10,z11,z12,z13,z14,z15,z16,z17,z18,z19,z20,z21,z22,z23,z24,z25,z26,z27,z28,z29,z30,z31,z32,z33,z34,z35,z36,z37,z38,z39,z40,z41,z42,z43,z44,z45,z46,z47,.int .u64 1,z49,z50,z51,z52,z53,z54,z55,z56,z57,z58,z59,z60,z61,z62,z63,z64,z65,z66,z67,z68,z69,z70,z71,z72,z73,z74,z75,z76,z77,z78,z79,z80,z81,z82,z83,z84,z85,z86,z87,z88,z89,z90,z91,z92,z93,z94,z95,z96,z97,z98,z99,z100,z101,z102,z103,z104,z105,z106,z107,z108,z109,z110,z111,z112,z113,z114,z115,z116,z117,z118,z119,z120,z121,z122,z123,z124,z125,z126,z127,z128,z129,z130,z131,z132,z133,z134,z135,z136,z137,z138,z139,z140,z141,z142,z143,z144,z145,z146,z147,z148,z149,z150,z151,z152,z153,z154,z155,z156,z157,z158,z159,z160,z161,z162,z163,z164,z165,z166,z167,z168,z169,z170,z171,z172,z173,z174,z175,z176,z177,z178,z179,z180,z181,z182,z183,z184,z185,z186,z187,z188,z189,z190,z191,z192,z193,z194,z195,z196,z197,z198,z199,z200,z201,z202,z203,z204,z205,z206,z207,z208,z209,z210,z211,z212,z213,z214,z215,z216,z217,z218,z219,z220,z221,z222,z223,z224,z225,z226,z227,z228,z229,z230,z231,z232,z233,z234,z235,z236,z237,z238,z239,z240,z241,z242],[]⟩ w:=by
 have hI2:=hI.swap.idle.swap
 have hc:=ssay_none1 b g A B w hb hbg hS hI h0 (by have:=hN.wb; omega)
 replace hQ:=hide hQ; replace hI2:=hide hI2; replace hc:=hide hc; replace hN:=hide hN
 conv=>arg 2; whnf
 go_upto_region 18 with fail
 have hB:=nilb w
 obtain ⟨w0,hw0⟩:∃ u,u=w:=⟨_,rfl⟩
 clear hw0
 refine wp_region_lit ?_
 refine lvk (.bool false) ?_
 simp only [nrm]
 (refine wpList_step fun K hK=>?_; replace hK:=hide hK; go_simp; refine unhide hK _ _ ?_; clear hK K)
 refine wpList_nil ?_
 replace hB:=hide hB
 go_upto_region 29 with fail
 replace hB:=unhide hB
 refine wp_region_lit ?_
 refine lvk (.bool true) ?_
 simp only [nrm]
 (refine wpList_step fun K hK=>?_; replace hK:=hide hK; go_simp; refine unhide hK _ _ ?_; clear hK K)
 refine wpList_nil ?_
 replace hB:=hide hB
 go_upto_region 30 with fail
 replace hB:=unhide hB
 refine wp_region_lit ?_
 refine lvk (.pointer (some ⟨g,8,none⟩)) ?_
 simp only [nrm]
 refine list_call 12 #[.pointer (some ⟨g,8,none⟩)] (by kernel_rfl) (by kernel_rfl) ((unhide hc).mono ?_)
 rintro r_ w1 ⟨rfl,hS1,hG1⟩
 refine ⟨_,rfl,?_⟩
 clear hB
 have hB:=nilb w1
 simp only [nrm]
 refine lvk (.bool false) ?_
 simp only [nrm]
 refine wpList_nil ?_
 go_wp2_with fail
 exact unhide hQ _ _ _ _ _ _ _ _ _ _ _ _ _ _ _ _ _ _ _ _ _ _ _ _ _ _ _ _ _ _ _ _ _ _ _ _ _ _ _ _ _ _ _ _ _ _ _ _ _ _ _ _ _ _ _ _ _ _ _ _ _ _ _ _ _ _ _ _ _ _ _ _ _ _ _ _ _ _ _ _ _ _ _ _ _ _ _ _ _ _ _ _ _ _ _ _ _ _ _ _ _ _ _ _ _ _ _ _ _ _ _ _ _ _ _ _ _ _ _ _ _ _ _ _ _ _ _ _ _ _ _ _ _ _ _ _ _ _ _ _ _ _ _ _ _ _ _ hS1 (unhide hI2) hG1 ⟨Nat.le_succ_of_le (unhide hN).qa,Nat.le_succ_of_le (unhide hN).qb,Nat.le_succ_of_le (unhide hN).wa,le_app1 (unhide hN).wb _⟩
end Go.Proofs.Ytcefkkoombmndab
namespace Go.Proofs.Ytcefkkoombmndab
open Go.RowKit
set_option maxRecDepth 100000
set_option linter.unusedSimpArgs false
set_option linter.unusedVariables false
section
variable {a:Act} {o:Oper} (w:World) (x y:Operand) (m n:Int)
theorem conv_iuW (ho:o.op=.convert 3 47 x) (hx:a.eval x=.int .i64 m) (r:Int) (hr:m % 18446744073709551616=r):(execOp a.eval o).run Try.prog w=.ok (.value (.int .u64 r)) w:=by
 have hw:IntKind.u64.wrap m=r:=by rw [IntKind.wrap_u64]; exact hr
 unfold execOp
 simp only [ho,hx]
 go_simp
theorem rem_u (ho:o.op=.binOp .rem 47 x y 47) (hx:a.eval x=.int .u64 m) (hy:a.eval y=.int .u64 n) (hm:0≤m) (hn:0<n) (hb:n<18446744073709551616) (r:Int) (hr:m % n=r):(execOp a.eval o).run Try.prog w=.ok (.value (.int .u64 r)) w:=by
 subst hr
 have h0:n≠0:=by omega
 have h1:=Int.emod_nonneg m h0
 have h2:=Int.emod_lt_of_pos m hn
 have ht:Int.tmod m n=m % n:=Int.tmod_eq_emod_of_nonneg hm
 have hw:IntKind.u64.wrap (m % n)=m % n:=by rw [IntKind.wrap_u64]; omega
 unfold execOp
 simp only [ho,hx,hy]
 go_simp
theorem eql_u (b:Bool) (ho:o.op=.binOp .eql 47 x y 47) (hx:a.eval x=.int .u64 m) (hy:a.eval y=.int .u64 n) (hb:decide (m=n)=b):(execOp a.eval o).run Try.prog w=.ok (.value (.bool b)) w:=by
 subst hb
 unfold execOp
 simp only [ho,hx,hy]
 go_simp
 by_cases h_:m=n <;> simp [h_]
end
def NST:List Nat:=[1,1,1,1]
theorem nST (a b c d:Value):[[a],[b],[c],[d]].map List.length=NST:=rfl
def ix (k:Int) (n:Nat):Nat:=((k % 18446744073709551616) % (n:Int)).toNat
theorem ix_lt (k:Int) {n:Nat} (h:0<n):ix k n<n:=by
 unfold ix
 have h1:=Int.emod_nonneg (k % 18446744073709551616) (b:=(n:Int)) (by omega)
 have h2:=Int.emod_lt_of_pos (k % 18446744073709551616) (b:=(n:Int)) (by omega)
 omega
theorem ix_eq (k:Int) {n:Nat} (h:0<n):(k % 18446744073709551616) % (n:Int)=((ix k n:Nat):Int):=by
 unfold ix
 have h1:=Int.emod_nonneg (k % 18446744073709551616) (b:=(n:Int)) (by omega)
 omega
theorem exec_isU {a:Act} {o:Oper} (w:World) (x y:Operand) (ho:o.op=.indexAddr 40 x y) (g q len cap i:Nat) (hx:a.eval x=.slice (some ⟨g,q,none⟩) len cap) (hy:a.eval y=.int .u64 i) (hi:i<len) :
  (execOp a.eval o).run Try.prog w=.ok (.value (.pointer (some ⟨g,q+108 * i,none⟩))) w:=by
 have h1:(i:Int)<(len:Int):=by omega
 have hs:(Try.prog.info? 53).map (·.size)=some 108:=by kernel_rfl
 obtain ⟨i0,h2,h3⟩:=Option.map_eq_some_iff.1 hs
 have hu:=Try.underlying40
 have hc:i * 108=108 * i:=Nat.mul_comm _ _
 unfold execOp
 simp only [ho,hx,hy]
 go_simp
theorem exec_lU {op:Oper} {a:Act} (w:World) (x:Operand) (ho:op.op=.load 53 x) (g o:Nat) (hx:a.eval x=.pointer (some ⟨g,o,none⟩)) (u:Un) (hu:u.B.length=105) (h:w.rangeAt g o (unr u)) :
  (execOp a.eval op).run Try.prog w=.ok (.value (.agg (fl [[.int .u32 u.ack],[.int .u32 u.seq],bw u.B,[.bool u.idle]]))) w:=by
 rw [← unr_fl]
 exact exec_row (P:=Try.prog) w 53 x ho g o hx (unr u) _ h Try.underlying53 rfl (by rw [unr_len hu]; kernel_rfl)
def Rg (w:World) (p o:Nat) (l:List Value):Prop:=w.rangeAt p o l
theorem Rg.gr {w v:World} {p o:Nat} {l:List Value} (h:Rg w p o l) (g:Gr w v):Rg v p o l:=range_gr h g
theorem un_at {b:Nat} {w:World} {a:Option Addr} {n c:Nat} {L:List Un} (h:Or_ 108 53 b w (.slice a n c) (L.map unr)) (j:Nat) (u:Un) (hj:L[j]?=some u):∃ p o,a=some ⟨p,o,none⟩∧w.rangeAt p (o+108 * j) (unr u):=by
 have h1:=or_slice h
 have hl:=(List.getElem?_eq_some_iff.1 hj).1
 have hn:=h1.1
 rw [List.length_map] at hn
 obtain ⟨p,o,h2,h3⟩:=h1.2.at_ j (by omega)
 refine ⟨p,o,h2,?_⟩
 have e:(L.map unr).getD j []=unr u:=by simp [List.getD,hj]
 rw [e] at h3
 exact h3
end Go.Proofs.Ytcefkkoombmndab
