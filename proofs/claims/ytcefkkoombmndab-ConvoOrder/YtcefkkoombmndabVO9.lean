/-
  What the proof leans on.
-/
import Derived.Test.YtcefkkoombmndabVO8
namespace Go.Proofs.Ytcefkkoombmndab
open Go.RowKit
set_option maxRecDepth 100000
set_option linter.unusedSimpArgs false
set_option linter.unusedVariables false
set_option maxHeartbeats 4000000 in
theorem br_none0 (b g gt n:Nat) (ki ix_ rm kd:Int) (lo:Bool) (A B:Sd) (w:World) (z0 z1 z2 z4 z8 z9 z10 z11 z12 z13 z14 z15 z16 z17 z18 z19 z20 z21 z22 z23 z24 z25 z26 z27 z28 z29 z30 z31 z32 z33 z34 z35 z36 z37 z38 z39 z40 z41 z42 z43 z44 z45 z46 z47 z49 z50 z51 z52 z53 z54 z55 z56 z57 z58 z59 z60 z61 z62 z63 z64 z65 z66 z67 z68 z69 z70 z71 z72 z73 z74 z75 z76 z77 z78 z79 z80 z81 z82 z83 z84 z85 z86 z87 z88 z89 z90 z91 z92 z93 z94 z95 z96 z97 z98 z99 z100 z101 z102 z103 z104 z105 z106 z107 z108 z109 z110 z111 z112 z113 z114 z115 z116 z117 z118 z119 z120 z121 z122 z123 z124 z125 z126 z127 z128 z129 z130 z131 z132 z133 z134 z135 z136 z137 z138 z139 z140 z141 z142 z143 z144 z145 z146 z147 z148 z149 z150 z151 z152 z153 z154 z155 z156 z157 z158 z159 z160 z161 z162 z163 z164 z165 z166 z167 z168 z169 z170 z171 z172 z173 z174 z175 z176 z177 z178 z179 z180 z181 z182 z183 z184 z185 z186 z187 z188 z189 z190 z191 z192 z193 z194 z195 z196 z197 z198 z199 z200 z201 z202 z203 z204 z205 z206 z207 z208 z209 z210 z211 z212 z213 z214 z215 z216 z217 z218 z219 z220 z221 z222 z223 z224 z225 z226 z227 z228 z229 z230 z231 z232 z233 z234 z235 z236 z237 z238 z239 z240 z241 z242:Value) (Q:Exit→Act→World→Prop) (hb:b≤w.heap.size) (hbg:b≤g) (hS:St b w g A B) (hI:Inv A B) (hN:Bd n A B) (hn:n≤400) (hgt:w.heap[gt]?=some (.cells ((cst ki ix_ rm lo)) 45 (0,0))) (hQp:∀ c a (d:Nat) v w,Q (.panic c) (Act.put a (some d) v) w→Q (.panic c) a w) (hd0:kd≠0) (hd1:kd≠1) (h0:A.w.length=0) (hQ:∀ u2 u8 u9 u10 u11 u12 u13 u14 u15 u49 u50 u51 u52 u53 u54 u55 u56 u57 u58 u59 u60 u61 u62 u63 u64 u65 u66 u67 u68 u69 u70 u71 u72 u73 u74 u75 u76 u77 u78 u79 u80 u81 u82 u83 u84 u85 u86 u87 u88 u89 u90 u91 u92 u93 u94 u95 u96 u97 u98 u99 u100 u101 u102 u103 u104 u105 u106 u107 u108 u109 u110 u111 u112 u113 u114 u115 u116 u117 u118 u119 u120 u121 u122 u123 u124 u125 u126 u127 u128 u129 u130 u131 u132 u133 u134 u135 u136 u137 u138 u139 u140 u141 u142 u143 u144 u145 u146 u147 u148 u149 u150 u151 u152 u153 u154 u155 u156 u157 u158 u159 u160 u161 u162 u163 u164 u165 u166 u167 u168 u169 u170 u171 u172 u173 u174 u175 u176 u177 u178 u179 u180 u181 u182 u183:Value,∀ (A' B':Sd) (w':World),St b w' g A' B'→Inv A' B'→Cg g b w w'→Bd (n+1) A' B'→Q .normal ⟨#[z0,z1,u2,.pointer (some ⟨g,0,none⟩),z4,.pointer (some ⟨gt,0,none⟩),.pointer (some ⟨g,0,none⟩),.pointer (some ⟨g,8,none⟩),u8,u9,u10,u11,u12,u13,u14,u15,z16,z17,z18,z19,z20,z21,z22,z23,z24,z25,z26,z27,z28,z29,z30,z31,z32,z33,z34,z35,z36,z37,z38,z39,z40,z41,z42,z43,z44,z45,z46,z47,.int .u64 kd,u49,u50,u51,u52,u53,u54,u55,u56,u57,u58,u59,u60,u61,u62,u63,u64,u65,u66,u67,u68,u69,u70,u71,u72,u73,u74,u75,u76,u77,u78,u79,u80,u81,u82,u83,u84,u85,u86,u87,u88,u89,u90,u91,u92,u93,u94,u95,u96,u97,u98,u99,u100,u101,u102,u103,u104,u105,u106,u107,u108,u109,u110,u111,u112,u113,u114,u115,u116,u117,u118,u119,u120,u121,u122,u123,u124,u125,u126,u127,u128,u129,u130,u131,u132,u133,u134,u135,u136,u137,u138,u139,u140,u141,u142,u143,u144,u145,u146,u147,u148,u149,u150,u151,u152,u153,u154,u155,u156,u157,u158,u159,u160,u161,u162,u163,u164,u165,u166,u167,u168,u169,u170,u171,u172,u173,u174,u175,u176,u177,u178,u179,u180,u181,u182,u183,z184,z185,z186,z187,z188,z189,z190,z191,z192,z193,z194,z195,z196,z197,z198,z199,z200,z201,z202,z203,z204,z205,z206,z207,z208,z209,z210,z211,z212,z213,z214,z215,z216,z217,z218,z219,z220,z221,z222,z223,z224,z225,z226,z227,z228,z229,z230,z231,z232,z233,z234,z235,z236,z237,z238,z239,z240,z241,z242],[]⟩ w'):Code.wp Try.prog oSwitch Q ⟨#[z0,z1,z2,.pointer (some ⟨g,0,none⟩),z4,.pointer (some ⟨gt,0,none⟩),.pointer (some ⟨g,0,none⟩),.pointer (some ⟨g,8,none⟩),z8,z9,z10,z11,z12,z13,z14,z15,z16,z17,z18,z19,z20,z21,z22,z23,z24,z25,z26,z27,z28,z29,z30,z31,z32,z33,z34,z35,z36,z37,z38,z39,z40,z41,z42,z43,z44,z45,z46,z47,.int .u64 kd,z49,z50,z51,z52,z53,z54,z55,z56,z57,z58,z59,z60,z61,z62,z63,z64,z65,z66,z67,z68,z69,z70,z71,z72,z73,z74,z75,z76,z77,z78,z79,z80,z81,z82,z83,z84,z85,z86,z87,z88,z89,z90,z91,z92,z93,z94,z95,z96,z97,z98,z99,z100,z101,z102,z103,z104,z105,z106,z107,z108,z109,z110,z111,z112,z113,z114,z115,z116,z117,z118,z119,z120,z121,z122,z123,z124,z125,z126,z127,z128,z129,z130,z131,z132,z133,z134,z135,z136,z137,z138,z139,z140,z141,z142,z143,z144,z145,z146,z147,z148,z149,z150,z151,z152,z153,z154,z155,z156,z157,z158,z159,z160,z161,z162,z163,z164,z165,z166,z167,z168,z169,z170,z171,z172,z173,z174,z175,z176,z177,z178,z179,z180,z181,z182,z183,z184,z185,z186,z187,z188,z189,z190,z191,z192,z193,z194,z195,z196,z197,z198,z199,z200,z201,z202,z203,z204,z205,z206,z207,z208,z209,z210,z211,z212,z213,z214,z215,z216,z217,z218,z219,z220,z221,z222,z223,z224,z225,z226,z227,z228,z229,z230,z231,z232,z233,z234,z235,z236,z237,z238,z239,z240,z241,z242],[]⟩ w:=by
 skip
 obtain ⟨x,y,qA,dA,vA,qB,dB,vB,hg,hA,hD,hXF,hU,hV⟩:=hS
 obtain ⟨wa,wc,hva,-⟩:=(hXF.own 2 _ rfl).lz
 dsimp only at hva
 subst hva
 obtain ⟨wn,hwn⟩:∃ n,n=(A.w.map unr).length:=⟨_,rfl⟩
 rw [← hwn] at hg hXF
 rw [List.length_map] at hwn
 have hXo:=hXF.old
 have hXG:Cgs g b w w:=⟨Cg.refl g b w,hb⟩
 have hne:g≠gt:=fun e=>by rw [e,hgt] at hg; cases hg
 replace hXF:=hide hXF; replace hA:=hide hA; replace hD:=hide hD; replace hU:=hide hU; replace hV:=hide hV; replace hI:=hide hI; replace hQ:=hide hQ; replace hN:=hide hN; replace hXG:=hide hXG; replace hQp:=hide hQp; replace hwn:=hide hwn
 conv=>arg 2; whnf
 go_upto_region 18 with fail
 have hB1:=(nilb w).add ⟨g,sg A.c x qA dA (.slice wa wn wc) B.c y qB dB vB,43⟩ hg (Nat.zero_le _) (by intro y hy; cases hy)
 have hB:=hB1.add ⟨gt,(cst ki ix_ rm lo),45⟩ hgt (Nat.zero_le _) (by intro y hy; rw [List.nil_append,List.mem_singleton] at hy; rw [hy]; exact hne)
 simp only [List.nil_append,List.cons_append] at hB
 clear hB1 hg hgt hne
 obtain ⟨u0,hu_⟩:∃ u,u=w:=⟨_,rfl⟩
 have hB2:Bl (bare w) [⟨g,sg A.c x qA dA (.slice wa wn wc) B.c y qB dB vB,43⟩,⟨gt,(cst ki ix_ rm lo),45⟩] u0:=hu_ ▸ hB
 replace hA:Hid (Co b u0 A.c x):=hu_ ▸ hA; replace hD:Hid (Co b u0 B.c y):=hu_ ▸ hD
 replace hXF:Hid (Fam b u0 (fam A B qA dA (.slice wa wn wc) qB dB vB)):=hu_ ▸ hXF
 replace hXG:Hid (Cgs g b w u0):=hu_ ▸ hXG
 clear hB
 have hB:=hB2
 clear hB2
 rw [← hu_]
 clear hu_
 refine wp_region_lit ?_
 refine list_val (.bool false) (by kernel_rfl) (eql_u _ (.tmp 48) (.const (.int .u64 0)) kd 0 false rfl (by kernel_rfl) rfl (decide_eq_false hd0)) ?_
 simp only [nrm]
 (refine wpList_step fun K hK=>?_; replace hK:=hide hK; go_simp; refine unhide hK _ _ ?_; clear hK K)
 refine wpList_nil ?_
 replace hB:=hide hB
 go_upto_region 29 with fail
 replace hB:=unhide hB
 refine wp_region_lit ?_
 refine list_val (.bool false) (by kernel_rfl) (eql_u _ (.tmp 48) (.const (.int .u64 1)) kd 1 false rfl (by kernel_rfl) rfl (decide_eq_false hd1)) ?_
 simp only [nrm]
 (refine wpList_step fun K hK=>?_; replace hK:=hide hK; go_simp; refine unhide hK _ _ ?_; clear hK K)
 refine wpList_nil ?_
 replace hB:=hide hB
 go_upto_region 10 with fail
 replace hB:=unhide hB
 refine wp_region_lit ?_
 refine lvk (.pointer (some ⟨g,0,none⟩)) ?_
 simp only [nrm]
 refine lvk (.pointer (some ⟨g,0,none⟩)) ?_
 simp only [nrm]
 refine lvk (.pointer (some ⟨g,7,none⟩)) ?_
 simp only [nrm]
 refine list_val (.slice wa wn wc) (by kernel_rfl) (exec_csU _ (.tmp 51) rfl (g) 7 (by kernel_rfl) wa wn wc (seg_cell (nS2  _ _ _ _ _ _ _ _ _ _ _ _ _ _ _ _) (hB.get 0 (x:=⟨g,sg A.c x qA dA (.slice wa wn wc) B.c y qB dB vB,43⟩) rfl) 7 (v:=.slice wa wn wc) rfl rfl)) ?_
 simp only [nrm]
 refine lvk (.int .i64 wn) ?_
 simp only [nrm]
 (refine wpList_step fun K hK=>?_; replace hK:=hide hK; go_simp; refine unhide hK _ _ ?_; clear hK K)
 refine wpList_nil ?_
 have hw0:wn=0:=by rw [unhide hwn]; exact h0
 subst hw0
 replace hB:=hide hB
 go_upto_region 11 with fail
 replace hB:=unhide hB
 refine wp_region_lit ?_
 refine lvk (.int .i64 0) ?_
 simp only [nrm]
 refine lvk (.bool false) ?_
 simp only [nrm]
 refine wpList_nil ?_
 go_wp2_with fail
 exact unhide hQ _ _ _ _ _ _ _ _ _ _ _ _ _ _ _ _ _ _ _ _ _ _ _ _ _ _ _ _ _ _ _ _ _ _ _ _ _ _ _ _ _ _ _ _ _ _ _ _ _ _ _ _ _ _ _ _ _ _ _ _ _ _ _ _ _ _ _ _ _ _ _ _ _ _ _ _ _ _ _ _ _ _ _ _ _ _ _ _ _ _ _ _ _ _ _ _ _ _ _ _ _ _ _ _ _ _ _ _ _ _ _ _ _ _ _ _ _ _ _ _ _ _ _ _ _ _ _ _ _ _ _ _ _ _ _ _ _ _ _ _ _ _ _ _ A B _ ⟨x,y,qA,dA,(.slice wa 0 wc),qB,dB,vB,hB.get 0 (x:=⟨g,sg A.c x qA dA (.slice wa 0 wc) B.c y qB dB vB,43⟩) rfl,unhide hA,unhide hD,unhide hXF,unhide hU,unhide hV⟩ (unhide hI) (unhide hXG).cg ⟨Nat.le_succ_of_le (unhide hN).qa,Nat.le_succ_of_le (unhide hN).qb,Nat.le_succ_of_le (unhide hN).wa,Nat.le_succ_of_le (unhide hN).wb⟩
set_option maxHeartbeats 4000000 in
theorem br_idle0 (b g gt n:Nat) (ki ix_ rm kd:Int) (A B:Sd) (w:World) (z0 z1 z2 z4 z8 z9 z10 z11 z12 z13 z14 z15 z16 z17 z18 z19 z20 z21 z22 z23 z24 z25 z26 z27 z28 z29 z30 z31 z32 z33 z34 z35 z36 z37 z38 z39 z40 z41 z42 z43 z44 z45 z46 z47 z49 z50 z51 z52 z53 z54 z55 z56 z57 z58 z59 z60 z61 z62 z63 z64 z65 z66 z67 z68 z69 z70 z71 z72 z73 z74 z75 z76 z77 z78 z79 z80 z81 z82 z83 z84 z85 z86 z87 z88 z89 z90 z91 z92 z93 z94 z95 z96 z97 z98 z99 z100 z101 z102 z103 z104 z105 z106 z107 z108 z109 z110 z111 z112 z113 z114 z115 z116 z117 z118 z119 z120 z121 z122 z123 z124 z125 z126 z127 z128 z129 z130 z131 z132 z133 z134 z135 z136 z137 z138 z139 z140 z141 z142 z143 z144 z145 z146 z147 z148 z149 z150 z151 z152 z153 z154 z155 z156 z157 z158 z159 z160 z161 z162 z163 z164 z165 z166 z167 z168 z169 z170 z171 z172 z173 z174 z175 z176 z177 z178 z179 z180 z181 z182 z183 z184 z185 z186 z187 z188 z189 z190 z191 z192 z193 z194 z195 z196 z197 z198 z199 z200 z201 z202 z203 z204 z205 z206 z207 z208 z209 z210 z211 z212 z213 z214 z215 z216 z217 z218 z219 z220 z221 z222 z223 z224 z225 z226 z227 z228 z229 z230 z231 z232 z233 z234 z235 z236 z237 z238 z239 z240 z241 z242:Value) (Q:Exit→Act→World→Prop) (hb:b≤w.heap.size) (hbg:b≤g) (hS:St b w g A B) (hI:Inv A B) (hN:Bd n A B) (hn:n≤400) (hgt:w.heap[gt]?=some (.cells ((cst ki ix_ rm false)) 45 (0,0))) (hQp:∀ c a (d:Nat) v w,Q (.panic c) (Act.put a (some d) v) w→Q (.panic c) a w) (hd0:kd≠0) (hd1:kd≠1) (ua us:Int) (uB:List Int) (h0:0<A.w.length) (hu:A.w[ix ix_ A.w.length]?=some ⟨ua,us,uB,true⟩) (hQ:∀ u2 u8 u9 u10 u11 u12 u13 u14 u15 u49 u50 u51 u52 u53 u54 u55 u56 u57 u58 u59 u60 u61 u62 u63 u64 u65 u66 u67 u68 u69 u70 u71 u72 u73 u74 u75 u76 u77 u78 u79 u80 u81 u82 u83 u84 u85 u86 u87 u88 u89 u90 u91 u92 u93 u94 u95 u96 u97 u98 u99 u100 u101 u102 u103 u104 u105 u106 u107 u108 u109 u110 u111 u112 u113 u114 u115 u116 u117 u118 u119 u120 u121 u122 u123 u124 u125 u126 u127 u128 u129 u130 u131 u132 u133 u134 u135 u136 u137 u138 u139 u140 u141 u142 u143 u144 u145 u146 u147 u148 u149 u150 u151 u152 u153 u154 u155 u156 u157 u158 u159 u160 u161 u162 u163 u164 u165 u166 u167 u168 u169 u170 u171 u172 u173 u174 u175 u176 u177 u178 u179 u180 u181 u182 u183:Value,∀ (A' B':Sd) (w':World),St b w' g A' B'→Inv A' B'→Cg g b w w'→Bd (n+1) A' B'→Q .normal ⟨#[z0,z1,u2,.pointer (some ⟨g,0,none⟩),z4,.pointer (some ⟨gt,0,none⟩),.pointer (some ⟨g,0,none⟩),.pointer (some ⟨g,8,none⟩),u8,u9,u10,u11,u12,u13,u14,u15,z16,z17,z18,z19,z20,z21,z22,z23,z24,z25,z26,z27,z28,z29,z30,z31,z32,z33,z34,z35,z36,z37,z38,z39,z40,z41,z42,z43,z44,z45,z46,z47,.int .u64 kd,u49,u50,u51,u52,u53,u54,u55,u56,u57,u58,u59,u60,u61,u62,u63,u64,u65,u66,u67,u68,u69,u70,u71,u72,u73,u74,u75,u76,u77,u78,u79,u80,u81,u82,u83,u84,u85,u86,u87,u88,u89,u90,u91,u92,u93,u94,u95,u96,u97,u98,u99,u100,u101,u102,u103,u104,u105,u106,u107,u108,u109,u110,u111,u112,u113,u114,u115,u116,u117,u118,u119,u120,u121,u122,u123,u124,u125,u126,u127,u128,u129,u130,u131,u132,u133,u134,u135,u136,u137,u138,u139,u140,u141,u142,u143,u144,u145,u146,u147,u148,u149,u150,u151,u152,u153,u154,u155,u156,u157,u158,u159,u160,u161,u162,u163,u164,u165,u166,u167,u168,u169,u170,u171,u172,u173,u174,u175,u176,u177,u178,u179,u180,u181,u182,u183,z184,z185,z186,z187,z188,z189,z190,z191,z192,z193,z194,z195,z196,z197,z198,z199,z200,z201,z202,z203,z204,z205,z206,z207,z208,z209,z210,z211,z212,z213,z214,z215,z216,z217,z218,z219,z220,z221,z222,z223,z224,z225,z226,z227,z228,z229,z230,z231,z232,z233,z234,z235,z236,z237,z238,z239,z240,z241,z242],[]⟩ w'):Code.wp Try.prog oSwitch Q ⟨#[z0,z1,z2,.pointer (some ⟨g,0,none⟩),z4,.pointer (some ⟨gt,0,none⟩),.pointer (some ⟨g,0,none⟩),.pointer (some ⟨g,8,none⟩),z8,z9,z10,z11,z12,z13,z14,z15,z16,z17,z18,z19,z20,z21,z22,z23,z24,z25,z26,z27,z28,z29,z30,z31,z32,z33,z34,z35,z36,z37,z38,z39,z40,z41,z42,z43,z44,z45,z46,z47,.int .u64 kd,z49,z50,z51,z52,z53,z54,z55,z56,z57,z58,z59,z60,z61,z62,z63,z64,z65,z66,z67,z68,z69,z70,z71,z72,z73,z74,z75,z76,z77,z78,z79,z80,z81,z82,z83,z84,z85,z86,z87,z88,z89,z90,z91,z92,z93,z94,z95,z96,z97,z98,z99,z100,z101,z102,z103,z104,z105,z106,z107,z108,z109,z110,z111,z112,z113,z114,z115,z116,z117,z118,z119,z120,z121,z122,z123,z124,z125,z126,z127,z128,z129,z130,z131,z132,z133,z134,z135,z136,z137,z138,z139,z140,z141,z142,z143,z144,z145,z146,z147,z148,z149,z150,z151,z152,z153,z154,z155,z156,z157,z158,z159,z160,z161,z162,z163,z164,z165,z166,z167,z168,z169,z170,z171,z172,z173,z174,z175,z176,z177,z178,z179,z180,z181,z182,z183,z184,z185,z186,z187,z188,z189,z190,z191,z192,z193,z194,z195,z196,z197,z198,z199,z200,z201,z202,z203,z204,z205,z206,z207,z208,z209,z210,z211,z212,z213,z214,z215,z216,z217,z218,z219,z220,z221,z222,z223,z224,z225,z226,z227,z228,z229,z230,z231,z232,z233,z234,z235,z236,z237,z238,z239,z240,z241,z242],[]⟩ w:=by
 have hS2:∀ u ∈ A.w,u.B.length=105∧IsB u.B:=by
  obtain ⟨x,y,qA,dA,vA,qB,dB,vB,hg,hA,hD,hXF,hU,hV⟩:=hS
  exact hU
 obtain ⟨hw1,hw2,-⟩:=hI.1.way _ (List.mem_of_getElem? hu)
 dsimp only at hw1 hw2
 have hI2:=((hI).acked hw1)
 replace hI2:=hide hI2
 have hpl:=ix_lt ix_ h0
 have huB:=(hS2 _ (List.mem_of_getElem? hu)).1
 dsimp only at huB
 have hmx:=hN.wa
 obtain ⟨x,y,qA,dA,vA,qB,dB,vB,hg,hA,hD,hXF,hU,hV⟩:=hS
 obtain ⟨wa,wc,hva,-⟩:=(hXF.own 2 _ rfl).lz
 dsimp only at hva
 subst hva
 obtain ⟨wn,hwn⟩:∃ n,n=(A.w.map unr).length:=⟨_,rfl⟩
 rw [← hwn] at hg hXF
 rw [List.length_map] at hwn
 have hXo:=hXF.old
 have hXG:Cgs g b w w:=⟨Cg.refl g b w,hb⟩
 have hne:g≠gt:=fun e=>by rw [e,hgt] at hg; cases hg
 replace hXF:=hide hXF; replace hA:=hide hA; replace hD:=hide hD; replace hU:=hide hU; replace hV:=hide hV; replace hI:=hide hI; replace hQ:=hide hQ; replace hN:=hide hN; replace hXG:=hide hXG; replace hQp:=hide hQp; replace hwn:=hide hwn
 conv=>arg 2; whnf
 go_upto_region 18 with fail
 have hB1:=(nilb w).add ⟨g,sg A.c x qA dA (.slice wa wn wc) B.c y qB dB vB,43⟩ hg (Nat.zero_le _) (by intro y hy; cases hy)
 have hB:=hB1.add ⟨gt,(cst ki ix_ rm false),45⟩ hgt (Nat.zero_le _) (by intro y hy; rw [List.nil_append,List.mem_singleton] at hy; rw [hy]; exact hne)
 simp only [List.nil_append,List.cons_append] at hB
 clear hB1 hg hgt hne
 obtain ⟨u0,hu_⟩:∃ u,u=w:=⟨_,rfl⟩
 have hB2:Bl (bare w) [⟨g,sg A.c x qA dA (.slice wa wn wc) B.c y qB dB vB,43⟩,⟨gt,(cst ki ix_ rm false),45⟩] u0:=hu_ ▸ hB
 replace hA:Hid (Co b u0 A.c x):=hu_ ▸ hA; replace hD:Hid (Co b u0 B.c y):=hu_ ▸ hD
 replace hXF:Hid (Fam b u0 (fam A B qA dA (.slice wa wn wc) qB dB vB)):=hu_ ▸ hXF
 replace hXG:Hid (Cgs g b w u0):=hu_ ▸ hXG
 clear hB
 have hB:=hB2
 clear hB2
 rw [← hu_]
 clear hu_
 refine wp_region_lit ?_
 refine list_val (.bool false) (by kernel_rfl) (eql_u _ (.tmp 48) (.const (.int .u64 0)) kd 0 false rfl (by kernel_rfl) rfl (decide_eq_false hd0)) ?_
 simp only [nrm]
 (refine wpList_step fun K hK=>?_; replace hK:=hide hK; go_simp; refine unhide hK _ _ ?_; clear hK K)
 refine wpList_nil ?_
 replace hB:=hide hB
 go_upto_region 29 with fail
 replace hB:=unhide hB
 refine wp_region_lit ?_
 refine list_val (.bool false) (by kernel_rfl) (eql_u _ (.tmp 48) (.const (.int .u64 1)) kd 1 false rfl (by kernel_rfl) rfl (decide_eq_false hd1)) ?_
 simp only [nrm]
 (refine wpList_step fun K hK=>?_; replace hK:=hide hK; go_simp; refine unhide hK _ _ ?_; clear hK K)
 refine wpList_nil ?_
 replace hB:=hide hB
 go_upto_region 10 with fail
 replace hB:=unhide hB
 refine wp_region_lit ?_
 refine lvk (.pointer (some ⟨g,0,none⟩)) ?_
 simp only [nrm]
 refine lvk (.pointer (some ⟨g,0,none⟩)) ?_
 simp only [nrm]
 refine lvk (.pointer (some ⟨g,7,none⟩)) ?_
 simp only [nrm]
 refine list_val (.slice wa wn wc) (by kernel_rfl) (exec_csU _ (.tmp 51) rfl (g) 7 (by kernel_rfl) wa wn wc (seg_cell (nS2  _ _ _ _ _ _ _ _ _ _ _ _ _ _ _ _) (hB.get 0 (x:=⟨g,sg A.c x qA dA (.slice wa wn wc) B.c y qB dB vB,43⟩) rfl) 7 (v:=.slice wa wn wc) rfl rfl)) ?_
 simp only [nrm]
 refine lvk (.int .i64 wn) ?_
 simp only [nrm]
 (refine wpList_step fun K hK=>?_; replace hK:=hide hK; go_simp; refine unhide hK _ _ ?_; clear hK K)
 refine wpList_nil ?_
 obtain ⟨m,hm⟩:∃ m,m=A.w.length:=⟨_,rfl⟩
 have hwm:wn=m:=by rw [unhide hwn,hm]
 rw [← hm] at hpl h0 hu hmx
 have hixe:=ix_eq ix_ h0
 obtain ⟨p,hp⟩:∃ p,p=ix ix_ m:=⟨_,rfl⟩
 rw [← hp] at hpl hu hixe
 replace hm:=hide hm; replace hp:=hide hp
 subst hwm
 obtain ⟨pa,oa,haa,hrr⟩:=un_at ((unhide hXF).own 2 _ rfl) p _ hu
 subst haa
 replace hrr:Rg _ _ _ _:=hrr
 replace hrr:=hide hrr; replace hu:=hide hu; replace hixe:=hide hixe
 replace hB:=hide hB
 go_upto_region 11 with fail
 replace hB:=unhide hB
 refine wp_region_lit ?_
 refine lvk (.int .i64 wn) ?_
 simp only [nrm]
 refine list_val (.bool true) (by kernel_rfl) (gtr_i _ (.tmp 54) (.const (.int .i64 0)) (wn:Int) 0 true rfl (by kernel_rfl) rfl (by simp; omega)) ?_
 simp only [nrm]
 refine wpList_nil ?_
 replace hB:=hide hB
 go_upto_region 12 with fail
 replace hB:=unhide hB
 refine anyC_start 13 (fun v_=>v_.heap[g]?=some (.cells (sg A.c x qA dA (.slice (some ⟨pa,oa,none⟩) wn wc) B.c y qB dB vB) 43 (0,0))∧v_.heap[gt]?=some (.cells ((cst ki ix_ rm false)) 45 (0,0))∧Rg v_ pa (oa+108 * p) (unr ⟨ua,us,uB,true⟩)) (by kernel_rfl) ?_
 replace hrr:=hide ((unhide hrr).gr ((Gr.refl u0).drew))
 replace hA:=hide ((unhide hA).gr ((Gr.refl u0).drew))
 replace hD:=hide ((unhide hD).gr ((Gr.refl u0).drew))
 replace hXF:=hide ((unhide hXF).gr ((Gr.refl u0).drew))
 replace hXG:=hide ((unhide hXG).gr ((Gr.refl u0).drew))
 replace hB:=hB.drew
 generalize World.drew _=u1 at *
 simp only [List.size_toArray,List.length_cons,List.length_nil,Array.replicate,List.replicate]
 refine anyC_take (i:=0) (v:=(.pointer (some ⟨g,0,none⟩))) (fun v_=>v_.heap[g]?=some (.cells (sg A.c x qA dA (.slice (some ⟨pa,oa,none⟩) wn wc) B.c y qB dB vB) 43 (0,0))∧v_.heap[gt]?=some (.cells ((cst ki ix_ rm false)) 45 (0,0))∧Rg v_ pa (oa+108 * p) (unr ⟨ua,us,uB,true⟩)) (fun _ h_=>h_) (.inr (by kernel_rfl)) rfl (by kernel_rfl) (by kernel_rfl) (by kernel_rfl) (by decide) (by kernel_rfl) (by decide) (fun c_ _ w_ h_=>unhide hQp c_ _ _ _ w_ h_) (.inl ⟨by kernel_rfl,fun x_ hu=>by kernel_rfl⟩) ⟨(hB.get 0 (x:=⟨g,sg A.c x qA dA (.slice (some ⟨pa,oa,none⟩) wn wc) B.c y qB dB vB,43⟩) rfl),(hB.get 1 (x:=⟨gt,(cst ki ix_ rm false),45⟩) rfl),(unhide hrr)⟩ ?_
 simp only [nrm]
 refine anyC_take (i:=1) (v:=(.pointer (some ⟨g,0,none⟩))) (fun v_=>v_.heap[g]?=some (.cells (sg A.c x qA dA (.slice (some ⟨pa,oa,none⟩) wn wc) B.c y qB dB vB) 43 (0,0))∧v_.heap[gt]?=some (.cells ((cst ki ix_ rm false)) 45 (0,0))∧Rg v_ pa (oa+108 * p) (unr ⟨ua,us,uB,true⟩)) (fun _ h_=>h_) (.inr (by kernel_rfl)) rfl (by kernel_rfl) (by kernel_rfl) (by kernel_rfl) (by decide) (by kernel_rfl) (by decide) (fun c_ _ w_ h_=>unhide hQp c_ _ _ _ w_ h_) (.inl ⟨by kernel_rfl,fun x_ hu=>by kernel_rfl⟩) ⟨(hB.get 0 (x:=⟨g,sg A.c x qA dA (.slice (some ⟨pa,oa,none⟩) wn wc) B.c y qB dB vB,43⟩) rfl),(hB.get 1 (x:=⟨gt,(cst ki ix_ rm false),45⟩) rfl),(unhide hrr)⟩ ?_
 simp only [nrm]
 refine anyC_take (i:=2) (v:=(.pointer (some ⟨g,7,none⟩))) (fun v_=>v_.heap[g]?=some (.cells (sg A.c x qA dA (.slice (some ⟨pa,oa,none⟩) wn wc) B.c y qB dB vB) 43 (0,0))∧v_.heap[gt]?=some (.cells ((cst ki ix_ rm false)) 45 (0,0))∧Rg v_ pa (oa+108 * p) (unr ⟨ua,us,uB,true⟩)) (fun _ h_=>h_) (.inr (by kernel_rfl)) rfl (by kernel_rfl) (by kernel_rfl) (by kernel_rfl) (by decide) (by kernel_rfl) (by decide) (fun c_ _ w_ h_=>unhide hQp c_ _ _ _ w_ h_) (.inl ⟨by kernel_rfl,fun x_ hu=>by kernel_rfl⟩) ⟨(hB.get 0 (x:=⟨g,sg A.c x qA dA (.slice (some ⟨pa,oa,none⟩) wn wc) B.c y qB dB vB,43⟩) rfl),(hB.get 1 (x:=⟨gt,(cst ki ix_ rm false),45⟩) rfl),(unhide hrr)⟩ ?_
 simp only [nrm]
 refine anyC_take (i:=3) (v:=(.slice (some ⟨pa,oa,none⟩) wn wc)) (fun v_=>v_.heap[g]?=some (.cells (sg A.c x qA dA (.slice (some ⟨pa,oa,none⟩) wn wc) B.c y qB dB vB) 43 (0,0))∧v_.heap[gt]?=some (.cells ((cst ki ix_ rm false)) 45 (0,0))∧Rg v_ pa (oa+108 * p) (unr ⟨ua,us,uB,true⟩)) (fun _ h_=>h_) (.inr (by kernel_rfl)) rfl (by kernel_rfl) (by kernel_rfl) (by kernel_rfl) (by decide) (by kernel_rfl) (by decide) (fun c_ _ w_ h_=>unhide hQp c_ _ _ _ w_ h_) (.inl ⟨by kernel_rfl,fun x_ hu=>exec_csU _ (.tmp 58) rfl (g) 7 (by kernel_rfl) (some ⟨pa,oa,none⟩) wn wc (seg_cell (nS2  _ _ _ _ _ _ _ _ _ _ _ _ _ _ _ _) hu.1 7 (v:=.slice (some ⟨pa,oa,none⟩) wn wc) rfl rfl)⟩) ⟨(hB.get 0 (x:=⟨g,sg A.c x qA dA (.slice (some ⟨pa,oa,none⟩) wn wc) B.c y qB dB vB,43⟩) rfl),(hB.get 1 (x:=⟨gt,(cst ki ix_ rm false),45⟩) rfl),(unhide hrr)⟩ ?_
 simp only [nrm]
 refine anyC_take (i:=4) (v:=(.pointer (some ⟨gt,1,none⟩))) (fun v_=>v_.heap[g]?=some (.cells (sg A.c x qA dA (.slice (some ⟨pa,oa,none⟩) wn wc) B.c y qB dB vB) 43 (0,0))∧v_.heap[gt]?=some (.cells ((cst ki ix_ rm false)) 45 (0,0))∧Rg v_ pa (oa+108 * p) (unr ⟨ua,us,uB,true⟩)) (fun _ h_=>h_) (.inr (by kernel_rfl)) rfl (by kernel_rfl) (by kernel_rfl) (by kernel_rfl) (by decide) (by kernel_rfl) (by decide) (fun c_ _ w_ h_=>unhide hQp c_ _ _ _ w_ h_) (.inl ⟨by kernel_rfl,fun x_ hu=>by kernel_rfl⟩) ⟨(hB.get 0 (x:=⟨g,sg A.c x qA dA (.slice (some ⟨pa,oa,none⟩) wn wc) B.c y qB dB vB,43⟩) rfl),(hB.get 1 (x:=⟨gt,(cst ki ix_ rm false),45⟩) rfl),(unhide hrr)⟩ ?_
 simp only [nrm]
 refine anyC_take (i:=5) (v:=(.int .i64 ix_)) (fun v_=>v_.heap[g]?=some (.cells (sg A.c x qA dA (.slice (some ⟨pa,oa,none⟩) wn wc) B.c y qB dB vB) 43 (0,0))∧v_.heap[gt]?=some (.cells ((cst ki ix_ rm false)) 45 (0,0))∧Rg v_ pa (oa+108 * p) (unr ⟨ua,us,uB,true⟩)) (fun _ h_=>h_) (.inr (by kernel_rfl)) rfl (by kernel_rfl) (by kernel_rfl) (by kernel_rfl) (by decide) (by kernel_rfl) (by decide) (fun c_ _ w_ h_=>unhide hQp c_ _ _ _ w_ h_) (.inl ⟨by kernel_rfl,fun x_ hu=>exec_ci _ (.tmp 60) rfl (gt) 1 (by kernel_rfl) ix_ (seg_cell (nST  _ _ _ _) hu.2.1 1 (v:=.int .i64 ix_) rfl rfl)⟩) ⟨(hB.get 0 (x:=⟨g,sg A.c x qA dA (.slice (some ⟨pa,oa,none⟩) wn wc) B.c y qB dB vB,43⟩) rfl),(hB.get 1 (x:=⟨gt,(cst ki ix_ rm false),45⟩) rfl),(unhide hrr)⟩ ?_
 simp only [nrm]
 refine anyC_take (i:=6) (v:=(.int .u64 (ix_ % 18446744073709551616))) (fun v_=>v_.heap[g]?=some (.cells (sg A.c x qA dA (.slice (some ⟨pa,oa,none⟩) wn wc) B.c y qB dB vB) 43 (0,0))∧v_.heap[gt]?=some (.cells ((cst ki ix_ rm false)) 45 (0,0))∧Rg v_ pa (oa+108 * p) (unr ⟨ua,us,uB,true⟩)) (fun _ h_=>h_) (.inr (by kernel_rfl)) rfl (by kernel_rfl) (by kernel_rfl) (by kernel_rfl) (by decide) (by kernel_rfl) (by decide) (fun c_ _ w_ h_=>unhide hQp c_ _ _ _ w_ h_) (.inl ⟨by kernel_rfl,fun x_ hu=>conv_iuW _ (.tmp 61) ix_ rfl (by kernel_rfl) _ rfl⟩) ⟨(hB.get 0 (x:=⟨g,sg A.c x qA dA (.slice (some ⟨pa,oa,none⟩) wn wc) B.c y qB dB vB,43⟩) rfl),(hB.get 1 (x:=⟨gt,(cst ki ix_ rm false),45⟩) rfl),(unhide hrr)⟩ ?_
 simp only [nrm]
 refine anyC_take (i:=7) (v:=(.int .i64 wn)) (fun v_=>v_.heap[g]?=some (.cells (sg A.c x qA dA (.slice (some ⟨pa,oa,none⟩) wn wc) B.c y qB dB vB) 43 (0,0))∧v_.heap[gt]?=some (.cells ((cst ki ix_ rm false)) 45 (0,0))∧Rg v_ pa (oa+108 * p) (unr ⟨ua,us,uB,true⟩)) (fun _ h_=>h_) (.inr (by kernel_rfl)) rfl (by kernel_rfl) (by kernel_rfl) (by kernel_rfl) (by decide) (by kernel_rfl) (by decide) (fun c_ _ w_ h_=>unhide hQp c_ _ _ _ w_ h_) (.inl ⟨by kernel_rfl,fun x_ hu=>by kernel_rfl⟩) ⟨(hB.get 0 (x:=⟨g,sg A.c x qA dA (.slice (some ⟨pa,oa,none⟩) wn wc) B.c y qB dB vB,43⟩) rfl),(hB.get 1 (x:=⟨gt,(cst ki ix_ rm false),45⟩) rfl),(unhide hrr)⟩ ?_
 simp only [nrm]
 refine anyC_take (i:=8) (v:=(.int .u64 (wn:Int))) (fun v_=>v_.heap[g]?=some (.cells (sg A.c x qA dA (.slice (some ⟨pa,oa,none⟩) wn wc) B.c y qB dB vB) 43 (0,0))∧v_.heap[gt]?=some (.cells ((cst ki ix_ rm false)) 45 (0,0))∧Rg v_ pa (oa+108 * p) (unr ⟨ua,us,uB,true⟩)) (fun _ h_=>h_) (.inr (by kernel_rfl)) rfl (by kernel_rfl) (by kernel_rfl) (by kernel_rfl) (by decide) (by kernel_rfl) (by decide) (fun c_ _ w_ h_=>unhide hQp c_ _ _ _ w_ h_) (.inl ⟨by kernel_rfl,fun x_ hu=>conv_iuW _ (.tmp 63) (wn:Int) rfl (by kernel_rfl) _ (by omega)⟩) ⟨(hB.get 0 (x:=⟨g,sg A.c x qA dA (.slice (some ⟨pa,oa,none⟩) wn wc) B.c y qB dB vB,43⟩) rfl),(hB.get 1 (x:=⟨gt,(cst ki ix_ rm false),45⟩) rfl),(unhide hrr)⟩ ?_
 simp only [nrm]
 refine anyC_take (i:=9) (v:=(.int .u64 (p:Int))) (fun v_=>v_.heap[g]?=some (.cells (sg A.c x qA dA (.slice (some ⟨pa,oa,none⟩) wn wc) B.c y qB dB vB) 43 (0,0))∧v_.heap[gt]?=some (.cells ((cst ki ix_ rm false)) 45 (0,0))∧Rg v_ pa (oa+108 * p) (unr ⟨ua,us,uB,true⟩)) (fun _ h_=>h_) (.inr (by kernel_rfl)) rfl (by kernel_rfl) (by kernel_rfl) (by kernel_rfl) (by decide) (by kernel_rfl) (by decide) (fun c_ _ w_ h_=>unhide hQp c_ _ _ _ w_ h_) (.inl ⟨by kernel_rfl,fun x_ hu=>rem_u _ (.tmp 62) (.tmp 64) (ix_ % 18446744073709551616) (wn:Int) rfl (by kernel_rfl) (by kernel_rfl) (Int.emod_nonneg _ (by decide)) (by omega) (by omega) _ (unhide hixe)⟩) ⟨(hB.get 0 (x:=⟨g,sg A.c x qA dA (.slice (some ⟨pa,oa,none⟩) wn wc) B.c y qB dB vB,43⟩) rfl),(hB.get 1 (x:=⟨gt,(cst ki ix_ rm false),45⟩) rfl),(unhide hrr)⟩ ?_
 simp only [nrm]
 refine anyC_take (i:=10) (v:=(.pointer (some ⟨pa,oa+108 * p,none⟩))) (fun v_=>v_.heap[g]?=some (.cells (sg A.c x qA dA (.slice (some ⟨pa,oa,none⟩) wn wc) B.c y qB dB vB) 43 (0,0))∧v_.heap[gt]?=some (.cells ((cst ki ix_ rm false)) 45 (0,0))∧Rg v_ pa (oa+108 * p) (unr ⟨ua,us,uB,true⟩)) (fun _ h_=>h_) (.inr (by kernel_rfl)) rfl (by kernel_rfl) (by kernel_rfl) (by kernel_rfl) (by decide) (by kernel_rfl) (by decide) (fun c_ _ w_ h_=>unhide hQp c_ _ _ _ w_ h_) (.inl ⟨by kernel_rfl,fun x_ hu=>exec_isU _ (.tmp 59) (.tmp 65) rfl pa oa wn wc p (by kernel_rfl) (by kernel_rfl) hpl⟩) ⟨(hB.get 0 (x:=⟨g,sg A.c x qA dA (.slice (some ⟨pa,oa,none⟩) wn wc) B.c y qB dB vB,43⟩) rfl),(hB.get 1 (x:=⟨gt,(cst ki ix_ rm false),45⟩) rfl),(unhide hrr)⟩ ?_
 simp only [nrm]
 refine anyC_take (i:=11) (v:=(.agg (fl [[.int .u32 ua],[.int .u32 us],bw uB,[.bool true]]))) (fun v_=>v_.heap[g]?=some (.cells (sg A.c x qA dA (.slice (some ⟨pa,oa,none⟩) wn wc) B.c y qB dB vB) 43 (0,0))∧v_.heap[gt]?=some (.cells ((cst ki ix_ rm false)) 45 (0,0))∧Rg v_ pa (oa+108 * p) (unr ⟨ua,us,uB,true⟩)) (fun _ h_=>h_) (.inr (by kernel_rfl)) rfl (by kernel_rfl) (by kernel_rfl) (by kernel_rfl) (by decide) (by kernel_rfl) (by decide) (fun c_ _ w_ h_=>unhide hQp c_ _ _ _ w_ h_) (.inl ⟨by kernel_rfl,fun x_ hu=>exec_lU _ (.tmp 66) rfl pa (oa+108 * p) (by kernel_rfl) ⟨ua,us,uB,true⟩ huB hu.2.2⟩) ⟨(hB.get 0 (x:=⟨g,sg A.c x qA dA (.slice (some ⟨pa,oa,none⟩) wn wc) B.c y qB dB vB,43⟩) rfl),(hB.get 1 (x:=⟨gt,(cst ki ix_ rm false),45⟩) rfl),(unhide hrr)⟩ ?_
 simp only [nrm]
 refine anyC_one (i:=12) (by kernel_rfl) rfl (fun K hK=>?_)
 refine step_val (.pointer (some ⟨u1.heap.size,0,none⟩)) (u1.alloc (.cells (cu0) 53 (0,0))) (by kernel_rfl) (by kernel_rfl) ?_
 replace hB:=hB.new (cu0) 53
 simp only [List.nil_append,List.cons_append] at hB
 have hg:=(Gr.refl u1).alloc (.cells (cu0) 53 (0,0))
 have hgl14:=(unhide hXG).size
 replace hrr:=hide ((unhide hrr).gr hg)
 replace hA:=hide ((unhide hA).gr hg)
 replace hD:=hide ((unhide hD).gr hg)
 replace hXF:=hide ((unhide hXF).gr hg)
 replace hXG:=hide ((unhide hXG).gr hg)
 clear hg
 generalize World.alloc _ _=u2 at *
 generalize u1.heap.size=g14 at *
 refine hK.out _ _ ⟨(hB.get 0 (x:=⟨g,sg A.c x qA dA (.slice (some ⟨pa,oa,none⟩) wn wc) B.c y qB dB vB,43⟩) rfl),(hB.get 1 (x:=⟨gt,(cst ki ix_ rm false),45⟩) rfl),(unhide hrr)⟩ (fun _=>?_)
 clear hK K
 simp only [nrm]
 refine anyC_last (by kernel_rfl) rfl (fun K hK=>?_)
 have hzz_:Hid (u2.heap[g14]?=some (.cells (cu0) 53 (0,0))):=hide (hB.get 2 (x:=⟨g14,cu0,53⟩) rfl)
 refine step_all 53 (.tmp 14) (.tmp 67) (g14) (S2:=[[.int .u32 ua],[.int .u32 us],bw uB,[.bool true]]) (by kernel_rfl) rfl (by kernel_rfl) (by kernel_rfl) hB 2 rfl ND (nD Z105_len _ _ _) (nD huB _ _ _) (by kernel_rfl) (oD _ rfl rfl rfl) ?_
 intro u3 hB_ hbt_
 clear hB
 replace hB:Bl (bare w) [⟨g,sg A.c x qA dA (.slice (some ⟨pa,oa,none⟩) wn wc) B.c y qB dB vB,43⟩,⟨gt,(cst ki ix_ rm false),45⟩,⟨g14,fl [[.int .u32 ua],[.int .u32 us],bw uB,[.bool true]],53⟩] u3:=hB_
 clear hB_
 replace hA:=hide ((unhide hA).bz (unhide hzz_) hbt_)
 replace hD:=hide ((unhide hD).bz (unhide hzz_) hbt_)
 replace hXF:=hide ((unhide hXF).bo (unhide hzz_) hbt_ hXo hgl14)
 replace hXG:=hide ((unhide hXG).bl (unhide hzz_) hbt_ hgl14)
 clear hbt_ hzz_
 refine hK.out _ _ ?_
 clear hK K
 simp only [nrm]
 refine any_done (by kernel_rfl) ?_
 replace hB:=hide hB
 go_upto_region 13 with fail
 replace hB:=unhide hB
 refine wp_region_lit ?_
 refine lvk (.pointer (some ⟨gt,3,none⟩)) ?_
 simp only [nrm]
 refine list_val (.bool false) (by kernel_rfl) (exec_cb _ (.tmp 68) rfl (gt) 3 (by kernel_rfl) false (seg_cell (nST  _ _ _ _) (hB.get 1 (x:=⟨gt,(cst ki ix_ rm false),45⟩) rfl) 3 (v:=.bool false) rfl rfl)) ?_
 simp only [nrm]
 refine wpList_nil ?_
 replace hB:=hide hB
 go_upto_region 16 with fail
 replace hB:=unhide hB
 refine wp_region_lit ?_
 refine lvk (.pointer (some ⟨g,8,none⟩)) ?_
 simp only [nrm]
 refine list_val (.agg (fl [[.int .u32 ua],[.int .u32 us],bw uB,[.bool true]])) (by kernel_rfl) (exec_sw _ 53 (.tmp 14) rfl (g14) (by kernel_rfl) (hB.get 2 (x:=⟨g14,fl [[.int .u32 ua],[.int .u32 us],bw uB,[.bool true]],53⟩) rfl) ND (nD huB _ _ _) Try.underlying53 rfl (by kernel_rfl)) ?_
 simp only [nrm]
 refine lvk (.pointer (some ⟨gt,2,none⟩)) ?_
 simp only [nrm]
 refine list_val (.int .i64 rm) (by kernel_rfl) (exec_ci _ (.tmp 98) rfl (gt) 2 (by kernel_rfl) rm (seg_cell (nST  _ _ _ _) (hB.get 1 (x:=⟨gt,(cst ki ix_ rm false),45⟩) rfl) 2 (v:=.int .i64 rm) rfl rfl)) ?_
 simp only [nrm]
 have hS1:St b u3 g A B:=⟨x,y,qA,dA,(.slice (some ⟨pa,oa,none⟩) wn wc),qB,dB,vB,hB.get 0 (x:=⟨g,sg A.c x qA dA (.slice (some ⟨pa,oa,none⟩) wn wc) B.c y qB dB vB,43⟩) rfl,unhide hA,unhide hD,unhide hXF,unhide hU,unhide hV⟩
 refine list_call 13 #[.pointer (some ⟨g,8,none⟩),.agg (fl [[.int .u32 ua],[.int .u32 us],bw uB,[.bool true]]),.int .i64 rm] (by kernel_rfl) (by kernel_rfl) ((shear_idle1 b g A B ua us rm uB u3 (Nat.le_trans hb (unhide hXG).size) hbg hS1 (unhide hI) hw1 hw2 huB).mono ?_)
 rintro r_ w1 ⟨rfl,hS3,hG3⟩
 refine ⟨_,rfl,?_⟩
 have hG:=(unhide hXG).cg.trans hG3
 clear hB
 have hB:=nilb w1
 simp only [nrm]
 refine lvk (.bool false) ?_
 simp only [nrm]
 refine wpList_nil ?_
 go_wp2_with fail
 exact unhide hQ _ _ _ _ _ _ _ _ _ _ _ _ _ _ _ _ _ _ _ _ _ _ _ _ _ _ _ _ _ _ _ _ _ _ _ _ _ _ _ _ _ _ _ _ _ _ _ _ _ _ _ _ _ _ _ _ _ _ _ _ _ _ _ _ _ _ _ _ _ _ _ _ _ _ _ _ _ _ _ _ _ _ _ _ _ _ _ _ _ _ _ _ _ _ _ _ _ _ _ _ _ _ _ _ _ _ _ _ _ _ _ _ _ _ _ _ _ _ _ _ _ _ _ _ _ _ _ _ _ _ _ _ _ _ _ _ _ _ _ _ _ _ _ _ _ _ _ hS3 (unhide hI2) hG ⟨Nat.le_succ_of_le (unhide hN).qa,Nat.le_succ_of_le (unhide hN).qb,Nat.le_succ_of_le (unhide hN).wa,Nat.le_succ_of_le (unhide hN).wb⟩
set_option maxHeartbeats 4000000 in
theorem br_unw0 (b g gt n:Nat) (ki ix_ rm kd:Int) (A B:Sd) (w:World) (z0 z1 z2 z4 z8 z9 z10 z11 z12 z13 z14 z15 z16 z17 z18 z19 z20 z21 z22 z23 z24 z25 z26 z27 z28 z29 z30 z31 z32 z33 z34 z35 z36 z37 z38 z39 z40 z41 z42 z43 z44 z45 z46 z47 z49 z50 z51 z52 z53 z54 z55 z56 z57 z58 z59 z60 z61 z62 z63 z64 z65 z66 z67 z68 z69 z70 z71 z72 z73 z74 z75 z76 z77 z78 z79 z80 z81 z82 z83 z84 z85 z86 z87 z88 z89 z90 z91 z92 z93 z94 z95 z96 z97 z98 z99 z100 z101 z102 z103 z104 z105 z106 z107 z108 z109 z110 z111 z112 z113 z114 z115 z116 z117 z118 z119 z120 z121 z122 z123 z124 z125 z126 z127 z128 z129 z130 z131 z132 z133 z134 z135 z136 z137 z138 z139 z140 z141 z142 z143 z144 z145 z146 z147 z148 z149 z150 z151 z152 z153 z154 z155 z156 z157 z158 z159 z160 z161 z162 z163 z164 z165 z166 z167 z168 z169 z170 z171 z172 z173 z174 z175 z176 z177 z178 z179 z180 z181 z182 z183 z184 z185 z186 z187 z188 z189 z190 z191 z192 z193 z194 z195 z196 z197 z198 z199 z200 z201 z202 z203 z204 z205 z206 z207 z208 z209 z210 z211 z212 z213 z214 z215 z216 z217 z218 z219 z220 z221 z222 z223 z224 z225 z226 z227 z228 z229 z230 z231 z232 z233 z234 z235 z236 z237 z238 z239 z240 z241 z242:Value) (Q:Exit→Act→World→Prop) (hb:b≤w.heap.size) (hbg:b≤g) (hS:St b w g A B) (hI:Inv A B) (hN:Bd n A B) (hn:n≤400) (hgt:w.heap[gt]?=some (.cells ((cst ki ix_ rm false)) 45 (0,0))) (hQp:∀ c a (d:Nat) v w,Q (.panic c) (Act.put a (some d) v) w→Q (.panic c) a w) (hd0:kd≠0) (hd1:kd≠1) (ua us:Int) (uB:List Int) (h0:0<A.w.length) (hu:A.w[ix ix_ A.w.length]?=some ⟨ua,us,uB,false⟩) (hwt:wt (ak B.c ua).1 us rm=false) (hQ:∀ u2 u8 u9 u10 u11 u12 u13 u14 u15 u49 u50 u51 u52 u53 u54 u55 u56 u57 u58 u59 u60 u61 u62 u63 u64 u65 u66 u67 u68 u69 u70 u71 u72 u73 u74 u75 u76 u77 u78 u79 u80 u81 u82 u83 u84 u85 u86 u87 u88 u89 u90 u91 u92 u93 u94 u95 u96 u97 u98 u99 u100 u101 u102 u103 u104 u105 u106 u107 u108 u109 u110 u111 u112 u113 u114 u115 u116 u117 u118 u119 u120 u121 u122 u123 u124 u125 u126 u127 u128 u129 u130 u131 u132 u133 u134 u135 u136 u137 u138 u139 u140 u141 u142 u143 u144 u145 u146 u147 u148 u149 u150 u151 u152 u153 u154 u155 u156 u157 u158 u159 u160 u161 u162 u163 u164 u165 u166 u167 u168 u169 u170 u171 u172 u173 u174 u175 u176 u177 u178 u179 u180 u181 u182 u183:Value,∀ (A' B':Sd) (w':World),St b w' g A' B'→Inv A' B'→Cg g b w w'→Bd (n+1) A' B'→Q .normal ⟨#[z0,z1,u2,.pointer (some ⟨g,0,none⟩),z4,.pointer (some ⟨gt,0,none⟩),.pointer (some ⟨g,0,none⟩),.pointer (some ⟨g,8,none⟩),u8,u9,u10,u11,u12,u13,u14,u15,z16,z17,z18,z19,z20,z21,z22,z23,z24,z25,z26,z27,z28,z29,z30,z31,z32,z33,z34,z35,z36,z37,z38,z39,z40,z41,z42,z43,z44,z45,z46,z47,.int .u64 kd,u49,u50,u51,u52,u53,u54,u55,u56,u57,u58,u59,u60,u61,u62,u63,u64,u65,u66,u67,u68,u69,u70,u71,u72,u73,u74,u75,u76,u77,u78,u79,u80,u81,u82,u83,u84,u85,u86,u87,u88,u89,u90,u91,u92,u93,u94,u95,u96,u97,u98,u99,u100,u101,u102,u103,u104,u105,u106,u107,u108,u109,u110,u111,u112,u113,u114,u115,u116,u117,u118,u119,u120,u121,u122,u123,u124,u125,u126,u127,u128,u129,u130,u131,u132,u133,u134,u135,u136,u137,u138,u139,u140,u141,u142,u143,u144,u145,u146,u147,u148,u149,u150,u151,u152,u153,u154,u155,u156,u157,u158,u159,u160,u161,u162,u163,u164,u165,u166,u167,u168,u169,u170,u171,u172,u173,u174,u175,u176,u177,u178,u179,u180,u181,u182,u183,z184,z185,z186,z187,z188,z189,z190,z191,z192,z193,z194,z195,z196,z197,z198,z199,z200,z201,z202,z203,z204,z205,z206,z207,z208,z209,z210,z211,z212,z213,z214,z215,z216,z217,z218,z219,z220,z221,z222,z223,z224,z225,z226,z227,z228,z229,z230,z231,z232,z233,z234,z235,z236,z237,z238,z239,z240,z241,z242],[]⟩ w'):Code.wp Try.prog oSwitch Q ⟨#[z0,z1,z2,.pointer (some ⟨g,0,none⟩),z4,.pointer (some ⟨gt,0,none⟩),.pointer (some ⟨g,0,none⟩),.pointer (some ⟨g,8,none⟩),z8,z9,z10,z11,z12,z13,z14,z15,z16,z17,z18,z19,z20,z21,z22,z23,z24,z25,z26,z27,z28,z29,z30,z31,z32,z33,z34,z35,z36,z37,z38,z39,z40,z41,z42,z43,z44,z45,z46,z47,.int .u64 kd,z49,z50,z51,z52,z53,z54,z55,z56,z57,z58,z59,z60,z61,z62,z63,z64,z65,z66,z67,z68,z69,z70,z71,z72,z73,z74,z75,z76,z77,z78,z79,z80,z81,z82,z83,z84,z85,z86,z87,z88,z89,z90,z91,z92,z93,z94,z95,z96,z97,z98,z99,z100,z101,z102,z103,z104,z105,z106,z107,z108,z109,z110,z111,z112,z113,z114,z115,z116,z117,z118,z119,z120,z121,z122,z123,z124,z125,z126,z127,z128,z129,z130,z131,z132,z133,z134,z135,z136,z137,z138,z139,z140,z141,z142,z143,z144,z145,z146,z147,z148,z149,z150,z151,z152,z153,z154,z155,z156,z157,z158,z159,z160,z161,z162,z163,z164,z165,z166,z167,z168,z169,z170,z171,z172,z173,z174,z175,z176,z177,z178,z179,z180,z181,z182,z183,z184,z185,z186,z187,z188,z189,z190,z191,z192,z193,z194,z195,z196,z197,z198,z199,z200,z201,z202,z203,z204,z205,z206,z207,z208,z209,z210,z211,z212,z213,z214,z215,z216,z217,z218,z219,z220,z221,z222,z223,z224,z225,z226,z227,z228,z229,z230,z231,z232,z233,z234,z235,z236,z237,z238,z239,z240,z241,z242],[]⟩ w:=by
 have hS2:∀ u ∈ A.w,u.B.length=105∧IsB u.B:=by
  obtain ⟨x,y,qA,dA,vA,qB,dB,vB,hg,hA,hD,hXF,hU,hV⟩:=hS
  exact hU
 obtain ⟨hw1,hw2,-⟩:=hI.1.way _ (List.mem_of_getElem? hu)
 dsimp only at hw1 hw2
 have hI2:=((hI).acked hw1)
 replace hI2:=hide hI2
 have hpl:=ix_lt ix_ h0
 have huB:=(hS2 _ (List.mem_of_getElem? hu)).1
 dsimp only at huB
 have hmx:=hN.wa
 obtain ⟨x,y,qA,dA,vA,qB,dB,vB,hg,hA,hD,hXF,hU,hV⟩:=hS
 obtain ⟨wa,wc,hva,-⟩:=(hXF.own 2 _ rfl).lz
 dsimp only at hva
 subst hva
 obtain ⟨wn,hwn⟩:∃ n,n=(A.w.map unr).length:=⟨_,rfl⟩
 rw [← hwn] at hg hXF
 rw [List.length_map] at hwn
 have hXo:=hXF.old
 have hXG:Cgs g b w w:=⟨Cg.refl g b w,hb⟩
 have hne:g≠gt:=fun e=>by rw [e,hgt] at hg; cases hg
 replace hXF:=hide hXF; replace hA:=hide hA; replace hD:=hide hD; replace hU:=hide hU; replace hV:=hide hV; replace hI:=hide hI; replace hQ:=hide hQ; replace hN:=hide hN; replace hXG:=hide hXG; replace hQp:=hide hQp; replace hwn:=hide hwn
 conv=>arg 2; whnf
 go_upto_region 18 with fail
 have hB1:=(nilb w).add ⟨g,sg A.c x qA dA (.slice wa wn wc) B.c y qB dB vB,43⟩ hg (Nat.zero_le _) (by intro y hy; cases hy)
 have hB:=hB1.add ⟨gt,(cst ki ix_ rm false),45⟩ hgt (Nat.zero_le _) (by intro y hy; rw [List.nil_append,List.mem_singleton] at hy; rw [hy]; exact hne)
 simp only [List.nil_append,List.cons_append] at hB
 clear hB1 hg hgt hne
 obtain ⟨u0,hu_⟩:∃ u,u=w:=⟨_,rfl⟩
 have hB2:Bl (bare w) [⟨g,sg A.c x qA dA (.slice wa wn wc) B.c y qB dB vB,43⟩,⟨gt,(cst ki ix_ rm false),45⟩] u0:=hu_ ▸ hB
 replace hA:Hid (Co b u0 A.c x):=hu_ ▸ hA; replace hD:Hid (Co b u0 B.c y):=hu_ ▸ hD
 replace hXF:Hid (Fam b u0 (fam A B qA dA (.slice wa wn wc) qB dB vB)):=hu_ ▸ hXF
 replace hXG:Hid (Cgs g b w u0):=hu_ ▸ hXG
 clear hB
 have hB:=hB2
 clear hB2
 rw [← hu_]
 clear hu_
 refine wp_region_lit ?_
 refine list_val (.bool false) (by kernel_rfl) (eql_u _ (.tmp 48) (.const (.int .u64 0)) kd 0 false rfl (by kernel_rfl) rfl (decide_eq_false hd0)) ?_
 simp only [nrm]
 (refine wpList_step fun K hK=>?_; replace hK:=hide hK; go_simp; refine unhide hK _ _ ?_; clear hK K)
 refine wpList_nil ?_
 replace hB:=hide hB
 go_upto_region 29 with fail
 replace hB:=unhide hB
 refine wp_region_lit ?_
 refine list_val (.bool false) (by kernel_rfl) (eql_u _ (.tmp 48) (.const (.int .u64 1)) kd 1 false rfl (by kernel_rfl) rfl (decide_eq_false hd1)) ?_
 simp only [nrm]
 (refine wpList_step fun K hK=>?_; replace hK:=hide hK; go_simp; refine unhide hK _ _ ?_; clear hK K)
 refine wpList_nil ?_
 replace hB:=hide hB
 go_upto_region 10 with fail
 replace hB:=unhide hB
 refine wp_region_lit ?_
 refine lvk (.pointer (some ⟨g,0,none⟩)) ?_
 simp only [nrm]
 refine lvk (.pointer (some ⟨g,0,none⟩)) ?_
 simp only [nrm]
 refine lvk (.pointer (some ⟨g,7,none⟩)) ?_
 simp only [nrm]
 refine list_val (.slice wa wn wc) (by kernel_rfl) (exec_csU _ (.tmp 51) rfl (g) 7 (by kernel_rfl) wa wn wc (seg_cell (nS2  _ _ _ _ _ _ _ _ _ _ _ _ _ _ _ _) (hB.get 0 (x:=⟨g,sg A.c x qA dA (.slice wa wn wc) B.c y qB dB vB,43⟩) rfl) 7 (v:=.slice wa wn wc) rfl rfl)) ?_
 simp only [nrm]
 refine lvk (.int .i64 wn) ?_
 simp only [nrm]
 (refine wpList_step fun K hK=>?_; replace hK:=hide hK; go_simp; refine unhide hK _ _ ?_; clear hK K)
 refine wpList_nil ?_
 obtain ⟨m,hm⟩:∃ m,m=A.w.length:=⟨_,rfl⟩
 have hwm:wn=m:=by rw [unhide hwn,hm]
 rw [← hm] at hpl h0 hu hmx
 have hixe:=ix_eq ix_ h0
 obtain ⟨p,hp⟩:∃ p,p=ix ix_ m:=⟨_,rfl⟩
 rw [← hp] at hpl hu hixe
 replace hm:=hide hm; replace hp:=hide hp
 subst hwm
 obtain ⟨pa,oa,haa,hrr⟩:=un_at ((unhide hXF).own 2 _ rfl) p _ hu
 subst haa
 replace hrr:Rg _ _ _ _:=hrr
 replace hrr:=hide hrr; replace hu:=hide hu; replace hixe:=hide hixe
 replace hB:=hide hB
 go_upto_region 11 with fail
 replace hB:=unhide hB
 refine wp_region_lit ?_
 refine lvk (.int .i64 wn) ?_
 simp only [nrm]
 refine list_val (.bool true) (by kernel_rfl) (gtr_i _ (.tmp 54) (.const (.int .i64 0)) (wn:Int) 0 true rfl (by kernel_rfl) rfl (by simp; omega)) ?_
 simp only [nrm]
 refine wpList_nil ?_
 replace hB:=hide hB
 go_upto_region 12 with fail
 replace hB:=unhide hB
 refine anyC_start 13 (fun v_=>v_.heap[g]?=some (.cells (sg A.c x qA dA (.slice (some ⟨pa,oa,none⟩) wn wc) B.c y qB dB vB) 43 (0,0))∧v_.heap[gt]?=some (.cells ((cst ki ix_ rm false)) 45 (0,0))∧Rg v_ pa (oa+108 * p) (unr ⟨ua,us,uB,false⟩)) (by kernel_rfl) ?_
 replace hrr:=hide ((unhide hrr).gr ((Gr.refl u0).drew))
 replace hA:=hide ((unhide hA).gr ((Gr.refl u0).drew))
 replace hD:=hide ((unhide hD).gr ((Gr.refl u0).drew))
 replace hXF:=hide ((unhide hXF).gr ((Gr.refl u0).drew))
 replace hXG:=hide ((unhide hXG).gr ((Gr.refl u0).drew))
 replace hB:=hB.drew
 generalize World.drew _=u1 at *
 simp only [List.size_toArray,List.length_cons,List.length_nil,Array.replicate,List.replicate]
 refine anyC_take (i:=0) (v:=(.pointer (some ⟨g,0,none⟩))) (fun v_=>v_.heap[g]?=some (.cells (sg A.c x qA dA (.slice (some ⟨pa,oa,none⟩) wn wc) B.c y qB dB vB) 43 (0,0))∧v_.heap[gt]?=some (.cells ((cst ki ix_ rm false)) 45 (0,0))∧Rg v_ pa (oa+108 * p) (unr ⟨ua,us,uB,false⟩)) (fun _ h_=>h_) (.inr (by kernel_rfl)) rfl (by kernel_rfl) (by kernel_rfl) (by kernel_rfl) (by decide) (by kernel_rfl) (by decide) (fun c_ _ w_ h_=>unhide hQp c_ _ _ _ w_ h_) (.inl ⟨by kernel_rfl,fun x_ hu=>by kernel_rfl⟩) ⟨(hB.get 0 (x:=⟨g,sg A.c x qA dA (.slice (some ⟨pa,oa,none⟩) wn wc) B.c y qB dB vB,43⟩) rfl),(hB.get 1 (x:=⟨gt,(cst ki ix_ rm false),45⟩) rfl),(unhide hrr)⟩ ?_
 simp only [nrm]
 refine anyC_take (i:=1) (v:=(.pointer (some ⟨g,0,none⟩))) (fun v_=>v_.heap[g]?=some (.cells (sg A.c x qA dA (.slice (some ⟨pa,oa,none⟩) wn wc) B.c y qB dB vB) 43 (0,0))∧v_.heap[gt]?=some (.cells ((cst ki ix_ rm false)) 45 (0,0))∧Rg v_ pa (oa+108 * p) (unr ⟨ua,us,uB,false⟩)) (fun _ h_=>h_) (.inr (by kernel_rfl)) rfl (by kernel_rfl) (by kernel_rfl) (by kernel_rfl) (by decide) (by kernel_rfl) (by decide) (fun c_ _ w_ h_=>unhide hQp c_ _ _ _ w_ h_) (.inl ⟨by kernel_rfl,fun x_ hu=>by kernel_rfl⟩) ⟨(hB.get 0 (x:=⟨g,sg A.c x qA dA (.slice (some ⟨pa,oa,none⟩) wn wc) B.c y qB dB vB,43⟩) rfl),(hB.get 1 (x:=⟨gt,(cst ki ix_ rm false),45⟩) rfl),(unhide hrr)⟩ ?_
 simp only [nrm]
 refine anyC_take (i:=2) (v:=(.pointer (some ⟨g,7,none⟩))) (fun v_=>v_.heap[g]?=some (.cells (sg A.c x qA dA (.slice (some ⟨pa,oa,none⟩) wn wc) B.c y qB dB vB) 43 (0,0))∧v_.heap[gt]?=some (.cells ((cst ki ix_ rm false)) 45 (0,0))∧Rg v_ pa (oa+108 * p) (unr ⟨ua,us,uB,false⟩)) (fun _ h_=>h_) (.inr (by kernel_rfl)) rfl (by kernel_rfl) (by kernel_rfl) (by kernel_rfl) (by decide) (by kernel_rfl) (by decide) (fun c_ _ w_ h_=>unhide hQp c_ _ _ _ w_ h_) (.inl ⟨by kernel_rfl,fun x_ hu=>by kernel_rfl⟩) ⟨(hB.get 0 (x:=⟨g,sg A.c x qA dA (.slice (some ⟨pa,oa,none⟩) wn wc) B.c y qB dB vB,43⟩) rfl),(hB.get 1 (x:=⟨gt,(cst ki ix_ rm false),45⟩) rfl),(unhide hrr)⟩ ?_
 simp only [nrm]
 refine anyC_take (i:=3) (v:=(.slice (some ⟨pa,oa,none⟩) wn wc)) (fun v_=>v_.heap[g]?=some (.cells (sg A.c x qA dA (.slice (some ⟨pa,oa,none⟩) wn wc) B.c y qB dB vB) 43 (0,0))∧v_.heap[gt]?=some (.cells ((cst ki ix_ rm false)) 45 (0,0))∧Rg v_ pa (oa+108 * p) (unr ⟨ua,us,uB,false⟩)) (fun _ h_=>h_) (.inr (by kernel_rfl)) rfl (by kernel_rfl) (by kernel_rfl) (by kernel_rfl) (by decide) (by kernel_rfl) (by decide) (fun c_ _ w_ h_=>unhide hQp c_ _ _ _ w_ h_) (.inl ⟨by kernel_rfl,fun x_ hu=>exec_csU _ (.tmp 58) rfl (g) 7 (by kernel_rfl) (some ⟨pa,oa,none⟩) wn wc (seg_cell (nS2  _ _ _ _ _ _ _ _ _ _ _ _ _ _ _ _) hu.1 7 (v:=.slice (some ⟨pa,oa,none⟩) wn wc) rfl rfl)⟩) ⟨(hB.get 0 (x:=⟨g,sg A.c x qA dA (.slice (some ⟨pa,oa,none⟩) wn wc) B.c y qB dB vB,43⟩) rfl),(hB.get 1 (x:=⟨gt,(cst ki ix_ rm false),45⟩) rfl),(unhide hrr)⟩ ?_
 simp only [nrm]
 refine anyC_take (i:=4) (v:=(.pointer (some ⟨gt,1,none⟩))) (fun v_=>v_.heap[g]?=some (.cells (sg A.c x qA dA (.slice (some ⟨pa,oa,none⟩) wn wc) B.c y qB dB vB) 43 (0,0))∧v_.heap[gt]?=some (.cells ((cst ki ix_ rm false)) 45 (0,0))∧Rg v_ pa (oa+108 * p) (unr ⟨ua,us,uB,false⟩)) (fun _ h_=>h_) (.inr (by kernel_rfl)) rfl (by kernel_rfl) (by kernel_rfl) (by kernel_rfl) (by decide) (by kernel_rfl) (by decide) (fun c_ _ w_ h_=>unhide hQp c_ _ _ _ w_ h_) (.inl ⟨by kernel_rfl,fun x_ hu=>by kernel_rfl⟩) ⟨(hB.get 0 (x:=⟨g,sg A.c x qA dA (.slice (some ⟨pa,oa,none⟩) wn wc) B.c y qB dB vB,43⟩) rfl),(hB.get 1 (x:=⟨gt,(cst ki ix_ rm false),45⟩) rfl),(unhide hrr)⟩ ?_
 simp only [nrm]
 refine anyC_take (i:=5) (v:=(.int .i64 ix_)) (fun v_=>v_.heap[g]?=some (.cells (sg A.c x qA dA (.slice (some ⟨pa,oa,none⟩) wn wc) B.c y qB dB vB) 43 (0,0))∧v_.heap[gt]?=some (.cells ((cst ki ix_ rm false)) 45 (0,0))∧Rg v_ pa (oa+108 * p) (unr ⟨ua,us,uB,false⟩)) (fun _ h_=>h_) (.inr (by kernel_rfl)) rfl (by kernel_rfl) (by kernel_rfl) (by kernel_rfl) (by decide) (by kernel_rfl) (by decide) (fun c_ _ w_ h_=>unhide hQp c_ _ _ _ w_ h_) (.inl ⟨by kernel_rfl,fun x_ hu=>exec_ci _ (.tmp 60) rfl (gt) 1 (by kernel_rfl) ix_ (seg_cell (nST  _ _ _ _) hu.2.1 1 (v:=.int .i64 ix_) rfl rfl)⟩) ⟨(hB.get 0 (x:=⟨g,sg A.c x qA dA (.slice (some ⟨pa,oa,none⟩) wn wc) B.c y qB dB vB,43⟩) rfl),(hB.get 1 (x:=⟨gt,(cst ki ix_ rm false),45⟩) rfl),(unhide hrr)⟩ ?_
 simp only [nrm]
 refine anyC_take (i:=6) (v:=(.int .u64 (ix_ % 18446744073709551616))) (fun v_=>v_.heap[g]?=some (.cells (sg A.c x qA dA (.slice (some ⟨pa,oa,none⟩) wn wc) B.c y qB dB vB) 43 (0,0))∧v_.heap[gt]?=some (.cells ((cst ki ix_ rm false)) 45 (0,0))∧Rg v_ pa (oa+108 * p) (unr ⟨ua,us,uB,false⟩)) (fun _ h_=>h_) (.inr (by kernel_rfl)) rfl (by kernel_rfl) (by kernel_rfl) (by kernel_rfl) (by decide) (by kernel_rfl) (by decide) (fun c_ _ w_ h_=>unhide hQp c_ _ _ _ w_ h_) (.inl ⟨by kernel_rfl,fun x_ hu=>conv_iuW _ (.tmp 61) ix_ rfl (by kernel_rfl) _ rfl⟩) ⟨(hB.get 0 (x:=⟨g,sg A.c x qA dA (.slice (some ⟨pa,oa,none⟩) wn wc) B.c y qB dB vB,43⟩) rfl),(hB.get 1 (x:=⟨gt,(cst ki ix_ rm false),45⟩) rfl),(unhide hrr)⟩ ?_
 simp only [nrm]
 refine anyC_take (i:=7) (v:=(.int .i64 wn)) (fun v_=>v_.heap[g]?=some (.cells (sg A.c x qA dA (.slice (some ⟨pa,oa,none⟩) wn wc) B.c y qB dB vB) 43 (0,0))∧v_.heap[gt]?=some (.cells ((cst ki ix_ rm false)) 45 (0,0))∧Rg v_ pa (oa+108 * p) (unr ⟨ua,us,uB,false⟩)) (fun _ h_=>h_) (.inr (by kernel_rfl)) rfl (by kernel_rfl) (by kernel_rfl) (by kernel_rfl) (by decide) (by kernel_rfl) (by decide) (fun c_ _ w_ h_=>unhide hQp c_ _ _ _ w_ h_) (.inl ⟨by kernel_rfl,fun x_ hu=>by kernel_rfl⟩) ⟨(hB.get 0 (x:=⟨g,sg A.c x qA dA (.slice (some ⟨pa,oa,none⟩) wn wc) B.c y qB dB vB,43⟩) rfl),(hB.get 1 (x:=⟨gt,(cst ki ix_ rm false),45⟩) rfl),(unhide hrr)⟩ ?_
 simp only [nrm]
 refine anyC_take (i:=8) (v:=(.int .u64 (wn:Int))) (fun v_=>v_.heap[g]?=some (.cells (sg A.c x qA dA (.slice (some ⟨pa,oa,none⟩) wn wc) B.c y qB dB vB) 43 (0,0))∧v_.heap[gt]?=some (.cells ((cst ki ix_ rm false)) 45 (0,0))∧Rg v_ pa (oa+108 * p) (unr ⟨ua,us,uB,false⟩)) (fun _ h_=>h_) (.inr (by kernel_rfl)) rfl (by kernel_rfl) (by kernel_rfl) (by kernel_rfl) (by decide) (by kernel_rfl) (by decide) (fun c_ _ w_ h_=>unhide hQp c_ _ _ _ w_ h_) (.inl ⟨by kernel_rfl,fun x_ hu=>conv_iuW _ (.tmp 63) (wn:Int) rfl (by kernel_rfl) _ (by omega)⟩) ⟨(hB.get 0 (x:=⟨g,sg A.c x qA dA (.slice (some ⟨pa,oa,none⟩) wn wc) B.c y qB dB vB,43⟩) rfl),(hB.get 1 (x:=⟨gt,(cst ki ix_ rm false),45⟩) rfl),(unhide hrr)⟩ ?_
 simp only [nrm]
 refine anyC_take (i:=9) (v:=(.int .u64 (p:Int))) (fun v_=>v_.heap[g]?=some (.cells (sg A.c x qA dA (.slice (some ⟨pa,oa,none⟩) wn wc) B.c y qB dB vB) 43 (0,0))∧v_.heap[gt]?=some (.cells ((cst ki ix_ rm false)) 45 (0,0))∧Rg v_ pa (oa+108 * p) (unr ⟨ua,us,uB,false⟩)) (fun _ h_=>h_) (.inr (by kernel_rfl)) rfl (by kernel_rfl) (by kernel_rfl) (by kernel_rfl) (by decide) (by kernel_rfl) (by decide) (fun c_ _ w_ h_=>unhide hQp c_ _ _ _ w_ h_) (.inl ⟨by kernel_rfl,fun x_ hu=>rem_u _ (.tmp 62) (.tmp 64) (ix_ % 18446744073709551616) (wn:Int) rfl (by kernel_rfl) (by kernel_rfl) (Int.emod_nonneg _ (by decide)) (by omega) (by omega) _ (unhide hixe)⟩) ⟨(hB.get 0 (x:=⟨g,sg A.c x qA dA (.slice (some ⟨pa,oa,none⟩) wn wc) B.c y qB dB vB,43⟩) rfl),(hB.get 1 (x:=⟨gt,(cst ki ix_ rm false),45⟩) rfl),(unhide hrr)⟩ ?_
 simp only [nrm]
 refine anyC_take (i:=10) (v:=(.pointer (some ⟨pa,oa+108 * p,none⟩))) (fun v_=>v_.heap[g]?=some (.cells (sg A.c x qA dA (.slice (some ⟨pa,oa,none⟩) wn wc) B.c y qB dB vB) 43 (0,0))∧v_.heap[gt]?=some (.cells ((cst ki ix_ rm false)) 45 (0,0))∧Rg v_ pa (oa+108 * p) (unr ⟨ua,us,uB,false⟩)) (fun _ h_=>h_) (.inr (by kernel_rfl)) rfl (by kernel_rfl) (by kernel_rfl) (by kernel_rfl) (by decide) (by kernel_rfl) (by decide) (fun c_ _ w_ h_=>unhide hQp c_ _ _ _ w_ h_) (.inl ⟨by kernel_rfl,fun x_ hu=>exec_isU _ (.tmp 59) (.tmp 65) rfl pa oa wn wc p (by kernel_rfl) (by kernel_rfl) hpl⟩) ⟨(hB.get 0 (x:=⟨g,sg A.c x qA dA (.slice (some ⟨pa,oa,none⟩) wn wc) B.c y qB dB vB,43⟩) rfl),(hB.get 1 (x:=⟨gt,(cst ki ix_ rm false),45⟩) rfl),(unhide hrr)⟩ ?_
 simp only [nrm]
 refine anyC_take (i:=11) (v:=(.agg (fl [[.int .u32 ua],[.int .u32 us],bw uB,[.bool false]]))) (fun v_=>v_.heap[g]?=some (.cells (sg A.c x qA dA (.slice (some ⟨pa,oa,none⟩) wn wc) B.c y qB dB vB) 43 (0,0))∧v_.heap[gt]?=some (.cells ((cst ki ix_ rm false)) 45 (0,0))∧Rg v_ pa (oa+108 * p) (unr ⟨ua,us,uB,false⟩)) (fun _ h_=>h_) (.inr (by kernel_rfl)) rfl (by kernel_rfl) (by kernel_rfl) (by kernel_rfl) (by decide) (by kernel_rfl) (by decide) (fun c_ _ w_ h_=>unhide hQp c_ _ _ _ w_ h_) (.inl ⟨by kernel_rfl,fun x_ hu=>exec_lU _ (.tmp 66) rfl pa (oa+108 * p) (by kernel_rfl) ⟨ua,us,uB,false⟩ huB hu.2.2⟩) ⟨(hB.get 0 (x:=⟨g,sg A.c x qA dA (.slice (some ⟨pa,oa,none⟩) wn wc) B.c y qB dB vB,43⟩) rfl),(hB.get 1 (x:=⟨gt,(cst ki ix_ rm false),45⟩) rfl),(unhide hrr)⟩ ?_
 simp only [nrm]
 refine anyC_one (i:=12) (by kernel_rfl) rfl (fun K hK=>?_)
 refine step_val (.pointer (some ⟨u1.heap.size,0,none⟩)) (u1.alloc (.cells (cu0) 53 (0,0))) (by kernel_rfl) (by kernel_rfl) ?_
 replace hB:=hB.new (cu0) 53
 simp only [List.nil_append,List.cons_append] at hB
 have hg:=(Gr.refl u1).alloc (.cells (cu0) 53 (0,0))
 have hgl14:=(unhide hXG).size
 replace hrr:=hide ((unhide hrr).gr hg)
 replace hA:=hide ((unhide hA).gr hg)
 replace hD:=hide ((unhide hD).gr hg)
 replace hXF:=hide ((unhide hXF).gr hg)
 replace hXG:=hide ((unhide hXG).gr hg)
 clear hg
 generalize World.alloc _ _=u2 at *
 generalize u1.heap.size=g14 at *
 refine hK.out _ _ ⟨(hB.get 0 (x:=⟨g,sg A.c x qA dA (.slice (some ⟨pa,oa,none⟩) wn wc) B.c y qB dB vB,43⟩) rfl),(hB.get 1 (x:=⟨gt,(cst ki ix_ rm false),45⟩) rfl),(unhide hrr)⟩ (fun _=>?_)
 clear hK K
 simp only [nrm]
 refine anyC_last (by kernel_rfl) rfl (fun K hK=>?_)
 have hzz_:Hid (u2.heap[g14]?=some (.cells (cu0) 53 (0,0))):=hide (hB.get 2 (x:=⟨g14,cu0,53⟩) rfl)
 refine step_all 53 (.tmp 14) (.tmp 67) (g14) (S2:=[[.int .u32 ua],[.int .u32 us],bw uB,[.bool false]]) (by kernel_rfl) rfl (by kernel_rfl) (by kernel_rfl) hB 2 rfl ND (nD Z105_len _ _ _) (nD huB _ _ _) (by kernel_rfl) (oD _ rfl rfl rfl) ?_
 intro u3 hB_ hbt_
 clear hB
 replace hB:Bl (bare w) [⟨g,sg A.c x qA dA (.slice (some ⟨pa,oa,none⟩) wn wc) B.c y qB dB vB,43⟩,⟨gt,(cst ki ix_ rm false),45⟩,⟨g14,fl [[.int .u32 ua],[.int .u32 us],bw uB,[.bool false]],53⟩] u3:=hB_
 clear hB_
 replace hA:=hide ((unhide hA).bz (unhide hzz_) hbt_)
 replace hD:=hide ((unhide hD).bz (unhide hzz_) hbt_)
 replace hXF:=hide ((unhide hXF).bo (unhide hzz_) hbt_ hXo hgl14)
 replace hXG:=hide ((unhide hXG).bl (unhide hzz_) hbt_ hgl14)
 clear hbt_ hzz_
 refine hK.out _ _ ?_
 clear hK K
 simp only [nrm]
 refine any_done (by kernel_rfl) ?_
 replace hB:=hide hB
 go_upto_region 13 with fail
 replace hB:=unhide hB
 refine wp_region_lit ?_
 refine lvk (.pointer (some ⟨gt,3,none⟩)) ?_
 simp only [nrm]
 refine list_val (.bool false) (by kernel_rfl) (exec_cb _ (.tmp 68) rfl (gt) 3 (by kernel_rfl) false (seg_cell (nST  _ _ _ _) (hB.get 1 (x:=⟨gt,(cst ki ix_ rm false),45⟩) rfl) 3 (v:=.bool false) rfl rfl)) ?_
 simp only [nrm]
 refine wpList_nil ?_
 replace hB:=hide hB
 go_upto_region 16 with fail
 replace hB:=unhide hB
 refine wp_region_lit ?_
 refine lvk (.pointer (some ⟨g,8,none⟩)) ?_
 simp only [nrm]
 refine list_val (.agg (fl [[.int .u32 ua],[.int .u32 us],bw uB,[.bool false]])) (by kernel_rfl) (exec_sw _ 53 (.tmp 14) rfl (g14) (by kernel_rfl) (hB.get 2 (x:=⟨g14,fl [[.int .u32 ua],[.int .u32 us],bw uB,[.bool false]],53⟩) rfl) ND (nD huB _ _ _) Try.underlying53 rfl (by kernel_rfl)) ?_
 simp only [nrm]
 refine lvk (.pointer (some ⟨gt,2,none⟩)) ?_
 simp only [nrm]
 refine list_val (.int .i64 rm) (by kernel_rfl) (exec_ci _ (.tmp 98) rfl (gt) 2 (by kernel_rfl) rm (seg_cell (nST  _ _ _ _) (hB.get 1 (x:=⟨gt,(cst ki ix_ rm false),45⟩) rfl) 2 (v:=.int .i64 rm) rfl rfl)) ?_
 simp only [nrm]
 have hS1:St b u3 g A B:=⟨x,y,qA,dA,(.slice (some ⟨pa,oa,none⟩) wn wc),qB,dB,vB,hB.get 0 (x:=⟨g,sg A.c x qA dA (.slice (some ⟨pa,oa,none⟩) wn wc) B.c y qB dB vB,43⟩) rfl,unhide hA,unhide hD,unhide hXF,unhide hU,unhide hV⟩
 refine list_call 13 #[.pointer (some ⟨g,8,none⟩),.agg (fl [[.int .u32 ua],[.int .u32 us],bw uB,[.bool false]]),.int .i64 rm] (by kernel_rfl) (by kernel_rfl) ((shear_unw1 b g A B ua us rm uB u3 (Nat.le_trans hb (unhide hXG).size) hbg hS1 (unhide hI) hw1 hw2 huB hwt).mono ?_)
 rintro r_ w1 ⟨rfl,hS3,hG3⟩
 refine ⟨_,rfl,?_⟩
 have hG:=(unhide hXG).cg.trans hG3
 clear hB
 have hB:=nilb w1
 simp only [nrm]
 refine lvk (.bool false) ?_
 simp only [nrm]
 refine wpList_nil ?_
 go_wp2_with fail
 exact unhide hQ _ _ _ _ _ _ _ _ _ _ _ _ _ _ _ _ _ _ _ _ _ _ _ _ _ _ _ _ _ _ _ _ _ _ _ _ _ _ _ _ _ _ _ _ _ _ _ _ _ _ _ _ _ _ _ _ _ _ _ _ _ _ _ _ _ _ _ _ _ _ _ _ _ _ _ _ _ _ _ _ _ _ _ _ _ _ _ _ _ _ _ _ _ _ _ _ _ _ _ _ _ _ _ _ _ _ _ _ _ _ _ _ _ _ _ _ _ _ _ _ _ _ _ _ _ _ _ _ _ _ _ _ _ _ _ _ _ _ _ _ _ _ _ _ _ _ _ hS3 (unhide hI2) hG ⟨Nat.le_succ_of_le (unhide hN).qa,Nat.le_succ_of_le (unhide hN).qb,Nat.le_succ_of_le (unhide hN).wa,Nat.le_succ_of_le (unhide hN).wb⟩
set_option maxHeartbeats 4000000 in
theorem br_take0 (b g gt n:Nat) (ki ix_ rm kd:Int) (A B:Sd) (w:World) (z0 z1 z2 z4 z8 z9 z10 z11 z12 z13 z14 z15 z16 z17 z18 z19 z20 z21 z22 z23 z24 z25 z26 z27 z28 z29 z30 z31 z32 z33 z34 z35 z36 z37 z38 z39 z40 z41 z42 z43 z44 z45 z46 z47 z49 z50 z51 z52 z53 z54 z55 z56 z57 z58 z59 z60 z61 z62 z63 z64 z65 z66 z67 z68 z69 z70 z71 z72 z73 z74 z75 z76 z77 z78 z79 z80 z81 z82 z83 z84 z85 z86 z87 z88 z89 z90 z91 z92 z93 z94 z95 z96 z97 z98 z99 z100 z101 z102 z103 z104 z105 z106 z107 z108 z109 z110 z111 z112 z113 z114 z115 z116 z117 z118 z119 z120 z121 z122 z123 z124 z125 z126 z127 z128 z129 z130 z131 z132 z133 z134 z135 z136 z137 z138 z139 z140 z141 z142 z143 z144 z145 z146 z147 z148 z149 z150 z151 z152 z153 z154 z155 z156 z157 z158 z159 z160 z161 z162 z163 z164 z165 z166 z167 z168 z169 z170 z171 z172 z173 z174 z175 z176 z177 z178 z179 z180 z181 z182 z183 z184 z185 z186 z187 z188 z189 z190 z191 z192 z193 z194 z195 z196 z197 z198 z199 z200 z201 z202 z203 z204 z205 z206 z207 z208 z209 z210 z211 z212 z213 z214 z215 z216 z217 z218 z219 z220 z221 z222 z223 z224 z225 z226 z227 z228 z229 z230 z231 z232 z233 z234 z235 z236 z237 z238 z239 z240 z241 z242:Value) (Q:Exit→Act→World→Prop) (hb:b≤w.heap.size) (hbg:b≤g) (hS:St b w g A B) (hI:Inv A B) (hN:Bd n A B) (hn:n≤400) (hgt:w.heap[gt]?=some (.cells ((cst ki ix_ rm false)) 45 (0,0))) (hQp:∀ c a (d:Nat) v w,Q (.panic c) (Act.put a (some d) v) w→Q (.panic c) a w) (hd0:kd≠0) (hd1:kd≠1) (ua us:Int) (t:ByteArray) (hsz:t.size=3) (h0:0<A.w.length) (hu:A.w[ix ix_ A.w.length]?=some ⟨ua,us,(bdy t),false⟩) (ht:A.q[us.toNat]?=some t) (hwt:wt (ak B.c ua).1 us rm=true) (hQ:∀ u2 u8 u9 u10 u11 u12 u13 u14 u15 u49 u50 u51 u52 u53 u54 u55 u56 u57 u58 u59 u60 u61 u62 u63 u64 u65 u66 u67 u68 u69 u70 u71 u72 u73 u74 u75 u76 u77 u78 u79 u80 u81 u82 u83 u84 u85 u86 u87 u88 u89 u90 u91 u92 u93 u94 u95 u96 u97 u98 u99 u100 u101 u102 u103 u104 u105 u106 u107 u108 u109 u110 u111 u112 u113 u114 u115 u116 u117 u118 u119 u120 u121 u122 u123 u124 u125 u126 u127 u128 u129 u130 u131 u132 u133 u134 u135 u136 u137 u138 u139 u140 u141 u142 u143 u144 u145 u146 u147 u148 u149 u150 u151 u152 u153 u154 u155 u156 u157 u158 u159 u160 u161 u162 u163 u164 u165 u166 u167 u168 u169 u170 u171 u172 u173 u174 u175 u176 u177 u178 u179 u180 u181 u182 u183:Value,∀ (A' B':Sd) (w':World),St b w' g A' B'→Inv A' B'→Cg g b w w'→Bd (n+1) A' B'→Q .normal ⟨#[z0,z1,u2,.pointer (some ⟨g,0,none⟩),z4,.pointer (some ⟨gt,0,none⟩),.pointer (some ⟨g,0,none⟩),.pointer (some ⟨g,8,none⟩),u8,u9,u10,u11,u12,u13,u14,u15,z16,z17,z18,z19,z20,z21,z22,z23,z24,z25,z26,z27,z28,z29,z30,z31,z32,z33,z34,z35,z36,z37,z38,z39,z40,z41,z42,z43,z44,z45,z46,z47,.int .u64 kd,u49,u50,u51,u52,u53,u54,u55,u56,u57,u58,u59,u60,u61,u62,u63,u64,u65,u66,u67,u68,u69,u70,u71,u72,u73,u74,u75,u76,u77,u78,u79,u80,u81,u82,u83,u84,u85,u86,u87,u88,u89,u90,u91,u92,u93,u94,u95,u96,u97,u98,u99,u100,u101,u102,u103,u104,u105,u106,u107,u108,u109,u110,u111,u112,u113,u114,u115,u116,u117,u118,u119,u120,u121,u122,u123,u124,u125,u126,u127,u128,u129,u130,u131,u132,u133,u134,u135,u136,u137,u138,u139,u140,u141,u142,u143,u144,u145,u146,u147,u148,u149,u150,u151,u152,u153,u154,u155,u156,u157,u158,u159,u160,u161,u162,u163,u164,u165,u166,u167,u168,u169,u170,u171,u172,u173,u174,u175,u176,u177,u178,u179,u180,u181,u182,u183,z184,z185,z186,z187,z188,z189,z190,z191,z192,z193,z194,z195,z196,z197,z198,z199,z200,z201,z202,z203,z204,z205,z206,z207,z208,z209,z210,z211,z212,z213,z214,z215,z216,z217,z218,z219,z220,z221,z222,z223,z224,z225,z226,z227,z228,z229,z230,z231,z232,z233,z234,z235,z236,z237,z238,z239,z240,z241,z242],[]⟩ w'):Code.wp Try.prog oSwitch Q ⟨#[z0,z1,z2,.pointer (some ⟨g,0,none⟩),z4,.pointer (some ⟨gt,0,none⟩),.pointer (some ⟨g,0,none⟩),.pointer (some ⟨g,8,none⟩),z8,z9,z10,z11,z12,z13,z14,z15,z16,z17,z18,z19,z20,z21,z22,z23,z24,z25,z26,z27,z28,z29,z30,z31,z32,z33,z34,z35,z36,z37,z38,z39,z40,z41,z42,z43,z44,z45,z46,z47,.int .u64 kd,z49,z50,z51,z52,z53,z54,z55,z56,z57,z58,z59,z60,z61,z62,z63,z64,z65,z66,z67,z68,z69,z70,z71,z72,z73,z74,z75,z76,z77,z78,z79,z80,z81,z82,z83,z84,z85,z86,z87,z88,z89,z90,z91,z92,z93,z94,z95,z96,z97,z98,z99,z100,z101,z102,z103,z104,z105,z106,z107,z108,z109,z110,z111,z112,z113,z114,z115,z116,z117,z118,z119,z120,z121,z122,z123,z124,z125,z126,z127,z128,z129,z130,z131,z132,z133,z134,z135,z136,z137,z138,z139,z140,z141,z142,z143,z144,z145,z146,z147,z148,z149,z150,z151,z152,z153,z154,z155,z156,z157,z158,z159,z160,z161,z162,z163,z164,z165,z166,z167,z168,z169,z170,z171,z172,z173,z174,z175,z176,z177,z178,z179,z180,z181,z182,z183,z184,z185,z186,z187,z188,z189,z190,z191,z192,z193,z194,z195,z196,z197,z198,z199,z200,z201,z202,z203,z204,z205,z206,z207,z208,z209,z210,z211,z212,z213,z214,z215,z216,z217,z218,z219,z220,z221,z222,z223,z224,z225,z226,z227,z228,z229,z230,z231,z232,z233,z234,z235,z236,z237,z238,z239,z240,z241,z242],[]⟩ w:=by
 have hS2:∀ u ∈ A.w,u.B.length=105∧IsB u.B:=by
  obtain ⟨x,y,qA,dA,vA,qB,dB,vB,hg,hA,hD,hXF,hU,hV⟩:=hS
  exact hU
 obtain ⟨hw1,hw2,-⟩:=hI.1.way _ (List.mem_of_getElem? hu)
 dsimp only at hw1 hw2
 have hI2:=(((hI).acked hw1).took hwt ht).2.2
 replace hI2:=hide hI2
 have hpl:=ix_lt ix_ h0
 have huB:=(hS2 _ (List.mem_of_getElem? hu)).1
 dsimp only at huB
 have hmx:=hN.wa
 obtain ⟨x,y,qA,dA,vA,qB,dB,vB,hg,hA,hD,hXF,hU,hV⟩:=hS
 obtain ⟨wa,wc,hva,-⟩:=(hXF.own 2 _ rfl).lz
 dsimp only at hva
 subst hva
 obtain ⟨wn,hwn⟩:∃ n,n=(A.w.map unr).length:=⟨_,rfl⟩
 rw [← hwn] at hg hXF
 rw [List.length_map] at hwn
 have hXo:=hXF.old
 have hXG:Cgs g b w w:=⟨Cg.refl g b w,hb⟩
 have hne:g≠gt:=fun e=>by rw [e,hgt] at hg; cases hg
 replace hXF:=hide hXF; replace hA:=hide hA; replace hD:=hide hD; replace hU:=hide hU; replace hV:=hide hV; replace hI:=hide hI; replace hQ:=hide hQ; replace hN:=hide hN; replace hXG:=hide hXG; replace hQp:=hide hQp; replace hwn:=hide hwn
 conv=>arg 2; whnf
 go_upto_region 18 with fail
 have hB1:=(nilb w).add ⟨g,sg A.c x qA dA (.slice wa wn wc) B.c y qB dB vB,43⟩ hg (Nat.zero_le _) (by intro y hy; cases hy)
 have hB:=hB1.add ⟨gt,(cst ki ix_ rm false),45⟩ hgt (Nat.zero_le _) (by intro y hy; rw [List.nil_append,List.mem_singleton] at hy; rw [hy]; exact hne)
 simp only [List.nil_append,List.cons_append] at hB
 clear hB1 hg hgt hne
 obtain ⟨u0,hu_⟩:∃ u,u=w:=⟨_,rfl⟩
 have hB2:Bl (bare w) [⟨g,sg A.c x qA dA (.slice wa wn wc) B.c y qB dB vB,43⟩,⟨gt,(cst ki ix_ rm false),45⟩] u0:=hu_ ▸ hB
 replace hA:Hid (Co b u0 A.c x):=hu_ ▸ hA; replace hD:Hid (Co b u0 B.c y):=hu_ ▸ hD
 replace hXF:Hid (Fam b u0 (fam A B qA dA (.slice wa wn wc) qB dB vB)):=hu_ ▸ hXF
 replace hXG:Hid (Cgs g b w u0):=hu_ ▸ hXG
 clear hB
 have hB:=hB2
 clear hB2
 rw [← hu_]
 clear hu_
 refine wp_region_lit ?_
 refine list_val (.bool false) (by kernel_rfl) (eql_u _ (.tmp 48) (.const (.int .u64 0)) kd 0 false rfl (by kernel_rfl) rfl (decide_eq_false hd0)) ?_
 simp only [nrm]
 (refine wpList_step fun K hK=>?_; replace hK:=hide hK; go_simp; refine unhide hK _ _ ?_; clear hK K)
 refine wpList_nil ?_
 replace hB:=hide hB
 go_upto_region 29 with fail
 replace hB:=unhide hB
 refine wp_region_lit ?_
 refine list_val (.bool false) (by kernel_rfl) (eql_u _ (.tmp 48) (.const (.int .u64 1)) kd 1 false rfl (by kernel_rfl) rfl (decide_eq_false hd1)) ?_
 simp only [nrm]
 (refine wpList_step fun K hK=>?_; replace hK:=hide hK; go_simp; refine unhide hK _ _ ?_; clear hK K)
 refine wpList_nil ?_
 replace hB:=hide hB
 go_upto_region 10 with fail
 replace hB:=unhide hB
 refine wp_region_lit ?_
 refine lvk (.pointer (some ⟨g,0,none⟩)) ?_
 simp only [nrm]
 refine lvk (.pointer (some ⟨g,0,none⟩)) ?_
 simp only [nrm]
 refine lvk (.pointer (some ⟨g,7,none⟩)) ?_
 simp only [nrm]
 refine list_val (.slice wa wn wc) (by kernel_rfl) (exec_csU _ (.tmp 51) rfl (g) 7 (by kernel_rfl) wa wn wc (seg_cell (nS2  _ _ _ _ _ _ _ _ _ _ _ _ _ _ _ _) (hB.get 0 (x:=⟨g,sg A.c x qA dA (.slice wa wn wc) B.c y qB dB vB,43⟩) rfl) 7 (v:=.slice wa wn wc) rfl rfl)) ?_
 simp only [nrm]
 refine lvk (.int .i64 wn) ?_
 simp only [nrm]
 (refine wpList_step fun K hK=>?_; replace hK:=hide hK; go_simp; refine unhide hK _ _ ?_; clear hK K)
 refine wpList_nil ?_
 obtain ⟨m,hm⟩:∃ m,m=A.w.length:=⟨_,rfl⟩
 have hwm:wn=m:=by rw [unhide hwn,hm]
 rw [← hm] at hpl h0 hu hmx
 have hixe:=ix_eq ix_ h0
 obtain ⟨p,hp⟩:∃ p,p=ix ix_ m:=⟨_,rfl⟩
 rw [← hp] at hpl hu hixe
 replace hm:=hide hm; replace hp:=hide hp
 subst hwm
 obtain ⟨pa,oa,haa,hrr⟩:=un_at ((unhide hXF).own 2 _ rfl) p _ hu
 subst haa
 replace hrr:Rg _ _ _ _:=hrr
 replace hrr:=hide hrr; replace hu:=hide hu; replace hixe:=hide hixe
 replace hB:=hide hB
 go_upto_region 11 with fail
 replace hB:=unhide hB
 refine wp_region_lit ?_
 refine lvk (.int .i64 wn) ?_
 simp only [nrm]
 refine list_val (.bool true) (by kernel_rfl) (gtr_i _ (.tmp 54) (.const (.int .i64 0)) (wn:Int) 0 true rfl (by kernel_rfl) rfl (by simp; omega)) ?_
 simp only [nrm]
 refine wpList_nil ?_
 replace hB:=hide hB
 go_upto_region 12 with fail
 replace hB:=unhide hB
 refine anyC_start 13 (fun v_=>v_.heap[g]?=some (.cells (sg A.c x qA dA (.slice (some ⟨pa,oa,none⟩) wn wc) B.c y qB dB vB) 43 (0,0))∧v_.heap[gt]?=some (.cells ((cst ki ix_ rm false)) 45 (0,0))∧Rg v_ pa (oa+108 * p) (unr ⟨ua,us,(bdy t),false⟩)) (by kernel_rfl) ?_
 replace hrr:=hide ((unhide hrr).gr ((Gr.refl u0).drew))
 replace hA:=hide ((unhide hA).gr ((Gr.refl u0).drew))
 replace hD:=hide ((unhide hD).gr ((Gr.refl u0).drew))
 replace hXF:=hide ((unhide hXF).gr ((Gr.refl u0).drew))
 replace hXG:=hide ((unhide hXG).gr ((Gr.refl u0).drew))
 replace hB:=hB.drew
 generalize World.drew _=u1 at *
 simp only [List.size_toArray,List.length_cons,List.length_nil,Array.replicate,List.replicate]
 refine anyC_take (i:=0) (v:=(.pointer (some ⟨g,0,none⟩))) (fun v_=>v_.heap[g]?=some (.cells (sg A.c x qA dA (.slice (some ⟨pa,oa,none⟩) wn wc) B.c y qB dB vB) 43 (0,0))∧v_.heap[gt]?=some (.cells ((cst ki ix_ rm false)) 45 (0,0))∧Rg v_ pa (oa+108 * p) (unr ⟨ua,us,(bdy t),false⟩)) (fun _ h_=>h_) (.inr (by kernel_rfl)) rfl (by kernel_rfl) (by kernel_rfl) (by kernel_rfl) (by decide) (by kernel_rfl) (by decide) (fun c_ _ w_ h_=>unhide hQp c_ _ _ _ w_ h_) (.inl ⟨by kernel_rfl,fun x_ hu=>by kernel_rfl⟩) ⟨(hB.get 0 (x:=⟨g,sg A.c x qA dA (.slice (some ⟨pa,oa,none⟩) wn wc) B.c y qB dB vB,43⟩) rfl),(hB.get 1 (x:=⟨gt,(cst ki ix_ rm false),45⟩) rfl),(unhide hrr)⟩ ?_
 simp only [nrm]
 refine anyC_take (i:=1) (v:=(.pointer (some ⟨g,0,none⟩))) (fun v_=>v_.heap[g]?=some (.cells (sg A.c x qA dA (.slice (some ⟨pa,oa,none⟩) wn wc) B.c y qB dB vB) 43 (0,0))∧v_.heap[gt]?=some (.cells ((cst ki ix_ rm false)) 45 (0,0))∧Rg v_ pa (oa+108 * p) (unr ⟨ua,us,(bdy t),false⟩)) (fun _ h_=>h_) (.inr (by kernel_rfl)) rfl (by kernel_rfl) (by kernel_rfl) (by kernel_rfl) (by decide) (by kernel_rfl) (by decide) (fun c_ _ w_ h_=>unhide hQp c_ _ _ _ w_ h_) (.inl ⟨by kernel_rfl,fun x_ hu=>by kernel_rfl⟩) ⟨(hB.get 0 (x:=⟨g,sg A.c x qA dA (.slice (some ⟨pa,oa,none⟩) wn wc) B.c y qB dB vB,43⟩) rfl),(hB.get 1 (x:=⟨gt,(cst ki ix_ rm false),45⟩) rfl),(unhide hrr)⟩ ?_
 simp only [nrm]
 refine anyC_take (i:=2) (v:=(.pointer (some ⟨g,7,none⟩))) (fun v_=>v_.heap[g]?=some (.cells (sg A.c x qA dA (.slice (some ⟨pa,oa,none⟩) wn wc) B.c y qB dB vB) 43 (0,0))∧v_.heap[gt]?=some (.cells ((cst ki ix_ rm false)) 45 (0,0))∧Rg v_ pa (oa+108 * p) (unr ⟨ua,us,(bdy t),false⟩)) (fun _ h_=>h_) (.inr (by kernel_rfl)) rfl (by kernel_rfl) (by kernel_rfl) (by kernel_rfl) (by decide) (by kernel_rfl) (by decide) (fun c_ _ w_ h_=>unhide hQp c_ _ _ _ w_ h_) (.inl ⟨by kernel_rfl,fun x_ hu=>by kernel_rfl⟩) ⟨(hB.get 0 (x:=⟨g,sg A.c x qA dA (.slice (some ⟨pa,oa,none⟩) wn wc) B.c y qB dB vB,43⟩) rfl),(hB.get 1 (x:=⟨gt,(cst ki ix_ rm false),45⟩) rfl),(unhide hrr)⟩ ?_
 simp only [nrm]
 refine anyC_take (i:=3) (v:=(.slice (some ⟨pa,oa,none⟩) wn wc)) (fun v_=>v_.heap[g]?=some (.cells (sg A.c x qA dA (.slice (some ⟨pa,oa,none⟩) wn wc) B.c y qB dB vB) 43 (0,0))∧v_.heap[gt]?=some (.cells ((cst ki ix_ rm false)) 45 (0,0))∧Rg v_ pa (oa+108 * p) (unr ⟨ua,us,(bdy t),false⟩)) (fun _ h_=>h_) (.inr (by kernel_rfl)) rfl (by kernel_rfl) (by kernel_rfl) (by kernel_rfl) (by decide) (by kernel_rfl) (by decide) (fun c_ _ w_ h_=>unhide hQp c_ _ _ _ w_ h_) (.inl ⟨by kernel_rfl,fun x_ hu=>exec_csU _ (.tmp 58) rfl (g) 7 (by kernel_rfl) (some ⟨pa,oa,none⟩) wn wc (seg_cell (nS2  _ _ _ _ _ _ _ _ _ _ _ _ _ _ _ _) hu.1 7 (v:=.slice (some ⟨pa,oa,none⟩) wn wc) rfl rfl)⟩) ⟨(hB.get 0 (x:=⟨g,sg A.c x qA dA (.slice (some ⟨pa,oa,none⟩) wn wc) B.c y qB dB vB,43⟩) rfl),(hB.get 1 (x:=⟨gt,(cst ki ix_ rm false),45⟩) rfl),(unhide hrr)⟩ ?_
 simp only [nrm]
 refine anyC_take (i:=4) (v:=(.pointer (some ⟨gt,1,none⟩))) (fun v_=>v_.heap[g]?=some (.cells (sg A.c x qA dA (.slice (some ⟨pa,oa,none⟩) wn wc) B.c y qB dB vB) 43 (0,0))∧v_.heap[gt]?=some (.cells ((cst ki ix_ rm false)) 45 (0,0))∧Rg v_ pa (oa+108 * p) (unr ⟨ua,us,(bdy t),false⟩)) (fun _ h_=>h_) (.inr (by kernel_rfl)) rfl (by kernel_rfl) (by kernel_rfl) (by kernel_rfl) (by decide) (by kernel_rfl) (by decide) (fun c_ _ w_ h_=>unhide hQp c_ _ _ _ w_ h_) (.inl ⟨by kernel_rfl,fun x_ hu=>by kernel_rfl⟩) ⟨(hB.get 0 (x:=⟨g,sg A.c x qA dA (.slice (some ⟨pa,oa,none⟩) wn wc) B.c y qB dB vB,43⟩) rfl),(hB.get 1 (x:=⟨gt,(cst ki ix_ rm false),45⟩) rfl),(unhide hrr)⟩ ?_
 simp only [nrm]
 refine anyC_take (i:=5) (v:=(.int .i64 ix_)) (fun v_=>v_.heap[g]?=some (.cells (sg A.c x qA dA (.slice (some ⟨pa,oa,none⟩) wn wc) B.c y qB dB vB) 43 (0,0))∧v_.heap[gt]?=some (.cells ((cst ki ix_ rm false)) 45 (0,0))∧Rg v_ pa (oa+108 * p) (unr ⟨ua,us,(bdy t),false⟩)) (fun _ h_=>h_) (.inr (by kernel_rfl)) rfl (by kernel_rfl) (by kernel_rfl) (by kernel_rfl) (by decide) (by kernel_rfl) (by decide) (fun c_ _ w_ h_=>unhide hQp c_ _ _ _ w_ h_) (.inl ⟨by kernel_rfl,fun x_ hu=>exec_ci _ (.tmp 60) rfl (gt) 1 (by kernel_rfl) ix_ (seg_cell (nST  _ _ _ _) hu.2.1 1 (v:=.int .i64 ix_) rfl rfl)⟩) ⟨(hB.get 0 (x:=⟨g,sg A.c x qA dA (.slice (some ⟨pa,oa,none⟩) wn wc) B.c y qB dB vB,43⟩) rfl),(hB.get 1 (x:=⟨gt,(cst ki ix_ rm false),45⟩) rfl),(unhide hrr)⟩ ?_
 simp only [nrm]
 refine anyC_take (i:=6) (v:=(.int .u64 (ix_ % 18446744073709551616))) (fun v_=>v_.heap[g]?=some (.cells (sg A.c x qA dA (.slice (some ⟨pa,oa,none⟩) wn wc) B.c y qB dB vB) 43 (0,0))∧v_.heap[gt]?=some (.cells ((cst ki ix_ rm false)) 45 (0,0))∧Rg v_ pa (oa+108 * p) (unr ⟨ua,us,(bdy t),false⟩)) (fun _ h_=>h_) (.inr (by kernel_rfl)) rfl (by kernel_rfl) (by kernel_rfl) (by kernel_rfl) (by decide) (by kernel_rfl) (by decide) (fun c_ _ w_ h_=>unhide hQp c_ _ _ _ w_ h_) (.inl ⟨by kernel_rfl,fun x_ hu=>conv_iuW _ (.tmp 61) ix_ rfl (by kernel_rfl) _ rfl⟩) ⟨(hB.get 0 (x:=⟨g,sg A.c x qA dA (.slice (some ⟨pa,oa,none⟩) wn wc) B.c y qB dB vB,43⟩) rfl),(hB.get 1 (x:=⟨gt,(cst ki ix_ rm false),45⟩) rfl),(unhide hrr)⟩ ?_
 simp only [nrm]
 refine anyC_take (i:=7) (v:=(.int .i64 wn)) (fun v_=>v_.heap[g]?=some (.cells (sg A.c x qA dA (.slice (some ⟨pa,oa,none⟩) wn wc) B.c y qB dB vB) 43 (0,0))∧v_.heap[gt]?=some (.cells ((cst ki ix_ rm false)) 45 (0,0))∧Rg v_ pa (oa+108 * p) (unr ⟨ua,us,(bdy t),false⟩)) (fun _ h_=>h_) (.inr (by kernel_rfl)) rfl (by kernel_rfl) (by kernel_rfl) (by kernel_rfl) (by decide) (by kernel_rfl) (by decide) (fun c_ _ w_ h_=>unhide hQp c_ _ _ _ w_ h_) (.inl ⟨by kernel_rfl,fun x_ hu=>by kernel_rfl⟩) ⟨(hB.get 0 (x:=⟨g,sg A.c x qA dA (.slice (some ⟨pa,oa,none⟩) wn wc) B.c y qB dB vB,43⟩) rfl),(hB.get 1 (x:=⟨gt,(cst ki ix_ rm false),45⟩) rfl),(unhide hrr)⟩ ?_
 simp only [nrm]
 refine anyC_take (i:=8) (v:=(.int .u64 (wn:Int))) (fun v_=>v_.heap[g]?=some (.cells (sg A.c x qA dA (.slice (some ⟨pa,oa,none⟩) wn wc) B.c y qB dB vB) 43 (0,0))∧v_.heap[gt]?=some (.cells ((cst ki ix_ rm false)) 45 (0,0))∧Rg v_ pa (oa+108 * p) (unr ⟨ua,us,(bdy t),false⟩)) (fun _ h_=>h_) (.inr (by kernel_rfl)) rfl (by kernel_rfl) (by kernel_rfl) (by kernel_rfl) (by decide) (by kernel_rfl) (by decide) (fun c_ _ w_ h_=>unhide hQp c_ _ _ _ w_ h_) (.inl ⟨by kernel_rfl,fun x_ hu=>conv_iuW _ (.tmp 63) (wn:Int) rfl (by kernel_rfl) _ (by omega)⟩) ⟨(hB.get 0 (x:=⟨g,sg A.c x qA dA (.slice (some ⟨pa,oa,none⟩) wn wc) B.c y qB dB vB,43⟩) rfl),(hB.get 1 (x:=⟨gt,(cst ki ix_ rm false),45⟩) rfl),(unhide hrr)⟩ ?_
 simp only [nrm]
 refine anyC_take (i:=9) (v:=(.int .u64 (p:Int))) (fun v_=>v_.heap[g]?=some (.cells (sg A.c x qA dA (.slice (some ⟨pa,oa,none⟩) wn wc) B.c y qB dB vB) 43 (0,0))∧v_.heap[gt]?=some (.cells ((cst ki ix_ rm false)) 45 (0,0))∧Rg v_ pa (oa+108 * p) (unr ⟨ua,us,(bdy t),false⟩)) (fun _ h_=>h_) (.inr (by kernel_rfl)) rfl (by kernel_rfl) (by kernel_rfl) (by kernel_rfl) (by decide) (by kernel_rfl) (by decide) (fun c_ _ w_ h_=>unhide hQp c_ _ _ _ w_ h_) (.inl ⟨by kernel_rfl,fun x_ hu=>rem_u _ (.tmp 62) (.tmp 64) (ix_ % 18446744073709551616) (wn:Int) rfl (by kernel_rfl) (by kernel_rfl) (Int.emod_nonneg _ (by decide)) (by omega) (by omega) _ (unhide hixe)⟩) ⟨(hB.get 0 (x:=⟨g,sg A.c x qA dA (.slice (some ⟨pa,oa,none⟩) wn wc) B.c y qB dB vB,43⟩) rfl),(hB.get 1 (x:=⟨gt,(cst ki ix_ rm false),45⟩) rfl),(unhide hrr)⟩ ?_
 simp only [nrm]
 refine anyC_take (i:=10) (v:=(.pointer (some ⟨pa,oa+108 * p,none⟩))) (fun v_=>v_.heap[g]?=some (.cells (sg A.c x qA dA (.slice (some ⟨pa,oa,none⟩) wn wc) B.c y qB dB vB) 43 (0,0))∧v_.heap[gt]?=some (.cells ((cst ki ix_ rm false)) 45 (0,0))∧Rg v_ pa (oa+108 * p) (unr ⟨ua,us,(bdy t),false⟩)) (fun _ h_=>h_) (.inr (by kernel_rfl)) rfl (by kernel_rfl) (by kernel_rfl) (by kernel_rfl) (by decide) (by kernel_rfl) (by decide) (fun c_ _ w_ h_=>unhide hQp c_ _ _ _ w_ h_) (.inl ⟨by kernel_rfl,fun x_ hu=>exec_isU _ (.tmp 59) (.tmp 65) rfl pa oa wn wc p (by kernel_rfl) (by kernel_rfl) hpl⟩) ⟨(hB.get 0 (x:=⟨g,sg A.c x qA dA (.slice (some ⟨pa,oa,none⟩) wn wc) B.c y qB dB vB,43⟩) rfl),(hB.get 1 (x:=⟨gt,(cst ki ix_ rm false),45⟩) rfl),(unhide hrr)⟩ ?_
 simp only [nrm]
 refine anyC_take (i:=11) (v:=(.agg (fl [[.int .u32 ua],[.int .u32 us],bw (bdy t),[.bool false]]))) (fun v_=>v_.heap[g]?=some (.cells (sg A.c x qA dA (.slice (some ⟨pa,oa,none⟩) wn wc) B.c y qB dB vB) 43 (0,0))∧v_.heap[gt]?=some (.cells ((cst ki ix_ rm false)) 45 (0,0))∧Rg v_ pa (oa+108 * p) (unr ⟨ua,us,(bdy t),false⟩)) (fun _ h_=>h_) (.inr (by kernel_rfl)) rfl (by kernel_rfl) (by kernel_rfl) (by kernel_rfl) (by decide) (by kernel_rfl) (by decide) (fun c_ _ w_ h_=>unhide hQp c_ _ _ _ w_ h_) (.inl ⟨by kernel_rfl,fun x_ hu=>exec_lU _ (.tmp 66) rfl pa (oa+108 * p) (by kernel_rfl) ⟨ua,us,(bdy t),false⟩ huB hu.2.2⟩) ⟨(hB.get 0 (x:=⟨g,sg A.c x qA dA (.slice (some ⟨pa,oa,none⟩) wn wc) B.c y qB dB vB,43⟩) rfl),(hB.get 1 (x:=⟨gt,(cst ki ix_ rm false),45⟩) rfl),(unhide hrr)⟩ ?_
 simp only [nrm]
 refine anyC_one (i:=12) (by kernel_rfl) rfl (fun K hK=>?_)
 refine step_val (.pointer (some ⟨u1.heap.size,0,none⟩)) (u1.alloc (.cells (cu0) 53 (0,0))) (by kernel_rfl) (by kernel_rfl) ?_
 replace hB:=hB.new (cu0) 53
 simp only [List.nil_append,List.cons_append] at hB
 have hg:=(Gr.refl u1).alloc (.cells (cu0) 53 (0,0))
 have hgl14:=(unhide hXG).size
 replace hrr:=hide ((unhide hrr).gr hg)
 replace hA:=hide ((unhide hA).gr hg)
 replace hD:=hide ((unhide hD).gr hg)
 replace hXF:=hide ((unhide hXF).gr hg)
 replace hXG:=hide ((unhide hXG).gr hg)
 clear hg
 generalize World.alloc _ _=u2 at *
 generalize u1.heap.size=g14 at *
 refine hK.out _ _ ⟨(hB.get 0 (x:=⟨g,sg A.c x qA dA (.slice (some ⟨pa,oa,none⟩) wn wc) B.c y qB dB vB,43⟩) rfl),(hB.get 1 (x:=⟨gt,(cst ki ix_ rm false),45⟩) rfl),(unhide hrr)⟩ (fun _=>?_)
 clear hK K
 simp only [nrm]
 refine anyC_last (by kernel_rfl) rfl (fun K hK=>?_)
 have hzz_:Hid (u2.heap[g14]?=some (.cells (cu0) 53 (0,0))):=hide (hB.get 2 (x:=⟨g14,cu0,53⟩) rfl)
 refine step_all 53 (.tmp 14) (.tmp 67) (g14) (S2:=[[.int .u32 ua],[.int .u32 us],bw (bdy t),[.bool false]]) (by kernel_rfl) rfl (by kernel_rfl) (by kernel_rfl) hB 2 rfl ND (nD Z105_len _ _ _) (nD huB _ _ _) (by kernel_rfl) (oD _ rfl rfl rfl) ?_
 intro u3 hB_ hbt_
 clear hB
 replace hB:Bl (bare w) [⟨g,sg A.c x qA dA (.slice (some ⟨pa,oa,none⟩) wn wc) B.c y qB dB vB,43⟩,⟨gt,(cst ki ix_ rm false),45⟩,⟨g14,fl [[.int .u32 ua],[.int .u32 us],bw (bdy t),[.bool false]],53⟩] u3:=hB_
 clear hB_
 replace hA:=hide ((unhide hA).bz (unhide hzz_) hbt_)
 replace hD:=hide ((unhide hD).bz (unhide hzz_) hbt_)
 replace hXF:=hide ((unhide hXF).bo (unhide hzz_) hbt_ hXo hgl14)
 replace hXG:=hide ((unhide hXG).bl (unhide hzz_) hbt_ hgl14)
 clear hbt_ hzz_
 refine hK.out _ _ ?_
 clear hK K
 simp only [nrm]
 refine any_done (by kernel_rfl) ?_
 replace hB:=hide hB
 go_upto_region 13 with fail
 replace hB:=unhide hB
 refine wp_region_lit ?_
 refine lvk (.pointer (some ⟨gt,3,none⟩)) ?_
 simp only [nrm]
 refine list_val (.bool false) (by kernel_rfl) (exec_cb _ (.tmp 68) rfl (gt) 3 (by kernel_rfl) false (seg_cell (nST  _ _ _ _) (hB.get 1 (x:=⟨gt,(cst ki ix_ rm false),45⟩) rfl) 3 (v:=.bool false) rfl rfl)) ?_
 simp only [nrm]
 refine wpList_nil ?_
 replace hB:=hide hB
 go_upto_region 16 with fail
 replace hB:=unhide hB
 refine wp_region_lit ?_
 refine lvk (.pointer (some ⟨g,8,none⟩)) ?_
 simp only [nrm]
 refine list_val (.agg (fl [[.int .u32 ua],[.int .u32 us],bw (bdy t),[.bool false]])) (by kernel_rfl) (exec_sw _ 53 (.tmp 14) rfl (g14) (by kernel_rfl) (hB.get 2 (x:=⟨g14,fl [[.int .u32 ua],[.int .u32 us],bw (bdy t),[.bool false]],53⟩) rfl) ND (nD huB _ _ _) Try.underlying53 rfl (by kernel_rfl)) ?_
 simp only [nrm]
 refine lvk (.pointer (some ⟨gt,2,none⟩)) ?_
 simp only [nrm]
 refine list_val (.int .i64 rm) (by kernel_rfl) (exec_ci _ (.tmp 98) rfl (gt) 2 (by kernel_rfl) rm (seg_cell (nST  _ _ _ _) (hB.get 1 (x:=⟨gt,(cst ki ix_ rm false),45⟩) rfl) 2 (v:=.int .i64 rm) rfl rfl)) ?_
 simp only [nrm]
 have hS1:St b u3 g A B:=⟨x,y,qA,dA,(.slice (some ⟨pa,oa,none⟩) wn wc),qB,dB,vB,hB.get 0 (x:=⟨g,sg A.c x qA dA (.slice (some ⟨pa,oa,none⟩) wn wc) B.c y qB dB vB,43⟩) rfl,unhide hA,unhide hD,unhide hXF,unhide hU,unhide hV⟩
 refine list_call 13 #[.pointer (some ⟨g,8,none⟩),.agg (fl [[.int .u32 ua],[.int .u32 us],bw (bdy t),[.bool false]]),.int .i64 rm] (by kernel_rfl) (by kernel_rfl) ((shear_take1 b g A B ua us rm u3 (Nat.le_trans hb (unhide hXG).size) hbg hS1 (unhide hI) hw1 hw2 t hsz ht hwt).mono ?_)
 rintro r_ w1 ⟨rfl,hS3,hG3⟩
 refine ⟨_,rfl,?_⟩
 have hG:=(unhide hXG).cg.trans hG3
 clear hB
 have hB:=nilb w1
 simp only [nrm]
 refine lvk (.bool false) ?_
 simp only [nrm]
 refine wpList_nil ?_
 go_wp2_with fail
 exact unhide hQ _ _ _ _ _ _ _ _ _ _ _ _ _ _ _ _ _ _ _ _ _ _ _ _ _ _ _ _ _ _ _ _ _ _ _ _ _ _ _ _ _ _ _ _ _ _ _ _ _ _ _ _ _ _ _ _ _ _ _ _ _ _ _ _ _ _ _ _ _ _ _ _ _ _ _ _ _ _ _ _ _ _ _ _ _ _ _ _ _ _ _ _ _ _ _ _ _ _ _ _ _ _ _ _ _ _ _ _ _ _ _ _ _ _ _ _ _ _ _ _ _ _ _ _ _ _ _ _ _ _ _ _ _ _ _ _ _ _ _ _ _ _ _ _ _ _ _ hS3 (unhide hI2) hG ⟨Nat.le_succ_of_le (unhide hN).qa,Nat.le_succ_of_le (unhide hN).qb,Nat.le_succ_of_le (unhide hN).wa,Nat.le_succ_of_le (unhide hN).wb⟩
set_option maxHeartbeats 4000000 in
theorem br_none1 (b g gt n:Nat) (ki ix_ rm kd:Int) (lo:Bool) (A B:Sd) (w:World) (z0 z1 z2 z4 z8 z9 z10 z11 z12 z13 z14 z15 z16 z17 z18 z19 z20 z21 z22 z23 z24 z25 z26 z27 z28 z29 z30 z31 z32 z33 z34 z35 z36 z37 z38 z39 z40 z41 z42 z43 z44 z45 z46 z47 z49 z50 z51 z52 z53 z54 z55 z56 z57 z58 z59 z60 z61 z62 z63 z64 z65 z66 z67 z68 z69 z70 z71 z72 z73 z74 z75 z76 z77 z78 z79 z80 z81 z82 z83 z84 z85 z86 z87 z88 z89 z90 z91 z92 z93 z94 z95 z96 z97 z98 z99 z100 z101 z102 z103 z104 z105 z106 z107 z108 z109 z110 z111 z112 z113 z114 z115 z116 z117 z118 z119 z120 z121 z122 z123 z124 z125 z126 z127 z128 z129 z130 z131 z132 z133 z134 z135 z136 z137 z138 z139 z140 z141 z142 z143 z144 z145 z146 z147 z148 z149 z150 z151 z152 z153 z154 z155 z156 z157 z158 z159 z160 z161 z162 z163 z164 z165 z166 z167 z168 z169 z170 z171 z172 z173 z174 z175 z176 z177 z178 z179 z180 z181 z182 z183 z184 z185 z186 z187 z188 z189 z190 z191 z192 z193 z194 z195 z196 z197 z198 z199 z200 z201 z202 z203 z204 z205 z206 z207 z208 z209 z210 z211 z212 z213 z214 z215 z216 z217 z218 z219 z220 z221 z222 z223 z224 z225 z226 z227 z228 z229 z230 z231 z232 z233 z234 z235 z236 z237 z238 z239 z240 z241 z242:Value) (Q:Exit→Act→World→Prop) (hb:b≤w.heap.size) (hbg:b≤g) (hS:St b w g A B) (hI:Inv A B) (hN:Bd n A B) (hn:n≤400) (hgt:w.heap[gt]?=some (.cells ((cst ki ix_ rm lo)) 45 (0,0))) (hQp:∀ c a (d:Nat) v w,Q (.panic c) (Act.put a (some d) v) w→Q (.panic c) a w) (hd0:kd≠0) (hd1:kd≠1) (h0:B.w.length=0) (hQ:∀ u2 u8 u9 u10 u11 u12 u13 u14 u15 u49 u50 u51 u52 u53 u54 u55 u56 u57 u58 u59 u60 u61 u62 u63 u64 u65 u66 u67 u68 u69 u70 u71 u72 u73 u74 u75 u76 u77 u78 u79 u80 u81 u82 u83 u84 u85 u86 u87 u88 u89 u90 u91 u92 u93 u94 u95 u96 u97 u98 u99 u100 u101 u102 u103 u104 u105 u106 u107 u108 u109 u110 u111 u112 u113 u114 u115 u116 u117 u118 u119 u120 u121 u122 u123 u124 u125 u126 u127 u128 u129 u130 u131 u132 u133 u134 u135 u136 u137 u138 u139 u140 u141 u142 u143 u144 u145 u146 u147 u148 u149 u150 u151 u152 u153 u154 u155 u156 u157 u158 u159 u160 u161 u162 u163 u164 u165 u166 u167 u168 u169 u170 u171 u172 u173 u174 u175 u176 u177 u178 u179 u180 u181 u182 u183:Value,∀ (A' B':Sd) (w':World),St b w' g A' B'→Inv A' B'→Cg g b w w'→Bd (n+1) A' B'→Q .normal ⟨#[z0,z1,u2,.pointer (some ⟨g,0,none⟩),z4,.pointer (some ⟨gt,0,none⟩),.pointer (some ⟨g,8,none⟩),.pointer (some ⟨g,0,none⟩),u8,u9,u10,u11,u12,u13,u14,u15,z16,z17,z18,z19,z20,z21,z22,z23,z24,z25,z26,z27,z28,z29,z30,z31,z32,z33,z34,z35,z36,z37,z38,z39,z40,z41,z42,z43,z44,z45,z46,z47,.int .u64 kd,u49,u50,u51,u52,u53,u54,u55,u56,u57,u58,u59,u60,u61,u62,u63,u64,u65,u66,u67,u68,u69,u70,u71,u72,u73,u74,u75,u76,u77,u78,u79,u80,u81,u82,u83,u84,u85,u86,u87,u88,u89,u90,u91,u92,u93,u94,u95,u96,u97,u98,u99,u100,u101,u102,u103,u104,u105,u106,u107,u108,u109,u110,u111,u112,u113,u114,u115,u116,u117,u118,u119,u120,u121,u122,u123,u124,u125,u126,u127,u128,u129,u130,u131,u132,u133,u134,u135,u136,u137,u138,u139,u140,u141,u142,u143,u144,u145,u146,u147,u148,u149,u150,u151,u152,u153,u154,u155,u156,u157,u158,u159,u160,u161,u162,u163,u164,u165,u166,u167,u168,u169,u170,u171,u172,u173,u174,u175,u176,u177,u178,u179,u180,u181,u182,u183,z184,z185,z186,z187,z188,z189,z190,z191,z192,z193,z194,z195,z196,z197,z198,z199,z200,z201,z202,z203,z204,z205,z206,z207,z208,z209,z210,z211,z212,z213,z214,z215,z216,z217,z218,z219,z220,z221,z222,z223,z224,z225,z226,z227,z228,z229,z230,z231,z232,z233,z234,z235,z236,z237,z238,z239,z240,z241,z242],[]⟩ w'):Code.wp Try.prog oSwitch Q ⟨#[z0,z1,z2,.pointer (some ⟨g,0,none⟩),z4,.pointer (some ⟨gt,0,none⟩),.pointer (some ⟨g,8,none⟩),.pointer (some ⟨g,0,none⟩),z8,z9,z10,z11,z12,z13,z14,z15,z16,z17,z18,z19,z20,z21,z22,z23,z24,z25,z26,z27,z28,z29,z30,z31,z32,z33,z34,z35,z36,z37,z38,z39,z40,z41,z42,z43,z44,z45,z46,z47,.int .u64 kd,z49,z50,z51,z52,z53,z54,z55,z56,z57,z58,z59,z60,z61,z62,z63,z64,z65,z66,z67,z68,z69,z70,z71,z72,z73,z74,z75,z76,z77,z78,z79,z80,z81,z82,z83,z84,z85,z86,z87,z88,z89,z90,z91,z92,z93,z94,z95,z96,z97,z98,z99,z100,z101,z102,z103,z104,z105,z106,z107,z108,z109,z110,z111,z112,z113,z114,z115,z116,z117,z118,z119,z120,z121,z122,z123,z124,z125,z126,z127,z128,z129,z130,z131,z132,z133,z134,z135,z136,z137,z138,z139,z140,z141,z142,z143,z144,z145,z146,z147,z148,z149,z150,z151,z152,z153,z154,z155,z156,z157,z158,z159,z160,z161,z162,z163,z164,z165,z166,z167,z168,z169,z170,z171,z172,z173,z174,z175,z176,z177,z178,z179,z180,z181,z182,z183,z184,z185,z186,z187,z188,z189,z190,z191,z192,z193,z194,z195,z196,z197,z198,z199,z200,z201,z202,z203,z204,z205,z206,z207,z208,z209,z210,z211,z212,z213,z214,z215,z216,z217,z218,z219,z220,z221,z222,z223,z224,z225,z226,z227,z228,z229,z230,z231,z232,z233,z234,z235,z236,z237,z238,z239,z240,z241,z242],[]⟩ w:=by
 skip
 obtain ⟨x,y,qA,dA,vA,qB,dB,vB,hg,hA,hD,hXF,hU,hV⟩:=hS
 obtain ⟨wa,wc,hva,-⟩:=(hXF.own 5 _ rfl).lz
 dsimp only at hva
 subst hva
 obtain ⟨wn,hwn⟩:∃ n,n=(B.w.map unr).length:=⟨_,rfl⟩
 rw [← hwn] at hg hXF
 rw [List.length_map] at hwn
 have hXo:=hXF.old
 have hXG:Cgs g b w w:=⟨Cg.refl g b w,hb⟩
 have hne:g≠gt:=fun e=>by rw [e,hgt] at hg; cases hg
 replace hXF:=hide hXF; replace hA:=hide hA; replace hD:=hide hD; replace hU:=hide hU; replace hV:=hide hV; replace hI:=hide hI; replace hQ:=hide hQ; replace hN:=hide hN; replace hXG:=hide hXG; replace hQp:=hide hQp; replace hwn:=hide hwn
 conv=>arg 2; whnf
 go_upto_region 18 with fail
 have hB1:=(nilb w).add ⟨g,sg A.c x qA dA vA B.c y qB dB (.slice wa wn wc),43⟩ hg (Nat.zero_le _) (by intro y hy; cases hy)
 have hB:=hB1.add ⟨gt,(cst ki ix_ rm lo),45⟩ hgt (Nat.zero_le _) (by intro y hy; rw [List.nil_append,List.mem_singleton] at hy; rw [hy]; exact hne)
 simp only [List.nil_append,List.cons_append] at hB
 clear hB1 hg hgt hne
 obtain ⟨u0,hu_⟩:∃ u,u=w:=⟨_,rfl⟩
 have hB2:Bl (bare w) [⟨g,sg A.c x qA dA vA B.c y qB dB (.slice wa wn wc),43⟩,⟨gt,(cst ki ix_ rm lo),45⟩] u0:=hu_ ▸ hB
 replace hA:Hid (Co b u0 A.c x):=hu_ ▸ hA; replace hD:Hid (Co b u0 B.c y):=hu_ ▸ hD
 replace hXF:Hid (Fam b u0 (fam A B qA dA vA qB dB (.slice wa wn wc))):=hu_ ▸ hXF
 replace hXG:Hid (Cgs g b w u0):=hu_ ▸ hXG
 clear hB
 have hB:=hB2
 clear hB2
 rw [← hu_]
 clear hu_
 refine wp_region_lit ?_
 refine list_val (.bool false) (by kernel_rfl) (eql_u _ (.tmp 48) (.const (.int .u64 0)) kd 0 false rfl (by kernel_rfl) rfl (decide_eq_false hd0)) ?_
 simp only [nrm]
 (refine wpList_step fun K hK=>?_; replace hK:=hide hK; go_simp; refine unhide hK _ _ ?_; clear hK K)
 refine wpList_nil ?_
 replace hB:=hide hB
 go_upto_region 29 with fail
 replace hB:=unhide hB
 refine wp_region_lit ?_
 refine list_val (.bool false) (by kernel_rfl) (eql_u _ (.tmp 48) (.const (.int .u64 1)) kd 1 false rfl (by kernel_rfl) rfl (decide_eq_false hd1)) ?_
 simp only [nrm]
 (refine wpList_step fun K hK=>?_; replace hK:=hide hK; go_simp; refine unhide hK _ _ ?_; clear hK K)
 refine wpList_nil ?_
 replace hB:=hide hB
 go_upto_region 10 with fail
 replace hB:=unhide hB
 refine wp_region_lit ?_
 refine lvk (.pointer (some ⟨g,8,none⟩)) ?_
 simp only [nrm]
 refine lvk (.pointer (some ⟨g,8,none⟩)) ?_
 simp only [nrm]
 refine lvk (.pointer (some ⟨g,15,none⟩)) ?_
 simp only [nrm]
 refine list_val (.slice wa wn wc) (by kernel_rfl) (exec_csU _ (.tmp 51) rfl (g) 15 (by kernel_rfl) wa wn wc (seg_cell (nS2  _ _ _ _ _ _ _ _ _ _ _ _ _ _ _ _) (hB.get 0 (x:=⟨g,sg A.c x qA dA vA B.c y qB dB (.slice wa wn wc),43⟩) rfl) 15 (v:=.slice wa wn wc) rfl rfl)) ?_
 simp only [nrm]
 refine lvk (.int .i64 wn) ?_
 simp only [nrm]
 (refine wpList_step fun K hK=>?_; replace hK:=hide hK; go_simp; refine unhide hK _ _ ?_; clear hK K)
 refine wpList_nil ?_
 have hw0:wn=0:=by rw [unhide hwn]; exact h0
 subst hw0
 replace hB:=hide hB
 go_upto_region 11 with fail
 replace hB:=unhide hB
 refine wp_region_lit ?_
 refine lvk (.int .i64 0) ?_
 simp only [nrm]
 refine lvk (.bool false) ?_
 simp only [nrm]
 refine wpList_nil ?_
 go_wp2_with fail
 exact unhide hQ _ _ _ _ _ _ _ _ _ _ _ _ _ _ _ _ _ _ _ _ _ _ _ _ _ _ _ _ _ _ _ _ _ _ _ _ _ _ _ _ _ _ _ _ _ _ _ _ _ _ _ _ _ _ _ _ _ _ _ _ _ _ _ _ _ _ _ _ _ _ _ _ _ _ _ _ _ _ _ _ _ _ _ _ _ _ _ _ _ _ _ _ _ _ _ _ _ _ _ _ _ _ _ _ _ _ _ _ _ _ _ _ _ _ _ _ _ _ _ _ _ _ _ _ _ _ _ _ _ _ _ _ _ _ _ _ _ _ _ _ _ _ _ _ A B _ ⟨x,y,qA,dA,vA,qB,dB,(.slice wa 0 wc),hB.get 0 (x:=⟨g,sg A.c x qA dA vA B.c y qB dB (.slice wa 0 wc),43⟩) rfl,unhide hA,unhide hD,unhide hXF,unhide hU,unhide hV⟩ (unhide hI) (unhide hXG).cg ⟨Nat.le_succ_of_le (unhide hN).qa,Nat.le_succ_of_le (unhide hN).qb,Nat.le_succ_of_le (unhide hN).wa,Nat.le_succ_of_le (unhide hN).wb⟩
set_option maxHeartbeats 4000000 in
theorem br_idle1 (b g gt n:Nat) (ki ix_ rm kd:Int) (A B:Sd) (w:World) (z0 z1 z2 z4 z8 z9 z10 z11 z12 z13 z14 z15 z16 z17 z18 z19 z20 z21 z22 z23 z24 z25 z26 z27 z28 z29 z30 z31 z32 z33 z34 z35 z36 z37 z38 z39 z40 z41 z42 z43 z44 z45 z46 z47 z49 z50 z51 z52 z53 z54 z55 z56 z57 z58 z59 z60 z61 z62 z63 z64 z65 z66 z67 z68 z69 z70 z71 z72 z73 z74 z75 z76 z77 z78 z79 z80 z81 z82 z83 z84 z85 z86 z87 z88 z89 z90 z91 z92 z93 z94 z95 z96 z97 z98 z99 z100 z101 z102 z103 z104 z105 z106 z107 z108 z109 z110 z111 z112 z113 z114 z115 z116 z117 z118 z119 z120 z121 z122 z123 z124 z125 z126 z127 z128 z129 z130 z131 z132 z133 z134 z135 z136 z137 z138 z139 z140 z141 z142 z143 z144 z145 z146 z147 z148 z149 z150 z151 z152 z153 z154 z155 z156 z157 z158 z159 z160 z161 z162 z163 z164 z165 z166 z167 z168 z169 z170 z171 z172 z173 z174 z175 z176 z177 z178 z179 z180 z181 z182 z183 z184 z185 z186 z187 z188 z189 z190 z191 z192 z193 z194 z195 z196 z197 z198 z199 z200 z201 z202 z203 z204 z205 z206 z207 z208 z209 z210 z211 z212 z213 z214 z215 z216 z217 z218 z219 z220 z221 z222 z223 z224 z225 z226 z227 z228 z229 z230 z231 z232 z233 z234 z235 z236 z237 z238 z239 z240 z241 z242:Value) (Q:Exit→Act→World→Prop) (hb:b≤w.heap.size) (hbg:b≤g) (hS:St b w g A B) (hI:Inv A B) (hN:Bd n A B) (hn:n≤400) (hgt:w.heap[gt]?=some (.cells ((cst ki ix_ rm false)) 45 (0,0))) (hQp:∀ c a (d:Nat) v w,Q (.panic c) (Act.put a (some d) v) w→Q (.panic c) a w) (hd0:kd≠0) (hd1:kd≠1) (ua us:Int) (uB:List Int) (h0:0<B.w.length) (hu:B.w[ix ix_ B.w.length]?=some ⟨ua,us,uB,true⟩) (hQ:∀ u2 u8 u9 u10 u11 u12 u13 u14 u15 u49 u50 u51 u52 u53 u54 u55 u56 u57 u58 u59 u60 u61 u62 u63 u64 u65 u66 u67 u68 u69 u70 u71 u72 u73 u74 u75 u76 u77 u78 u79 u80 u81 u82 u83 u84 u85 u86 u87 u88 u89 u90 u91 u92 u93 u94 u95 u96 u97 u98 u99 u100 u101 u102 u103 u104 u105 u106 u107 u108 u109 u110 u111 u112 u113 u114 u115 u116 u117 u118 u119 u120 u121 u122 u123 u124 u125 u126 u127 u128 u129 u130 u131 u132 u133 u134 u135 u136 u137 u138 u139 u140 u141 u142 u143 u144 u145 u146 u147 u148 u149 u150 u151 u152 u153 u154 u155 u156 u157 u158 u159 u160 u161 u162 u163 u164 u165 u166 u167 u168 u169 u170 u171 u172 u173 u174 u175 u176 u177 u178 u179 u180 u181 u182 u183:Value,∀ (A' B':Sd) (w':World),St b w' g A' B'→Inv A' B'→Cg g b w w'→Bd (n+1) A' B'→Q .normal ⟨#[z0,z1,u2,.pointer (some ⟨g,0,none⟩),z4,.pointer (some ⟨gt,0,none⟩),.pointer (some ⟨g,8,none⟩),.pointer (some ⟨g,0,none⟩),u8,u9,u10,u11,u12,u13,u14,u15,z16,z17,z18,z19,z20,z21,z22,z23,z24,z25,z26,z27,z28,z29,z30,z31,z32,z33,z34,z35,z36,z37,z38,z39,z40,z41,z42,z43,z44,z45,z46,z47,.int .u64 kd,u49,u50,u51,u52,u53,u54,u55,u56,u57,u58,u59,u60,u61,u62,u63,u64,u65,u66,u67,u68,u69,u70,u71,u72,u73,u74,u75,u76,u77,u78,u79,u80,u81,u82,u83,u84,u85,u86,u87,u88,u89,u90,u91,u92,u93,u94,u95,u96,u97,u98,u99,u100,u101,u102,u103,u104,u105,u106,u107,u108,u109,u110,u111,u112,u113,u114,u115,u116,u117,u118,u119,u120,u121,u122,u123,u124,u125,u126,u127,u128,u129,u130,u131,u132,u133,u134,u135,u136,u137,u138,u139,u140,u141,u142,u143,u144,u145,u146,u147,u148,u149,u150,u151,u152,u153,u154,u155,u156,u157,u158,u159,u160,u161,u162,u163,u164,u165,u166,u167,u168,u169,u170,u171,u172,u173,u174,u175,u176,u177,u178,u179,u180,u181,u182,u183,z184,z185,z186,z187,z188,z189,z190,z191,z192,z193,z194,z195,z196,z197,z198,z199,z200,z201,z202,z203,z204,z205,z206,z207,z208,z209,z210,z211,z212,z213,z214,z215,z216,z217,z218,z219,z220,z221,z222,z223,z224,z225,z226,z227,z228,z229,z230,z231,z232,z233,z234,z235,z236,z237,z238,z239,z240,z241,z242],[]⟩ w'):Code.wp Try.prog oSwitch Q ⟨#[z0,z1,z2,.pointer (some ⟨g,0,none⟩),z4,.pointer (some ⟨gt,0,none⟩),.pointer (some ⟨g,8,none⟩),.pointer (some ⟨g,0,none⟩),z8,z9,z10,z11,z12,z13,z14,z15,z16,z17,z18,z19,z20,z21,z22,z23,z24,z25,z26,z27,z28,z29,z30,z31,z32,z33,z34,z35,z36,z37,z38,z39,z40,z41,z42,z43,z44,z45,z46,z47,.int .u64 kd,z49,z50,z51,z52,z53,z54,z55,z56,z57,z58,z59,z60,z61,z62,z63,z64,z65,z66,z67,z68,z69,z70,z71,z72,z73,z74,z75,z76,z77,z78,z79,z80,z81,z82,z83,z84,z85,z86,z87,z88,z89,z90,z91,z92,z93,z94,z95,z96,z97,z98,z99,z100,z101,z102,z103,z104,z105,z106,z107,z108,z109,z110,z111,z112,z113,z114,z115,z116,z117,z118,z119,z120,z121,z122,z123,z124,z125,z126,z127,z128,z129,z130,z131,z132,z133,z134,z135,z136,z137,z138,z139,z140,z141,z142,z143,z144,z145,z146,z147,z148,z149,z150,z151,z152,z153,z154,z155,z156,z157,z158,z159,z160,z161,z162,z163,z164,z165,z166,z167,z168,z169,z170,z171,z172,z173,z174,z175,z176,z177,z178,z179,z180,z181,z182,z183,z184,z185,z186,z187,z188,z189,z190,z191,z192,z193,z194,z195,z196,z197,z198,z199,z200,z201,z202,z203,z204,z205,z206,z207,z208,z209,z210,z211,z212,z213,z214,z215,z216,z217,z218,z219,z220,z221,z222,z223,z224,z225,z226,z227,z228,z229,z230,z231,z232,z233,z234,z235,z236,z237,z238,z239,z240,z241,z242],[]⟩ w:=by
 have hS2:∀ u ∈ B.w,u.B.length=105∧IsB u.B:=by
  obtain ⟨x,y,qA,dA,vA,qB,dB,vB,hg,hA,hD,hXF,hU,hV⟩:=hS
  exact hV
 obtain ⟨hw1,hw2,-⟩:=hI.swap.1.way _ (List.mem_of_getElem? hu)
 dsimp only at hw1 hw2
 have hI2:=((hI.swap).acked hw1).swap
 replace hI2:=hide hI2
 have hpl:=ix_lt ix_ h0
 have huB:=(hS2 _ (List.mem_of_getElem? hu)).1
 dsimp only at huB
 have hmx:=hN.wb
 obtain ⟨x,y,qA,dA,vA,qB,dB,vB,hg,hA,hD,hXF,hU,hV⟩:=hS
 obtain ⟨wa,wc,hva,-⟩:=(hXF.own 5 _ rfl).lz
 dsimp only at hva
 subst hva
 obtain ⟨wn,hwn⟩:∃ n,n=(B.w.map unr).length:=⟨_,rfl⟩
 rw [← hwn] at hg hXF
 rw [List.length_map] at hwn
 have hXo:=hXF.old
 have hXG:Cgs g b w w:=⟨Cg.refl g b w,hb⟩
 have hne:g≠gt:=fun e=>by rw [e,hgt] at hg; cases hg
 replace hXF:=hide hXF; replace hA:=hide hA; replace hD:=hide hD; replace hU:=hide hU; replace hV:=hide hV; replace hI:=hide hI; replace hQ:=hide hQ; replace hN:=hide hN; replace hXG:=hide hXG; replace hQp:=hide hQp; replace hwn:=hide hwn
 conv=>arg 2; whnf
 go_upto_region 18 with fail
 have hB1:=(nilb w).add ⟨g,sg A.c x qA dA vA B.c y qB dB (.slice wa wn wc),43⟩ hg (Nat.zero_le _) (by intro y hy; cases hy)
 have hB:=hB1.add ⟨gt,(cst ki ix_ rm false),45⟩ hgt (Nat.zero_le _) (by intro y hy; rw [List.nil_append,List.mem_singleton] at hy; rw [hy]; exact hne)
 simp only [List.nil_append,List.cons_append] at hB
 clear hB1 hg hgt hne
 obtain ⟨u0,hu_⟩:∃ u,u=w:=⟨_,rfl⟩
 have hB2:Bl (bare w) [⟨g,sg A.c x qA dA vA B.c y qB dB (.slice wa wn wc),43⟩,⟨gt,(cst ki ix_ rm false),45⟩] u0:=hu_ ▸ hB
 replace hA:Hid (Co b u0 A.c x):=hu_ ▸ hA; replace hD:Hid (Co b u0 B.c y):=hu_ ▸ hD
 replace hXF:Hid (Fam b u0 (fam A B qA dA vA qB dB (.slice wa wn wc))):=hu_ ▸ hXF
 replace hXG:Hid (Cgs g b w u0):=hu_ ▸ hXG
 clear hB
 have hB:=hB2
 clear hB2
 rw [← hu_]
 clear hu_
 refine wp_region_lit ?_
 refine list_val (.bool false) (by kernel_rfl) (eql_u _ (.tmp 48) (.const (.int .u64 0)) kd 0 false rfl (by kernel_rfl) rfl (decide_eq_false hd0)) ?_
 simp only [nrm]
 (refine wpList_step fun K hK=>?_; replace hK:=hide hK; go_simp; refine unhide hK _ _ ?_; clear hK K)
 refine wpList_nil ?_
 replace hB:=hide hB
 go_upto_region 29 with fail
 replace hB:=unhide hB
 refine wp_region_lit ?_
 refine list_val (.bool false) (by kernel_rfl) (eql_u _ (.tmp 48) (.const (.int .u64 1)) kd 1 false rfl (by kernel_rfl) rfl (decide_eq_false hd1)) ?_
 simp only [nrm]
 (refine wpList_step fun K hK=>?_; replace hK:=hide hK; go_simp; refine unhide hK _ _ ?_; clear hK K)
 refine wpList_nil ?_
 replace hB:=hide hB
 go_upto_region 10 with fail
 replace hB:=unhide hB
 refine wp_region_lit ?_
 refine lvk (.pointer (some ⟨g,8,none⟩)) ?_
 simp only [nrm]
 refine lvk (.pointer (some ⟨g,8,none⟩)) ?_
 simp only [nrm]
 refine lvk (.pointer (some ⟨g,15,none⟩)) ?_
 simp only [nrm]
 refine list_val (.slice wa wn wc) (by kernel_rfl) (exec_csU _ (.tmp 51) rfl (g) 15 (by kernel_rfl) wa wn wc (seg_cell (nS2  _ _ _ _ _ _ _ _ _ _ _ _ _ _ _ _) (hB.get 0 (x:=⟨g,sg A.c x qA dA vA B.c y qB dB (.slice wa wn wc),43⟩) rfl) 15 (v:=.slice wa wn wc) rfl rfl)) ?_
 simp only [nrm]
 refine lvk (.int .i64 wn) ?_
 simp only [nrm]
 (refine wpList_step fun K hK=>?_; replace hK:=hide hK; go_simp; refine unhide hK _ _ ?_; clear hK K)
 refine wpList_nil ?_
 obtain ⟨m,hm⟩:∃ m,m=B.w.length:=⟨_,rfl⟩
 have hwm:wn=m:=by rw [unhide hwn,hm]
 rw [← hm] at hpl h0 hu hmx
 have hixe:=ix_eq ix_ h0
 obtain ⟨p,hp⟩:∃ p,p=ix ix_ m:=⟨_,rfl⟩
 rw [← hp] at hpl hu hixe
 replace hm:=hide hm; replace hp:=hide hp
 subst hwm
 obtain ⟨pa,oa,haa,hrr⟩:=un_at ((unhide hXF).own 5 _ rfl) p _ hu
 subst haa
 replace hrr:Rg _ _ _ _:=hrr
 replace hrr:=hide hrr; replace hu:=hide hu; replace hixe:=hide hixe
 replace hB:=hide hB
 go_upto_region 11 with fail
 replace hB:=unhide hB
 refine wp_region_lit ?_
 refine lvk (.int .i64 wn) ?_
 simp only [nrm]
 refine list_val (.bool true) (by kernel_rfl) (gtr_i _ (.tmp 54) (.const (.int .i64 0)) (wn:Int) 0 true rfl (by kernel_rfl) rfl (by simp; omega)) ?_
 simp only [nrm]
 refine wpList_nil ?_
 replace hB:=hide hB
 go_upto_region 12 with fail
 replace hB:=unhide hB
 refine anyC_start 13 (fun v_=>v_.heap[g]?=some (.cells (sg A.c x qA dA vA B.c y qB dB (.slice (some ⟨pa,oa,none⟩) wn wc)) 43 (0,0))∧v_.heap[gt]?=some (.cells ((cst ki ix_ rm false)) 45 (0,0))∧Rg v_ pa (oa+108 * p) (unr ⟨ua,us,uB,true⟩)) (by kernel_rfl) ?_
 replace hrr:=hide ((unhide hrr).gr ((Gr.refl u0).drew))
 replace hA:=hide ((unhide hA).gr ((Gr.refl u0).drew))
 replace hD:=hide ((unhide hD).gr ((Gr.refl u0).drew))
 replace hXF:=hide ((unhide hXF).gr ((Gr.refl u0).drew))
 replace hXG:=hide ((unhide hXG).gr ((Gr.refl u0).drew))
 replace hB:=hB.drew
 generalize World.drew _=u1 at *
 simp only [List.size_toArray,List.length_cons,List.length_nil,Array.replicate,List.replicate]
 refine anyC_take (i:=0) (v:=(.pointer (some ⟨g,8,none⟩))) (fun v_=>v_.heap[g]?=some (.cells (sg A.c x qA dA vA B.c y qB dB (.slice (some ⟨pa,oa,none⟩) wn wc)) 43 (0,0))∧v_.heap[gt]?=some (.cells ((cst ki ix_ rm false)) 45 (0,0))∧Rg v_ pa (oa+108 * p) (unr ⟨ua,us,uB,true⟩)) (fun _ h_=>h_) (.inr (by kernel_rfl)) rfl (by kernel_rfl) (by kernel_rfl) (by kernel_rfl) (by decide) (by kernel_rfl) (by decide) (fun c_ _ w_ h_=>unhide hQp c_ _ _ _ w_ h_) (.inl ⟨by kernel_rfl,fun x_ hu=>by kernel_rfl⟩) ⟨(hB.get 0 (x:=⟨g,sg A.c x qA dA vA B.c y qB dB (.slice (some ⟨pa,oa,none⟩) wn wc),43⟩) rfl),(hB.get 1 (x:=⟨gt,(cst ki ix_ rm false),45⟩) rfl),(unhide hrr)⟩ ?_
 simp only [nrm]
 refine anyC_take (i:=1) (v:=(.pointer (some ⟨g,8,none⟩))) (fun v_=>v_.heap[g]?=some (.cells (sg A.c x qA dA vA B.c y qB dB (.slice (some ⟨pa,oa,none⟩) wn wc)) 43 (0,0))∧v_.heap[gt]?=some (.cells ((cst ki ix_ rm false)) 45 (0,0))∧Rg v_ pa (oa+108 * p) (unr ⟨ua,us,uB,true⟩)) (fun _ h_=>h_) (.inr (by kernel_rfl)) rfl (by kernel_rfl) (by kernel_rfl) (by kernel_rfl) (by decide) (by kernel_rfl) (by decide) (fun c_ _ w_ h_=>unhide hQp c_ _ _ _ w_ h_) (.inl ⟨by kernel_rfl,fun x_ hu=>by kernel_rfl⟩) ⟨(hB.get 0 (x:=⟨g,sg A.c x qA dA vA B.c y qB dB (.slice (some ⟨pa,oa,none⟩) wn wc),43⟩) rfl),(hB.get 1 (x:=⟨gt,(cst ki ix_ rm false),45⟩) rfl),(unhide hrr)⟩ ?_
 simp only [nrm]
 refine anyC_take (i:=2) (v:=(.pointer (some ⟨g,15,none⟩))) (fun v_=>v_.heap[g]?=some (.cells (sg A.c x qA dA vA B.c y qB dB (.slice (some ⟨pa,oa,none⟩) wn wc)) 43 (0,0))∧v_.heap[gt]?=some (.cells ((cst ki ix_ rm false)) 45 (0,0))∧Rg v_ pa (oa+108 * p) (unr ⟨ua,us,uB,true⟩)) (fun _ h_=>h_) (.inr (by kernel_rfl)) rfl (by kernel_rfl) (by kernel_rfl) (by kernel_rfl) (by decide) (by kernel_rfl) (by decide) (fun c_ _ w_ h_=>unhide hQp c_ _ _ _ w_ h_) (.inl ⟨by kernel_rfl,fun x_ hu=>by kernel_rfl⟩) ⟨(hB.get 0 (x:=⟨g,sg A.c x qA dA vA B.c y qB dB (.slice (some ⟨pa,oa,none⟩) wn wc),43⟩) rfl),(hB.get 1 (x:=⟨gt,(cst ki ix_ rm false),45⟩) rfl),(unhide hrr)⟩ ?_
 simp only [nrm]
 refine anyC_take (i:=3) (v:=(.slice (some ⟨pa,oa,none⟩) wn wc)) (fun v_=>v_.heap[g]?=some (.cells (sg A.c x qA dA vA B.c y qB dB (.slice (some ⟨pa,oa,none⟩) wn wc)) 43 (0,0))∧v_.heap[gt]?=some (.cells ((cst ki ix_ rm false)) 45 (0,0))∧Rg v_ pa (oa+108 * p) (unr ⟨ua,us,uB,true⟩)) (fun _ h_=>h_) (.inr (by kernel_rfl)) rfl (by kernel_rfl) (by kernel_rfl) (by kernel_rfl) (by decide) (by kernel_rfl) (by decide) (fun c_ _ w_ h_=>unhide hQp c_ _ _ _ w_ h_) (.inl ⟨by kernel_rfl,fun x_ hu=>exec_csU _ (.tmp 58) rfl (g) 15 (by kernel_rfl) (some ⟨pa,oa,none⟩) wn wc (seg_cell (nS2  _ _ _ _ _ _ _ _ _ _ _ _ _ _ _ _) hu.1 15 (v:=.slice (some ⟨pa,oa,none⟩) wn wc) rfl rfl)⟩) ⟨(hB.get 0 (x:=⟨g,sg A.c x qA dA vA B.c y qB dB (.slice (some ⟨pa,oa,none⟩) wn wc),43⟩) rfl),(hB.get 1 (x:=⟨gt,(cst ki ix_ rm false),45⟩) rfl),(unhide hrr)⟩ ?_
 simp only [nrm]
 refine anyC_take (i:=4) (v:=(.pointer (some ⟨gt,1,none⟩))) (fun v_=>v_.heap[g]?=some (.cells (sg A.c x qA dA vA B.c y qB dB (.slice (some ⟨pa,oa,none⟩) wn wc)) 43 (0,0))∧v_.heap[gt]?=some (.cells ((cst ki ix_ rm false)) 45 (0,0))∧Rg v_ pa (oa+108 * p) (unr ⟨ua,us,uB,true⟩)) (fun _ h_=>h_) (.inr (by kernel_rfl)) rfl (by kernel_rfl) (by kernel_rfl) (by kernel_rfl) (by decide) (by kernel_rfl) (by decide) (fun c_ _ w_ h_=>unhide hQp c_ _ _ _ w_ h_) (.inl ⟨by kernel_rfl,fun x_ hu=>by kernel_rfl⟩) ⟨(hB.get 0 (x:=⟨g,sg A.c x qA dA vA B.c y qB dB (.slice (some ⟨pa,oa,none⟩) wn wc),43⟩) rfl),(hB.get 1 (x:=⟨gt,(cst ki ix_ rm false),45⟩) rfl),(unhide hrr)⟩ ?_
 simp only [nrm]
 refine anyC_take (i:=5) (v:=(.int .i64 ix_)) (fun v_=>v_.heap[g]?=some (.cells (sg A.c x qA dA vA B.c y qB dB (.slice (some ⟨pa,oa,none⟩) wn wc)) 43 (0,0))∧v_.heap[gt]?=some (.cells ((cst ki ix_ rm false)) 45 (0,0))∧Rg v_ pa (oa+108 * p) (unr ⟨ua,us,uB,true⟩)) (fun _ h_=>h_) (.inr (by kernel_rfl)) rfl (by kernel_rfl) (by kernel_rfl) (by kernel_rfl) (by decide) (by kernel_rfl) (by decide) (fun c_ _ w_ h_=>unhide hQp c_ _ _ _ w_ h_) (.inl ⟨by kernel_rfl,fun x_ hu=>exec_ci _ (.tmp 60) rfl (gt) 1 (by kernel_rfl) ix_ (seg_cell (nST  _ _ _ _) hu.2.1 1 (v:=.int .i64 ix_) rfl rfl)⟩) ⟨(hB.get 0 (x:=⟨g,sg A.c x qA dA vA B.c y qB dB (.slice (some ⟨pa,oa,none⟩) wn wc),43⟩) rfl),(hB.get 1 (x:=⟨gt,(cst ki ix_ rm false),45⟩) rfl),(unhide hrr)⟩ ?_
 simp only [nrm]
 refine anyC_take (i:=6) (v:=(.int .u64 (ix_ % 18446744073709551616))) (fun v_=>v_.heap[g]?=some (.cells (sg A.c x qA dA vA B.c y qB dB (.slice (some ⟨pa,oa,none⟩) wn wc)) 43 (0,0))∧v_.heap[gt]?=some (.cells ((cst ki ix_ rm false)) 45 (0,0))∧Rg v_ pa (oa+108 * p) (unr ⟨ua,us,uB,true⟩)) (fun _ h_=>h_) (.inr (by kernel_rfl)) rfl (by kernel_rfl) (by kernel_rfl) (by kernel_rfl) (by decide) (by kernel_rfl) (by decide) (fun c_ _ w_ h_=>unhide hQp c_ _ _ _ w_ h_) (.inl ⟨by kernel_rfl,fun x_ hu=>conv_iuW _ (.tmp 61) ix_ rfl (by kernel_rfl) _ rfl⟩) ⟨(hB.get 0 (x:=⟨g,sg A.c x qA dA vA B.c y qB dB (.slice (some ⟨pa,oa,none⟩) wn wc),43⟩) rfl),(hB.get 1 (x:=⟨gt,(cst ki ix_ rm false),45⟩) rfl),(unhide hrr)⟩ ?_
 simp only [nrm]
 refine anyC_take (i:=7) (v:=(.int .i64 wn)) (fun v_=>v_.heap[g]?=some (.cells (sg A.c x qA dA vA B.c y qB dB (.slice (some ⟨pa,oa,none⟩) wn wc)) 43 (0,0))∧v_.heap[gt]?=some (.cells ((cst ki ix_ rm false)) 45 (0,0))∧Rg v_ pa (oa+108 * p) (unr ⟨ua,us,uB,true⟩)) (fun _ h_=>h_) (.inr (by kernel_rfl)) rfl (by kernel_rfl) (by kernel_rfl) (by kernel_rfl) (by decide) (by kernel_rfl) (by decide) (fun c_ _ w_ h_=>unhide hQp c_ _ _ _ w_ h_) (.inl ⟨by kernel_rfl,fun x_ hu=>by kernel_rfl⟩) ⟨(hB.get 0 (x:=⟨g,sg A.c x qA dA vA B.c y qB dB (.slice (some ⟨pa,oa,none⟩) wn wc),43⟩) rfl),(hB.get 1 (x:=⟨gt,(cst ki ix_ rm false),45⟩) rfl),(unhide hrr)⟩ ?_
 simp only [nrm]
 refine anyC_take (i:=8) (v:=(.int .u64 (wn:Int))) (fun v_=>v_.heap[g]?=some (.cells (sg A.c x qA dA vA B.c y qB dB (.slice (some ⟨pa,oa,none⟩) wn wc)) 43 (0,0))∧v_.heap[gt]?=some (.cells ((cst ki ix_ rm false)) 45 (0,0))∧Rg v_ pa (oa+108 * p) (unr ⟨ua,us,uB,true⟩)) (fun _ h_=>h_) (.inr (by kernel_rfl)) rfl (by kernel_rfl) (by kernel_rfl) (by kernel_rfl) (by decide) (by kernel_rfl) (by decide) (fun c_ _ w_ h_=>unhide hQp c_ _ _ _ w_ h_) (.inl ⟨by kernel_rfl,fun x_ hu=>conv_iuW _ (.tmp 63) (wn:Int) rfl (by kernel_rfl) _ (by omega)⟩) ⟨(hB.get 0 (x:=⟨g,sg A.c x qA dA vA B.c y qB dB (.slice (some ⟨pa,oa,none⟩) wn wc),43⟩) rfl),(hB.get 1 (x:=⟨gt,(cst ki ix_ rm false),45⟩) rfl),(unhide hrr)⟩ ?_
 simp only [nrm]
 refine anyC_take (i:=9) (v:=(.int .u64 (p:Int))) (fun v_=>v_.heap[g]?=some (.cells (sg A.c x qA dA vA B.c y qB dB (.slice (some ⟨pa,oa,none⟩) wn wc)) 43 (0,0))∧v_.heap[gt]?=some (.cells ((cst ki ix_ rm false)) 45 (0,0))∧Rg v_ pa (oa+108 * p) (unr ⟨ua,us,uB,true⟩)) (fun _ h_=>h_) (.inr (by kernel_rfl)) rfl (by kernel_rfl) (by kernel_rfl) (by kernel_rfl) (by decide) (by kernel_rfl) (by decide) (fun c_ _ w_ h_=>unhide hQp c_ _ _ _ w_ h_) (.inl ⟨by kernel_rfl,fun x_ hu=>rem_u _ (.tmp 62) (.tmp 64) (ix_ % 18446744073709551616) (wn:Int) rfl (by kernel_rfl) (by kernel_rfl) (Int.emod_nonneg _ (by decide)) (by omega) (by omega) _ (unhide hixe)⟩) ⟨(hB.get 0 (x:=⟨g,sg A.c x qA dA vA B.c y qB dB (.slice (some ⟨pa,oa,none⟩) wn wc),43⟩) rfl),(hB.get 1 (x:=⟨gt,(cst ki ix_ rm false),45⟩) rfl),(unhide hrr)⟩ ?_
 simp only [nrm]
 refine anyC_take (i:=10) (v:=(.pointer (some ⟨pa,oa+108 * p,none⟩))) (fun v_=>v_.heap[g]?=some (.cells (sg A.c x qA dA vA B.c y qB dB (.slice (some ⟨pa,oa,none⟩) wn wc)) 43 (0,0))∧v_.heap[gt]?=some (.cells ((cst ki ix_ rm false)) 45 (0,0))∧Rg v_ pa (oa+108 * p) (unr ⟨ua,us,uB,true⟩)) (fun _ h_=>h_) (.inr (by kernel_rfl)) rfl (by kernel_rfl) (by kernel_rfl) (by kernel_rfl) (by decide) (by kernel_rfl) (by decide) (fun c_ _ w_ h_=>unhide hQp c_ _ _ _ w_ h_) (.inl ⟨by kernel_rfl,fun x_ hu=>exec_isU _ (.tmp 59) (.tmp 65) rfl pa oa wn wc p (by kernel_rfl) (by kernel_rfl) hpl⟩) ⟨(hB.get 0 (x:=⟨g,sg A.c x qA dA vA B.c y qB dB (.slice (some ⟨pa,oa,none⟩) wn wc),43⟩) rfl),(hB.get 1 (x:=⟨gt,(cst ki ix_ rm false),45⟩) rfl),(unhide hrr)⟩ ?_
 simp only [nrm]
 refine anyC_take (i:=11) (v:=(.agg (fl [[.int .u32 ua],[.int .u32 us],bw uB,[.bool true]]))) (fun v_=>v_.heap[g]?=some (.cells (sg A.c x qA dA vA B.c y qB dB (.slice (some ⟨pa,oa,none⟩) wn wc)) 43 (0,0))∧v_.heap[gt]?=some (.cells ((cst ki ix_ rm false)) 45 (0,0))∧Rg v_ pa (oa+108 * p) (unr ⟨ua,us,uB,true⟩)) (fun _ h_=>h_) (.inr (by kernel_rfl)) rfl (by kernel_rfl) (by kernel_rfl) (by kernel_rfl) (by decide) (by kernel_rfl) (by decide) (fun c_ _ w_ h_=>unhide hQp c_ _ _ _ w_ h_) (.inl ⟨by kernel_rfl,fun x_ hu=>exec_lU _ (.tmp 66) rfl pa (oa+108 * p) (by kernel_rfl) ⟨ua,us,uB,true⟩ huB hu.2.2⟩) ⟨(hB.get 0 (x:=⟨g,sg A.c x qA dA vA B.c y qB dB (.slice (some ⟨pa,oa,none⟩) wn wc),43⟩) rfl),(hB.get 1 (x:=⟨gt,(cst ki ix_ rm false),45⟩) rfl),(unhide hrr)⟩ ?_
 simp only [nrm]
 refine anyC_one (i:=12) (by kernel_rfl) rfl (fun K hK=>?_)
 refine step_val (.pointer (some ⟨u1.heap.size,0,none⟩)) (u1.alloc (.cells (cu0) 53 (0,0))) (by kernel_rfl) (by kernel_rfl) ?_
 replace hB:=hB.new (cu0) 53
 simp only [List.nil_append,List.cons_append] at hB
 have hg:=(Gr.refl u1).alloc (.cells (cu0) 53 (0,0))
 have hgl14:=(unhide hXG).size
 replace hrr:=hide ((unhide hrr).gr hg)
 replace hA:=hide ((unhide hA).gr hg)
 replace hD:=hide ((unhide hD).gr hg)
 replace hXF:=hide ((unhide hXF).gr hg)
 replace hXG:=hide ((unhide hXG).gr hg)
 clear hg
 generalize World.alloc _ _=u2 at *
 generalize u1.heap.size=g14 at *
 refine hK.out _ _ ⟨(hB.get 0 (x:=⟨g,sg A.c x qA dA vA B.c y qB dB (.slice (some ⟨pa,oa,none⟩) wn wc),43⟩) rfl),(hB.get 1 (x:=⟨gt,(cst ki ix_ rm false),45⟩) rfl),(unhide hrr)⟩ (fun _=>?_)
 clear hK K
 simp only [nrm]
 refine anyC_last (by kernel_rfl) rfl (fun K hK=>?_)
 have hzz_:Hid (u2.heap[g14]?=some (.cells (cu0) 53 (0,0))):=hide (hB.get 2 (x:=⟨g14,cu0,53⟩) rfl)
 refine step_all 53 (.tmp 14) (.tmp 67) (g14) (S2:=[[.int .u32 ua],[.int .u32 us],bw uB,[.bool true]]) (by kernel_rfl) rfl (by kernel_rfl) (by kernel_rfl) hB 2 rfl ND (nD Z105_len _ _ _) (nD huB _ _ _) (by kernel_rfl) (oD _ rfl rfl rfl) ?_
 intro u3 hB_ hbt_
 clear hB
 replace hB:Bl (bare w) [⟨g,sg A.c x qA dA vA B.c y qB dB (.slice (some ⟨pa,oa,none⟩) wn wc),43⟩,⟨gt,(cst ki ix_ rm false),45⟩,⟨g14,fl [[.int .u32 ua],[.int .u32 us],bw uB,[.bool true]],53⟩] u3:=hB_
 clear hB_
 replace hA:=hide ((unhide hA).bz (unhide hzz_) hbt_)
 replace hD:=hide ((unhide hD).bz (unhide hzz_) hbt_)
 replace hXF:=hide ((unhide hXF).bo (unhide hzz_) hbt_ hXo hgl14)
 replace hXG:=hide ((unhide hXG).bl (unhide hzz_) hbt_ hgl14)
 clear hbt_ hzz_
 refine hK.out _ _ ?_
 clear hK K
 simp only [nrm]
 refine any_done (by kernel_rfl) ?_
 replace hB:=hide hB
 go_upto_region 13 with fail
 replace hB:=unhide hB
 refine wp_region_lit ?_
 refine lvk (.pointer (some ⟨gt,3,none⟩)) ?_
 simp only [nrm]
 refine list_val (.bool false) (by kernel_rfl) (exec_cb _ (.tmp 68) rfl (gt) 3 (by kernel_rfl) false (seg_cell (nST  _ _ _ _) (hB.get 1 (x:=⟨gt,(cst ki ix_ rm false),45⟩) rfl) 3 (v:=.bool false) rfl rfl)) ?_
 simp only [nrm]
 refine wpList_nil ?_
 replace hB:=hide hB
 go_upto_region 16 with fail
 replace hB:=unhide hB
 refine wp_region_lit ?_
 refine lvk (.pointer (some ⟨g,0,none⟩)) ?_
 simp only [nrm]
 refine list_val (.agg (fl [[.int .u32 ua],[.int .u32 us],bw uB,[.bool true]])) (by kernel_rfl) (exec_sw _ 53 (.tmp 14) rfl (g14) (by kernel_rfl) (hB.get 2 (x:=⟨g14,fl [[.int .u32 ua],[.int .u32 us],bw uB,[.bool true]],53⟩) rfl) ND (nD huB _ _ _) Try.underlying53 rfl (by kernel_rfl)) ?_
 simp only [nrm]
 refine lvk (.pointer (some ⟨gt,2,none⟩)) ?_
 simp only [nrm]
 refine list_val (.int .i64 rm) (by kernel_rfl) (exec_ci _ (.tmp 98) rfl (gt) 2 (by kernel_rfl) rm (seg_cell (nST  _ _ _ _) (hB.get 1 (x:=⟨gt,(cst ki ix_ rm false),45⟩) rfl) 2 (v:=.int .i64 rm) rfl rfl)) ?_
 simp only [nrm]
 have hS1:St b u3 g A B:=⟨x,y,qA,dA,vA,qB,dB,(.slice (some ⟨pa,oa,none⟩) wn wc),hB.get 0 (x:=⟨g,sg A.c x qA dA vA B.c y qB dB (.slice (some ⟨pa,oa,none⟩) wn wc),43⟩) rfl,unhide hA,unhide hD,unhide hXF,unhide hU,unhide hV⟩
 refine list_call 13 #[.pointer (some ⟨g,0,none⟩),.agg (fl [[.int .u32 ua],[.int .u32 us],bw uB,[.bool true]]),.int .i64 rm] (by kernel_rfl) (by kernel_rfl) ((shear_idle0 b g A B ua us rm uB u3 (Nat.le_trans hb (unhide hXG).size) hbg hS1 (unhide hI) hw1 hw2 huB).mono ?_)
 rintro r_ w1 ⟨rfl,hS3,hG3⟩
 refine ⟨_,rfl,?_⟩
 have hG:=(unhide hXG).cg.trans hG3
 clear hB
 have hB:=nilb w1
 simp only [nrm]
 refine lvk (.bool false) ?_
 simp only [nrm]
 refine wpList_nil ?_
 go_wp2_with fail
 exact unhide hQ _ _ _ _ _ _ _ _ _ _ _ _ _ _ _ _ _ _ _ _ _ _ _ _ _ _ _ _ _ _ _ _ _ _ _ _ _ _ _ _ _ _ _ _ _ _ _ _ _ _ _ _ _ _ _ _ _ _ _ _ _ _ _ _ _ _ _ _ _ _ _ _ _ _ _ _ _ _ _ _ _ _ _ _ _ _ _ _ _ _ _ _ _ _ _ _ _ _ _ _ _ _ _ _ _ _ _ _ _ _ _ _ _ _ _ _ _ _ _ _ _ _ _ _ _ _ _ _ _ _ _ _ _ _ _ _ _ _ _ _ _ _ _ _ _ _ _ hS3 (unhide hI2) hG ⟨Nat.le_succ_of_le (unhide hN).qa,Nat.le_succ_of_le (unhide hN).qb,Nat.le_succ_of_le (unhide hN).wa,Nat.le_succ_of_le (unhide hN).wb⟩
set_option maxHeartbeats 4000000 in
theorem br_unw1 (b g gt n:Nat) (ki ix_ rm kd:Int) (A B:Sd) (w:World) (z0 z1 z2 z4 z8 z9 z10 z11 z12 z13 z14 z15 z16 z17 z18 z19 z20 z21 z22 z23 z24 z25 z26 z27 z28 z29 z30 z31 z32 z33 z34 z35 z36 z37 z38 z39 z40 z41 z42 z43 z44 z45 z46 z47 z49 z50 z51 z52 z53 z54 z55 z56 z57 z58 z59 z60 z61 z62 z63 z64 z65 z66 z67 z68 z69 z70 z71 z72 z73 z74 z75 z76 z77 z78 z79 z80 z81 z82 z83 z84 z85 z86 z87 z88 z89 z90 z91 z92 z93 z94 z95 z96 z97 z98 z99 z100 z101 z102 z103 z104 z105 z106 z107 z108 z109 z110 z111 z112 z113 z114 z115 z116 z117 z118 z119 z120 z121 z122 z123 z124 z125 z126 z127 z128 z129 z130 z131 z132 z133 z134 z135 z136 z137 z138 z139 z140 z141 z142 z143 z144 z145 z146 z147 z148 z149 z150 z151 z152 z153 z154 z155 z156 z157 z158 z159 z160 z161 z162 z163 z164 z165 z166 z167 z168 z169 z170 z171 z172 z173 z174 z175 z176 z177 z178 z179 z180 z181 z182 z183 z184 z185 z186 z187 z188 z189 z190 z191 z192 z193 z194 z195 z196 z197 z198 z199 z200 z201 z202 z203 z204 z205 z206 z207 z208 z209 z210 z211 z212 z213 z214 z215 z216 z217 z218 z219 z220 z221 z222 z223 z224 z225 z226 z227 z228 z229 z230 z231 z232 z233 z234 z235 z236 z237 z238 z239 z240 z241 z242:Value) (Q:Exit→Act→World→Prop) (hb:b≤w.heap.size) (hbg:b≤g) (hS:St b w g A B) (hI:Inv A B) (hN:Bd n A B) (hn:n≤400) (hgt:w.heap[gt]?=some (.cells ((cst ki ix_ rm false)) 45 (0,0))) (hQp:∀ c a (d:Nat) v w,Q (.panic c) (Act.put a (some d) v) w→Q (.panic c) a w) (hd0:kd≠0) (hd1:kd≠1) (ua us:Int) (uB:List Int) (h0:0<B.w.length) (hu:B.w[ix ix_ B.w.length]?=some ⟨ua,us,uB,false⟩) (hwt:wt (ak A.c ua).1 us rm=false) (hQ:∀ u2 u8 u9 u10 u11 u12 u13 u14 u15 u49 u50 u51 u52 u53 u54 u55 u56 u57 u58 u59 u60 u61 u62 u63 u64 u65 u66 u67 u68 u69 u70 u71 u72 u73 u74 u75 u76 u77 u78 u79 u80 u81 u82 u83 u84 u85 u86 u87 u88 u89 u90 u91 u92 u93 u94 u95 u96 u97 u98 u99 u100 u101 u102 u103 u104 u105 u106 u107 u108 u109 u110 u111 u112 u113 u114 u115 u116 u117 u118 u119 u120 u121 u122 u123 u124 u125 u126 u127 u128 u129 u130 u131 u132 u133 u134 u135 u136 u137 u138 u139 u140 u141 u142 u143 u144 u145 u146 u147 u148 u149 u150 u151 u152 u153 u154 u155 u156 u157 u158 u159 u160 u161 u162 u163 u164 u165 u166 u167 u168 u169 u170 u171 u172 u173 u174 u175 u176 u177 u178 u179 u180 u181 u182 u183:Value,∀ (A' B':Sd) (w':World),St b w' g A' B'→Inv A' B'→Cg g b w w'→Bd (n+1) A' B'→Q .normal ⟨#[z0,z1,u2,.pointer (some ⟨g,0,none⟩),z4,.pointer (some ⟨gt,0,none⟩),.pointer (some ⟨g,8,none⟩),.pointer (some ⟨g,0,none⟩),u8,u9,u10,u11,u12,u13,u14,u15,z16,z17,z18,z19,z20,z21,z22,z23,z24,z25,z26,z27,z28,z29,z30,z31,z32,z33,z34,z35,z36,z37,z38,z39,z40,z41,z42,z43,z44,z45,z46,z47,.int .u64 kd,u49,u50,u51,u52,u53,u54,u55,u56,u57,u58,u59,u60,u61,u62,u63,u64,u65,u66,u67,u68,u69,u70,u71,u72,u73,u74,u75,u76,u77,u78,u79,u80,u81,u82,u83,u84,u85,u86,u87,u88,u89,u90,u91,u92,u93,u94,u95,u96,u97,u98,u99,u100,u101,u102,u103,u104,u105,u106,u107,u108,u109,u110,u111,u112,u113,u114,u115,u116,u117,u118,u119,u120,u121,u122,u123,u124,u125,u126,u127,u128,u129,u130,u131,u132,u133,u134,u135,u136,u137,u138,u139,u140,u141,u142,u143,u144,u145,u146,u147,u148,u149,u150,u151,u152,u153,u154,u155,u156,u157,u158,u159,u160,u161,u162,u163,u164,u165,u166,u167,u168,u169,u170,u171,u172,u173,u174,u175,u176,u177,u178,u179,u180,u181,u182,u183,z184,z185,z186,z187,z188,z189,z190,z191,z192,z193,z194,z195,z196,z197,z198,z199,z200,z201,z202,z203,z204,z205,z206,z207,z208,z209,z210,z211,z212,z213,z214,z215,z216,z217,z218,z219,z220,z221,z222,z223,z224,z225,z226,z227,z228,z229,z230,z231,z232,z233,z234,z235,z236,z237,z238,z239,z240,z241,z242],[]⟩ w'):Code.wp Try.prog oSwitch Q ⟨#[z0,z1,z2,.pointer (some ⟨g,0,none⟩),z4,.pointer (some ⟨gt,0,none⟩),.pointer (some ⟨g,8,none⟩),.pointer (some ⟨g,0,none⟩),z8,z9,z10,z11,z12,z13,z14,z15,z16,z17,z18,z19,z20,z21,z22,z23,z24,z25,z26,z27,z28,z29,z30,z31,z32,z33,z34,z35,z36,z37,z38,z39,z40,z41,z42,z43,z44,z45,z46,z47,.int .u64 kd,z49,z50,z51,z52,z53,z54,z55,z56,z57,z58,z59,z60,z61,z62,z63,z64,z65,z66,z67,z68,z69,z70,z71,z72,z73,z74,z75,z76,z77,z78,z79,z80,z81,z82,z83,z84,z85,z86,z87,z88,z89,z90,z91,z92,z93,z94,z95,z96,z97,z98,z99,z100,z101,z102,z103,z104,z105,z106,z107,z108,z109,z110,z111,z112,z113,z114,z115,z116,z117,z118,z119,z120,z121,z122,z123,z124,z125,z126,z127,z128,z129,z130,z131,z132,z133,z134,z135,z136,z137,z138,z139,z140,z141,z142,z143,z144,z145,z146,z147,z148,z149,z150,z151,z152,z153,z154,z155,z156,z157,z158,z159,z160,z161,z162,z163,z164,z165,z166,z167,z168,z169,z170,z171,z172,z173,z174,z175,z176,z177,z178,z179,z180,z181,z182,z183,z184,z185,z186,z187,z188,z189,z190,z191,z192,z193,z194,z195,z196,z197,z198,z199,z200,z201,z202,z203,z204,z205,z206,z207,z208,z209,z210,z211,z212,z213,z214,z215,z216,z217,z218,z219,z220,z221,z222,z223,z224,z225,z226,z227,z228,z229,z230,z231,z232,z233,z234,z235,z236,z237,z238,z239,z240,z241,z242],[]⟩ w:=by
 have hS2:∀ u ∈ B.w,u.B.length=105∧IsB u.B:=by
  obtain ⟨x,y,qA,dA,vA,qB,dB,vB,hg,hA,hD,hXF,hU,hV⟩:=hS
  exact hV
 obtain ⟨hw1,hw2,-⟩:=hI.swap.1.way _ (List.mem_of_getElem? hu)
 dsimp only at hw1 hw2
 have hI2:=((hI.swap).acked hw1).swap
 replace hI2:=hide hI2
 have hpl:=ix_lt ix_ h0
 have huB:=(hS2 _ (List.mem_of_getElem? hu)).1
 dsimp only at huB
 have hmx:=hN.wb
 obtain ⟨x,y,qA,dA,vA,qB,dB,vB,hg,hA,hD,hXF,hU,hV⟩:=hS
 obtain ⟨wa,wc,hva,-⟩:=(hXF.own 5 _ rfl).lz
 dsimp only at hva
 subst hva
 obtain ⟨wn,hwn⟩:∃ n,n=(B.w.map unr).length:=⟨_,rfl⟩
 rw [← hwn] at hg hXF
 rw [List.length_map] at hwn
 have hXo:=hXF.old
 have hXG:Cgs g b w w:=⟨Cg.refl g b w,hb⟩
 have hne:g≠gt:=fun e=>by rw [e,hgt] at hg; cases hg
 replace hXF:=hide hXF; replace hA:=hide hA; replace hD:=hide hD; replace hU:=hide hU; replace hV:=hide hV; replace hI:=hide hI; replace hQ:=hide hQ; replace hN:=hide hN; replace hXG:=hide hXG; replace hQp:=hide hQp; replace hwn:=hide hwn
 conv=>arg 2; whnf
 go_upto_region 18 with fail
 have hB1:=(nilb w).add ⟨g,sg A.c x qA dA vA B.c y qB dB (.slice wa wn wc),43⟩ hg (Nat.zero_le _) (by intro y hy; cases hy)
 have hB:=hB1.add ⟨gt,(cst ki ix_ rm false),45⟩ hgt (Nat.zero_le _) (by intro y hy; rw [List.nil_append,List.mem_singleton] at hy; rw [hy]; exact hne)
 simp only [List.nil_append,List.cons_append] at hB
 clear hB1 hg hgt hne
 obtain ⟨u0,hu_⟩:∃ u,u=w:=⟨_,rfl⟩
 have hB2:Bl (bare w) [⟨g,sg A.c x qA dA vA B.c y qB dB (.slice wa wn wc),43⟩,⟨gt,(cst ki ix_ rm false),45⟩] u0:=hu_ ▸ hB
 replace hA:Hid (Co b u0 A.c x):=hu_ ▸ hA; replace hD:Hid (Co b u0 B.c y):=hu_ ▸ hD
 replace hXF:Hid (Fam b u0 (fam A B qA dA vA qB dB (.slice wa wn wc))):=hu_ ▸ hXF
 replace hXG:Hid (Cgs g b w u0):=hu_ ▸ hXG
 clear hB
 have hB:=hB2
 clear hB2
 rw [← hu_]
 clear hu_
 refine wp_region_lit ?_
 refine list_val (.bool false) (by kernel_rfl) (eql_u _ (.tmp 48) (.const (.int .u64 0)) kd 0 false rfl (by kernel_rfl) rfl (decide_eq_false hd0)) ?_
 simp only [nrm]
 (refine wpList_step fun K hK=>?_; replace hK:=hide hK; go_simp; refine unhide hK _ _ ?_; clear hK K)
 refine wpList_nil ?_
 replace hB:=hide hB
 go_upto_region 29 with fail
 replace hB:=unhide hB
 refine wp_region_lit ?_
 refine list_val (.bool false) (by kernel_rfl) (eql_u _ (.tmp 48) (.const (.int .u64 1)) kd 1 false rfl (by kernel_rfl) rfl (decide_eq_false hd1)) ?_
 simp only [nrm]
 (refine wpList_step fun K hK=>?_; replace hK:=hide hK; go_simp; refine unhide hK _ _ ?_; clear hK K)
 refine wpList_nil ?_
 replace hB:=hide hB
 go_upto_region 10 with fail
 replace hB:=unhide hB
 refine wp_region_lit ?_
 refine lvk (.pointer (some ⟨g,8,none⟩)) ?_
 simp only [nrm]
 refine lvk (.pointer (some ⟨g,8,none⟩)) ?_
 simp only [nrm]
 refine lvk (.pointer (some ⟨g,15,none⟩)) ?_
 simp only [nrm]
 refine list_val (.slice wa wn wc) (by kernel_rfl) (exec_csU _ (.tmp 51) rfl (g) 15 (by kernel_rfl) wa wn wc (seg_cell (nS2  _ _ _ _ _ _ _ _ _ _ _ _ _ _ _ _) (hB.get 0 (x:=⟨g,sg A.c x qA dA vA B.c y qB dB (.slice wa wn wc),43⟩) rfl) 15 (v:=.slice wa wn wc) rfl rfl)) ?_
 simp only [nrm]
 refine lvk (.int .i64 wn) ?_
 simp only [nrm]
 (refine wpList_step fun K hK=>?_; replace hK:=hide hK; go_simp; refine unhide hK _ _ ?_; clear hK K)
 refine wpList_nil ?_
 obtain ⟨m,hm⟩:∃ m,m=B.w.length:=⟨_,rfl⟩
 have hwm:wn=m:=by rw [unhide hwn,hm]
 rw [← hm] at hpl h0 hu hmx
 have hixe:=ix_eq ix_ h0
 obtain ⟨p,hp⟩:∃ p,p=ix ix_ m:=⟨_,rfl⟩
 rw [← hp] at hpl hu hixe
 replace hm:=hide hm; replace hp:=hide hp
 subst hwm
 obtain ⟨pa,oa,haa,hrr⟩:=un_at ((unhide hXF).own 5 _ rfl) p _ hu
 subst haa
 replace hrr:Rg _ _ _ _:=hrr
 replace hrr:=hide hrr; replace hu:=hide hu; replace hixe:=hide hixe
 replace hB:=hide hB
 go_upto_region 11 with fail
 replace hB:=unhide hB
 refine wp_region_lit ?_
 refine lvk (.int .i64 wn) ?_
 simp only [nrm]
 refine list_val (.bool true) (by kernel_rfl) (gtr_i _ (.tmp 54) (.const (.int .i64 0)) (wn:Int) 0 true rfl (by kernel_rfl) rfl (by simp; omega)) ?_
 simp only [nrm]
 refine wpList_nil ?_
 replace hB:=hide hB
 go_upto_region 12 with fail
 replace hB:=unhide hB
 refine anyC_start 13 (fun v_=>v_.heap[g]?=some (.cells (sg A.c x qA dA vA B.c y qB dB (.slice (some ⟨pa,oa,none⟩) wn wc)) 43 (0,0))∧v_.heap[gt]?=some (.cells ((cst ki ix_ rm false)) 45 (0,0))∧Rg v_ pa (oa+108 * p) (unr ⟨ua,us,uB,false⟩)) (by kernel_rfl) ?_
 replace hrr:=hide ((unhide hrr).gr ((Gr.refl u0).drew))
 replace hA:=hide ((unhide hA).gr ((Gr.refl u0).drew))
 replace hD:=hide ((unhide hD).gr ((Gr.refl u0).drew))
 replace hXF:=hide ((unhide hXF).gr ((Gr.refl u0).drew))
 replace hXG:=hide ((unhide hXG).gr ((Gr.refl u0).drew))
 replace hB:=hB.drew
 generalize World.drew _=u1 at *
 simp only [List.size_toArray,List.length_cons,List.length_nil,Array.replicate,List.replicate]
 refine anyC_take (i:=0) (v:=(.pointer (some ⟨g,8,none⟩))) (fun v_=>v_.heap[g]?=some (.cells (sg A.c x qA dA vA B.c y qB dB (.slice (some ⟨pa,oa,none⟩) wn wc)) 43 (0,0))∧v_.heap[gt]?=some (.cells ((cst ki ix_ rm false)) 45 (0,0))∧Rg v_ pa (oa+108 * p) (unr ⟨ua,us,uB,false⟩)) (fun _ h_=>h_) (.inr (by kernel_rfl)) rfl (by kernel_rfl) (by kernel_rfl) (by kernel_rfl) (by decide) (by kernel_rfl) (by decide) (fun c_ _ w_ h_=>unhide hQp c_ _ _ _ w_ h_) (.inl ⟨by kernel_rfl,fun x_ hu=>by kernel_rfl⟩) ⟨(hB.get 0 (x:=⟨g,sg A.c x qA dA vA B.c y qB dB (.slice (some ⟨pa,oa,none⟩) wn wc),43⟩) rfl),(hB.get 1 (x:=⟨gt,(cst ki ix_ rm false),45⟩) rfl),(unhide hrr)⟩ ?_
 simp only [nrm]
 refine anyC_take (i:=1) (v:=(.pointer (some ⟨g,8,none⟩))) (fun v_=>v_.heap[g]?=some (.cells (sg A.c x qA dA vA B.c y qB dB (.slice (some ⟨pa,oa,none⟩) wn wc)) 43 (0,0))∧v_.heap[gt]?=some (.cells ((cst ki ix_ rm false)) 45 (0,0))∧Rg v_ pa (oa+108 * p) (unr ⟨ua,us,uB,false⟩)) (fun _ h_=>h_) (.inr (by kernel_rfl)) rfl (by kernel_rfl) (by kernel_rfl) (by kernel_rfl) (by decide) (by kernel_rfl) (by decide) (fun c_ _ w_ h_=>unhide hQp c_ _ _ _ w_ h_) (.inl ⟨by kernel_rfl,fun x_ hu=>by kernel_rfl⟩) ⟨(hB.get 0 (x:=⟨g,sg A.c x qA dA vA B.c y qB dB (.slice (some ⟨pa,oa,none⟩) wn wc),43⟩) rfl),(hB.get 1 (x:=⟨gt,(cst ki ix_ rm false),45⟩) rfl),(unhide hrr)⟩ ?_
 simp only [nrm]
 refine anyC_take (i:=2) (v:=(.pointer (some ⟨g,15,none⟩))) (fun v_=>v_.heap[g]?=some (.cells (sg A.c x qA dA vA B.c y qB dB (.slice (some ⟨pa,oa,none⟩) wn wc)) 43 (0,0))∧v_.heap[gt]?=some (.cells ((cst ki ix_ rm false)) 45 (0,0))∧Rg v_ pa (oa+108 * p) (unr ⟨ua,us,uB,false⟩)) (fun _ h_=>h_) (.inr (by kernel_rfl)) rfl (by kernel_rfl) (by kernel_rfl) (by kernel_rfl) (by decide) (by kernel_rfl) (by decide) (fun c_ _ w_ h_=>unhide hQp c_ _ _ _ w_ h_) (.inl ⟨by kernel_rfl,fun x_ hu=>by kernel_rfl⟩) ⟨(hB.get 0 (x:=⟨g,sg A.c x qA dA vA B.c y qB dB (.slice (some ⟨pa,oa,none⟩) wn wc),43⟩) rfl),(hB.get 1 (x:=⟨gt,(cst ki ix_ rm false),45⟩) rfl),(unhide hrr)⟩ ?_
 simp only [nrm]
 refine anyC_take (i:=3) (v:=(.slice (some ⟨pa,oa,none⟩) wn wc)) (fun v_=>v_.heap[g]?=some (.cells (sg A.c x qA dA vA B.c y qB dB (.slice (some ⟨pa,oa,none⟩) wn wc)) 43 (0,0))∧v_.heap[gt]?=some (.cells ((cst ki ix_ rm false)) 45 (0,0))∧Rg v_ pa (oa+108 * p) (unr ⟨ua,us,uB,false⟩)) (fun _ h_=>h_) (.inr (by kernel_rfl)) rfl (by kernel_rfl) (by kernel_rfl) (by kernel_rfl) (by decide) (by kernel_rfl) (by decide) (fun c_ _ w_ h_=>unhide hQp c_ _ _ _ w_ h_) (.inl ⟨by kernel_rfl,fun x_ hu=>exec_csU _ (.tmp 58) rfl (g) 15 (by kernel_rfl) (some ⟨pa,oa,none⟩) wn wc (seg_cell (nS2  _ _ _ _ _ _ _ _ _ _ _ _ _ _ _ _) hu.1 15 (v:=.slice (some ⟨pa,oa,none⟩) wn wc) rfl rfl)⟩) ⟨(hB.get 0 (x:=⟨g,sg A.c x qA dA vA B.c y qB dB (.slice (some ⟨pa,oa,none⟩) wn wc),43⟩) rfl),(hB.get 1 (x:=⟨gt,(cst ki ix_ rm false),45⟩) rfl),(unhide hrr)⟩ ?_
 simp only [nrm]
 refine anyC_take (i:=4) (v:=(.pointer (some ⟨gt,1,none⟩))) (fun v_=>v_.heap[g]?=some (.cells (sg A.c x qA dA vA B.c y qB dB (.slice (some ⟨pa,oa,none⟩) wn wc)) 43 (0,0))∧v_.heap[gt]?=some (.cells ((cst ki ix_ rm false)) 45 (0,0))∧Rg v_ pa (oa+108 * p) (unr ⟨ua,us,uB,false⟩)) (fun _ h_=>h_) (.inr (by kernel_rfl)) rfl (by kernel_rfl) (by kernel_rfl) (by kernel_rfl) (by decide) (by kernel_rfl) (by decide) (fun c_ _ w_ h_=>unhide hQp c_ _ _ _ w_ h_) (.inl ⟨by kernel_rfl,fun x_ hu=>by kernel_rfl⟩) ⟨(hB.get 0 (x:=⟨g,sg A.c x qA dA vA B.c y qB dB (.slice (some ⟨pa,oa,none⟩) wn wc),43⟩) rfl),(hB.get 1 (x:=⟨gt,(cst ki ix_ rm false),45⟩) rfl),(unhide hrr)⟩ ?_
 simp only [nrm]
 refine anyC_take (i:=5) (v:=(.int .i64 ix_)) (fun v_=>v_.heap[g]?=some (.cells (sg A.c x qA dA vA B.c y qB dB (.slice (some ⟨pa,oa,none⟩) wn wc)) 43 (0,0))∧v_.heap[gt]?=some (.cells ((cst ki ix_ rm false)) 45 (0,0))∧Rg v_ pa (oa+108 * p) (unr ⟨ua,us,uB,false⟩)) (fun _ h_=>h_) (.inr (by kernel_rfl)) rfl (by kernel_rfl) (by kernel_rfl) (by kernel_rfl) (by decide) (by kernel_rfl) (by decide) (fun c_ _ w_ h_=>unhide hQp c_ _ _ _ w_ h_) (.inl ⟨by kernel_rfl,fun x_ hu=>exec_ci _ (.tmp 60) rfl (gt) 1 (by kernel_rfl) ix_ (seg_cell (nST  _ _ _ _) hu.2.1 1 (v:=.int .i64 ix_) rfl rfl)⟩) ⟨(hB.get 0 (x:=⟨g,sg A.c x qA dA vA B.c y qB dB (.slice (some ⟨pa,oa,none⟩) wn wc),43⟩) rfl),(hB.get 1 (x:=⟨gt,(cst ki ix_ rm false),45⟩) rfl),(unhide hrr)⟩ ?_
 simp only [nrm]
 refine anyC_take (i:=6) (v:=(.int .u64 (ix_ % 18446744073709551616))) (fun v_=>v_.heap[g]?=some (.cells (sg A.c x qA dA vA B.c y qB dB (.slice (some ⟨pa,oa,none⟩) wn wc)) 43 (0,0))∧v_.heap[gt]?=some (.cells ((cst ki ix_ rm false)) 45 (0,0))∧Rg v_ pa (oa+108 * p) (unr ⟨ua,us,uB,false⟩)) (fun _ h_=>h_) (.inr (by kernel_rfl)) rfl (by kernel_rfl) (by kernel_rfl) (by kernel_rfl) (by decide) (by kernel_rfl) (by decide) (fun c_ _ w_ h_=>unhide hQp c_ _ _ _ w_ h_) (.inl ⟨by kernel_rfl,fun x_ hu=>conv_iuW _ (.tmp 61) ix_ rfl (by kernel_rfl) _ rfl⟩) ⟨(hB.get 0 (x:=⟨g,sg A.c x qA dA vA B.c y qB dB (.slice (some ⟨pa,oa,none⟩) wn wc),43⟩) rfl),(hB.get 1 (x:=⟨gt,(cst ki ix_ rm false),45⟩) rfl),(unhide hrr)⟩ ?_
 simp only [nrm]
 refine anyC_take (i:=7) (v:=(.int .i64 wn)) (fun v_=>v_.heap[g]?=some (.cells (sg A.c x qA dA vA B.c y qB dB (.slice (some ⟨pa,oa,none⟩) wn wc)) 43 (0,0))∧v_.heap[gt]?=some (.cells ((cst ki ix_ rm false)) 45 (0,0))∧Rg v_ pa (oa+108 * p) (unr ⟨ua,us,uB,false⟩)) (fun _ h_=>h_) (.inr (by kernel_rfl)) rfl (by kernel_rfl) (by kernel_rfl) (by kernel_rfl) (by decide) (by kernel_rfl) (by decide) (fun c_ _ w_ h_=>unhide hQp c_ _ _ _ w_ h_) (.inl ⟨by kernel_rfl,fun x_ hu=>by kernel_rfl⟩) ⟨(hB.get 0 (x:=⟨g,sg A.c x qA dA vA B.c y qB dB (.slice (some ⟨pa,oa,none⟩) wn wc),43⟩) rfl),(hB.get 1 (x:=⟨gt,(cst ki ix_ rm false),45⟩) rfl),(unhide hrr)⟩ ?_
 simp only [nrm]
 refine anyC_take (i:=8) (v:=(.int .u64 (wn:Int))) (fun v_=>v_.heap[g]?=some (.cells (sg A.c x qA dA vA B.c y qB dB (.slice (some ⟨pa,oa,none⟩) wn wc)) 43 (0,0))∧v_.heap[gt]?=some (.cells ((cst ki ix_ rm false)) 45 (0,0))∧Rg v_ pa (oa+108 * p) (unr ⟨ua,us,uB,false⟩)) (fun _ h_=>h_) (.inr (by kernel_rfl)) rfl (by kernel_rfl) (by kernel_rfl) (by kernel_rfl) (by decide) (by kernel_rfl) (by decide) (fun c_ _ w_ h_=>unhide hQp c_ _ _ _ w_ h_) (.inl ⟨by kernel_rfl,fun x_ hu=>conv_iuW _ (.tmp 63) (wn:Int) rfl (by kernel_rfl) _ (by omega)⟩) ⟨(hB.get 0 (x:=⟨g,sg A.c x qA dA vA B.c y qB dB (.slice (some ⟨pa,oa,none⟩) wn wc),43⟩) rfl),(hB.get 1 (x:=⟨gt,(cst ki ix_ rm false),45⟩) rfl),(unhide hrr)⟩ ?_
 simp only [nrm]
 refine anyC_take (i:=9) (v:=(.int .u64 (p:Int))) (fun v_=>v_.heap[g]?=some (.cells (sg A.c x qA dA vA B.c y qB dB (.slice (some ⟨pa,oa,none⟩) wn wc)) 43 (0,0))∧v_.heap[gt]?=some (.cells ((cst ki ix_ rm false)) 45 (0,0))∧Rg v_ pa (oa+108 * p) (unr ⟨ua,us,uB,false⟩)) (fun _ h_=>h_) (.inr (by kernel_rfl)) rfl (by kernel_rfl) (by kernel_rfl) (by kernel_rfl) (by decide) (by kernel_rfl) (by decide) (fun c_ _ w_ h_=>unhide hQp c_ _ _ _ w_ h_) (.inl ⟨by kernel_rfl,fun x_ hu=>rem_u _ (.tmp 62) (.tmp 64) (ix_ % 18446744073709551616) (wn:Int) rfl (by kernel_rfl) (by kernel_rfl) (Int.emod_nonneg _ (by decide)) (by omega) (by omega) _ (unhide hixe)⟩) ⟨(hB.get 0 (x:=⟨g,sg A.c x qA dA vA B.c y qB dB (.slice (some ⟨pa,oa,none⟩) wn wc),43⟩) rfl),(hB.get 1 (x:=⟨gt,(cst ki ix_ rm false),45⟩) rfl),(unhide hrr)⟩ ?_
 simp only [nrm]
 refine anyC_take (i:=10) (v:=(.pointer (some ⟨pa,oa+108 * p,none⟩))) (fun v_=>v_.heap[g]?=some (.cells (sg A.c x qA dA vA B.c y qB dB (.slice (some ⟨pa,oa,none⟩) wn wc)) 43 (0,0))∧v_.heap[gt]?=some (.cells ((cst ki ix_ rm false)) 45 (0,0))∧Rg v_ pa (oa+108 * p) (unr ⟨ua,us,uB,false⟩)) (fun _ h_=>h_) (.inr (by kernel_rfl)) rfl (by kernel_rfl) (by kernel_rfl) (by kernel_rfl) (by decide) (by kernel_rfl) (by decide) (fun c_ _ w_ h_=>unhide hQp c_ _ _ _ w_ h_) (.inl ⟨by kernel_rfl,fun x_ hu=>exec_isU _ (.tmp 59) (.tmp 65) rfl pa oa wn wc p (by kernel_rfl) (by kernel_rfl) hpl⟩) ⟨(hB.get 0 (x:=⟨g,sg A.c x qA dA vA B.c y qB dB (.slice (some ⟨pa,oa,none⟩) wn wc),43⟩) rfl),(hB.get 1 (x:=⟨gt,(cst ki ix_ rm false),45⟩) rfl),(unhide hrr)⟩ ?_
 simp only [nrm]
 refine anyC_take (i:=11) (v:=(.agg (fl [[.int .u32 ua],[.int .u32 us],bw uB,[.bool false]]))) (fun v_=>v_.heap[g]?=some (.cells (sg A.c x qA dA vA B.c y qB dB (.slice (some ⟨pa,oa,none⟩) wn wc)) 43 (0,0))∧v_.heap[gt]?=some (.cells ((cst ki ix_ rm false)) 45 (0,0))∧Rg v_ pa (oa+108 * p) (unr ⟨ua,us,uB,false⟩)) (fun _ h_=>h_) (.inr (by kernel_rfl)) rfl (by kernel_rfl) (by kernel_rfl) (by kernel_rfl) (by decide) (by kernel_rfl) (by decide) (fun c_ _ w_ h_=>unhide hQp c_ _ _ _ w_ h_) (.inl ⟨by kernel_rfl,fun x_ hu=>exec_lU _ (.tmp 66) rfl pa (oa+108 * p) (by kernel_rfl) ⟨ua,us,uB,false⟩ huB hu.2.2⟩) ⟨(hB.get 0 (x:=⟨g,sg A.c x qA dA vA B.c y qB dB (.slice (some ⟨pa,oa,none⟩) wn wc),43⟩) rfl),(hB.get 1 (x:=⟨gt,(cst ki ix_ rm false),45⟩) rfl),(unhide hrr)⟩ ?_
 simp only [nrm]
 refine anyC_one (i:=12) (by kernel_rfl) rfl (fun K hK=>?_)
 refine step_val (.pointer (some ⟨u1.heap.size,0,none⟩)) (u1.alloc (.cells (cu0) 53 (0,0))) (by kernel_rfl) (by kernel_rfl) ?_
 replace hB:=hB.new (cu0) 53
 simp only [List.nil_append,List.cons_append] at hB
 have hg:=(Gr.refl u1).alloc (.cells (cu0) 53 (0,0))
 have hgl14:=(unhide hXG).size
 replace hrr:=hide ((unhide hrr).gr hg)
 replace hA:=hide ((unhide hA).gr hg)
 replace hD:=hide ((unhide hD).gr hg)
 replace hXF:=hide ((unhide hXF).gr hg)
 replace hXG:=hide ((unhide hXG).gr hg)
 clear hg
 generalize World.alloc _ _=u2 at *
 generalize u1.heap.size=g14 at *
 refine hK.out _ _ ⟨(hB.get 0 (x:=⟨g,sg A.c x qA dA vA B.c y qB dB (.slice (some ⟨pa,oa,none⟩) wn wc),43⟩) rfl),(hB.get 1 (x:=⟨gt,(cst ki ix_ rm false),45⟩) rfl),(unhide hrr)⟩ (fun _=>?_)
 clear hK K
 simp only [nrm]
 refine anyC_last (by kernel_rfl) rfl (fun K hK=>?_)
 have hzz_:Hid (u2.heap[g14]?=some (.cells (cu0) 53 (0,0))):=hide (hB.get 2 (x:=⟨g14,cu0,53⟩) rfl)
 refine step_all 53 (.tmp 14) (.tmp 67) (g14) (S2:=[[.int .u32 ua],[.int .u32 us],bw uB,[.bool false]]) (by kernel_rfl) rfl (by kernel_rfl) (by kernel_rfl) hB 2 rfl ND (nD Z105_len _ _ _) (nD huB _ _ _) (by kernel_rfl) (oD _ rfl rfl rfl) ?_
 intro u3 hB_ hbt_
 clear hB
 replace hB:Bl (bare w) [⟨g,sg A.c x qA dA vA B.c y qB dB (.slice (some ⟨pa,oa,none⟩) wn wc),43⟩,⟨gt,(cst ki ix_ rm false),45⟩,⟨g14,fl [[.int .u32 ua],[.int .u32 us],bw uB,[.bool false]],53⟩] u3:=hB_
 clear hB_
 replace hA:=hide ((unhide hA).bz (unhide hzz_) hbt_)
 replace hD:=hide ((unhide hD).bz (unhide hzz_) hbt_)
 replace hXF:=hide ((unhide hXF).bo (unhide hzz_) hbt_ hXo hgl14)
 replace hXG:=hide ((unhide hXG).bl (unhide hzz_) hbt_ hgl14)
 clear hbt_ hzz_
 refine hK.out _ _ ?_
 clear hK K
 simp only [nrm]
 refine any_done (by kernel_rfl) ?_
 replace hB:=hide hB
 go_upto_region 13 with fail
 replace hB:=unhide hB
 refine wp_region_lit ?_
 refine lvk (.pointer (some ⟨gt,3,none⟩)) ?_
 simp only [nrm]
 refine list_val (.bool false) (by kernel_rfl) (exec_cb _ (.tmp 68) rfl (gt) 3 (by kernel_rfl) false (seg_cell (nST  _ _ _ _) (hB.get 1 (x:=⟨gt,(cst ki ix_ rm false),45⟩) rfl) 3 (v:=.bool false) rfl rfl)) ?_
 simp only [nrm]
 refine wpList_nil ?_
 replace hB:=hide hB
 go_upto_region 16 with fail
 replace hB:=unhide hB
 refine wp_region_lit ?_
 refine lvk (.pointer (some ⟨g,0,none⟩)) ?_
 simp only [nrm]
 refine list_val (.agg (fl [[.int .u32 ua],[.int .u32 us],bw uB,[.bool false]])) (by kernel_rfl) (exec_sw _ 53 (.tmp 14) rfl (g14) (by kernel_rfl) (hB.get 2 (x:=⟨g14,fl [[.int .u32 ua],[.int .u32 us],bw uB,[.bool false]],53⟩) rfl) ND (nD huB _ _ _) Try.underlying53 rfl (by kernel_rfl)) ?_
 simp only [nrm]
 refine lvk (.pointer (some ⟨gt,2,none⟩)) ?_
 simp only [nrm]
 refine list_val (.int .i64 rm) (by kernel_rfl) (exec_ci _ (.tmp 98) rfl (gt) 2 (by kernel_rfl) rm (seg_cell (nST  _ _ _ _) (hB.get 1 (x:=⟨gt,(cst ki ix_ rm false),45⟩) rfl) 2 (v:=.int .i64 rm) rfl rfl)) ?_
 simp only [nrm]
 have hS1:St b u3 g A B:=⟨x,y,qA,dA,vA,qB,dB,(.slice (some ⟨pa,oa,none⟩) wn wc),hB.get 0 (x:=⟨g,sg A.c x qA dA vA B.c y qB dB (.slice (some ⟨pa,oa,none⟩) wn wc),43⟩) rfl,unhide hA,unhide hD,unhide hXF,unhide hU,unhide hV⟩
 refine list_call 13 #[.pointer (some ⟨g,0,none⟩),.agg (fl [[.int .u32 ua],[.int .u32 us],bw uB,[.bool false]]),.int .i64 rm] (by kernel_rfl) (by kernel_rfl) ((shear_unw0 b g A B ua us rm uB u3 (Nat.le_trans hb (unhide hXG).size) hbg hS1 (unhide hI) hw1 hw2 huB hwt).mono ?_)
 rintro r_ w1 ⟨rfl,hS3,hG3⟩
 refine ⟨_,rfl,?_⟩
 have hG:=(unhide hXG).cg.trans hG3
 clear hB
 have hB:=nilb w1
 simp only [nrm]
 refine lvk (.bool false) ?_
 simp only [nrm]
 refine wpList_nil ?_
 go_wp2_with fail
 exact unhide hQ _ _ _ _ _ _ _ _ _ _ _ _ _ _ _ _ _ _ _ _ _ _ _ _ _ _ _ _ _ _ _ _ _ _ _ _ _ _ _ _ _ _ _ _ _ _ _ _ _ _ _ _ _ _ _ _ _ _ _ _ _ _ _ _ _ _ _ _ _ _ _ _ _ _ _ _ _ _ _ _ _ _ _ _ _ _ _ _ _ _ _ _ _ _ _ _ _ _ _ _ _ _ _ _ _ _ _ _ _ _ _ _ _ _ _ _ _ _ _ _ _ _ _ _ _ _ _ _ _ _ _ _ _ _ _ _ _ _ _ _ _ _ _ _ _ _ _ hS3 (unhide hI2) hG ⟨Nat.le_succ_of_le (unhide hN).qa,Nat.le_succ_of_le (unhide hN).qb,Nat.le_succ_of_le (unhide hN).wa,Nat.le_succ_of_le (unhide hN).wb⟩
set_option maxHeartbeats 4000000 in
theorem br_take1 (b g gt n:Nat) (ki ix_ rm kd:Int) (A B:Sd) (w:World) (z0 z1 z2 z4 z8 z9 z10 z11 z12 z13 z14 z15 z16 z17 z18 z19 z20 z21 z22 z23 z24 z25 z26 z27 z28 z29 z30 z31 z32 z33 z34 z35 z36 z37 z38 z39 z40 z41 z42 z43 z44 z45 z46 z47 z49 z50 z51 z52 z53 z54 z55 z56 z57 z58 z59 z60 z61 z62 z63 z64 z65 z66 z67 z68 z69 z70 z71 z72 z73 z74 z75 z76 z77 z78 z79 z80 z81 z82 z83 z84 z85 z86 z87 z88 z89 z90 z91 z92 z93 z94 z95 z96 z97 z98 z99 z100 z101 z102 z103 z104 z105 z106 z107 z108 z109 z110 z111 z112 z113 z114 z115 z116 z117 z118 z119 z120 z121 z122 z123 z124 z125 z126 z127 z128 z129 z130 z131 z132 z133 z134 z135 z136 z137 z138 z139 z140 z141 z142 z143 z144 z145 z146 z147 z148 z149 z150 z151 z152 z153 z154 z155 z156 z157 z158 z159 z160 z161 z162 z163 z164 z165 z166 z167 z168 z169 z170 z171 z172 z173 z174 z175 z176 z177 z178 z179 z180 z181 z182 z183 z184 z185 z186 z187 z188 z189 z190 z191 z192 z193 z194 z195 z196 z197 z198 z199 z200 z201 z202 z203 z204 z205 z206 z207 z208 z209 z210 z211 z212 z213 z214 z215 z216 z217 z218 z219 z220 z221 z222 z223 z224 z225 z226 z227 z228 z229 z230 z231 z232 z233 z234 z235 z236 z237 z238 z239 z240 z241 z242:Value) (Q:Exit→Act→World→Prop) (hb:b≤w.heap.size) (hbg:b≤g) (hS:St b w g A B) (hI:Inv A B) (hN:Bd n A B) (hn:n≤400) (hgt:w.heap[gt]?=some (.cells ((cst ki ix_ rm false)) 45 (0,0))) (hQp:∀ c a (d:Nat) v w,Q (.panic c) (Act.put a (some d) v) w→Q (.panic c) a w) (hd0:kd≠0) (hd1:kd≠1) (ua us:Int) (t:ByteArray) (hsz:t.size=3) (h0:0<B.w.length) (hu:B.w[ix ix_ B.w.length]?=some ⟨ua,us,(bdy t),false⟩) (ht:B.q[us.toNat]?=some t) (hwt:wt (ak A.c ua).1 us rm=true) (hQ:∀ u2 u8 u9 u10 u11 u12 u13 u14 u15 u49 u50 u51 u52 u53 u54 u55 u56 u57 u58 u59 u60 u61 u62 u63 u64 u65 u66 u67 u68 u69 u70 u71 u72 u73 u74 u75 u76 u77 u78 u79 u80 u81 u82 u83 u84 u85 u86 u87 u88 u89 u90 u91 u92 u93 u94 u95 u96 u97 u98 u99 u100 u101 u102 u103 u104 u105 u106 u107 u108 u109 u110 u111 u112 u113 u114 u115 u116 u117 u118 u119 u120 u121 u122 u123 u124 u125 u126 u127 u128 u129 u130 u131 u132 u133 u134 u135 u136 u137 u138 u139 u140 u141 u142 u143 u144 u145 u146 u147 u148 u149 u150 u151 u152 u153 u154 u155 u156 u157 u158 u159 u160 u161 u162 u163 u164 u165 u166 u167 u168 u169 u170 u171 u172 u173 u174 u175 u176 u177 u178 u179 u180 u181 u182 u183:Value,∀ (A' B':Sd) (w':World),St b w' g A' B'→Inv A' B'→Cg g b w w'→Bd (n+1) A' B'→Q .normal ⟨#[z0,z1,u2,.pointer (some ⟨g,0,none⟩),z4,.pointer (some ⟨gt,0,none⟩),.pointer (some ⟨g,8,none⟩),.pointer (some ⟨g,0,none⟩),u8,u9,u10,u11,u12,u13,u14,u15,z16,z17,z18,z19,z20,z21,z22,z23,z24,z25,z26,z27,z28,z29,z30,z31,z32,z33,z34,z35,z36,z37,z38,z39,z40,z41,z42,z43,z44,z45,z46,z47,.int .u64 kd,u49,u50,u51,u52,u53,u54,u55,u56,u57,u58,u59,u60,u61,u62,u63,u64,u65,u66,u67,u68,u69,u70,u71,u72,u73,u74,u75,u76,u77,u78,u79,u80,u81,u82,u83,u84,u85,u86,u87,u88,u89,u90,u91,u92,u93,u94,u95,u96,u97,u98,u99,u100,u101,u102,u103,u104,u105,u106,u107,u108,u109,u110,u111,u112,u113,u114,u115,u116,u117,u118,u119,u120,u121,u122,u123,u124,u125,u126,u127,u128,u129,u130,u131,u132,u133,u134,u135,u136,u137,u138,u139,u140,u141,u142,u143,u144,u145,u146,u147,u148,u149,u150,u151,u152,u153,u154,u155,u156,u157,u158,u159,u160,u161,u162,u163,u164,u165,u166,u167,u168,u169,u170,u171,u172,u173,u174,u175,u176,u177,u178,u179,u180,u181,u182,u183,z184,z185,z186,z187,z188,z189,z190,z191,z192,z193,z194,z195,z196,z197,z198,z199,z200,z201,z202,z203,z204,z205,z206,z207,z208,z209,z210,z211,z212,z213,z214,z215,z216,z217,z218,z219,z220,z221,z222,z223,z224,z225,z226,z227,z228,z229,z230,z231,z232,z233,z234,z235,z236,z237,z238,z239,z240,z241,z242],[]⟩ w'):Code.wp Try.prog oSwitch Q ⟨#[z0,z1,z2,.pointer (some ⟨g,0,none⟩),z4,.pointer (some ⟨gt,0,none⟩),.pointer (some ⟨g,8,none⟩),.pointer (some ⟨g,0,none⟩),z8,z9,z10,z11,z12,z13,z14,z15,z16,z17,z18,z19,z20,z21,z22,z23,z24,z25,z26,z27,z28,z29,z30,z31,z32,z33,z34,z35,z36,z37,z38,z39,z40,z41,z42,z43,z44,z45,z46,z47,.int .u64 kd,z49,z50,z51,z52,z53,z54,z55,z56,z57,z58,z59,z60,z61,z62,z63,z64,z65,z66,z67,z68,z69,z70,z71,z72,z73,z74,z75,z76,z77,z78,z79,z80,z81,z82,z83,z84,z85,z86,z87,z88,z89,z90,z91,z92,z93,z94,z95,z96,z97,z98,z99,z100,z101,z102,z103,z104,z105,z106,z107,z108,z109,z110,z111,z112,z113,z114,z115,z116,z117,z118,z119,z120,z121,z122,z123,z124,z125,z126,z127,z128,z129,z130,z131,z132,z133,z134,z135,z136,z137,z138,z139,z140,z141,z142,z143,z144,z145,z146,z147,z148,z149,z150,z151,z152,z153,z154,z155,z156,z157,z158,z159,z160,z161,z162,z163,z164,z165,z166,z167,z168,z169,z170,z171,z172,z173,z174,z175,z176,z177,z178,z179,z180,z181,z182,z183,z184,z185,z186,z187,z188,z189,z190,z191,z192,z193,z194,z195,z196,z197,z198,z199,z200,z201,z202,z203,z204,z205,z206,z207,z208,z209,z210,z211,z212,z213,z214,z215,z216,z217,z218,z219,z220,z221,z222,z223,z224,z225,z226,z227,z228,z229,z230,z231,z232,z233,z234,z235,z236,z237,z238,z239,z240,z241,z242],[]⟩ w:=by
 have hS2:∀ u ∈ B.w,u.B.length=105∧IsB u.B:=by
  obtain ⟨x,y,qA,dA,vA,qB,dB,vB,hg,hA,hD,hXF,hU,hV⟩:=hS
  exact hV
 obtain ⟨hw1,hw2,-⟩:=hI.swap.1.way _ (List.mem_of_getElem? hu)
 dsimp only at hw1 hw2
 have hI2:=(((hI.swap).acked hw1).took hwt ht).2.2.swap
 replace hI2:=hide hI2
 have hpl:=ix_lt ix_ h0
 have huB:=(hS2 _ (List.mem_of_getElem? hu)).1
 dsimp only at huB
 have hmx:=hN.wb
 obtain ⟨x,y,qA,dA,vA,qB,dB,vB,hg,hA,hD,hXF,hU,hV⟩:=hS
 obtain ⟨wa,wc,hva,-⟩:=(hXF.own 5 _ rfl).lz
 dsimp only at hva
 subst hva
 obtain ⟨wn,hwn⟩:∃ n,n=(B.w.map unr).length:=⟨_,rfl⟩
 rw [← hwn] at hg hXF
 rw [List.length_map] at hwn
 have hXo:=hXF.old
 have hXG:Cgs g b w w:=⟨Cg.refl g b w,hb⟩
 have hne:g≠gt:=fun e=>by rw [e,hgt] at hg; cases hg
 replace hXF:=hide hXF; replace hA:=hide hA; replace hD:=hide hD; replace hU:=hide hU; replace hV:=hide hV; replace hI:=hide hI; replace hQ:=hide hQ; replace hN:=hide hN; replace hXG:=hide hXG; replace hQp:=hide hQp; replace hwn:=hide hwn
 conv=>arg 2; whnf
 go_upto_region 18 with fail
 have hB1:=(nilb w).add ⟨g,sg A.c x qA dA vA B.c y qB dB (.slice wa wn wc),43⟩ hg (Nat.zero_le _) (by intro y hy; cases hy)
 have hB:=hB1.add ⟨gt,(cst ki ix_ rm false),45⟩ hgt (Nat.zero_le _) (by intro y hy; rw [List.nil_append,List.mem_singleton] at hy; rw [hy]; exact hne)
 simp only [List.nil_append,List.cons_append] at hB
 clear hB1 hg hgt hne
 obtain ⟨u0,hu_⟩:∃ u,u=w:=⟨_,rfl⟩
 have hB2:Bl (bare w) [⟨g,sg A.c x qA dA vA B.c y qB dB (.slice wa wn wc),43⟩,⟨gt,(cst ki ix_ rm false),45⟩] u0:=hu_ ▸ hB
 replace hA:Hid (Co b u0 A.c x):=hu_ ▸ hA; replace hD:Hid (Co b u0 B.c y):=hu_ ▸ hD
 replace hXF:Hid (Fam b u0 (fam A B qA dA vA qB dB (.slice wa wn wc))):=hu_ ▸ hXF
 replace hXG:Hid (Cgs g b w u0):=hu_ ▸ hXG
 clear hB
 have hB:=hB2
 clear hB2
 rw [← hu_]
 clear hu_
 refine wp_region_lit ?_
 refine list_val (.bool false) (by kernel_rfl) (eql_u _ (.tmp 48) (.const (.int .u64 0)) kd 0 false rfl (by kernel_rfl) rfl (decide_eq_false hd0)) ?_
 simp only [nrm]
 (refine wpList_step fun K hK=>?_; replace hK:=hide hK; go_simp; refine unhide hK _ _ ?_; clear hK K)
 refine wpList_nil ?_
 replace hB:=hide hB
 go_upto_region 29 with fail
 replace hB:=unhide hB
 refine wp_region_lit ?_
 refine list_val (.bool false) (by kernel_rfl) (eql_u _ (.tmp 48) (.const (.int .u64 1)) kd 1 false rfl (by kernel_rfl) rfl (decide_eq_false hd1)) ?_
 simp only [nrm]
 (refine wpList_step fun K hK=>?_; replace hK:=hide hK; go_simp; refine unhide hK _ _ ?_; clear hK K)
 refine wpList_nil ?_
 replace hB:=hide hB
 go_upto_region 10 with fail
 replace hB:=unhide hB
 refine wp_region_lit ?_
 refine lvk (.pointer (some ⟨g,8,none⟩)) ?_
 simp only [nrm]
 refine lvk (.pointer (some ⟨g,8,none⟩)) ?_
 simp only [nrm]
 refine lvk (.pointer (some ⟨g,15,none⟩)) ?_
 simp only [nrm]
 refine list_val (.slice wa wn wc) (by kernel_rfl) (exec_csU _ (.tmp 51) rfl (g) 15 (by kernel_rfl) wa wn wc (seg_cell (nS2  _ _ _ _ _ _ _ _ _ _ _ _ _ _ _ _) (hB.get 0 (x:=⟨g,sg A.c x qA dA vA B.c y qB dB (.slice wa wn wc),43⟩) rfl) 15 (v:=.slice wa wn wc) rfl rfl)) ?_
 simp only [nrm]
 refine lvk (.int .i64 wn) ?_
 simp only [nrm]
 (refine wpList_step fun K hK=>?_; replace hK:=hide hK; go_simp; refine unhide hK _ _ ?_; clear hK K)
 refine wpList_nil ?_
 obtain ⟨m,hm⟩:∃ m,m=B.w.length:=⟨_,rfl⟩
 have hwm:wn=m:=by rw [unhide hwn,hm]
 rw [← hm] at hpl h0 hu hmx
 have hixe:=ix_eq ix_ h0
 obtain ⟨p,hp⟩:∃ p,p=ix ix_ m:=⟨_,rfl⟩
 rw [← hp] at hpl hu hixe
 replace hm:=hide hm; replace hp:=hide hp
 subst hwm
 obtain ⟨pa,oa,haa,hrr⟩:=un_at ((unhide hXF).own 5 _ rfl) p _ hu
 subst haa
 replace hrr:Rg _ _ _ _:=hrr
 replace hrr:=hide hrr; replace hu:=hide hu; replace hixe:=hide hixe
 replace hB:=hide hB
 go_upto_region 11 with fail
 replace hB:=unhide hB
 refine wp_region_lit ?_
 refine lvk (.int .i64 wn) ?_
 simp only [nrm]
 refine list_val (.bool true) (by kernel_rfl) (gtr_i _ (.tmp 54) (.const (.int .i64 0)) (wn:Int) 0 true rfl (by kernel_rfl) rfl (by simp; omega)) ?_
 simp only [nrm]
 refine wpList_nil ?_
 replace hB:=hide hB
 go_upto_region 12 with fail
 replace hB:=unhide hB
 refine anyC_start 13 (fun v_=>v_.heap[g]?=some (.cells (sg A.c x qA dA vA B.c y qB dB (.slice (some ⟨pa,oa,none⟩) wn wc)) 43 (0,0))∧v_.heap[gt]?=some (.cells ((cst ki ix_ rm false)) 45 (0,0))∧Rg v_ pa (oa+108 * p) (unr ⟨ua,us,(bdy t),false⟩)) (by kernel_rfl) ?_
 replace hrr:=hide ((unhide hrr).gr ((Gr.refl u0).drew))
 replace hA:=hide ((unhide hA).gr ((Gr.refl u0).drew))
 replace hD:=hide ((unhide hD).gr ((Gr.refl u0).drew))
 replace hXF:=hide ((unhide hXF).gr ((Gr.refl u0).drew))
 replace hXG:=hide ((unhide hXG).gr ((Gr.refl u0).drew))
 replace hB:=hB.drew
 generalize World.drew _=u1 at *
 simp only [List.size_toArray,List.length_cons,List.length_nil,Array.replicate,List.replicate]
 refine anyC_take (i:=0) (v:=(.pointer (some ⟨g,8,none⟩))) (fun v_=>v_.heap[g]?=some (.cells (sg A.c x qA dA vA B.c y qB dB (.slice (some ⟨pa,oa,none⟩) wn wc)) 43 (0,0))∧v_.heap[gt]?=some (.cells ((cst ki ix_ rm false)) 45 (0,0))∧Rg v_ pa (oa+108 * p) (unr ⟨ua,us,(bdy t),false⟩)) (fun _ h_=>h_) (.inr (by kernel_rfl)) rfl (by kernel_rfl) (by kernel_rfl) (by kernel_rfl) (by decide) (by kernel_rfl) (by decide) (fun c_ _ w_ h_=>unhide hQp c_ _ _ _ w_ h_) (.inl ⟨by kernel_rfl,fun x_ hu=>by kernel_rfl⟩) ⟨(hB.get 0 (x:=⟨g,sg A.c x qA dA vA B.c y qB dB (.slice (some ⟨pa,oa,none⟩) wn wc),43⟩) rfl),(hB.get 1 (x:=⟨gt,(cst ki ix_ rm false),45⟩) rfl),(unhide hrr)⟩ ?_
 simp only [nrm]
 refine anyC_take (i:=1) (v:=(.pointer (some ⟨g,8,none⟩))) (fun v_=>v_.heap[g]?=some (.cells (sg A.c x qA dA vA B.c y qB dB (.slice (some ⟨pa,oa,none⟩) wn wc)) 43 (0,0))∧v_.heap[gt]?=some (.cells ((cst ki ix_ rm false)) 45 (0,0))∧Rg v_ pa (oa+108 * p) (unr ⟨ua,us,(bdy t),false⟩)) (fun _ h_=>h_) (.inr (by kernel_rfl)) rfl (by kernel_rfl) (by kernel_rfl) (by kernel_rfl) (by decide) (by kernel_rfl) (by decide) (fun c_ _ w_ h_=>unhide hQp c_ _ _ _ w_ h_) (.inl ⟨by kernel_rfl,fun x_ hu=>by kernel_rfl⟩) ⟨(hB.get 0 (x:=⟨g,sg A.c x qA dA vA B.c y qB dB (.slice (some ⟨pa,oa,none⟩) wn wc),43⟩) rfl),(hB.get 1 (x:=⟨gt,(cst ki ix_ rm false),45⟩) rfl),(unhide hrr)⟩ ?_
 simp only [nrm]
 refine anyC_take (i:=2) (v:=(.pointer (some ⟨g,15,none⟩))) (fun v_=>v_.heap[g]?=some (.cells (sg A.c x qA dA vA B.c y qB dB (.slice (some ⟨pa,oa,none⟩) wn wc)) 43 (0,0))∧v_.heap[gt]?=some (.cells ((cst ki ix_ rm false)) 45 (0,0))∧Rg v_ pa (oa+108 * p) (unr ⟨ua,us,(bdy t),false⟩)) (fun _ h_=>h_) (.inr (by kernel_rfl)) rfl (by kernel_rfl) (by kernel_rfl) (by kernel_rfl) (by decide) (by kernel_rfl) (by decide) (fun c_ _ w_ h_=>unhide hQp c_ _ _ _ w_ h_) (.inl ⟨by kernel_rfl,fun x_ hu=>by kernel_rfl⟩) ⟨(hB.get 0 (x:=⟨g,sg A.c x qA dA vA B.c y qB dB (.slice (some ⟨pa,oa,none⟩) wn wc),43⟩) rfl),(hB.get 1 (x:=⟨gt,(cst ki ix_ rm false),45⟩) rfl),(unhide hrr)⟩ ?_
 simp only [nrm]
 refine anyC_take (i:=3) (v:=(.slice (some ⟨pa,oa,none⟩) wn wc)) (fun v_=>v_.heap[g]?=some (.cells (sg A.c x qA dA vA B.c y qB dB (.slice (some ⟨pa,oa,none⟩) wn wc)) 43 (0,0))∧v_.heap[gt]?=some (.cells ((cst ki ix_ rm false)) 45 (0,0))∧Rg v_ pa (oa+108 * p) (unr ⟨ua,us,(bdy t),false⟩)) (fun _ h_=>h_) (.inr (by kernel_rfl)) rfl (by kernel_rfl) (by kernel_rfl) (by kernel_rfl) (by decide) (by kernel_rfl) (by decide) (fun c_ _ w_ h_=>unhide hQp c_ _ _ _ w_ h_) (.inl ⟨by kernel_rfl,fun x_ hu=>exec_csU _ (.tmp 58) rfl (g) 15 (by kernel_rfl) (some ⟨pa,oa,none⟩) wn wc (seg_cell (nS2  _ _ _ _ _ _ _ _ _ _ _ _ _ _ _ _) hu.1 15 (v:=.slice (some ⟨pa,oa,none⟩) wn wc) rfl rfl)⟩) ⟨(hB.get 0 (x:=⟨g,sg A.c x qA dA vA B.c y qB dB (.slice (some ⟨pa,oa,none⟩) wn wc),43⟩) rfl),(hB.get 1 (x:=⟨gt,(cst ki ix_ rm false),45⟩) rfl),(unhide hrr)⟩ ?_
 simp only [nrm]
 refine anyC_take (i:=4) (v:=(.pointer (some ⟨gt,1,none⟩))) (fun v_=>v_.heap[g]?=some (.cells (sg A.c x qA dA vA B.c y qB dB (.slice (some ⟨pa,oa,none⟩) wn wc)) 43 (0,0))∧v_.heap[gt]?=some (.cells ((cst ki ix_ rm false)) 45 (0,0))∧Rg v_ pa (oa+108 * p) (unr ⟨ua,us,(bdy t),false⟩)) (fun _ h_=>h_) (.inr (by kernel_rfl)) rfl (by kernel_rfl) (by kernel_rfl) (by kernel_rfl) (by decide) (by kernel_rfl) (by decide) (fun c_ _ w_ h_=>unhide hQp c_ _ _ _ w_ h_) (.inl ⟨by kernel_rfl,fun x_ hu=>by kernel_rfl⟩) ⟨(hB.get 0 (x:=⟨g,sg A.c x qA dA vA B.c y qB dB (.slice (some ⟨pa,oa,none⟩) wn wc),43⟩) rfl),(hB.get 1 (x:=⟨gt,(cst ki ix_ rm false),45⟩) rfl),(unhide hrr)⟩ ?_
 simp only [nrm]
 refine anyC_take (i:=5) (v:=(.int .i64 ix_)) (fun v_=>v_.heap[g]?=some (.cells (sg A.c x qA dA vA B.c y qB dB (.slice (some ⟨pa,oa,none⟩) wn wc)) 43 (0,0))∧v_.heap[gt]?=some (.cells ((cst ki ix_ rm false)) 45 (0,0))∧Rg v_ pa (oa+108 * p) (unr ⟨ua,us,(bdy t),false⟩)) (fun _ h_=>h_) (.inr (by kernel_rfl)) rfl (by kernel_rfl) (by kernel_rfl) (by kernel_rfl) (by decide) (by kernel_rfl) (by decide) (fun c_ _ w_ h_=>unhide hQp c_ _ _ _ w_ h_) (.inl ⟨by kernel_rfl,fun x_ hu=>exec_ci _ (.tmp 60) rfl (gt) 1 (by kernel_rfl) ix_ (seg_cell (nST  _ _ _ _) hu.2.1 1 (v:=.int .i64 ix_) rfl rfl)⟩) ⟨(hB.get 0 (x:=⟨g,sg A.c x qA dA vA B.c y qB dB (.slice (some ⟨pa,oa,none⟩) wn wc),43⟩) rfl),(hB.get 1 (x:=⟨gt,(cst ki ix_ rm false),45⟩) rfl),(unhide hrr)⟩ ?_
 simp only [nrm]
 refine anyC_take (i:=6) (v:=(.int .u64 (ix_ % 18446744073709551616))) (fun v_=>v_.heap[g]?=some (.cells (sg A.c x qA dA vA B.c y qB dB (.slice (some ⟨pa,oa,none⟩) wn wc)) 43 (0,0))∧v_.heap[gt]?=some (.cells ((cst ki ix_ rm false)) 45 (0,0))∧Rg v_ pa (oa+108 * p) (unr ⟨ua,us,(bdy t),false⟩)) (fun _ h_=>h_) (.inr (by kernel_rfl)) rfl (by kernel_rfl) (by kernel_rfl) (by kernel_rfl) (by decide) (by kernel_rfl) (by decide) (fun c_ _ w_ h_=>unhide hQp c_ _ _ _ w_ h_) (.inl ⟨by kernel_rfl,fun x_ hu=>conv_iuW _ (.tmp 61) ix_ rfl (by kernel_rfl) _ rfl⟩) ⟨(hB.get 0 (x:=⟨g,sg A.c x qA dA vA B.c y qB dB (.slice (some ⟨pa,oa,none⟩) wn wc),43⟩) rfl),(hB.get 1 (x:=⟨gt,(cst ki ix_ rm false),45⟩) rfl),(unhide hrr)⟩ ?_
 simp only [nrm]
 refine anyC_take (i:=7) (v:=(.int .i64 wn)) (fun v_=>v_.heap[g]?=some (.cells (sg A.c x qA dA vA B.c y qB dB (.slice (some ⟨pa,oa,none⟩) wn wc)) 43 (0,0))∧v_.heap[gt]?=some (.cells ((cst ki ix_ rm false)) 45 (0,0))∧Rg v_ pa (oa+108 * p) (unr ⟨ua,us,(bdy t),false⟩)) (fun _ h_=>h_) (.inr (by kernel_rfl)) rfl (by kernel_rfl) (by kernel_rfl) (by kernel_rfl) (by decide) (by kernel_rfl) (by decide) (fun c_ _ w_ h_=>unhide hQp c_ _ _ _ w_ h_) (.inl ⟨by kernel_rfl,fun x_ hu=>by kernel_rfl⟩) ⟨(hB.get 0 (x:=⟨g,sg A.c x qA dA vA B.c y qB dB (.slice (some ⟨pa,oa,none⟩) wn wc),43⟩) rfl),(hB.get 1 (x:=⟨gt,(cst ki ix_ rm false),45⟩) rfl),(unhide hrr)⟩ ?_
 simp only [nrm]
 refine anyC_take (i:=8) (v:=(.int .u64 (wn:Int))) (fun v_=>v_.heap[g]?=some (.cells (sg A.c x qA dA vA B.c y qB dB (.slice (some ⟨pa,oa,none⟩) wn wc)) 43 (0,0))∧v_.heap[gt]?=some (.cells ((cst ki ix_ rm false)) 45 (0,0))∧Rg v_ pa (oa+108 * p) (unr ⟨ua,us,(bdy t),false⟩)) (fun _ h_=>h_) (.inr (by kernel_rfl)) rfl (by kernel_rfl) (by kernel_rfl) (by kernel_rfl) (by decide) (by kernel_rfl) (by decide) (fun c_ _ w_ h_=>unhide hQp c_ _ _ _ w_ h_) (.inl ⟨by kernel_rfl,fun x_ hu=>conv_iuW _ (.tmp 63) (wn:Int) rfl (by kernel_rfl) _ (by omega)⟩) ⟨(hB.get 0 (x:=⟨g,sg A.c x qA dA vA B.c y qB dB (.slice (some ⟨pa,oa,none⟩) wn wc),43⟩) rfl),(hB.get 1 (x:=⟨gt,(cst ki ix_ rm false),45⟩) rfl),(unhide hrr)⟩ ?_
 simp only [nrm]
 refine anyC_take (i:=9) (v:=(.int .u64 (p:Int))) (fun v_=>v_.heap[g]?=some (.cells (sg A.c x qA dA vA B.c y qB dB (.slice (some ⟨pa,oa,none⟩) wn wc)) 43 (0,0))∧v_.heap[gt]?=some (.cells ((cst ki ix_ rm false)) 45 (0,0))∧Rg v_ pa (oa+108 * p) (unr ⟨ua,us,(bdy t),false⟩)) (fun _ h_=>h_) (.inr (by kernel_rfl)) rfl (by kernel_rfl) (by kernel_rfl) (by kernel_rfl) (by decide) (by kernel_rfl) (by decide) (fun c_ _ w_ h_=>unhide hQp c_ _ _ _ w_ h_) (.inl ⟨by kernel_rfl,fun x_ hu=>rem_u _ (.tmp 62) (.tmp 64) (ix_ % 18446744073709551616) (wn:Int) rfl (by kernel_rfl) (by kernel_rfl) (Int.emod_nonneg _ (by decide)) (by omega) (by omega) _ (unhide hixe)⟩) ⟨(hB.get 0 (x:=⟨g,sg A.c x qA dA vA B.c y qB dB (.slice (some ⟨pa,oa,none⟩) wn wc),43⟩) rfl),(hB.get 1 (x:=⟨gt,(cst ki ix_ rm false),45⟩) rfl),(unhide hrr)⟩ ?_
 simp only [nrm]
 refine anyC_take (i:=10) (v:=(.pointer (some ⟨pa,oa+108 * p,none⟩))) (fun v_=>v_.heap[g]?=some (.cells (sg A.c x qA dA vA B.c y qB dB (.slice (some ⟨pa,oa,none⟩) wn wc)) 43 (0,0))∧v_.heap[gt]?=some (.cells ((cst ki ix_ rm false)) 45 (0,0))∧Rg v_ pa (oa+108 * p) (unr ⟨ua,us,(bdy t),false⟩)) (fun _ h_=>h_) (.inr (by kernel_rfl)) rfl (by kernel_rfl) (by kernel_rfl) (by kernel_rfl) (by decide) (by kernel_rfl) (by decide) (fun c_ _ w_ h_=>unhide hQp c_ _ _ _ w_ h_) (.inl ⟨by kernel_rfl,fun x_ hu=>exec_isU _ (.tmp 59) (.tmp 65) rfl pa oa wn wc p (by kernel_rfl) (by kernel_rfl) hpl⟩) ⟨(hB.get 0 (x:=⟨g,sg A.c x qA dA vA B.c y qB dB (.slice (some ⟨pa,oa,none⟩) wn wc),43⟩) rfl),(hB.get 1 (x:=⟨gt,(cst ki ix_ rm false),45⟩) rfl),(unhide hrr)⟩ ?_
 simp only [nrm]
 refine anyC_take (i:=11) (v:=(.agg (fl [[.int .u32 ua],[.int .u32 us],bw (bdy t),[.bool false]]))) (fun v_=>v_.heap[g]?=some (.cells (sg A.c x qA dA vA B.c y qB dB (.slice (some ⟨pa,oa,none⟩) wn wc)) 43 (0,0))∧v_.heap[gt]?=some (.cells ((cst ki ix_ rm false)) 45 (0,0))∧Rg v_ pa (oa+108 * p) (unr ⟨ua,us,(bdy t),false⟩)) (fun _ h_=>h_) (.inr (by kernel_rfl)) rfl (by kernel_rfl) (by kernel_rfl) (by kernel_rfl) (by decide) (by kernel_rfl) (by decide) (fun c_ _ w_ h_=>unhide hQp c_ _ _ _ w_ h_) (.inl ⟨by kernel_rfl,fun x_ hu=>exec_lU _ (.tmp 66) rfl pa (oa+108 * p) (by kernel_rfl) ⟨ua,us,(bdy t),false⟩ huB hu.2.2⟩) ⟨(hB.get 0 (x:=⟨g,sg A.c x qA dA vA B.c y qB dB (.slice (some ⟨pa,oa,none⟩) wn wc),43⟩) rfl),(hB.get 1 (x:=⟨gt,(cst ki ix_ rm false),45⟩) rfl),(unhide hrr)⟩ ?_
 simp only [nrm]
 refine anyC_one (i:=12) (by kernel_rfl) rfl (fun K hK=>?_)
 refine step_val (.pointer (some ⟨u1.heap.size,0,none⟩)) (u1.alloc (.cells (cu0) 53 (0,0))) (by kernel_rfl) (by kernel_rfl) ?_
 replace hB:=hB.new (cu0) 53
 simp only [List.nil_append,List.cons_append] at hB
 have hg:=(Gr.refl u1).alloc (.cells (cu0) 53 (0,0))
 have hgl14:=(unhide hXG).size
 replace hrr:=hide ((unhide hrr).gr hg)
 replace hA:=hide ((unhide hA).gr hg)
 replace hD:=hide ((unhide hD).gr hg)
 replace hXF:=hide ((unhide hXF).gr hg)
 replace hXG:=hide ((unhide hXG).gr hg)
 clear hg
 generalize World.alloc _ _=u2 at *
 generalize u1.heap.size=g14 at *
 refine hK.out _ _ ⟨(hB.get 0 (x:=⟨g,sg A.c x qA dA vA B.c y qB dB (.slice (some ⟨pa,oa,none⟩) wn wc),43⟩) rfl),(hB.get 1 (x:=⟨gt,(cst ki ix_ rm false),45⟩) rfl),(unhide hrr)⟩ (fun _=>?_)
 clear hK K
 simp only [nrm]
 refine anyC_last (by kernel_rfl) rfl (fun K hK=>?_)
 have hzz_:Hid (u2.heap[g14]?=some (.cells (cu0) 53 (0,0))):=hide (hB.get 2 (x:=⟨g14,cu0,53⟩) rfl)
 refine step_all 53 (.tmp 14) (.tmp 67) (g14) (S2:=[[.int .u32 ua],[.int .u32 us],bw (bdy t),[.bool false]]) (by kernel_rfl) rfl (by kernel_rfl) (by kernel_rfl) hB 2 rfl ND (nD Z105_len _ _ _) (nD huB _ _ _) (by kernel_rfl) (oD _ rfl rfl rfl) ?_
 intro u3 hB_ hbt_
 clear hB
 replace hB:Bl (bare w) [⟨g,sg A.c x qA dA vA B.c y qB dB (.slice (some ⟨pa,oa,none⟩) wn wc),43⟩,⟨gt,(cst ki ix_ rm false),45⟩,⟨g14,fl [[.int .u32 ua],[.int .u32 us],bw (bdy t),[.bool false]],53⟩] u3:=hB_
 clear hB_
 replace hA:=hide ((unhide hA).bz (unhide hzz_) hbt_)
 replace hD:=hide ((unhide hD).bz (unhide hzz_) hbt_)
 replace hXF:=hide ((unhide hXF).bo (unhide hzz_) hbt_ hXo hgl14)
 replace hXG:=hide ((unhide hXG).bl (unhide hzz_) hbt_ hgl14)
 clear hbt_ hzz_
 refine hK.out _ _ ?_
 clear hK K
 simp only [nrm]
 refine any_done (by kernel_rfl) ?_
 replace hB:=hide hB
 go_upto_region 13 with fail
 replace hB:=unhide hB
 refine wp_region_lit ?_
 refine lvk (.pointer (some ⟨gt,3,none⟩)) ?_
 simp only [nrm]
 refine list_val (.bool false) (by kernel_rfl) (exec_cb _ (.tmp 68) rfl (gt) 3 (by kernel_rfl) false (seg_cell (nST  _ _ _ _) (hB.get 1 (x:=⟨gt,(cst ki ix_ rm false),45⟩) rfl) 3 (v:=.bool false) rfl rfl)) ?_
 simp only [nrm]
 refine wpList_nil ?_
 replace hB:=hide hB
 go_upto_region 16 with fail
 replace hB:=unhide hB
 refine wp_region_lit ?_
 refine lvk (.pointer (some ⟨g,0,none⟩)) ?_
 simp only [nrm]
 refine list_val (.agg (fl [[.int .u32 ua],[.int .u32 us],bw (bdy t),[.bool false]])) (by kernel_rfl) (exec_sw _ 53 (.tmp 14) rfl (g14) (by kernel_rfl) (hB.get 2 (x:=⟨g14,fl [[.int .u32 ua],[.int .u32 us],bw (bdy t),[.bool false]],53⟩) rfl) ND (nD huB _ _ _) Try.underlying53 rfl (by kernel_rfl)) ?_
 simp only [nrm]
 refine lvk (.pointer (some ⟨gt,2,none⟩)) ?_
 simp only [nrm]
 refine list_val (.int .i64 rm) (by kernel_rfl) (exec_ci _ (.tmp 98) rfl (gt) 2 (by kernel_rfl) rm (seg_cell (nST  _ _ _ _) (hB.get 1 (x:=⟨gt,(cst ki ix_ rm false),45⟩) rfl) 2 (v:=.int .i64 rm) rfl rfl)) ?_
 simp only [nrm]
 have hS1:St b u3 g A B:=⟨x,y,qA,dA,vA,qB,dB,(.slice (some ⟨pa,oa,none⟩) wn wc),hB.get 0 (x:=⟨g,sg A.c x qA dA vA B.c y qB dB (.slice (some ⟨pa,oa,none⟩) wn wc),43⟩) rfl,unhide hA,unhide hD,unhide hXF,unhide hU,unhide hV⟩
 refine list_call 13 #[.pointer (some ⟨g,0,none⟩),.agg (fl [[.int .u32 ua],[.int .u32 us],bw (bdy t),[.bool false]]),.int .i64 rm] (by kernel_rfl) (by kernel_rfl) ((shear_take0 b g A B ua us rm u3 (Nat.le_trans hb (unhide hXG).size) hbg hS1 (unhide hI) hw1 hw2 t hsz ht hwt).mono ?_)
 rintro r_ w1 ⟨rfl,hS3,hG3⟩
 refine ⟨_,rfl,?_⟩
 have hG:=(unhide hXG).cg.trans hG3
 clear hB
 have hB:=nilb w1
 simp only [nrm]
 refine lvk (.bool false) ?_
 simp only [nrm]
 refine wpList_nil ?_
 go_wp2_with fail
 exact unhide hQ _ _ _ _ _ _ _ _ _ _ _ _ _ _ _ _ _ _ _ _ _ _ _ _ _ _ _ _ _ _ _ _ _ _ _ _ _ _ _ _ _ _ _ _ _ _ _ _ _ _ _ _ _ _ _ _ _ _ _ _ _ _ _ _ _ _ _ _ _ _ _ _ _ _ _ _ _ _ _ _ _ _ _ _ _ _ _ _ _ _ _ _ _ _ _ _ _ _ _ _ _ _ _ _ _ _ _ _ _ _ _ _ _ _ _ _ _ _ _ _ _ _ _ _ _ _ _ _ _ _ _ _ _ _ _ _ _ _ _ _ _ _ _ _ _ _ _ hS3 (unhide hI2) hG ⟨Nat.le_succ_of_le (unhide hN).qa,Nat.le_succ_of_le (unhide hN).qb,Nat.le_succ_of_le (unhide hN).wa,Nat.le_succ_of_le (unhide hN).wb⟩
end Go.Proofs.Ytcefkkoombmndab
