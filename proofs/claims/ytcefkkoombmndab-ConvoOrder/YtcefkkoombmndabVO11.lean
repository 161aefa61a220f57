/-
  What the proof leans on.
-/
import Derived.Lib.LazyBuf
import Derived.Test.YtcefkkoombmndabVO10
namespace Go.Proofs.Ytcefkkoombmndab
open Go.RowKit
set_option maxRecDepth 100000
set_option linter.unusedSimpArgs false
set_option linter.unusedVariables false
def rs (r:Int):ByteArray:=⟨#[UInt8.ofNat r.toNat]⟩
theorem rs_size (r:Int):(rs r).size=1:=rfl
theorem exec_rune {a:Act} {o:Oper} (w:World) (x:Operand) (ho:o.op=.convert 21 9 x) (r:Int) (hx:a.eval x=.int .i32 r) (h1:97≤r) (h2:r≤122) :
  (execOp a.eval o).run Try.prog w=.ok (.value (.string (rs r))) w:=by
 have h:r=97∨r=98∨r=99∨r=100∨r=101∨r=102∨r=103∨r=104∨r=105∨r=106∨r=107∨r=108∨r=109∨r=110∨r=111∨r=112∨r=113∨r=114∨r=115∨r=116∨r=117∨r=118∨r=119∨r=120∨r=121∨r=122:=by omega
 unfold execOp
 simp only [ho,hx]
 rcases h with rfl | rfl | rfl | rfl | rfl | rfl | rfl | rfl | rfl | rfl | rfl | rfl | rfl | rfl | rfl | rfl | rfl | rfl | rfl | rfl | rfl | rfl | rfl | rfl | rfl | rfl <;> (show _=_; kernel_rfl)
theorem exec_sadd2 {a:Act} {o:Oper} (w:World) (x y:Operand) (ho:o.op=.binOp .add 9 x y 9) (s t:ByteArray) (hx:a.eval x=.string s) (hy:a.eval y=.string t) (h:s.size+t.size≤1000000) (r:ByteArray) (hr:s++t=r) :
  (execOp a.eval o).run Try.prog w=.ok (.value (.string r)) w:=by
 subst hr
 have h1:=run_string_add_sum (P:=Try.prog) w s t (by omega)
 unfold execOp
 simp only [ho,hx,hy,binOp_string_add]
 go_simp
theorem quo_i {a:Act} {o:Oper} (w:World) (x y:Operand) (m n:Int) (ho:o.op=.binOp .quo 3 x y 3) (hx:a.eval x=.int .i64 m) (hy:a.eval y=.int .i64 n) (hm:0≤m) (hm2:m<9223372036854775808) (hn:0<n) (r:Int) (hr:m / n=r):(execOp a.eval o).run Try.prog w=.ok (.value (.int .i64 r)) w:=by
 subst hr
 have h0:n≠0:=by omega
 have h1:0≤m / n:=Int.ediv_nonneg hm (by omega)
 have h2:m / n≤m:=Int.ediv_le_self n hm
 have ht:Int.tdiv m n=m / n:=Int.tdiv_eq_ediv_of_nonneg hm
 have hw:IntKind.i64.wrap (m / n)=m / n:=by rw [IntKind.wrap_i64]; omega
 unfold execOp
 simp only [ho,hx,hy]
 go_simp
theorem conv_i32 {a:Act} {o:Oper} (w:World) (x:Operand) (m:Int) (ho:o.op=.convert 3 21 x) (hx:a.eval x=.int .i64 m) (h:0≤m∧m<2147483648):(execOp a.eval o).run Try.prog w=.ok (.value (.int .i32 m)) w:=by
 have hw:IntKind.i32.wrap m=m:=by rw [IntKind.wrap_i32]; omega
 unfold execOp
 simp only [ho,hx]
 go_simp
theorem len_stn {a:Act} {o:Oper} (w:World) (x:Operand) (s:ByteArray) (n:Nat) (hn:s.size=n) (hs:s.size<9223372036854775808) (ho:o.op=.call { callee:=.builtin .len,args:=#[x],argTypes:=#[9] }) (hx:a.eval x=.string s):(execOp a.eval o).run Try.prog w=.ok (.value (.int .i64 (n:Int))) w:=by
 subst hn
 exact len_st w x s hs ho hx
theorem list_c8b {ops:Array Oper} {Q:Exit→Act→World→Prop} {a:Act} {w w0:World} {o:Oper} {rest:List Oper} {L:List Blk} {t:TypeId} {c:Array Value} (x y:Operand) (g off:Nat) (z:Int) (hw:Region.wanted o (yielded ops a.tmps)=true) (ho:o.op=.store 5 x y)
  (hx:a.eval x=.pointer (some ⟨g,off,none⟩)) (hy:a.eval y=.int .u8 z) (hB:Bl w0 L w) (b:Nat) (hb:L[b]?=some ⟨g,c,t⟩) (q:Value) (hq:c[off]?=some q)
  (h:∀ v,Bl w0 (L.set b ⟨g,c.setIfInBounds off (.int .u8 z),t⟩) v→Bt g w v→wpList Try.prog ops Q rest (a.put o.dst undef) v):wpList Try.prog ops Q (o::rest) a w :=
 wpList_step fun K hK=>by
  have h2:=hK _ _ (h _ (hB.cell b hb off (.int .u8 z)) (setCells_bt [.int .u8 z] w g off))
  have c4:=cell_of (hB.get b hb) hq
  have fz:=froz_of (i:=off) (hB.get b hb)
  dsimp only at c4 fz
  rw [if_pos hw]
  unfold Oper.wp execOp
  simp only [ho,hx,hy]
  go_simp
  exact h2
theorem step_copyT {ops:Array Oper} {Q:Exit→Act→World→Prop} {o:Oper} {a:Act} {w:World} {K:Act→World→Prop} (d x:Operand) (ho:o.op=.call { callee:=.builtin .copy,args:=#[d,x],argTypes:=#[49,9] }) (hw:Region.wanted o (yielded ops a.tmps)=true)
  (g off len cap:Nat) (s:ByteArray) (hd:a.eval d=.slice (some ⟨g,off,none⟩) len cap) (hx:a.eval x=.string s) (hle:s.size≤len) (C:List Value) (t:TypeId) (hg:w.heap[g]?=some (.cells C.toArray t (0,0))) (hfit:off+s.size≤C.length)
  (h:K (a.put o.dst (.int .i64 (s.size:Int))) (w.setCells g off ((tbo s).map (Value.int .u8)))):if Region.wanted o (yielded ops a.tmps)=true then Oper.wp Try.prog o a w K Q else K (a.put o.dst undef) w:=by
 have hth:=there_of (n:=s.size) hg hfit
 have hz:∀ w,(Go.sizeOf 5).run Try.prog w=.ok 1 w:=fun w=>by kernel_rfl
 have hrun:=run_copy_string (P:=Try.prog) w 49 9 o.type 5 g off len cap s Try.underlying49 hz hle (fun j hj=>(hth j hj).1) (fun j hj=>(hth j hj).2)
 have e:(s.data.toList.map fun x=>Value.int .u8 (x.toNat:Int))=(tbo s).map (Value.int .u8):=by unfold tbo; rw [List.map_map]; rfl
 rw [e] at hrun
 rw [if_pos hw]
 unfold Oper.wp
 simp [execOp,ho,resolve,invoke,builtin,hd,hx,hrun,Result.andThen]
 exact h
def Z104:List Int:=List.replicate 104 0
theorem c8_first:(fl [bw Z105]).setIfInBounds 0 (.int .u8 3)=fl [[.int .u8 3],bw Z104]:=by kernel_rfl
theorem c8_at:(fl [bw Z105])[0]?=some (.int .u8 0):=by kernel_rfl
theorem bdy_cells {t:ByteArray} (h:t.size=3):(sp ([[.int .u8 3],bw Z104].flatten) 1 ((tbo t).map (Value.int .u8))).toArray=fl [bw (bdy t)]:=by
 have e:(tbo t).length=3:=by rw [tbo_len,h]
 obtain ⟨x,y,z,hxyz⟩:∃ x y z,tbo t=[x,y,z]:=by
  match hh:tbo t,e with
  | [x,y,z],_=>exact ⟨x,y,z,rfl⟩
 unfold bdy
 rw [hxyz,h]
 show _=_
 kernel_rfl
theorem bdy_b {t:ByteArray} (h:t.size=3):IsB (bdy t):=by
 intro x hx
 unfold bdy at hx
 rw [h] at hx
 rcases List.mem_cons.1 hx with rfl | hx
 ·decide
 rcases List.mem_append.1 hx with hx | hx
 ·unfold tbo at hx
  obtain ⟨y,-,rfl⟩:=List.mem_map.1 hx
  have:=y.toNat_lt
  omega
 ·rw [List.eq_of_mem_replicate hx]
  decide
set_option maxHeartbeats 4000000 in
theorem br_queue0 (b g n i:Nat) (A B:Sd) (w:World) (z0 z1 z2 z5 z8 z9 z10 z11 z12 z13 z14 z15 z16 z17 z18 z19 z20 z21 z22 z23 z24 z25 z26 z27 z28 z29 z30 z31 z32 z33 z34 z35 z36 z37 z38 z39 z40 z41 z42 z43 z44 z45 z46 z47 z49 z50 z51 z52 z53 z54 z55 z56 z57 z58 z59 z60 z61 z62 z63 z64 z65 z66 z67 z68 z69 z70 z71 z72 z73 z74 z75 z76 z77 z78 z79 z80 z81 z82 z83 z84 z85 z86 z87 z88 z89 z90 z91 z92 z93 z94 z95 z96 z97 z98 z99 z100 z101 z102 z103 z104 z105 z106 z107 z108 z109 z110 z111 z112 z113 z114 z115 z116 z117 z118 z119 z120 z121 z122 z123 z124 z125 z126 z127 z128 z129 z130 z131 z132 z133 z134 z135 z136 z137 z138 z139 z140 z141 z142 z143 z144 z145 z146 z147 z148 z149 z150 z151 z152 z153 z154 z155 z156 z157 z158 z159 z160 z161 z162 z163 z164 z165 z166 z167 z168 z169 z170 z171 z172 z173 z174 z175 z176 z177 z178 z179 z180 z181 z182 z183 z184 z185 z186 z187 z188 z189 z190 z191 z192 z193 z194 z195 z196 z197 z198 z199 z200 z201 z202 z203 z204 z205 z206 z207 z208 z209 z210 z211 z212 z213 z214 z215 z216 z217 z218 z219 z220 z221 z222 z223 z224 z225 z226 z227 z228 z229 z230 z231 z232 z233 z234 z235 z236 z237 z238 z239 z240 z241 z242:Value) (Q:Exit→Act→World→Prop) (hb:b≤w.heap.size) (hbg:b≤g) (hS:St b w g A B) (hI:Inv A B) (hN:Bd n A B) (hn:n<400) (hi:i<400) (hQp:∀ c a (d:Nat) v w,Q (.panic c) (Act.put a (some d) v) w→Q (.panic c) a w) (h4:A.c.O.length≠4) (hQ:∀ u2 u8 u9 u10 u11 u12 u13 u14 u15 u49 u50 u51 u52 u53 u54 u55 u56 u57 u58 u59 u60 u61 u62 u63 u64 u65 u66 u67 u68 u69 u70 u71 u72 u73 u74 u75 u76 u77 u78 u79 u80 u81 u82 u83 u84 u85 u86 u87 u88 u89 u90 u91 u92 u93 u94 u95 u96 u97 u98 u99 u100 u101 u102 u103 u104 u105 u106 u107 u108 u109 u110 u111 u112 u113 u114 u115 u116 u117 u118 u119 u120 u121 u122 u123 u124 u125 u126 u127 u128 u129 u130 u131 u132 u133 u134 u135 u136 u137 u138 u139 u140 u141 u142 u143 u144 u145 u146 u147 u148 u149 u150 u151 u152 u153 u154 u155 u156 u157 u158 u159 u160 u161 u162 u163 u164 u165 u166 u167 u168 u169 u170 u171 u172 u173 u174 u175 u176 u177 u178 u179 u180 u181 u182 u183:Value,∀ (A' B':Sd) (w':World),St b w' g A' B'→Inv A' B'→Cg g b w w'→Bd (n+1) A' B'→Q .normal ⟨#[z0,z1,u2,.pointer (some ⟨g,0,none⟩),.int .i64 (i:Int),z5,.pointer (some ⟨g,0,none⟩),.pointer (some ⟨g,8,none⟩),u8,u9,u10,u11,u12,u13,u14,u15,z16,z17,z18,z19,z20,z21,z22,z23,z24,z25,z26,z27,z28,z29,z30,z31,z32,z33,z34,z35,z36,z37,z38,z39,z40,z41,z42,z43,z44,z45,z46,z47,.int .u64 0,u49,u50,u51,u52,u53,u54,u55,u56,u57,u58,u59,u60,u61,u62,u63,u64,u65,u66,u67,u68,u69,u70,u71,u72,u73,u74,u75,u76,u77,u78,u79,u80,u81,u82,u83,u84,u85,u86,u87,u88,u89,u90,u91,u92,u93,u94,u95,u96,u97,u98,u99,u100,u101,u102,u103,u104,u105,u106,u107,u108,u109,u110,u111,u112,u113,u114,u115,u116,u117,u118,u119,u120,u121,u122,u123,u124,u125,u126,u127,u128,u129,u130,u131,u132,u133,u134,u135,u136,u137,u138,u139,u140,u141,u142,u143,u144,u145,u146,u147,u148,u149,u150,u151,u152,u153,u154,u155,u156,u157,u158,u159,u160,u161,u162,u163,u164,u165,u166,u167,u168,u169,u170,u171,u172,u173,u174,u175,u176,u177,u178,u179,u180,u181,u182,u183,z184,z185,z186,z187,z188,z189,z190,z191,z192,z193,z194,z195,z196,z197,z198,z199,z200,z201,z202,z203,z204,z205,z206,z207,z208,z209,z210,z211,z212,z213,z214,z215,z216,z217,z218,z219,z220,z221,z222,z223,z224,z225,z226,z227,z228,z229,z230,z231,z232,z233,z234,z235,z236,z237,z238,z239,z240,z241,z242],[]⟩ w'):Code.wp Try.prog oSwitch Q ⟨#[z0,z1,z2,.pointer (some ⟨g,0,none⟩),.int .i64 (i:Int),z5,.pointer (some ⟨g,0,none⟩),.pointer (some ⟨g,8,none⟩),z8,z9,z10,z11,z12,z13,z14,z15,z16,z17,z18,z19,z20,z21,z22,z23,z24,z25,z26,z27,z28,z29,z30,z31,z32,z33,z34,z35,z36,z37,z38,z39,z40,z41,z42,z43,z44,z45,z46,z47,.int .u64 0,z49,z50,z51,z52,z53,z54,z55,z56,z57,z58,z59,z60,z61,z62,z63,z64,z65,z66,z67,z68,z69,z70,z71,z72,z73,z74,z75,z76,z77,z78,z79,z80,z81,z82,z83,z84,z85,z86,z87,z88,z89,z90,z91,z92,z93,z94,z95,z96,z97,z98,z99,z100,z101,z102,z103,z104,z105,z106,z107,z108,z109,z110,z111,z112,z113,z114,z115,z116,z117,z118,z119,z120,z121,z122,z123,z124,z125,z126,z127,z128,z129,z130,z131,z132,z133,z134,z135,z136,z137,z138,z139,z140,z141,z142,z143,z144,z145,z146,z147,z148,z149,z150,z151,z152,z153,z154,z155,z156,z157,z158,z159,z160,z161,z162,z163,z164,z165,z166,z167,z168,z169,z170,z171,z172,z173,z174,z175,z176,z177,z178,z179,z180,z181,z182,z183,z184,z185,z186,z187,z188,z189,z190,z191,z192,z193,z194,z195,z196,z197,z198,z199,z200,z201,z202,z203,z204,z205,z206,z207,z208,z209,z210,z211,z212,z213,z214,z215,z216,z217,z218,z219,z220,z221,z222,z223,z224,z225,z226,z227,z228,z229,z230,z231,z232,z233,z234,z235,z236,z237,z238,z239,z240,z241,z242],[]⟩ w:=by
 obtain ⟨r1,hr1⟩:∃ r,r=97+(i:Int) % 26:=⟨_,rfl⟩
 obtain ⟨r2,hr2⟩:∃ r,r=97+((i:Int) / 26) % 26:=⟨_,rfl⟩
 have hb1:97≤r1∧r1≤122:=by omega
 have hb2:97≤r2∧r2≤122:=by omega
 obtain ⟨t1,ht1⟩:∃ t,t=(⟨#[116]⟩:ByteArray)++rs r1:=⟨_,rfl⟩
 obtain ⟨t,ht⟩:∃ t,t=t1++rs r2:=⟨_,rfl⟩
 have hz1:t1.size=2:=by rw [ht1,ByteArray.size_append,rs_size]; rfl
 have hz:t.size=3:=by rw [ht,ByteArray.size_append,rs_size,hz1]
 have hYl:=bdy_len hz
 have hYb:=bdy_b hz
 have hno:=(hI).1.nx
 have hqq:A.q.length≤n:=hN.qa
 have hI2:=(hI).queue t hz (by omega) h4
 obtain ⟨c',hc'⟩:∃ c,c=(qu A.c (bdy t)).1:=⟨_,rfl⟩
 have hqu:qu A.c (bdy t)=(c',A.c.nx,0):=by rw [hc',oq_go (hI).1 _ h4]
 rw [← hc'] at hI2
 replace hI2:=hide hI2
 replace hc':=hide hc'
 replace hqu:=hide hqu
 obtain ⟨x,y,qA,dA,vA,qB,dB,vB,hg,hA,hD,hXF,hU,hV⟩:=hS
 obtain ⟨wa,wc,hva,-⟩:=(hXF.own 0 _ rfl).lz
 dsimp only at hva
 subst hva
 obtain ⟨wn,hwn⟩:∃ n,n=(A.q.map tr1).length:=⟨_,rfl⟩
 rw [← hwn] at hg hXF
 rw [List.length_map] at hwn
 have hXo:=hXF.old
 have hXG:Cgs g b w w:=⟨Cg.refl g b w,hb⟩
 have hol:=hA.i.o.len
 replace hXF:=hide hXF; replace hA:=hide hA; replace hD:=hide hD; replace hU:=hide hU; replace hV:=hide hV; replace hI:=hide hI; replace hQ:=hide hQ; replace hN:=hide hN; replace hXG:=hide hXG; replace hwn:=hide hwn; replace hQp:=hide hQp; replace hno:=hide hno
 replace hr1:=hide hr1; replace hr2:=hide hr2; replace ht1:=hide ht1; replace ht:=hide ht
 conv=>arg 2; whnf
 go_upto_region 18 with fail
 have hB:=(nilb w).add ⟨g,sg A.c x (.slice wa wn wc) dA vA B.c y qB dB vB,43⟩ hg (Nat.zero_le _) (by intro y hy; cases hy)
 simp only [List.nil_append] at hB
 clear hg
 obtain ⟨u0,hu_⟩:∃ u,u=w:=⟨_,rfl⟩
 have hB2:Bl (bare w) [⟨g,sg A.c x (.slice wa wn wc) dA vA B.c y qB dB vB,43⟩] u0:=hu_ ▸ hB
 replace hA:Hid (Co b u0 A.c x):=hu_ ▸ hA; replace hD:Hid (Co b u0 B.c y):=hu_ ▸ hD
 replace hXF:Hid (Fam b u0 (fam A B (.slice wa wn wc) dA vA qB dB vB)):=hu_ ▸ hXF
 replace hXG:Hid (Cgs g b w u0):=hu_ ▸ hXG
 clear hB
 have hB:=hB2
 clear hB2
 rw [← hu_]
 clear hu_
 refine wp_region_lit ?_
 refine lvk (.bool true) ?_
 simp only [nrm]
 (refine wpList_step fun K hK=>?_; replace hK:=hide hK; go_simp; refine unhide hK _ _ ?_; clear hK K)
 refine wpList_nil ?_
 replace hB:=hide hB
 go_upto_region 19 with fail
 replace hB:=unhide hB
 refine wp_region_lit ?_
 refine lvk (.int .i64 (i:Int)) ?_
 simp only [nrm]
 refine list_val (.int .i64 ((i:Int) % 26)) (by kernel_rfl) (rem_i _ (.tmp 104) (.const (.int .i64 26)) (i:Int) 26 rfl (by kernel_rfl) rfl (by omega) (by decide) (by decide)) ?_
 simp only [nrm]
 refine list_val (.int .i64 r1) (by kernel_rfl) (add_i _ (.const (.int .i64 97)) (.tmp 105) 97 ((i:Int) % 26) rfl rfl (by kernel_rfl) r1 (unhide hr1).symm (by omega)) ?_
 simp only [nrm]
 refine list_val (.int .i32 r1) (by kernel_rfl) (conv_i32 _ (.tmp 106) r1 rfl (by kernel_rfl) (by omega)) ?_
 simp only [nrm]
 refine list_val (.string (rs r1)) (by kernel_rfl) (exec_rune _ (.tmp 107) rfl r1 (by kernel_rfl) hb1.1 hb1.2) ?_
 simp only [nrm]
 refine list_val (.string t1) (by kernel_rfl) (exec_sadd2 _ (.const (.string { data:=#[116] })) (.tmp 108) rfl ⟨#[116]⟩ (rs r1) rfl (by kernel_rfl) (by rw [rs_size]; decide) t1 (unhide ht1).symm) ?_
 simp only [nrm]
 refine lvk (.int .i64 (i:Int)) ?_
 simp only [nrm]
 refine list_val (.int .i64 ((i:Int) / 26)) (by kernel_rfl) (quo_i _ (.tmp 110) (.const (.int .i64 26)) (i:Int) 26 rfl (by kernel_rfl) rfl (by omega) (by omega) (by decide) _ rfl) ?_
 simp only [nrm]
 refine list_val (.int .i64 (((i:Int) / 26) % 26)) (by kernel_rfl) (rem_i _ (.tmp 111) (.const (.int .i64 26)) ((i:Int) / 26) 26 rfl (by kernel_rfl) rfl (by omega) (by decide) (by decide)) ?_
 simp only [nrm]
 refine list_val (.int .i64 r2) (by kernel_rfl) (add_i _ (.const (.int .i64 97)) (.tmp 112) 97 (((i:Int) / 26) % 26) rfl rfl (by kernel_rfl) r2 (unhide hr2).symm (by omega)) ?_
 simp only [nrm]
 refine list_val (.int .i32 r2) (by kernel_rfl) (conv_i32 _ (.tmp 113) r2 rfl (by kernel_rfl) (by omega)) ?_
 simp only [nrm]
 refine list_val (.string (rs r2)) (by kernel_rfl) (exec_rune _ (.tmp 114) rfl r2 (by kernel_rfl) hb2.1 hb2.2) ?_
 simp only [nrm]
 refine list_val (.string t) (by kernel_rfl) (exec_sadd2 _ (.tmp 109) (.tmp 115) rfl t1 (rs r2) (by kernel_rfl) (by kernel_rfl) (by rw [hz1,rs_size]; decide) t (unhide ht).symm) ?_
 simp only [nrm]
 (refine wpList_step fun K hK=>?_; replace hK:=hide hK; go_simp; refine unhide hK _ _ ?_; clear hK K)
 refine wpList_nil ?_
 replace hB:=hide hB
 go_upto_region 20 with fail
 replace hB:=unhide hB
 refine wp_region_lit ?_
 have hgl9:=(unhide hXG).size
 refine list_valw (.pointer (some ⟨u0.heap.size,0,none⟩)) (u0.alloc (.cells (fl [bw Z105]) 48 (0,0))) (by kernel_rfl) (by kernel_rfl) ?_
 replace hB:=hB.new (fl [bw Z105]) 48
 simp only [List.nil_append,List.cons_append] at hB
 have hg:=(Gr.refl u0).alloc (.cells (fl [bw Z105]) 48 (0,0))
 replace hA:=hide ((unhide hA).gr hg)
 replace hD:=hide ((unhide hD).gr hg)
 replace hXF:=hide ((unhide hXF).gr hg)
 replace hXG:=hide ((unhide hXG).gr hg)
 clear hg
 generalize World.alloc _ _=u1 at *
 generalize u0.heap.size=g9 at *
 simp only [nrm]
 refine wpList_nil ?_
 replace hB:=hide hB
 go_upto_region 21 with fail
 replace hB:=unhide hB
 refine wp_region_lit ?_
 refine lvk (.string t) ?_
 simp only [nrm]
 refine list_val (.int .i64 ((3:Nat):Int)) (by kernel_rfl) (len_stn _ (.tmp 117) t 3 hz (by omega) rfl (by kernel_rfl)) ?_
 simp only [nrm]
 refine lvk (.int .u8 3) ?_
 simp only [nrm]
 refine lvk (.pointer (some ⟨g9,0,none⟩)) ?_
 simp only [nrm]
 have hzz_:Hid (u1.heap[g9]?=some (.cells (fl [bw Z105]) 48 (0,0))):=hide (hB.get 1 (x:=⟨g9,fl [bw Z105],48⟩) rfl)
 refine list_c8b (.tmp 120) (.tmp 119) g9 0 3 (by kernel_rfl) rfl (by kernel_rfl) (by kernel_rfl) hB 1 rfl (.int .u8 0) c8_at ?_
 intro u2 hB_ hbt_
 rw [c8_first] at hB_
 simp only [List.set_cons_zero,List.set_cons_succ] at hB_
 clear hB
 have hB:=hB_
 clear hB_
 replace hA:=hide ((unhide hA).bz (unhide hzz_) hbt_)
 replace hD:=hide ((unhide hD).bz (unhide hzz_) hbt_)
 replace hXF:=hide ((unhide hXF).bo (unhide hzz_) hbt_ hXo hgl9)
 replace hXG:=hide ((unhide hXG).bl (unhide hzz_) hbt_ hgl9)
 clear hzz_ hbt_
 simp only [nrm]
 refine wpList_nil ?_
 replace hB:=hide hB
 go_upto_region 22 with fail
 replace hB:=unhide hB
 refine wp_region_lit ?_
 refine lvk (.slice (some ⟨g9,1,none⟩) 104 104) ?_
 simp only [nrm]
 refine lvk (.string t) ?_
 simp only [nrm]
 have hzz_:Hid (u2.heap[g9]?=some (.cells ([[.int .u8 3],bw Z104].flatten.toArray) 48 (0,0))):=hide (hB.get 1 (x:=⟨g9,fl [[.int .u8 3],bw Z104],48⟩) rfl)
 refine wpList_step fun K hK=>?_
 refine step_copyT (.tmp 121) (.tmp 122) rfl (by kernel_rfl) g9 1 104 104 t (by kernel_rfl) (by kernel_rfl) (by omega) ([[.int .u8 3],bw Z104].flatten) 48 (unhide hzz_) (by rw [hz]; decide) ?_
 have hB2:=hB.cells 1 (C:=[[.int .u8 3],bw Z104].flatten) rfl 1 ((tbo t).map (Value.int .u8))
 rw [bdy_cells hz] at hB2
 simp only [List.set_cons_zero,List.set_cons_succ] at hB2
 clear hB
 have hbt_:=setCells_bt ((tbo t).map (Value.int .u8)) u2 g9 1
 generalize World.setCells _ _ _ _=u3 at *
 have hB:=hB2
 clear hB2
 replace hA:=hide ((unhide hA).bz (unhide hzz_) hbt_)
 replace hD:=hide ((unhide hD).bz (unhide hzz_) hbt_)
 replace hXF:=hide ((unhide hXF).bo (unhide hzz_) hbt_ hXo hgl9)
 replace hXG:=hide ((unhide hXG).bl (unhide hzz_) hbt_ hgl9)
 clear hzz_ hbt_
 refine hK _ _ ?_
 clear hK K
 simp only [nrm]
 refine wpList_nil ?_
 replace hB:=hide hB
 go_upto_region 23 with fail
 replace hB:=unhide hB
 refine any_start (S:=fun v_=>v_.heap[g]?=some (.cells (sg A.c x (.slice wa wn wc) dA vA B.c y qB dB vB) 43 (0,0))∧v_.heap[g9]?=some (.cells (fl [bw (bdy t)]) 48 (0,0))) (by kernel_rfl) ?_
 replace hA:=hide ((unhide hA).gr ((Gr.refl u3).drew))
 replace hD:=hide ((unhide hD).gr ((Gr.refl u3).drew))
 replace hXF:=hide ((unhide hXF).gr ((Gr.refl u3).drew))
 replace hXG:=hide ((unhide hXG).gr ((Gr.refl u3).drew))
 replace hB:=hB.drew
 generalize World.drew _=u4 at *
 have hB0:=hide hB
 have hsz_:Hid (Sz u4.heap.size u4):=Nat.le_refl _
 have hsW_:=(unhide hXG).size
 simp only [List.size_toArray,List.length_cons,List.length_nil,Array.replicate,List.replicate]
 refine any_take (i:=0) (v:=(.pointer (some ⟨g,0,none⟩))) (tf 14 0) rfl (by kernel_rfl) (by kernel_rfl) (by kernel_rfl) (by kernel_rfl) (fun c_ _ w_ h_=>unhide hQp c_ _ _ _ w_ h_) (.inl ⟨by kernel_rfl,fun x_ hu=>by kernel_rfl⟩) ⟨(hB.get 0 (x:=⟨g,sg A.c x (.slice wa wn wc) dA vA B.c y qB dB vB,43⟩) rfl),(hB.get 1 (x:=⟨g9,fl [bw (bdy t)],48⟩) rfl)⟩ ?_
 simp only [nrm]
 refine any_take (i:=1) (v:=(.pointer (some ⟨g,0,none⟩))) (tf 14 1) rfl (by kernel_rfl) (by kernel_rfl) (by kernel_rfl) (by kernel_rfl) (fun c_ _ w_ h_=>unhide hQp c_ _ _ _ w_ h_) (.inl ⟨by kernel_rfl,fun x_ hu=>by kernel_rfl⟩) ⟨(hB.get 0 (x:=⟨g,sg A.c x (.slice wa wn wc) dA vA B.c y qB dB vB,43⟩) rfl),(hB.get 1 (x:=⟨g9,fl [bw (bdy t)],48⟩) rfl)⟩ ?_
 simp only [nrm]
 refine any_take (i:=2) (v:=(.pointer (some ⟨g,0,none⟩))) (tf 14 2) rfl (by kernel_rfl) (by kernel_rfl) (by kernel_rfl) (by kernel_rfl) (fun c_ _ w_ h_=>unhide hQp c_ _ _ _ w_ h_) (.inl ⟨by kernel_rfl,fun x_ hu=>by kernel_rfl⟩) ⟨(hB.get 0 (x:=⟨g,sg A.c x (.slice wa wn wc) dA vA B.c y qB dB vB,43⟩) rfl),(hB.get 1 (x:=⟨g9,fl [bw (bdy t)],48⟩) rfl)⟩ ?_
 simp only [nrm]
 refine any_take (i:=3) (v:=(.agg (cg A.c x))) (tf 14 3) rfl (by kernel_rfl) (by kernel_rfl) (by kernel_rfl) (by kernel_rfl) (fun c_ _ w_ h_=>unhide hQp c_ _ _ _ w_ h_) (.inl ⟨by kernel_rfl,fun x_ hu=>exec_sr _ 26 (.tmp 127) rfl (g) 0 (by kernel_rfl) hu.1 0 5 (show 0+5≤16 by decide) rfl Try.underlying26 rfl (by kernel_rfl)⟩) ⟨(hB.get 0 (x:=⟨g,sg A.c x (.slice wa wn wc) dA vA B.c y qB dB vB,43⟩) rfl),(hB.get 1 (x:=⟨g9,fl [bw (bdy t)],48⟩) rfl)⟩ ?_
 simp only [nrm]
 refine any_take (i:=4) (v:=(.agg (fl [bw (bdy t)]))) (tf 14 4) rfl (by kernel_rfl) (by kernel_rfl) (by kernel_rfl) (by kernel_rfl) (fun c_ _ w_ h_=>unhide hQp c_ _ _ _ w_ h_) (.inl ⟨by kernel_rfl,fun x_ hu=>exec_sw _ 48 (.tmp 9) rfl (g9) (by kernel_rfl) hu.2 NY (nY hYl) Try.underlying48 rfl (by kernel_rfl)⟩) ⟨(hB.get 0 (x:=⟨g,sg A.c x (.slice wa wn wc) dA vA B.c y qB dB vB,43⟩) rfl),(hB.get 1 (x:=⟨g9,fl [bw (bdy t)],48⟩) rfl)⟩ ?_
 simp only [nrm]
 refine float_first (fun q u=>NKf u4.heap.size (cg0) 26 u q) 10 (fun b_=>#[true,true,true,true,true,false,false,false,false,false,b_,false,false,false]) 10 5 false rfl rfl (fun v_ g_=>⟨g_.blk (hB.get 0 (x:=⟨g,sg A.c x (.slice wa wn wc) dA vA B.c y qB dB vB,43⟩) rfl),g_.blk (hB.get 1 (x:=⟨g9,fl [bw (bdy t)],48⟩) rfl)⟩) (by kernel_rfl) (fun b_=>by cases b_ <;> rfl) ?_ ?_
 all_goals simp only [fw1,Act.put,List.setIfInBounds_toArray,List.set_cons_zero,List.set_cons_succ,List.getElem_toArray,List.getElem_cons_zero,List.getElem_cons_succ]
 ·intro q_ x_ hgx K hK
  refine wpOp_step (o:=_) rfl (fun K' hK'=>?_)
  replace hK':=hide hK'
  replace hK:=hide hK
  refine step_val (.pointer (some ⟨x_.heap.size,0,none⟩)) (x_.alloc (.cells (cg0) 26 (0,0))) (by kernel_rfl) (by kernel_rfl) ?_
  exact unhide hK' _ _ (unhide hK _ _ ((Gr.refl _).alloc _) (⟨_,rfl,Nat.le_trans (unhide hsz_) hgx.size,blk_new _ _⟩))
 intro b1_5 q1_5 x1_5 hg hTq hall
 replace hA:=hide ((unhide hA).gr hg)
 replace hD:=hide ((unhide hD).gr hg)
 replace hXF:=hide ((unhide hXF).gr hg)
 replace hXG:=hide ((unhide hXG).gr hg)
 replace hsz_:=hide ((unhide hsz_).gr hg)
 replace hB:=hB.more hg
 clear hg
 clear hall
 refine wpOp_step (o:=_) rfl (fun K hK=>?_)
 replace hK:=hide hK
 refine step_callw (by kernel_rfl) 11 #[.agg (cg A.c x),.agg (fl [bw (bdy t)])] (by kernel_rfl) ((((show Calls Try.prog 11 #[.agg (cg A.c x),.agg (fl [bw (bdy t)])] x1_5 (Rc c' [.int .u32 A.c.nx,.int .i64 0] x1_5) from by have h:=queue_ok A.c x (bdy t) ⟨hYl,hYb⟩ x1_5 (unhide hA).i; rw [unhide hqu] at h; exact h).mono fun _ _ h=>rcb_of h (Nat.le_trans hb (unhide hXG).size))).mono ?_)
 rintro r u5 ⟨x2,rfl,hE,hg⟩
 refine ⟨_,rfl,?_⟩
 replace hTq:=fun e=>NKf.gr (hTq e) hg
 replace hsz_:=hide ((unhide hsz_).gr hg)
 replace hA:=hide ((unhide hA).gr hg)
 replace hD:=hide ((unhide hD).gr hg)
 replace hXF:=hide ((unhide hXF).gr hg)
 replace hXG:=hide ((unhide hXG).gr hg)
 replace hB:=hB.more hg
 clear hg
 replace hE:=hide hE
 refine unhide hK _ _ ⟨⟨(hB.get 0 (x:=⟨g,sg A.c x (.slice wa wn wc) dA vA B.c y qB dB vB,43⟩) rfl),(hB.get 1 (x:=⟨g9,fl [bw (bdy t)],48⟩) rfl)⟩,?_⟩
 clear hK K
 simp only [nrm]
 refine any_take (i:=6) (v:=(.tuple #[.agg (cg c' x2),.int .u32 A.c.nx,.int .i64 0])) (tf 14 6) rfl (by kernel_rfl) (by kernel_rfl) (by kernel_rfl) (by kernel_rfl) (fun c_ _ w_ h_=>unhide hQp c_ _ _ _ w_ h_) (.inl ⟨by kernel_rfl,fun x_ hu=>by kernel_rfl⟩) ⟨(hB.get 0 (x:=⟨g,sg A.c x (.slice wa wn wc) dA vA B.c y qB dB vB,43⟩) rfl),(hB.get 1 (x:=⟨g9,fl [bw (bdy t)],48⟩) rfl)⟩ ?_
 simp only [nrm]
 refine any_take (i:=7) (v:=(.agg (cg c' x2))) (tf 14 7) rfl (by kernel_rfl) (by kernel_rfl) (by kernel_rfl) (by kernel_rfl) (fun c_ _ w_ h_=>unhide hQp c_ _ _ _ w_ h_) (.inl ⟨by kernel_rfl,fun x_ hu=>by kernel_rfl⟩) ⟨(hB.get 0 (x:=⟨g,sg A.c x (.slice wa wn wc) dA vA B.c y qB dB vB,43⟩) rfl),(hB.get 1 (x:=⟨g9,fl [bw (bdy t)],48⟩) rfl)⟩ ?_
 simp only [nrm]
 refine any_take (i:=8) (v:=(.int .u32 A.c.nx)) (tf 14 8) rfl (by kernel_rfl) (by kernel_rfl) (by kernel_rfl) (by kernel_rfl) (fun c_ _ w_ h_=>unhide hQp c_ _ _ _ w_ h_) (.inl ⟨by kernel_rfl,fun x_ hu=>by kernel_rfl⟩) ⟨(hB.get 0 (x:=⟨g,sg A.c x (.slice wa wn wc) dA vA B.c y qB dB vB,43⟩) rfl),(hB.get 1 (x:=⟨g9,fl [bw (bdy t)],48⟩) rfl)⟩ ?_
 simp only [nrm]
 refine any_take (i:=9) (v:=(.int .i64 0)) (tf 14 9) rfl (by kernel_rfl) (by kernel_rfl) (by kernel_rfl) (by kernel_rfl) (fun c_ _ w_ h_=>unhide hQp c_ _ _ _ w_ h_) (.inl ⟨by kernel_rfl,fun x_ hu=>by kernel_rfl⟩) ⟨(hB.get 0 (x:=⟨g,sg A.c x (.slice wa wn wc) dA vA B.c y qB dB vB,43⟩) rfl),(hB.get 1 (x:=⟨g9,fl [bw (bdy t)],48⟩) rfl)⟩ ?_
 simp only [nrm]
 refine float_again (fun q u=>NKf u4.heap.size (cg0) 26 u q) 10 (fun b_=>#[true,true,true,true,true,true,true,true,true,true,b_,false,false,false]) 10 11 true (b:=b1_5) (q:=q1_5) rfl rfl hTq (fun v_ g_=>⟨g_.blk (hB.get 0 (x:=⟨g,sg A.c x (.slice wa wn wc) dA vA B.c y qB dB vB,43⟩) rfl),g_.blk (hB.get 1 (x:=⟨g9,fl [bw (bdy t)],48⟩) rfl)⟩) (by kernel_rfl) (fun b_=>by cases b_ <;> rfl) ?_ ?_
 all_goals simp only [fw1,Act.put,List.setIfInBounds_toArray,List.set_cons_zero,List.set_cons_succ,List.getElem_toArray,List.getElem_cons_zero,List.getElem_cons_succ]
 ·intro q_ x_ hgx K hK
  refine wpOp_step (o:=_) rfl (fun K' hK'=>?_)
  replace hK':=hide hK'
  replace hK:=hide hK
  refine step_val (.pointer (some ⟨x_.heap.size,0,none⟩)) (x_.alloc (.cells (cg0) 26 (0,0))) (by kernel_rfl) (by kernel_rfl) ?_
  exact unhide hK' _ _ (unhide hK _ _ ((Gr.refl _).alloc _) (⟨_,rfl,Nat.le_trans (unhide hsz_) hgx.size,blk_new _ _⟩))
 clear hTq
 intro b1_11 q1_11 x1_11 hg hTq hall
 replace hsz_:=hide ((unhide hsz_).gr hg)
 replace hA:=hide ((unhide hA).gr hg)
 replace hD:=hide ((unhide hD).gr hg)
 replace hXF:=hide ((unhide hXF).gr hg)
 replace hXG:=hide ((unhide hXG).gr hg)
 replace hE:=hide ((unhide hE).gr hg)
 replace hB:=hB.more hg
 clear hg
 obtain rfl:b1_11=true:=hall (by trivial)
 replace hTq:=hTq rfl
 clear hall
 obtain ⟨g10,rfl,hge_,hnew_⟩:=hTq
 have hgl10:=Nat.le_trans hsW_ hge_
 replace hB:=Bl.joinz (unhide hB0) hB hge_ hnew_
 simp only [List.cons_append,List.nil_append] at hB
 clear hB0 hge_ hnew_ hsW_
 refine wpOp_step (o:=_) rfl (fun K hK=>?_)
 replace hK:=hide hK
 have hzz_:Hid (x1_11.heap[g10]?=some (.cells (cg0) 26 (0,0))):=hide (hB.get 2 (x:=⟨g10,cg0,26⟩) rfl)
 refine step_all 26 (.tmp 10) (.tmp 131) (g10) (S2:=[[.int .u32 c'.nx],[.slice x2.ao x2.no x2.co],[.int .i64 c'.tn],[.int .u32 c'.dl],[.slice x2.ah x2.nh x2.ch]]) (by kernel_rfl) rfl (by kernel_rfl) (by kernel_rfl) hB 2 rfl NC (nC  _ _ _ _ _) (nC  _ _ _ _ _) (by kernel_rfl) (oC  rfl rfl rfl rfl rfl) ?_
 intro u6 hB_ hbt_
 clear hB
 replace hB:Bl (bare w) [⟨g,sg A.c x (.slice wa wn wc) dA vA B.c y qB dB vB,43⟩,⟨g9,fl [bw (bdy t)],48⟩,⟨g10,cg c' x2,26⟩] u6:=hB_
 clear hB_
 replace hA:=hide ((unhide hA).bz (unhide hzz_) hbt_)
 replace hD:=hide ((unhide hD).bz (unhide hzz_) hbt_)
 replace hXF:=hide ((unhide hXF).bo (unhide hzz_) hbt_ hXo hgl10)
 replace hXG:=hide ((unhide hXG).bl (unhide hzz_) hbt_ hgl10)
 replace hE:=hide ((unhide hE).bz (unhide hzz_) hbt_)
 clear hbt_ hzz_
 refine unhide hK _ _ ⟨⟨(hB.get 0 (x:=⟨g,sg A.c x (.slice wa wn wc) dA vA B.c y qB dB vB,43⟩) rfl),(hB.get 1 (x:=⟨g9,fl [bw (bdy t)],48⟩) rfl)⟩,?_⟩
 clear hK K
 simp only [nrm]
 refine any_one (i:=12) (by kernel_rfl) rfl (fun K hK=>?_)
 replace hK:=hide hK
 go_simp
 refine (unhide hK).out _ _ ⟨(hB.get 0 (x:=⟨g,sg A.c x (.slice wa wn wc) dA vA B.c y qB dB vB,43⟩) rfl),(hB.get 1 (x:=⟨g9,fl [bw (bdy t)],48⟩) rfl)⟩ (fun _=>?_)
 clear hK K
 refine any_one (i:=13) (by kernel_rfl) rfl (fun K hK=>?_)
 replace hK:=hide hK
 go_simp
 refine (unhide hK).out _ _ ⟨(hB.get 0 (x:=⟨g,sg A.c x (.slice wa wn wc) dA vA B.c y qB dB vB,43⟩) rfl),(hB.get 1 (x:=⟨g9,fl [bw (bdy t)],48⟩) rfl)⟩ (fun _=>?_)
 clear hK K
 refine any_done (by kernel_rfl) ?_
 clear hsz_
 replace hB:=hide hB
 go_upto_region 24 with fail
 replace hB:=unhide hB
 refine wp_region_lit ?_
 refine wpList_gen fun ops_ hops=>?_
 replace hops:=hide hops
 refine list_val (.int .i64 0) (by rw [unhide hops]; kernel_rfl) (by kernel_rfl) ?_
 simp only [nrm]
 refine list_val (.bool true) (by rw [unhide hops]; kernel_rfl) (eql_e _ (.tmp 134) (.const (.int .i64 0)) 0 0 true rfl (by kernel_rfl) (by kernel_rfl) (by decide)) ?_
 simp only [nrm]
 refine list_val (.bool true) (by rw [unhide hops]; kernel_rfl) (by kernel_rfl) ?_
 simp only [nrm]
 refine list_val (.int .u32 A.c.nx) (by rw [unhide hops]; kernel_rfl) (by kernel_rfl) ?_
 simp only [nrm]
 refine list_val (.int .i64 A.c.nx) (by rw [unhide hops]; kernel_rfl) (conv_i64 _ (.tmp 137) A.c.nx rfl (by kernel_rfl) (unhide hA).i.nx) ?_
 simp only [nrm]
 refine list_val (.pointer (some ⟨g,0,none⟩)) (by rw [unhide hops]; kernel_rfl) (by kernel_rfl) ?_
 simp only [nrm]
 refine list_val (.pointer (some ⟨g,0,none⟩)) (by rw [unhide hops]; kernel_rfl) (by kernel_rfl) ?_
 simp only [nrm]
 refine list_val (.pointer (some ⟨g,5,none⟩)) (by rw [unhide hops]; kernel_rfl) (by kernel_rfl) ?_
 simp only [nrm]
 refine list_val (.slice wa wn wc) (by rw [unhide hops]; kernel_rfl) (exec_csS _ (.tmp 141) rfl (g) 5 (by kernel_rfl) wa wn wc (seg_cell (nS2  _ _ _ _ _ _ _ _ _ _ _ _ _ _ _ _) (hB.get 0 (x:=⟨g,sg A.c x (.slice wa wn wc) dA vA B.c y qB dB vB,43⟩) rfl) 5 (v:=.slice wa wn wc) rfl rfl)) ?_
 simp only [nrm]
 refine list_val (.int .i64 wn) (by rw [unhide hops]; kernel_rfl) (by kernel_rfl) ?_
 simp only [nrm]
 refine list_val (.bool false) (by rw [unhide hops]; kernel_rfl) (neq_i _ (.tmp 138) (.tmp 143) A.c.nx (wn:Int) false rfl (by kernel_rfl) (by kernel_rfl) (by rw [unhide hno,unhide hwn]; simp)) ?_
 simp only [nrm]
 refine list_val (.bool false) (by rw [unhide hops]; kernel_rfl) (by kernel_rfl) ?_
 simp only [nrm]
 refine list_val (.bool false) (by rw [unhide hops]; kernel_rfl) (by kernel_rfl) ?_
 simp only [nrm]
 refine list_val (.int .i64 0) (by rw [unhide hops]; kernel_rfl) (by kernel_rfl) ?_
 simp only [nrm]
 refine list_val (.bool false) (by rw [unhide hops]; kernel_rfl) (neq_e _ (.tmp 147) (.const (.int .i64 0)) 0 0 false rfl (by kernel_rfl) (by kernel_rfl) (by decide)) ?_
 simp only [nrm]
 refine list_val (.bool false) (by rw [unhide hops]; kernel_rfl) (by kernel_rfl) ?_
 simp only [nrm]
 refine list_off (by rw [unhide hops]; kernel_rfl) ?_
 simp only [nrm]
 refine list_off (by rw [unhide hops]; kernel_rfl) ?_
 simp only [nrm]
 refine list_off (by rw [unhide hops]; kernel_rfl) ?_
 simp only [nrm]
 refine list_off (by rw [unhide hops]; kernel_rfl) ?_
 simp only [nrm]
 refine list_off (by rw [unhide hops]; kernel_rfl) ?_
 simp only [nrm]
 refine list_off (by rw [unhide hops]; kernel_rfl) ?_
 simp only [nrm]
 refine list_off (by rw [unhide hops]; kernel_rfl) ?_
 simp only [nrm]
 refine list_off (by rw [unhide hops]; kernel_rfl) ?_
 simp only [nrm]
 refine list_off (by rw [unhide hops]; kernel_rfl) ?_
 simp only [nrm]
 refine list_off (by rw [unhide hops]; kernel_rfl) ?_
 simp only [nrm]
 refine list_off (by rw [unhide hops]; kernel_rfl) ?_
 simp only [nrm]
 refine list_val (.bool false) (by rw [unhide hops]; kernel_rfl) (by kernel_rfl) ?_
 simp only [nrm]
 refine list_val (.bool false) (by rw [unhide hops]; kernel_rfl) (by kernel_rfl) ?_
 simp only [nrm]
 refine wpList_nil ?_
 replace hB:=hide hB
 go_upto_region 26 with fail
 replace hB:=unhide hB
 refine wp_region_lit ?_
 refine lvk (.int .i64 0) ?_
 simp only [nrm]
 refine list_val (.bool true) (by kernel_rfl) (eql_e _ (.tmp 163) (.const (.int .i64 0)) 0 0 true rfl (by kernel_rfl) (by kernel_rfl) (by decide)) ?_
 simp only [nrm]
 refine wpList_nil ?_
 replace hB:=hide hB
 go_upto_region 27 with fail
 replace hB:=unhide hB
 refine wp_region_lit ?_
 refine lvk (.pointer (some ⟨g,0,none⟩)) ?_
 simp only [nrm]
 refine list_val (.agg (cg c' x2)) (by kernel_rfl) (exec_sw _ 26 (.tmp 10) rfl (g10) (by kernel_rfl) (hB.get 2 (x:=⟨g10,cg c' x2,26⟩) rfl) NC (nC  _ _ _ _ _) Try.underlying26 rfl (by kernel_rfl)) ?_
 simp only [nrm]
 refine lvk (.pointer (some ⟨g,0,none⟩)) ?_
 simp only [nrm]
 refine lvk (.pointer (some ⟨g,0,none⟩)) ?_
 simp only [nrm]
 have hzz_:Hid (u6.heap[g]?=some (.cells (sg A.c x (.slice wa wn wc) dA vA B.c y qB dB vB) 43 (0,0))):=hide (hB.get 0 (x:=⟨g,sg A.c x (.slice wa wn wc) dA vA B.c y qB dB vB,43⟩) rfl)
 refine list_sr 26 (.tmp 168) (.tmp 166) (g) 0 [[.int .u32 c'.nx],[.slice x2.ao x2.no x2.co],[.int .i64 c'.tn],[.int .u32 c'.dl],[.slice x2.ah x2.nh x2.ch]] (by kernel_rfl) rfl (by kernel_rfl) (by kernel_rfl) hB 0 rfl 0 5 (show 0+5≤16 by decide) rfl rfl rfl (by kernel_rfl) (oC rfl rfl rfl rfl rfl) ?_
 intro u7 hB_ hbt_
 clear hB
 replace hB:Bl (bare w) [⟨g,sg c' x2 (.slice wa wn wc) dA vA B.c y qB dB vB,43⟩,⟨g9,fl [bw (bdy t)],48⟩,⟨g10,cg c' x2,26⟩] u7:=hB_
 clear hB_
 replace hA:=hide ((unhide hA).bz (unhide hzz_) hbt_)
 replace hD:=hide ((unhide hD).bz (unhide hzz_) hbt_)
 replace hXF:=hide ((unhide hXF).bz (unhide hzz_) hbt_)
 replace hXG:=hide ((unhide hXG).bg (unhide hzz_) hbt_ hbg)
 replace hE:=hide ((unhide hE).bz (unhide hzz_) hbt_)
 clear hbt_ hzz_
 simp only [nrm]
 refine wpList_nil ?_
 replace hB:=hide hB
 go_upto_region 28 with fail
 replace hB:=unhide hB
 refine wp_region_lit ?_
 refine lvk (.pointer (some ⟨g,0,none⟩)) ?_
 simp only [nrm]
 refine lvk (.pointer (some ⟨g,0,none⟩)) ?_
 simp only [nrm]
 refine lvk (.pointer (some ⟨g,0,none⟩)) ?_
 simp only [nrm]
 refine lvk (.pointer (some ⟨g,5,none⟩)) ?_
 simp only [nrm]
 refine list_val (.slice wa wn wc) (by kernel_rfl) (exec_csS _ (.tmp 172) rfl (g) 5 (by kernel_rfl) wa wn wc (seg_cell (nS2  _ _ _ _ _ _ _ _ _ _ _ _ _ _ _ _) (hB.get 0 (x:=⟨g,sg c' x2 (.slice wa wn wc) dA vA B.c y qB dB vB,43⟩) rfl) 5 (v:=.slice wa wn wc) rfl rfl)) ?_
 simp only [nrm]
 refine lvk (.string t) ?_
 simp only [nrm]
 refine list_valw (.slice (some ⟨u7.heap.size,0,none⟩) 1 1) (u7.alloc (.cells #[.string t] 9 (0,0))) (by kernel_rfl) (exec_bss _ (.tmp 174) rfl t (by kernel_rfl)) ?_
 have hg:=(Gr.refl u7).alloc (.cells #[.string t] 9 (0,0))
 have hnew:=blk_new u7 (.cells #[.string t] 9 (0,0))
 replace hA:=hide ((unhide hA).gr hg)
 replace hD:=hide ((unhide hD).gr hg)
 replace hXF:=hide ((unhide hXF).gr hg)
 replace hXG:=hide ((unhide hXG).gr hg)
 replace hE:=hide ((unhide hE).gr hg)
 replace hB:=hB.more hg
 clear hg
 generalize World.alloc _ _=u8 at *
 generalize u7.heap.size=gq at *
 have hat:u8.rangeAt gq 0 [.string t]:=range_row (L:=[.string t]) hnew
 clear hnew
 simp only [nrm]
 refine wpList_step fun K hK=>?_
 rw [if_pos (by kernel_rfl)]
 have hOr:=(unhide hXF).own 0 _ rfl
 dsimp only at hOr
 refine app_row1B ltS (.tmp 173) (.tmp 175) rfl b (Nat.le_trans hb (unhide hXG).size) (.slice wa wn wc) (A.q.map tr1) (by kernel_rfl) hOr gq 0 1 [.string t] (by kernel_rfl) rfl hat (by intro u hu; rw [List.mem_singleton.1 hu]; rfl) (by rw [List.length_map]; omega) ?_
 intro v2 u9 hO2 hgr hsn
 have hO3:Or_ 1 9 b u9 v2 ((A.q++[t]).map tr1):=by rw [List.map_append]; exact hO2
 clear hO2
 replace hXF:Hid (Fam b u9 (fam { A with q:=A.q++[t] } B v2 dA vA qB dB vB)):=hide ((unhide hXF).put 0 rfl hO3 hgr (fun q hq=>by rcases hsn with h | h <;> rw [h] at hq <;> first | exact .inl hq | (right; cases hq; exact Nat.le_refl _)))
 replace hA:=hide ((unhide hA).grown hOr hgr)
 replace hD:=hide ((unhide hD).grown hOr hgr)
 replace hE:=hide ((unhide hE).grown hOr hgr)
 replace hXG:Hid (Cgs g b w u9):=⟨(unhide hXG).cg.grown hOr (Nat.le_refl _) hb hgr (.inl rfl),hb⟩
 have hne_:∀ y_ ∈ ([⟨g,sg c' x2 (.slice wa wn wc) dA vA B.c y qB dB vB,43⟩,⟨g9,fl [bw (bdy t)],48⟩,⟨g10,cg c' x2,26⟩]:List Blk),(Value.slice wa wn wc).ownBlock≠some y_.g:=by
  intro y_ hy_
  simp only [List.mem_cons,List.not_mem_nil,or_false] at hy_
  rcases hy_ with rfl | rfl | rfl
  ·exact own_ne_ty hOr (hB.get 0 (x:=⟨g,sg c' x2 (.slice wa wn wc) dA vA B.c y qB dB vB,43⟩) rfl) (show 43≠9 by decide)
  ·exact own_ne_ty hOr (hB.get 1 (x:=⟨g9,fl [bw (bdy t)],48⟩) rfl) (show 48≠9 by decide)
  ·exact own_ne_ty hOr (hB.get 2 (x:=⟨g10,cg c' x2,26⟩) rfl) (show 26≠9 by decide)
 replace hB:=Bl.grownN hB hgr hne_
 clear hne_ hat
 obtain ⟨wa2,wc2,rfl,-⟩:=hO3.lz
 obtain ⟨wn2,hwn2⟩:∃ m,m=((A.q++[t]).map tr1).length:=⟨_,rfl⟩
 rw [← hwn2] at hXF ⊢
 clear hOr hO3 hgr hsn hwn2
 refine hK _ _ ?_
 clear hK K
 simp only [nrm]
 refine lvk (.pointer (some ⟨g,0,none⟩)) ?_
 simp only [nrm]
 refine lvk (.pointer (some ⟨g,5,none⟩)) ?_
 simp only [nrm]
 have hzz_:Hid (u9.heap[g]?=some (.cells (sg c' x2 (.slice wa wn wc) dA vA B.c y qB dB vB) 43 (0,0))):=hide (hB.get 0 (x:=⟨g,sg c' x2 (.slice wa wn wc) dA vA B.c y qB dB vB,43⟩) rfl)
 refine list_csS (.tmp 178) (.tmp 176) (g) 5 wa2 wn2 wc2 (by kernel_rfl) rfl (by kernel_rfl) (by kernel_rfl) hB 0 rfl NS2 (nS2  _ _ _ _ _ _ _ _ _ _ _ _ _ _ _ _) 5 _ rfl rfl ?_
 intro u10 hB_ hbt_
 clear hB
 replace hB:Bl (bare w) [⟨g,sg c' x2 (.slice wa2 wn2 wc2) dA vA B.c y qB dB vB,43⟩,⟨g9,fl [bw (bdy t)],48⟩,⟨g10,cg c' x2,26⟩] u10:=hB_
 clear hB_
 replace hA:=hide ((unhide hA).bz (unhide hzz_) hbt_)
 replace hD:=hide ((unhide hD).bz (unhide hzz_) hbt_)
 replace hXF:=hide ((unhide hXF).bz (unhide hzz_) hbt_)
 replace hXG:=hide ((unhide hXG).bg (unhide hzz_) hbt_ hbg)
 replace hE:=hide ((unhide hE).bz (unhide hzz_) hbt_)
 clear hbt_ hzz_
 simp only [nrm]
 refine wpList_nil ?_
 go_wp2_with fail
 exact unhide hQ _ _ _ _ _ _ _ _ _ _ _ _ _ _ _ _ _ _ _ _ _ _ _ _ _ _ _ _ _ _ _ _ _ _ _ _ _ _ _ _ _ _ _ _ _ _ _ _ _ _ _ _ _ _ _ _ _ _ _ _ _ _ _ _ _ _ _ _ _ _ _ _ _ _ _ _ _ _ _ _ _ _ _ _ _ _ _ _ _ _ _ _ _ _ _ _ _ _ _ _ _ _ _ _ _ _ _ _ _ _ _ _ _ _ _ _ _ _ _ _ _ _ _ _ _ _ _ _ _ _ _ _ _ _ _ _ _ _ _ _ _ _ _ _ ({ A with c:=c',q:=A.q++[t] }) (B) _ ⟨x2,y,(.slice wa2 wn2 wc2),dA,vA,qB,dB,vB,hB.get 0 (x:=⟨g,sg c' x2 (.slice wa2 wn2 wc2) dA vA B.c y qB dB vB,43⟩) rfl,unhide hE,unhide hD,unhide hXF,unhide hU,unhide hV⟩ (unhide hI2) (unhide hXG).cg ⟨le_app1 (unhide hN).qa _,Nat.le_succ_of_le (unhide hN).qb,Nat.le_succ_of_le (unhide hN).wa,Nat.le_succ_of_le (unhide hN).wb⟩
set_option maxHeartbeats 4000000 in
theorem br_queuefull0 (b g n i:Nat) (A B:Sd) (w:World) (z0 z1 z2 z5 z8 z9 z10 z11 z12 z13 z14 z15 z16 z17 z18 z19 z20 z21 z22 z23 z24 z25 z26 z27 z28 z29 z30 z31 z32 z33 z34 z35 z36 z37 z38 z39 z40 z41 z42 z43 z44 z45 z46 z47 z49 z50 z51 z52 z53 z54 z55 z56 z57 z58 z59 z60 z61 z62 z63 z64 z65 z66 z67 z68 z69 z70 z71 z72 z73 z74 z75 z76 z77 z78 z79 z80 z81 z82 z83 z84 z85 z86 z87 z88 z89 z90 z91 z92 z93 z94 z95 z96 z97 z98 z99 z100 z101 z102 z103 z104 z105 z106 z107 z108 z109 z110 z111 z112 z113 z114 z115 z116 z117 z118 z119 z120 z121 z122 z123 z124 z125 z126 z127 z128 z129 z130 z131 z132 z133 z134 z135 z136 z137 z138 z139 z140 z141 z142 z143 z144 z145 z146 z147 z148 z149 z150 z151 z152 z153 z154 z155 z156 z157 z158 z159 z160 z161 z162 z163 z164 z165 z166 z167 z168 z169 z170 z171 z172 z173 z174 z175 z176 z177 z178 z179 z180 z181 z182 z183 z184 z185 z186 z187 z188 z189 z190 z191 z192 z193 z194 z195 z196 z197 z198 z199 z200 z201 z202 z203 z204 z205 z206 z207 z208 z209 z210 z211 z212 z213 z214 z215 z216 z217 z218 z219 z220 z221 z222 z223 z224 z225 z226 z227 z228 z229 z230 z231 z232 z233 z234 z235 z236 z237 z238 z239 z240 z241 z242:Value) (Q:Exit→Act→World→Prop) (hb:b≤w.heap.size) (hbg:b≤g) (hS:St b w g A B) (hI:Inv A B) (hN:Bd n A B) (hn:n<400) (hi:i<400) (hQp:∀ c a (d:Nat) v w,Q (.panic c) (Act.put a (some d) v) w→Q (.panic c) a w) (h4:A.c.O.length=4) (hQ:∀ u2 u8 u9 u10 u11 u12 u13 u14 u15 u49 u50 u51 u52 u53 u54 u55 u56 u57 u58 u59 u60 u61 u62 u63 u64 u65 u66 u67 u68 u69 u70 u71 u72 u73 u74 u75 u76 u77 u78 u79 u80 u81 u82 u83 u84 u85 u86 u87 u88 u89 u90 u91 u92 u93 u94 u95 u96 u97 u98 u99 u100 u101 u102 u103 u104 u105 u106 u107 u108 u109 u110 u111 u112 u113 u114 u115 u116 u117 u118 u119 u120 u121 u122 u123 u124 u125 u126 u127 u128 u129 u130 u131 u132 u133 u134 u135 u136 u137 u138 u139 u140 u141 u142 u143 u144 u145 u146 u147 u148 u149 u150 u151 u152 u153 u154 u155 u156 u157 u158 u159 u160 u161 u162 u163 u164 u165 u166 u167 u168 u169 u170 u171 u172 u173 u174 u175 u176 u177 u178 u179 u180 u181 u182 u183:Value,∀ (A' B':Sd) (w':World),St b w' g A' B'→Inv A' B'→Cg g b w w'→Bd (n+1) A' B'→Q .normal ⟨#[z0,z1,u2,.pointer (some ⟨g,0,none⟩),.int .i64 (i:Int),z5,.pointer (some ⟨g,0,none⟩),.pointer (some ⟨g,8,none⟩),u8,u9,u10,u11,u12,u13,u14,u15,z16,z17,z18,z19,z20,z21,z22,z23,z24,z25,z26,z27,z28,z29,z30,z31,z32,z33,z34,z35,z36,z37,z38,z39,z40,z41,z42,z43,z44,z45,z46,z47,.int .u64 0,u49,u50,u51,u52,u53,u54,u55,u56,u57,u58,u59,u60,u61,u62,u63,u64,u65,u66,u67,u68,u69,u70,u71,u72,u73,u74,u75,u76,u77,u78,u79,u80,u81,u82,u83,u84,u85,u86,u87,u88,u89,u90,u91,u92,u93,u94,u95,u96,u97,u98,u99,u100,u101,u102,u103,u104,u105,u106,u107,u108,u109,u110,u111,u112,u113,u114,u115,u116,u117,u118,u119,u120,u121,u122,u123,u124,u125,u126,u127,u128,u129,u130,u131,u132,u133,u134,u135,u136,u137,u138,u139,u140,u141,u142,u143,u144,u145,u146,u147,u148,u149,u150,u151,u152,u153,u154,u155,u156,u157,u158,u159,u160,u161,u162,u163,u164,u165,u166,u167,u168,u169,u170,u171,u172,u173,u174,u175,u176,u177,u178,u179,u180,u181,u182,u183,z184,z185,z186,z187,z188,z189,z190,z191,z192,z193,z194,z195,z196,z197,z198,z199,z200,z201,z202,z203,z204,z205,z206,z207,z208,z209,z210,z211,z212,z213,z214,z215,z216,z217,z218,z219,z220,z221,z222,z223,z224,z225,z226,z227,z228,z229,z230,z231,z232,z233,z234,z235,z236,z237,z238,z239,z240,z241,z242],[]⟩ w'):Code.wp Try.prog oSwitch Q ⟨#[z0,z1,z2,.pointer (some ⟨g,0,none⟩),.int .i64 (i:Int),z5,.pointer (some ⟨g,0,none⟩),.pointer (some ⟨g,8,none⟩),z8,z9,z10,z11,z12,z13,z14,z15,z16,z17,z18,z19,z20,z21,z22,z23,z24,z25,z26,z27,z28,z29,z30,z31,z32,z33,z34,z35,z36,z37,z38,z39,z40,z41,z42,z43,z44,z45,z46,z47,.int .u64 0,z49,z50,z51,z52,z53,z54,z55,z56,z57,z58,z59,z60,z61,z62,z63,z64,z65,z66,z67,z68,z69,z70,z71,z72,z73,z74,z75,z76,z77,z78,z79,z80,z81,z82,z83,z84,z85,z86,z87,z88,z89,z90,z91,z92,z93,z94,z95,z96,z97,z98,z99,z100,z101,z102,z103,z104,z105,z106,z107,z108,z109,z110,z111,z112,z113,z114,z115,z116,z117,z118,z119,z120,z121,z122,z123,z124,z125,z126,z127,z128,z129,z130,z131,z132,z133,z134,z135,z136,z137,z138,z139,z140,z141,z142,z143,z144,z145,z146,z147,z148,z149,z150,z151,z152,z153,z154,z155,z156,z157,z158,z159,z160,z161,z162,z163,z164,z165,z166,z167,z168,z169,z170,z171,z172,z173,z174,z175,z176,z177,z178,z179,z180,z181,z182,z183,z184,z185,z186,z187,z188,z189,z190,z191,z192,z193,z194,z195,z196,z197,z198,z199,z200,z201,z202,z203,z204,z205,z206,z207,z208,z209,z210,z211,z212,z213,z214,z215,z216,z217,z218,z219,z220,z221,z222,z223,z224,z225,z226,z227,z228,z229,z230,z231,z232,z233,z234,z235,z236,z237,z238,z239,z240,z241,z242],[]⟩ w:=by
 obtain ⟨r1,hr1⟩:∃ r,r=97+(i:Int) % 26:=⟨_,rfl⟩
 obtain ⟨r2,hr2⟩:∃ r,r=97+((i:Int) / 26) % 26:=⟨_,rfl⟩
 have hb1:97≤r1∧r1≤122:=by omega
 have hb2:97≤r2∧r2≤122:=by omega
 obtain ⟨t1,ht1⟩:∃ t,t=(⟨#[116]⟩:ByteArray)++rs r1:=⟨_,rfl⟩
 obtain ⟨t,ht⟩:∃ t,t=t1++rs r2:=⟨_,rfl⟩
 have hz1:t1.size=2:=by rw [ht1,ByteArray.size_append,rs_size]; rfl
 have hz:t.size=3:=by rw [ht,ByteArray.size_append,rs_size,hz1]
 have hYl:=bdy_len hz
 have hYb:=bdy_b hz
 have hno:=(hI).1.nx
 have hqq:A.q.length≤n:=hN.qa
 have hqu:=oq_full (hI).1 (bdy t) h4
 replace hqu:=hide hqu
 obtain ⟨x,y,qA,dA,vA,qB,dB,vB,hg,hA,hD,hXF,hU,hV⟩:=hS
 obtain ⟨wa,wc,hva,-⟩:=(hXF.own 0 _ rfl).lz
 dsimp only at hva
 subst hva
 obtain ⟨wn,hwn⟩:∃ n,n=(A.q.map tr1).length:=⟨_,rfl⟩
 rw [← hwn] at hg hXF
 rw [List.length_map] at hwn
 have hXo:=hXF.old
 have hXG:Cgs g b w w:=⟨Cg.refl g b w,hb⟩
 have hol:=hA.i.o.len
 replace hXF:=hide hXF; replace hA:=hide hA; replace hD:=hide hD; replace hU:=hide hU; replace hV:=hide hV; replace hI:=hide hI; replace hQ:=hide hQ; replace hN:=hide hN; replace hXG:=hide hXG; replace hwn:=hide hwn; replace hQp:=hide hQp; replace hno:=hide hno
 replace hr1:=hide hr1; replace hr2:=hide hr2; replace ht1:=hide ht1; replace ht:=hide ht
 conv=>arg 2; whnf
 go_upto_region 18 with fail
 have hB:=(nilb w).add ⟨g,sg A.c x (.slice wa wn wc) dA vA B.c y qB dB vB,43⟩ hg (Nat.zero_le _) (by intro y hy; cases hy)
 simp only [List.nil_append] at hB
 clear hg
 obtain ⟨u0,hu_⟩:∃ u,u=w:=⟨_,rfl⟩
 have hB2:Bl (bare w) [⟨g,sg A.c x (.slice wa wn wc) dA vA B.c y qB dB vB,43⟩] u0:=hu_ ▸ hB
 replace hA:Hid (Co b u0 A.c x):=hu_ ▸ hA; replace hD:Hid (Co b u0 B.c y):=hu_ ▸ hD
 replace hXF:Hid (Fam b u0 (fam A B (.slice wa wn wc) dA vA qB dB vB)):=hu_ ▸ hXF
 replace hXG:Hid (Cgs g b w u0):=hu_ ▸ hXG
 clear hB
 have hB:=hB2
 clear hB2
 rw [← hu_]
 clear hu_
 refine wp_region_lit ?_
 refine lvk (.bool true) ?_
 simp only [nrm]
 (refine wpList_step fun K hK=>?_; replace hK:=hide hK; go_simp; refine unhide hK _ _ ?_; clear hK K)
 refine wpList_nil ?_
 replace hB:=hide hB
 go_upto_region 19 with fail
 replace hB:=unhide hB
 refine wp_region_lit ?_
 refine lvk (.int .i64 (i:Int)) ?_
 simp only [nrm]
 refine list_val (.int .i64 ((i:Int) % 26)) (by kernel_rfl) (rem_i _ (.tmp 104) (.const (.int .i64 26)) (i:Int) 26 rfl (by kernel_rfl) rfl (by omega) (by decide) (by decide)) ?_
 simp only [nrm]
 refine list_val (.int .i64 r1) (by kernel_rfl) (add_i _ (.const (.int .i64 97)) (.tmp 105) 97 ((i:Int) % 26) rfl rfl (by kernel_rfl) r1 (unhide hr1).symm (by omega)) ?_
 simp only [nrm]
 refine list_val (.int .i32 r1) (by kernel_rfl) (conv_i32 _ (.tmp 106) r1 rfl (by kernel_rfl) (by omega)) ?_
 simp only [nrm]
 refine list_val (.string (rs r1)) (by kernel_rfl) (exec_rune _ (.tmp 107) rfl r1 (by kernel_rfl) hb1.1 hb1.2) ?_
 simp only [nrm]
 refine list_val (.string t1) (by kernel_rfl) (exec_sadd2 _ (.const (.string { data:=#[116] })) (.tmp 108) rfl ⟨#[116]⟩ (rs r1) rfl (by kernel_rfl) (by rw [rs_size]; decide) t1 (unhide ht1).symm) ?_
 simp only [nrm]
 refine lvk (.int .i64 (i:Int)) ?_
 simp only [nrm]
 refine list_val (.int .i64 ((i:Int) / 26)) (by kernel_rfl) (quo_i _ (.tmp 110) (.const (.int .i64 26)) (i:Int) 26 rfl (by kernel_rfl) rfl (by omega) (by omega) (by decide) _ rfl) ?_
 simp only [nrm]
 refine list_val (.int .i64 (((i:Int) / 26) % 26)) (by kernel_rfl) (rem_i _ (.tmp 111) (.const (.int .i64 26)) ((i:Int) / 26) 26 rfl (by kernel_rfl) rfl (by omega) (by decide) (by decide)) ?_
 simp only [nrm]
 refine list_val (.int .i64 r2) (by kernel_rfl) (add_i _ (.const (.int .i64 97)) (.tmp 112) 97 (((i:Int) / 26) % 26) rfl rfl (by kernel_rfl) r2 (unhide hr2).symm (by omega)) ?_
 simp only [nrm]
 refine list_val (.int .i32 r2) (by kernel_rfl) (conv_i32 _ (.tmp 113) r2 rfl (by kernel_rfl) (by omega)) ?_
 simp only [nrm]
 refine list_val (.string (rs r2)) (by kernel_rfl) (exec_rune _ (.tmp 114) rfl r2 (by kernel_rfl) hb2.1 hb2.2) ?_
 simp only [nrm]
 refine list_val (.string t) (by kernel_rfl) (exec_sadd2 _ (.tmp 109) (.tmp 115) rfl t1 (rs r2) (by kernel_rfl) (by kernel_rfl) (by rw [hz1,rs_size]; decide) t (unhide ht).symm) ?_
 simp only [nrm]
 (refine wpList_step fun K hK=>?_; replace hK:=hide hK; go_simp; refine unhide hK _ _ ?_; clear hK K)
 refine wpList_nil ?_
 replace hB:=hide hB
 go_upto_region 20 with fail
 replace hB:=unhide hB
 refine wp_region_lit ?_
 have hgl9:=(unhide hXG).size
 refine list_valw (.pointer (some ⟨u0.heap.size,0,none⟩)) (u0.alloc (.cells (fl [bw Z105]) 48 (0,0))) (by kernel_rfl) (by kernel_rfl) ?_
 replace hB:=hB.new (fl [bw Z105]) 48
 simp only [List.nil_append,List.cons_append] at hB
 have hg:=(Gr.refl u0).alloc (.cells (fl [bw Z105]) 48 (0,0))
 replace hA:=hide ((unhide hA).gr hg)
 replace hD:=hide ((unhide hD).gr hg)
 replace hXF:=hide ((unhide hXF).gr hg)
 replace hXG:=hide ((unhide hXG).gr hg)
 clear hg
 generalize World.alloc _ _=u1 at *
 generalize u0.heap.size=g9 at *
 simp only [nrm]
 refine wpList_nil ?_
 replace hB:=hide hB
 go_upto_region 21 with fail
 replace hB:=unhide hB
 refine wp_region_lit ?_
 refine lvk (.string t) ?_
 simp only [nrm]
 refine list_val (.int .i64 ((3:Nat):Int)) (by kernel_rfl) (len_stn _ (.tmp 117) t 3 hz (by omega) rfl (by kernel_rfl)) ?_
 simp only [nrm]
 refine lvk (.int .u8 3) ?_
 simp only [nrm]
 refine lvk (.pointer (some ⟨g9,0,none⟩)) ?_
 simp only [nrm]
 have hzz_:Hid (u1.heap[g9]?=some (.cells (fl [bw Z105]) 48 (0,0))):=hide (hB.get 1 (x:=⟨g9,fl [bw Z105],48⟩) rfl)
 refine list_c8b (.tmp 120) (.tmp 119) g9 0 3 (by kernel_rfl) rfl (by kernel_rfl) (by kernel_rfl) hB 1 rfl (.int .u8 0) c8_at ?_
 intro u2 hB_ hbt_
 rw [c8_first] at hB_
 simp only [List.set_cons_zero,List.set_cons_succ] at hB_
 clear hB
 have hB:=hB_
 clear hB_
 replace hA:=hide ((unhide hA).bz (unhide hzz_) hbt_)
 replace hD:=hide ((unhide hD).bz (unhide hzz_) hbt_)
 replace hXF:=hide ((unhide hXF).bo (unhide hzz_) hbt_ hXo hgl9)
 replace hXG:=hide ((unhide hXG).bl (unhide hzz_) hbt_ hgl9)
 clear hzz_ hbt_
 simp only [nrm]
 refine wpList_nil ?_
 replace hB:=hide hB
 go_upto_region 22 with fail
 replace hB:=unhide hB
 refine wp_region_lit ?_
 refine lvk (.slice (some ⟨g9,1,none⟩) 104 104) ?_
 simp only [nrm]
 refine lvk (.string t) ?_
 simp only [nrm]
 have hzz_:Hid (u2.heap[g9]?=some (.cells ([[.int .u8 3],bw Z104].flatten.toArray) 48 (0,0))):=hide (hB.get 1 (x:=⟨g9,fl [[.int .u8 3],bw Z104],48⟩) rfl)
 refine wpList_step fun K hK=>?_
 refine step_copyT (.tmp 121) (.tmp 122) rfl (by kernel_rfl) g9 1 104 104 t (by kernel_rfl) (by kernel_rfl) (by omega) ([[.int .u8 3],bw Z104].flatten) 48 (unhide hzz_) (by rw [hz]; decide) ?_
 have hB2:=hB.cells 1 (C:=[[.int .u8 3],bw Z104].flatten) rfl 1 ((tbo t).map (Value.int .u8))
 rw [bdy_cells hz] at hB2
 simp only [List.set_cons_zero,List.set_cons_succ] at hB2
 clear hB
 have hbt_:=setCells_bt ((tbo t).map (Value.int .u8)) u2 g9 1
 generalize World.setCells _ _ _ _=u3 at *
 have hB:=hB2
 clear hB2
 replace hA:=hide ((unhide hA).bz (unhide hzz_) hbt_)
 replace hD:=hide ((unhide hD).bz (unhide hzz_) hbt_)
 replace hXF:=hide ((unhide hXF).bo (unhide hzz_) hbt_ hXo hgl9)
 replace hXG:=hide ((unhide hXG).bl (unhide hzz_) hbt_ hgl9)
 clear hzz_ hbt_
 refine hK _ _ ?_
 clear hK K
 simp only [nrm]
 refine wpList_nil ?_
 replace hB:=hide hB
 go_upto_region 23 with fail
 replace hB:=unhide hB
 refine any_start (S:=fun v_=>v_.heap[g]?=some (.cells (sg A.c x (.slice wa wn wc) dA vA B.c y qB dB vB) 43 (0,0))∧v_.heap[g9]?=some (.cells (fl [bw (bdy t)]) 48 (0,0))) (by kernel_rfl) ?_
 replace hA:=hide ((unhide hA).gr ((Gr.refl u3).drew))
 replace hD:=hide ((unhide hD).gr ((Gr.refl u3).drew))
 replace hXF:=hide ((unhide hXF).gr ((Gr.refl u3).drew))
 replace hXG:=hide ((unhide hXG).gr ((Gr.refl u3).drew))
 replace hB:=hB.drew
 generalize World.drew _=u4 at *
 have hB0:=hide hB
 have hsz_:Hid (Sz u4.heap.size u4):=Nat.le_refl _
 have hsW_:=(unhide hXG).size
 simp only [List.size_toArray,List.length_cons,List.length_nil,Array.replicate,List.replicate]
 refine any_take (i:=0) (v:=(.pointer (some ⟨g,0,none⟩))) (tf 14 0) rfl (by kernel_rfl) (by kernel_rfl) (by kernel_rfl) (by kernel_rfl) (fun c_ _ w_ h_=>unhide hQp c_ _ _ _ w_ h_) (.inl ⟨by kernel_rfl,fun x_ hu=>by kernel_rfl⟩) ⟨(hB.get 0 (x:=⟨g,sg A.c x (.slice wa wn wc) dA vA B.c y qB dB vB,43⟩) rfl),(hB.get 1 (x:=⟨g9,fl [bw (bdy t)],48⟩) rfl)⟩ ?_
 simp only [nrm]
 refine any_take (i:=1) (v:=(.pointer (some ⟨g,0,none⟩))) (tf 14 1) rfl (by kernel_rfl) (by kernel_rfl) (by kernel_rfl) (by kernel_rfl) (fun c_ _ w_ h_=>unhide hQp c_ _ _ _ w_ h_) (.inl ⟨by kernel_rfl,fun x_ hu=>by kernel_rfl⟩) ⟨(hB.get 0 (x:=⟨g,sg A.c x (.slice wa wn wc) dA vA B.c y qB dB vB,43⟩) rfl),(hB.get 1 (x:=⟨g9,fl [bw (bdy t)],48⟩) rfl)⟩ ?_
 simp only [nrm]
 refine any_take (i:=2) (v:=(.pointer (some ⟨g,0,none⟩))) (tf 14 2) rfl (by kernel_rfl) (by kernel_rfl) (by kernel_rfl) (by kernel_rfl) (fun c_ _ w_ h_=>unhide hQp c_ _ _ _ w_ h_) (.inl ⟨by kernel_rfl,fun x_ hu=>by kernel_rfl⟩) ⟨(hB.get 0 (x:=⟨g,sg A.c x (.slice wa wn wc) dA vA B.c y qB dB vB,43⟩) rfl),(hB.get 1 (x:=⟨g9,fl [bw (bdy t)],48⟩) rfl)⟩ ?_
 simp only [nrm]
 refine any_take (i:=3) (v:=(.agg (cg A.c x))) (tf 14 3) rfl (by kernel_rfl) (by kernel_rfl) (by kernel_rfl) (by kernel_rfl) (fun c_ _ w_ h_=>unhide hQp c_ _ _ _ w_ h_) (.inl ⟨by kernel_rfl,fun x_ hu=>exec_sr _ 26 (.tmp 127) rfl (g) 0 (by kernel_rfl) hu.1 0 5 (show 0+5≤16 by decide) rfl Try.underlying26 rfl (by kernel_rfl)⟩) ⟨(hB.get 0 (x:=⟨g,sg A.c x (.slice wa wn wc) dA vA B.c y qB dB vB,43⟩) rfl),(hB.get 1 (x:=⟨g9,fl [bw (bdy t)],48⟩) rfl)⟩ ?_
 simp only [nrm]
 refine any_take (i:=4) (v:=(.agg (fl [bw (bdy t)]))) (tf 14 4) rfl (by kernel_rfl) (by kernel_rfl) (by kernel_rfl) (by kernel_rfl) (fun c_ _ w_ h_=>unhide hQp c_ _ _ _ w_ h_) (.inl ⟨by kernel_rfl,fun x_ hu=>exec_sw _ 48 (.tmp 9) rfl (g9) (by kernel_rfl) hu.2 NY (nY hYl) Try.underlying48 rfl (by kernel_rfl)⟩) ⟨(hB.get 0 (x:=⟨g,sg A.c x (.slice wa wn wc) dA vA B.c y qB dB vB,43⟩) rfl),(hB.get 1 (x:=⟨g9,fl [bw (bdy t)],48⟩) rfl)⟩ ?_
 simp only [nrm]
 refine float_first (fun q u=>NKf u4.heap.size (cg0) 26 u q) 10 (fun b_=>#[true,true,true,true,true,false,false,false,false,false,b_,false,false,false]) 10 5 false rfl rfl (fun v_ g_=>⟨g_.blk (hB.get 0 (x:=⟨g,sg A.c x (.slice wa wn wc) dA vA B.c y qB dB vB,43⟩) rfl),g_.blk (hB.get 1 (x:=⟨g9,fl [bw (bdy t)],48⟩) rfl)⟩) (by kernel_rfl) (fun b_=>by cases b_ <;> rfl) ?_ ?_
 all_goals simp only [fw1,Act.put,List.setIfInBounds_toArray,List.set_cons_zero,List.set_cons_succ,List.getElem_toArray,List.getElem_cons_zero,List.getElem_cons_succ]
 ·intro q_ x_ hgx K hK
  refine wpOp_step (o:=_) rfl (fun K' hK'=>?_)
  replace hK':=hide hK'
  replace hK:=hide hK
  refine step_val (.pointer (some ⟨x_.heap.size,0,none⟩)) (x_.alloc (.cells (cg0) 26 (0,0))) (by kernel_rfl) (by kernel_rfl) ?_
  exact unhide hK' _ _ (unhide hK _ _ ((Gr.refl _).alloc _) (⟨_,rfl,Nat.le_trans (unhide hsz_) hgx.size,blk_new _ _⟩))
 intro b1_5 q1_5 x1_5 hg hTq hall
 replace hA:=hide ((unhide hA).gr hg)
 replace hD:=hide ((unhide hD).gr hg)
 replace hXF:=hide ((unhide hXF).gr hg)
 replace hXG:=hide ((unhide hXG).gr hg)
 replace hsz_:=hide ((unhide hsz_).gr hg)
 replace hB:=hB.more hg
 clear hg
 clear hall
 refine wpOp_step (o:=_) rfl (fun K hK=>?_)
 replace hK:=hide hK
 refine step_callw (by kernel_rfl) 11 #[.agg (cg A.c x),.agg (fl [bw (bdy t)])] (by kernel_rfl) ((((show Calls Try.prog 11 #[.agg (cg A.c x),.agg (fl [bw (bdy t)])] x1_5 (Rc cz [.int .u32 0,.int .i64 6] x1_5) from by have h:=queue_ok A.c x (bdy t) ⟨hYl,hYb⟩ x1_5 (unhide hA).i; rw [unhide hqu] at h; exact h).mono fun _ _ h=>rcb_of h (Nat.le_trans hb (unhide hXG).size))).mono ?_)
 rintro r u5 ⟨x2,rfl,hE,hg⟩
 refine ⟨_,rfl,?_⟩
 replace hTq:=fun e=>NKf.gr (hTq e) hg
 replace hsz_:=hide ((unhide hsz_).gr hg)
 replace hA:=hide ((unhide hA).gr hg)
 replace hD:=hide ((unhide hD).gr hg)
 replace hXF:=hide ((unhide hXF).gr hg)
 replace hXG:=hide ((unhide hXG).gr hg)
 replace hB:=hB.more hg
 clear hg
 replace hE:=hide hE
 refine unhide hK _ _ ⟨⟨(hB.get 0 (x:=⟨g,sg A.c x (.slice wa wn wc) dA vA B.c y qB dB vB,43⟩) rfl),(hB.get 1 (x:=⟨g9,fl [bw (bdy t)],48⟩) rfl)⟩,?_⟩
 clear hK K
 simp only [nrm]
 refine any_take (i:=6) (v:=(.tuple #[.agg (fl [[.int .u32 0],[.slice x2.ao x2.no x2.co],[.int .i64 0],[.int .u32 0],[.slice x2.ah x2.nh x2.ch]]),.int .u32 0,.int .i64 6])) (tf 14 6) rfl (by kernel_rfl) (by kernel_rfl) (by kernel_rfl) (by kernel_rfl) (fun c_ _ w_ h_=>unhide hQp c_ _ _ _ w_ h_) (.inl ⟨by kernel_rfl,fun x_ hu=>by kernel_rfl⟩) ⟨(hB.get 0 (x:=⟨g,sg A.c x (.slice wa wn wc) dA vA B.c y qB dB vB,43⟩) rfl),(hB.get 1 (x:=⟨g9,fl [bw (bdy t)],48⟩) rfl)⟩ ?_
 simp only [nrm]
 refine any_take (i:=7) (v:=(.agg (fl [[.int .u32 0],[.slice x2.ao x2.no x2.co],[.int .i64 0],[.int .u32 0],[.slice x2.ah x2.nh x2.ch]]))) (tf 14 7) rfl (by kernel_rfl) (by kernel_rfl) (by kernel_rfl) (by kernel_rfl) (fun c_ _ w_ h_=>unhide hQp c_ _ _ _ w_ h_) (.inl ⟨by kernel_rfl,fun x_ hu=>by kernel_rfl⟩) ⟨(hB.get 0 (x:=⟨g,sg A.c x (.slice wa wn wc) dA vA B.c y qB dB vB,43⟩) rfl),(hB.get 1 (x:=⟨g9,fl [bw (bdy t)],48⟩) rfl)⟩ ?_
 simp only [nrm]
 refine any_take (i:=8) (v:=(.int .u32 0)) (tf 14 8) rfl (by kernel_rfl) (by kernel_rfl) (by kernel_rfl) (by kernel_rfl) (fun c_ _ w_ h_=>unhide hQp c_ _ _ _ w_ h_) (.inl ⟨by kernel_rfl,fun x_ hu=>by kernel_rfl⟩) ⟨(hB.get 0 (x:=⟨g,sg A.c x (.slice wa wn wc) dA vA B.c y qB dB vB,43⟩) rfl),(hB.get 1 (x:=⟨g9,fl [bw (bdy t)],48⟩) rfl)⟩ ?_
 simp only [nrm]
 refine any_take (i:=9) (v:=(.int .i64 6)) (tf 14 9) rfl (by kernel_rfl) (by kernel_rfl) (by kernel_rfl) (by kernel_rfl) (fun c_ _ w_ h_=>unhide hQp c_ _ _ _ w_ h_) (.inl ⟨by kernel_rfl,fun x_ hu=>by kernel_rfl⟩) ⟨(hB.get 0 (x:=⟨g,sg A.c x (.slice wa wn wc) dA vA B.c y qB dB vB,43⟩) rfl),(hB.get 1 (x:=⟨g9,fl [bw (bdy t)],48⟩) rfl)⟩ ?_
 simp only [nrm]
 refine float_again (fun q u=>NKf u4.heap.size (cg0) 26 u q) 10 (fun b_=>#[true,true,true,true,true,true,true,true,true,true,b_,false,false,false]) 10 11 true (b:=b1_5) (q:=q1_5) rfl rfl hTq (fun v_ g_=>⟨g_.blk (hB.get 0 (x:=⟨g,sg A.c x (.slice wa wn wc) dA vA B.c y qB dB vB,43⟩) rfl),g_.blk (hB.get 1 (x:=⟨g9,fl [bw (bdy t)],48⟩) rfl)⟩) (by kernel_rfl) (fun b_=>by cases b_ <;> rfl) ?_ ?_
 all_goals simp only [fw1,Act.put,List.setIfInBounds_toArray,List.set_cons_zero,List.set_cons_succ,List.getElem_toArray,List.getElem_cons_zero,List.getElem_cons_succ]
 ·intro q_ x_ hgx K hK
  refine wpOp_step (o:=_) rfl (fun K' hK'=>?_)
  replace hK':=hide hK'
  replace hK:=hide hK
  refine step_val (.pointer (some ⟨x_.heap.size,0,none⟩)) (x_.alloc (.cells (cg0) 26 (0,0))) (by kernel_rfl) (by kernel_rfl) ?_
  exact unhide hK' _ _ (unhide hK _ _ ((Gr.refl _).alloc _) (⟨_,rfl,Nat.le_trans (unhide hsz_) hgx.size,blk_new _ _⟩))
 clear hTq
 intro b1_11 q1_11 x1_11 hg hTq hall
 replace hsz_:=hide ((unhide hsz_).gr hg)
 replace hA:=hide ((unhide hA).gr hg)
 replace hD:=hide ((unhide hD).gr hg)
 replace hXF:=hide ((unhide hXF).gr hg)
 replace hXG:=hide ((unhide hXG).gr hg)
 replace hE:=hide ((unhide hE).gr hg)
 replace hB:=hB.more hg
 clear hg
 obtain rfl:b1_11=true:=hall (by trivial)
 replace hTq:=hTq rfl
 clear hall
 obtain ⟨g10,rfl,hge_,hnew_⟩:=hTq
 have hgl10:=Nat.le_trans hsW_ hge_
 replace hB:=Bl.joinz (unhide hB0) hB hge_ hnew_
 simp only [List.cons_append,List.nil_append] at hB
 clear hB0 hge_ hnew_ hsW_
 refine wpOp_step (o:=_) rfl (fun K hK=>?_)
 replace hK:=hide hK
 have hzz_:Hid (x1_11.heap[g10]?=some (.cells (cg0) 26 (0,0))):=hide (hB.get 2 (x:=⟨g10,cg0,26⟩) rfl)
 refine step_all 26 (.tmp 10) (.tmp 131) (g10) (S2:=[[.int .u32 0],[.slice x2.ao x2.no x2.co],[.int .i64 0],[.int .u32 0],[.slice x2.ah x2.nh x2.ch]]) (by kernel_rfl) rfl (by kernel_rfl) (by kernel_rfl) hB 2 rfl NC (nC  _ _ _ _ _) (nC  _ _ _ _ _) (by kernel_rfl) (oC  rfl rfl rfl rfl rfl) ?_
 intro u6 hB_ hbt_
 clear hB
 replace hB:Bl (bare w) [⟨g,sg A.c x (.slice wa wn wc) dA vA B.c y qB dB vB,43⟩,⟨g9,fl [bw (bdy t)],48⟩,⟨g10,fl [[.int .u32 0],[.slice x2.ao x2.no x2.co],[.int .i64 0],[.int .u32 0],[.slice x2.ah x2.nh x2.ch]],26⟩] u6:=hB_
 clear hB_
 replace hA:=hide ((unhide hA).bz (unhide hzz_) hbt_)
 replace hD:=hide ((unhide hD).bz (unhide hzz_) hbt_)
 replace hXF:=hide ((unhide hXF).bo (unhide hzz_) hbt_ hXo hgl10)
 replace hXG:=hide ((unhide hXG).bl (unhide hzz_) hbt_ hgl10)
 replace hE:=hide ((unhide hE).bz (unhide hzz_) hbt_)
 clear hbt_ hzz_
 refine unhide hK _ _ ⟨⟨(hB.get 0 (x:=⟨g,sg A.c x (.slice wa wn wc) dA vA B.c y qB dB vB,43⟩) rfl),(hB.get 1 (x:=⟨g9,fl [bw (bdy t)],48⟩) rfl)⟩,?_⟩
 clear hK K
 simp only [nrm]
 refine any_one (i:=12) (by kernel_rfl) rfl (fun K hK=>?_)
 replace hK:=hide hK
 go_simp
 refine (unhide hK).out _ _ ⟨(hB.get 0 (x:=⟨g,sg A.c x (.slice wa wn wc) dA vA B.c y qB dB vB,43⟩) rfl),(hB.get 1 (x:=⟨g9,fl [bw (bdy t)],48⟩) rfl)⟩ (fun _=>?_)
 clear hK K
 refine any_one (i:=13) (by kernel_rfl) rfl (fun K hK=>?_)
 replace hK:=hide hK
 go_simp
 refine (unhide hK).out _ _ ⟨(hB.get 0 (x:=⟨g,sg A.c x (.slice wa wn wc) dA vA B.c y qB dB vB,43⟩) rfl),(hB.get 1 (x:=⟨g9,fl [bw (bdy t)],48⟩) rfl)⟩ (fun _=>?_)
 clear hK K
 refine any_done (by kernel_rfl) ?_
 clear hsz_
 replace hB:=hide hB
 go_upto_region 24 with fail
 replace hB:=unhide hB
 refine wp_region_lit ?_
 refine wpList_gen fun ops_ hops=>?_
 replace hops:=hide hops
 refine list_val (.int .i64 6) (by rw [unhide hops]; kernel_rfl) (by kernel_rfl) ?_
 simp only [nrm]
 refine list_val (.bool false) (by rw [unhide hops]; kernel_rfl) (eql_e _ (.tmp 134) (.const (.int .i64 0)) 6 0 false rfl (by kernel_rfl) (by kernel_rfl) (by decide)) ?_
 simp only [nrm]
 refine list_val (.bool false) (by rw [unhide hops]; kernel_rfl) (by kernel_rfl) ?_
 simp only [nrm]
 refine list_off (by rw [unhide hops]; kernel_rfl) ?_
 simp only [nrm]
 refine list_off (by rw [unhide hops]; kernel_rfl) ?_
 simp only [nrm]
 refine list_off (by rw [unhide hops]; kernel_rfl) ?_
 simp only [nrm]
 refine list_off (by rw [unhide hops]; kernel_rfl) ?_
 simp only [nrm]
 refine list_off (by rw [unhide hops]; kernel_rfl) ?_
 simp only [nrm]
 refine list_off (by rw [unhide hops]; kernel_rfl) ?_
 simp only [nrm]
 refine list_off (by rw [unhide hops]; kernel_rfl) ?_
 simp only [nrm]
 refine list_off (by rw [unhide hops]; kernel_rfl) ?_
 simp only [nrm]
 refine list_val (.bool false) (by rw [unhide hops]; kernel_rfl) (by kernel_rfl) ?_
 simp only [nrm]
 refine list_val (.bool false) (by rw [unhide hops]; kernel_rfl) (by kernel_rfl) ?_
 simp only [nrm]
 refine list_val (.int .i64 6) (by rw [unhide hops]; kernel_rfl) (by kernel_rfl) ?_
 simp only [nrm]
 refine list_val (.bool true) (by rw [unhide hops]; kernel_rfl) (neq_e _ (.tmp 147) (.const (.int .i64 0)) 6 0 true rfl (by kernel_rfl) (by kernel_rfl) (by decide)) ?_
 simp only [nrm]
 refine list_val (.bool true) (by rw [unhide hops]; kernel_rfl) (by kernel_rfl) ?_
 simp only [nrm]
 refine list_val (.int .i64 6) (by rw [unhide hops]; kernel_rfl) (by kernel_rfl) ?_
 simp only [nrm]
 refine list_val (.bool false) (by rw [unhide hops]; kernel_rfl) (neq_e _ (.tmp 150) (.const (.int .i64 6)) 6 6 false rfl (by kernel_rfl) (by kernel_rfl) (by decide)) ?_
 simp only [nrm]
 refine list_val (.bool false) (by rw [unhide hops]; kernel_rfl) (by kernel_rfl) ?_
 simp only [nrm]
 refine list_val (.pointer (some ⟨g,0,none⟩)) (by rw [unhide hops]; kernel_rfl) (by kernel_rfl) ?_
 simp only [nrm]
 refine list_val (.pointer (some ⟨g,0,none⟩)) (by rw [unhide hops]; kernel_rfl) (by kernel_rfl) ?_
 simp only [nrm]
 refine list_val (.pointer (some ⟨g,0,none⟩)) (by rw [unhide hops]; kernel_rfl) (by kernel_rfl) ?_
 simp only [nrm]
 refine list_val (.pointer (some ⟨g,1,none⟩)) (by rw [unhide hops]; kernel_rfl) (by kernel_rfl) ?_
 simp only [nrm]
 refine list_val (.slice x.ao x.no x.co) (by rw [unhide hops]; kernel_rfl) (exec_csO _ (.tmp 156) rfl (g) 1 (by kernel_rfl) x.ao x.no x.co (seg_cell (nS2  _ _ _ _ _ _ _ _ _ _ _ _ _ _ _ _) (hB.get 0 (x:=⟨g,sg A.c x (.slice wa wn wc) dA vA B.c y qB dB vB,43⟩) rfl) 1 (v:=.slice x.ao x.no x.co) rfl rfl)) ?_
 simp only [nrm]
 refine list_val (.int .i64 x.no) (by rw [unhide hops]; kernel_rfl) (by kernel_rfl) ?_
 simp only [nrm]
 refine list_val (.bool false) (by rw [unhide hops]; kernel_rfl) (neq_i _ (.tmp 158) (.const (.int .i64 4)) (x.no:Int) 4 false rfl (by kernel_rfl) rfl (decide_eq_false (by omega))) ?_
 simp only [nrm]
 refine list_val (.bool false) (by rw [unhide hops]; kernel_rfl) (by kernel_rfl) ?_
 simp only [nrm]
 refine list_val (.bool false) (by rw [unhide hops]; kernel_rfl) (by kernel_rfl) ?_
 simp only [nrm]
 refine list_val (.bool false) (by rw [unhide hops]; kernel_rfl) (by kernel_rfl) ?_
 simp only [nrm]
 refine wpList_nil ?_
 replace hB:=hide hB
 go_upto_region 26 with fail
 replace hB:=unhide hB
 refine wp_region_lit ?_
 refine lvk (.int .i64 6) ?_
 simp only [nrm]
 refine list_val (.bool false) (by kernel_rfl) (eql_e _ (.tmp 163) (.const (.int .i64 0)) 6 0 false rfl (by kernel_rfl) (by kernel_rfl) (by decide)) ?_
 simp only [nrm]
 refine wpList_nil ?_
 go_wp2_with fail
 exact unhide hQ _ _ _ _ _ _ _ _ _ _ _ _ _ _ _ _ _ _ _ _ _ _ _ _ _ _ _ _ _ _ _ _ _ _ _ _ _ _ _ _ _ _ _ _ _ _ _ _ _ _ _ _ _ _ _ _ _ _ _ _ _ _ _ _ _ _ _ _ _ _ _ _ _ _ _ _ _ _ _ _ _ _ _ _ _ _ _ _ _ _ _ _ _ _ _ _ _ _ _ _ _ _ _ _ _ _ _ _ _ _ _ _ _ _ _ _ _ _ _ _ _ _ _ _ _ _ _ _ _ _ _ _ _ _ _ _ _ _ _ _ _ _ _ _ A B _ ⟨x,y,(.slice wa wn wc),dA,vA,qB,dB,vB,hB.get 0 (x:=⟨g,sg A.c x (.slice wa wn wc) dA vA B.c y qB dB vB,43⟩) rfl,unhide hA,unhide hD,unhide hXF,unhide hU,unhide hV⟩ (unhide hI) (unhide hXG).cg ⟨Nat.le_succ_of_le (unhide hN).qa,Nat.le_succ_of_le (unhide hN).qb,Nat.le_succ_of_le (unhide hN).wa,Nat.le_succ_of_le (unhide hN).wb⟩
set_option maxHeartbeats 4000000 in
theorem br_queue1 (b g n i:Nat) (A B:Sd) (w:World) (z0 z1 z2 z5 z8 z9 z10 z11 z12 z13 z14 z15 z16 z17 z18 z19 z20 z21 z22 z23 z24 z25 z26 z27 z28 z29 z30 z31 z32 z33 z34 z35 z36 z37 z38 z39 z40 z41 z42 z43 z44 z45 z46 z47 z49 z50 z51 z52 z53 z54 z55 z56 z57 z58 z59 z60 z61 z62 z63 z64 z65 z66 z67 z68 z69 z70 z71 z72 z73 z74 z75 z76 z77 z78 z79 z80 z81 z82 z83 z84 z85 z86 z87 z88 z89 z90 z91 z92 z93 z94 z95 z96 z97 z98 z99 z100 z101 z102 z103 z104 z105 z106 z107 z108 z109 z110 z111 z112 z113 z114 z115 z116 z117 z118 z119 z120 z121 z122 z123 z124 z125 z126 z127 z128 z129 z130 z131 z132 z133 z134 z135 z136 z137 z138 z139 z140 z141 z142 z143 z144 z145 z146 z147 z148 z149 z150 z151 z152 z153 z154 z155 z156 z157 z158 z159 z160 z161 z162 z163 z164 z165 z166 z167 z168 z169 z170 z171 z172 z173 z174 z175 z176 z177 z178 z179 z180 z181 z182 z183 z184 z185 z186 z187 z188 z189 z190 z191 z192 z193 z194 z195 z196 z197 z198 z199 z200 z201 z202 z203 z204 z205 z206 z207 z208 z209 z210 z211 z212 z213 z214 z215 z216 z217 z218 z219 z220 z221 z222 z223 z224 z225 z226 z227 z228 z229 z230 z231 z232 z233 z234 z235 z236 z237 z238 z239 z240 z241 z242:Value) (Q:Exit→Act→World→Prop) (hb:b≤w.heap.size) (hbg:b≤g) (hS:St b w g A B) (hI:Inv A B) (hN:Bd n A B) (hn:n<400) (hi:i<400) (hQp:∀ c a (d:Nat) v w,Q (.panic c) (Act.put a (some d) v) w→Q (.panic c) a w) (h4:B.c.O.length≠4) (hQ:∀ u2 u8 u9 u10 u11 u12 u13 u14 u15 u49 u50 u51 u52 u53 u54 u55 u56 u57 u58 u59 u60 u61 u62 u63 u64 u65 u66 u67 u68 u69 u70 u71 u72 u73 u74 u75 u76 u77 u78 u79 u80 u81 u82 u83 u84 u85 u86 u87 u88 u89 u90 u91 u92 u93 u94 u95 u96 u97 u98 u99 u100 u101 u102 u103 u104 u105 u106 u107 u108 u109 u110 u111 u112 u113 u114 u115 u116 u117 u118 u119 u120 u121 u122 u123 u124 u125 u126 u127 u128 u129 u130 u131 u132 u133 u134 u135 u136 u137 u138 u139 u140 u141 u142 u143 u144 u145 u146 u147 u148 u149 u150 u151 u152 u153 u154 u155 u156 u157 u158 u159 u160 u161 u162 u163 u164 u165 u166 u167 u168 u169 u170 u171 u172 u173 u174 u175 u176 u177 u178 u179 u180 u181 u182 u183:Value,∀ (A' B':Sd) (w':World),St b w' g A' B'→Inv A' B'→Cg g b w w'→Bd (n+1) A' B'→Q .normal ⟨#[z0,z1,u2,.pointer (some ⟨g,0,none⟩),.int .i64 (i:Int),z5,.pointer (some ⟨g,8,none⟩),.pointer (some ⟨g,0,none⟩),u8,u9,u10,u11,u12,u13,u14,u15,z16,z17,z18,z19,z20,z21,z22,z23,z24,z25,z26,z27,z28,z29,z30,z31,z32,z33,z34,z35,z36,z37,z38,z39,z40,z41,z42,z43,z44,z45,z46,z47,.int .u64 0,u49,u50,u51,u52,u53,u54,u55,u56,u57,u58,u59,u60,u61,u62,u63,u64,u65,u66,u67,u68,u69,u70,u71,u72,u73,u74,u75,u76,u77,u78,u79,u80,u81,u82,u83,u84,u85,u86,u87,u88,u89,u90,u91,u92,u93,u94,u95,u96,u97,u98,u99,u100,u101,u102,u103,u104,u105,u106,u107,u108,u109,u110,u111,u112,u113,u114,u115,u116,u117,u118,u119,u120,u121,u122,u123,u124,u125,u126,u127,u128,u129,u130,u131,u132,u133,u134,u135,u136,u137,u138,u139,u140,u141,u142,u143,u144,u145,u146,u147,u148,u149,u150,u151,u152,u153,u154,u155,u156,u157,u158,u159,u160,u161,u162,u163,u164,u165,u166,u167,u168,u169,u170,u171,u172,u173,u174,u175,u176,u177,u178,u179,u180,u181,u182,u183,z184,z185,z186,z187,z188,z189,z190,z191,z192,z193,z194,z195,z196,z197,z198,z199,z200,z201,z202,z203,z204,z205,z206,z207,z208,z209,z210,z211,z212,z213,z214,z215,z216,z217,z218,z219,z220,z221,z222,z223,z224,z225,z226,z227,z228,z229,z230,z231,z232,z233,z234,z235,z236,z237,z238,z239,z240,z241,z242],[]⟩ w'):Code.wp Try.prog oSwitch Q ⟨#[z0,z1,z2,.pointer (some ⟨g,0,none⟩),.int .i64 (i:Int),z5,.pointer (some ⟨g,8,none⟩),.pointer (some ⟨g,0,none⟩),z8,z9,z10,z11,z12,z13,z14,z15,z16,z17,z18,z19,z20,z21,z22,z23,z24,z25,z26,z27,z28,z29,z30,z31,z32,z33,z34,z35,z36,z37,z38,z39,z40,z41,z42,z43,z44,z45,z46,z47,.int .u64 0,z49,z50,z51,z52,z53,z54,z55,z56,z57,z58,z59,z60,z61,z62,z63,z64,z65,z66,z67,z68,z69,z70,z71,z72,z73,z74,z75,z76,z77,z78,z79,z80,z81,z82,z83,z84,z85,z86,z87,z88,z89,z90,z91,z92,z93,z94,z95,z96,z97,z98,z99,z100,z101,z102,z103,z104,z105,z106,z107,z108,z109,z110,z111,z112,z113,z114,z115,z116,z117,z118,z119,z120,z121,z122,z123,z124,z125,z126,z127,z128,z129,z130,z131,z132,z133,z134,z135,z136,z137,z138,z139,z140,z141,z142,z143,z144,z145,z146,z147,z148,z149,z150,z151,z152,z153,z154,z155,z156,z157,z158,z159,z160,z161,z162,z163,z164,z165,z166,z167,z168,z169,z170,z171,z172,z173,z174,z175,z176,z177,z178,z179,z180,z181,z182,z183,z184,z185,z186,z187,z188,z189,z190,z191,z192,z193,z194,z195,z196,z197,z198,z199,z200,z201,z202,z203,z204,z205,z206,z207,z208,z209,z210,z211,z212,z213,z214,z215,z216,z217,z218,z219,z220,z221,z222,z223,z224,z225,z226,z227,z228,z229,z230,z231,z232,z233,z234,z235,z236,z237,z238,z239,z240,z241,z242],[]⟩ w:=by
 obtain ⟨r1,hr1⟩:∃ r,r=97+(i:Int) % 26:=⟨_,rfl⟩
 obtain ⟨r2,hr2⟩:∃ r,r=97+((i:Int) / 26) % 26:=⟨_,rfl⟩
 have hb1:97≤r1∧r1≤122:=by omega
 have hb2:97≤r2∧r2≤122:=by omega
 obtain ⟨t1,ht1⟩:∃ t,t=(⟨#[116]⟩:ByteArray)++rs r1:=⟨_,rfl⟩
 obtain ⟨t,ht⟩:∃ t,t=t1++rs r2:=⟨_,rfl⟩
 have hz1:t1.size=2:=by rw [ht1,ByteArray.size_append,rs_size]; rfl
 have hz:t.size=3:=by rw [ht,ByteArray.size_append,rs_size,hz1]
 have hYl:=bdy_len hz
 have hYb:=bdy_b hz
 have hno:=(hI.swap).1.nx
 have hqq:B.q.length≤n:=hN.qb
 have hI2:=(hI.swap).queue t hz (by omega) h4
 obtain ⟨c',hc'⟩:∃ c,c=(qu B.c (bdy t)).1:=⟨_,rfl⟩
 have hqu:qu B.c (bdy t)=(c',B.c.nx,0):=by rw [hc',oq_go (hI.swap).1 _ h4]
 rw [← hc'] at hI2
 replace hI2:=hide hI2.swap
 replace hc':=hide hc'
 replace hqu:=hide hqu
 obtain ⟨x,y,qA,dA,vA,qB,dB,vB,hg,hA,hD,hXF,hU,hV⟩:=hS
 obtain ⟨wa,wc,hva,-⟩:=(hXF.own 3 _ rfl).lz
 dsimp only at hva
 subst hva
 obtain ⟨wn,hwn⟩:∃ n,n=(B.q.map tr1).length:=⟨_,rfl⟩
 rw [← hwn] at hg hXF
 rw [List.length_map] at hwn
 have hXo:=hXF.old
 have hXG:Cgs g b w w:=⟨Cg.refl g b w,hb⟩
 have hol:=hD.i.o.len
 replace hXF:=hide hXF; replace hA:=hide hA; replace hD:=hide hD; replace hU:=hide hU; replace hV:=hide hV; replace hI:=hide hI; replace hQ:=hide hQ; replace hN:=hide hN; replace hXG:=hide hXG; replace hwn:=hide hwn; replace hQp:=hide hQp; replace hno:=hide hno
 replace hr1:=hide hr1; replace hr2:=hide hr2; replace ht1:=hide ht1; replace ht:=hide ht
 conv=>arg 2; whnf
 go_upto_region 18 with fail
 have hB:=(nilb w).add ⟨g,sg A.c x qA dA vA B.c y (.slice wa wn wc) dB vB,43⟩ hg (Nat.zero_le _) (by intro y hy; cases hy)
 simp only [List.nil_append] at hB
 clear hg
 obtain ⟨u0,hu_⟩:∃ u,u=w:=⟨_,rfl⟩
 have hB2:Bl (bare w) [⟨g,sg A.c x qA dA vA B.c y (.slice wa wn wc) dB vB,43⟩] u0:=hu_ ▸ hB
 replace hA:Hid (Co b u0 A.c x):=hu_ ▸ hA; replace hD:Hid (Co b u0 B.c y):=hu_ ▸ hD
 replace hXF:Hid (Fam b u0 (fam A B qA dA vA (.slice wa wn wc) dB vB)):=hu_ ▸ hXF
 replace hXG:Hid (Cgs g b w u0):=hu_ ▸ hXG
 clear hB
 have hB:=hB2
 clear hB2
 rw [← hu_]
 clear hu_
 refine wp_region_lit ?_
 refine lvk (.bool true) ?_
 simp only [nrm]
 (refine wpList_step fun K hK=>?_; replace hK:=hide hK; go_simp; refine unhide hK _ _ ?_; clear hK K)
 refine wpList_nil ?_
 replace hB:=hide hB
 go_upto_region 19 with fail
 replace hB:=unhide hB
 refine wp_region_lit ?_
 refine lvk (.int .i64 (i:Int)) ?_
 simp only [nrm]
 refine list_val (.int .i64 ((i:Int) % 26)) (by kernel_rfl) (rem_i _ (.tmp 104) (.const (.int .i64 26)) (i:Int) 26 rfl (by kernel_rfl) rfl (by omega) (by decide) (by decide)) ?_
 simp only [nrm]
 refine list_val (.int .i64 r1) (by kernel_rfl) (add_i _ (.const (.int .i64 97)) (.tmp 105) 97 ((i:Int) % 26) rfl rfl (by kernel_rfl) r1 (unhide hr1).symm (by omega)) ?_
 simp only [nrm]
 refine list_val (.int .i32 r1) (by kernel_rfl) (conv_i32 _ (.tmp 106) r1 rfl (by kernel_rfl) (by omega)) ?_
 simp only [nrm]
 refine list_val (.string (rs r1)) (by kernel_rfl) (exec_rune _ (.tmp 107) rfl r1 (by kernel_rfl) hb1.1 hb1.2) ?_
 simp only [nrm]
 refine list_val (.string t1) (by kernel_rfl) (exec_sadd2 _ (.const (.string { data:=#[116] })) (.tmp 108) rfl ⟨#[116]⟩ (rs r1) rfl (by kernel_rfl) (by rw [rs_size]; decide) t1 (unhide ht1).symm) ?_
 simp only [nrm]
 refine lvk (.int .i64 (i:Int)) ?_
 simp only [nrm]
 refine list_val (.int .i64 ((i:Int) / 26)) (by kernel_rfl) (quo_i _ (.tmp 110) (.const (.int .i64 26)) (i:Int) 26 rfl (by kernel_rfl) rfl (by omega) (by omega) (by decide) _ rfl) ?_
 simp only [nrm]
 refine list_val (.int .i64 (((i:Int) / 26) % 26)) (by kernel_rfl) (rem_i _ (.tmp 111) (.const (.int .i64 26)) ((i:Int) / 26) 26 rfl (by kernel_rfl) rfl (by omega) (by decide) (by decide)) ?_
 simp only [nrm]
 refine list_val (.int .i64 r2) (by kernel_rfl) (add_i _ (.const (.int .i64 97)) (.tmp 112) 97 (((i:Int) / 26) % 26) rfl rfl (by kernel_rfl) r2 (unhide hr2).symm (by omega)) ?_
 simp only [nrm]
 refine list_val (.int .i32 r2) (by kernel_rfl) (conv_i32 _ (.tmp 113) r2 rfl (by kernel_rfl) (by omega)) ?_
 simp only [nrm]
 refine list_val (.string (rs r2)) (by kernel_rfl) (exec_rune _ (.tmp 114) rfl r2 (by kernel_rfl) hb2.1 hb2.2) ?_
 simp only [nrm]
 refine list_val (.string t) (by kernel_rfl) (exec_sadd2 _ (.tmp 109) (.tmp 115) rfl t1 (rs r2) (by kernel_rfl) (by kernel_rfl) (by rw [hz1,rs_size]; decide) t (unhide ht).symm) ?_
 simp only [nrm]
 (refine wpList_step fun K hK=>?_; replace hK:=hide hK; go_simp; refine unhide hK _ _ ?_; clear hK K)
 refine wpList_nil ?_
 replace hB:=hide hB
 go_upto_region 20 with fail
 replace hB:=unhide hB
 refine wp_region_lit ?_
 have hgl9:=(unhide hXG).size
 refine list_valw (.pointer (some ⟨u0.heap.size,0,none⟩)) (u0.alloc (.cells (fl [bw Z105]) 48 (0,0))) (by kernel_rfl) (by kernel_rfl) ?_
 replace hB:=hB.new (fl [bw Z105]) 48
 simp only [List.nil_append,List.cons_append] at hB
 have hg:=(Gr.refl u0).alloc (.cells (fl [bw Z105]) 48 (0,0))
 replace hA:=hide ((unhide hA).gr hg)
 replace hD:=hide ((unhide hD).gr hg)
 replace hXF:=hide ((unhide hXF).gr hg)
 replace hXG:=hide ((unhide hXG).gr hg)
 clear hg
 generalize World.alloc _ _=u1 at *
 generalize u0.heap.size=g9 at *
 simp only [nrm]
 refine wpList_nil ?_
 replace hB:=hide hB
 go_upto_region 21 with fail
 replace hB:=unhide hB
 refine wp_region_lit ?_
 refine lvk (.string t) ?_
 simp only [nrm]
 refine list_val (.int .i64 ((3:Nat):Int)) (by kernel_rfl) (len_stn _ (.tmp 117) t 3 hz (by omega) rfl (by kernel_rfl)) ?_
 simp only [nrm]
 refine lvk (.int .u8 3) ?_
 simp only [nrm]
 refine lvk (.pointer (some ⟨g9,0,none⟩)) ?_
 simp only [nrm]
 have hzz_:Hid (u1.heap[g9]?=some (.cells (fl [bw Z105]) 48 (0,0))):=hide (hB.get 1 (x:=⟨g9,fl [bw Z105],48⟩) rfl)
 refine list_c8b (.tmp 120) (.tmp 119) g9 0 3 (by kernel_rfl) rfl (by kernel_rfl) (by kernel_rfl) hB 1 rfl (.int .u8 0) c8_at ?_
 intro u2 hB_ hbt_
 rw [c8_first] at hB_
 simp only [List.set_cons_zero,List.set_cons_succ] at hB_
 clear hB
 have hB:=hB_
 clear hB_
 replace hA:=hide ((unhide hA).bz (unhide hzz_) hbt_)
 replace hD:=hide ((unhide hD).bz (unhide hzz_) hbt_)
 replace hXF:=hide ((unhide hXF).bo (unhide hzz_) hbt_ hXo hgl9)
 replace hXG:=hide ((unhide hXG).bl (unhide hzz_) hbt_ hgl9)
 clear hzz_ hbt_
 simp only [nrm]
 refine wpList_nil ?_
 replace hB:=hide hB
 go_upto_region 22 with fail
 replace hB:=unhide hB
 refine wp_region_lit ?_
 refine lvk (.slice (some ⟨g9,1,none⟩) 104 104) ?_
 simp only [nrm]
 refine lvk (.string t) ?_
 simp only [nrm]
 have hzz_:Hid (u2.heap[g9]?=some (.cells ([[.int .u8 3],bw Z104].flatten.toArray) 48 (0,0))):=hide (hB.get 1 (x:=⟨g9,fl [[.int .u8 3],bw Z104],48⟩) rfl)
 refine wpList_step fun K hK=>?_
 refine step_copyT (.tmp 121) (.tmp 122) rfl (by kernel_rfl) g9 1 104 104 t (by kernel_rfl) (by kernel_rfl) (by omega) ([[.int .u8 3],bw Z104].flatten) 48 (unhide hzz_) (by rw [hz]; decide) ?_
 have hB2:=hB.cells 1 (C:=[[.int .u8 3],bw Z104].flatten) rfl 1 ((tbo t).map (Value.int .u8))
 rw [bdy_cells hz] at hB2
 simp only [List.set_cons_zero,List.set_cons_succ] at hB2
 clear hB
 have hbt_:=setCells_bt ((tbo t).map (Value.int .u8)) u2 g9 1
 generalize World.setCells _ _ _ _=u3 at *
 have hB:=hB2
 clear hB2
 replace hA:=hide ((unhide hA).bz (unhide hzz_) hbt_)
 replace hD:=hide ((unhide hD).bz (unhide hzz_) hbt_)
 replace hXF:=hide ((unhide hXF).bo (unhide hzz_) hbt_ hXo hgl9)
 replace hXG:=hide ((unhide hXG).bl (unhide hzz_) hbt_ hgl9)
 clear hzz_ hbt_
 refine hK _ _ ?_
 clear hK K
 simp only [nrm]
 refine wpList_nil ?_
 replace hB:=hide hB
 go_upto_region 23 with fail
 replace hB:=unhide hB
 refine any_start (S:=fun v_=>v_.heap[g]?=some (.cells (sg A.c x qA dA vA B.c y (.slice wa wn wc) dB vB) 43 (0,0))∧v_.heap[g9]?=some (.cells (fl [bw (bdy t)]) 48 (0,0))) (by kernel_rfl) ?_
 replace hA:=hide ((unhide hA).gr ((Gr.refl u3).drew))
 replace hD:=hide ((unhide hD).gr ((Gr.refl u3).drew))
 replace hXF:=hide ((unhide hXF).gr ((Gr.refl u3).drew))
 replace hXG:=hide ((unhide hXG).gr ((Gr.refl u3).drew))
 replace hB:=hB.drew
 generalize World.drew _=u4 at *
 have hB0:=hide hB
 have hsz_:Hid (Sz u4.heap.size u4):=Nat.le_refl _
 have hsW_:=(unhide hXG).size
 simp only [List.size_toArray,List.length_cons,List.length_nil,Array.replicate,List.replicate]
 refine any_take (i:=0) (v:=(.pointer (some ⟨g,8,none⟩))) (tf 14 0) rfl (by kernel_rfl) (by kernel_rfl) (by kernel_rfl) (by kernel_rfl) (fun c_ _ w_ h_=>unhide hQp c_ _ _ _ w_ h_) (.inl ⟨by kernel_rfl,fun x_ hu=>by kernel_rfl⟩) ⟨(hB.get 0 (x:=⟨g,sg A.c x qA dA vA B.c y (.slice wa wn wc) dB vB,43⟩) rfl),(hB.get 1 (x:=⟨g9,fl [bw (bdy t)],48⟩) rfl)⟩ ?_
 simp only [nrm]
 refine any_take (i:=1) (v:=(.pointer (some ⟨g,8,none⟩))) (tf 14 1) rfl (by kernel_rfl) (by kernel_rfl) (by kernel_rfl) (by kernel_rfl) (fun c_ _ w_ h_=>unhide hQp c_ _ _ _ w_ h_) (.inl ⟨by kernel_rfl,fun x_ hu=>by kernel_rfl⟩) ⟨(hB.get 0 (x:=⟨g,sg A.c x qA dA vA B.c y (.slice wa wn wc) dB vB,43⟩) rfl),(hB.get 1 (x:=⟨g9,fl [bw (bdy t)],48⟩) rfl)⟩ ?_
 simp only [nrm]
 refine any_take (i:=2) (v:=(.pointer (some ⟨g,8,none⟩))) (tf 14 2) rfl (by kernel_rfl) (by kernel_rfl) (by kernel_rfl) (by kernel_rfl) (fun c_ _ w_ h_=>unhide hQp c_ _ _ _ w_ h_) (.inl ⟨by kernel_rfl,fun x_ hu=>by kernel_rfl⟩) ⟨(hB.get 0 (x:=⟨g,sg A.c x qA dA vA B.c y (.slice wa wn wc) dB vB,43⟩) rfl),(hB.get 1 (x:=⟨g9,fl [bw (bdy t)],48⟩) rfl)⟩ ?_
 simp only [nrm]
 refine any_take (i:=3) (v:=(.agg (cg B.c y))) (tf 14 3) rfl (by kernel_rfl) (by kernel_rfl) (by kernel_rfl) (by kernel_rfl) (fun c_ _ w_ h_=>unhide hQp c_ _ _ _ w_ h_) (.inl ⟨by kernel_rfl,fun x_ hu=>exec_sr _ 26 (.tmp 127) rfl (g) 8 (by kernel_rfl) hu.1 8 5 (show 8+5≤16 by decide) rfl Try.underlying26 rfl (by kernel_rfl)⟩) ⟨(hB.get 0 (x:=⟨g,sg A.c x qA dA vA B.c y (.slice wa wn wc) dB vB,43⟩) rfl),(hB.get 1 (x:=⟨g9,fl [bw (bdy t)],48⟩) rfl)⟩ ?_
 simp only [nrm]
 refine any_take (i:=4) (v:=(.agg (fl [bw (bdy t)]))) (tf 14 4) rfl (by kernel_rfl) (by kernel_rfl) (by kernel_rfl) (by kernel_rfl) (fun c_ _ w_ h_=>unhide hQp c_ _ _ _ w_ h_) (.inl ⟨by kernel_rfl,fun x_ hu=>exec_sw _ 48 (.tmp 9) rfl (g9) (by kernel_rfl) hu.2 NY (nY hYl) Try.underlying48 rfl (by kernel_rfl)⟩) ⟨(hB.get 0 (x:=⟨g,sg A.c x qA dA vA B.c y (.slice wa wn wc) dB vB,43⟩) rfl),(hB.get 1 (x:=⟨g9,fl [bw (bdy t)],48⟩) rfl)⟩ ?_
 simp only [nrm]
 refine float_first (fun q u=>NKf u4.heap.size (cg0) 26 u q) 10 (fun b_=>#[true,true,true,true,true,false,false,false,false,false,b_,false,false,false]) 10 5 false rfl rfl (fun v_ g_=>⟨g_.blk (hB.get 0 (x:=⟨g,sg A.c x qA dA vA B.c y (.slice wa wn wc) dB vB,43⟩) rfl),g_.blk (hB.get 1 (x:=⟨g9,fl [bw (bdy t)],48⟩) rfl)⟩) (by kernel_rfl) (fun b_=>by cases b_ <;> rfl) ?_ ?_
 all_goals simp only [fw1,Act.put,List.setIfInBounds_toArray,List.set_cons_zero,List.set_cons_succ,List.getElem_toArray,List.getElem_cons_zero,List.getElem_cons_succ]
 ·intro q_ x_ hgx K hK
  refine wpOp_step (o:=_) rfl (fun K' hK'=>?_)
  replace hK':=hide hK'
  replace hK:=hide hK
  refine step_val (.pointer (some ⟨x_.heap.size,0,none⟩)) (x_.alloc (.cells (cg0) 26 (0,0))) (by kernel_rfl) (by kernel_rfl) ?_
  exact unhide hK' _ _ (unhide hK _ _ ((Gr.refl _).alloc _) (⟨_,rfl,Nat.le_trans (unhide hsz_) hgx.size,blk_new _ _⟩))
 intro b1_5 q1_5 x1_5 hg hTq hall
 replace hA:=hide ((unhide hA).gr hg)
 replace hD:=hide ((unhide hD).gr hg)
 replace hXF:=hide ((unhide hXF).gr hg)
 replace hXG:=hide ((unhide hXG).gr hg)
 replace hsz_:=hide ((unhide hsz_).gr hg)
 replace hB:=hB.more hg
 clear hg
 clear hall
 refine wpOp_step (o:=_) rfl (fun K hK=>?_)
 replace hK:=hide hK
 refine step_callw (by kernel_rfl) 11 #[.agg (cg B.c y),.agg (fl [bw (bdy t)])] (by kernel_rfl) ((((show Calls Try.prog 11 #[.agg (cg B.c y),.agg (fl [bw (bdy t)])] x1_5 (Rc c' [.int .u32 B.c.nx,.int .i64 0] x1_5) from by have h:=queue_ok B.c y (bdy t) ⟨hYl,hYb⟩ x1_5 (unhide hD).i; rw [unhide hqu] at h; exact h).mono fun _ _ h=>rcb_of h (Nat.le_trans hb (unhide hXG).size))).mono ?_)
 rintro r u5 ⟨x2,rfl,hE,hg⟩
 refine ⟨_,rfl,?_⟩
 replace hTq:=fun e=>NKf.gr (hTq e) hg
 replace hsz_:=hide ((unhide hsz_).gr hg)
 replace hA:=hide ((unhide hA).gr hg)
 replace hD:=hide ((unhide hD).gr hg)
 replace hXF:=hide ((unhide hXF).gr hg)
 replace hXG:=hide ((unhide hXG).gr hg)
 replace hB:=hB.more hg
 clear hg
 replace hE:=hide hE
 refine unhide hK _ _ ⟨⟨(hB.get 0 (x:=⟨g,sg A.c x qA dA vA B.c y (.slice wa wn wc) dB vB,43⟩) rfl),(hB.get 1 (x:=⟨g9,fl [bw (bdy t)],48⟩) rfl)⟩,?_⟩
 clear hK K
 simp only [nrm]
 refine any_take (i:=6) (v:=(.tuple #[.agg (cg c' x2),.int .u32 B.c.nx,.int .i64 0])) (tf 14 6) rfl (by kernel_rfl) (by kernel_rfl) (by kernel_rfl) (by kernel_rfl) (fun c_ _ w_ h_=>unhide hQp c_ _ _ _ w_ h_) (.inl ⟨by kernel_rfl,fun x_ hu=>by kernel_rfl⟩) ⟨(hB.get 0 (x:=⟨g,sg A.c x qA dA vA B.c y (.slice wa wn wc) dB vB,43⟩) rfl),(hB.get 1 (x:=⟨g9,fl [bw (bdy t)],48⟩) rfl)⟩ ?_
 simp only [nrm]
 refine any_take (i:=7) (v:=(.agg (cg c' x2))) (tf 14 7) rfl (by kernel_rfl) (by kernel_rfl) (by kernel_rfl) (by kernel_rfl) (fun c_ _ w_ h_=>unhide hQp c_ _ _ _ w_ h_) (.inl ⟨by kernel_rfl,fun x_ hu=>by kernel_rfl⟩) ⟨(hB.get 0 (x:=⟨g,sg A.c x qA dA vA B.c y (.slice wa wn wc) dB vB,43⟩) rfl),(hB.get 1 (x:=⟨g9,fl [bw (bdy t)],48⟩) rfl)⟩ ?_
 simp only [nrm]
 refine any_take (i:=8) (v:=(.int .u32 B.c.nx)) (tf 14 8) rfl (by kernel_rfl) (by kernel_rfl) (by kernel_rfl) (by kernel_rfl) (fun c_ _ w_ h_=>unhide hQp c_ _ _ _ w_ h_) (.inl ⟨by kernel_rfl,fun x_ hu=>by kernel_rfl⟩) ⟨(hB.get 0 (x:=⟨g,sg A.c x qA dA vA B.c y (.slice wa wn wc) dB vB,43⟩) rfl),(hB.get 1 (x:=⟨g9,fl [bw (bdy t)],48⟩) rfl)⟩ ?_
 simp only [nrm]
 refine any_take (i:=9) (v:=(.int .i64 0)) (tf 14 9) rfl (by kernel_rfl) (by kernel_rfl) (by kernel_rfl) (by kernel_rfl) (fun c_ _ w_ h_=>unhide hQp c_ _ _ _ w_ h_) (.inl ⟨by kernel_rfl,fun x_ hu=>by kernel_rfl⟩) ⟨(hB.get 0 (x:=⟨g,sg A.c x qA dA vA B.c y (.slice wa wn wc) dB vB,43⟩) rfl),(hB.get 1 (x:=⟨g9,fl [bw (bdy t)],48⟩) rfl)⟩ ?_
 simp only [nrm]
 refine float_again (fun q u=>NKf u4.heap.size (cg0) 26 u q) 10 (fun b_=>#[true,true,true,true,true,true,true,true,true,true,b_,false,false,false]) 10 11 true (b:=b1_5) (q:=q1_5) rfl rfl hTq (fun v_ g_=>⟨g_.blk (hB.get 0 (x:=⟨g,sg A.c x qA dA vA B.c y (.slice wa wn wc) dB vB,43⟩) rfl),g_.blk (hB.get 1 (x:=⟨g9,fl [bw (bdy t)],48⟩) rfl)⟩) (by kernel_rfl) (fun b_=>by cases b_ <;> rfl) ?_ ?_
 all_goals simp only [fw1,Act.put,List.setIfInBounds_toArray,List.set_cons_zero,List.set_cons_succ,List.getElem_toArray,List.getElem_cons_zero,List.getElem_cons_succ]
 ·intro q_ x_ hgx K hK
  refine wpOp_step (o:=_) rfl (fun K' hK'=>?_)
  replace hK':=hide hK'
  replace hK:=hide hK
  refine step_val (.pointer (some ⟨x_.heap.size,0,none⟩)) (x_.alloc (.cells (cg0) 26 (0,0))) (by kernel_rfl) (by kernel_rfl) ?_
  exact unhide hK' _ _ (unhide hK _ _ ((Gr.refl _).alloc _) (⟨_,rfl,Nat.le_trans (unhide hsz_) hgx.size,blk_new _ _⟩))
 clear hTq
 intro b1_11 q1_11 x1_11 hg hTq hall
 replace hsz_:=hide ((unhide hsz_).gr hg)
 replace hA:=hide ((unhide hA).gr hg)
 replace hD:=hide ((unhide hD).gr hg)
 replace hXF:=hide ((unhide hXF).gr hg)
 replace hXG:=hide ((unhide hXG).gr hg)
 replace hE:=hide ((unhide hE).gr hg)
 replace hB:=hB.more hg
 clear hg
 obtain rfl:b1_11=true:=hall (by trivial)
 replace hTq:=hTq rfl
 clear hall
 obtain ⟨g10,rfl,hge_,hnew_⟩:=hTq
 have hgl10:=Nat.le_trans hsW_ hge_
 replace hB:=Bl.joinz (unhide hB0) hB hge_ hnew_
 simp only [List.cons_append,List.nil_append] at hB
 clear hB0 hge_ hnew_ hsW_
 refine wpOp_step (o:=_) rfl (fun K hK=>?_)
 replace hK:=hide hK
 have hzz_:Hid (x1_11.heap[g10]?=some (.cells (cg0) 26 (0,0))):=hide (hB.get 2 (x:=⟨g10,cg0,26⟩) rfl)
 refine step_all 26 (.tmp 10) (.tmp 131) (g10) (S2:=[[.int .u32 c'.nx],[.slice x2.ao x2.no x2.co],[.int .i64 c'.tn],[.int .u32 c'.dl],[.slice x2.ah x2.nh x2.ch]]) (by kernel_rfl) rfl (by kernel_rfl) (by kernel_rfl) hB 2 rfl NC (nC  _ _ _ _ _) (nC  _ _ _ _ _) (by kernel_rfl) (oC  rfl rfl rfl rfl rfl) ?_
 intro u6 hB_ hbt_
 clear hB
 replace hB:Bl (bare w) [⟨g,sg A.c x qA dA vA B.c y (.slice wa wn wc) dB vB,43⟩,⟨g9,fl [bw (bdy t)],48⟩,⟨g10,cg c' x2,26⟩] u6:=hB_
 clear hB_
 replace hA:=hide ((unhide hA).bz (unhide hzz_) hbt_)
 replace hD:=hide ((unhide hD).bz (unhide hzz_) hbt_)
 replace hXF:=hide ((unhide hXF).bo (unhide hzz_) hbt_ hXo hgl10)
 replace hXG:=hide ((unhide hXG).bl (unhide hzz_) hbt_ hgl10)
 replace hE:=hide ((unhide hE).bz (unhide hzz_) hbt_)
 clear hbt_ hzz_
 refine unhide hK _ _ ⟨⟨(hB.get 0 (x:=⟨g,sg A.c x qA dA vA B.c y (.slice wa wn wc) dB vB,43⟩) rfl),(hB.get 1 (x:=⟨g9,fl [bw (bdy t)],48⟩) rfl)⟩,?_⟩
 clear hK K
 simp only [nrm]
 refine any_one (i:=12) (by kernel_rfl) rfl (fun K hK=>?_)
 replace hK:=hide hK
 go_simp
 refine (unhide hK).out _ _ ⟨(hB.get 0 (x:=⟨g,sg A.c x qA dA vA B.c y (.slice wa wn wc) dB vB,43⟩) rfl),(hB.get 1 (x:=⟨g9,fl [bw (bdy t)],48⟩) rfl)⟩ (fun _=>?_)
 clear hK K
 refine any_one (i:=13) (by kernel_rfl) rfl (fun K hK=>?_)
 replace hK:=hide hK
 go_simp
 refine (unhide hK).out _ _ ⟨(hB.get 0 (x:=⟨g,sg A.c x qA dA vA B.c y (.slice wa wn wc) dB vB,43⟩) rfl),(hB.get 1 (x:=⟨g9,fl [bw (bdy t)],48⟩) rfl)⟩ (fun _=>?_)
 clear hK K
 refine any_done (by kernel_rfl) ?_
 clear hsz_
 replace hB:=hide hB
 go_upto_region 24 with fail
 replace hB:=unhide hB
 refine wp_region_lit ?_
 refine wpList_gen fun ops_ hops=>?_
 replace hops:=hide hops
 refine list_val (.int .i64 0) (by rw [unhide hops]; kernel_rfl) (by kernel_rfl) ?_
 simp only [nrm]
 refine list_val (.bool true) (by rw [unhide hops]; kernel_rfl) (eql_e _ (.tmp 134) (.const (.int .i64 0)) 0 0 true rfl (by kernel_rfl) (by kernel_rfl) (by decide)) ?_
 simp only [nrm]
 refine list_val (.bool true) (by rw [unhide hops]; kernel_rfl) (by kernel_rfl) ?_
 simp only [nrm]
 refine list_val (.int .u32 B.c.nx) (by rw [unhide hops]; kernel_rfl) (by kernel_rfl) ?_
 simp only [nrm]
 refine list_val (.int .i64 B.c.nx) (by rw [unhide hops]; kernel_rfl) (conv_i64 _ (.tmp 137) B.c.nx rfl (by kernel_rfl) (unhide hD).i.nx) ?_
 simp only [nrm]
 refine list_val (.pointer (some ⟨g,8,none⟩)) (by rw [unhide hops]; kernel_rfl) (by kernel_rfl) ?_
 simp only [nrm]
 refine list_val (.pointer (some ⟨g,8,none⟩)) (by rw [unhide hops]; kernel_rfl) (by kernel_rfl) ?_
 simp only [nrm]
 refine list_val (.pointer (some ⟨g,13,none⟩)) (by rw [unhide hops]; kernel_rfl) (by kernel_rfl) ?_
 simp only [nrm]
 refine list_val (.slice wa wn wc) (by rw [unhide hops]; kernel_rfl) (exec_csS _ (.tmp 141) rfl (g) 13 (by kernel_rfl) wa wn wc (seg_cell (nS2  _ _ _ _ _ _ _ _ _ _ _ _ _ _ _ _) (hB.get 0 (x:=⟨g,sg A.c x qA dA vA B.c y (.slice wa wn wc) dB vB,43⟩) rfl) 13 (v:=.slice wa wn wc) rfl rfl)) ?_
 simp only [nrm]
 refine list_val (.int .i64 wn) (by rw [unhide hops]; kernel_rfl) (by kernel_rfl) ?_
 simp only [nrm]
 refine list_val (.bool false) (by rw [unhide hops]; kernel_rfl) (neq_i _ (.tmp 138) (.tmp 143) B.c.nx (wn:Int) false rfl (by kernel_rfl) (by kernel_rfl) (by rw [unhide hno,unhide hwn]; simp)) ?_
 simp only [nrm]
 refine list_val (.bool false) (by rw [unhide hops]; kernel_rfl) (by kernel_rfl) ?_
 simp only [nrm]
 refine list_val (.bool false) (by rw [unhide hops]; kernel_rfl) (by kernel_rfl) ?_
 simp only [nrm]
 refine list_val (.int .i64 0) (by rw [unhide hops]; kernel_rfl) (by kernel_rfl) ?_
 simp only [nrm]
 refine list_val (.bool false) (by rw [unhide hops]; kernel_rfl) (neq_e _ (.tmp 147) (.const (.int .i64 0)) 0 0 false rfl (by kernel_rfl) (by kernel_rfl) (by decide)) ?_
 simp only [nrm]
 refine list_val (.bool false) (by rw [unhide hops]; kernel_rfl) (by kernel_rfl) ?_
 simp only [nrm]
 refine list_off (by rw [unhide hops]; kernel_rfl) ?_
 simp only [nrm]
 refine list_off (by rw [unhide hops]; kernel_rfl) ?_
 simp only [nrm]
 refine list_off (by rw [unhide hops]; kernel_rfl) ?_
 simp only [nrm]
 refine list_off (by rw [unhide hops]; kernel_rfl) ?_
 simp only [nrm]
 refine list_off (by rw [unhide hops]; kernel_rfl) ?_
 simp only [nrm]
 refine list_off (by rw [unhide hops]; kernel_rfl) ?_
 simp only [nrm]
 refine list_off (by rw [unhide hops]; kernel_rfl) ?_
 simp only [nrm]
 refine list_off (by rw [unhide hops]; kernel_rfl) ?_
 simp only [nrm]
 refine list_off (by rw [unhide hops]; kernel_rfl) ?_
 simp only [nrm]
 refine list_off (by rw [unhide hops]; kernel_rfl) ?_
 simp only [nrm]
 refine list_off (by rw [unhide hops]; kernel_rfl) ?_
 simp only [nrm]
 refine list_val (.bool false) (by rw [unhide hops]; kernel_rfl) (by kernel_rfl) ?_
 simp only [nrm]
 refine list_val (.bool false) (by rw [unhide hops]; kernel_rfl) (by kernel_rfl) ?_
 simp only [nrm]
 refine wpList_nil ?_
 replace hB:=hide hB
 go_upto_region 26 with fail
 replace hB:=unhide hB
 refine wp_region_lit ?_
 refine lvk (.int .i64 0) ?_
 simp only [nrm]
 refine list_val (.bool true) (by kernel_rfl) (eql_e _ (.tmp 163) (.const (.int .i64 0)) 0 0 true rfl (by kernel_rfl) (by kernel_rfl) (by decide)) ?_
 simp only [nrm]
 refine wpList_nil ?_
 replace hB:=hide hB
 go_upto_region 27 with fail
 replace hB:=unhide hB
 refine wp_region_lit ?_
 refine lvk (.pointer (some ⟨g,8,none⟩)) ?_
 simp only [nrm]
 refine list_val (.agg (cg c' x2)) (by kernel_rfl) (exec_sw _ 26 (.tmp 10) rfl (g10) (by kernel_rfl) (hB.get 2 (x:=⟨g10,cg c' x2,26⟩) rfl) NC (nC  _ _ _ _ _) Try.underlying26 rfl (by kernel_rfl)) ?_
 simp only [nrm]
 refine lvk (.pointer (some ⟨g,8,none⟩)) ?_
 simp only [nrm]
 refine lvk (.pointer (some ⟨g,8,none⟩)) ?_
 simp only [nrm]
 have hzz_:Hid (u6.heap[g]?=some (.cells (sg A.c x qA dA vA B.c y (.slice wa wn wc) dB vB) 43 (0,0))):=hide (hB.get 0 (x:=⟨g,sg A.c x qA dA vA B.c y (.slice wa wn wc) dB vB,43⟩) rfl)
 refine list_sr 26 (.tmp 168) (.tmp 166) (g) 8 [[.int .u32 c'.nx],[.slice x2.ao x2.no x2.co],[.int .i64 c'.tn],[.int .u32 c'.dl],[.slice x2.ah x2.nh x2.ch]] (by kernel_rfl) rfl (by kernel_rfl) (by kernel_rfl) hB 0 rfl 8 5 (show 8+5≤16 by decide) rfl rfl rfl (by kernel_rfl) (oC rfl rfl rfl rfl rfl) ?_
 intro u7 hB_ hbt_
 clear hB
 replace hB:Bl (bare w) [⟨g,sg A.c x qA dA vA c' x2 (.slice wa wn wc) dB vB,43⟩,⟨g9,fl [bw (bdy t)],48⟩,⟨g10,cg c' x2,26⟩] u7:=hB_
 clear hB_
 replace hA:=hide ((unhide hA).bz (unhide hzz_) hbt_)
 replace hD:=hide ((unhide hD).bz (unhide hzz_) hbt_)
 replace hXF:=hide ((unhide hXF).bz (unhide hzz_) hbt_)
 replace hXG:=hide ((unhide hXG).bg (unhide hzz_) hbt_ hbg)
 replace hE:=hide ((unhide hE).bz (unhide hzz_) hbt_)
 clear hbt_ hzz_
 simp only [nrm]
 refine wpList_nil ?_
 replace hB:=hide hB
 go_upto_region 28 with fail
 replace hB:=unhide hB
 refine wp_region_lit ?_
 refine lvk (.pointer (some ⟨g,8,none⟩)) ?_
 simp only [nrm]
 refine lvk (.pointer (some ⟨g,8,none⟩)) ?_
 simp only [nrm]
 refine lvk (.pointer (some ⟨g,8,none⟩)) ?_
 simp only [nrm]
 refine lvk (.pointer (some ⟨g,13,none⟩)) ?_
 simp only [nrm]
 refine list_val (.slice wa wn wc) (by kernel_rfl) (exec_csS _ (.tmp 172) rfl (g) 13 (by kernel_rfl) wa wn wc (seg_cell (nS2  _ _ _ _ _ _ _ _ _ _ _ _ _ _ _ _) (hB.get 0 (x:=⟨g,sg A.c x qA dA vA c' x2 (.slice wa wn wc) dB vB,43⟩) rfl) 13 (v:=.slice wa wn wc) rfl rfl)) ?_
 simp only [nrm]
 refine lvk (.string t) ?_
 simp only [nrm]
 refine list_valw (.slice (some ⟨u7.heap.size,0,none⟩) 1 1) (u7.alloc (.cells #[.string t] 9 (0,0))) (by kernel_rfl) (exec_bss _ (.tmp 174) rfl t (by kernel_rfl)) ?_
 have hg:=(Gr.refl u7).alloc (.cells #[.string t] 9 (0,0))
 have hnew:=blk_new u7 (.cells #[.string t] 9 (0,0))
 replace hA:=hide ((unhide hA).gr hg)
 replace hD:=hide ((unhide hD).gr hg)
 replace hXF:=hide ((unhide hXF).gr hg)
 replace hXG:=hide ((unhide hXG).gr hg)
 replace hE:=hide ((unhide hE).gr hg)
 replace hB:=hB.more hg
 clear hg
 generalize World.alloc _ _=u8 at *
 generalize u7.heap.size=gq at *
 have hat:u8.rangeAt gq 0 [.string t]:=range_row (L:=[.string t]) hnew
 clear hnew
 simp only [nrm]
 refine wpList_step fun K hK=>?_
 rw [if_pos (by kernel_rfl)]
 have hOr:=(unhide hXF).own 3 _ rfl
 dsimp only at hOr
 refine app_row1B ltS (.tmp 173) (.tmp 175) rfl b (Nat.le_trans hb (unhide hXG).size) (.slice wa wn wc) (B.q.map tr1) (by kernel_rfl) hOr gq 0 1 [.string t] (by kernel_rfl) rfl hat (by intro u hu; rw [List.mem_singleton.1 hu]; rfl) (by rw [List.length_map]; omega) ?_
 intro v2 u9 hO2 hgr hsn
 have hO3:Or_ 1 9 b u9 v2 ((B.q++[t]).map tr1):=by rw [List.map_append]; exact hO2
 clear hO2
 replace hXF:Hid (Fam b u9 (fam A { B with q:=B.q++[t] } qA dA vA v2 dB vB)):=hide ((unhide hXF).put 3 rfl hO3 hgr (fun q hq=>by rcases hsn with h | h <;> rw [h] at hq <;> first | exact .inl hq | (right; cases hq; exact Nat.le_refl _)))
 replace hA:=hide ((unhide hA).grown hOr hgr)
 replace hD:=hide ((unhide hD).grown hOr hgr)
 replace hE:=hide ((unhide hE).grown hOr hgr)
 replace hXG:Hid (Cgs g b w u9):=⟨(unhide hXG).cg.grown hOr (Nat.le_refl _) hb hgr (.inl rfl),hb⟩
 have hne_:∀ y_ ∈ ([⟨g,sg A.c x qA dA vA c' x2 (.slice wa wn wc) dB vB,43⟩,⟨g9,fl [bw (bdy t)],48⟩,⟨g10,cg c' x2,26⟩]:List Blk),(Value.slice wa wn wc).ownBlock≠some y_.g:=by
  intro y_ hy_
  simp only [List.mem_cons,List.not_mem_nil,or_false] at hy_
  rcases hy_ with rfl | rfl | rfl
  ·exact own_ne_ty hOr (hB.get 0 (x:=⟨g,sg A.c x qA dA vA c' x2 (.slice wa wn wc) dB vB,43⟩) rfl) (show 43≠9 by decide)
  ·exact own_ne_ty hOr (hB.get 1 (x:=⟨g9,fl [bw (bdy t)],48⟩) rfl) (show 48≠9 by decide)
  ·exact own_ne_ty hOr (hB.get 2 (x:=⟨g10,cg c' x2,26⟩) rfl) (show 26≠9 by decide)
 replace hB:=Bl.grownN hB hgr hne_
 clear hne_ hat
 obtain ⟨wa2,wc2,rfl,-⟩:=hO3.lz
 obtain ⟨wn2,hwn2⟩:∃ m,m=((B.q++[t]).map tr1).length:=⟨_,rfl⟩
 rw [← hwn2] at hXF ⊢
 clear hOr hO3 hgr hsn hwn2
 refine hK _ _ ?_
 clear hK K
 simp only [nrm]
 refine lvk (.pointer (some ⟨g,8,none⟩)) ?_
 simp only [nrm]
 refine lvk (.pointer (some ⟨g,13,none⟩)) ?_
 simp only [nrm]
 have hzz_:Hid (u9.heap[g]?=some (.cells (sg A.c x qA dA vA c' x2 (.slice wa wn wc) dB vB) 43 (0,0))):=hide (hB.get 0 (x:=⟨g,sg A.c x qA dA vA c' x2 (.slice wa wn wc) dB vB,43⟩) rfl)
 refine list_csS (.tmp 178) (.tmp 176) (g) 13 wa2 wn2 wc2 (by kernel_rfl) rfl (by kernel_rfl) (by kernel_rfl) hB 0 rfl NS2 (nS2  _ _ _ _ _ _ _ _ _ _ _ _ _ _ _ _) 13 _ rfl rfl ?_
 intro u10 hB_ hbt_
 clear hB
 replace hB:Bl (bare w) [⟨g,sg A.c x qA dA vA c' x2 (.slice wa2 wn2 wc2) dB vB,43⟩,⟨g9,fl [bw (bdy t)],48⟩,⟨g10,cg c' x2,26⟩] u10:=hB_
 clear hB_
 replace hA:=hide ((unhide hA).bz (unhide hzz_) hbt_)
 replace hD:=hide ((unhide hD).bz (unhide hzz_) hbt_)
 replace hXF:=hide ((unhide hXF).bz (unhide hzz_) hbt_)
 replace hXG:=hide ((unhide hXG).bg (unhide hzz_) hbt_ hbg)
 replace hE:=hide ((unhide hE).bz (unhide hzz_) hbt_)
 clear hbt_ hzz_
 simp only [nrm]
 refine wpList_nil ?_
 go_wp2_with fail
 exact unhide hQ _ _ _ _ _ _ _ _ _ _ _ _ _ _ _ _ _ _ _ _ _ _ _ _ _ _ _ _ _ _ _ _ _ _ _ _ _ _ _ _ _ _ _ _ _ _ _ _ _ _ _ _ _ _ _ _ _ _ _ _ _ _ _ _ _ _ _ _ _ _ _ _ _ _ _ _ _ _ _ _ _ _ _ _ _ _ _ _ _ _ _ _ _ _ _ _ _ _ _ _ _ _ _ _ _ _ _ _ _ _ _ _ _ _ _ _ _ _ _ _ _ _ _ _ _ _ _ _ _ _ _ _ _ _ _ _ _ _ _ _ _ _ _ _ (A) ({ B with c:=c',q:=B.q++[t] }) _ ⟨x,x2,qA,dA,vA,(.slice wa2 wn2 wc2),dB,vB,hB.get 0 (x:=⟨g,sg A.c x qA dA vA c' x2 (.slice wa2 wn2 wc2) dB vB,43⟩) rfl,unhide hA,unhide hE,unhide hXF,unhide hU,unhide hV⟩ (unhide hI2) (unhide hXG).cg ⟨Nat.le_succ_of_le (unhide hN).qa,le_app1 (unhide hN).qb _,Nat.le_succ_of_le (unhide hN).wa,Nat.le_succ_of_le (unhide hN).wb⟩
set_option maxHeartbeats 4000000 in
theorem br_queuefull1 (b g n i:Nat) (A B:Sd) (w:World) (z0 z1 z2 z5 z8 z9 z10 z11 z12 z13 z14 z15 z16 z17 z18 z19 z20 z21 z22 z23 z24 z25 z26 z27 z28 z29 z30 z31 z32 z33 z34 z35 z36 z37 z38 z39 z40 z41 z42 z43 z44 z45 z46 z47 z49 z50 z51 z52 z53 z54 z55 z56 z57 z58 z59 z60 z61 z62 z63 z64 z65 z66 z67 z68 z69 z70 z71 z72 z73 z74 z75 z76 z77 z78 z79 z80 z81 z82 z83 z84 z85 z86 z87 z88 z89 z90 z91 z92 z93 z94 z95 z96 z97 z98 z99 z100 z101 z102 z103 z104 z105 z106 z107 z108 z109 z110 z111 z112 z113 z114 z115 z116 z117 z118 z119 z120 z121 z122 z123 z124 z125 z126 z127 z128 z129 z130 z131 z132 z133 z134 z135 z136 z137 z138 z139 z140 z141 z142 z143 z144 z145 z146 z147 z148 z149 z150 z151 z152 z153 z154 z155 z156 z157 z158 z159 z160 z161 z162 z163 z164 z165 z166 z167 z168 z169 z170 z171 z172 z173 z174 z175 z176 z177 z178 z179 z180 z181 z182 z183 z184 z185 z186 z187 z188 z189 z190 z191 z192 z193 z194 z195 z196 z197 z198 z199 z200 z201 z202 z203 z204 z205 z206 z207 z208 z209 z210 z211 z212 z213 z214 z215 z216 z217 z218 z219 z220 z221 z222 z223 z224 z225 z226 z227 z228 z229 z230 z231 z232 z233 z234 z235 z236 z237 z238 z239 z240 z241 z242:Value) (Q:Exit→Act→World→Prop) (hb:b≤w.heap.size) (hbg:b≤g) (hS:St b w g A B) (hI:Inv A B) (hN:Bd n A B) (hn:n<400) (hi:i<400) (hQp:∀ c a (d:Nat) v w,Q (.panic c) (Act.put a (some d) v) w→Q (.panic c) a w) (h4:B.c.O.length=4) (hQ:∀ u2 u8 u9 u10 u11 u12 u13 u14 u15 u49 u50 u51 u52 u53 u54 u55 u56 u57 u58 u59 u60 u61 u62 u63 u64 u65 u66 u67 u68 u69 u70 u71 u72 u73 u74 u75 u76 u77 u78 u79 u80 u81 u82 u83 u84 u85 u86 u87 u88 u89 u90 u91 u92 u93 u94 u95 u96 u97 u98 u99 u100 u101 u102 u103 u104 u105 u106 u107 u108 u109 u110 u111 u112 u113 u114 u115 u116 u117 u118 u119 u120 u121 u122 u123 u124 u125 u126 u127 u128 u129 u130 u131 u132 u133 u134 u135 u136 u137 u138 u139 u140 u141 u142 u143 u144 u145 u146 u147 u148 u149 u150 u151 u152 u153 u154 u155 u156 u157 u158 u159 u160 u161 u162 u163 u164 u165 u166 u167 u168 u169 u170 u171 u172 u173 u174 u175 u176 u177 u178 u179 u180 u181 u182 u183:Value,∀ (A' B':Sd) (w':World),St b w' g A' B'→Inv A' B'→Cg g b w w'→Bd (n+1) A' B'→Q .normal ⟨#[z0,z1,u2,.pointer (some ⟨g,0,none⟩),.int .i64 (i:Int),z5,.pointer (some ⟨g,8,none⟩),.pointer (some ⟨g,0,none⟩),u8,u9,u10,u11,u12,u13,u14,u15,z16,z17,z18,z19,z20,z21,z22,z23,z24,z25,z26,z27,z28,z29,z30,z31,z32,z33,z34,z35,z36,z37,z38,z39,z40,z41,z42,z43,z44,z45,z46,z47,.int .u64 0,u49,u50,u51,u52,u53,u54,u55,u56,u57,u58,u59,u60,u61,u62,u63,u64,u65,u66,u67,u68,u69,u70,u71,u72,u73,u74,u75,u76,u77,u78,u79,u80,u81,u82,u83,u84,u85,u86,u87,u88,u89,u90,u91,u92,u93,u94,u95,u96,u97,u98,u99,u100,u101,u102,u103,u104,u105,u106,u107,u108,u109,u110,u111,u112,u113,u114,u115,u116,u117,u118,u119,u120,u121,u122,u123,u124,u125,u126,u127,u128,u129,u130,u131,u132,u133,u134,u135,u136,u137,u138,u139,u140,u141,u142,u143,u144,u145,u146,u147,u148,u149,u150,u151,u152,u153,u154,u155,u156,u157,u158,u159,u160,u161,u162,u163,u164,u165,u166,u167,u168,u169,u170,u171,u172,u173,u174,u175,u176,u177,u178,u179,u180,u181,u182,u183,z184,z185,z186,z187,z188,z189,z190,z191,z192,z193,z194,z195,z196,z197,z198,z199,z200,z201,z202,z203,z204,z205,z206,z207,z208,z209,z210,z211,z212,z213,z214,z215,z216,z217,z218,z219,z220,z221,z222,z223,z224,z225,z226,z227,z228,z229,z230,z231,z232,z233,z234,z235,z236,z237,z238,z239,z240,z241,z242],[]⟩ w'):Code.wp Try.prog oSwitch Q ⟨#[z0,z1,z2,.pointer (some ⟨g,0,none⟩),.int .i64 (i:Int),z5,.pointer (some ⟨g,8,none⟩),.pointer (some ⟨g,0,none⟩),z8,z9,z10,z11,z12,z13,z14,z15,z16,z17,z18,z19,z20,z21,z22,z23,z24,z25,z26,z27,z28,z29,z30,z31,z32,z33,z34,z35,z36,z37,z38,z39,z40,z41,z42,z43,z44,z45,z46,z47,.int .u64 0,z49,z50,z51,z52,z53,z54,z55,z56,z57,z58,z59,z60,z61,z62,z63,z64,z65,z66,z67,z68,z69,z70,z71,z72,z73,z74,z75,z76,z77,z78,z79,z80,z81,z82,z83,z84,z85,z86,z87,z88,z89,z90,z91,z92,z93,z94,z95,z96,z97,z98,z99,z100,z101,z102,z103,z104,z105,z106,z107,z108,z109,z110,z111,z112,z113,z114,z115,z116,z117,z118,z119,z120,z121,z122,z123,z124,z125,z126,z127,z128,z129,z130,z131,z132,z133,z134,z135,z136,z137,z138,z139,z140,z141,z142,z143,z144,z145,z146,z147,z148,z149,z150,z151,z152,z153,z154,z155,z156,z157,z158,z159,z160,z161,z162,z163,z164,z165,z166,z167,z168,z169,z170,z171,z172,z173,z174,z175,z176,z177,z178,z179,z180,z181,z182,z183,z184,z185,z186,z187,z188,z189,z190,z191,z192,z193,z194,z195,z196,z197,z198,z199,z200,z201,z202,z203,z204,z205,z206,z207,z208,z209,z210,z211,z212,z213,z214,z215,z216,z217,z218,z219,z220,z221,z222,z223,z224,z225,z226,z227,z228,z229,z230,z231,z232,z233,z234,z235,z236,z237,z238,z239,z240,z241,z242],[]⟩ w:=by
 obtain ⟨r1,hr1⟩:∃ r,r=97+(i:Int) % 26:=⟨_,rfl⟩
 obtain ⟨r2,hr2⟩:∃ r,r=97+((i:Int) / 26) % 26:=⟨_,rfl⟩
 have hb1:97≤r1∧r1≤122:=by omega
 have hb2:97≤r2∧r2≤122:=by omega
 obtain ⟨t1,ht1⟩:∃ t,t=(⟨#[116]⟩:ByteArray)++rs r1:=⟨_,rfl⟩
 obtain ⟨t,ht⟩:∃ t,t=t1++rs r2:=⟨_,rfl⟩
 have hz1:t1.size=2:=by rw [ht1,ByteArray.size_append,rs_size]; rfl
 have hz:t.size=3:=by rw [ht,ByteArray.size_append,rs_size,hz1]
 have hYl:=bdy_len hz
 have hYb:=bdy_b hz
 have hno:=(hI.swap).1.nx
 have hqq:B.q.length≤n:=hN.qb
 have hqu:=oq_full (hI.swap).1 (bdy t) h4
 replace hqu:=hide hqu
 obtain ⟨x,y,qA,dA,vA,qB,dB,vB,hg,hA,hD,hXF,hU,hV⟩:=hS
 obtain ⟨wa,wc,hva,-⟩:=(hXF.own 3 _ rfl).lz
 dsimp only at hva
 subst hva
 obtain ⟨wn,hwn⟩:∃ n,n=(B.q.map tr1).length:=⟨_,rfl⟩
 rw [← hwn] at hg hXF
 rw [List.length_map] at hwn
 have hXo:=hXF.old
 have hXG:Cgs g b w w:=⟨Cg.refl g b w,hb⟩
 have hol:=hD.i.o.len
 replace hXF:=hide hXF; replace hA:=hide hA; replace hD:=hide hD; replace hU:=hide hU; replace hV:=hide hV; replace hI:=hide hI; replace hQ:=hide hQ; replace hN:=hide hN; replace hXG:=hide hXG; replace hwn:=hide hwn; replace hQp:=hide hQp; replace hno:=hide hno
 replace hr1:=hide hr1; replace hr2:=hide hr2; replace ht1:=hide ht1; replace ht:=hide ht
 conv=>arg 2; whnf
 go_upto_region 18 with fail
 have hB:=(nilb w).add ⟨g,sg A.c x qA dA vA B.c y (.slice wa wn wc) dB vB,43⟩ hg (Nat.zero_le _) (by intro y hy; cases hy)
 simp only [List.nil_append] at hB
 clear hg
 obtain ⟨u0,hu_⟩:∃ u,u=w:=⟨_,rfl⟩
 have hB2:Bl (bare w) [⟨g,sg A.c x qA dA vA B.c y (.slice wa wn wc) dB vB,43⟩] u0:=hu_ ▸ hB
 replace hA:Hid (Co b u0 A.c x):=hu_ ▸ hA; replace hD:Hid (Co b u0 B.c y):=hu_ ▸ hD
 replace hXF:Hid (Fam b u0 (fam A B qA dA vA (.slice wa wn wc) dB vB)):=hu_ ▸ hXF
 replace hXG:Hid (Cgs g b w u0):=hu_ ▸ hXG
 clear hB
 have hB:=hB2
 clear hB2
 rw [← hu_]
 clear hu_
 refine wp_region_lit ?_
 refine lvk (.bool true) ?_
 simp only [nrm]
 (refine wpList_step fun K hK=>?_; replace hK:=hide hK; go_simp; refine unhide hK _ _ ?_; clear hK K)
 refine wpList_nil ?_
 replace hB:=hide hB
 go_upto_region 19 with fail
 replace hB:=unhide hB
 refine wp_region_lit ?_
 refine lvk (.int .i64 (i:Int)) ?_
 simp only [nrm]
 refine list_val (.int .i64 ((i:Int) % 26)) (by kernel_rfl) (rem_i _ (.tmp 104) (.const (.int .i64 26)) (i:Int) 26 rfl (by kernel_rfl) rfl (by omega) (by decide) (by decide)) ?_
 simp only [nrm]
 refine list_val (.int .i64 r1) (by kernel_rfl) (add_i _ (.const (.int .i64 97)) (.tmp 105) 97 ((i:Int) % 26) rfl rfl (by kernel_rfl) r1 (unhide hr1).symm (by omega)) ?_
 simp only [nrm]
 refine list_val (.int .i32 r1) (by kernel_rfl) (conv_i32 _ (.tmp 106) r1 rfl (by kernel_rfl) (by omega)) ?_
 simp only [nrm]
 refine list_val (.string (rs r1)) (by kernel_rfl) (exec_rune _ (.tmp 107) rfl r1 (by kernel_rfl) hb1.1 hb1.2) ?_
 simp only [nrm]
 refine list_val (.string t1) (by kernel_rfl) (exec_sadd2 _ (.const (.string { data:=#[116] })) (.tmp 108) rfl ⟨#[116]⟩ (rs r1) rfl (by kernel_rfl) (by rw [rs_size]; decide) t1 (unhide ht1).symm) ?_
 simp only [nrm]
 refine lvk (.int .i64 (i:Int)) ?_
 simp only [nrm]
 refine list_val (.int .i64 ((i:Int) / 26)) (by kernel_rfl) (quo_i _ (.tmp 110) (.const (.int .i64 26)) (i:Int) 26 rfl (by kernel_rfl) rfl (by omega) (by omega) (by decide) _ rfl) ?_
 simp only [nrm]
 refine list_val (.int .i64 (((i:Int) / 26) % 26)) (by kernel_rfl) (rem_i _ (.tmp 111) (.const (.int .i64 26)) ((i:Int) / 26) 26 rfl (by kernel_rfl) rfl (by omega) (by decide) (by decide)) ?_
 simp only [nrm]
 refine list_val (.int .i64 r2) (by kernel_rfl) (add_i _ (.const (.int .i64 97)) (.tmp 112) 97 (((i:Int) / 26) % 26) rfl rfl (by kernel_rfl) r2 (unhide hr2).symm (by omega)) ?_
 simp only [nrm]
 refine list_val (.int .i32 r2) (by kernel_rfl) (conv_i32 _ (.tmp 113) r2 rfl (by kernel_rfl) (by omega)) ?_
 simp only [nrm]
 refine list_val (.string (rs r2)) (by kernel_rfl) (exec_rune _ (.tmp 114) rfl r2 (by kernel_rfl) hb2.1 hb2.2) ?_
 simp only [nrm]
 refine list_val (.string t) (by kernel_rfl) (exec_sadd2 _ (.tmp 109) (.tmp 115) rfl t1 (rs r2) (by kernel_rfl) (by kernel_rfl) (by rw [hz1,rs_size]; decide) t (unhide ht).symm) ?_
 simp only [nrm]
 (refine wpList_step fun K hK=>?_; replace hK:=hide hK; go_simp; refine unhide hK _ _ ?_; clear hK K)
 refine wpList_nil ?_
 replace hB:=hide hB
 go_upto_region 20 with fail
 replace hB:=unhide hB
 refine wp_region_lit ?_
 have hgl9:=(unhide hXG).size
 refine list_valw (.pointer (some ⟨u0.heap.size,0,none⟩)) (u0.alloc (.cells (fl [bw Z105]) 48 (0,0))) (by kernel_rfl) (by kernel_rfl) ?_
 replace hB:=hB.new (fl [bw Z105]) 48
 simp only [List.nil_append,List.cons_append] at hB
 have hg:=(Gr.refl u0).alloc (.cells (fl [bw Z105]) 48 (0,0))
 replace hA:=hide ((unhide hA).gr hg)
 replace hD:=hide ((unhide hD).gr hg)
 replace hXF:=hide ((unhide hXF).gr hg)
 replace hXG:=hide ((unhide hXG).gr hg)
 clear hg
 generalize World.alloc _ _=u1 at *
 generalize u0.heap.size=g9 at *
 simp only [nrm]
 refine wpList_nil ?_
 replace hB:=hide hB
 go_upto_region 21 with fail
 replace hB:=unhide hB
 refine wp_region_lit ?_
 refine lvk (.string t) ?_
 simp only [nrm]
 refine list_val (.int .i64 ((3:Nat):Int)) (by kernel_rfl) (len_stn _ (.tmp 117) t 3 hz (by omega) rfl (by kernel_rfl)) ?_
 simp only [nrm]
 refine lvk (.int .u8 3) ?_
 simp only [nrm]
 refine lvk (.pointer (some ⟨g9,0,none⟩)) ?_
 simp only [nrm]
 have hzz_:Hid (u1.heap[g9]?=some (.cells (fl [bw Z105]) 48 (0,0))):=hide (hB.get 1 (x:=⟨g9,fl [bw Z105],48⟩) rfl)
 refine list_c8b (.tmp 120) (.tmp 119) g9 0 3 (by kernel_rfl) rfl (by kernel_rfl) (by kernel_rfl) hB 1 rfl (.int .u8 0) c8_at ?_
 intro u2 hB_ hbt_
 rw [c8_first] at hB_
 simp only [List.set_cons_zero,List.set_cons_succ] at hB_
 clear hB
 have hB:=hB_
 clear hB_
 replace hA:=hide ((unhide hA).bz (unhide hzz_) hbt_)
 replace hD:=hide ((unhide hD).bz (unhide hzz_) hbt_)
 replace hXF:=hide ((unhide hXF).bo (unhide hzz_) hbt_ hXo hgl9)
 replace hXG:=hide ((unhide hXG).bl (unhide hzz_) hbt_ hgl9)
 clear hzz_ hbt_
 simp only [nrm]
 refine wpList_nil ?_
 replace hB:=hide hB
 go_upto_region 22 with fail
 replace hB:=unhide hB
 refine wp_region_lit ?_
 refine lvk (.slice (some ⟨g9,1,none⟩) 104 104) ?_
 simp only [nrm]
 refine lvk (.string t) ?_
 simp only [nrm]
 have hzz_:Hid (u2.heap[g9]?=some (.cells ([[.int .u8 3],bw Z104].flatten.toArray) 48 (0,0))):=hide (hB.get 1 (x:=⟨g9,fl [[.int .u8 3],bw Z104],48⟩) rfl)
 refine wpList_step fun K hK=>?_
 refine step_copyT (.tmp 121) (.tmp 122) rfl (by kernel_rfl) g9 1 104 104 t (by kernel_rfl) (by kernel_rfl) (by omega) ([[.int .u8 3],bw Z104].flatten) 48 (unhide hzz_) (by rw [hz]; decide) ?_
 have hB2:=hB.cells 1 (C:=[[.int .u8 3],bw Z104].flatten) rfl 1 ((tbo t).map (Value.int .u8))
 rw [bdy_cells hz] at hB2
 simp only [List.set_cons_zero,List.set_cons_succ] at hB2
 clear hB
 have hbt_:=setCells_bt ((tbo t).map (Value.int .u8)) u2 g9 1
 generalize World.setCells _ _ _ _=u3 at *
 have hB:=hB2
 clear hB2
 replace hA:=hide ((unhide hA).bz (unhide hzz_) hbt_)
 replace hD:=hide ((unhide hD).bz (unhide hzz_) hbt_)
 replace hXF:=hide ((unhide hXF).bo (unhide hzz_) hbt_ hXo hgl9)
 replace hXG:=hide ((unhide hXG).bl (unhide hzz_) hbt_ hgl9)
 clear hzz_ hbt_
 refine hK _ _ ?_
 clear hK K
 simp only [nrm]
 refine wpList_nil ?_
 replace hB:=hide hB
 go_upto_region 23 with fail
 replace hB:=unhide hB
 refine any_start (S:=fun v_=>v_.heap[g]?=some (.cells (sg A.c x qA dA vA B.c y (.slice wa wn wc) dB vB) 43 (0,0))∧v_.heap[g9]?=some (.cells (fl [bw (bdy t)]) 48 (0,0))) (by kernel_rfl) ?_
 replace hA:=hide ((unhide hA).gr ((Gr.refl u3).drew))
 replace hD:=hide ((unhide hD).gr ((Gr.refl u3).drew))
 replace hXF:=hide ((unhide hXF).gr ((Gr.refl u3).drew))
 replace hXG:=hide ((unhide hXG).gr ((Gr.refl u3).drew))
 replace hB:=hB.drew
 generalize World.drew _=u4 at *
 have hB0:=hide hB
 have hsz_:Hid (Sz u4.heap.size u4):=Nat.le_refl _
 have hsW_:=(unhide hXG).size
 simp only [List.size_toArray,List.length_cons,List.length_nil,Array.replicate,List.replicate]
 refine any_take (i:=0) (v:=(.pointer (some ⟨g,8,none⟩))) (tf 14 0) rfl (by kernel_rfl) (by kernel_rfl) (by kernel_rfl) (by kernel_rfl) (fun c_ _ w_ h_=>unhide hQp c_ _ _ _ w_ h_) (.inl ⟨by kernel_rfl,fun x_ hu=>by kernel_rfl⟩) ⟨(hB.get 0 (x:=⟨g,sg A.c x qA dA vA B.c y (.slice wa wn wc) dB vB,43⟩) rfl),(hB.get 1 (x:=⟨g9,fl [bw (bdy t)],48⟩) rfl)⟩ ?_
 simp only [nrm]
 refine any_take (i:=1) (v:=(.pointer (some ⟨g,8,none⟩))) (tf 14 1) rfl (by kernel_rfl) (by kernel_rfl) (by kernel_rfl) (by kernel_rfl) (fun c_ _ w_ h_=>unhide hQp c_ _ _ _ w_ h_) (.inl ⟨by kernel_rfl,fun x_ hu=>by kernel_rfl⟩) ⟨(hB.get 0 (x:=⟨g,sg A.c x qA dA vA B.c y (.slice wa wn wc) dB vB,43⟩) rfl),(hB.get 1 (x:=⟨g9,fl [bw (bdy t)],48⟩) rfl)⟩ ?_
 simp only [nrm]
 refine any_take (i:=2) (v:=(.pointer (some ⟨g,8,none⟩))) (tf 14 2) rfl (by kernel_rfl) (by kernel_rfl) (by kernel_rfl) (by kernel_rfl) (fun c_ _ w_ h_=>unhide hQp c_ _ _ _ w_ h_) (.inl ⟨by kernel_rfl,fun x_ hu=>by kernel_rfl⟩) ⟨(hB.get 0 (x:=⟨g,sg A.c x qA dA vA B.c y (.slice wa wn wc) dB vB,43⟩) rfl),(hB.get 1 (x:=⟨g9,fl [bw (bdy t)],48⟩) rfl)⟩ ?_
 simp only [nrm]
 refine any_take (i:=3) (v:=(.agg (cg B.c y))) (tf 14 3) rfl (by kernel_rfl) (by kernel_rfl) (by kernel_rfl) (by kernel_rfl) (fun c_ _ w_ h_=>unhide hQp c_ _ _ _ w_ h_) (.inl ⟨by kernel_rfl,fun x_ hu=>exec_sr _ 26 (.tmp 127) rfl (g) 8 (by kernel_rfl) hu.1 8 5 (show 8+5≤16 by decide) rfl Try.underlying26 rfl (by kernel_rfl)⟩) ⟨(hB.get 0 (x:=⟨g,sg A.c x qA dA vA B.c y (.slice wa wn wc) dB vB,43⟩) rfl),(hB.get 1 (x:=⟨g9,fl [bw (bdy t)],48⟩) rfl)⟩ ?_
 simp only [nrm]
 refine any_take (i:=4) (v:=(.agg (fl [bw (bdy t)]))) (tf 14 4) rfl (by kernel_rfl) (by kernel_rfl) (by kernel_rfl) (by kernel_rfl) (fun c_ _ w_ h_=>unhide hQp c_ _ _ _ w_ h_) (.inl ⟨by kernel_rfl,fun x_ hu=>exec_sw _ 48 (.tmp 9) rfl (g9) (by kernel_rfl) hu.2 NY (nY hYl) Try.underlying48 rfl (by kernel_rfl)⟩) ⟨(hB.get 0 (x:=⟨g,sg A.c x qA dA vA B.c y (.slice wa wn wc) dB vB,43⟩) rfl),(hB.get 1 (x:=⟨g9,fl [bw (bdy t)],48⟩) rfl)⟩ ?_
 simp only [nrm]
 refine float_first (fun q u=>NKf u4.heap.size (cg0) 26 u q) 10 (fun b_=>#[true,true,true,true,true,false,false,false,false,false,b_,false,false,false]) 10 5 false rfl rfl (fun v_ g_=>⟨g_.blk (hB.get 0 (x:=⟨g,sg A.c x qA dA vA B.c y (.slice wa wn wc) dB vB,43⟩) rfl),g_.blk (hB.get 1 (x:=⟨g9,fl [bw (bdy t)],48⟩) rfl)⟩) (by kernel_rfl) (fun b_=>by cases b_ <;> rfl) ?_ ?_
 all_goals simp only [fw1,Act.put,List.setIfInBounds_toArray,List.set_cons_zero,List.set_cons_succ,List.getElem_toArray,List.getElem_cons_zero,List.getElem_cons_succ]
 ·intro q_ x_ hgx K hK
  refine wpOp_step (o:=_) rfl (fun K' hK'=>?_)
  replace hK':=hide hK'
  replace hK:=hide hK
  refine step_val (.pointer (some ⟨x_.heap.size,0,none⟩)) (x_.alloc (.cells (cg0) 26 (0,0))) (by kernel_rfl) (by kernel_rfl) ?_
  exact unhide hK' _ _ (unhide hK _ _ ((Gr.refl _).alloc _) (⟨_,rfl,Nat.le_trans (unhide hsz_) hgx.size,blk_new _ _⟩))
 intro b1_5 q1_5 x1_5 hg hTq hall
 replace hA:=hide ((unhide hA).gr hg)
 replace hD:=hide ((unhide hD).gr hg)
 replace hXF:=hide ((unhide hXF).gr hg)
 replace hXG:=hide ((unhide hXG).gr hg)
 replace hsz_:=hide ((unhide hsz_).gr hg)
 replace hB:=hB.more hg
 clear hg
 clear hall
 refine wpOp_step (o:=_) rfl (fun K hK=>?_)
 replace hK:=hide hK
 refine step_callw (by kernel_rfl) 11 #[.agg (cg B.c y),.agg (fl [bw (bdy t)])] (by kernel_rfl) ((((show Calls Try.prog 11 #[.agg (cg B.c y),.agg (fl [bw (bdy t)])] x1_5 (Rc cz [.int .u32 0,.int .i64 6] x1_5) from by have h:=queue_ok B.c y (bdy t) ⟨hYl,hYb⟩ x1_5 (unhide hD).i; rw [unhide hqu] at h; exact h).mono fun _ _ h=>rcb_of h (Nat.le_trans hb (unhide hXG).size))).mono ?_)
 rintro r u5 ⟨x2,rfl,hE,hg⟩
 refine ⟨_,rfl,?_⟩
 replace hTq:=fun e=>NKf.gr (hTq e) hg
 replace hsz_:=hide ((unhide hsz_).gr hg)
 replace hA:=hide ((unhide hA).gr hg)
 replace hD:=hide ((unhide hD).gr hg)
 replace hXF:=hide ((unhide hXF).gr hg)
 replace hXG:=hide ((unhide hXG).gr hg)
 replace hB:=hB.more hg
 clear hg
 replace hE:=hide hE
 refine unhide hK _ _ ⟨⟨(hB.get 0 (x:=⟨g,sg A.c x qA dA vA B.c y (.slice wa wn wc) dB vB,43⟩) rfl),(hB.get 1 (x:=⟨g9,fl [bw (bdy t)],48⟩) rfl)⟩,?_⟩
 clear hK K
 simp only [nrm]
 refine any_take (i:=6) (v:=(.tuple #[.agg (fl [[.int .u32 0],[.slice x2.ao x2.no x2.co],[.int .i64 0],[.int .u32 0],[.slice x2.ah x2.nh x2.ch]]),.int .u32 0,.int .i64 6])) (tf 14 6) rfl (by kernel_rfl) (by kernel_rfl) (by kernel_rfl) (by kernel_rfl) (fun c_ _ w_ h_=>unhide hQp c_ _ _ _ w_ h_) (.inl ⟨by kernel_rfl,fun x_ hu=>by kernel_rfl⟩) ⟨(hB.get 0 (x:=⟨g,sg A.c x qA dA vA B.c y (.slice wa wn wc) dB vB,43⟩) rfl),(hB.get 1 (x:=⟨g9,fl [bw (bdy t)],48⟩) rfl)⟩ ?_
 simp only [nrm]
 refine any_take (i:=7) (v:=(.agg (fl [[.int .u32 0],[.slice x2.ao x2.no x2.co],[.int .i64 0],[.int .u32 0],[.slice x2.ah x2.nh x2.ch]]))) (tf 14 7) rfl (by kernel_rfl) (by kernel_rfl) (by kernel_rfl) (by kernel_rfl) (fun c_ _ w_ h_=>unhide hQp c_ _ _ _ w_ h_) (.inl ⟨by kernel_rfl,fun x_ hu=>by kernel_rfl⟩) ⟨(hB.get 0 (x:=⟨g,sg A.c x qA dA vA B.c y (.slice wa wn wc) dB vB,43⟩) rfl),(hB.get 1 (x:=⟨g9,fl [bw (bdy t)],48⟩) rfl)⟩ ?_
 simp only [nrm]
 refine any_take (i:=8) (v:=(.int .u32 0)) (tf 14 8) rfl (by kernel_rfl) (by kernel_rfl) (by kernel_rfl) (by kernel_rfl) (fun c_ _ w_ h_=>unhide hQp c_ _ _ _ w_ h_) (.inl ⟨by kernel_rfl,fun x_ hu=>by kernel_rfl⟩) ⟨(hB.get 0 (x:=⟨g,sg A.c x qA dA vA B.c y (.slice wa wn wc) dB vB,43⟩) rfl),(hB.get 1 (x:=⟨g9,fl [bw (bdy t)],48⟩) rfl)⟩ ?_
 simp only [nrm]
 refine any_take (i:=9) (v:=(.int .i64 6)) (tf 14 9) rfl (by kernel_rfl) (by kernel_rfl) (by kernel_rfl) (by kernel_rfl) (fun c_ _ w_ h_=>unhide hQp c_ _ _ _ w_ h_) (.inl ⟨by kernel_rfl,fun x_ hu=>by kernel_rfl⟩) ⟨(hB.get 0 (x:=⟨g,sg A.c x qA dA vA B.c y (.slice wa wn wc) dB vB,43⟩) rfl),(hB.get 1 (x:=⟨g9,fl [bw (bdy t)],48⟩) rfl)⟩ ?_
 simp only [nrm]
 refine float_again (fun q u=>NKf u4.heap.size (cg0) 26 u q) 10 (fun b_=>#[true,true,true,true,true,true,true,true,true,true,b_,false,false,false]) 10 11 true (b:=b1_5) (q:=q1_5) rfl rfl hTq (fun v_ g_=>⟨g_.blk (hB.get 0 (x:=⟨g,sg A.c x qA dA vA B.c y (.slice wa wn wc) dB vB,43⟩) rfl),g_.blk (hB.get 1 (x:=⟨g9,fl [bw (bdy t)],48⟩) rfl)⟩) (by kernel_rfl) (fun b_=>by cases b_ <;> rfl) ?_ ?_
 all_goals simp only [fw1,Act.put,List.setIfInBounds_toArray,List.set_cons_zero,List.set_cons_succ,List.getElem_toArray,List.getElem_cons_zero,List.getElem_cons_succ]
 ·intro q_ x_ hgx K hK
  refine wpOp_step (o:=_) rfl (fun K' hK'=>?_)
  replace hK':=hide hK'
  replace hK:=hide hK
  refine step_val (.pointer (some ⟨x_.heap.size,0,none⟩)) (x_.alloc (.cells (cg0) 26 (0,0))) (by kernel_rfl) (by kernel_rfl) ?_
  exact unhide hK' _ _ (unhide hK _ _ ((Gr.refl _).alloc _) (⟨_,rfl,Nat.le_trans (unhide hsz_) hgx.size,blk_new _ _⟩))
 clear hTq
 intro b1_11 q1_11 x1_11 hg hTq hall
 replace hsz_:=hide ((unhide hsz_).gr hg)
 replace hA:=hide ((unhide hA).gr hg)
 replace hD:=hide ((unhide hD).gr hg)
 replace hXF:=hide ((unhide hXF).gr hg)
 replace hXG:=hide ((unhide hXG).gr hg)
 replace hE:=hide ((unhide hE).gr hg)
 replace hB:=hB.more hg
 clear hg
 obtain rfl:b1_11=true:=hall (by trivial)
 replace hTq:=hTq rfl
 clear hall
 obtain ⟨g10,rfl,hge_,hnew_⟩:=hTq
 have hgl10:=Nat.le_trans hsW_ hge_
 replace hB:=Bl.joinz (unhide hB0) hB hge_ hnew_
 simp only [List.cons_append,List.nil_append] at hB
 clear hB0 hge_ hnew_ hsW_
 refine wpOp_step (o:=_) rfl (fun K hK=>?_)
 replace hK:=hide hK
 have hzz_:Hid (x1_11.heap[g10]?=some (.cells (cg0) 26 (0,0))):=hide (hB.get 2 (x:=⟨g10,cg0,26⟩) rfl)
 refine step_all 26 (.tmp 10) (.tmp 131) (g10) (S2:=[[.int .u32 0],[.slice x2.ao x2.no x2.co],[.int .i64 0],[.int .u32 0],[.slice x2.ah x2.nh x2.ch]]) (by kernel_rfl) rfl (by kernel_rfl) (by kernel_rfl) hB 2 rfl NC (nC  _ _ _ _ _) (nC  _ _ _ _ _) (by kernel_rfl) (oC  rfl rfl rfl rfl rfl) ?_
 intro u6 hB_ hbt_
 clear hB
 replace hB:Bl (bare w) [⟨g,sg A.c x qA dA vA B.c y (.slice wa wn wc) dB vB,43⟩,⟨g9,fl [bw (bdy t)],48⟩,⟨g10,fl [[.int .u32 0],[.slice x2.ao x2.no x2.co],[.int .i64 0],[.int .u32 0],[.slice x2.ah x2.nh x2.ch]],26⟩] u6:=hB_
 clear hB_
 replace hA:=hide ((unhide hA).bz (unhide hzz_) hbt_)
 replace hD:=hide ((unhide hD).bz (unhide hzz_) hbt_)
 replace hXF:=hide ((unhide hXF).bo (unhide hzz_) hbt_ hXo hgl10)
 replace hXG:=hide ((unhide hXG).bl (unhide hzz_) hbt_ hgl10)
 replace hE:=hide ((unhide hE).bz (unhide hzz_) hbt_)
 clear hbt_ hzz_
 refine unhide hK _ _ ⟨⟨(hB.get 0 (x:=⟨g,sg A.c x qA dA vA B.c y (.slice wa wn wc) dB vB,43⟩) rfl),(hB.get 1 (x:=⟨g9,fl [bw (bdy t)],48⟩) rfl)⟩,?_⟩
 clear hK K
 simp only [nrm]
 refine any_one (i:=12) (by kernel_rfl) rfl (fun K hK=>?_)
 replace hK:=hide hK
 go_simp
 refine (unhide hK).out _ _ ⟨(hB.get 0 (x:=⟨g,sg A.c x qA dA vA B.c y (.slice wa wn wc) dB vB,43⟩) rfl),(hB.get 1 (x:=⟨g9,fl [bw (bdy t)],48⟩) rfl)⟩ (fun _=>?_)
 clear hK K
 refine any_one (i:=13) (by kernel_rfl) rfl (fun K hK=>?_)
 replace hK:=hide hK
 go_simp
 refine (unhide hK).out _ _ ⟨(hB.get 0 (x:=⟨g,sg A.c x qA dA vA B.c y (.slice wa wn wc) dB vB,43⟩) rfl),(hB.get 1 (x:=⟨g9,fl [bw (bdy t)],48⟩) rfl)⟩ (fun _=>?_)
 clear hK K
 refine any_done (by kernel_rfl) ?_
 clear hsz_
 replace hB:=hide hB
 go_upto_region 24 with fail
 replace hB:=unhide hB
 refine wp_region_lit ?_
 refine wpList_gen fun ops_ hops=>?_
 replace hops:=hide hops
 refine list_val (.int .i64 6) (by rw [unhide hops]; kernel_rfl) (by kernel_rfl) ?_
 simp only [nrm]
 refine list_val (.bool false) (by rw [unhide hops]; kernel_rfl) (eql_e _ (.tmp 134) (.const (.int .i64 0)) 6 0 false rfl (by kernel_rfl) (by kernel_rfl) (by decide)) ?_
 simp only [nrm]
 refine list_val (.bool false) (by rw [unhide hops]; kernel_rfl) (by kernel_rfl) ?_
 simp only [nrm]
 refine list_off (by rw [unhide hops]; kernel_rfl) ?_
 simp only [nrm]
 refine list_off (by rw [unhide hops]; kernel_rfl) ?_
 simp only [nrm]
 refine list_off (by rw [unhide hops]; kernel_rfl) ?_
 simp only [nrm]
 refine list_off (by rw [unhide hops]; kernel_rfl) ?_
 simp only [nrm]
 refine list_off (by rw [unhide hops]; kernel_rfl) ?_
 simp only [nrm]
 refine list_off (by rw [unhide hops]; kernel_rfl) ?_
 simp only [nrm]
 refine list_off (by rw [unhide hops]; kernel_rfl) ?_
 simp only [nrm]
 refine list_off (by rw [unhide hops]; kernel_rfl) ?_
 simp only [nrm]
 refine list_val (.bool false) (by rw [unhide hops]; kernel_rfl) (by kernel_rfl) ?_
 simp only [nrm]
 refine list_val (.bool false) (by rw [unhide hops]; kernel_rfl) (by kernel_rfl) ?_
 simp only [nrm]
 refine list_val (.int .i64 6) (by rw [unhide hops]; kernel_rfl) (by kernel_rfl) ?_
 simp only [nrm]
 refine list_val (.bool true) (by rw [unhide hops]; kernel_rfl) (neq_e _ (.tmp 147) (.const (.int .i64 0)) 6 0 true rfl (by kernel_rfl) (by kernel_rfl) (by decide)) ?_
 simp only [nrm]
 refine list_val (.bool true) (by rw [unhide hops]; kernel_rfl) (by kernel_rfl) ?_
 simp only [nrm]
 refine list_val (.int .i64 6) (by rw [unhide hops]; kernel_rfl) (by kernel_rfl) ?_
 simp only [nrm]
 refine list_val (.bool false) (by rw [unhide hops]; kernel_rfl) (neq_e _ (.tmp 150) (.const (.int .i64 6)) 6 6 false rfl (by kernel_rfl) (by kernel_rfl) (by decide)) ?_
 simp only [nrm]
 refine list_val (.bool false) (by rw [unhide hops]; kernel_rfl) (by kernel_rfl) ?_
 simp only [nrm]
 refine list_val (.pointer (some ⟨g,8,none⟩)) (by rw [unhide hops]; kernel_rfl) (by kernel_rfl) ?_
 simp only [nrm]
 refine list_val (.pointer (some ⟨g,8,none⟩)) (by rw [unhide hops]; kernel_rfl) (by kernel_rfl) ?_
 simp only [nrm]
 refine list_val (.pointer (some ⟨g,8,none⟩)) (by rw [unhide hops]; kernel_rfl) (by kernel_rfl) ?_
 simp only [nrm]
 refine list_val (.pointer (some ⟨g,9,none⟩)) (by rw [unhide hops]; kernel_rfl) (by kernel_rfl) ?_
 simp only [nrm]
 refine list_val (.slice y.ao y.no y.co) (by rw [unhide hops]; kernel_rfl) (exec_csO _ (.tmp 156) rfl (g) 9 (by kernel_rfl) y.ao y.no y.co (seg_cell (nS2  _ _ _ _ _ _ _ _ _ _ _ _ _ _ _ _) (hB.get 0 (x:=⟨g,sg A.c x qA dA vA B.c y (.slice wa wn wc) dB vB,43⟩) rfl) 9 (v:=.slice y.ao y.no y.co) rfl rfl)) ?_
 simp only [nrm]
 refine list_val (.int .i64 y.no) (by rw [unhide hops]; kernel_rfl) (by kernel_rfl) ?_
 simp only [nrm]
 refine list_val (.bool false) (by rw [unhide hops]; kernel_rfl) (neq_i _ (.tmp 158) (.const (.int .i64 4)) (y.no:Int) 4 false rfl (by kernel_rfl) rfl (decide_eq_false (by omega))) ?_
 simp only [nrm]
 refine list_val (.bool false) (by rw [unhide hops]; kernel_rfl) (by kernel_rfl) ?_
 simp only [nrm]
 refine list_val (.bool false) (by rw [unhide hops]; kernel_rfl) (by kernel_rfl) ?_
 simp only [nrm]
 refine list_val (.bool false) (by rw [unhide hops]; kernel_rfl) (by kernel_rfl) ?_
 simp only [nrm]
 refine wpList_nil ?_
 replace hB:=hide hB
 go_upto_region 26 with fail
 replace hB:=unhide hB
 refine wp_region_lit ?_
 refine lvk (.int .i64 6) ?_
 simp only [nrm]
 refine list_val (.bool false) (by kernel_rfl) (eql_e _ (.tmp 163) (.const (.int .i64 0)) 6 0 false rfl (by kernel_rfl) (by kernel_rfl) (by decide)) ?_
 simp only [nrm]
 refine wpList_nil ?_
 go_wp2_with fail
 exact unhide hQ _ _ _ _ _ _ _ _ _ _ _ _ _ _ _ _ _ _ _ _ _ _ _ _ _ _ _ _ _ _ _ _ _ _ _ _ _ _ _ _ _ _ _ _ _ _ _ _ _ _ _ _ _ _ _ _ _ _ _ _ _ _ _ _ _ _ _ _ _ _ _ _ _ _ _ _ _ _ _ _ _ _ _ _ _ _ _ _ _ _ _ _ _ _ _ _ _ _ _ _ _ _ _ _ _ _ _ _ _ _ _ _ _ _ _ _ _ _ _ _ _ _ _ _ _ _ _ _ _ _ _ _ _ _ _ _ _ _ _ _ _ _ _ _ A B _ ⟨x,y,qA,dA,vA,(.slice wa wn wc),dB,vB,hB.get 0 (x:=⟨g,sg A.c x qA dA vA B.c y (.slice wa wn wc) dB vB,43⟩) rfl,unhide hA,unhide hD,unhide hXF,unhide hU,unhide hV⟩ (unhide hI) (unhide hXG).cg ⟨Nat.le_succ_of_le (unhide hN).qa,Nat.le_succ_of_le (unhide hN).qb,Nat.le_succ_of_le (unhide hN).wa,Nat.le_succ_of_le (unhide hN).wb⟩
end Go.Proofs.Ytcefkkoombmndab
