/-
  What the proof leans on.
-/
import Derived.Test.YtcefkkoombmndabVO9
namespace Go.Proofs.Ytcefkkoombmndab
open Go.RowKit
set_option maxRecDepth 100000
set_option linter.unusedSimpArgs false
set_option linter.unusedVariables false
theorem exec_upU {a:Act} {o:Oper} (w:World) (x y:Operand) (ho:o.op=.slice 40 x none (some y) none) (s:Option Addr) (len cap n:Nat) (hx:a.eval x=.slice s len cap) (hy:a.eval y=.int .i64 n) (hn:n≤cap) :
  (execOp a.eval o).run Try.prog w=.ok (.value (.slice s n cap)) w:=by
 have h1:(0:Int)≤n:=by omega
 have h2:(n:Int)≤cap:=by omega
 have hu:Try.prog.underlying 40=some (.slice (Try.prog.elem 40)):=by kernel_rfl
 have hz:(sizeOf (Try.prog.elem 40)).run Try.prog w=.ok 108 w:=by kernel_rfl
 have e:(if cap=0 then s else s.map (·.add 0))=s:=by cases s <;> simp [Addr.add]
 simp [execOp,ho,hx,hy,run_sliceAt_slice _ _ _ _ _ _ hu,run_slice_h _ _ _ _ _ hu _ _ h1 h2,hz,sliced,e]
theorem exec_frU {a:Act} {o:Oper} (w:World) (x y:Operand) (ho:o.op=.slice 40 x (some y) none none) (s:Option Addr) (len cap n:Nat) (hx:a.eval x=.slice s len cap) (hy:a.eval y=.int .i64 n) (hc:len≤cap) (hn:n≤len) :
  (execOp a.eval o).run Try.prog w=.ok (.value (.slice (frA 108 s cap n) (len - n) (cap - n))) w:=by
 have h1:(0:Int)≤n:=by omega
 have h2:(n:Int)≤len:=by omega
 have hu:Try.prog.underlying 40=some (.slice (Try.prog.elem 40)):=by kernel_rfl
 have hz:(sizeOf (Try.prog.elem 40)).run Try.prog w=.ok 108 w:=by kernel_rfl
 simp [execOp,ho,hx,hy,run_sliceAt_slice _ _ _ _ _ _ hu,run_slice_l _ _ _ _ _ hu _ _ h1 h2,hz,sliced,frA]
theorem exec_b0U {a:Act} {o:Oper} (w:World) (ho:o.op=.buildSlice 40 0 #[]) :
  (execOp a.eval o).run Try.prog w=.ok (.value (.slice (some ⟨w.heap.size,0,none⟩) 0 0)) (w.alloc (.cells #[] 53 (0,0))):=by
 unfold execOp
 simp only [ho]
 kernel_rfl
theorem gr_grownO {u u1 u2:World} (h:Gr u u1) {o:Option Nat} (k:u1.grownBy u2 o) (ho:∀ g,o=some g→u.heap.size≤g):Gr u u2 :=
 ⟨k.os.trans h.os,k.tape.trans h.tape,k.output.trans h.output,Nat.le_trans h.size k.size,fun i hi=>(k.block i (Nat.lt_of_lt_of_le hi h.size) (fun e=>by have:=ho i e.symm; omega)).trans (h.block i hi)⟩
theorem gr_any {u v:World} (g:Gr u v) (o:Option Nat):u.grownBy v o:=⟨g.os,g.tape,g.output,g.size,fun i hi _=>g.block i hi⟩
theorem unr_ones (L:List Un):∀ r ∈ L.map unr,∀ u ∈ r,u.oneCell'=true:=fun r hr u hu=>by
 obtain ⟨z,-,rfl⟩:=List.mem_map.1 hr
 exact unr_one z u hu
set_option maxHeartbeats 4000000 in
theorem br_lose0 (b g gt n:Nat) (ki ix_ rm kd:Int) (A B:Sd) (w:World) (z0 z1 z2 z4 z8 z9 z10 z11 z12 z13 z14 z15 z16 z17 z18 z19 z20 z21 z22 z23 z24 z25 z26 z27 z28 z29 z30 z31 z32 z33 z34 z35 z36 z37 z38 z39 z40 z41 z42 z43 z44 z45 z46 z47 z49 z50 z51 z52 z53 z54 z55 z56 z57 z58 z59 z60 z61 z62 z63 z64 z65 z66 z67 z68 z69 z70 z71 z72 z73 z74 z75 z76 z77 z78 z79 z80 z81 z82 z83 z84 z85 z86 z87 z88 z89 z90 z91 z92 z93 z94 z95 z96 z97 z98 z99 z100 z101 z102 z103 z104 z105 z106 z107 z108 z109 z110 z111 z112 z113 z114 z115 z116 z117 z118 z119 z120 z121 z122 z123 z124 z125 z126 z127 z128 z129 z130 z131 z132 z133 z134 z135 z136 z137 z138 z139 z140 z141 z142 z143 z144 z145 z146 z147 z148 z149 z150 z151 z152 z153 z154 z155 z156 z157 z158 z159 z160 z161 z162 z163 z164 z165 z166 z167 z168 z169 z170 z171 z172 z173 z174 z175 z176 z177 z178 z179 z180 z181 z182 z183 z184 z185 z186 z187 z188 z189 z190 z191 z192 z193 z194 z195 z196 z197 z198 z199 z200 z201 z202 z203 z204 z205 z206 z207 z208 z209 z210 z211 z212 z213 z214 z215 z216 z217 z218 z219 z220 z221 z222 z223 z224 z225 z226 z227 z228 z229 z230 z231 z232 z233 z234 z235 z236 z237 z238 z239 z240 z241 z242:Value) (Q:Exit→Act→World→Prop) (hb:b≤w.heap.size) (hbg:b≤g) (hS:St b w g A B) (hI:Inv A B) (hN:Bd n A B) (hn:n≤400) (hgt:w.heap[gt]?=some (.cells ((cst ki ix_ rm true)) 45 (0,0))) (hQp:∀ c a (d:Nat) v w,Q (.panic c) (Act.put a (some d) v) w→Q (.panic c) a w) (hd0:kd≠0) (hd1:kd≠1) (h0:0<A.w.length) (hQ:∀ u2 u8 u9 u10 u11 u12 u13 u14 u15 u49 u50 u51 u52 u53 u54 u55 u56 u57 u58 u59 u60 u61 u62 u63 u64 u65 u66 u67 u68 u69 u70 u71 u72 u73 u74 u75 u76 u77 u78 u79 u80 u81 u82 u83 u84 u85 u86 u87 u88 u89 u90 u91 u92 u93 u94 u95 u96 u97 u98 u99 u100 u101 u102 u103 u104 u105 u106 u107 u108 u109 u110 u111 u112 u113 u114 u115 u116 u117 u118 u119 u120 u121 u122 u123 u124 u125 u126 u127 u128 u129 u130 u131 u132 u133 u134 u135 u136 u137 u138 u139 u140 u141 u142 u143 u144 u145 u146 u147 u148 u149 u150 u151 u152 u153 u154 u155 u156 u157 u158 u159 u160 u161 u162 u163 u164 u165 u166 u167 u168 u169 u170 u171 u172 u173 u174 u175 u176 u177 u178 u179 u180 u181 u182 u183:Value,∀ (A' B':Sd) (w':World),St b w' g A' B'→Inv A' B'→Cg g b w w'→Bd (n+1) A' B'→Q .normal ⟨#[z0,z1,u2,.pointer (some ⟨g,0,none⟩),z4,.pointer (some ⟨gt,0,none⟩),.pointer (some ⟨g,0,none⟩),.pointer (some ⟨g,8,none⟩),u8,u9,u10,u11,u12,u13,u14,u15,z16,z17,z18,z19,z20,z21,z22,z23,z24,z25,z26,z27,z28,z29,z30,z31,z32,z33,z34,z35,z36,z37,z38,z39,z40,z41,z42,z43,z44,z45,z46,z47,.int .u64 kd,u49,u50,u51,u52,u53,u54,u55,u56,u57,u58,u59,u60,u61,u62,u63,u64,u65,u66,u67,u68,u69,u70,u71,u72,u73,u74,u75,u76,u77,u78,u79,u80,u81,u82,u83,u84,u85,u86,u87,u88,u89,u90,u91,u92,u93,u94,u95,u96,u97,u98,u99,u100,u101,u102,u103,u104,u105,u106,u107,u108,u109,u110,u111,u112,u113,u114,u115,u116,u117,u118,u119,u120,u121,u122,u123,u124,u125,u126,u127,u128,u129,u130,u131,u132,u133,u134,u135,u136,u137,u138,u139,u140,u141,u142,u143,u144,u145,u146,u147,u148,u149,u150,u151,u152,u153,u154,u155,u156,u157,u158,u159,u160,u161,u162,u163,u164,u165,u166,u167,u168,u169,u170,u171,u172,u173,u174,u175,u176,u177,u178,u179,u180,u181,u182,u183,z184,z185,z186,z187,z188,z189,z190,z191,z192,z193,z194,z195,z196,z197,z198,z199,z200,z201,z202,z203,z204,z205,z206,z207,z208,z209,z210,z211,z212,z213,z214,z215,z216,z217,z218,z219,z220,z221,z222,z223,z224,z225,z226,z227,z228,z229,z230,z231,z232,z233,z234,z235,z236,z237,z238,z239,z240,z241,z242],[]⟩ w'):Code.wp Try.prog oSwitch Q ⟨#[z0,z1,z2,.pointer (some ⟨g,0,none⟩),z4,.pointer (some ⟨gt,0,none⟩),.pointer (some ⟨g,0,none⟩),.pointer (some ⟨g,8,none⟩),z8,z9,z10,z11,z12,z13,z14,z15,z16,z17,z18,z19,z20,z21,z22,z23,z24,z25,z26,z27,z28,z29,z30,z31,z32,z33,z34,z35,z36,z37,z38,z39,z40,z41,z42,z43,z44,z45,z46,z47,.int .u64 kd,z49,z50,z51,z52,z53,z54,z55,z56,z57,z58,z59,z60,z61,z62,z63,z64,z65,z66,z67,z68,z69,z70,z71,z72,z73,z74,z75,z76,z77,z78,z79,z80,z81,z82,z83,z84,z85,z86,z87,z88,z89,z90,z91,z92,z93,z94,z95,z96,z97,z98,z99,z100,z101,z102,z103,z104,z105,z106,z107,z108,z109,z110,z111,z112,z113,z114,z115,z116,z117,z118,z119,z120,z121,z122,z123,z124,z125,z126,z127,z128,z129,z130,z131,z132,z133,z134,z135,z136,z137,z138,z139,z140,z141,z142,z143,z144,z145,z146,z147,z148,z149,z150,z151,z152,z153,z154,z155,z156,z157,z158,z159,z160,z161,z162,z163,z164,z165,z166,z167,z168,z169,z170,z171,z172,z173,z174,z175,z176,z177,z178,z179,z180,z181,z182,z183,z184,z185,z186,z187,z188,z189,z190,z191,z192,z193,z194,z195,z196,z197,z198,z199,z200,z201,z202,z203,z204,z205,z206,z207,z208,z209,z210,z211,z212,z213,z214,z215,z216,z217,z218,z219,z220,z221,z222,z223,z224,z225,z226,z227,z228,z229,z230,z231,z232,z233,z234,z235,z236,z237,z238,z239,z240,z241,z242],[]⟩ w:=by
 have hI2:=((hI).lose (ix ix_ A.w.length))
 replace hI2:=hide hI2
 have hpl:=ix_lt ix_ h0
 have hmx:=hN.wa
 obtain ⟨x,y,qA,dA,vA,qB,dB,vB,hg,hA,hD,hXF,hU,hV⟩:=hS
 obtain ⟨wa,wc,hva,-⟩:=(hXF.own 2 _ rfl).lz
 dsimp only at hva
 subst hva
 obtain ⟨wn,hwn⟩:∃ n,n=(A.w.map unr).length:=⟨_,rfl⟩
 rw [← hwn] at hg hXF
 rw [List.length_map] at hwn
 have hXo:=hXF.old
 have hXG:Cgs g b w w:=⟨Cg.refl g b w,hb⟩
 have hne:g≠gt:=fun e=>by rw [e,hgt] at hg; cases hg
 replace hXF:=hide hXF; replace hA:=hide hA; replace hD:=hide hD; replace hU:=hide hU; replace hV:=hide hV; replace hI:=hide hI; replace hQ:=hide hQ; replace hN:=hide hN; replace hXG:=hide hXG; replace hQp:=hide hQp; replace hwn:=hide hwn
 conv=>arg 2; whnf
 go_upto_region 18 with fail
 have hB1:=(nilb w).add ⟨g,sg A.c x qA dA (.slice wa wn wc) B.c y qB dB vB,43⟩ hg (Nat.zero_le _) (by intro y hy; cases hy)
 have hB:=hB1.add ⟨gt,(cst ki ix_ rm true),45⟩ hgt (Nat.zero_le _) (by intro y hy; rw [List.nil_append,List.mem_singleton] at hy; rw [hy]; exact hne)
 simp only [List.nil_append,List.cons_append] at hB
 clear hB1 hg hgt hne
 obtain ⟨u0,hu_⟩:∃ u,u=w:=⟨_,rfl⟩
 have hB2:Bl (bare w) [⟨g,sg A.c x qA dA (.slice wa wn wc) B.c y qB dB vB,43⟩,⟨gt,(cst ki ix_ rm true),45⟩] u0:=hu_ ▸ hB
 replace hA:Hid (Co b u0 A.c x):=hu_ ▸ hA; replace hD:Hid (Co b u0 B.c y):=hu_ ▸ hD
 replace hXF:Hid (Fam b u0 (fam A B qA dA (.slice wa wn wc) qB dB vB)):=hu_ ▸ hXF
 replace hXG:Hid (Cgs g b w u0):=hu_ ▸ hXG
 clear hB
 have hB:=hB2
 clear hB2
 rw [← hu_]
 clear hu_
 refine wp_region_lit ?_
 refine list_val (.bool false) (by kernel_rfl) (eql_u _ (.tmp 48) (.const (.int .u64 0)) kd 0 false rfl (by kernel_rfl) rfl (decide_eq_false hd0)) ?_
 simp only [nrm]
 (refine wpList_step fun K hK=>?_; replace hK:=hide hK; go_simp; refine unhide hK _ _ ?_; clear hK K)
 refine wpList_nil ?_
 replace hB:=hide hB
 go_upto_region 29 with fail
 replace hB:=unhide hB
 refine wp_region_lit ?_
 refine list_val (.bool false) (by kernel_rfl) (eql_u _ (.tmp 48) (.const (.int .u64 1)) kd 1 false rfl (by kernel_rfl) rfl (decide_eq_false hd1)) ?_
 simp only [nrm]
 (refine wpList_step fun K hK=>?_; replace hK:=hide hK; go_simp; refine unhide hK _ _ ?_; clear hK K)
 refine wpList_nil ?_
 replace hB:=hide hB
 go_upto_region 10 with fail
 replace hB:=unhide hB
 refine wp_region_lit ?_
 refine lvk (.pointer (some ⟨g,0,none⟩)) ?_
 simp only [nrm]
 refine lvk (.pointer (some ⟨g,0,none⟩)) ?_
 simp only [nrm]
 refine lvk (.pointer (some ⟨g,7,none⟩)) ?_
 simp only [nrm]
 refine list_val (.slice wa wn wc) (by kernel_rfl) (exec_csU _ (.tmp 51) rfl (g) 7 (by kernel_rfl) wa wn wc (seg_cell (nS2  _ _ _ _ _ _ _ _ _ _ _ _ _ _ _ _) (hB.get 0 (x:=⟨g,sg A.c x qA dA (.slice wa wn wc) B.c y qB dB vB,43⟩) rfl) 7 (v:=.slice wa wn wc) rfl rfl)) ?_
 simp only [nrm]
 refine lvk (.int .i64 wn) ?_
 simp only [nrm]
 (refine wpList_step fun K hK=>?_; replace hK:=hide hK; go_simp; refine unhide hK _ _ ?_; clear hK K)
 refine wpList_nil ?_
 obtain ⟨m,hm⟩:∃ m,m=A.w.length:=⟨_,rfl⟩
 have hwm:wn=m:=by rw [unhide hwn,hm]
 rw [← hm] at hpl h0 hmx hI2
 have hixe:=ix_eq ix_ h0
 obtain ⟨p,hp⟩:∃ p,p=ix ix_ m:=⟨_,rfl⟩
 rw [← hp] at hpl hixe hI2
 replace hm:=hide hm; replace hp:=hide hp
 subst hwm
 obtain ⟨u_,hu⟩:∃ u,A.w[p]?=some u:=⟨_,List.getElem?_eq_getElem (by rw [← unhide hm]; exact hpl)⟩
 have huB:=((unhide hU) _ (List.mem_of_getElem? hu)).1
 obtain ⟨pa,oa,haa,hrr⟩:=un_at ((unhide hXF).own 2 _ rfl) p _ hu
 subst haa
 replace hrr:Rg _ _ _ _:=hrr
 replace hrr:=hide hrr; replace hu:=hide hu; replace hixe:=hide hixe
 have hcp:=(or_slice ((unhide hXF).own 2 _ rfl)).2.cap
 have hcm:=(or_slice ((unhide hXF).own 2 _ rfl)).2.max
 replace hB:=hide hB
 go_upto_region 11 with fail
 replace hB:=unhide hB
 refine wp_region_lit ?_
 refine lvk (.int .i64 wn) ?_
 simp only [nrm]
 refine list_val (.bool true) (by kernel_rfl) (gtr_i _ (.tmp 54) (.const (.int .i64 0)) (wn:Int) 0 true rfl (by kernel_rfl) rfl (by simp; omega)) ?_
 simp only [nrm]
 refine wpList_nil ?_
 replace hB:=hide hB
 go_upto_region 12 with fail
 replace hB:=unhide hB
 refine anyC_start 13 (fun v_=>v_.heap[g]?=some (.cells (sg A.c x qA dA (.slice (some ⟨pa,oa,none⟩) wn wc) B.c y qB dB vB) 43 (0,0))∧v_.heap[gt]?=some (.cells ((cst ki ix_ rm true)) 45 (0,0))∧Rg v_ pa (oa+108 * p) (unr u_)) (by kernel_rfl) ?_
 replace hrr:=hide ((unhide hrr).gr ((Gr.refl u0).drew))
 replace hA:=hide ((unhide hA).gr ((Gr.refl u0).drew))
 replace hD:=hide ((unhide hD).gr ((Gr.refl u0).drew))
 replace hXF:=hide ((unhide hXF).gr ((Gr.refl u0).drew))
 replace hXG:=hide ((unhide hXG).gr ((Gr.refl u0).drew))
 replace hB:=hB.drew
 generalize World.drew _=u1 at *
 simp only [List.size_toArray,List.length_cons,List.length_nil,Array.replicate,List.replicate]
 refine anyC_take (i:=0) (v:=(.pointer (some ⟨g,0,none⟩))) (fun v_=>v_.heap[g]?=some (.cells (sg A.c x qA dA (.slice (some ⟨pa,oa,none⟩) wn wc) B.c y qB dB vB) 43 (0,0))∧v_.heap[gt]?=some (.cells ((cst ki ix_ rm true)) 45 (0,0))∧Rg v_ pa (oa+108 * p) (unr u_)) (fun _ h_=>h_) (.inr (by kernel_rfl)) rfl (by kernel_rfl) (by kernel_rfl) (by kernel_rfl) (by decide) (by kernel_rfl) (by decide) (fun c_ _ w_ h_=>unhide hQp c_ _ _ _ w_ h_) (.inl ⟨by kernel_rfl,fun x_ hu=>by kernel_rfl⟩) ⟨(hB.get 0 (x:=⟨g,sg A.c x qA dA (.slice (some ⟨pa,oa,none⟩) wn wc) B.c y qB dB vB,43⟩) rfl),(hB.get 1 (x:=⟨gt,(cst ki ix_ rm true),45⟩) rfl),(unhide hrr)⟩ ?_
 simp only [nrm]
 refine anyC_take (i:=1) (v:=(.pointer (some ⟨g,0,none⟩))) (fun v_=>v_.heap[g]?=some (.cells (sg A.c x qA dA (.slice (some ⟨pa,oa,none⟩) wn wc) B.c y qB dB vB) 43 (0,0))∧v_.heap[gt]?=some (.cells ((cst ki ix_ rm true)) 45 (0,0))∧Rg v_ pa (oa+108 * p) (unr u_)) (fun _ h_=>h_) (.inr (by kernel_rfl)) rfl (by kernel_rfl) (by kernel_rfl) (by kernel_rfl) (by decide) (by kernel_rfl) (by decide) (fun c_ _ w_ h_=>unhide hQp c_ _ _ _ w_ h_) (.inl ⟨by kernel_rfl,fun x_ hu=>by kernel_rfl⟩) ⟨(hB.get 0 (x:=⟨g,sg A.c x qA dA (.slice (some ⟨pa,oa,none⟩) wn wc) B.c y qB dB vB,43⟩) rfl),(hB.get 1 (x:=⟨gt,(cst ki ix_ rm true),45⟩) rfl),(unhide hrr)⟩ ?_
 simp only [nrm]
 refine anyC_take (i:=2) (v:=(.pointer (some ⟨g,7,none⟩))) (fun v_=>v_.heap[g]?=some (.cells (sg A.c x qA dA (.slice (some ⟨pa,oa,none⟩) wn wc) B.c y qB dB vB) 43 (0,0))∧v_.heap[gt]?=some (.cells ((cst ki ix_ rm true)) 45 (0,0))∧Rg v_ pa (oa+108 * p) (unr u_)) (fun _ h_=>h_) (.inr (by kernel_rfl)) rfl (by kernel_rfl) (by kernel_rfl) (by kernel_rfl) (by decide) (by kernel_rfl) (by decide) (fun c_ _ w_ h_=>unhide hQp c_ _ _ _ w_ h_) (.inl ⟨by kernel_rfl,fun x_ hu=>by kernel_rfl⟩) ⟨(hB.get 0 (x:=⟨g,sg A.c x qA dA (.slice (some ⟨pa,oa,none⟩) wn wc) B.c y qB dB vB,43⟩) rfl),(hB.get 1 (x:=⟨gt,(cst ki ix_ rm true),45⟩) rfl),(unhide hrr)⟩ ?_
 simp only [nrm]
 refine anyC_take (i:=3) (v:=(.slice (some ⟨pa,oa,none⟩) wn wc)) (fun v_=>v_.heap[g]?=some (.cells (sg A.c x qA dA (.slice (some ⟨pa,oa,none⟩) wn wc) B.c y qB dB vB) 43 (0,0))∧v_.heap[gt]?=some (.cells ((cst ki ix_ rm true)) 45 (0,0))∧Rg v_ pa (oa+108 * p) (unr u_)) (fun _ h_=>h_) (.inr (by kernel_rfl)) rfl (by kernel_rfl) (by kernel_rfl) (by kernel_rfl) (by decide) (by kernel_rfl) (by decide) (fun c_ _ w_ h_=>unhide hQp c_ _ _ _ w_ h_) (.inl ⟨by kernel_rfl,fun x_ hu=>exec_csU _ (.tmp 58) rfl (g) 7 (by kernel_rfl) (some ⟨pa,oa,none⟩) wn wc (seg_cell (nS2  _ _ _ _ _ _ _ _ _ _ _ _ _ _ _ _) hu.1 7 (v:=.slice (some ⟨pa,oa,none⟩) wn wc) rfl rfl)⟩) ⟨(hB.get 0 (x:=⟨g,sg A.c x qA dA (.slice (some ⟨pa,oa,none⟩) wn wc) B.c y qB dB vB,43⟩) rfl),(hB.get 1 (x:=⟨gt,(cst ki ix_ rm true),45⟩) rfl),(unhide hrr)⟩ ?_
 simp only [nrm]
 refine anyC_take (i:=4) (v:=(.pointer (some ⟨gt,1,none⟩))) (fun v_=>v_.heap[g]?=some (.cells (sg A.c x qA dA (.slice (some ⟨pa,oa,none⟩) wn wc) B.c y qB dB vB) 43 (0,0))∧v_.heap[gt]?=some (.cells ((cst ki ix_ rm true)) 45 (0,0))∧Rg v_ pa (oa+108 * p) (unr u_)) (fun _ h_=>h_) (.inr (by kernel_rfl)) rfl (by kernel_rfl) (by kernel_rfl) (by kernel_rfl) (by decide) (by kernel_rfl) (by decide) (fun c_ _ w_ h_=>unhide hQp c_ _ _ _ w_ h_) (.inl ⟨by kernel_rfl,fun x_ hu=>by kernel_rfl⟩) ⟨(hB.get 0 (x:=⟨g,sg A.c x qA dA (.slice (some ⟨pa,oa,none⟩) wn wc) B.c y qB dB vB,43⟩) rfl),(hB.get 1 (x:=⟨gt,(cst ki ix_ rm true),45⟩) rfl),(unhide hrr)⟩ ?_
 simp only [nrm]
 refine anyC_take (i:=5) (v:=(.int .i64 ix_)) (fun v_=>v_.heap[g]?=some (.cells (sg A.c x qA dA (.slice (some ⟨pa,oa,none⟩) wn wc) B.c y qB dB vB) 43 (0,0))∧v_.heap[gt]?=some (.cells ((cst ki ix_ rm true)) 45 (0,0))∧Rg v_ pa (oa+108 * p) (unr u_)) (fun _ h_=>h_) (.inr (by kernel_rfl)) rfl (by kernel_rfl) (by kernel_rfl) (by kernel_rfl) (by decide) (by kernel_rfl) (by decide) (fun c_ _ w_ h_=>unhide hQp c_ _ _ _ w_ h_) (.inl ⟨by kernel_rfl,fun x_ hu=>exec_ci _ (.tmp 60) rfl (gt) 1 (by kernel_rfl) ix_ (seg_cell (nST  _ _ _ _) hu.2.1 1 (v:=.int .i64 ix_) rfl rfl)⟩) ⟨(hB.get 0 (x:=⟨g,sg A.c x qA dA (.slice (some ⟨pa,oa,none⟩) wn wc) B.c y qB dB vB,43⟩) rfl),(hB.get 1 (x:=⟨gt,(cst ki ix_ rm true),45⟩) rfl),(unhide hrr)⟩ ?_
 simp only [nrm]
 refine anyC_take (i:=6) (v:=(.int .u64 (ix_ % 18446744073709551616))) (fun v_=>v_.heap[g]?=some (.cells (sg A.c x qA dA (.slice (some ⟨pa,oa,none⟩) wn wc) B.c y qB dB vB) 43 (0,0))∧v_.heap[gt]?=some (.cells ((cst ki ix_ rm true)) 45 (0,0))∧Rg v_ pa (oa+108 * p) (unr u_)) (fun _ h_=>h_) (.inr (by kernel_rfl)) rfl (by kernel_rfl) (by kernel_rfl) (by kernel_rfl) (by decide) (by kernel_rfl) (by decide) (fun c_ _ w_ h_=>unhide hQp c_ _ _ _ w_ h_) (.inl ⟨by kernel_rfl,fun x_ hu=>conv_iuW _ (.tmp 61) ix_ rfl (by kernel_rfl) _ rfl⟩) ⟨(hB.get 0 (x:=⟨g,sg A.c x qA dA (.slice (some ⟨pa,oa,none⟩) wn wc) B.c y qB dB vB,43⟩) rfl),(hB.get 1 (x:=⟨gt,(cst ki ix_ rm true),45⟩) rfl),(unhide hrr)⟩ ?_
 simp only [nrm]
 refine anyC_take (i:=7) (v:=(.int .i64 wn)) (fun v_=>v_.heap[g]?=some (.cells (sg A.c x qA dA (.slice (some ⟨pa,oa,none⟩) wn wc) B.c y qB dB vB) 43 (0,0))∧v_.heap[gt]?=some (.cells ((cst ki ix_ rm true)) 45 (0,0))∧Rg v_ pa (oa+108 * p) (unr u_)) (fun _ h_=>h_) (.inr (by kernel_rfl)) rfl (by kernel_rfl) (by kernel_rfl) (by kernel_rfl) (by decide) (by kernel_rfl) (by decide) (fun c_ _ w_ h_=>unhide hQp c_ _ _ _ w_ h_) (.inl ⟨by kernel_rfl,fun x_ hu=>by kernel_rfl⟩) ⟨(hB.get 0 (x:=⟨g,sg A.c x qA dA (.slice (some ⟨pa,oa,none⟩) wn wc) B.c y qB dB vB,43⟩) rfl),(hB.get 1 (x:=⟨gt,(cst ki ix_ rm true),45⟩) rfl),(unhide hrr)⟩ ?_
 simp only [nrm]
 refine anyC_take (i:=8) (v:=(.int .u64 (wn:Int))) (fun v_=>v_.heap[g]?=some (.cells (sg A.c x qA dA (.slice (some ⟨pa,oa,none⟩) wn wc) B.c y qB dB vB) 43 (0,0))∧v_.heap[gt]?=some (.cells ((cst ki ix_ rm true)) 45 (0,0))∧Rg v_ pa (oa+108 * p) (unr u_)) (fun _ h_=>h_) (.inr (by kernel_rfl)) rfl (by kernel_rfl) (by kernel_rfl) (by kernel_rfl) (by decide) (by kernel_rfl) (by decide) (fun c_ _ w_ h_=>unhide hQp c_ _ _ _ w_ h_) (.inl ⟨by kernel_rfl,fun x_ hu=>conv_iuW _ (.tmp 63) (wn:Int) rfl (by kernel_rfl) _ (by omega)⟩) ⟨(hB.get 0 (x:=⟨g,sg A.c x qA dA (.slice (some ⟨pa,oa,none⟩) wn wc) B.c y qB dB vB,43⟩) rfl),(hB.get 1 (x:=⟨gt,(cst ki ix_ rm true),45⟩) rfl),(unhide hrr)⟩ ?_
 simp only [nrm]
 refine anyC_take (i:=9) (v:=(.int .u64 (p:Int))) (fun v_=>v_.heap[g]?=some (.cells (sg A.c x qA dA (.slice (some ⟨pa,oa,none⟩) wn wc) B.c y qB dB vB) 43 (0,0))∧v_.heap[gt]?=some (.cells ((cst ki ix_ rm true)) 45 (0,0))∧Rg v_ pa (oa+108 * p) (unr u_)) (fun _ h_=>h_) (.inr (by kernel_rfl)) rfl (by kernel_rfl) (by kernel_rfl) (by kernel_rfl) (by decide) (by kernel_rfl) (by decide) (fun c_ _ w_ h_=>unhide hQp c_ _ _ _ w_ h_) (.inl ⟨by kernel_rfl,fun x_ hu=>rem_u _ (.tmp 62) (.tmp 64) (ix_ % 18446744073709551616) (wn:Int) rfl (by kernel_rfl) (by kernel_rfl) (Int.emod_nonneg _ (by decide)) (by omega) (by omega) _ (unhide hixe)⟩) ⟨(hB.get 0 (x:=⟨g,sg A.c x qA dA (.slice (some ⟨pa,oa,none⟩) wn wc) B.c y qB dB vB,43⟩) rfl),(hB.get 1 (x:=⟨gt,(cst ki ix_ rm true),45⟩) rfl),(unhide hrr)⟩ ?_
 simp only [nrm]
 refine anyC_take (i:=10) (v:=(.pointer (some ⟨pa,oa+108 * p,none⟩))) (fun v_=>v_.heap[g]?=some (.cells (sg A.c x qA dA (.slice (some ⟨pa,oa,none⟩) wn wc) B.c y qB dB vB) 43 (0,0))∧v_.heap[gt]?=some (.cells ((cst ki ix_ rm true)) 45 (0,0))∧Rg v_ pa (oa+108 * p) (unr u_)) (fun _ h_=>h_) (.inr (by kernel_rfl)) rfl (by kernel_rfl) (by kernel_rfl) (by kernel_rfl) (by decide) (by kernel_rfl) (by decide) (fun c_ _ w_ h_=>unhide hQp c_ _ _ _ w_ h_) (.inl ⟨by kernel_rfl,fun x_ hu=>exec_isU _ (.tmp 59) (.tmp 65) rfl pa oa wn wc p (by kernel_rfl) (by kernel_rfl) hpl⟩) ⟨(hB.get 0 (x:=⟨g,sg A.c x qA dA (.slice (some ⟨pa,oa,none⟩) wn wc) B.c y qB dB vB,43⟩) rfl),(hB.get 1 (x:=⟨gt,(cst ki ix_ rm true),45⟩) rfl),(unhide hrr)⟩ ?_
 simp only [nrm]
 refine anyC_take (i:=11) (v:=(.agg (fl [[.int .u32 u_.ack],[.int .u32 u_.seq],bw u_.B,[.bool u_.idle]]))) (fun v_=>v_.heap[g]?=some (.cells (sg A.c x qA dA (.slice (some ⟨pa,oa,none⟩) wn wc) B.c y qB dB vB) 43 (0,0))∧v_.heap[gt]?=some (.cells ((cst ki ix_ rm true)) 45 (0,0))∧Rg v_ pa (oa+108 * p) (unr u_)) (fun _ h_=>h_) (.inr (by kernel_rfl)) rfl (by kernel_rfl) (by kernel_rfl) (by kernel_rfl) (by decide) (by kernel_rfl) (by decide) (fun c_ _ w_ h_=>unhide hQp c_ _ _ _ w_ h_) (.inl ⟨by kernel_rfl,fun x_ hu=>exec_lU _ (.tmp 66) rfl pa (oa+108 * p) (by kernel_rfl) u_ huB hu.2.2⟩) ⟨(hB.get 0 (x:=⟨g,sg A.c x qA dA (.slice (some ⟨pa,oa,none⟩) wn wc) B.c y qB dB vB,43⟩) rfl),(hB.get 1 (x:=⟨gt,(cst ki ix_ rm true),45⟩) rfl),(unhide hrr)⟩ ?_
 simp only [nrm]
 refine anyC_one (i:=12) (by kernel_rfl) rfl (fun K hK=>?_)
 refine step_val (.pointer (some ⟨u1.heap.size,0,none⟩)) (u1.alloc (.cells (cu0) 53 (0,0))) (by kernel_rfl) (by kernel_rfl) ?_
 replace hB:=hB.new (cu0) 53
 simp only [List.nil_append,List.cons_append] at hB
 have hg:=(Gr.refl u1).alloc (.cells (cu0) 53 (0,0))
 have hgl14:=(unhide hXG).size
 replace hrr:=hide ((unhide hrr).gr hg)
 replace hA:=hide ((unhide hA).gr hg)
 replace hD:=hide ((unhide hD).gr hg)
 replace hXF:=hide ((unhide hXF).gr hg)
 replace hXG:=hide ((unhide hXG).gr hg)
 clear hg
 generalize World.alloc _ _=u2 at *
 generalize u1.heap.size=g14 at *
 refine hK.out _ _ ⟨(hB.get 0 (x:=⟨g,sg A.c x qA dA (.slice (some ⟨pa,oa,none⟩) wn wc) B.c y qB dB vB,43⟩) rfl),(hB.get 1 (x:=⟨gt,(cst ki ix_ rm true),45⟩) rfl),(unhide hrr)⟩ (fun _=>?_)
 clear hK K
 simp only [nrm]
 refine anyC_last (by kernel_rfl) rfl (fun K hK=>?_)
 have hzz_:Hid (u2.heap[g14]?=some (.cells (cu0) 53 (0,0))):=hide (hB.get 2 (x:=⟨g14,cu0,53⟩) rfl)
 refine step_all 53 (.tmp 14) (.tmp 67) (g14) (S2:=[[.int .u32 u_.ack],[.int .u32 u_.seq],bw u_.B,[.bool u_.idle]]) (by kernel_rfl) rfl (by kernel_rfl) (by kernel_rfl) hB 2 rfl ND (nD Z105_len _ _ _) (nD huB _ _ _) (by kernel_rfl) (oD _ rfl rfl rfl) ?_
 intro u3 hB_ hbt_
 clear hB
 replace hB:Bl (bare w) [⟨g,sg A.c x qA dA (.slice (some ⟨pa,oa,none⟩) wn wc) B.c y qB dB vB,43⟩,⟨gt,(cst ki ix_ rm true),45⟩,⟨g14,fl [[.int .u32 u_.ack],[.int .u32 u_.seq],bw u_.B,[.bool u_.idle]],53⟩] u3:=hB_
 clear hB_
 replace hA:=hide ((unhide hA).bz (unhide hzz_) hbt_)
 replace hD:=hide ((unhide hD).bz (unhide hzz_) hbt_)
 replace hXF:=hide ((unhide hXF).bo (unhide hzz_) hbt_ hXo hgl14)
 replace hXG:=hide ((unhide hXG).bl (unhide hzz_) hbt_ hgl14)
 clear hbt_ hzz_
 refine hK.out _ _ ?_
 clear hK K
 simp only [nrm]
 refine any_done (by kernel_rfl) ?_
 replace hB:=hide hB
 go_upto_region 13 with fail
 replace hB:=unhide hB
 refine wp_region_lit ?_
 refine lvk (.pointer (some ⟨gt,3,none⟩)) ?_
 simp only [nrm]
 refine list_val (.bool true) (by kernel_rfl) (exec_cb _ (.tmp 68) rfl (gt) 3 (by kernel_rfl) true (seg_cell (nST  _ _ _ _) (hB.get 1 (x:=⟨gt,(cst ki ix_ rm true),45⟩) rfl) 3 (v:=.bool true) rfl rfl)) ?_
 simp only [nrm]
 refine wpList_nil ?_
 replace hB:=hide hB
 go_upto_region 14 with fail
 replace hB:=unhide hB
 refine wp_region_lit ?_
 refine lvk (.pointer (some ⟨gt,1,none⟩)) ?_
 simp only [nrm]
 refine list_val (.int .i64 ix_) (by kernel_rfl) (exec_ci _ (.tmp 70) rfl (gt) 1 (by kernel_rfl) ix_ (seg_cell (nST  _ _ _ _) (hB.get 1 (x:=⟨gt,(cst ki ix_ rm true),45⟩) rfl) 1 (v:=.int .i64 ix_) rfl rfl)) ?_
 simp only [nrm]
 refine list_val (.int .u64 (ix_ % 18446744073709551616)) (by kernel_rfl) (conv_iuW _ (.tmp 71) ix_ rfl (by kernel_rfl) _ rfl) ?_
 simp only [nrm]
 refine lvk (.int .i64 wn) ?_
 simp only [nrm]
 refine list_val (.int .u64 (wn:Int)) (by kernel_rfl) (conv_iuW _ (.tmp 73) (wn:Int) rfl (by kernel_rfl) _ (by omega)) ?_
 simp only [nrm]
 refine list_val (.int .u64 (p:Int)) (by kernel_rfl) (rem_u _ (.tmp 72) (.tmp 74) (ix_ % 18446744073709551616) (wn:Int) rfl (by kernel_rfl) (by kernel_rfl) (Int.emod_nonneg _ (by decide)) (by omega) (by omega) _ (unhide hixe)) ?_
 simp only [nrm]
 refine list_val (.int .i64 (p:Int)) (by kernel_rfl) (conv_ui _ (.tmp 75) (p:Int) rfl (by kernel_rfl) (by omega)) ?_
 simp only [nrm]
 (refine wpList_step fun K hK=>?_; replace hK:=hide hK; go_simp; refine unhide hK _ _ ?_; clear hK K)
 refine wpList_nil ?_
 replace hB:=hide hB
 go_upto_region 15 with fail
 replace hB:=unhide hB
 refine anyC_start 19 (fun v_=>v_.heap[g]?=some (.cells (sg A.c x qA dA (.slice (some ⟨pa,oa,none⟩) wn wc) B.c y qB dB vB) 43 (0,0))) (by kernel_rfl) ?_
 replace hA:=hide ((unhide hA).gr ((Gr.refl u3).drew))
 replace hD:=hide ((unhide hD).gr ((Gr.refl u3).drew))
 replace hXF:=hide ((unhide hXF).gr ((Gr.refl u3).drew))
 replace hXG:=hide ((unhide hXG).gr ((Gr.refl u3).drew))
 replace hB:=hB.drew
 generalize World.drew _=u4 at *
 simp only [List.size_toArray,List.length_cons,List.length_nil,Array.replicate,List.replicate]
 refine anyC_take (i:=0) (v:=(.pointer (some ⟨g,0,none⟩))) (fun v_=>v_.heap[g]?=some (.cells (sg A.c x qA dA (.slice (some ⟨pa,oa,none⟩) wn wc) B.c y qB dB vB) 43 (0,0))) (fun _ h_=>h_) (.inr (by kernel_rfl)) rfl (by kernel_rfl) (by kernel_rfl) (by kernel_rfl) (by decide) (by kernel_rfl) (by decide) (fun c_ _ w_ h_=>unhide hQp c_ _ _ _ w_ h_) (.inl ⟨by kernel_rfl,fun x_ hu=>by kernel_rfl⟩) (hB.get 0 (x:=⟨g,sg A.c x qA dA (.slice (some ⟨pa,oa,none⟩) wn wc) B.c y qB dB vB,43⟩) rfl) ?_
 simp only [nrm]
 refine anyC_take (i:=2) (v:=(.pointer (some ⟨g,0,none⟩))) (fun v_=>v_.heap[g]?=some (.cells (sg A.c x qA dA (.slice (some ⟨pa,oa,none⟩) wn wc) B.c y qB dB vB) 43 (0,0))) (fun _ h_=>h_) (.inr (by kernel_rfl)) rfl (by kernel_rfl) (by kernel_rfl) (by kernel_rfl) (by decide) (by kernel_rfl) (by decide) (fun c_ _ w_ h_=>unhide hQp c_ _ _ _ w_ h_) (.inl ⟨by kernel_rfl,fun x_ hu=>by kernel_rfl⟩) (hB.get 0 (x:=⟨g,sg A.c x qA dA (.slice (some ⟨pa,oa,none⟩) wn wc) B.c y qB dB vB,43⟩) rfl) ?_
 simp only [nrm]
 refine anyC_take (i:=3) (v:=(.pointer (some ⟨g,0,none⟩))) (fun v_=>v_.heap[g]?=some (.cells (sg A.c x qA dA (.slice (some ⟨pa,oa,none⟩) wn wc) B.c y qB dB vB) 43 (0,0))) (fun _ h_=>h_) (.inr (by kernel_rfl)) rfl (by kernel_rfl) (by kernel_rfl) (by kernel_rfl) (by decide) (by kernel_rfl) (by decide) (fun c_ _ w_ h_=>unhide hQp c_ _ _ _ w_ h_) (.inl ⟨by kernel_rfl,fun x_ hu=>by kernel_rfl⟩) (hB.get 0 (x:=⟨g,sg A.c x qA dA (.slice (some ⟨pa,oa,none⟩) wn wc) B.c y qB dB vB,43⟩) rfl) ?_
 simp only [nrm]
 refine anyC_take (i:=4) (v:=(.pointer (some ⟨g,7,none⟩))) (fun v_=>v_.heap[g]?=some (.cells (sg A.c x qA dA (.slice (some ⟨pa,oa,none⟩) wn wc) B.c y qB dB vB) 43 (0,0))) (fun _ h_=>h_) (.inr (by kernel_rfl)) rfl (by kernel_rfl) (by kernel_rfl) (by kernel_rfl) (by decide) (by kernel_rfl) (by decide) (fun c_ _ w_ h_=>unhide hQp c_ _ _ _ w_ h_) (.inl ⟨by kernel_rfl,fun x_ hu=>by kernel_rfl⟩) (hB.get 0 (x:=⟨g,sg A.c x qA dA (.slice (some ⟨pa,oa,none⟩) wn wc) B.c y qB dB vB,43⟩) rfl) ?_
 simp only [nrm]
 refine anyC_take (i:=5) (v:=(.slice (some ⟨pa,oa,none⟩) wn wc)) (fun v_=>v_.heap[g]?=some (.cells (sg A.c x qA dA (.slice (some ⟨pa,oa,none⟩) wn wc) B.c y qB dB vB) 43 (0,0))) (fun _ h_=>h_) (.inr (by kernel_rfl)) rfl (by kernel_rfl) (by kernel_rfl) (by kernel_rfl) (by decide) (by kernel_rfl) (by decide) (fun c_ _ w_ h_=>unhide hQp c_ _ _ _ w_ h_) (.inl ⟨by kernel_rfl,fun x_ hu=>exec_csU _ (.tmp 81) rfl (g) 7 (by kernel_rfl) (some ⟨pa,oa,none⟩) wn wc (seg_cell (nS2  _ _ _ _ _ _ _ _ _ _ _ _ _ _ _ _) hu 7 (v:=.slice (some ⟨pa,oa,none⟩) wn wc) rfl rfl)⟩) (hB.get 0 (x:=⟨g,sg A.c x qA dA (.slice (some ⟨pa,oa,none⟩) wn wc) B.c y qB dB vB,43⟩) rfl) ?_
 simp only [nrm]
 refine anyC_take (i:=6) (v:=(.int .i64 (p:Int))) (fun v_=>v_.heap[g]?=some (.cells (sg A.c x qA dA (.slice (some ⟨pa,oa,none⟩) wn wc) B.c y qB dB vB) 43 (0,0))) (fun _ h_=>h_) (.inr (by kernel_rfl)) rfl (by kernel_rfl) (by kernel_rfl) (by kernel_rfl) (by decide) (by kernel_rfl) (by decide) (fun c_ _ w_ h_=>unhide hQp c_ _ _ _ w_ h_) (.inl ⟨by kernel_rfl,fun x_ hu=>by kernel_rfl⟩) (hB.get 0 (x:=⟨g,sg A.c x qA dA (.slice (some ⟨pa,oa,none⟩) wn wc) B.c y qB dB vB,43⟩) rfl) ?_
 simp only [nrm]
 refine anyC_take (i:=7) (v:=(.slice (some ⟨pa,oa,none⟩) p wc)) (fun v_=>v_.heap[g]?=some (.cells (sg A.c x qA dA (.slice (some ⟨pa,oa,none⟩) wn wc) B.c y qB dB vB) 43 (0,0))) (fun _ h_=>h_) (.inr (by kernel_rfl)) rfl (by kernel_rfl) (by kernel_rfl) (by kernel_rfl) (by decide) (by kernel_rfl) (by decide) (fun c_ _ w_ h_=>unhide hQp c_ _ _ _ w_ h_) (.inl ⟨by kernel_rfl,fun x_ hu=>exec_upU _ (.tmp 82) (.tmp 83) rfl (some ⟨pa,oa,none⟩) wn wc p (by kernel_rfl) (by kernel_rfl) (by omega)⟩) (hB.get 0 (x:=⟨g,sg A.c x qA dA (.slice (some ⟨pa,oa,none⟩) wn wc) B.c y qB dB vB,43⟩) rfl) ?_
 simp only [nrm]
 refine anyC_take (i:=9) (v:=(.pointer (some ⟨g,0,none⟩))) (fun v_=>v_.heap[g]?=some (.cells (sg A.c x qA dA (.slice (some ⟨pa,oa,none⟩) wn wc) B.c y qB dB vB) 43 (0,0))) (fun _ h_=>h_) (.inr (by kernel_rfl)) rfl (by kernel_rfl) (by kernel_rfl) (by kernel_rfl) (by decide) (by kernel_rfl) (by decide) (fun c_ _ w_ h_=>unhide hQp c_ _ _ _ w_ h_) (.inl ⟨by kernel_rfl,fun x_ hu=>by kernel_rfl⟩) (hB.get 0 (x:=⟨g,sg A.c x qA dA (.slice (some ⟨pa,oa,none⟩) wn wc) B.c y qB dB vB,43⟩) rfl) ?_
 simp only [nrm]
 refine anyC_take (i:=10) (v:=(.pointer (some ⟨g,0,none⟩))) (fun v_=>v_.heap[g]?=some (.cells (sg A.c x qA dA (.slice (some ⟨pa,oa,none⟩) wn wc) B.c y qB dB vB) 43 (0,0))) (fun _ h_=>h_) (.inr (by kernel_rfl)) rfl (by kernel_rfl) (by kernel_rfl) (by kernel_rfl) (by decide) (by kernel_rfl) (by decide) (fun c_ _ w_ h_=>unhide hQp c_ _ _ _ w_ h_) (.inl ⟨by kernel_rfl,fun x_ hu=>by kernel_rfl⟩) (hB.get 0 (x:=⟨g,sg A.c x qA dA (.slice (some ⟨pa,oa,none⟩) wn wc) B.c y qB dB vB,43⟩) rfl) ?_
 simp only [nrm]
 refine anyC_take (i:=11) (v:=(.pointer (some ⟨g,7,none⟩))) (fun v_=>v_.heap[g]?=some (.cells (sg A.c x qA dA (.slice (some ⟨pa,oa,none⟩) wn wc) B.c y qB dB vB) 43 (0,0))) (fun _ h_=>h_) (.inr (by kernel_rfl)) rfl (by kernel_rfl) (by kernel_rfl) (by kernel_rfl) (by decide) (by kernel_rfl) (by decide) (fun c_ _ w_ h_=>unhide hQp c_ _ _ _ w_ h_) (.inl ⟨by kernel_rfl,fun x_ hu=>by kernel_rfl⟩) (hB.get 0 (x:=⟨g,sg A.c x qA dA (.slice (some ⟨pa,oa,none⟩) wn wc) B.c y qB dB vB,43⟩) rfl) ?_
 simp only [nrm]
 refine anyC_take (i:=12) (v:=(.slice (some ⟨pa,oa,none⟩) wn wc)) (fun v_=>v_.heap[g]?=some (.cells (sg A.c x qA dA (.slice (some ⟨pa,oa,none⟩) wn wc) B.c y qB dB vB) 43 (0,0))) (fun _ h_=>h_) (.inr (by kernel_rfl)) rfl (by kernel_rfl) (by kernel_rfl) (by kernel_rfl) (by decide) (by kernel_rfl) (by decide) (fun c_ _ w_ h_=>unhide hQp c_ _ _ _ w_ h_) (.inl ⟨by kernel_rfl,fun x_ hu=>exec_csU _ (.tmp 88) rfl (g) 7 (by kernel_rfl) (some ⟨pa,oa,none⟩) wn wc (seg_cell (nS2  _ _ _ _ _ _ _ _ _ _ _ _ _ _ _ _) hu 7 (v:=.slice (some ⟨pa,oa,none⟩) wn wc) rfl rfl)⟩) (hB.get 0 (x:=⟨g,sg A.c x qA dA (.slice (some ⟨pa,oa,none⟩) wn wc) B.c y qB dB vB,43⟩) rfl) ?_
 simp only [nrm]
 refine anyC_take (i:=13) (v:=(.int .i64 (p:Int))) (fun v_=>v_.heap[g]?=some (.cells (sg A.c x qA dA (.slice (some ⟨pa,oa,none⟩) wn wc) B.c y qB dB vB) 43 (0,0))) (fun _ h_=>h_) (.inr (by kernel_rfl)) rfl (by kernel_rfl) (by kernel_rfl) (by kernel_rfl) (by decide) (by kernel_rfl) (by decide) (fun c_ _ w_ h_=>unhide hQp c_ _ _ _ w_ h_) (.inl ⟨by kernel_rfl,fun x_ hu=>by kernel_rfl⟩) (hB.get 0 (x:=⟨g,sg A.c x qA dA (.slice (some ⟨pa,oa,none⟩) wn wc) B.c y qB dB vB,43⟩) rfl) ?_
 simp only [nrm]
 refine anyC_take (i:=14) (v:=(.int .i64 ((p+1:Nat):Int))) (fun v_=>v_.heap[g]?=some (.cells (sg A.c x qA dA (.slice (some ⟨pa,oa,none⟩) wn wc) B.c y qB dB vB) 43 (0,0))) (fun _ h_=>h_) (.inr (by kernel_rfl)) rfl (by kernel_rfl) (by kernel_rfl) (by kernel_rfl) (by decide) (by kernel_rfl) (by decide) (fun c_ _ w_ h_=>unhide hQp c_ _ _ _ w_ h_) (.inl ⟨by kernel_rfl,fun x_ hu=>add_i _ (.tmp 90) (.const (.int .i64 1)) (p:Int) 1 rfl (by kernel_rfl) rfl _ (by omega) (by omega)⟩) (hB.get 0 (x:=⟨g,sg A.c x qA dA (.slice (some ⟨pa,oa,none⟩) wn wc) B.c y qB dB vB,43⟩) rfl) ?_
 simp only [nrm]
 refine anyC_take (i:=15) (v:=(.slice (frA 108 (some ⟨pa,oa,none⟩) wc (p+1)) (wn - (p+1)) (wc - (p+1)))) (fun v_=>v_.heap[g]?=some (.cells (sg A.c x qA dA (.slice (some ⟨pa,oa,none⟩) wn wc) B.c y qB dB vB) 43 (0,0))) (fun _ h_=>h_) (.inr (by kernel_rfl)) rfl (by kernel_rfl) (by kernel_rfl) (by kernel_rfl) (by decide) (by kernel_rfl) (by decide) (fun c_ _ w_ h_=>unhide hQp c_ _ _ _ w_ h_) (.inl ⟨by kernel_rfl,fun x_ hu=>exec_frU _ (.tmp 89) (.tmp 91) rfl (some ⟨pa,oa,none⟩) wn wc (p+1) (by kernel_rfl) (by kernel_rfl) hcp (by omega)⟩) (hB.get 0 (x:=⟨g,sg A.c x qA dA (.slice (some ⟨pa,oa,none⟩) wn wc) B.c y qB dB vB,43⟩) rfl) ?_
 simp only [nrm]
 refine anyC_one (i:=1) (by kernel_rfl) rfl (fun K hK=>?_)
 have hBs:=hide hB
 refine step_val (.slice (some ⟨u4.heap.size,0,none⟩) 0 0) (u4.alloc (.cells #[] 53 (0,0))) (by kernel_rfl) (exec_b0U _ rfl) ?_
 have hr1:=(Gr.refl u4).alloc (.cells #[] 53 (0,0))
 have hO1:=or_mt (k:=108) (b:=u4.heap.size) (blk_new u4 (.cells #[] 53 (0,0))) (Nat.le_refl _)
 replace hB:=hB.more hr1
 generalize World.alloc _ _=u5 at *
 obtain ⟨ge,hge⟩:∃ g,g=u4.heap.size:=⟨_,rfl⟩
 rw [← hge] at hO1 ⊢
 replace hge:=hide hge
 refine hK.out _ _ (hB.get 0 (x:=⟨g,sg A.c x qA dA (.slice (some ⟨pa,oa,none⟩) wn wc) B.c y qB dB vB,43⟩) rfl) (fun _=>?_)
 clear hK K
 simp only [nrm]
 refine anyC_one (i:=8) (by kernel_rfl) rfl (fun K hK=>?_)
 rw [if_pos (by kernel_rfl)]
 have hLz:=(or_slice (((unhide hXF).own 2 _ rfl).gr hr1)).2.take p (by omega)
 dsimp only at hLz
 refine app_rowsB ltU (.tmp 78) (.tmp 84) rfl ge (by rw [unhide hge]; exact hr1.size) (.slice (some ⟨ge,0,none⟩) 0 0) [] (by kernel_rfl) hO1 (some ⟨pa,oa,none⟩) p wc ((A.w.map unr).take p) (by kernel_rfl) hLz (fun r hr=>unr_ones _ r (List.mem_of_mem_take hr)) (by simp only [List.length_nil]; omega) ?_
 intro v2 u6 hO2 hgr hsn
 rw [List.nil_append] at hO2
 have hr2:Gr u4 u6:=gr_grownO hr1 hgr (fun g_ e_=>by have h1_:ge=g_:=Option.some.inj e_; have h2_:=unhide hge; omega)
 replace hB:=(unhide hBs).more hr2
 clear hr1 hgr hsn hLz hO1
 refine hK.out _ _ (hB.get 0 (x:=⟨g,sg A.c x qA dA (.slice (some ⟨pa,oa,none⟩) wn wc) B.c y qB dB vB,43⟩) rfl) (fun _=>?_)
 clear hK K
 simp only [nrm]
 refine anyC_one (i:=16) (by kernel_rfl) rfl (fun K hK=>?_)
 rw [if_pos (by kernel_rfl)]
 have hLz:=(or_slice (((unhide hXF).own 2 _ rfl).gr hr2)).2.from_ (p+1) (by omega)
 dsimp only at hLz
 have hlt:((A.w.map unr).take p).length≤400:=by rw [List.length_take]; omega
 refine app_rowsB ltU (.tmp 85) (.tmp 92) rfl ge (by rw [unhide hge]; exact hr2.size) v2 ((A.w.map unr).take p) (by kernel_rfl) hO2 (frA 108 (some ⟨pa,oa,none⟩) wc (p+1)) (wn - (p+1)) (wc - (p+1)) ((A.w.map unr).drop (p+1)) (by kernel_rfl) hLz (fun r hr=>unr_ones _ r (List.mem_of_mem_drop hr)) (by omega) ?_
 intro v3 u7 hO3 hgr hsn
 have hr3:Gr u4 u7:=gr_grownO hr2 hgr (fun g_ e_=>by have h1_:=(own_lt hO2 e_).1; have h2_:=unhide hge; omega)
 have hO4:Or_ 108 53 b u7 v3 ((A.w.take p++A.w.drop (p+1)).map unr):=by
  rw [List.map_append,List.map_take,List.map_drop]
  exact or_base hO3 (by rw [unhide hge]; exact Nat.le_trans hb (unhide hXG).size)
 replace hXF:Hid (Fam b u7 (fam { A with w:=A.w.take p++A.w.drop (p+1) } B qA dA v3 qB dB vB)):=hide ((unhide hXF).put 2 rfl hO4 (gr_any hr3 _) (fun q hq=>.inr (by have h1_:=(own_lt hO3 hq).1; have h2_:=unhide hge; omega)))
 replace hA:=hide ((unhide hA).gr hr3)
 replace hD:=hide ((unhide hD).gr hr3)
 replace hXG:=hide ((unhide hXG).gr hr3)
 replace hB:=(unhide hBs).more hr3
 clear hgr hsn hLz hr2 hO2 hlt hBs hO3 hr3
 obtain ⟨va2,vc2,rfl,-⟩:=hO4.lz
 obtain ⟨vn2,hvn2⟩:∃ m,m=((A.w.take p++A.w.drop (p+1)).map unr).length:=⟨_,rfl⟩
 rw [← hvn2] at hXF ⊢
 clear hO4 hvn2
 refine hK.out _ _ (hB.get 0 (x:=⟨g,sg A.c x qA dA (.slice (some ⟨pa,oa,none⟩) wn wc) B.c y qB dB vB,43⟩) rfl) (fun _=>?_)
 clear hK K
 simp only [nrm]
 refine anyC_take (i:=17) (v:=(.pointer (some ⟨g,0,none⟩))) (fun _=>True) (fun _ _=>trivial) (.inl (fun _=>trivial)) rfl (by kernel_rfl) (by kernel_rfl) (by kernel_rfl) (by decide) (by kernel_rfl) (by decide) (fun c_ _ w_ h_=>unhide hQp c_ _ _ _ w_ h_) (.inl ⟨by kernel_rfl,fun x_ hu=>by kernel_rfl⟩) (hB.get 0 (x:=⟨g,sg A.c x qA dA (.slice (some ⟨pa,oa,none⟩) wn wc) B.c y qB dB vB,43⟩) rfl) ?_
 simp only [nrm]
 refine anyC_take (i:=18) (v:=(.pointer (some ⟨g,7,none⟩))) (fun v_=>v_.heap[g]?=some (.cells (sg A.c x qA dA (.slice (some ⟨pa,oa,none⟩) wn wc) B.c y qB dB vB) 43 (0,0))) (fun _ h_=>h_) (.inr (by kernel_rfl)) rfl (by kernel_rfl) (by kernel_rfl) (by kernel_rfl) (by decide) (by kernel_rfl) (by decide) (fun c_ _ w_ h_=>unhide hQp c_ _ _ _ w_ h_) (.inl ⟨by kernel_rfl,fun x_ hu=>by kernel_rfl⟩) (hB.get 0 (x:=⟨g,sg A.c x qA dA (.slice (some ⟨pa,oa,none⟩) wn wc) B.c y qB dB vB,43⟩) rfl) ?_
 simp only [nrm]
 refine anyC_last (by kernel_rfl) rfl (fun K hK=>?_)
 have hzz_:Hid (u7.heap[g]?=some (.cells (sg A.c x qA dA (.slice (some ⟨pa,oa,none⟩) wn wc) B.c y qB dB vB) 43 (0,0))):=hide (hB.get 0 (x:=⟨g,sg A.c x qA dA (.slice (some ⟨pa,oa,none⟩) wn wc) B.c y qB dB vB,43⟩) rfl)
 refine step_csU (.tmp 95) (.tmp 93) (g) 7 va2 vn2 vc2 (by kernel_rfl) rfl (by kernel_rfl) (by kernel_rfl) hB 0 rfl NS2 (nS2  _ _ _ _ _ _ _ _ _ _ _ _ _ _ _ _) 7 _ rfl rfl ?_
 intro u8 hB_ hbt_
 clear hB
 replace hB:Bl (bare w) [⟨g,sg A.c x qA dA (.slice va2 vn2 vc2) B.c y qB dB vB,43⟩,⟨gt,(cst ki ix_ rm true),45⟩,⟨g14,fl [[.int .u32 u_.ack],[.int .u32 u_.seq],bw u_.B,[.bool u_.idle]],53⟩] u8:=hB_
 clear hB_
 replace hA:=hide ((unhide hA).bz (unhide hzz_) hbt_)
 replace hD:=hide ((unhide hD).bz (unhide hzz_) hbt_)
 replace hXF:=hide ((unhide hXF).bz (unhide hzz_) hbt_)
 replace hXG:=hide ((unhide hXG).bg (unhide hzz_) hbt_ hbg)
 clear hbt_ hzz_
 refine hK.out _ _ ?_
 clear hK K
 simp only [nrm]
 refine any_done (by kernel_rfl) ?_
 go_wp2_with fail
 exact unhide hQ _ _ _ _ _ _ _ _ _ _ _ _ _ _ _ _ _ _ _ _ _ _ _ _ _ _ _ _ _ _ _ _ _ _ _ _ _ _ _ _ _ _ _ _ _ _ _ _ _ _ _ _ _ _ _ _ _ _ _ _ _ _ _ _ _ _ _ _ _ _ _ _ _ _ _ _ _ _ _ _ _ _ _ _ _ _ _ _ _ _ _ _ _ _ _ _ _ _ _ _ _ _ _ _ _ _ _ _ _ _ _ _ _ _ _ _ _ _ _ _ _ _ _ _ _ _ _ _ _ _ _ _ _ _ _ _ _ _ _ _ _ _ _ _ { A with w:=A.w.take p++A.w.drop (p+1) } B _ ⟨x,y,qA,dA,(.slice va2 vn2 vc2),qB,dB,vB,hB.get 0 (x:=⟨g,sg A.c x qA dA (.slice va2 vn2 vc2) B.c y qB dB vB,43⟩) rfl,unhide hA,unhide hD,unhide hXF,(fun u_ h_=>(List.mem_append.1 h_).elim (fun h_=>unhide hU u_ (List.mem_of_mem_take h_)) (fun h_=>unhide hU u_ (List.mem_of_mem_drop h_))),unhide hV⟩ (unhide hI2) (unhide hXG).cg ⟨Nat.le_succ_of_le (unhide hN).qa,Nat.le_succ_of_le (unhide hN).qb,(show (A.w.take p++A.w.drop (p+1)).length≤n+1 from by rw [List.length_append,List.length_take,List.length_drop]; have:=unhide hm; omega),Nat.le_succ_of_le (unhide hN).wb⟩
set_option maxHeartbeats 4000000 in
theorem br_lose1 (b g gt n:Nat) (ki ix_ rm kd:Int) (A B:Sd) (w:World) (z0 z1 z2 z4 z8 z9 z10 z11 z12 z13 z14 z15 z16 z17 z18 z19 z20 z21 z22 z23 z24 z25 z26 z27 z28 z29 z30 z31 z32 z33 z34 z35 z36 z37 z38 z39 z40 z41 z42 z43 z44 z45 z46 z47 z49 z50 z51 z52 z53 z54 z55 z56 z57 z58 z59 z60 z61 z62 z63 z64 z65 z66 z67 z68 z69 z70 z71 z72 z73 z74 z75 z76 z77 z78 z79 z80 z81 z82 z83 z84 z85 z86 z87 z88 z89 z90 z91 z92 z93 z94 z95 z96 z97 z98 z99 z100 z101 z102 z103 z104 z105 z106 z107 z108 z109 z110 z111 z112 z113 z114 z115 z116 z117 z118 z119 z120 z121 z122 z123 z124 z125 z126 z127 z128 z129 z130 z131 z132 z133 z134 z135 z136 z137 z138 z139 z140 z141 z142 z143 z144 z145 z146 z147 z148 z149 z150 z151 z152 z153 z154 z155 z156 z157 z158 z159 z160 z161 z162 z163 z164 z165 z166 z167 z168 z169 z170 z171 z172 z173 z174 z175 z176 z177 z178 z179 z180 z181 z182 z183 z184 z185 z186 z187 z188 z189 z190 z191 z192 z193 z194 z195 z196 z197 z198 z199 z200 z201 z202 z203 z204 z205 z206 z207 z208 z209 z210 z211 z212 z213 z214 z215 z216 z217 z218 z219 z220 z221 z222 z223 z224 z225 z226 z227 z228 z229 z230 z231 z232 z233 z234 z235 z236 z237 z238 z239 z240 z241 z242:Value) (Q:Exit→Act→World→Prop) (hb:b≤w.heap.size) (hbg:b≤g) (hS:St b w g A B) (hI:Inv A B) (hN:Bd n A B) (hn:n≤400) (hgt:w.heap[gt]?=some (.cells ((cst ki ix_ rm true)) 45 (0,0))) (hQp:∀ c a (d:Nat) v w,Q (.panic c) (Act.put a (some d) v) w→Q (.panic c) a w) (hd0:kd≠0) (hd1:kd≠1) (h0:0<B.w.length) (hQ:∀ u2 u8 u9 u10 u11 u12 u13 u14 u15 u49 u50 u51 u52 u53 u54 u55 u56 u57 u58 u59 u60 u61 u62 u63 u64 u65 u66 u67 u68 u69 u70 u71 u72 u73 u74 u75 u76 u77 u78 u79 u80 u81 u82 u83 u84 u85 u86 u87 u88 u89 u90 u91 u92 u93 u94 u95 u96 u97 u98 u99 u100 u101 u102 u103 u104 u105 u106 u107 u108 u109 u110 u111 u112 u113 u114 u115 u116 u117 u118 u119 u120 u121 u122 u123 u124 u125 u126 u127 u128 u129 u130 u131 u132 u133 u134 u135 u136 u137 u138 u139 u140 u141 u142 u143 u144 u145 u146 u147 u148 u149 u150 u151 u152 u153 u154 u155 u156 u157 u158 u159 u160 u161 u162 u163 u164 u165 u166 u167 u168 u169 u170 u171 u172 u173 u174 u175 u176 u177 u178 u179 u180 u181 u182 u183:Value,∀ (A' B':Sd) (w':World),St b w' g A' B'→Inv A' B'→Cg g b w w'→Bd (n+1) A' B'→Q .normal ⟨#[z0,z1,u2,.pointer (some ⟨g,0,none⟩),z4,.pointer (some ⟨gt,0,none⟩),.pointer (some ⟨g,8,none⟩),.pointer (some ⟨g,0,none⟩),u8,u9,u10,u11,u12,u13,u14,u15,z16,z17,z18,z19,z20,z21,z22,z23,z24,z25,z26,z27,z28,z29,z30,z31,z32,z33,z34,z35,z36,z37,z38,z39,z40,z41,z42,z43,z44,z45,z46,z47,.int .u64 kd,u49,u50,u51,u52,u53,u54,u55,u56,u57,u58,u59,u60,u61,u62,u63,u64,u65,u66,u67,u68,u69,u70,u71,u72,u73,u74,u75,u76,u77,u78,u79,u80,u81,u82,u83,u84,u85,u86,u87,u88,u89,u90,u91,u92,u93,u94,u95,u96,u97,u98,u99,u100,u101,u102,u103,u104,u105,u106,u107,u108,u109,u110,u111,u112,u113,u114,u115,u116,u117,u118,u119,u120,u121,u122,u123,u124,u125,u126,u127,u128,u129,u130,u131,u132,u133,u134,u135,u136,u137,u138,u139,u140,u141,u142,u143,u144,u145,u146,u147,u148,u149,u150,u151,u152,u153,u154,u155,u156,u157,u158,u159,u160,u161,u162,u163,u164,u165,u166,u167,u168,u169,u170,u171,u172,u173,u174,u175,u176,u177,u178,u179,u180,u181,u182,u183,z184,z185,z186,z187,z188,z189,z190,z191,z192,z193,z194,z195,z196,z197,z198,z199,z200,z201,z202,z203,z204,z205,z206,z207,z208,z209,z210,z211,z212,z213,z214,z215,z216,z217,z218,z219,z220,z221,z222,z223,z224,z225,z226,z227,z228,z229,z230,z231,z232,z233,z234,z235,z236,z237,z238,z239,z240,z241,z242],[]⟩ w'):Code.wp Try.prog oSwitch Q ⟨#[z0,z1,z2,.pointer (some ⟨g,0,none⟩),z4,.pointer (some ⟨gt,0,none⟩),.pointer (some ⟨g,8,none⟩),.pointer (some ⟨g,0,none⟩),z8,z9,z10,z11,z12,z13,z14,z15,z16,z17,z18,z19,z20,z21,z22,z23,z24,z25,z26,z27,z28,z29,z30,z31,z32,z33,z34,z35,z36,z37,z38,z39,z40,z41,z42,z43,z44,z45,z46,z47,.int .u64 kd,z49,z50,z51,z52,z53,z54,z55,z56,z57,z58,z59,z60,z61,z62,z63,z64,z65,z66,z67,z68,z69,z70,z71,z72,z73,z74,z75,z76,z77,z78,z79,z80,z81,z82,z83,z84,z85,z86,z87,z88,z89,z90,z91,z92,z93,z94,z95,z96,z97,z98,z99,z100,z101,z102,z103,z104,z105,z106,z107,z108,z109,z110,z111,z112,z113,z114,z115,z116,z117,z118,z119,z120,z121,z122,z123,z124,z125,z126,z127,z128,z129,z130,z131,z132,z133,z134,z135,z136,z137,z138,z139,z140,z141,z142,z143,z144,z145,z146,z147,z148,z149,z150,z151,z152,z153,z154,z155,z156,z157,z158,z159,z160,z161,z162,z163,z164,z165,z166,z167,z168,z169,z170,z171,z172,z173,z174,z175,z176,z177,z178,z179,z180,z181,z182,z183,z184,z185,z186,z187,z188,z189,z190,z191,z192,z193,z194,z195,z196,z197,z198,z199,z200,z201,z202,z203,z204,z205,z206,z207,z208,z209,z210,z211,z212,z213,z214,z215,z216,z217,z218,z219,z220,z221,z222,z223,z224,z225,z226,z227,z228,z229,z230,z231,z232,z233,z234,z235,z236,z237,z238,z239,z240,z241,z242],[]⟩ w:=by
 have hI2:=((hI.swap).lose (ix ix_ B.w.length)).swap
 replace hI2:=hide hI2
 have hpl:=ix_lt ix_ h0
 have hmx:=hN.wb
 obtain ⟨x,y,qA,dA,vA,qB,dB,vB,hg,hA,hD,hXF,hU,hV⟩:=hS
 obtain ⟨wa,wc,hva,-⟩:=(hXF.own 5 _ rfl).lz
 dsimp only at hva
 subst hva
 obtain ⟨wn,hwn⟩:∃ n,n=(B.w.map unr).length:=⟨_,rfl⟩
 rw [← hwn] at hg hXF
 rw [List.length_map] at hwn
 have hXo:=hXF.old
 have hXG:Cgs g b w w:=⟨Cg.refl g b w,hb⟩
 have hne:g≠gt:=fun e=>by rw [e,hgt] at hg; cases hg
 replace hXF:=hide hXF; replace hA:=hide hA; replace hD:=hide hD; replace hU:=hide hU; replace hV:=hide hV; replace hI:=hide hI; replace hQ:=hide hQ; replace hN:=hide hN; replace hXG:=hide hXG; replace hQp:=hide hQp; replace hwn:=hide hwn
 conv=>arg 2; whnf
 go_upto_region 18 with fail
 have hB1:=(nilb w).add ⟨g,sg A.c x qA dA vA B.c y qB dB (.slice wa wn wc),43⟩ hg (Nat.zero_le _) (by intro y hy; cases hy)
 have hB:=hB1.add ⟨gt,(cst ki ix_ rm true),45⟩ hgt (Nat.zero_le _) (by intro y hy; rw [List.nil_append,List.mem_singleton] at hy; rw [hy]; exact hne)
 simp only [List.nil_append,List.cons_append] at hB
 clear hB1 hg hgt hne
 obtain ⟨u0,hu_⟩:∃ u,u=w:=⟨_,rfl⟩
 have hB2:Bl (bare w) [⟨g,sg A.c x qA dA vA B.c y qB dB (.slice wa wn wc),43⟩,⟨gt,(cst ki ix_ rm true),45⟩] u0:=hu_ ▸ hB
 replace hA:Hid (Co b u0 A.c x):=hu_ ▸ hA; replace hD:Hid (Co b u0 B.c y):=hu_ ▸ hD
 replace hXF:Hid (Fam b u0 (fam A B qA dA vA qB dB (.slice wa wn wc))):=hu_ ▸ hXF
 replace hXG:Hid (Cgs g b w u0):=hu_ ▸ hXG
 clear hB
 have hB:=hB2
 clear hB2
 rw [← hu_]
 clear hu_
 refine wp_region_lit ?_
 refine list_val (.bool false) (by kernel_rfl) (eql_u _ (.tmp 48) (.const (.int .u64 0)) kd 0 false rfl (by kernel_rfl) rfl (decide_eq_false hd0)) ?_
 simp only [nrm]
 (refine wpList_step fun K hK=>?_; replace hK:=hide hK; go_simp; refine unhide hK _ _ ?_; clear hK K)
 refine wpList_nil ?_
 replace hB:=hide hB
 go_upto_region 29 with fail
 replace hB:=unhide hB
 refine wp_region_lit ?_
 refine list_val (.bool false) (by kernel_rfl) (eql_u _ (.tmp 48) (.const (.int .u64 1)) kd 1 false rfl (by kernel_rfl) rfl (decide_eq_false hd1)) ?_
 simp only [nrm]
 (refine wpList_step fun K hK=>?_; replace hK:=hide hK; go_simp; refine unhide hK _ _ ?_; clear hK K)
 refine wpList_nil ?_
 replace hB:=hide hB
 go_upto_region 10 with fail
 replace hB:=unhide hB
 refine wp_region_lit ?_
 refine lvk (.pointer (some ⟨g,8,none⟩)) ?_
 simp only [nrm]
 refine lvk (.pointer (some ⟨g,8,none⟩)) ?_
 simp only [nrm]
 refine lvk (.pointer (some ⟨g,15,none⟩)) ?_
 simp only [nrm]
 refine list_val (.slice wa wn wc) (by kernel_rfl) (exec_csU _ (.tmp 51) rfl (g) 15 (by kernel_rfl) wa wn wc (seg_cell (nS2  _ _ _ _ _ _ _ _ _ _ _ _ _ _ _ _) (hB.get 0 (x:=⟨g,sg A.c x qA dA vA B.c y qB dB (.slice wa wn wc),43⟩) rfl) 15 (v:=.slice wa wn wc) rfl rfl)) ?_
 simp only [nrm]
 refine lvk (.int .i64 wn) ?_
 simp only [nrm]
 (refine wpList_step fun K hK=>?_; replace hK:=hide hK; go_simp; refine unhide hK _ _ ?_; clear hK K)
 refine wpList_nil ?_
 obtain ⟨m,hm⟩:∃ m,m=B.w.length:=⟨_,rfl⟩
 have hwm:wn=m:=by rw [unhide hwn,hm]
 rw [← hm] at hpl h0 hmx hI2
 have hixe:=ix_eq ix_ h0
 obtain ⟨p,hp⟩:∃ p,p=ix ix_ m:=⟨_,rfl⟩
 rw [← hp] at hpl hixe hI2
 replace hm:=hide hm; replace hp:=hide hp
 subst hwm
 obtain ⟨u_,hu⟩:∃ u,B.w[p]?=some u:=⟨_,List.getElem?_eq_getElem (by rw [← unhide hm]; exact hpl)⟩
 have huB:=((unhide hV) _ (List.mem_of_getElem? hu)).1
 obtain ⟨pa,oa,haa,hrr⟩:=un_at ((unhide hXF).own 5 _ rfl) p _ hu
 subst haa
 replace hrr:Rg _ _ _ _:=hrr
 replace hrr:=hide hrr; replace hu:=hide hu; replace hixe:=hide hixe
 have hcp:=(or_slice ((unhide hXF).own 5 _ rfl)).2.cap
 have hcm:=(or_slice ((unhide hXF).own 5 _ rfl)).2.max
 replace hB:=hide hB
 go_upto_region 11 with fail
 replace hB:=unhide hB
 refine wp_region_lit ?_
 refine lvk (.int .i64 wn) ?_
 simp only [nrm]
 refine list_val (.bool true) (by kernel_rfl) (gtr_i _ (.tmp 54) (.const (.int .i64 0)) (wn:Int) 0 true rfl (by kernel_rfl) rfl (by simp; omega)) ?_
 simp only [nrm]
 refine wpList_nil ?_
 replace hB:=hide hB
 go_upto_region 12 with fail
 replace hB:=unhide hB
 refine anyC_start 13 (fun v_=>v_.heap[g]?=some (.cells (sg A.c x qA dA vA B.c y qB dB (.slice (some ⟨pa,oa,none⟩) wn wc)) 43 (0,0))∧v_.heap[gt]?=some (.cells ((cst ki ix_ rm true)) 45 (0,0))∧Rg v_ pa (oa+108 * p) (unr u_)) (by kernel_rfl) ?_
 replace hrr:=hide ((unhide hrr).gr ((Gr.refl u0).drew))
 replace hA:=hide ((unhide hA).gr ((Gr.refl u0).drew))
 replace hD:=hide ((unhide hD).gr ((Gr.refl u0).drew))
 replace hXF:=hide ((unhide hXF).gr ((Gr.refl u0).drew))
 replace hXG:=hide ((unhide hXG).gr ((Gr.refl u0).drew))
 replace hB:=hB.drew
 generalize World.drew _=u1 at *
 simp only [List.size_toArray,List.length_cons,List.length_nil,Array.replicate,List.replicate]
 refine anyC_take (i:=0) (v:=(.pointer (some ⟨g,8,none⟩))) (fun v_=>v_.heap[g]?=some (.cells (sg A.c x qA dA vA B.c y qB dB (.slice (some ⟨pa,oa,none⟩) wn wc)) 43 (0,0))∧v_.heap[gt]?=some (.cells ((cst ki ix_ rm true)) 45 (0,0))∧Rg v_ pa (oa+108 * p) (unr u_)) (fun _ h_=>h_) (.inr (by kernel_rfl)) rfl (by kernel_rfl) (by kernel_rfl) (by kernel_rfl) (by decide) (by kernel_rfl) (by decide) (fun c_ _ w_ h_=>unhide hQp c_ _ _ _ w_ h_) (.inl ⟨by kernel_rfl,fun x_ hu=>by kernel_rfl⟩) ⟨(hB.get 0 (x:=⟨g,sg A.c x qA dA vA B.c y qB dB (.slice (some ⟨pa,oa,none⟩) wn wc),43⟩) rfl),(hB.get 1 (x:=⟨gt,(cst ki ix_ rm true),45⟩) rfl),(unhide hrr)⟩ ?_
 simp only [nrm]
 refine anyC_take (i:=1) (v:=(.pointer (some ⟨g,8,none⟩))) (fun v_=>v_.heap[g]?=some (.cells (sg A.c x qA dA vA B.c y qB dB (.slice (some ⟨pa,oa,none⟩) wn wc)) 43 (0,0))∧v_.heap[gt]?=some (.cells ((cst ki ix_ rm true)) 45 (0,0))∧Rg v_ pa (oa+108 * p) (unr u_)) (fun _ h_=>h_) (.inr (by kernel_rfl)) rfl (by kernel_rfl) (by kernel_rfl) (by kernel_rfl) (by decide) (by kernel_rfl) (by decide) (fun c_ _ w_ h_=>unhide hQp c_ _ _ _ w_ h_) (.inl ⟨by kernel_rfl,fun x_ hu=>by kernel_rfl⟩) ⟨(hB.get 0 (x:=⟨g,sg A.c x qA dA vA B.c y qB dB (.slice (some ⟨pa,oa,none⟩) wn wc),43⟩) rfl),(hB.get 1 (x:=⟨gt,(cst ki ix_ rm true),45⟩) rfl),(unhide hrr)⟩ ?_
 simp only [nrm]
 refine anyC_take (i:=2) (v:=(.pointer (some ⟨g,15,none⟩))) (fun v_=>v_.heap[g]?=some (.cells (sg A.c x qA dA vA B.c y qB dB (.slice (some ⟨pa,oa,none⟩) wn wc)) 43 (0,0))∧v_.heap[gt]?=some (.cells ((cst ki ix_ rm true)) 45 (0,0))∧Rg v_ pa (oa+108 * p) (unr u_)) (fun _ h_=>h_) (.inr (by kernel_rfl)) rfl (by kernel_rfl) (by kernel_rfl) (by kernel_rfl) (by decide) (by kernel_rfl) (by decide) (fun c_ _ w_ h_=>unhide hQp c_ _ _ _ w_ h_) (.inl ⟨by kernel_rfl,fun x_ hu=>by kernel_rfl⟩) ⟨(hB.get 0 (x:=⟨g,sg A.c x qA dA vA B.c y qB dB (.slice (some ⟨pa,oa,none⟩) wn wc),43⟩) rfl),(hB.get 1 (x:=⟨gt,(cst ki ix_ rm true),45⟩) rfl),(unhide hrr)⟩ ?_
 simp only [nrm]
 refine anyC_take (i:=3) (v:=(.slice (some ⟨pa,oa,none⟩) wn wc)) (fun v_=>v_.heap[g]?=some (.cells (sg A.c x qA dA vA B.c y qB dB (.slice (some ⟨pa,oa,none⟩) wn wc)) 43 (0,0))∧v_.heap[gt]?=some (.cells ((cst ki ix_ rm true)) 45 (0,0))∧Rg v_ pa (oa+108 * p) (unr u_)) (fun _ h_=>h_) (.inr (by kernel_rfl)) rfl (by kernel_rfl) (by kernel_rfl) (by kernel_rfl) (by decide) (by kernel_rfl) (by decide) (fun c_ _ w_ h_=>unhide hQp c_ _ _ _ w_ h_) (.inl ⟨by kernel_rfl,fun x_ hu=>exec_csU _ (.tmp 58) rfl (g) 15 (by kernel_rfl) (some ⟨pa,oa,none⟩) wn wc (seg_cell (nS2  _ _ _ _ _ _ _ _ _ _ _ _ _ _ _ _) hu.1 15 (v:=.slice (some ⟨pa,oa,none⟩) wn wc) rfl rfl)⟩) ⟨(hB.get 0 (x:=⟨g,sg A.c x qA dA vA B.c y qB dB (.slice (some ⟨pa,oa,none⟩) wn wc),43⟩) rfl),(hB.get 1 (x:=⟨gt,(cst ki ix_ rm true),45⟩) rfl),(unhide hrr)⟩ ?_
 simp only [nrm]
 refine anyC_take (i:=4) (v:=(.pointer (some ⟨gt,1,none⟩))) (fun v_=>v_.heap[g]?=some (.cells (sg A.c x qA dA vA B.c y qB dB (.slice (some ⟨pa,oa,none⟩) wn wc)) 43 (0,0))∧v_.heap[gt]?=some (.cells ((cst ki ix_ rm true)) 45 (0,0))∧Rg v_ pa (oa+108 * p) (unr u_)) (fun _ h_=>h_) (.inr (by kernel_rfl)) rfl (by kernel_rfl) (by kernel_rfl) (by kernel_rfl) (by decide) (by kernel_rfl) (by decide) (fun c_ _ w_ h_=>unhide hQp c_ _ _ _ w_ h_) (.inl ⟨by kernel_rfl,fun x_ hu=>by kernel_rfl⟩) ⟨(hB.get 0 (x:=⟨g,sg A.c x qA dA vA B.c y qB dB (.slice (some ⟨pa,oa,none⟩) wn wc),43⟩) rfl),(hB.get 1 (x:=⟨gt,(cst ki ix_ rm true),45⟩) rfl),(unhide hrr)⟩ ?_
 simp only [nrm]
 refine anyC_take (i:=5) (v:=(.int .i64 ix_)) (fun v_=>v_.heap[g]?=some (.cells (sg A.c x qA dA vA B.c y qB dB (.slice (some ⟨pa,oa,none⟩) wn wc)) 43 (0,0))∧v_.heap[gt]?=some (.cells ((cst ki ix_ rm true)) 45 (0,0))∧Rg v_ pa (oa+108 * p) (unr u_)) (fun _ h_=>h_) (.inr (by kernel_rfl)) rfl (by kernel_rfl) (by kernel_rfl) (by kernel_rfl) (by decide) (by kernel_rfl) (by decide) (fun c_ _ w_ h_=>unhide hQp c_ _ _ _ w_ h_) (.inl ⟨by kernel_rfl,fun x_ hu=>exec_ci _ (.tmp 60) rfl (gt) 1 (by kernel_rfl) ix_ (seg_cell (nST  _ _ _ _) hu.2.1 1 (v:=.int .i64 ix_) rfl rfl)⟩) ⟨(hB.get 0 (x:=⟨g,sg A.c x qA dA vA B.c y qB dB (.slice (some ⟨pa,oa,none⟩) wn wc),43⟩) rfl),(hB.get 1 (x:=⟨gt,(cst ki ix_ rm true),45⟩) rfl),(unhide hrr)⟩ ?_
 simp only [nrm]
 refine anyC_take (i:=6) (v:=(.int .u64 (ix_ % 18446744073709551616))) (fun v_=>v_.heap[g]?=some (.cells (sg A.c x qA dA vA B.c y qB dB (.slice (some ⟨pa,oa,none⟩) wn wc)) 43 (0,0))∧v_.heap[gt]?=some (.cells ((cst ki ix_ rm true)) 45 (0,0))∧Rg v_ pa (oa+108 * p) (unr u_)) (fun _ h_=>h_) (.inr (by kernel_rfl)) rfl (by kernel_rfl) (by kernel_rfl) (by kernel_rfl) (by decide) (by kernel_rfl) (by decide) (fun c_ _ w_ h_=>unhide hQp c_ _ _ _ w_ h_) (.inl ⟨by kernel_rfl,fun x_ hu=>conv_iuW _ (.tmp 61) ix_ rfl (by kernel_rfl) _ rfl⟩) ⟨(hB.get 0 (x:=⟨g,sg A.c x qA dA vA B.c y qB dB (.slice (some ⟨pa,oa,none⟩) wn wc),43⟩) rfl),(hB.get 1 (x:=⟨gt,(cst ki ix_ rm true),45⟩) rfl),(unhide hrr)⟩ ?_
 simp only [nrm]
 refine anyC_take (i:=7) (v:=(.int .i64 wn)) (fun v_=>v_.heap[g]?=some (.cells (sg A.c x qA dA vA B.c y qB dB (.slice (some ⟨pa,oa,none⟩) wn wc)) 43 (0,0))∧v_.heap[gt]?=some (.cells ((cst ki ix_ rm true)) 45 (0,0))∧Rg v_ pa (oa+108 * p) (unr u_)) (fun _ h_=>h_) (.inr (by kernel_rfl)) rfl (by kernel_rfl) (by kernel_rfl) (by kernel_rfl) (by decide) (by kernel_rfl) (by decide) (fun c_ _ w_ h_=>unhide hQp c_ _ _ _ w_ h_) (.inl ⟨by kernel_rfl,fun x_ hu=>by kernel_rfl⟩) ⟨(hB.get 0 (x:=⟨g,sg A.c x qA dA vA B.c y qB dB (.slice (some ⟨pa,oa,none⟩) wn wc),43⟩) rfl),(hB.get 1 (x:=⟨gt,(cst ki ix_ rm true),45⟩) rfl),(unhide hrr)⟩ ?_
 simp only [nrm]
 refine anyC_take (i:=8) (v:=(.int .u64 (wn:Int))) (fun v_=>v_.heap[g]?=some (.cells (sg A.c x qA dA vA B.c y qB dB (.slice (some ⟨pa,oa,none⟩) wn wc)) 43 (0,0))∧v_.heap[gt]?=some (.cells ((cst ki ix_ rm true)) 45 (0,0))∧Rg v_ pa (oa+108 * p) (unr u_)) (fun _ h_=>h_) (.inr (by kernel_rfl)) rfl (by kernel_rfl) (by kernel_rfl) (by kernel_rfl) (by decide) (by kernel_rfl) (by decide) (fun c_ _ w_ h_=>unhide hQp c_ _ _ _ w_ h_) (.inl ⟨by kernel_rfl,fun x_ hu=>conv_iuW _ (.tmp 63) (wn:Int) rfl (by kernel_rfl) _ (by omega)⟩) ⟨(hB.get 0 (x:=⟨g,sg A.c x qA dA vA B.c y qB dB (.slice (some ⟨pa,oa,none⟩) wn wc),43⟩) rfl),(hB.get 1 (x:=⟨gt,(cst ki ix_ rm true),45⟩) rfl),(unhide hrr)⟩ ?_
 simp only [nrm]
 refine anyC_take (i:=9) (v:=(.int .u64 (p:Int))) (fun v_=>v_.heap[g]?=some (.cells (sg A.c x qA dA vA B.c y qB dB (.slice (some ⟨pa,oa,none⟩) wn wc)) 43 (0,0))∧v_.heap[gt]?=some (.cells ((cst ki ix_ rm true)) 45 (0,0))∧Rg v_ pa (oa+108 * p) (unr u_)) (fun _ h_=>h_) (.inr (by kernel_rfl)) rfl (by kernel_rfl) (by kernel_rfl) (by kernel_rfl) (by decide) (by kernel_rfl) (by decide) (fun c_ _ w_ h_=>unhide hQp c_ _ _ _ w_ h_) (.inl ⟨by kernel_rfl,fun x_ hu=>rem_u _ (.tmp 62) (.tmp 64) (ix_ % 18446744073709551616) (wn:Int) rfl (by kernel_rfl) (by kernel_rfl) (Int.emod_nonneg _ (by decide)) (by omega) (by omega) _ (unhide hixe)⟩) ⟨(hB.get 0 (x:=⟨g,sg A.c x qA dA vA B.c y qB dB (.slice (some ⟨pa,oa,none⟩) wn wc),43⟩) rfl),(hB.get 1 (x:=⟨gt,(cst ki ix_ rm true),45⟩) rfl),(unhide hrr)⟩ ?_
 simp only [nrm]
 refine anyC_take (i:=10) (v:=(.pointer (some ⟨pa,oa+108 * p,none⟩))) (fun v_=>v_.heap[g]?=some (.cells (sg A.c x qA dA vA B.c y qB dB (.slice (some ⟨pa,oa,none⟩) wn wc)) 43 (0,0))∧v_.heap[gt]?=some (.cells ((cst ki ix_ rm true)) 45 (0,0))∧Rg v_ pa (oa+108 * p) (unr u_)) (fun _ h_=>h_) (.inr (by kernel_rfl)) rfl (by kernel_rfl) (by kernel_rfl) (by kernel_rfl) (by decide) (by kernel_rfl) (by decide) (fun c_ _ w_ h_=>unhide hQp c_ _ _ _ w_ h_) (.inl ⟨by kernel_rfl,fun x_ hu=>exec_isU _ (.tmp 59) (.tmp 65) rfl pa oa wn wc p (by kernel_rfl) (by kernel_rfl) hpl⟩) ⟨(hB.get 0 (x:=⟨g,sg A.c x qA dA vA B.c y qB dB (.slice (some ⟨pa,oa,none⟩) wn wc),43⟩) rfl),(hB.get 1 (x:=⟨gt,(cst ki ix_ rm true),45⟩) rfl),(unhide hrr)⟩ ?_
 simp only [nrm]
 refine anyC_take (i:=11) (v:=(.agg (fl [[.int .u32 u_.ack],[.int .u32 u_.seq],bw u_.B,[.bool u_.idle]]))) (fun v_=>v_.heap[g]?=some (.cells (sg A.c x qA dA vA B.c y qB dB (.slice (some ⟨pa,oa,none⟩) wn wc)) 43 (0,0))∧v_.heap[gt]?=some (.cells ((cst ki ix_ rm true)) 45 (0,0))∧Rg v_ pa (oa+108 * p) (unr u_)) (fun _ h_=>h_) (.inr (by kernel_rfl)) rfl (by kernel_rfl) (by kernel_rfl) (by kernel_rfl) (by decide) (by kernel_rfl) (by decide) (fun c_ _ w_ h_=>unhide hQp c_ _ _ _ w_ h_) (.inl ⟨by kernel_rfl,fun x_ hu=>exec_lU _ (.tmp 66) rfl pa (oa+108 * p) (by kernel_rfl) u_ huB hu.2.2⟩) ⟨(hB.get 0 (x:=⟨g,sg A.c x qA dA vA B.c y qB dB (.slice (some ⟨pa,oa,none⟩) wn wc),43⟩) rfl),(hB.get 1 (x:=⟨gt,(cst ki ix_ rm true),45⟩) rfl),(unhide hrr)⟩ ?_
 simp only [nrm]
 refine anyC_one (i:=12) (by kernel_rfl) rfl (fun K hK=>?_)
 refine step_val (.pointer (some ⟨u1.heap.size,0,none⟩)) (u1.alloc (.cells (cu0) 53 (0,0))) (by kernel_rfl) (by kernel_rfl) ?_
 replace hB:=hB.new (cu0) 53
 simp only [List.nil_append,List.cons_append] at hB
 have hg:=(Gr.refl u1).alloc (.cells (cu0) 53 (0,0))
 have hgl14:=(unhide hXG).size
 replace hrr:=hide ((unhide hrr).gr hg)
 replace hA:=hide ((unhide hA).gr hg)
 replace hD:=hide ((unhide hD).gr hg)
 replace hXF:=hide ((unhide hXF).gr hg)
 replace hXG:=hide ((unhide hXG).gr hg)
 clear hg
 generalize World.alloc _ _=u2 at *
 generalize u1.heap.size=g14 at *
 refine hK.out _ _ ⟨(hB.get 0 (x:=⟨g,sg A.c x qA dA vA B.c y qB dB (.slice (some ⟨pa,oa,none⟩) wn wc),43⟩) rfl),(hB.get 1 (x:=⟨gt,(cst ki ix_ rm true),45⟩) rfl),(unhide hrr)⟩ (fun _=>?_)
 clear hK K
 simp only [nrm]
 refine anyC_last (by kernel_rfl) rfl (fun K hK=>?_)
 have hzz_:Hid (u2.heap[g14]?=some (.cells (cu0) 53 (0,0))):=hide (hB.get 2 (x:=⟨g14,cu0,53⟩) rfl)
 refine step_all 53 (.tmp 14) (.tmp 67) (g14) (S2:=[[.int .u32 u_.ack],[.int .u32 u_.seq],bw u_.B,[.bool u_.idle]]) (by kernel_rfl) rfl (by kernel_rfl) (by kernel_rfl) hB 2 rfl ND (nD Z105_len _ _ _) (nD huB _ _ _) (by kernel_rfl) (oD _ rfl rfl rfl) ?_
 intro u3 hB_ hbt_
 clear hB
 replace hB:Bl (bare w) [⟨g,sg A.c x qA dA vA B.c y qB dB (.slice (some ⟨pa,oa,none⟩) wn wc),43⟩,⟨gt,(cst ki ix_ rm true),45⟩,⟨g14,fl [[.int .u32 u_.ack],[.int .u32 u_.seq],bw u_.B,[.bool u_.idle]],53⟩] u3:=hB_
 clear hB_
 replace hA:=hide ((unhide hA).bz (unhide hzz_) hbt_)
 replace hD:=hide ((unhide hD).bz (unhide hzz_) hbt_)
 replace hXF:=hide ((unhide hXF).bo (unhide hzz_) hbt_ hXo hgl14)
 replace hXG:=hide ((unhide hXG).bl (unhide hzz_) hbt_ hgl14)
 clear hbt_ hzz_
 refine hK.out _ _ ?_
 clear hK K
 simp only [nrm]
 refine any_done (by kernel_rfl) ?_
 replace hB:=hide hB
 go_upto_region 13 with fail
 replace hB:=unhide hB
 refine wp_region_lit ?_
 refine lvk (.pointer (some ⟨gt,3,none⟩)) ?_
 simp only [nrm]
 refine list_val (.bool true) (by kernel_rfl) (exec_cb _ (.tmp 68) rfl (gt) 3 (by kernel_rfl) true (seg_cell (nST  _ _ _ _) (hB.get 1 (x:=⟨gt,(cst ki ix_ rm true),45⟩) rfl) 3 (v:=.bool true) rfl rfl)) ?_
 simp only [nrm]
 refine wpList_nil ?_
 replace hB:=hide hB
 go_upto_region 14 with fail
 replace hB:=unhide hB
 refine wp_region_lit ?_
 refine lvk (.pointer (some ⟨gt,1,none⟩)) ?_
 simp only [nrm]
 refine list_val (.int .i64 ix_) (by kernel_rfl) (exec_ci _ (.tmp 70) rfl (gt) 1 (by kernel_rfl) ix_ (seg_cell (nST  _ _ _ _) (hB.get 1 (x:=⟨gt,(cst ki ix_ rm true),45⟩) rfl) 1 (v:=.int .i64 ix_) rfl rfl)) ?_
 simp only [nrm]
 refine list_val (.int .u64 (ix_ % 18446744073709551616)) (by kernel_rfl) (conv_iuW _ (.tmp 71) ix_ rfl (by kernel_rfl) _ rfl) ?_
 simp only [nrm]
 refine lvk (.int .i64 wn) ?_
 simp only [nrm]
 refine list_val (.int .u64 (wn:Int)) (by kernel_rfl) (conv_iuW _ (.tmp 73) (wn:Int) rfl (by kernel_rfl) _ (by omega)) ?_
 simp only [nrm]
 refine list_val (.int .u64 (p:Int)) (by kernel_rfl) (rem_u _ (.tmp 72) (.tmp 74) (ix_ % 18446744073709551616) (wn:Int) rfl (by kernel_rfl) (by kernel_rfl) (Int.emod_nonneg _ (by decide)) (by omega) (by omega) _ (unhide hixe)) ?_
 simp only [nrm]
 refine list_val (.int .i64 (p:Int)) (by kernel_rfl) (conv_ui _ (.tmp 75) (p:Int) rfl (by kernel_rfl) (by omega)) ?_
 simp only [nrm]
 (refine wpList_step fun K hK=>?_; replace hK:=hide hK; go_simp; refine unhide hK _ _ ?_; clear hK K)
 refine wpList_nil ?_
 replace hB:=hide hB
 go_upto_region 15 with fail
 replace hB:=unhide hB
 refine anyC_start 19 (fun v_=>v_.heap[g]?=some (.cells (sg A.c x qA dA vA B.c y qB dB (.slice (some ⟨pa,oa,none⟩) wn wc)) 43 (0,0))) (by kernel_rfl) ?_
 replace hA:=hide ((unhide hA).gr ((Gr.refl u3).drew))
 replace hD:=hide ((unhide hD).gr ((Gr.refl u3).drew))
 replace hXF:=hide ((unhide hXF).gr ((Gr.refl u3).drew))
 replace hXG:=hide ((unhide hXG).gr ((Gr.refl u3).drew))
 replace hB:=hB.drew
 generalize World.drew _=u4 at *
 simp only [List.size_toArray,List.length_cons,List.length_nil,Array.replicate,List.replicate]
 refine anyC_take (i:=0) (v:=(.pointer (some ⟨g,8,none⟩))) (fun v_=>v_.heap[g]?=some (.cells (sg A.c x qA dA vA B.c y qB dB (.slice (some ⟨pa,oa,none⟩) wn wc)) 43 (0,0))) (fun _ h_=>h_) (.inr (by kernel_rfl)) rfl (by kernel_rfl) (by kernel_rfl) (by kernel_rfl) (by decide) (by kernel_rfl) (by decide) (fun c_ _ w_ h_=>unhide hQp c_ _ _ _ w_ h_) (.inl ⟨by kernel_rfl,fun x_ hu=>by kernel_rfl⟩) (hB.get 0 (x:=⟨g,sg A.c x qA dA vA B.c y qB dB (.slice (some ⟨pa,oa,none⟩) wn wc),43⟩) rfl) ?_
 simp only [nrm]
 refine anyC_take (i:=2) (v:=(.pointer (some ⟨g,8,none⟩))) (fun v_=>v_.heap[g]?=some (.cells (sg A.c x qA dA vA B.c y qB dB (.slice (some ⟨pa,oa,none⟩) wn wc)) 43 (0,0))) (fun _ h_=>h_) (.inr (by kernel_rfl)) rfl (by kernel_rfl) (by kernel_rfl) (by kernel_rfl) (by decide) (by kernel_rfl) (by decide) (fun c_ _ w_ h_=>unhide hQp c_ _ _ _ w_ h_) (.inl ⟨by kernel_rfl,fun x_ hu=>by kernel_rfl⟩) (hB.get 0 (x:=⟨g,sg A.c x qA dA vA B.c y qB dB (.slice (some ⟨pa,oa,none⟩) wn wc),43⟩) rfl) ?_
 simp only [nrm]
 refine anyC_take (i:=3) (v:=(.pointer (some ⟨g,8,none⟩))) (fun v_=>v_.heap[g]?=some (.cells (sg A.c x qA dA vA B.c y qB dB (.slice (some ⟨pa,oa,none⟩) wn wc)) 43 (0,0))) (fun _ h_=>h_) (.inr (by kernel_rfl)) rfl (by kernel_rfl) (by kernel_rfl) (by kernel_rfl) (by decide) (by kernel_rfl) (by decide) (fun c_ _ w_ h_=>unhide hQp c_ _ _ _ w_ h_) (.inl ⟨by kernel_rfl,fun x_ hu=>by kernel_rfl⟩) (hB.get 0 (x:=⟨g,sg A.c x qA dA vA B.c y qB dB (.slice (some ⟨pa,oa,none⟩) wn wc),43⟩) rfl) ?_
 simp only [nrm]
 refine anyC_take (i:=4) (v:=(.pointer (some ⟨g,15,none⟩))) (fun v_=>v_.heap[g]?=some (.cells (sg A.c x qA dA vA B.c y qB dB (.slice (some ⟨pa,oa,none⟩) wn wc)) 43 (0,0))) (fun _ h_=>h_) (.inr (by kernel_rfl)) rfl (by kernel_rfl) (by kernel_rfl) (by kernel_rfl) (by decide) (by kernel_rfl) (by decide) (fun c_ _ w_ h_=>unhide hQp c_ _ _ _ w_ h_) (.inl ⟨by kernel_rfl,fun x_ hu=>by kernel_rfl⟩) (hB.get 0 (x:=⟨g,sg A.c x qA dA vA B.c y qB dB (.slice (some ⟨pa,oa,none⟩) wn wc),43⟩) rfl) ?_
 simp only [nrm]
 refine anyC_take (i:=5) (v:=(.slice (some ⟨pa,oa,none⟩) wn wc)) (fun v_=>v_.heap[g]?=some (.cells (sg A.c x qA dA vA B.c y qB dB (.slice (some ⟨pa,oa,none⟩) wn wc)) 43 (0,0))) (fun _ h_=>h_) (.inr (by kernel_rfl)) rfl (by kernel_rfl) (by kernel_rfl) (by kernel_rfl) (by decide) (by kernel_rfl) (by decide) (fun c_ _ w_ h_=>unhide hQp c_ _ _ _ w_ h_) (.inl ⟨by kernel_rfl,fun x_ hu=>exec_csU _ (.tmp 81) rfl (g) 15 (by kernel_rfl) (some ⟨pa,oa,none⟩) wn wc (seg_cell (nS2  _ _ _ _ _ _ _ _ _ _ _ _ _ _ _ _) hu 15 (v:=.slice (some ⟨pa,oa,none⟩) wn wc) rfl rfl)⟩) (hB.get 0 (x:=⟨g,sg A.c x qA dA vA B.c y qB dB (.slice (some ⟨pa,oa,none⟩) wn wc),43⟩) rfl) ?_
 simp only [nrm]
 refine anyC_take (i:=6) (v:=(.int .i64 (p:Int))) (fun v_=>v_.heap[g]?=some (.cells (sg A.c x qA dA vA B.c y qB dB (.slice (some ⟨pa,oa,none⟩) wn wc)) 43 (0,0))) (fun _ h_=>h_) (.inr (by kernel_rfl)) rfl (by kernel_rfl) (by kernel_rfl) (by kernel_rfl) (by decide) (by kernel_rfl) (by decide) (fun c_ _ w_ h_=>unhide hQp c_ _ _ _ w_ h_) (.inl ⟨by kernel_rfl,fun x_ hu=>by kernel_rfl⟩) (hB.get 0 (x:=⟨g,sg A.c x qA dA vA B.c y qB dB (.slice (some ⟨pa,oa,none⟩) wn wc),43⟩) rfl) ?_
 simp only [nrm]
 refine anyC_take (i:=7) (v:=(.slice (some ⟨pa,oa,none⟩) p wc)) (fun v_=>v_.heap[g]?=some (.cells (sg A.c x qA dA vA B.c y qB dB (.slice (some ⟨pa,oa,none⟩) wn wc)) 43 (0,0))) (fun _ h_=>h_) (.inr (by kernel_rfl)) rfl (by kernel_rfl) (by kernel_rfl) (by kernel_rfl) (by decide) (by kernel_rfl) (by decide) (fun c_ _ w_ h_=>unhide hQp c_ _ _ _ w_ h_) (.inl ⟨by kernel_rfl,fun x_ hu=>exec_upU _ (.tmp 82) (.tmp 83) rfl (some ⟨pa,oa,none⟩) wn wc p (by kernel_rfl) (by kernel_rfl) (by omega)⟩) (hB.get 0 (x:=⟨g,sg A.c x qA dA vA B.c y qB dB (.slice (some ⟨pa,oa,none⟩) wn wc),43⟩) rfl) ?_
 simp only [nrm]
 refine anyC_take (i:=9) (v:=(.pointer (some ⟨g,8,none⟩))) (fun v_=>v_.heap[g]?=some (.cells (sg A.c x qA dA vA B.c y qB dB (.slice (some ⟨pa,oa,none⟩) wn wc)) 43 (0,0))) (fun _ h_=>h_) (.inr (by kernel_rfl)) rfl (by kernel_rfl) (by kernel_rfl) (by kernel_rfl) (by decide) (by kernel_rfl) (by decide) (fun c_ _ w_ h_=>unhide hQp c_ _ _ _ w_ h_) (.inl ⟨by kernel_rfl,fun x_ hu=>by kernel_rfl⟩) (hB.get 0 (x:=⟨g,sg A.c x qA dA vA B.c y qB dB (.slice (some ⟨pa,oa,none⟩) wn wc),43⟩) rfl) ?_
 simp only [nrm]
 refine anyC_take (i:=10) (v:=(.pointer (some ⟨g,8,none⟩))) (fun v_=>v_.heap[g]?=some (.cells (sg A.c x qA dA vA B.c y qB dB (.slice (some ⟨pa,oa,none⟩) wn wc)) 43 (0,0))) (fun _ h_=>h_) (.inr (by kernel_rfl)) rfl (by kernel_rfl) (by kernel_rfl) (by kernel_rfl) (by decide) (by kernel_rfl) (by decide) (fun c_ _ w_ h_=>unhide hQp c_ _ _ _ w_ h_) (.inl ⟨by kernel_rfl,fun x_ hu=>by kernel_rfl⟩) (hB.get 0 (x:=⟨g,sg A.c x qA dA vA B.c y qB dB (.slice (some ⟨pa,oa,none⟩) wn wc),43⟩) rfl) ?_
 simp only [nrm]
 refine anyC_take (i:=11) (v:=(.pointer (some ⟨g,15,none⟩))) (fun v_=>v_.heap[g]?=some (.cells (sg A.c x qA dA vA B.c y qB dB (.slice (some ⟨pa,oa,none⟩) wn wc)) 43 (0,0))) (fun _ h_=>h_) (.inr (by kernel_rfl)) rfl (by kernel_rfl) (by kernel_rfl) (by kernel_rfl) (by decide) (by kernel_rfl) (by decide) (fun c_ _ w_ h_=>unhide hQp c_ _ _ _ w_ h_) (.inl ⟨by kernel_rfl,fun x_ hu=>by kernel_rfl⟩) (hB.get 0 (x:=⟨g,sg A.c x qA dA vA B.c y qB dB (.slice (some ⟨pa,oa,none⟩) wn wc),43⟩) rfl) ?_
 simp only [nrm]
 refine anyC_take (i:=12) (v:=(.slice (some ⟨pa,oa,none⟩) wn wc)) (fun v_=>v_.heap[g]?=some (.cells (sg A.c x qA dA vA B.c y qB dB (.slice (some ⟨pa,oa,none⟩) wn wc)) 43 (0,0))) (fun _ h_=>h_) (.inr (by kernel_rfl)) rfl (by kernel_rfl) (by kernel_rfl) (by kernel_rfl) (by decide) (by kernel_rfl) (by decide) (fun c_ _ w_ h_=>unhide hQp c_ _ _ _ w_ h_) (.inl ⟨by kernel_rfl,fun x_ hu=>exec_csU _ (.tmp 88) rfl (g) 15 (by kernel_rfl) (some ⟨pa,oa,none⟩) wn wc (seg_cell (nS2  _ _ _ _ _ _ _ _ _ _ _ _ _ _ _ _) hu 15 (v:=.slice (some ⟨pa,oa,none⟩) wn wc) rfl rfl)⟩) (hB.get 0 (x:=⟨g,sg A.c x qA dA vA B.c y qB dB (.slice (some ⟨pa,oa,none⟩) wn wc),43⟩) rfl) ?_
 simp only [nrm]
 refine anyC_take (i:=13) (v:=(.int .i64 (p:Int))) (fun v_=>v_.heap[g]?=some (.cells (sg A.c x qA dA vA B.c y qB dB (.slice (some ⟨pa,oa,none⟩) wn wc)) 43 (0,0))) (fun _ h_=>h_) (.inr (by kernel_rfl)) rfl (by kernel_rfl) (by kernel_rfl) (by kernel_rfl) (by decide) (by kernel_rfl) (by decide) (fun c_ _ w_ h_=>unhide hQp c_ _ _ _ w_ h_) (.inl ⟨by kernel_rfl,fun x_ hu=>by kernel_rfl⟩) (hB.get 0 (x:=⟨g,sg A.c x qA dA vA B.c y qB dB (.slice (some ⟨pa,oa,none⟩) wn wc),43⟩) rfl) ?_
 simp only [nrm]
 refine anyC_take (i:=14) (v:=(.int .i64 ((p+1:Nat):Int))) (fun v_=>v_.heap[g]?=some (.cells (sg A.c x qA dA vA B.c y qB dB (.slice (some ⟨pa,oa,none⟩) wn wc)) 43 (0,0))) (fun _ h_=>h_) (.inr (by kernel_rfl)) rfl (by kernel_rfl) (by kernel_rfl) (by kernel_rfl) (by decide) (by kernel_rfl) (by decide) (fun c_ _ w_ h_=>unhide hQp c_ _ _ _ w_ h_) (.inl ⟨by kernel_rfl,fun x_ hu=>add_i _ (.tmp 90) (.const (.int .i64 1)) (p:Int) 1 rfl (by kernel_rfl) rfl _ (by omega) (by omega)⟩) (hB.get 0 (x:=⟨g,sg A.c x qA dA vA B.c y qB dB (.slice (some ⟨pa,oa,none⟩) wn wc),43⟩) rfl) ?_
 simp only [nrm]
 refine anyC_take (i:=15) (v:=(.slice (frA 108 (some ⟨pa,oa,none⟩) wc (p+1)) (wn - (p+1)) (wc - (p+1)))) (fun v_=>v_.heap[g]?=some (.cells (sg A.c x qA dA vA B.c y qB dB (.slice (some ⟨pa,oa,none⟩) wn wc)) 43 (0,0))) (fun _ h_=>h_) (.inr (by kernel_rfl)) rfl (by kernel_rfl) (by kernel_rfl) (by kernel_rfl) (by decide) (by kernel_rfl) (by decide) (fun c_ _ w_ h_=>unhide hQp c_ _ _ _ w_ h_) (.inl ⟨by kernel_rfl,fun x_ hu=>exec_frU _ (.tmp 89) (.tmp 91) rfl (some ⟨pa,oa,none⟩) wn wc (p+1) (by kernel_rfl) (by kernel_rfl) hcp (by omega)⟩) (hB.get 0 (x:=⟨g,sg A.c x qA dA vA B.c y qB dB (.slice (some ⟨pa,oa,none⟩) wn wc),43⟩) rfl) ?_
 simp only [nrm]
 refine anyC_one (i:=1) (by kernel_rfl) rfl (fun K hK=>?_)
 have hBs:=hide hB
 refine step_val (.slice (some ⟨u4.heap.size,0,none⟩) 0 0) (u4.alloc (.cells #[] 53 (0,0))) (by kernel_rfl) (exec_b0U _ rfl) ?_
 have hr1:=(Gr.refl u4).alloc (.cells #[] 53 (0,0))
 have hO1:=or_mt (k:=108) (b:=u4.heap.size) (blk_new u4 (.cells #[] 53 (0,0))) (Nat.le_refl _)
 replace hB:=hB.more hr1
 generalize World.alloc _ _=u5 at *
 obtain ⟨ge,hge⟩:∃ g,g=u4.heap.size:=⟨_,rfl⟩
 rw [← hge] at hO1 ⊢
 replace hge:=hide hge
 refine hK.out _ _ (hB.get 0 (x:=⟨g,sg A.c x qA dA vA B.c y qB dB (.slice (some ⟨pa,oa,none⟩) wn wc),43⟩) rfl) (fun _=>?_)
 clear hK K
 simp only [nrm]
 refine anyC_one (i:=8) (by kernel_rfl) rfl (fun K hK=>?_)
 rw [if_pos (by kernel_rfl)]
 have hLz:=(or_slice (((unhide hXF).own 5 _ rfl).gr hr1)).2.take p (by omega)
 dsimp only at hLz
 refine app_rowsB ltU (.tmp 78) (.tmp 84) rfl ge (by rw [unhide hge]; exact hr1.size) (.slice (some ⟨ge,0,none⟩) 0 0) [] (by kernel_rfl) hO1 (some ⟨pa,oa,none⟩) p wc ((B.w.map unr).take p) (by kernel_rfl) hLz (fun r hr=>unr_ones _ r (List.mem_of_mem_take hr)) (by simp only [List.length_nil]; omega) ?_
 intro v2 u6 hO2 hgr hsn
 rw [List.nil_append] at hO2
 have hr2:Gr u4 u6:=gr_grownO hr1 hgr (fun g_ e_=>by have h1_:ge=g_:=Option.some.inj e_; have h2_:=unhide hge; omega)
 replace hB:=(unhide hBs).more hr2
 clear hr1 hgr hsn hLz hO1
 refine hK.out _ _ (hB.get 0 (x:=⟨g,sg A.c x qA dA vA B.c y qB dB (.slice (some ⟨pa,oa,none⟩) wn wc),43⟩) rfl) (fun _=>?_)
 clear hK K
 simp only [nrm]
 refine anyC_one (i:=16) (by kernel_rfl) rfl (fun K hK=>?_)
 rw [if_pos (by kernel_rfl)]
 have hLz:=(or_slice (((unhide hXF).own 5 _ rfl).gr hr2)).2.from_ (p+1) (by omega)
 dsimp only at hLz
 have hlt:((B.w.map unr).take p).length≤400:=by rw [List.length_take]; omega
 refine app_rowsB ltU (.tmp 85) (.tmp 92) rfl ge (by rw [unhide hge]; exact hr2.size) v2 ((B.w.map unr).take p) (by kernel_rfl) hO2 (frA 108 (some ⟨pa,oa,none⟩) wc (p+1)) (wn - (p+1)) (wc - (p+1)) ((B.w.map unr).drop (p+1)) (by kernel_rfl) hLz (fun r hr=>unr_ones _ r (List.mem_of_mem_drop hr)) (by omega) ?_
 intro v3 u7 hO3 hgr hsn
 have hr3:Gr u4 u7:=gr_grownO hr2 hgr (fun g_ e_=>by have h1_:=(own_lt hO2 e_).1; have h2_:=unhide hge; omega)
 have hO4:Or_ 108 53 b u7 v3 ((B.w.take p++B.w.drop (p+1)).map unr):=by
  rw [List.map_append,List.map_take,List.map_drop]
  exact or_base hO3 (by rw [unhide hge]; exact Nat.le_trans hb (unhide hXG).size)
 replace hXF:Hid (Fam b u7 (fam A { B with w:=B.w.take p++B.w.drop (p+1) } qA dA vA qB dB v3)):=hide ((unhide hXF).put 5 rfl hO4 (gr_any hr3 _) (fun q hq=>.inr (by have h1_:=(own_lt hO3 hq).1; have h2_:=unhide hge; omega)))
 replace hA:=hide ((unhide hA).gr hr3)
 replace hD:=hide ((unhide hD).gr hr3)
 replace hXG:=hide ((unhide hXG).gr hr3)
 replace hB:=(unhide hBs).more hr3
 clear hgr hsn hLz hr2 hO2 hlt hBs hO3 hr3
 obtain ⟨va2,vc2,rfl,-⟩:=hO4.lz
 obtain ⟨vn2,hvn2⟩:∃ m,m=((B.w.take p++B.w.drop (p+1)).map unr).length:=⟨_,rfl⟩
 rw [← hvn2] at hXF ⊢
 clear hO4 hvn2
 refine hK.out _ _ (hB.get 0 (x:=⟨g,sg A.c x qA dA vA B.c y qB dB (.slice (some ⟨pa,oa,none⟩) wn wc),43⟩) rfl) (fun _=>?_)
 clear hK K
 simp only [nrm]
 refine anyC_take (i:=17) (v:=(.pointer (some ⟨g,8,none⟩))) (fun _=>True) (fun _ _=>trivial) (.inl (fun _=>trivial)) rfl (by kernel_rfl) (by kernel_rfl) (by kernel_rfl) (by decide) (by kernel_rfl) (by decide) (fun c_ _ w_ h_=>unhide hQp c_ _ _ _ w_ h_) (.inl ⟨by kernel_rfl,fun x_ hu=>by kernel_rfl⟩) (hB.get 0 (x:=⟨g,sg A.c x qA dA vA B.c y qB dB (.slice (some ⟨pa,oa,none⟩) wn wc),43⟩) rfl) ?_
 simp only [nrm]
 refine anyC_take (i:=18) (v:=(.pointer (some ⟨g,15,none⟩))) (fun v_=>v_.heap[g]?=some (.cells (sg A.c x qA dA vA B.c y qB dB (.slice (some ⟨pa,oa,none⟩) wn wc)) 43 (0,0))) (fun _ h_=>h_) (.inr (by kernel_rfl)) rfl (by kernel_rfl) (by kernel_rfl) (by kernel_rfl) (by decide) (by kernel_rfl) (by decide) (fun c_ _ w_ h_=>unhide hQp c_ _ _ _ w_ h_) (.inl ⟨by kernel_rfl,fun x_ hu=>by kernel_rfl⟩) (hB.get 0 (x:=⟨g,sg A.c x qA dA vA B.c y qB dB (.slice (some ⟨pa,oa,none⟩) wn wc),43⟩) rfl) ?_
 simp only [nrm]
 refine anyC_last (by kernel_rfl) rfl (fun K hK=>?_)
 have hzz_:Hid (u7.heap[g]?=some (.cells (sg A.c x qA dA vA B.c y qB dB (.slice (some ⟨pa,oa,none⟩) wn wc)) 43 (0,0))):=hide (hB.get 0 (x:=⟨g,sg A.c x qA dA vA B.c y qB dB (.slice (some ⟨pa,oa,none⟩) wn wc),43⟩) rfl)
 refine step_csU (.tmp 95) (.tmp 93) (g) 15 va2 vn2 vc2 (by kernel_rfl) rfl (by kernel_rfl) (by kernel_rfl) hB 0 rfl NS2 (nS2  _ _ _ _ _ _ _ _ _ _ _ _ _ _ _ _) 15 _ rfl rfl ?_
 intro u8 hB_ hbt_
 clear hB
 replace hB:Bl (bare w) [⟨g,sg A.c x qA dA vA B.c y qB dB (.slice va2 vn2 vc2),43⟩,⟨gt,(cst ki ix_ rm true),45⟩,⟨g14,fl [[.int .u32 u_.ack],[.int .u32 u_.seq],bw u_.B,[.bool u_.idle]],53⟩] u8:=hB_
 clear hB_
 replace hA:=hide ((unhide hA).bz (unhide hzz_) hbt_)
 replace hD:=hide ((unhide hD).bz (unhide hzz_) hbt_)
 replace hXF:=hide ((unhide hXF).bz (unhide hzz_) hbt_)
 replace hXG:=hide ((unhide hXG).bg (unhide hzz_) hbt_ hbg)
 clear hbt_ hzz_
 refine hK.out _ _ ?_
 clear hK K
 simp only [nrm]
 refine any_done (by kernel_rfl) ?_
 go_wp2_with fail
 exact unhide hQ _ _ _ _ _ _ _ _ _ _ _ _ _ _ _ _ _ _ _ _ _ _ _ _ _ _ _ _ _ _ _ _ _ _ _ _ _ _ _ _ _ _ _ _ _ _ _ _ _ _ _ _ _ _ _ _ _ _ _ _ _ _ _ _ _ _ _ _ _ _ _ _ _ _ _ _ _ _ _ _ _ _ _ _ _ _ _ _ _ _ _ _ _ _ _ _ _ _ _ _ _ _ _ _ _ _ _ _ _ _ _ _ _ _ _ _ _ _ _ _ _ _ _ _ _ _ _ _ _ _ _ _ _ _ _ _ _ _ _ _ _ _ _ _ A { B with w:=B.w.take p++B.w.drop (p+1) } _ ⟨x,y,qA,dA,vA,qB,dB,(.slice va2 vn2 vc2),hB.get 0 (x:=⟨g,sg A.c x qA dA vA B.c y qB dB (.slice va2 vn2 vc2),43⟩) rfl,unhide hA,unhide hD,unhide hXF,unhide hU,(fun u_ h_=>(List.mem_append.1 h_).elim (fun h_=>unhide hV u_ (List.mem_of_mem_take h_)) (fun h_=>unhide hV u_ (List.mem_of_mem_drop h_)))⟩ (unhide hI2) (unhide hXG).cg ⟨Nat.le_succ_of_le (unhide hN).qa,Nat.le_succ_of_le (unhide hN).qb,Nat.le_succ_of_le (unhide hN).wa,(show (B.w.take p++B.w.drop (p+1)).length≤n+1 from by rw [List.length_append,List.length_take,List.length_drop]; have:=unhide hm; omega)⟩
end Go.Proofs.Ytcefkkoombmndab
