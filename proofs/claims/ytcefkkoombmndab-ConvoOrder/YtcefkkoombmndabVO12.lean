/-
  ConvoOrder, given whatever list of steps, returns true, and its arguments read afterwards as they read before: for every input, without a condition.
-/
import Derived.Deep.CutBlock
import Derived.Test.YtcefkkoombmndabVO11
namespace Go.Proofs.Ytcefkkoombmndab
open Go.RowKit
set_option maxRecDepth 100000
set_option linter.unusedSimpArgs false
set_option linter.unusedVariables false
section
variable {P:Program} {md:Region.Mode} {ops:Array Oper} {Q:Exit→Act→World→Prop} {S:World→Prop}
theorem any_allocs {i j:Nat} {oi oj:Oper} {l:Array Bool} {a:Act} {w:World} (C D:Array Value) (s t:TypeId)
  (hr1:Region.ready md ops l=[i,j]) (hr2:Region.ready md ops (l.setIfInBounds i true)=[j]) (hr3:Region.ready md ops (l.setIfInBounds j true)=[i])
  (hoi:ops[i]?=some oi) (hoj:ops[j]?=some oj)
  (hw1:Region.wanted oi (yielded ops a.tmps)=true) (hw2:Region.wanted oj (yielded ops a.tmps)=true)
  (hw3:∀ v,Region.wanted oj (yielded ops (a.put oi.dst v).tmps)=true) (hw4:∀ v,Region.wanted oi (yielded ops (a.put oj.dst v).tmps)=true)
  (he1:∀ a w,(execOp (Act.eval a) oi).run P w=.ok (.value (.pointer (some ⟨w.heap.size,0,none⟩))) (w.alloc (.cells C s (0,0))))
  (he2:∀ a w,(execOp (Act.eval a) oj).run P w=.ok (.value (.pointer (some ⟨w.heap.size,0,none⟩))) (w.alloc (.cells D t (0,0))))
  (hS:∀ w',Gr w w'→S w')
  (hcomm:∀ u v,(a.put oj.dst v).put oi.dst u=(a.put oi.dst u).put oj.dst v) (hlcomm:(l.setIfInBounds j true).setIfInBounds i true=(l.setIfInBounds i true).setIfInBounds j true)
  (hfin:∀ p q w',p≠q→w.heap.size≤p→w.heap.size≤q→Gr w w'→w'.heap[p]?=some (.cells C s (0,0))→w'.heap[q]?=some (.cells D t (0,0))→Any P md ops Q S ((l.setIfInBounds i true).setIfInBounds j true) ((a.put oi.dst (.pointer (some ⟨p,0,none⟩))).put oj.dst (.pointer (some ⟨q,0,none⟩))) w'):Any P md ops Q S l a w:=by
 intro fuel hfu
 have hm:i ∈ Region.ready md ops l:=by rw [hr1]; exact List.mem_cons_self
 have hmj:j ∈ Region.ready md ops l:=by rw [hr1]; exact List.mem_cons_of_mem _ List.mem_cons_self
 have h1:=left_of (mem_ready.1 hm).1
 have h2:=left_of (mem_ready.1 hmj).1
 obtain ⟨n,rfl⟩:∃ n,fuel=n+1:=⟨fuel - 1,by omega⟩
 have g1:∀ (C D:Array Value) (s t:TypeId),Gr w (w.alloc (.cells C s (0,0)))∧Gr w ((w.alloc (.cells C s (0,0))).alloc (.cells D t (0,0)))∧((w.alloc (.cells C s (0,0))).alloc (.cells D t (0,0))).heap[w.heap.size]?=some (.cells C s (0,0))∧((w.alloc (.cells C s (0,0))).alloc (.cells D t (0,0))).heap[w.heap.size+1]?=some (.cells D t (0,0)):=by
  intro C D s t
  have ga:=(Gr.refl w).alloc (.cells C s (0,0))
  have gb:=(Gr.refl (w.alloc (.cells C s (0,0)))).alloc (.cells D t (0,0))
  refine ⟨ga,ga.alloc (.cells D t (0,0)),gb.blk (blk_new w _),?_⟩
  have e:(w.alloc (.cells C s (0,0))).heap.size=w.heap.size+1:=size_alloc _ _
  have:=blk_new (w.alloc (.cells C s (0,0))) (.cells D t (0,0))
  rw [e] at this
  exact this
 refine wpAnyH_ready hr1 (by simp) (AllReadyH.cons hoi (fun K hK=>?_) (AllReadyH.cons hoj (fun K hK=>?_) AllReadyH.nil))
 ·refine step_val _ _ hw1 (he1 a w) ?_
  refine hK.out _ _ (hS _ (g1 C D s t).1) (fun _=>?_)
  refine any_one hr2 hoj (fun K2 hK2=>?_) n (by omega)
  refine step_val _ _ (hw3 _) (he2 _ _) ?_
  refine hK2.out _ _ (hS _ (g1 C D s t).2.1) (fun _=>?_)
  have e:(w.alloc (.cells C s (0,0))).heap.size=w.heap.size+1:=size_alloc _ _
  rw [e]
  exact hfin _ _ _ (by omega) (Nat.le_refl _) (by omega) (g1 C D s t).2.1 (g1 C D s t).2.2.1 (g1 C D s t).2.2.2
 ·refine step_val _ _ hw2 (he2 a w) ?_
  refine hK.out _ _ (hS _ (g1 D C t s).1) (fun _=>?_)
  refine any_one hr3 hoi (fun K2 hK2=>?_) n (by omega)
  refine step_val _ _ (hw4 _) (he1 _ _) ?_
  refine hK2.out _ _ (hS _ (g1 D C t s).2.1) (fun _=>?_)
  have e:(w.alloc (.cells D t (0,0))).heap.size=w.heap.size+1:=size_alloc _ _
  rw [e,hcomm,hlcomm]
  exact hfin _ _ _ (by omega) (by omega) (Nat.le_refl _) (g1 D C t s).2.1 (g1 D C t s).2.2.2 (g1 D C t s).2.2.1
end
end Go.Proofs.Ytcefkkoombmndab
namespace Go.Proofs.Ytcefkkoombmndab
open Go.RowKit
set_option maxRecDepth 100000
set_option linter.unusedSimpArgs false
set_option linter.unusedVariables false
def NSD:List Nat:=[1,1,1,1,1,1,1,1]
theorem nSD (a b c d e f g h:Value):[[a],[b],[c],[d],[e],[f],[g],[h]].map List.length=NSD:=rfl
theorem oSD {a b c d e f g h:Value} (h1:a.oneCell'=true) (h2:b.oneCell'=true) (h3:c.oneCell'=true) (h4:d.oneCell'=true) (h5:e.oneCell'=true) (h6:f.oneCell'=true) (h7:g.oneCell'=true) (h8:h.oneCell'=true):(fl [[a],[b],[c],[d],[e],[f],[g],[h]]).all (·.oneCell')=true:=by simp [fl,h1,h2,h3,h4,h5,h6,h7,h8]
noncomputable def oCk:Code:=((Try.f4.body.bind (blockOf 3)).getD .skip)
set_option maxHeartbeats 8000000 in
theorem ck_ok (b g:Nat) (A B:Sd) (w:World) (z0 z1 z2 z4 z5 z6 z7 z8 z9 z10 z11 z12 z13 z14 z15 z16 z17 z18 z19 z20 z21 z22 z23 z24 z25 z26 z27 z28 z29 z30 z31 z32 z33 z34 z35 z36 z37 z38 z39 z40 z41 z42 z43 z44 z45 z46 z47 z48 z49 z50 z51 z52 z53 z54 z55 z56 z57 z58 z59 z60 z61 z62 z63 z64 z65 z66 z67 z68 z69 z70 z71 z72 z73 z74 z75 z76 z77 z78 z79 z80 z81 z82 z83 z84 z85 z86 z87 z88 z89 z90 z91 z92 z93 z94 z95 z96 z97 z98 z99 z100 z101 z102 z103 z104 z105 z106 z107 z108 z109 z110 z111 z112 z113 z114 z115 z116 z117 z118 z119 z120 z121 z122 z123 z124 z125 z126 z127 z128 z129 z130 z131 z132 z133 z134 z135 z136 z137 z138 z139 z140 z141 z142 z143 z144 z145 z146 z147 z148 z149 z150 z151 z152 z153 z154 z155 z156 z157 z158 z159 z160 z161 z162 z163 z164 z165 z166 z167 z168 z169 z170 z171 z172 z173 z174 z175 z176 z177 z178 z179 z180 z181 z182 z183 z185 z186 z187 z188 z189 z190 z191 z192 z193 z194 z195 z196 z197 z198 z199 z200 z201 z202 z203 z204 z205 z206 z207 z208 z209 z210 z211 z212 z213 z214 z215 z216 z217 z218 z219 z220 z221 z222 z223 z224 z225 z226 z227 z228 z229 z230 z231 z232 z233 z234 z235 z236 z237 z238 z239 z240 z241 z242:Value) (Q:Exit→Act→World→Prop) (hb:b≤w.heap.size) (hbg:b≤g) (hS:St b w g A B) (hI:Inv A B) (hQp:∀ c a (d:Nat) v w,Q (.panic c) (Act.put a (some d) v) w→Q (.panic c) a w) (hQ:∀ u2 u16 u17 u18 u184 u185 u186 u187 u188 u189 u190 u191 u192 u193 u194 u195 u196 u197 u198 u199 u200 u201 u202 u203 u204 u205 u206 u207 u208 u209 u210 u211 u212 u213 u214 u215 u216 u217 u218 u219 u220 u221 u222 u223 u224 u225 u226 u227 u228 u229 u230 u231 u232 u233 u234 u235 u236 u237 u238 u239 u240 u241:Value,∀ (w':World),St b w' g A B→Cg g b w w'→Q (.exit 3) ⟨#[z0,z1,u2,.pointer (some ⟨g,0,none⟩),z4,z5,z6,z7,z8,z9,z10,z11,z12,z13,z14,z15,u16,u17,u18,z19,z20,z21,z22,z23,z24,z25,z26,z27,z28,z29,z30,z31,z32,z33,z34,z35,z36,z37,z38,z39,z40,z41,z42,z43,z44,z45,z46,z47,z48,z49,z50,z51,z52,z53,z54,z55,z56,z57,z58,z59,z60,z61,z62,z63,z64,z65,z66,z67,z68,z69,z70,z71,z72,z73,z74,z75,z76,z77,z78,z79,z80,z81,z82,z83,z84,z85,z86,z87,z88,z89,z90,z91,z92,z93,z94,z95,z96,z97,z98,z99,z100,z101,z102,z103,z104,z105,z106,z107,z108,z109,z110,z111,z112,z113,z114,z115,z116,z117,z118,z119,z120,z121,z122,z123,z124,z125,z126,z127,z128,z129,z130,z131,z132,z133,z134,z135,z136,z137,z138,z139,z140,z141,z142,z143,z144,z145,z146,z147,z148,z149,z150,z151,z152,z153,z154,z155,z156,z157,z158,z159,z160,z161,z162,z163,z164,z165,z166,z167,z168,z169,z170,z171,z172,z173,z174,z175,z176,z177,z178,z179,z180,z181,z182,z183,u184,u185,u186,u187,u188,u189,u190,u191,u192,u193,u194,u195,u196,u197,u198,u199,u200,u201,u202,u203,u204,u205,u206,u207,u208,u209,u210,u211,u212,u213,u214,u215,u216,u217,u218,u219,u220,u221,u222,u223,u224,u225,u226,u227,u228,u229,u230,u231,u232,u233,u234,u235,u236,u237,u238,u239,u240,u241,z242],[]⟩ w'):Code.wp Try.prog oCk Q ⟨#[z0,z1,z2,.pointer (some ⟨g,0,none⟩),z4,z5,z6,z7,z8,z9,z10,z11,z12,z13,z14,z15,z16,z17,z18,z19,z20,z21,z22,z23,z24,z25,z26,z27,z28,z29,z30,z31,z32,z33,z34,z35,z36,z37,z38,z39,z40,z41,z42,z43,z44,z45,z46,z47,z48,z49,z50,z51,z52,z53,z54,z55,z56,z57,z58,z59,z60,z61,z62,z63,z64,z65,z66,z67,z68,z69,z70,z71,z72,z73,z74,z75,z76,z77,z78,z79,z80,z81,z82,z83,z84,z85,z86,z87,z88,z89,z90,z91,z92,z93,z94,z95,z96,z97,z98,z99,z100,z101,z102,z103,z104,z105,z106,z107,z108,z109,z110,z111,z112,z113,z114,z115,z116,z117,z118,z119,z120,z121,z122,z123,z124,z125,z126,z127,z128,z129,z130,z131,z132,z133,z134,z135,z136,z137,z138,z139,z140,z141,z142,z143,z144,z145,z146,z147,z148,z149,z150,z151,z152,z153,z154,z155,z156,z157,z158,z159,z160,z161,z162,z163,z164,z165,z166,z167,z168,z169,z170,z171,z172,z173,z174,z175,z176,z177,z178,z179,z180,z181,z182,z183,.int .i64 0,z185,z186,z187,z188,z189,z190,z191,z192,z193,z194,z195,z196,z197,z198,z199,z200,z201,z202,z203,z204,z205,z206,z207,z208,z209,z210,z211,z212,z213,z214,z215,z216,z217,z218,z219,z220,z221,z222,z223,z224,z225,z226,z227,z228,z229,z230,z231,z232,z233,z234,z235,z236,z237,z238,z239,z240,z241,z242],[]⟩ w:=by
 have hG:=hide (Cg.refl g b w)
 replace hS:=hide hS; replace hI:=hide hI; replace hQ:=hide hQ; replace hQp:=hide hQp
 conv=>arg 2; whnf
 dsimp only
 go_loopw [184] (fun i wr=>∃ j:Int,(j=0∨j=1∨j=2)∧i=.int .i64 j∧Hid (St b wr g A B)∧Hid (Cg g b w wr)) (fun i _=>2 - (intOf i).toNat)
 case atStart=>exact ⟨0,.inl rfl,rfl,hS,hG⟩
 case round =>
 clear hS hG
 obtain ⟨j,hj,rfl,hS,hG⟩:=hrel
 rcases hj with rfl | rfl | rfl
 ·have jI:(0:Int)<2:=by decide
  obtain ⟨x,y,qA,dA,vA,qB,dB,vB,hg,hA,hD,hXF,hU,hV⟩:=unhide hS
  obtain ⟨p0,c0,hv_,-⟩:=(hXF.own 0 _ rfl).lz
  dsimp only at hv_
  subst hv_
  obtain ⟨n0,hn0⟩:∃ n,n=(A.q.map tr1).length:=⟨_,rfl⟩
  rw [← hn0] at hg hXF
  rw [List.length_map] at hn0
  obtain ⟨p1,c1,hv_,-⟩:=(hXF.own 1 _ rfl).lz
  dsimp only at hv_
  subst hv_
  obtain ⟨n1,hn1⟩:∃ n,n=(A.d.map tr1).length:=⟨_,rfl⟩
  rw [← hn1] at hg hXF
  rw [List.length_map] at hn1
  obtain ⟨p2,c2,hv_,-⟩:=(hXF.own 2 _ rfl).lz
  dsimp only at hv_
  subst hv_
  obtain ⟨n2,hn2⟩:∃ n,n=(A.w.map unr).length:=⟨_,rfl⟩
  rw [← hn2] at hg hXF
  rw [List.length_map] at hn2
  obtain ⟨p3,c3,hv_,-⟩:=(hXF.own 3 _ rfl).lz
  dsimp only at hv_
  subst hv_
  obtain ⟨n3,hn3⟩:∃ n,n=(B.q.map tr1).length:=⟨_,rfl⟩
  rw [← hn3] at hg hXF
  rw [List.length_map] at hn3
  obtain ⟨p4,c4,hv_,-⟩:=(hXF.own 4 _ rfl).lz
  dsimp only at hv_
  subst hv_
  obtain ⟨n4,hn4⟩:∃ n,n=(B.d.map tr1).length:=⟨_,rfl⟩
  rw [← hn4] at hg hXF
  rw [List.length_map] at hn4
  obtain ⟨p5,c5,hv_,-⟩:=(hXF.own 5 _ rfl).lz
  dsimp only at hv_
  subst hv_
  obtain ⟨n5,hn5⟩:∃ n,n=(B.w.map unr).length:=⟨_,rfl⟩
  rw [← hn5] at hg hXF
  rw [List.length_map] at hn5
  have hXo:=hXF.old
  have hbw:b≤wr.heap.size:=Nat.le_trans hb (unhide hG).size
  have hXG:Cgs g b wr wr:=⟨Cg.refl g b wr,hbw⟩
  have e1:=(unhide hI).1.nx
  have e2:=(unhide hI).1.dl
  have e3:=(unhide hI).1.ack
  have e4:=(unhide hI).1.few
  have e5:=(unhide hI).1.pre
  have e6:=(unhide hI).1.le
  have e8:=(unhide hI).1.ole
  have e7:chk A.c=0:=by unfold chk; rw [if_pos (unhide hI).1.rt]
  have eo:=hA.i.o.len
  replace hXF:=hide hXF; replace hA:=hide hA; replace hD:=hide hD; replace hU:=hide hU; replace hV:=hide hV; replace hXG:=hide hXG
  replace e1:=hide e1; replace e2:=hide e2; replace e3:=hide e3; replace e5:=hide e5; replace e6:=hide e6; replace e7:=hide e7; replace e8:=hide e8; replace eo:=hide eo
  replace hn0:=hide hn0
  replace hn1:=hide hn1
  replace hn2:=hide hn2
  replace hn3:=hide hn3
  replace hn4:=hide hn4
  replace hn5:=hide hn5
  have hB:=(nilb wr).add ⟨g,sg A.c x (.slice p0 n0 c0) (.slice p1 n1 c1) (.slice p2 n2 c2) B.c y (.slice p3 n3 c3) (.slice p4 n4 c4) (.slice p5 n5 c5),43⟩ hg (Nat.zero_le _) (by intro y hy; cases hy)
  simp only [List.nil_append] at hB
  clear hg hS
  replace hB:=hide hB
  go_upto_region 34 with fail
  replace hB:=unhide hB
  refine wp_region_lit ?_
  refine lvk (.int .i64 0) ?_
  simp only [nrm]
  (refine wpList_step fun K hK=>?_; replace hK:=hide hK; go_simp; refine unhide hK _ _ ?_; clear hK K)
  refine wpList_nil ?_
  replace hB:=hide hB
  go_upto_region 35 with fail
  replace hB:=unhide hB
  refine any_start (S:=fun v_=>v_.heap[g]?=some (.cells (sg A.c x (.slice p0 n0 c0) (.slice p1 n1 c1) (.slice p2 n2 c2) B.c y (.slice p3 n3 c3) (.slice p4 n4 c4) (.slice p5 n5 c5)) 43 (0,0))) (by kernel_rfl) ?_
  replace hA:=hide ((unhide hA).gr ((Gr.refl wr).drew))
  replace hD:=hide ((unhide hD).gr ((Gr.refl wr).drew))
  replace hXF:=hide ((unhide hXF).gr ((Gr.refl wr).drew))
  replace hXG:=hide ((unhide hXG).gr ((Gr.refl wr).drew))
  replace hB:=hB.drew
  generalize World.drew _=u1 at *
  simp only [List.size_toArray,List.length_cons,List.length_nil,Array.replicate,List.replicate]
  refine any_take (i:=0) (v:=(.int .i64 0)) (tf 11 0) rfl (by kernel_rfl) (by kernel_rfl) (by kernel_rfl) (by kernel_rfl) (fun c_ _ w_ h_=>unhide hQp c_ _ _ _ w_ h_) (.inl ⟨by kernel_rfl,fun x_ hu=>by kernel_rfl⟩) (hB.get 0 (x:=⟨g,sg A.c x (.slice p0 n0 c0) (.slice p1 n1 c1) (.slice p2 n2 c2) B.c y (.slice p3 n3 c3) (.slice p4 n4 c4) (.slice p5 n5 c5),43⟩) rfl) ?_
  simp only [nrm]
  refine any_take (i:=1) (v:=(.pointer (some ⟨g,0,none⟩))) (tf 11 1) rfl (by kernel_rfl) (by kernel_rfl) (by kernel_rfl) (by kernel_rfl) (fun c_ _ w_ h_=>unhide hQp c_ _ _ _ w_ h_) (.inl ⟨by kernel_rfl,fun x_ hu=>by kernel_rfl⟩) (hB.get 0 (x:=⟨g,sg A.c x (.slice p0 n0 c0) (.slice p1 n1 c1) (.slice p2 n2 c2) B.c y (.slice p3 n3 c3) (.slice p4 n4 c4) (.slice p5 n5 c5),43⟩) rfl) ?_
  simp only [nrm]
  refine any_take (i:=2) (v:=(.agg (sd A.c x (.slice p0 n0 c0) (.slice p1 n1 c1) (.slice p2 n2 c2)))) (tf 11 2) rfl (by kernel_rfl) (by kernel_rfl) (by kernel_rfl) (by kernel_rfl) (fun c_ _ w_ h_=>unhide hQp c_ _ _ _ w_ h_) (.inl ⟨by kernel_rfl,fun x_ hu=>exec_sr _ 42 (.tmp 188) rfl (g) 0 (by kernel_rfl) hu 0 8 (show 0+8≤16 by decide) rfl Try.underlying42 rfl (by kernel_rfl)⟩) (hB.get 0 (x:=⟨g,sg A.c x (.slice p0 n0 c0) (.slice p1 n1 c1) (.slice p2 n2 c2) B.c y (.slice p3 n3 c3) (.slice p4 n4 c4) (.slice p5 n5 c5),43⟩) rfl) ?_
  simp only [nrm]
  refine any_take (i:=3) (v:=(.int .i64 0)) (tf 11 3) rfl (by kernel_rfl) (by kernel_rfl) (by kernel_rfl) (by kernel_rfl) (fun c_ _ w_ h_=>unhide hQp c_ _ _ _ w_ h_) (.inl ⟨by kernel_rfl,fun x_ hu=>by kernel_rfl⟩) (hB.get 0 (x:=⟨g,sg A.c x (.slice p0 n0 c0) (.slice p1 n1 c1) (.slice p2 n2 c2) B.c y (.slice p3 n3 c3) (.slice p4 n4 c4) (.slice p5 n5 c5),43⟩) rfl) ?_
  simp only [nrm]
  refine any_take (i:=4) (v:=(.int .i64 1)) (tf 11 4) rfl (by kernel_rfl) (by kernel_rfl) (by kernel_rfl) (by kernel_rfl) (fun c_ _ w_ h_=>unhide hQp c_ _ _ _ w_ h_) (.inl ⟨by kernel_rfl,fun x_ hu=>by kernel_rfl⟩) (hB.get 0 (x:=⟨g,sg A.c x (.slice p0 n0 c0) (.slice p1 n1 c1) (.slice p2 n2 c2) B.c y (.slice p3 n3 c3) (.slice p4 n4 c4) (.slice p5 n5 c5),43⟩) rfl) ?_
  simp only [nrm]
  refine any_take (i:=5) (v:=(.pointer (some ⟨g,8,none⟩))) (tf 11 5) rfl (by kernel_rfl) (by kernel_rfl) (by kernel_rfl) (by kernel_rfl) (fun c_ _ w_ h_=>unhide hQp c_ _ _ _ w_ h_) (.inl ⟨by kernel_rfl,fun x_ hu=>by kernel_rfl⟩) (hB.get 0 (x:=⟨g,sg A.c x (.slice p0 n0 c0) (.slice p1 n1 c1) (.slice p2 n2 c2) B.c y (.slice p3 n3 c3) (.slice p4 n4 c4) (.slice p5 n5 c5),43⟩) rfl) ?_
  simp only [nrm]
  refine any_take (i:=6) (v:=(.agg (sd B.c y (.slice p3 n3 c3) (.slice p4 n4 c4) (.slice p5 n5 c5)))) (tf 11 6) rfl (by kernel_rfl) (by kernel_rfl) (by kernel_rfl) (by kernel_rfl) (fun c_ _ w_ h_=>unhide hQp c_ _ _ _ w_ h_) (.inl ⟨by kernel_rfl,fun x_ hu=>exec_sr _ 42 (.tmp 192) rfl (g) 8 (by kernel_rfl) hu 8 8 (show 8+8≤16 by decide) rfl Try.underlying42 rfl (by kernel_rfl)⟩) (hB.get 0 (x:=⟨g,sg A.c x (.slice p0 n0 c0) (.slice p1 n1 c1) (.slice p2 n2 c2) B.c y (.slice p3 n3 c3) (.slice p4 n4 c4) (.slice p5 n5 c5),43⟩) rfl) ?_
  simp only [nrm]
  refine any_allocs (i:=7) (j:=8) (fl [[.int .u32 0],[.slice none 0 0],[.int .i64 0],[.int .u32 0],[.slice none 0 0],[.slice none 0 0],[.slice none 0 0],[.slice none 0 0]]) (fl [[.int .u32 0],[.slice none 0 0],[.int .i64 0],[.int .u32 0],[.slice none 0 0],[.slice none 0 0],[.slice none 0 0],[.slice none 0 0]]) 42 42 (by kernel_rfl) (by kernel_rfl) (by kernel_rfl) rfl rfl (by kernel_rfl) (by kernel_rfl) (fun _=>by kernel_rfl) (fun _=>by kernel_rfl) (fun _ _=>by kernel_rfl) (fun _ _=>by kernel_rfl) (fun _ g_=>g_.blk (hB.get 0 (x:=⟨g,sg A.c x (.slice p0 n0 c0) (.slice p1 n1 c1) (.slice p2 n2 c2) B.c y (.slice p3 n3 c3) (.slice p4 n4 c4) (.slice p5 n5 c5),43⟩) rfl)) (fun _ _=>rfl) (by kernel_rfl) (fun g17 g18 u2 hne_ hl1_ hl2_ hg hn1_ hn2_=>?_)
  have hgl17:=Nat.le_trans (unhide hXG).size hl1_
  have hgl18:=Nat.le_trans (unhide hXG).size hl2_
  have hB1:=Bl.joinz hB (hB.more hg) hl1_ hn1_
  have hB2:=hB1.add ⟨g18,fl [[.int .u32 0],[.slice none 0 0],[.int .i64 0],[.int .u32 0],[.slice none 0 0],[.slice none 0 0],[.slice none 0 0],[.slice none 0 0]],42⟩ hn2_ (Nat.zero_le _) (fun y_ hy_=>by
   rcases List.mem_append.1 hy_ with h_ | h_
   ·have:=lt_of_block (hB.at_ y_ h_).1
    show y_.g≠g18
    omega
   ·rw [List.mem_singleton.1 h_]
    exact hne_)
  simp only [List.cons_append,List.nil_append] at hB2
  clear hB hB1
  have hB:=hB2
  clear hB2 hn1_ hn2_ hl1_ hl2_ hne_
  replace hA:=hide ((unhide hA).gr hg)
  replace hD:=hide ((unhide hD).gr hg)
  replace hXF:=hide ((unhide hXF).gr hg)
  replace hXG:=hide ((unhide hXG).gr hg)
  clear hg
  simp only [nrm]
  refine any_one (i:=9) (by kernel_rfl) rfl (fun K hK=>?_)
  have hzz_:Hid (u2.heap[g17]?=some (.cells (fl [[.int .u32 0],[.slice none 0 0],[.int .i64 0],[.int .u32 0],[.slice none 0 0],[.slice none 0 0],[.slice none 0 0],[.slice none 0 0]]) 42 (0,0))):=hide (hB.get 1 (x:=⟨g17,fl [[.int .u32 0],[.slice none 0 0],[.int .i64 0],[.int .u32 0],[.slice none 0 0],[.slice none 0 0],[.slice none 0 0],[.slice none 0 0]],42⟩) rfl)
  refine step_all 42 (.tmp 17) (.tmp 189) (g17) (S2:=[[.int .u32 A.c.nx],[.slice x.ao x.no x.co],[.int .i64 A.c.tn],[.int .u32 A.c.dl],[.slice x.ah x.nh x.ch],[.slice p0 n0 c0],[.slice p1 n1 c1],[.slice p2 n2 c2]]) (by kernel_rfl) rfl (by kernel_rfl) (by kernel_rfl) hB 1 rfl NSD (nSD  _ _ _ _ _ _ _ _) (nSD  _ _ _ _ _ _ _ _) (by kernel_rfl) (oSD  rfl rfl rfl rfl rfl rfl rfl rfl) ?_
  intro u3 hB_ hbt_
  clear hB
  replace hB:Bl (bare wr) [⟨g,sg A.c x (.slice p0 n0 c0) (.slice p1 n1 c1) (.slice p2 n2 c2) B.c y (.slice p3 n3 c3) (.slice p4 n4 c4) (.slice p5 n5 c5),43⟩,⟨g17,sd A.c x (.slice p0 n0 c0) (.slice p1 n1 c1) (.slice p2 n2 c2),42⟩,⟨g18,fl [[.int .u32 0],[.slice none 0 0],[.int .i64 0],[.int .u32 0],[.slice none 0 0],[.slice none 0 0],[.slice none 0 0],[.slice none 0 0]],42⟩] u3:=hB_
  clear hB_
  replace hA:=hide ((unhide hA).bz (unhide hzz_) hbt_)
  replace hD:=hide ((unhide hD).bz (unhide hzz_) hbt_)
  replace hXF:=hide ((unhide hXF).bo (unhide hzz_) hbt_ hXo hgl17)
  replace hXG:=hide ((unhide hXG).bl (unhide hzz_) hbt_ hgl17)
  clear hbt_ hzz_
  refine hK.out _ _ (hB.get 0 (x:=⟨g,sg A.c x (.slice p0 n0 c0) (.slice p1 n1 c1) (.slice p2 n2 c2) B.c y (.slice p3 n3 c3) (.slice p4 n4 c4) (.slice p5 n5 c5),43⟩) rfl) (fun _=>?_)
  clear hK K
  simp only [nrm]
  refine any_one (i:=10) (by kernel_rfl) rfl (fun K hK=>?_)
  have hzz_:Hid (u3.heap[g18]?=some (.cells (fl [[.int .u32 0],[.slice none 0 0],[.int .i64 0],[.int .u32 0],[.slice none 0 0],[.slice none 0 0],[.slice none 0 0],[.slice none 0 0]]) 42 (0,0))):=hide (hB.get 2 (x:=⟨g18,fl [[.int .u32 0],[.slice none 0 0],[.int .i64 0],[.int .u32 0],[.slice none 0 0],[.slice none 0 0],[.slice none 0 0],[.slice none 0 0]],42⟩) rfl)
  refine step_all 42 (.tmp 18) (.tmp 193) (g18) (S2:=[[.int .u32 B.c.nx],[.slice y.ao y.no y.co],[.int .i64 B.c.tn],[.int .u32 B.c.dl],[.slice y.ah y.nh y.ch],[.slice p3 n3 c3],[.slice p4 n4 c4],[.slice p5 n5 c5]]) (by kernel_rfl) rfl (by kernel_rfl) (by kernel_rfl) hB 2 rfl NSD (nSD  _ _ _ _ _ _ _ _) (nSD  _ _ _ _ _ _ _ _) (by kernel_rfl) (oSD  rfl rfl rfl rfl rfl rfl rfl rfl) ?_
  intro u4 hB_ hbt_
  clear hB
  replace hB:Bl (bare wr) [⟨g,sg A.c x (.slice p0 n0 c0) (.slice p1 n1 c1) (.slice p2 n2 c2) B.c y (.slice p3 n3 c3) (.slice p4 n4 c4) (.slice p5 n5 c5),43⟩,⟨g17,sd A.c x (.slice p0 n0 c0) (.slice p1 n1 c1) (.slice p2 n2 c2),42⟩,⟨g18,sd B.c y (.slice p3 n3 c3) (.slice p4 n4 c4) (.slice p5 n5 c5),42⟩] u4:=hB_
  clear hB_
  replace hA:=hide ((unhide hA).bz (unhide hzz_) hbt_)
  replace hD:=hide ((unhide hD).bz (unhide hzz_) hbt_)
  replace hXF:=hide ((unhide hXF).bo (unhide hzz_) hbt_ hXo hgl18)
  replace hXG:=hide ((unhide hXG).bl (unhide hzz_) hbt_ hgl18)
  clear hbt_ hzz_
  refine hK.out _ _ (hB.get 0 (x:=⟨g,sg A.c x (.slice p0 n0 c0) (.slice p1 n1 c1) (.slice p2 n2 c2) B.c y (.slice p3 n3 c3) (.slice p4 n4 c4) (.slice p5 n5 c5),43⟩) rfl) (fun _=>?_)
  clear hK K
  simp only [nrm]
  refine any_done (by kernel_rfl) ?_
  replace hB:=hide hB
  go_upto_region 36 with fail
  replace hB:=unhide hB
  refine wp_region_lit ?_
  refine wpList_gen fun ops_ hops=>?_
  replace hops:=hide hops
  refine list_val (.pointer (some ⟨g17,0,none⟩)) (by rw [unhide hops]; kernel_rfl) (by kernel_rfl) ?_
  simp only [nrm]
  refine list_val (.agg (cg A.c x)) (by rw [unhide hops]; kernel_rfl) (exec_sr _ 26 (.tmp 194) rfl (g17) 0 (by kernel_rfl) (hB.get 1 (x:=⟨g17,sd A.c x (.slice p0 n0 c0) (.slice p1 n1 c1) (.slice p2 n2 c2),42⟩) rfl) 0 5 (show 0+5≤8 by decide) rfl Try.underlying26 rfl (by kernel_rfl)) ?_
  simp only [nrm]
  refine list_call 8 #[.agg (cg A.c x)] (by rw [unhide hops]; kernel_rfl) (by kernel_rfl) (((show Calls Try.prog 8 #[.agg (cg A.c x)] u4 (Vl (.int .i64 0) u4) from by have h:=check_ok A.c x u4 (unhide hA).i; rw [unhide e7] at h; exact h)).mono ?_)
  rintro r_ u5 ⟨rfl,hg⟩
  replace hA:=hide ((unhide hA).gr hg)
  replace hD:=hide ((unhide hD).gr hg)
  replace hXF:=hide ((unhide hXF).gr hg)
  replace hXG:=hide ((unhide hXG).gr hg)
  replace hB:=hB.more hg
  clear hg
  refine ⟨_,rfl,?_⟩
  simp only [nrm]
  refine list_val (.bool false) (by rw [unhide hops]; kernel_rfl) (neq_e _ (.tmp 196) (.const (.int .i64 0)) 0 0 false rfl (by kernel_rfl) (by kernel_rfl) (by decide)) ?_
  simp only [nrm]
  refine list_val (.bool false) (by rw [unhide hops]; kernel_rfl) (by kernel_rfl) ?_
  simp only [nrm]
  refine list_val (.pointer (some ⟨g18,6,none⟩)) (by rw [unhide hops]; kernel_rfl) (by kernel_rfl) ?_
  simp only [nrm]
  refine list_val (.slice p4 n4 c4) (by rw [unhide hops]; kernel_rfl) (exec_csS _ (.tmp 199) rfl (g18) 6 (by kernel_rfl) p4 n4 c4 (seg_cell (nSD  _ _ _ _ _ _ _ _) (hB.get 2 (x:=⟨g18,sd B.c y (.slice p3 n3 c3) (.slice p4 n4 c4) (.slice p5 n5 c5),42⟩) rfl) 6 (v:=.slice p4 n4 c4) rfl rfl)) ?_
  simp only [nrm]
  refine list_val (.pointer (some ⟨g17,5,none⟩)) (by rw [unhide hops]; kernel_rfl) (by kernel_rfl) ?_
  simp only [nrm]
  refine list_val (.slice p0 n0 c0) (by rw [unhide hops]; kernel_rfl) (exec_csS _ (.tmp 201) rfl (g17) 5 (by kernel_rfl) p0 n0 c0 (seg_cell (nSD  _ _ _ _ _ _ _ _) (hB.get 1 (x:=⟨g17,sd A.c x (.slice p0 n0 c0) (.slice p1 n1 c1) (.slice p2 n2 c2),42⟩) rfl) 5 (v:=.slice p0 n0 c0) rfl rfl)) ?_
  simp only [nrm]
  refine list_call 14 #[.slice p4 n4 c4,.slice p0 n0 c0] (by rw [unhide hops]; kernel_rfl) (by kernel_rfl) (((begins_ok b u5 B.d A.q p4 p0 n4 c4 n0 c0 ((unhide hXF).own 4 _ rfl) ((unhide hXF).own 0 _ rfl) (unhide e6) (unhide e5))).mono ?_)
  rintro r_ u6 ⟨rfl,hg⟩
  replace hA:=hide ((unhide hA).gr hg)
  replace hD:=hide ((unhide hD).gr hg)
  replace hXF:=hide ((unhide hXF).gr hg)
  replace hXG:=hide ((unhide hXG).gr hg)
  replace hB:=hB.more hg
  clear hg
  refine ⟨_,rfl,?_⟩
  simp only [nrm]
  refine list_val (.bool false) (by rw [unhide hops]; kernel_rfl) (by kernel_rfl) ?_
  simp only [nrm]
  refine list_val (.bool false) (by rw [unhide hops]; kernel_rfl) (by kernel_rfl) ?_
  simp only [nrm]
  refine list_val (.bool false) (by rw [unhide hops]; kernel_rfl) (by kernel_rfl) ?_
  simp only [nrm]
  refine list_val (.pointer (some ⟨g17,0,none⟩)) (by rw [unhide hops]; kernel_rfl) (by kernel_rfl) ?_
  simp only [nrm]
  refine list_val (.pointer (some ⟨g17,0,none⟩)) (by rw [unhide hops]; kernel_rfl) (by kernel_rfl) ?_
  simp only [nrm]
  refine list_val (.int .u32 A.c.nx) (by rw [unhide hops]; kernel_rfl) (exec_c32 _ (.tmp 208) rfl (g17) 0 (by kernel_rfl) A.c.nx (seg_cell (nSD  _ _ _ _ _ _ _ _) (hB.get 1 (x:=⟨g17,sd A.c x (.slice p0 n0 c0) (.slice p1 n1 c1) (.slice p2 n2 c2),42⟩) rfl) 0 (v:=.int .u32 A.c.nx) rfl rfl)) ?_
  simp only [nrm]
  refine list_val (.int .i64 A.c.nx) (by rw [unhide hops]; kernel_rfl) (conv_i64 _ (.tmp 209) A.c.nx rfl (by kernel_rfl) (unhide hA).i.nx) ?_
  simp only [nrm]
  refine list_val (.pointer (some ⟨g17,0,none⟩)) (by rw [unhide hops]; kernel_rfl) (by kernel_rfl) ?_
  simp only [nrm]
  refine list_val (.pointer (some ⟨g17,1,none⟩)) (by rw [unhide hops]; kernel_rfl) (by kernel_rfl) ?_
  simp only [nrm]
  refine list_val (.slice x.ao x.no x.co) (by rw [unhide hops]; kernel_rfl) (exec_csO _ (.tmp 212) rfl (g17) 1 (by kernel_rfl) x.ao x.no x.co (seg_cell (nSD  _ _ _ _ _ _ _ _) (hB.get 1 (x:=⟨g17,sd A.c x (.slice p0 n0 c0) (.slice p1 n1 c1) (.slice p2 n2 c2),42⟩) rfl) 1 (v:=.slice x.ao x.no x.co) rfl rfl)) ?_
  simp only [nrm]
  refine list_val (.int .i64 x.no) (by rw [unhide hops]; kernel_rfl) (by kernel_rfl) ?_
  simp only [nrm]
  refine list_val (.int .i64 (A.c.nx - (x.no:Int))) (by rw [unhide hops]; kernel_rfl) (sub_i _ (.tmp 210) (.tmp 214) A.c.nx (x.no:Int) rfl (by kernel_rfl) (by kernel_rfl) _ rfl (by have h1:=unhide e1; have h2:=unhide e3; have h3:=unhide eo; have h4:=unhide e8; omega)) ?_
  simp only [nrm]
  refine list_val (.pointer (some ⟨g18,6,none⟩)) (by rw [unhide hops]; kernel_rfl) (by kernel_rfl) ?_
  simp only [nrm]
  refine list_val (.slice p4 n4 c4) (by rw [unhide hops]; kernel_rfl) (exec_csS _ (.tmp 216) rfl (g18) 6 (by kernel_rfl) p4 n4 c4 (seg_cell (nSD  _ _ _ _ _ _ _ _) (hB.get 2 (x:=⟨g18,sd B.c y (.slice p3 n3 c3) (.slice p4 n4 c4) (.slice p5 n5 c5),42⟩) rfl) 6 (v:=.slice p4 n4 c4) rfl rfl)) ?_
  simp only [nrm]
  refine list_val (.int .i64 n4) (by rw [unhide hops]; kernel_rfl) (by kernel_rfl) ?_
  simp only [nrm]
  refine list_val (.bool false) (by rw [unhide hops]; kernel_rfl) (gtr_i _ (.tmp 215) (.tmp 218) (A.c.nx - (x.no:Int)) (n4:Int) false rfl (by kernel_rfl) (by kernel_rfl) (decide_eq_false (by have h1:=unhide e1; have h2:=unhide e3; have h3:=unhide eo; have h4:=unhide hn4; omega))) ?_
  simp only [nrm]
  refine list_val (.bool false) (by rw [unhide hops]; kernel_rfl) (by kernel_rfl) ?_
  simp only [nrm]
  refine list_val (.bool false) (by rw [unhide hops]; kernel_rfl) (by kernel_rfl) ?_
  simp only [nrm]
  refine list_val (.pointer (some ⟨g18,0,none⟩)) (by rw [unhide hops]; kernel_rfl) (by kernel_rfl) ?_
  simp only [nrm]
  refine list_val (.pointer (some ⟨g18,3,none⟩)) (by rw [unhide hops]; kernel_rfl) (by kernel_rfl) ?_
  simp only [nrm]
  refine list_val (.int .u32 B.c.dl) (by rw [unhide hops]; kernel_rfl) (exec_c32 _ (.tmp 223) rfl (g18) 3 (by kernel_rfl) B.c.dl (seg_cell (nSD  _ _ _ _ _ _ _ _) (hB.get 2 (x:=⟨g18,sd B.c y (.slice p3 n3 c3) (.slice p4 n4 c4) (.slice p5 n5 c5),42⟩) rfl) 3 (v:=.int .u32 B.c.dl) rfl rfl)) ?_
  simp only [nrm]
  refine list_val (.int .i64 B.c.dl) (by rw [unhide hops]; kernel_rfl) (conv_i64 _ (.tmp 224) B.c.dl rfl (by kernel_rfl) (unhide hD).i.dl) ?_
  simp only [nrm]
  refine list_val (.pointer (some ⟨g18,6,none⟩)) (by rw [unhide hops]; kernel_rfl) (by kernel_rfl) ?_
  simp only [nrm]
  refine list_val (.slice p4 n4 c4) (by rw [unhide hops]; kernel_rfl) (exec_csS _ (.tmp 226) rfl (g18) 6 (by kernel_rfl) p4 n4 c4 (seg_cell (nSD  _ _ _ _ _ _ _ _) (hB.get 2 (x:=⟨g18,sd B.c y (.slice p3 n3 c3) (.slice p4 n4 c4) (.slice p5 n5 c5),42⟩) rfl) 6 (v:=.slice p4 n4 c4) rfl rfl)) ?_
  simp only [nrm]
  refine list_val (.int .i64 n4) (by rw [unhide hops]; kernel_rfl) (by kernel_rfl) ?_
  simp only [nrm]
  refine list_val (.bool false) (by rw [unhide hops]; kernel_rfl) (neq_i _ (.tmp 225) (.tmp 228) B.c.dl (n4:Int) false rfl (by kernel_rfl) (by kernel_rfl) (decide_eq_false (by have h1:=unhide e2; have h4:=unhide hn4; omega))) ?_
  simp only [nrm]
  refine list_val (.bool false) (by rw [unhide hops]; kernel_rfl) (by kernel_rfl) ?_
  simp only [nrm]
  refine list_val (.bool false) (by rw [unhide hops]; kernel_rfl) (by kernel_rfl) ?_
  simp only [nrm]
  refine list_val (.pointer (some ⟨g17,0,none⟩)) (by rw [unhide hops]; kernel_rfl) (by kernel_rfl) ?_
  simp only [nrm]
  refine list_val (.pointer (some ⟨g17,0,none⟩)) (by rw [unhide hops]; kernel_rfl) (by kernel_rfl) ?_
  simp only [nrm]
  refine list_val (.int .u32 A.c.nx) (by rw [unhide hops]; kernel_rfl) (exec_c32 _ (.tmp 233) rfl (g17) 0 (by kernel_rfl) A.c.nx (seg_cell (nSD  _ _ _ _ _ _ _ _) (hB.get 1 (x:=⟨g17,sd A.c x (.slice p0 n0 c0) (.slice p1 n1 c1) (.slice p2 n2 c2),42⟩) rfl) 0 (v:=.int .u32 A.c.nx) rfl rfl)) ?_
  simp only [nrm]
  refine list_val (.int .i64 A.c.nx) (by rw [unhide hops]; kernel_rfl) (conv_i64 _ (.tmp 234) A.c.nx rfl (by kernel_rfl) (unhide hA).i.nx) ?_
  simp only [nrm]
  refine list_val (.pointer (some ⟨g17,5,none⟩)) (by rw [unhide hops]; kernel_rfl) (by kernel_rfl) ?_
  simp only [nrm]
  refine list_val (.slice p0 n0 c0) (by rw [unhide hops]; kernel_rfl) (exec_csS _ (.tmp 236) rfl (g17) 5 (by kernel_rfl) p0 n0 c0 (seg_cell (nSD  _ _ _ _ _ _ _ _) (hB.get 1 (x:=⟨g17,sd A.c x (.slice p0 n0 c0) (.slice p1 n1 c1) (.slice p2 n2 c2),42⟩) rfl) 5 (v:=.slice p0 n0 c0) rfl rfl)) ?_
  simp only [nrm]
  refine list_val (.int .i64 n0) (by rw [unhide hops]; kernel_rfl) (by kernel_rfl) ?_
  simp only [nrm]
  refine list_val (.bool false) (by rw [unhide hops]; kernel_rfl) (neq_i _ (.tmp 235) (.tmp 238) A.c.nx (n0:Int) false rfl (by kernel_rfl) (by kernel_rfl) (decide_eq_false (by have h1:=unhide e1; have h4:=unhide hn0; omega))) ?_
  simp only [nrm]
  refine list_val (.bool false) (by rw [unhide hops]; kernel_rfl) (by kernel_rfl) ?_
  simp only [nrm]
  refine wpList_nil ?_
  have hS:Hid (St b u6 g A B):=hide ⟨x,y,.slice p0 n0 c0,.slice p1 n1 c1,.slice p2 n2 c2,.slice p3 n3 c3,.slice p4 n4 c4,.slice p5 n5 c5,hB.get 0 (x:=⟨g,sg A.c x (.slice p0 n0 c0) (.slice p1 n1 c1) (.slice p2 n2 c2) B.c y (.slice p3 n3 c3) (.slice p4 n4 c4) (.slice p5 n5 c5),43⟩) rfl,unhide hA,unhide hD,unhide hXF,unhide hU,unhide hV⟩
  have hG2:=hide ((unhide hG).trans (unhide hXG).cg)
  have jw:IntKind.i64.wrap ((0:Int)+1)=1:=by rw [IntKind.wrap_i64]; decide
  replace hB:=hide hB
  go_wp2_with fail
  go_roundw
  case rel=>exact ⟨1,.inr (.inl rfl),by simp,hS,hG2⟩
  case measure=>simp [intOf]
 ·have jI:(1:Int)<2:=by decide
  obtain ⟨x,y,qA,dA,vA,qB,dB,vB,hg,hA,hD,hXF,hU,hV⟩:=unhide hS
  obtain ⟨p0,c0,hv_,-⟩:=(hXF.own 0 _ rfl).lz
  dsimp only at hv_
  subst hv_
  obtain ⟨n0,hn0⟩:∃ n,n=(A.q.map tr1).length:=⟨_,rfl⟩
  rw [← hn0] at hg hXF
  rw [List.length_map] at hn0
  obtain ⟨p1,c1,hv_,-⟩:=(hXF.own 1 _ rfl).lz
  dsimp only at hv_
  subst hv_
  obtain ⟨n1,hn1⟩:∃ n,n=(A.d.map tr1).length:=⟨_,rfl⟩
  rw [← hn1] at hg hXF
  rw [List.length_map] at hn1
  obtain ⟨p2,c2,hv_,-⟩:=(hXF.own 2 _ rfl).lz
  dsimp only at hv_
  subst hv_
  obtain ⟨n2,hn2⟩:∃ n,n=(A.w.map unr).length:=⟨_,rfl⟩
  rw [← hn2] at hg hXF
  rw [List.length_map] at hn2
  obtain ⟨p3,c3,hv_,-⟩:=(hXF.own 3 _ rfl).lz
  dsimp only at hv_
  subst hv_
  obtain ⟨n3,hn3⟩:∃ n,n=(B.q.map tr1).length:=⟨_,rfl⟩
  rw [← hn3] at hg hXF
  rw [List.length_map] at hn3
  obtain ⟨p4,c4,hv_,-⟩:=(hXF.own 4 _ rfl).lz
  dsimp only at hv_
  subst hv_
  obtain ⟨n4,hn4⟩:∃ n,n=(B.d.map tr1).length:=⟨_,rfl⟩
  rw [← hn4] at hg hXF
  rw [List.length_map] at hn4
  obtain ⟨p5,c5,hv_,-⟩:=(hXF.own 5 _ rfl).lz
  dsimp only at hv_
  subst hv_
  obtain ⟨n5,hn5⟩:∃ n,n=(B.w.map unr).length:=⟨_,rfl⟩
  rw [← hn5] at hg hXF
  rw [List.length_map] at hn5
  have hXo:=hXF.old
  have hbw:b≤wr.heap.size:=Nat.le_trans hb (unhide hG).size
  have hXG:Cgs g b wr wr:=⟨Cg.refl g b wr,hbw⟩
  have e1:=(unhide hI).swap.1.nx
  have e2:=(unhide hI).swap.1.dl
  have e3:=(unhide hI).swap.1.ack
  have e4:=(unhide hI).swap.1.few
  have e5:=(unhide hI).swap.1.pre
  have e6:=(unhide hI).swap.1.le
  have e8:=(unhide hI).swap.1.ole
  have e7:chk B.c=0:=by unfold chk; rw [if_pos (unhide hI).swap.1.rt]
  have eo:=hD.i.o.len
  replace hXF:=hide hXF; replace hA:=hide hA; replace hD:=hide hD; replace hU:=hide hU; replace hV:=hide hV; replace hXG:=hide hXG
  replace e1:=hide e1; replace e2:=hide e2; replace e3:=hide e3; replace e5:=hide e5; replace e6:=hide e6; replace e7:=hide e7; replace e8:=hide e8; replace eo:=hide eo
  replace hn0:=hide hn0
  replace hn1:=hide hn1
  replace hn2:=hide hn2
  replace hn3:=hide hn3
  replace hn4:=hide hn4
  replace hn5:=hide hn5
  have hB:=(nilb wr).add ⟨g,sg A.c x (.slice p0 n0 c0) (.slice p1 n1 c1) (.slice p2 n2 c2) B.c y (.slice p3 n3 c3) (.slice p4 n4 c4) (.slice p5 n5 c5),43⟩ hg (Nat.zero_le _) (by intro y hy; cases hy)
  simp only [List.nil_append] at hB
  clear hg hS
  replace hB:=hide hB
  go_upto_region 34 with fail
  replace hB:=unhide hB
  refine wp_region_lit ?_
  refine lvk (.int .i64 1) ?_
  simp only [nrm]
  (refine wpList_step fun K hK=>?_; replace hK:=hide hK; go_simp; refine unhide hK _ _ ?_; clear hK K)
  refine wpList_nil ?_
  replace hB:=hide hB
  go_upto_region 35 with fail
  replace hB:=unhide hB
  refine any_start (S:=fun v_=>v_.heap[g]?=some (.cells (sg A.c x (.slice p0 n0 c0) (.slice p1 n1 c1) (.slice p2 n2 c2) B.c y (.slice p3 n3 c3) (.slice p4 n4 c4) (.slice p5 n5 c5)) 43 (0,0))) (by kernel_rfl) ?_
  replace hA:=hide ((unhide hA).gr ((Gr.refl wr).drew))
  replace hD:=hide ((unhide hD).gr ((Gr.refl wr).drew))
  replace hXF:=hide ((unhide hXF).gr ((Gr.refl wr).drew))
  replace hXG:=hide ((unhide hXG).gr ((Gr.refl wr).drew))
  replace hB:=hB.drew
  generalize World.drew _=u7 at *
  simp only [List.size_toArray,List.length_cons,List.length_nil,Array.replicate,List.replicate]
  refine any_take (i:=0) (v:=(.int .i64 1)) (tf 11 0) rfl (by kernel_rfl) (by kernel_rfl) (by kernel_rfl) (by kernel_rfl) (fun c_ _ w_ h_=>unhide hQp c_ _ _ _ w_ h_) (.inl ⟨by kernel_rfl,fun x_ hu=>by kernel_rfl⟩) (hB.get 0 (x:=⟨g,sg A.c x (.slice p0 n0 c0) (.slice p1 n1 c1) (.slice p2 n2 c2) B.c y (.slice p3 n3 c3) (.slice p4 n4 c4) (.slice p5 n5 c5),43⟩) rfl) ?_
  simp only [nrm]
  refine any_take (i:=1) (v:=(.pointer (some ⟨g,8,none⟩))) (tf 11 1) rfl (by kernel_rfl) (by kernel_rfl) (by kernel_rfl) (by kernel_rfl) (fun c_ _ w_ h_=>unhide hQp c_ _ _ _ w_ h_) (.inl ⟨by kernel_rfl,fun x_ hu=>by kernel_rfl⟩) (hB.get 0 (x:=⟨g,sg A.c x (.slice p0 n0 c0) (.slice p1 n1 c1) (.slice p2 n2 c2) B.c y (.slice p3 n3 c3) (.slice p4 n4 c4) (.slice p5 n5 c5),43⟩) rfl) ?_
  simp only [nrm]
  refine any_take (i:=2) (v:=(.agg (sd B.c y (.slice p3 n3 c3) (.slice p4 n4 c4) (.slice p5 n5 c5)))) (tf 11 2) rfl (by kernel_rfl) (by kernel_rfl) (by kernel_rfl) (by kernel_rfl) (fun c_ _ w_ h_=>unhide hQp c_ _ _ _ w_ h_) (.inl ⟨by kernel_rfl,fun x_ hu=>exec_sr _ 42 (.tmp 188) rfl (g) 8 (by kernel_rfl) hu 8 8 (show 8+8≤16 by decide) rfl Try.underlying42 rfl (by kernel_rfl)⟩) (hB.get 0 (x:=⟨g,sg A.c x (.slice p0 n0 c0) (.slice p1 n1 c1) (.slice p2 n2 c2) B.c y (.slice p3 n3 c3) (.slice p4 n4 c4) (.slice p5 n5 c5),43⟩) rfl) ?_
  simp only [nrm]
  refine any_take (i:=3) (v:=(.int .i64 1)) (tf 11 3) rfl (by kernel_rfl) (by kernel_rfl) (by kernel_rfl) (by kernel_rfl) (fun c_ _ w_ h_=>unhide hQp c_ _ _ _ w_ h_) (.inl ⟨by kernel_rfl,fun x_ hu=>by kernel_rfl⟩) (hB.get 0 (x:=⟨g,sg A.c x (.slice p0 n0 c0) (.slice p1 n1 c1) (.slice p2 n2 c2) B.c y (.slice p3 n3 c3) (.slice p4 n4 c4) (.slice p5 n5 c5),43⟩) rfl) ?_
  simp only [nrm]
  refine any_take (i:=4) (v:=(.int .i64 0)) (tf 11 4) rfl (by kernel_rfl) (by kernel_rfl) (by kernel_rfl) (by kernel_rfl) (fun c_ _ w_ h_=>unhide hQp c_ _ _ _ w_ h_) (.inl ⟨by kernel_rfl,fun x_ hu=>by kernel_rfl⟩) (hB.get 0 (x:=⟨g,sg A.c x (.slice p0 n0 c0) (.slice p1 n1 c1) (.slice p2 n2 c2) B.c y (.slice p3 n3 c3) (.slice p4 n4 c4) (.slice p5 n5 c5),43⟩) rfl) ?_
  simp only [nrm]
  refine any_take (i:=5) (v:=(.pointer (some ⟨g,0,none⟩))) (tf 11 5) rfl (by kernel_rfl) (by kernel_rfl) (by kernel_rfl) (by kernel_rfl) (fun c_ _ w_ h_=>unhide hQp c_ _ _ _ w_ h_) (.inl ⟨by kernel_rfl,fun x_ hu=>by kernel_rfl⟩) (hB.get 0 (x:=⟨g,sg A.c x (.slice p0 n0 c0) (.slice p1 n1 c1) (.slice p2 n2 c2) B.c y (.slice p3 n3 c3) (.slice p4 n4 c4) (.slice p5 n5 c5),43⟩) rfl) ?_
  simp only [nrm]
  refine any_take (i:=6) (v:=(.agg (sd A.c x (.slice p0 n0 c0) (.slice p1 n1 c1) (.slice p2 n2 c2)))) (tf 11 6) rfl (by kernel_rfl) (by kernel_rfl) (by kernel_rfl) (by kernel_rfl) (fun c_ _ w_ h_=>unhide hQp c_ _ _ _ w_ h_) (.inl ⟨by kernel_rfl,fun x_ hu=>exec_sr _ 42 (.tmp 192) rfl (g) 0 (by kernel_rfl) hu 0 8 (show 0+8≤16 by decide) rfl Try.underlying42 rfl (by kernel_rfl)⟩) (hB.get 0 (x:=⟨g,sg A.c x (.slice p0 n0 c0) (.slice p1 n1 c1) (.slice p2 n2 c2) B.c y (.slice p3 n3 c3) (.slice p4 n4 c4) (.slice p5 n5 c5),43⟩) rfl) ?_
  simp only [nrm]
  refine any_allocs (i:=7) (j:=8) (fl [[.int .u32 0],[.slice none 0 0],[.int .i64 0],[.int .u32 0],[.slice none 0 0],[.slice none 0 0],[.slice none 0 0],[.slice none 0 0]]) (fl [[.int .u32 0],[.slice none 0 0],[.int .i64 0],[.int .u32 0],[.slice none 0 0],[.slice none 0 0],[.slice none 0 0],[.slice none 0 0]]) 42 42 (by kernel_rfl) (by kernel_rfl) (by kernel_rfl) rfl rfl (by kernel_rfl) (by kernel_rfl) (fun _=>by kernel_rfl) (fun _=>by kernel_rfl) (fun _ _=>by kernel_rfl) (fun _ _=>by kernel_rfl) (fun _ g_=>g_.blk (hB.get 0 (x:=⟨g,sg A.c x (.slice p0 n0 c0) (.slice p1 n1 c1) (.slice p2 n2 c2) B.c y (.slice p3 n3 c3) (.slice p4 n4 c4) (.slice p5 n5 c5),43⟩) rfl)) (fun _ _=>rfl) (by kernel_rfl) (fun g17 g18 u8 hne_ hl1_ hl2_ hg hn1_ hn2_=>?_)
  have hgl17:=Nat.le_trans (unhide hXG).size hl1_
  have hgl18:=Nat.le_trans (unhide hXG).size hl2_
  have hB1:=Bl.joinz hB (hB.more hg) hl1_ hn1_
  have hB2:=hB1.add ⟨g18,fl [[.int .u32 0],[.slice none 0 0],[.int .i64 0],[.int .u32 0],[.slice none 0 0],[.slice none 0 0],[.slice none 0 0],[.slice none 0 0]],42⟩ hn2_ (Nat.zero_le _) (fun y_ hy_=>by
   rcases List.mem_append.1 hy_ with h_ | h_
   ·have:=lt_of_block (hB.at_ y_ h_).1
    show y_.g≠g18
    omega
   ·rw [List.mem_singleton.1 h_]
    exact hne_)
  simp only [List.cons_append,List.nil_append] at hB2
  clear hB hB1
  have hB:=hB2
  clear hB2 hn1_ hn2_ hl1_ hl2_ hne_
  replace hA:=hide ((unhide hA).gr hg)
  replace hD:=hide ((unhide hD).gr hg)
  replace hXF:=hide ((unhide hXF).gr hg)
  replace hXG:=hide ((unhide hXG).gr hg)
  clear hg
  simp only [nrm]
  refine any_one (i:=9) (by kernel_rfl) rfl (fun K hK=>?_)
  have hzz_:Hid (u8.heap[g17]?=some (.cells (fl [[.int .u32 0],[.slice none 0 0],[.int .i64 0],[.int .u32 0],[.slice none 0 0],[.slice none 0 0],[.slice none 0 0],[.slice none 0 0]]) 42 (0,0))):=hide (hB.get 1 (x:=⟨g17,fl [[.int .u32 0],[.slice none 0 0],[.int .i64 0],[.int .u32 0],[.slice none 0 0],[.slice none 0 0],[.slice none 0 0],[.slice none 0 0]],42⟩) rfl)
  refine step_all 42 (.tmp 17) (.tmp 189) (g17) (S2:=[[.int .u32 B.c.nx],[.slice y.ao y.no y.co],[.int .i64 B.c.tn],[.int .u32 B.c.dl],[.slice y.ah y.nh y.ch],[.slice p3 n3 c3],[.slice p4 n4 c4],[.slice p5 n5 c5]]) (by kernel_rfl) rfl (by kernel_rfl) (by kernel_rfl) hB 1 rfl NSD (nSD  _ _ _ _ _ _ _ _) (nSD  _ _ _ _ _ _ _ _) (by kernel_rfl) (oSD  rfl rfl rfl rfl rfl rfl rfl rfl) ?_
  intro u9 hB_ hbt_
  clear hB
  replace hB:Bl (bare wr) [⟨g,sg A.c x (.slice p0 n0 c0) (.slice p1 n1 c1) (.slice p2 n2 c2) B.c y (.slice p3 n3 c3) (.slice p4 n4 c4) (.slice p5 n5 c5),43⟩,⟨g17,sd B.c y (.slice p3 n3 c3) (.slice p4 n4 c4) (.slice p5 n5 c5),42⟩,⟨g18,fl [[.int .u32 0],[.slice none 0 0],[.int .i64 0],[.int .u32 0],[.slice none 0 0],[.slice none 0 0],[.slice none 0 0],[.slice none 0 0]],42⟩] u9:=hB_
  clear hB_
  replace hA:=hide ((unhide hA).bz (unhide hzz_) hbt_)
  replace hD:=hide ((unhide hD).bz (unhide hzz_) hbt_)
  replace hXF:=hide ((unhide hXF).bo (unhide hzz_) hbt_ hXo hgl17)
  replace hXG:=hide ((unhide hXG).bl (unhide hzz_) hbt_ hgl17)
  clear hbt_ hzz_
  refine hK.out _ _ (hB.get 0 (x:=⟨g,sg A.c x (.slice p0 n0 c0) (.slice p1 n1 c1) (.slice p2 n2 c2) B.c y (.slice p3 n3 c3) (.slice p4 n4 c4) (.slice p5 n5 c5),43⟩) rfl) (fun _=>?_)
  clear hK K
  simp only [nrm]
  refine any_one (i:=10) (by kernel_rfl) rfl (fun K hK=>?_)
  have hzz_:Hid (u9.heap[g18]?=some (.cells (fl [[.int .u32 0],[.slice none 0 0],[.int .i64 0],[.int .u32 0],[.slice none 0 0],[.slice none 0 0],[.slice none 0 0],[.slice none 0 0]]) 42 (0,0))):=hide (hB.get 2 (x:=⟨g18,fl [[.int .u32 0],[.slice none 0 0],[.int .i64 0],[.int .u32 0],[.slice none 0 0],[.slice none 0 0],[.slice none 0 0],[.slice none 0 0]],42⟩) rfl)
  refine step_all 42 (.tmp 18) (.tmp 193) (g18) (S2:=[[.int .u32 A.c.nx],[.slice x.ao x.no x.co],[.int .i64 A.c.tn],[.int .u32 A.c.dl],[.slice x.ah x.nh x.ch],[.slice p0 n0 c0],[.slice p1 n1 c1],[.slice p2 n2 c2]]) (by kernel_rfl) rfl (by kernel_rfl) (by kernel_rfl) hB 2 rfl NSD (nSD  _ _ _ _ _ _ _ _) (nSD  _ _ _ _ _ _ _ _) (by kernel_rfl) (oSD  rfl rfl rfl rfl rfl rfl rfl rfl) ?_
  intro u10 hB_ hbt_
  clear hB
  replace hB:Bl (bare wr) [⟨g,sg A.c x (.slice p0 n0 c0) (.slice p1 n1 c1) (.slice p2 n2 c2) B.c y (.slice p3 n3 c3) (.slice p4 n4 c4) (.slice p5 n5 c5),43⟩,⟨g17,sd B.c y (.slice p3 n3 c3) (.slice p4 n4 c4) (.slice p5 n5 c5),42⟩,⟨g18,sd A.c x (.slice p0 n0 c0) (.slice p1 n1 c1) (.slice p2 n2 c2),42⟩] u10:=hB_
  clear hB_
  replace hA:=hide ((unhide hA).bz (unhide hzz_) hbt_)
  replace hD:=hide ((unhide hD).bz (unhide hzz_) hbt_)
  replace hXF:=hide ((unhide hXF).bo (unhide hzz_) hbt_ hXo hgl18)
  replace hXG:=hide ((unhide hXG).bl (unhide hzz_) hbt_ hgl18)
  clear hbt_ hzz_
  refine hK.out _ _ (hB.get 0 (x:=⟨g,sg A.c x (.slice p0 n0 c0) (.slice p1 n1 c1) (.slice p2 n2 c2) B.c y (.slice p3 n3 c3) (.slice p4 n4 c4) (.slice p5 n5 c5),43⟩) rfl) (fun _=>?_)
  clear hK K
  simp only [nrm]
  refine any_done (by kernel_rfl) ?_
  replace hB:=hide hB
  go_upto_region 36 with fail
  replace hB:=unhide hB
  refine wp_region_lit ?_
  refine wpList_gen fun ops_ hops=>?_
  replace hops:=hide hops
  refine list_val (.pointer (some ⟨g17,0,none⟩)) (by rw [unhide hops]; kernel_rfl) (by kernel_rfl) ?_
  simp only [nrm]
  refine list_val (.agg (cg B.c y)) (by rw [unhide hops]; kernel_rfl) (exec_sr _ 26 (.tmp 194) rfl (g17) 0 (by kernel_rfl) (hB.get 1 (x:=⟨g17,sd B.c y (.slice p3 n3 c3) (.slice p4 n4 c4) (.slice p5 n5 c5),42⟩) rfl) 0 5 (show 0+5≤8 by decide) rfl Try.underlying26 rfl (by kernel_rfl)) ?_
  simp only [nrm]
  refine list_call 8 #[.agg (cg B.c y)] (by rw [unhide hops]; kernel_rfl) (by kernel_rfl) (((show Calls Try.prog 8 #[.agg (cg B.c y)] u10 (Vl (.int .i64 0) u10) from by have h:=check_ok B.c y u10 (unhide hD).i; rw [unhide e7] at h; exact h)).mono ?_)
  rintro r_ u11 ⟨rfl,hg⟩
  replace hA:=hide ((unhide hA).gr hg)
  replace hD:=hide ((unhide hD).gr hg)
  replace hXF:=hide ((unhide hXF).gr hg)
  replace hXG:=hide ((unhide hXG).gr hg)
  replace hB:=hB.more hg
  clear hg
  refine ⟨_,rfl,?_⟩
  simp only [nrm]
  refine list_val (.bool false) (by rw [unhide hops]; kernel_rfl) (neq_e _ (.tmp 196) (.const (.int .i64 0)) 0 0 false rfl (by kernel_rfl) (by kernel_rfl) (by decide)) ?_
  simp only [nrm]
  refine list_val (.bool false) (by rw [unhide hops]; kernel_rfl) (by kernel_rfl) ?_
  simp only [nrm]
  refine list_val (.pointer (some ⟨g18,6,none⟩)) (by rw [unhide hops]; kernel_rfl) (by kernel_rfl) ?_
  simp only [nrm]
  refine list_val (.slice p1 n1 c1) (by rw [unhide hops]; kernel_rfl) (exec_csS _ (.tmp 199) rfl (g18) 6 (by kernel_rfl) p1 n1 c1 (seg_cell (nSD  _ _ _ _ _ _ _ _) (hB.get 2 (x:=⟨g18,sd A.c x (.slice p0 n0 c0) (.slice p1 n1 c1) (.slice p2 n2 c2),42⟩) rfl) 6 (v:=.slice p1 n1 c1) rfl rfl)) ?_
  simp only [nrm]
  refine list_val (.pointer (some ⟨g17,5,none⟩)) (by rw [unhide hops]; kernel_rfl) (by kernel_rfl) ?_
  simp only [nrm]
  refine list_val (.slice p3 n3 c3) (by rw [unhide hops]; kernel_rfl) (exec_csS _ (.tmp 201) rfl (g17) 5 (by kernel_rfl) p3 n3 c3 (seg_cell (nSD  _ _ _ _ _ _ _ _) (hB.get 1 (x:=⟨g17,sd B.c y (.slice p3 n3 c3) (.slice p4 n4 c4) (.slice p5 n5 c5),42⟩) rfl) 5 (v:=.slice p3 n3 c3) rfl rfl)) ?_
  simp only [nrm]
  refine list_call 14 #[.slice p1 n1 c1,.slice p3 n3 c3] (by rw [unhide hops]; kernel_rfl) (by kernel_rfl) (((begins_ok b u11 A.d B.q p1 p3 n1 c1 n3 c3 ((unhide hXF).own 1 _ rfl) ((unhide hXF).own 3 _ rfl) (unhide e6) (unhide e5))).mono ?_)
  rintro r_ u12 ⟨rfl,hg⟩
  replace hA:=hide ((unhide hA).gr hg)
  replace hD:=hide ((unhide hD).gr hg)
  replace hXF:=hide ((unhide hXF).gr hg)
  replace hXG:=hide ((unhide hXG).gr hg)
  replace hB:=hB.more hg
  clear hg
  refine ⟨_,rfl,?_⟩
  simp only [nrm]
  refine list_val (.bool false) (by rw [unhide hops]; kernel_rfl) (by kernel_rfl) ?_
  simp only [nrm]
  refine list_val (.bool false) (by rw [unhide hops]; kernel_rfl) (by kernel_rfl) ?_
  simp only [nrm]
  refine list_val (.bool false) (by rw [unhide hops]; kernel_rfl) (by kernel_rfl) ?_
  simp only [nrm]
  refine list_val (.pointer (some ⟨g17,0,none⟩)) (by rw [unhide hops]; kernel_rfl) (by kernel_rfl) ?_
  simp only [nrm]
  refine list_val (.pointer (some ⟨g17,0,none⟩)) (by rw [unhide hops]; kernel_rfl) (by kernel_rfl) ?_
  simp only [nrm]
  refine list_val (.int .u32 B.c.nx) (by rw [unhide hops]; kernel_rfl) (exec_c32 _ (.tmp 208) rfl (g17) 0 (by kernel_rfl) B.c.nx (seg_cell (nSD  _ _ _ _ _ _ _ _) (hB.get 1 (x:=⟨g17,sd B.c y (.slice p3 n3 c3) (.slice p4 n4 c4) (.slice p5 n5 c5),42⟩) rfl) 0 (v:=.int .u32 B.c.nx) rfl rfl)) ?_
  simp only [nrm]
  refine list_val (.int .i64 B.c.nx) (by rw [unhide hops]; kernel_rfl) (conv_i64 _ (.tmp 209) B.c.nx rfl (by kernel_rfl) (unhide hD).i.nx) ?_
  simp only [nrm]
  refine list_val (.pointer (some ⟨g17,0,none⟩)) (by rw [unhide hops]; kernel_rfl) (by kernel_rfl) ?_
  simp only [nrm]
  refine list_val (.pointer (some ⟨g17,1,none⟩)) (by rw [unhide hops]; kernel_rfl) (by kernel_rfl) ?_
  simp only [nrm]
  refine list_val (.slice y.ao y.no y.co) (by rw [unhide hops]; kernel_rfl) (exec_csO _ (.tmp 212) rfl (g17) 1 (by kernel_rfl) y.ao y.no y.co (seg_cell (nSD  _ _ _ _ _ _ _ _) (hB.get 1 (x:=⟨g17,sd B.c y (.slice p3 n3 c3) (.slice p4 n4 c4) (.slice p5 n5 c5),42⟩) rfl) 1 (v:=.slice y.ao y.no y.co) rfl rfl)) ?_
  simp only [nrm]
  refine list_val (.int .i64 y.no) (by rw [unhide hops]; kernel_rfl) (by kernel_rfl) ?_
  simp only [nrm]
  refine list_val (.int .i64 (B.c.nx - (y.no:Int))) (by rw [unhide hops]; kernel_rfl) (sub_i _ (.tmp 210) (.tmp 214) B.c.nx (y.no:Int) rfl (by kernel_rfl) (by kernel_rfl) _ rfl (by have h1:=unhide e1; have h2:=unhide e3; have h3:=unhide eo; have h4:=unhide e8; omega)) ?_
  simp only [nrm]
  refine list_val (.pointer (some ⟨g18,6,none⟩)) (by rw [unhide hops]; kernel_rfl) (by kernel_rfl) ?_
  simp only [nrm]
  refine list_val (.slice p1 n1 c1) (by rw [unhide hops]; kernel_rfl) (exec_csS _ (.tmp 216) rfl (g18) 6 (by kernel_rfl) p1 n1 c1 (seg_cell (nSD  _ _ _ _ _ _ _ _) (hB.get 2 (x:=⟨g18,sd A.c x (.slice p0 n0 c0) (.slice p1 n1 c1) (.slice p2 n2 c2),42⟩) rfl) 6 (v:=.slice p1 n1 c1) rfl rfl)) ?_
  simp only [nrm]
  refine list_val (.int .i64 n1) (by rw [unhide hops]; kernel_rfl) (by kernel_rfl) ?_
  simp only [nrm]
  refine list_val (.bool false) (by rw [unhide hops]; kernel_rfl) (gtr_i _ (.tmp 215) (.tmp 218) (B.c.nx - (y.no:Int)) (n1:Int) false rfl (by kernel_rfl) (by kernel_rfl) (decide_eq_false (by have h1:=unhide e1; have h2:=unhide e3; have h3:=unhide eo; have h4:=unhide hn1; omega))) ?_
  simp only [nrm]
  refine list_val (.bool false) (by rw [unhide hops]; kernel_rfl) (by kernel_rfl) ?_
  simp only [nrm]
  refine list_val (.bool false) (by rw [unhide hops]; kernel_rfl) (by kernel_rfl) ?_
  simp only [nrm]
  refine list_val (.pointer (some ⟨g18,0,none⟩)) (by rw [unhide hops]; kernel_rfl) (by kernel_rfl) ?_
  simp only [nrm]
  refine list_val (.pointer (some ⟨g18,3,none⟩)) (by rw [unhide hops]; kernel_rfl) (by kernel_rfl) ?_
  simp only [nrm]
  refine list_val (.int .u32 A.c.dl) (by rw [unhide hops]; kernel_rfl) (exec_c32 _ (.tmp 223) rfl (g18) 3 (by kernel_rfl) A.c.dl (seg_cell (nSD  _ _ _ _ _ _ _ _) (hB.get 2 (x:=⟨g18,sd A.c x (.slice p0 n0 c0) (.slice p1 n1 c1) (.slice p2 n2 c2),42⟩) rfl) 3 (v:=.int .u32 A.c.dl) rfl rfl)) ?_
  simp only [nrm]
  refine list_val (.int .i64 A.c.dl) (by rw [unhide hops]; kernel_rfl) (conv_i64 _ (.tmp 224) A.c.dl rfl (by kernel_rfl) (unhide hA).i.dl) ?_
  simp only [nrm]
  refine list_val (.pointer (some ⟨g18,6,none⟩)) (by rw [unhide hops]; kernel_rfl) (by kernel_rfl) ?_
  simp only [nrm]
  refine list_val (.slice p1 n1 c1) (by rw [unhide hops]; kernel_rfl) (exec_csS _ (.tmp 226) rfl (g18) 6 (by kernel_rfl) p1 n1 c1 (seg_cell (nSD  _ _ _ _ _ _ _ _) (hB.get 2 (x:=⟨g18,sd A.c x (.slice p0 n0 c0) (.slice p1 n1 c1) (.slice p2 n2 c2),42⟩) rfl) 6 (v:=.slice p1 n1 c1) rfl rfl)) ?_
  simp only [nrm]
  refine list_val (.int .i64 n1) (by rw [unhide hops]; kernel_rfl) (by kernel_rfl) ?_
  simp only [nrm]
  refine list_val (.bool false) (by rw [unhide hops]; kernel_rfl) (neq_i _ (.tmp 225) (.tmp 228) A.c.dl (n1:Int) false rfl (by kernel_rfl) (by kernel_rfl) (decide_eq_false (by have h1:=unhide e2; have h4:=unhide hn1; omega))) ?_
  simp only [nrm]
  refine list_val (.bool false) (by rw [unhide hops]; kernel_rfl) (by kernel_rfl) ?_
  simp only [nrm]
  refine list_val (.bool false) (by rw [unhide hops]; kernel_rfl) (by kernel_rfl) ?_
  simp only [nrm]
  refine list_val (.pointer (some ⟨g17,0,none⟩)) (by rw [unhide hops]; kernel_rfl) (by kernel_rfl) ?_
  simp only [nrm]
  refine list_val (.pointer (some ⟨g17,0,none⟩)) (by rw [unhide hops]; kernel_rfl) (by kernel_rfl) ?_
  simp only [nrm]
  refine list_val (.int .u32 B.c.nx) (by rw [unhide hops]; kernel_rfl) (exec_c32 _ (.tmp 233) rfl (g17) 0 (by kernel_rfl) B.c.nx (seg_cell (nSD  _ _ _ _ _ _ _ _) (hB.get 1 (x:=⟨g17,sd B.c y (.slice p3 n3 c3) (.slice p4 n4 c4) (.slice p5 n5 c5),42⟩) rfl) 0 (v:=.int .u32 B.c.nx) rfl rfl)) ?_
  simp only [nrm]
  refine list_val (.int .i64 B.c.nx) (by rw [unhide hops]; kernel_rfl) (conv_i64 _ (.tmp 234) B.c.nx rfl (by kernel_rfl) (unhide hD).i.nx) ?_
  simp only [nrm]
  refine list_val (.pointer (some ⟨g17,5,none⟩)) (by rw [unhide hops]; kernel_rfl) (by kernel_rfl) ?_
  simp only [nrm]
  refine list_val (.slice p3 n3 c3) (by rw [unhide hops]; kernel_rfl) (exec_csS _ (.tmp 236) rfl (g17) 5 (by kernel_rfl) p3 n3 c3 (seg_cell (nSD  _ _ _ _ _ _ _ _) (hB.get 1 (x:=⟨g17,sd B.c y (.slice p3 n3 c3) (.slice p4 n4 c4) (.slice p5 n5 c5),42⟩) rfl) 5 (v:=.slice p3 n3 c3) rfl rfl)) ?_
  simp only [nrm]
  refine list_val (.int .i64 n3) (by rw [unhide hops]; kernel_rfl) (by kernel_rfl) ?_
  simp only [nrm]
  refine list_val (.bool false) (by rw [unhide hops]; kernel_rfl) (neq_i _ (.tmp 235) (.tmp 238) B.c.nx (n3:Int) false rfl (by kernel_rfl) (by kernel_rfl) (decide_eq_false (by have h1:=unhide e1; have h4:=unhide hn3; omega))) ?_
  simp only [nrm]
  refine list_val (.bool false) (by rw [unhide hops]; kernel_rfl) (by kernel_rfl) ?_
  simp only [nrm]
  refine wpList_nil ?_
  have hS:Hid (St b u12 g A B):=hide ⟨x,y,.slice p0 n0 c0,.slice p1 n1 c1,.slice p2 n2 c2,.slice p3 n3 c3,.slice p4 n4 c4,.slice p5 n5 c5,hB.get 0 (x:=⟨g,sg A.c x (.slice p0 n0 c0) (.slice p1 n1 c1) (.slice p2 n2 c2) B.c y (.slice p3 n3 c3) (.slice p4 n4 c4) (.slice p5 n5 c5),43⟩) rfl,unhide hA,unhide hD,unhide hXF,unhide hU,unhide hV⟩
  have hG2:=hide ((unhide hG).trans (unhide hXG).cg)
  have jw:IntKind.i64.wrap ((1:Int)+1)=2:=by rw [IntKind.wrap_i64]; decide
  replace hB:=hide hB
  go_wp2_with fail
  go_roundw
  case rel=>exact ⟨2,.inr (.inr rfl),by simp,hS,hG2⟩
  case measure=>simp [intOf]
 ·have jI:¬ (2:Int)<2:=by decide
  go_wp2_with fail
  exact unhide hQ _ _ _ _ _ _ _ _ _ _ _ _ _ _ _ _ _ _ _ _ _ _ _ _ _ _ _ _ _ _ _ _ _ _ _ _ _ _ _ _ _ _ _ _ _ _ _ _ _ _ _ _ _ _ _ _ _ _ _ _ _ _ _ (unhide hS) (unhide hG)
end Go.Proofs.Ytcefkkoombmndab
namespace Go.Proofs.Ytcefkkoombmndab
open Go.RowKit
set_option maxRecDepth 100000
set_option linter.unusedSimpArgs false
set_option linter.unusedVariables false
set_option maxHeartbeats 4000000 in
theorem switch0 (b g gt n i:Nat) (ki ix_ rm kd:Int) (lo:Bool) (A B:Sd) (w:World) (z0 z1 z2 z8 z9 z10 z11 z12 z13 z14 z15 z16 z17 z18 z19 z20 z21 z22 z23 z24 z25 z26 z27 z28 z29 z30 z31 z32 z33 z34 z35 z36 z37 z38 z39 z40 z41 z42 z43 z44 z45 z46 z47 z49 z50 z51 z52 z53 z54 z55 z56 z57 z58 z59 z60 z61 z62 z63 z64 z65 z66 z67 z68 z69 z70 z71 z72 z73 z74 z75 z76 z77 z78 z79 z80 z81 z82 z83 z84 z85 z86 z87 z88 z89 z90 z91 z92 z93 z94 z95 z96 z97 z98 z99 z100 z101 z102 z103 z104 z105 z106 z107 z108 z109 z110 z111 z112 z113 z114 z115 z116 z117 z118 z119 z120 z121 z122 z123 z124 z125 z126 z127 z128 z129 z130 z131 z132 z133 z134 z135 z136 z137 z138 z139 z140 z141 z142 z143 z144 z145 z146 z147 z148 z149 z150 z151 z152 z153 z154 z155 z156 z157 z158 z159 z160 z161 z162 z163 z164 z165 z166 z167 z168 z169 z170 z171 z172 z173 z174 z175 z176 z177 z178 z179 z180 z181 z182 z183 z184 z185 z186 z187 z188 z189 z190 z191 z192 z193 z194 z195 z196 z197 z198 z199 z200 z201 z202 z203 z204 z205 z206 z207 z208 z209 z210 z211 z212 z213 z214 z215 z216 z217 z218 z219 z220 z221 z222 z223 z224 z225 z226 z227 z228 z229 z230 z231 z232 z233 z234 z235 z236 z237 z238 z239 z240 z241 z242:Value) (Q:Exit→Act→World→Prop) (hb:b≤w.heap.size) (hbg:b≤g) (hS:St b w g A B) (hI:Inv A B) (hN:Bd n A B) (hn:n<400) (hi:i<400) (hgt:w.heap[gt]?=some (.cells ((cst ki ix_ rm lo)) 45 (0,0))) (hQp:∀ c a (d:Nat) v w,Q (.panic c) (Act.put a (some d) v) w→Q (.panic c) a w) (hQ:∀ u2 u8 u9 u10 u11 u12 u13 u14 u15 u49 u50 u51 u52 u53 u54 u55 u56 u57 u58 u59 u60 u61 u62 u63 u64 u65 u66 u67 u68 u69 u70 u71 u72 u73 u74 u75 u76 u77 u78 u79 u80 u81 u82 u83 u84 u85 u86 u87 u88 u89 u90 u91 u92 u93 u94 u95 u96 u97 u98 u99 u100 u101 u102 u103 u104 u105 u106 u107 u108 u109 u110 u111 u112 u113 u114 u115 u116 u117 u118 u119 u120 u121 u122 u123 u124 u125 u126 u127 u128 u129 u130 u131 u132 u133 u134 u135 u136 u137 u138 u139 u140 u141 u142 u143 u144 u145 u146 u147 u148 u149 u150 u151 u152 u153 u154 u155 u156 u157 u158 u159 u160 u161 u162 u163 u164 u165 u166 u167 u168 u169 u170 u171 u172 u173 u174 u175 u176 u177 u178 u179 u180 u181 u182 u183:Value,∀ (A' B':Sd) (w':World),St b w' g A' B'→Inv A' B'→Cg g b w w'→Bd (n+1) A' B'→Q .normal ⟨#[z0,z1,u2,.pointer (some ⟨g,0,none⟩),.int .i64 (i:Int),.pointer (some ⟨gt,0,none⟩),.pointer (some ⟨g,0,none⟩),.pointer (some ⟨g,8,none⟩),u8,u9,u10,u11,u12,u13,u14,u15,z16,z17,z18,z19,z20,z21,z22,z23,z24,z25,z26,z27,z28,z29,z30,z31,z32,z33,z34,z35,z36,z37,z38,z39,z40,z41,z42,z43,z44,z45,z46,z47,.int .u64 kd,u49,u50,u51,u52,u53,u54,u55,u56,u57,u58,u59,u60,u61,u62,u63,u64,u65,u66,u67,u68,u69,u70,u71,u72,u73,u74,u75,u76,u77,u78,u79,u80,u81,u82,u83,u84,u85,u86,u87,u88,u89,u90,u91,u92,u93,u94,u95,u96,u97,u98,u99,u100,u101,u102,u103,u104,u105,u106,u107,u108,u109,u110,u111,u112,u113,u114,u115,u116,u117,u118,u119,u120,u121,u122,u123,u124,u125,u126,u127,u128,u129,u130,u131,u132,u133,u134,u135,u136,u137,u138,u139,u140,u141,u142,u143,u144,u145,u146,u147,u148,u149,u150,u151,u152,u153,u154,u155,u156,u157,u158,u159,u160,u161,u162,u163,u164,u165,u166,u167,u168,u169,u170,u171,u172,u173,u174,u175,u176,u177,u178,u179,u180,u181,u182,u183,z184,z185,z186,z187,z188,z189,z190,z191,z192,z193,z194,z195,z196,z197,z198,z199,z200,z201,z202,z203,z204,z205,z206,z207,z208,z209,z210,z211,z212,z213,z214,z215,z216,z217,z218,z219,z220,z221,z222,z223,z224,z225,z226,z227,z228,z229,z230,z231,z232,z233,z234,z235,z236,z237,z238,z239,z240,z241,z242],[]⟩ w'):Code.wp Try.prog oSwitch Q ⟨#[z0,z1,z2,.pointer (some ⟨g,0,none⟩),.int .i64 (i:Int),.pointer (some ⟨gt,0,none⟩),.pointer (some ⟨g,0,none⟩),.pointer (some ⟨g,8,none⟩),z8,z9,z10,z11,z12,z13,z14,z15,z16,z17,z18,z19,z20,z21,z22,z23,z24,z25,z26,z27,z28,z29,z30,z31,z32,z33,z34,z35,z36,z37,z38,z39,z40,z41,z42,z43,z44,z45,z46,z47,.int .u64 kd,z49,z50,z51,z52,z53,z54,z55,z56,z57,z58,z59,z60,z61,z62,z63,z64,z65,z66,z67,z68,z69,z70,z71,z72,z73,z74,z75,z76,z77,z78,z79,z80,z81,z82,z83,z84,z85,z86,z87,z88,z89,z90,z91,z92,z93,z94,z95,z96,z97,z98,z99,z100,z101,z102,z103,z104,z105,z106,z107,z108,z109,z110,z111,z112,z113,z114,z115,z116,z117,z118,z119,z120,z121,z122,z123,z124,z125,z126,z127,z128,z129,z130,z131,z132,z133,z134,z135,z136,z137,z138,z139,z140,z141,z142,z143,z144,z145,z146,z147,z148,z149,z150,z151,z152,z153,z154,z155,z156,z157,z158,z159,z160,z161,z162,z163,z164,z165,z166,z167,z168,z169,z170,z171,z172,z173,z174,z175,z176,z177,z178,z179,z180,z181,z182,z183,z184,z185,z186,z187,z188,z189,z190,z191,z192,z193,z194,z195,z196,z197,z198,z199,z200,z201,z202,z203,z204,z205,z206,z207,z208,z209,z210,z211,z212,z213,z214,z215,z216,z217,z218,z219,z220,z221,z222,z223,z224,z225,z226,z227,z228,z229,z230,z231,z232,z233,z234,z235,z236,z237,z238,z239,z240,z241,z242],[]⟩ w:=by
 have hn4:n≤400:=Nat.le_of_lt hn
 by_cases h0:kd=0
 ·subst h0
  by_cases h4:A.c.O.length=4
  ·exact br_queuefull0 b g n i A B w _ _ _ _ _ _ _ _ _ _ _ _ _ _ _ _ _ _ _ _ _ _ _ _ _ _ _ _ _ _ _ _ _ _ _ _ _ _ _ _ _ _ _ _ _ _ _ _ _ _ _ _ _ _ _ _ _ _ _ _ _ _ _ _ _ _ _ _ _ _ _ _ _ _ _ _ _ _ _ _ _ _ _ _ _ _ _ _ _ _ _ _ _ _ _ _ _ _ _ _ _ _ _ _ _ _ _ _ _ _ _ _ _ _ _ _ _ _ _ _ _ _ _ _ _ _ _ _ _ _ _ _ _ _ _ _ _ _ _ _ _ _ _ _ _ _ _ _ _ _ _ _ _ _ _ _ _ _ _ _ _ _ _ _ _ _ _ _ _ _ _ _ _ _ _ _ _ _ _ _ _ _ _ _ _ _ _ _ _ _ _ _ _ _ _ _ _ _ _ _ _ _ _ _ _ _ _ _ _ _ _ _ _ _ _ _ _ _ _ _ _ _ _ _ _ _ _ _ _ _ _ _ _ _ _ _ _ _ Q hb hbg hS hI hN hn hi hQp h4 hQ
  ·exact br_queue0 b g n i A B w _ _ _ _ _ _ _ _ _ _ _ _ _ _ _ _ _ _ _ _ _ _ _ _ _ _ _ _ _ _ _ _ _ _ _ _ _ _ _ _ _ _ _ _ _ _ _ _ _ _ _ _ _ _ _ _ _ _ _ _ _ _ _ _ _ _ _ _ _ _ _ _ _ _ _ _ _ _ _ _ _ _ _ _ _ _ _ _ _ _ _ _ _ _ _ _ _ _ _ _ _ _ _ _ _ _ _ _ _ _ _ _ _ _ _ _ _ _ _ _ _ _ _ _ _ _ _ _ _ _ _ _ _ _ _ _ _ _ _ _ _ _ _ _ _ _ _ _ _ _ _ _ _ _ _ _ _ _ _ _ _ _ _ _ _ _ _ _ _ _ _ _ _ _ _ _ _ _ _ _ _ _ _ _ _ _ _ _ _ _ _ _ _ _ _ _ _ _ _ _ _ _ _ _ _ _ _ _ _ _ _ _ _ _ _ _ _ _ _ _ _ _ _ _ _ _ _ _ _ _ _ _ _ _ _ _ _ _ Q hb hbg hS hI hN hn hi hQp h4 hQ
 by_cases h1:kd=1
 ·subst h1
  by_cases hO:A.c.O.length=0
  ·exact br_saynone0 b g n A B w _ _ _ _ _ _ _ _ _ _ _ _ _ _ _ _ _ _ _ _ _ _ _ _ _ _ _ _ _ _ _ _ _ _ _ _ _ _ _ _ _ _ _ _ _ _ _ _ _ _ _ _ _ _ _ _ _ _ _ _ _ _ _ _ _ _ _ _ _ _ _ _ _ _ _ _ _ _ _ _ _ _ _ _ _ _ _ _ _ _ _ _ _ _ _ _ _ _ _ _ _ _ _ _ _ _ _ _ _ _ _ _ _ _ _ _ _ _ _ _ _ _ _ _ _ _ _ _ _ _ _ _ _ _ _ _ _ _ _ _ _ _ _ _ _ _ _ _ _ _ _ _ _ _ _ _ _ _ _ _ _ _ _ _ _ _ _ _ _ _ _ _ _ _ _ _ _ _ _ _ _ _ _ _ _ _ _ _ _ _ _ _ _ _ _ _ _ _ _ _ _ _ _ _ _ _ _ _ _ _ _ _ _ _ _ _ _ _ _ _ _ _ _ _ _ _ _ _ _ _ _ _ _ _ _ _ _ _ _ Q hb hbg hS hI hN hn4 hO hQ
  ·exact br_saysome0 b g n A B w _ _ _ _ _ _ _ _ _ _ _ _ _ _ _ _ _ _ _ _ _ _ _ _ _ _ _ _ _ _ _ _ _ _ _ _ _ _ _ _ _ _ _ _ _ _ _ _ _ _ _ _ _ _ _ _ _ _ _ _ _ _ _ _ _ _ _ _ _ _ _ _ _ _ _ _ _ _ _ _ _ _ _ _ _ _ _ _ _ _ _ _ _ _ _ _ _ _ _ _ _ _ _ _ _ _ _ _ _ _ _ _ _ _ _ _ _ _ _ _ _ _ _ _ _ _ _ _ _ _ _ _ _ _ _ _ _ _ _ _ _ _ _ _ _ _ _ _ _ _ _ _ _ _ _ _ _ _ _ _ _ _ _ _ _ _ _ _ _ _ _ _ _ _ _ _ _ _ _ _ _ _ _ _ _ _ _ _ _ _ _ _ _ _ _ _ _ _ _ _ _ _ _ _ _ _ _ _ _ _ _ _ _ _ _ _ _ _ _ _ _ _ _ _ _ _ _ _ _ _ _ _ _ _ _ _ _ _ _ Q hb hbg hS hI hN hn4 hO hQ
 by_cases hw:A.w.length=0
 ·exact br_none0 b g gt n ki ix_ rm kd lo A B w _ _ _ _ _ _ _ _ _ _ _ _ _ _ _ _ _ _ _ _ _ _ _ _ _ _ _ _ _ _ _ _ _ _ _ _ _ _ _ _ _ _ _ _ _ _ _ _ _ _ _ _ _ _ _ _ _ _ _ _ _ _ _ _ _ _ _ _ _ _ _ _ _ _ _ _ _ _ _ _ _ _ _ _ _ _ _ _ _ _ _ _ _ _ _ _ _ _ _ _ _ _ _ _ _ _ _ _ _ _ _ _ _ _ _ _ _ _ _ _ _ _ _ _ _ _ _ _ _ _ _ _ _ _ _ _ _ _ _ _ _ _ _ _ _ _ _ _ _ _ _ _ _ _ _ _ _ _ _ _ _ _ _ _ _ _ _ _ _ _ _ _ _ _ _ _ _ _ _ _ _ _ _ _ _ _ _ _ _ _ _ _ _ _ _ _ _ _ _ _ _ _ _ _ _ _ _ _ _ _ _ _ _ _ _ _ _ _ _ _ _ _ _ _ _ _ _ _ _ _ _ _ _ _ _ _ _ _ Q hb hbg hS hI hN hn4 hgt hQp h0 h1 hw hQ
 have hw0:0<A.w.length:=by omega
 cases lo with
 | true=>exact br_lose0 b g gt n ki ix_ rm kd A B w _ _ _ _ _ _ _ _ _ _ _ _ _ _ _ _ _ _ _ _ _ _ _ _ _ _ _ _ _ _ _ _ _ _ _ _ _ _ _ _ _ _ _ _ _ _ _ _ _ _ _ _ _ _ _ _ _ _ _ _ _ _ _ _ _ _ _ _ _ _ _ _ _ _ _ _ _ _ _ _ _ _ _ _ _ _ _ _ _ _ _ _ _ _ _ _ _ _ _ _ _ _ _ _ _ _ _ _ _ _ _ _ _ _ _ _ _ _ _ _ _ _ _ _ _ _ _ _ _ _ _ _ _ _ _ _ _ _ _ _ _ _ _ _ _ _ _ _ _ _ _ _ _ _ _ _ _ _ _ _ _ _ _ _ _ _ _ _ _ _ _ _ _ _ _ _ _ _ _ _ _ _ _ _ _ _ _ _ _ _ _ _ _ _ _ _ _ _ _ _ _ _ _ _ _ _ _ _ _ _ _ _ _ _ _ _ _ _ _ _ _ _ _ _ _ _ _ _ _ _ _ _ _ _ _ _ _ _ Q hb hbg hS hI hN hn4 hgt hQp h0 h1 hw0 hQ
 | false =>
  obtain ⟨u,hu⟩:∃ u,A.w[ix ix_ A.w.length]?=some u:=⟨_,List.getElem?_eq_getElem (ix_lt ix_ hw0)⟩
  have hwy:=(hI).1.way u (List.mem_of_getElem? hu)
  have hsz:=(hI).1.sz
  obtain ⟨ua,us,uB,ui⟩:=u
  cases ui with
  | true=>exact br_idle0 b g gt n ki ix_ rm kd A B w _ _ _ _ _ _ _ _ _ _ _ _ _ _ _ _ _ _ _ _ _ _ _ _ _ _ _ _ _ _ _ _ _ _ _ _ _ _ _ _ _ _ _ _ _ _ _ _ _ _ _ _ _ _ _ _ _ _ _ _ _ _ _ _ _ _ _ _ _ _ _ _ _ _ _ _ _ _ _ _ _ _ _ _ _ _ _ _ _ _ _ _ _ _ _ _ _ _ _ _ _ _ _ _ _ _ _ _ _ _ _ _ _ _ _ _ _ _ _ _ _ _ _ _ _ _ _ _ _ _ _ _ _ _ _ _ _ _ _ _ _ _ _ _ _ _ _ _ _ _ _ _ _ _ _ _ _ _ _ _ _ _ _ _ _ _ _ _ _ _ _ _ _ _ _ _ _ _ _ _ _ _ _ _ _ _ _ _ _ _ _ _ _ _ _ _ _ _ _ _ _ _ _ _ _ _ _ _ _ _ _ _ _ _ _ _ _ _ _ _ _ _ _ _ _ _ _ _ _ _ _ _ _ _ _ _ _ _ Q hb hbg hS hI hN hn4 hgt hQp h0 h1 ua us uB hw0 hu hQ
  | false =>
   obtain ⟨t,ht,hB⟩:=hwy.2.2 rfl
   dsimp only at ht hB
   subst hB
   by_cases hwt:wt (ak B.c ua).1 us rm=true
   ·exact br_take0 b g gt n ki ix_ rm kd A B w _ _ _ _ _ _ _ _ _ _ _ _ _ _ _ _ _ _ _ _ _ _ _ _ _ _ _ _ _ _ _ _ _ _ _ _ _ _ _ _ _ _ _ _ _ _ _ _ _ _ _ _ _ _ _ _ _ _ _ _ _ _ _ _ _ _ _ _ _ _ _ _ _ _ _ _ _ _ _ _ _ _ _ _ _ _ _ _ _ _ _ _ _ _ _ _ _ _ _ _ _ _ _ _ _ _ _ _ _ _ _ _ _ _ _ _ _ _ _ _ _ _ _ _ _ _ _ _ _ _ _ _ _ _ _ _ _ _ _ _ _ _ _ _ _ _ _ _ _ _ _ _ _ _ _ _ _ _ _ _ _ _ _ _ _ _ _ _ _ _ _ _ _ _ _ _ _ _ _ _ _ _ _ _ _ _ _ _ _ _ _ _ _ _ _ _ _ _ _ _ _ _ _ _ _ _ _ _ _ _ _ _ _ _ _ _ _ _ _ _ _ _ _ _ _ _ _ _ _ _ _ _ _ _ _ _ _ _ Q hb hbg hS hI hN hn4 hgt hQp h0 h1 ua us t (hsz t (List.mem_of_getElem? ht)) hw0 hu ht hwt hQ
   ·exact br_unw0 b g gt n ki ix_ rm kd A B w _ _ _ _ _ _ _ _ _ _ _ _ _ _ _ _ _ _ _ _ _ _ _ _ _ _ _ _ _ _ _ _ _ _ _ _ _ _ _ _ _ _ _ _ _ _ _ _ _ _ _ _ _ _ _ _ _ _ _ _ _ _ _ _ _ _ _ _ _ _ _ _ _ _ _ _ _ _ _ _ _ _ _ _ _ _ _ _ _ _ _ _ _ _ _ _ _ _ _ _ _ _ _ _ _ _ _ _ _ _ _ _ _ _ _ _ _ _ _ _ _ _ _ _ _ _ _ _ _ _ _ _ _ _ _ _ _ _ _ _ _ _ _ _ _ _ _ _ _ _ _ _ _ _ _ _ _ _ _ _ _ _ _ _ _ _ _ _ _ _ _ _ _ _ _ _ _ _ _ _ _ _ _ _ _ _ _ _ _ _ _ _ _ _ _ _ _ _ _ _ _ _ _ _ _ _ _ _ _ _ _ _ _ _ _ _ _ _ _ _ _ _ _ _ _ _ _ _ _ _ _ _ _ _ _ _ _ _ Q hb hbg hS hI hN hn4 hgt hQp h0 h1 ua us (bdy t) hw0 hu (by simpa using hwt) hQ
set_option maxHeartbeats 4000000 in
theorem switch1 (b g gt n i:Nat) (ki ix_ rm kd:Int) (lo:Bool) (A B:Sd) (w:World) (z0 z1 z2 z8 z9 z10 z11 z12 z13 z14 z15 z16 z17 z18 z19 z20 z21 z22 z23 z24 z25 z26 z27 z28 z29 z30 z31 z32 z33 z34 z35 z36 z37 z38 z39 z40 z41 z42 z43 z44 z45 z46 z47 z49 z50 z51 z52 z53 z54 z55 z56 z57 z58 z59 z60 z61 z62 z63 z64 z65 z66 z67 z68 z69 z70 z71 z72 z73 z74 z75 z76 z77 z78 z79 z80 z81 z82 z83 z84 z85 z86 z87 z88 z89 z90 z91 z92 z93 z94 z95 z96 z97 z98 z99 z100 z101 z102 z103 z104 z105 z106 z107 z108 z109 z110 z111 z112 z113 z114 z115 z116 z117 z118 z119 z120 z121 z122 z123 z124 z125 z126 z127 z128 z129 z130 z131 z132 z133 z134 z135 z136 z137 z138 z139 z140 z141 z142 z143 z144 z145 z146 z147 z148 z149 z150 z151 z152 z153 z154 z155 z156 z157 z158 z159 z160 z161 z162 z163 z164 z165 z166 z167 z168 z169 z170 z171 z172 z173 z174 z175 z176 z177 z178 z179 z180 z181 z182 z183 z184 z185 z186 z187 z188 z189 z190 z191 z192 z193 z194 z195 z196 z197 z198 z199 z200 z201 z202 z203 z204 z205 z206 z207 z208 z209 z210 z211 z212 z213 z214 z215 z216 z217 z218 z219 z220 z221 z222 z223 z224 z225 z226 z227 z228 z229 z230 z231 z232 z233 z234 z235 z236 z237 z238 z239 z240 z241 z242:Value) (Q:Exit→Act→World→Prop) (hb:b≤w.heap.size) (hbg:b≤g) (hS:St b w g A B) (hI:Inv A B) (hN:Bd n A B) (hn:n<400) (hi:i<400) (hgt:w.heap[gt]?=some (.cells ((cst ki ix_ rm lo)) 45 (0,0))) (hQp:∀ c a (d:Nat) v w,Q (.panic c) (Act.put a (some d) v) w→Q (.panic c) a w) (hQ:∀ u2 u8 u9 u10 u11 u12 u13 u14 u15 u49 u50 u51 u52 u53 u54 u55 u56 u57 u58 u59 u60 u61 u62 u63 u64 u65 u66 u67 u68 u69 u70 u71 u72 u73 u74 u75 u76 u77 u78 u79 u80 u81 u82 u83 u84 u85 u86 u87 u88 u89 u90 u91 u92 u93 u94 u95 u96 u97 u98 u99 u100 u101 u102 u103 u104 u105 u106 u107 u108 u109 u110 u111 u112 u113 u114 u115 u116 u117 u118 u119 u120 u121 u122 u123 u124 u125 u126 u127 u128 u129 u130 u131 u132 u133 u134 u135 u136 u137 u138 u139 u140 u141 u142 u143 u144 u145 u146 u147 u148 u149 u150 u151 u152 u153 u154 u155 u156 u157 u158 u159 u160 u161 u162 u163 u164 u165 u166 u167 u168 u169 u170 u171 u172 u173 u174 u175 u176 u177 u178 u179 u180 u181 u182 u183:Value,∀ (A' B':Sd) (w':World),St b w' g A' B'→Inv A' B'→Cg g b w w'→Bd (n+1) A' B'→Q .normal ⟨#[z0,z1,u2,.pointer (some ⟨g,0,none⟩),.int .i64 (i:Int),.pointer (some ⟨gt,0,none⟩),.pointer (some ⟨g,8,none⟩),.pointer (some ⟨g,0,none⟩),u8,u9,u10,u11,u12,u13,u14,u15,z16,z17,z18,z19,z20,z21,z22,z23,z24,z25,z26,z27,z28,z29,z30,z31,z32,z33,z34,z35,z36,z37,z38,z39,z40,z41,z42,z43,z44,z45,z46,z47,.int .u64 kd,u49,u50,u51,u52,u53,u54,u55,u56,u57,u58,u59,u60,u61,u62,u63,u64,u65,u66,u67,u68,u69,u70,u71,u72,u73,u74,u75,u76,u77,u78,u79,u80,u81,u82,u83,u84,u85,u86,u87,u88,u89,u90,u91,u92,u93,u94,u95,u96,u97,u98,u99,u100,u101,u102,u103,u104,u105,u106,u107,u108,u109,u110,u111,u112,u113,u114,u115,u116,u117,u118,u119,u120,u121,u122,u123,u124,u125,u126,u127,u128,u129,u130,u131,u132,u133,u134,u135,u136,u137,u138,u139,u140,u141,u142,u143,u144,u145,u146,u147,u148,u149,u150,u151,u152,u153,u154,u155,u156,u157,u158,u159,u160,u161,u162,u163,u164,u165,u166,u167,u168,u169,u170,u171,u172,u173,u174,u175,u176,u177,u178,u179,u180,u181,u182,u183,z184,z185,z186,z187,z188,z189,z190,z191,z192,z193,z194,z195,z196,z197,z198,z199,z200,z201,z202,z203,z204,z205,z206,z207,z208,z209,z210,z211,z212,z213,z214,z215,z216,z217,z218,z219,z220,z221,z222,z223,z224,z225,z226,z227,z228,z229,z230,z231,z232,z233,z234,z235,z236,z237,z238,z239,z240,z241,z242],[]⟩ w'):Code.wp Try.prog oSwitch Q ⟨#[z0,z1,z2,.pointer (some ⟨g,0,none⟩),.int .i64 (i:Int),.pointer (some ⟨gt,0,none⟩),.pointer (some ⟨g,8,none⟩),.pointer (some ⟨g,0,none⟩),z8,z9,z10,z11,z12,z13,z14,z15,z16,z17,z18,z19,z20,z21,z22,z23,z24,z25,z26,z27,z28,z29,z30,z31,z32,z33,z34,z35,z36,z37,z38,z39,z40,z41,z42,z43,z44,z45,z46,z47,.int .u64 kd,z49,z50,z51,z52,z53,z54,z55,z56,z57,z58,z59,z60,z61,z62,z63,z64,z65,z66,z67,z68,z69,z70,z71,z72,z73,z74,z75,z76,z77,z78,z79,z80,z81,z82,z83,z84,z85,z86,z87,z88,z89,z90,z91,z92,z93,z94,z95,z96,z97,z98,z99,z100,z101,z102,z103,z104,z105,z106,z107,z108,z109,z110,z111,z112,z113,z114,z115,z116,z117,z118,z119,z120,z121,z122,z123,z124,z125,z126,z127,z128,z129,z130,z131,z132,z133,z134,z135,z136,z137,z138,z139,z140,z141,z142,z143,z144,z145,z146,z147,z148,z149,z150,z151,z152,z153,z154,z155,z156,z157,z158,z159,z160,z161,z162,z163,z164,z165,z166,z167,z168,z169,z170,z171,z172,z173,z174,z175,z176,z177,z178,z179,z180,z181,z182,z183,z184,z185,z186,z187,z188,z189,z190,z191,z192,z193,z194,z195,z196,z197,z198,z199,z200,z201,z202,z203,z204,z205,z206,z207,z208,z209,z210,z211,z212,z213,z214,z215,z216,z217,z218,z219,z220,z221,z222,z223,z224,z225,z226,z227,z228,z229,z230,z231,z232,z233,z234,z235,z236,z237,z238,z239,z240,z241,z242],[]⟩ w:=by
 have hn4:n≤400:=Nat.le_of_lt hn
 by_cases h0:kd=0
 ·subst h0
  by_cases h4:B.c.O.length=4
  ·exact br_queuefull1 b g n i A B w _ _ _ _ _ _ _ _ _ _ _ _ _ _ _ _ _ _ _ _ _ _ _ _ _ _ _ _ _ _ _ _ _ _ _ _ _ _ _ _ _ _ _ _ _ _ _ _ _ _ _ _ _ _ _ _ _ _ _ _ _ _ _ _ _ _ _ _ _ _ _ _ _ _ _ _ _ _ _ _ _ _ _ _ _ _ _ _ _ _ _ _ _ _ _ _ _ _ _ _ _ _ _ _ _ _ _ _ _ _ _ _ _ _ _ _ _ _ _ _ _ _ _ _ _ _ _ _ _ _ _ _ _ _ _ _ _ _ _ _ _ _ _ _ _ _ _ _ _ _ _ _ _ _ _ _ _ _ _ _ _ _ _ _ _ _ _ _ _ _ _ _ _ _ _ _ _ _ _ _ _ _ _ _ _ _ _ _ _ _ _ _ _ _ _ _ _ _ _ _ _ _ _ _ _ _ _ _ _ _ _ _ _ _ _ _ _ _ _ _ _ _ _ _ _ _ _ _ _ _ _ _ _ _ _ _ _ _ Q hb hbg hS hI hN hn hi hQp h4 hQ
  ·exact br_queue1 b g n i A B w _ _ _ _ _ _ _ _ _ _ _ _ _ _ _ _ _ _ _ _ _ _ _ _ _ _ _ _ _ _ _ _ _ _ _ _ _ _ _ _ _ _ _ _ _ _ _ _ _ _ _ _ _ _ _ _ _ _ _ _ _ _ _ _ _ _ _ _ _ _ _ _ _ _ _ _ _ _ _ _ _ _ _ _ _ _ _ _ _ _ _ _ _ _ _ _ _ _ _ _ _ _ _ _ _ _ _ _ _ _ _ _ _ _ _ _ _ _ _ _ _ _ _ _ _ _ _ _ _ _ _ _ _ _ _ _ _ _ _ _ _ _ _ _ _ _ _ _ _ _ _ _ _ _ _ _ _ _ _ _ _ _ _ _ _ _ _ _ _ _ _ _ _ _ _ _ _ _ _ _ _ _ _ _ _ _ _ _ _ _ _ _ _ _ _ _ _ _ _ _ _ _ _ _ _ _ _ _ _ _ _ _ _ _ _ _ _ _ _ _ _ _ _ _ _ _ _ _ _ _ _ _ _ _ _ _ _ _ Q hb hbg hS hI hN hn hi hQp h4 hQ
 by_cases h1:kd=1
 ·subst h1
  by_cases hO:B.c.O.length=0
  ·exact br_saynone1 b g n A B w _ _ _ _ _ _ _ _ _ _ _ _ _ _ _ _ _ _ _ _ _ _ _ _ _ _ _ _ _ _ _ _ _ _ _ _ _ _ _ _ _ _ _ _ _ _ _ _ _ _ _ _ _ _ _ _ _ _ _ _ _ _ _ _ _ _ _ _ _ _ _ _ _ _ _ _ _ _ _ _ _ _ _ _ _ _ _ _ _ _ _ _ _ _ _ _ _ _ _ _ _ _ _ _ _ _ _ _ _ _ _ _ _ _ _ _ _ _ _ _ _ _ _ _ _ _ _ _ _ _ _ _ _ _ _ _ _ _ _ _ _ _ _ _ _ _ _ _ _ _ _ _ _ _ _ _ _ _ _ _ _ _ _ _ _ _ _ _ _ _ _ _ _ _ _ _ _ _ _ _ _ _ _ _ _ _ _ _ _ _ _ _ _ _ _ _ _ _ _ _ _ _ _ _ _ _ _ _ _ _ _ _ _ _ _ _ _ _ _ _ _ _ _ _ _ _ _ _ _ _ _ _ _ _ _ _ _ _ _ Q hb hbg hS hI hN hn4 hO hQ
  ·exact br_saysome1 b g n A B w _ _ _ _ _ _ _ _ _ _ _ _ _ _ _ _ _ _ _ _ _ _ _ _ _ _ _ _ _ _ _ _ _ _ _ _ _ _ _ _ _ _ _ _ _ _ _ _ _ _ _ _ _ _ _ _ _ _ _ _ _ _ _ _ _ _ _ _ _ _ _ _ _ _ _ _ _ _ _ _ _ _ _ _ _ _ _ _ _ _ _ _ _ _ _ _ _ _ _ _ _ _ _ _ _ _ _ _ _ _ _ _ _ _ _ _ _ _ _ _ _ _ _ _ _ _ _ _ _ _ _ _ _ _ _ _ _ _ _ _ _ _ _ _ _ _ _ _ _ _ _ _ _ _ _ _ _ _ _ _ _ _ _ _ _ _ _ _ _ _ _ _ _ _ _ _ _ _ _ _ _ _ _ _ _ _ _ _ _ _ _ _ _ _ _ _ _ _ _ _ _ _ _ _ _ _ _ _ _ _ _ _ _ _ _ _ _ _ _ _ _ _ _ _ _ _ _ _ _ _ _ _ _ _ _ _ _ _ _ Q hb hbg hS hI hN hn4 hO hQ
 by_cases hw:B.w.length=0
 ·exact br_none1 b g gt n ki ix_ rm kd lo A B w _ _ _ _ _ _ _ _ _ _ _ _ _ _ _ _ _ _ _ _ _ _ _ _ _ _ _ _ _ _ _ _ _ _ _ _ _ _ _ _ _ _ _ _ _ _ _ _ _ _ _ _ _ _ _ _ _ _ _ _ _ _ _ _ _ _ _ _ _ _ _ _ _ _ _ _ _ _ _ _ _ _ _ _ _ _ _ _ _ _ _ _ _ _ _ _ _ _ _ _ _ _ _ _ _ _ _ _ _ _ _ _ _ _ _ _ _ _ _ _ _ _ _ _ _ _ _ _ _ _ _ _ _ _ _ _ _ _ _ _ _ _ _ _ _ _ _ _ _ _ _ _ _ _ _ _ _ _ _ _ _ _ _ _ _ _ _ _ _ _ _ _ _ _ _ _ _ _ _ _ _ _ _ _ _ _ _ _ _ _ _ _ _ _ _ _ _ _ _ _ _ _ _ _ _ _ _ _ _ _ _ _ _ _ _ _ _ _ _ _ _ _ _ _ _ _ _ _ _ _ _ _ _ _ _ _ _ _ Q hb hbg hS hI hN hn4 hgt hQp h0 h1 hw hQ
 have hw0:0<B.w.length:=by omega
 cases lo with
 | true=>exact br_lose1 b g gt n ki ix_ rm kd A B w _ _ _ _ _ _ _ _ _ _ _ _ _ _ _ _ _ _ _ _ _ _ _ _ _ _ _ _ _ _ _ _ _ _ _ _ _ _ _ _ _ _ _ _ _ _ _ _ _ _ _ _ _ _ _ _ _ _ _ _ _ _ _ _ _ _ _ _ _ _ _ _ _ _ _ _ _ _ _ _ _ _ _ _ _ _ _ _ _ _ _ _ _ _ _ _ _ _ _ _ _ _ _ _ _ _ _ _ _ _ _ _ _ _ _ _ _ _ _ _ _ _ _ _ _ _ _ _ _ _ _ _ _ _ _ _ _ _ _ _ _ _ _ _ _ _ _ _ _ _ _ _ _ _ _ _ _ _ _ _ _ _ _ _ _ _ _ _ _ _ _ _ _ _ _ _ _ _ _ _ _ _ _ _ _ _ _ _ _ _ _ _ _ _ _ _ _ _ _ _ _ _ _ _ _ _ _ _ _ _ _ _ _ _ _ _ _ _ _ _ _ _ _ _ _ _ _ _ _ _ _ _ _ _ _ _ _ _ Q hb hbg hS hI hN hn4 hgt hQp h0 h1 hw0 hQ
 | false =>
  obtain ⟨u,hu⟩:∃ u,B.w[ix ix_ B.w.length]?=some u:=⟨_,List.getElem?_eq_getElem (ix_lt ix_ hw0)⟩
  have hwy:=(hI.swap).1.way u (List.mem_of_getElem? hu)
  have hsz:=(hI.swap).1.sz
  obtain ⟨ua,us,uB,ui⟩:=u
  cases ui with
  | true=>exact br_idle1 b g gt n ki ix_ rm kd A B w _ _ _ _ _ _ _ _ _ _ _ _ _ _ _ _ _ _ _ _ _ _ _ _ _ _ _ _ _ _ _ _ _ _ _ _ _ _ _ _ _ _ _ _ _ _ _ _ _ _ _ _ _ _ _ _ _ _ _ _ _ _ _ _ _ _ _ _ _ _ _ _ _ _ _ _ _ _ _ _ _ _ _ _ _ _ _ _ _ _ _ _ _ _ _ _ _ _ _ _ _ _ _ _ _ _ _ _ _ _ _ _ _ _ _ _ _ _ _ _ _ _ _ _ _ _ _ _ _ _ _ _ _ _ _ _ _ _ _ _ _ _ _ _ _ _ _ _ _ _ _ _ _ _ _ _ _ _ _ _ _ _ _ _ _ _ _ _ _ _ _ _ _ _ _ _ _ _ _ _ _ _ _ _ _ _ _ _ _ _ _ _ _ _ _ _ _ _ _ _ _ _ _ _ _ _ _ _ _ _ _ _ _ _ _ _ _ _ _ _ _ _ _ _ _ _ _ _ _ _ _ _ _ _ _ _ _ _ Q hb hbg hS hI hN hn4 hgt hQp h0 h1 ua us uB hw0 hu hQ
  | false =>
   obtain ⟨t,ht,hB⟩:=hwy.2.2 rfl
   dsimp only at ht hB
   subst hB
   by_cases hwt:wt (ak A.c ua).1 us rm=true
   ·exact br_take1 b g gt n ki ix_ rm kd A B w _ _ _ _ _ _ _ _ _ _ _ _ _ _ _ _ _ _ _ _ _ _ _ _ _ _ _ _ _ _ _ _ _ _ _ _ _ _ _ _ _ _ _ _ _ _ _ _ _ _ _ _ _ _ _ _ _ _ _ _ _ _ _ _ _ _ _ _ _ _ _ _ _ _ _ _ _ _ _ _ _ _ _ _ _ _ _ _ _ _ _ _ _ _ _ _ _ _ _ _ _ _ _ _ _ _ _ _ _ _ _ _ _ _ _ _ _ _ _ _ _ _ _ _ _ _ _ _ _ _ _ _ _ _ _ _ _ _ _ _ _ _ _ _ _ _ _ _ _ _ _ _ _ _ _ _ _ _ _ _ _ _ _ _ _ _ _ _ _ _ _ _ _ _ _ _ _ _ _ _ _ _ _ _ _ _ _ _ _ _ _ _ _ _ _ _ _ _ _ _ _ _ _ _ _ _ _ _ _ _ _ _ _ _ _ _ _ _ _ _ _ _ _ _ _ _ _ _ _ _ _ _ _ _ _ _ _ _ Q hb hbg hS hI hN hn4 hgt hQp h0 h1 ua us t (hsz t (List.mem_of_getElem? ht)) hw0 hu ht hwt hQ
   ·exact br_unw1 b g gt n ki ix_ rm kd A B w _ _ _ _ _ _ _ _ _ _ _ _ _ _ _ _ _ _ _ _ _ _ _ _ _ _ _ _ _ _ _ _ _ _ _ _ _ _ _ _ _ _ _ _ _ _ _ _ _ _ _ _ _ _ _ _ _ _ _ _ _ _ _ _ _ _ _ _ _ _ _ _ _ _ _ _ _ _ _ _ _ _ _ _ _ _ _ _ _ _ _ _ _ _ _ _ _ _ _ _ _ _ _ _ _ _ _ _ _ _ _ _ _ _ _ _ _ _ _ _ _ _ _ _ _ _ _ _ _ _ _ _ _ _ _ _ _ _ _ _ _ _ _ _ _ _ _ _ _ _ _ _ _ _ _ _ _ _ _ _ _ _ _ _ _ _ _ _ _ _ _ _ _ _ _ _ _ _ _ _ _ _ _ _ _ _ _ _ _ _ _ _ _ _ _ _ _ _ _ _ _ _ _ _ _ _ _ _ _ _ _ _ _ _ _ _ _ _ _ _ _ _ _ _ _ _ _ _ _ _ _ _ _ _ _ _ _ _ Q hb hbg hS hI hN hn4 hgt hQp h0 h1 ua us (bdy t) hw0 hu (by simpa using hwt) hQ
end Go.Proofs.Ytcefkkoombmndab
namespace Go.Proofs.Ytcefkkoombmndab
open Go.RowKit
set_option maxRecDepth 100000
set_option linter.unusedSimpArgs false
set_option linter.unusedVariables false
structure Stp where
 k:Int
 i:Int
 r:Int
 l:Bool
def sps (s:Stp):List Value:=[.int .i64 s.k,.int .i64 s.i,.int .i64 s.r,.bool s.l]
theorem oST {a b c d:Value} (h1:a.oneCell'=true) (h2:b.oneCell'=true) (h3:c.oneCell'=true) (h4:d.oneCell'=true):(fl [[a],[b],[c],[d]]).all (·.oneCell')=true:=by simp [fl,h1,h2,h3,h4]
theorem exec_upS {a:Act} {o:Oper} (w:World) (x y:Operand) (ho:o.op=.slice 38 x none (some y) none) (s:Option Addr) (len cap n:Nat) (hx:a.eval x=.slice s len cap) (hy:a.eval y=.int .i64 n) (hn:n≤cap) :
  (execOp a.eval o).run Try.prog w=.ok (.value (.slice s n cap)) w:=by
 have h1:(0:Int)≤n:=by omega
 have h2:(n:Int)≤cap:=by omega
 have hu:Try.prog.underlying 38=some (.slice (Try.prog.elem 38)):=by kernel_rfl
 have hz:(sizeOf (Try.prog.elem 38)).run Try.prog w=.ok 4 w:=by kernel_rfl
 have e:(if cap=0 then s else s.map (·.add 0))=s:=by cases s <;> simp [Addr.add]
 simp [execOp,ho,hx,hy,run_sliceAt_slice _ _ _ _ _ _ hu,run_slice_h _ _ _ _ _ hu _ _ h1 h2,hz,sliced,e]
theorem exec_isSp {a:Act} {o:Oper} (w:World) (x y:Operand) (ho:o.op=.indexAddr 38 x y) (g q len cap i:Nat) (hx:a.eval x=.slice (some ⟨g,q,none⟩) len cap) (hy:a.eval y=.int .i64 i) (hi:i<len) :
  (execOp a.eval o).run Try.prog w=.ok (.value (.pointer (some ⟨g,q+4 * i,none⟩))) w:=by
 have h1:(i:Int)<(len:Int):=by omega
 have hs:(Try.prog.info? 45).map (·.size)=some 4:=by kernel_rfl
 obtain ⟨i0,h2,h3⟩:=Option.map_eq_some_iff.1 hs
 have hu:=Try.underlying38
 have hc:i * 4=4 * i:=Nat.mul_comm _ _
 unfold execOp
 simp only [ho,hx,hy]
 go_simp
theorem exec_lSp {op:Oper} {a:Act} (w:World) (x:Operand) (ho:op.op=.load 45 x) (g o:Nat) (hx:a.eval x=.pointer (some ⟨g,o,none⟩)) (s:Stp) (h:w.rangeAt g o (sps s)) :
  (execOp a.eval op).run Try.prog w=.ok (.value (.agg (fl [[.int .i64 s.k],[.int .i64 s.i],[.int .i64 s.r],[.bool s.l]]))) w :=
 exec_row (P:=Try.prog) w 45 x ho g o hx (sps s) _ h Try.underlying45 rfl (by kernel_rfl)
theorem quo_u {a:Act} {o:Oper} (w:World) (x y:Operand) (m n:Int) (ho:o.op=.binOp .quo 47 x y 47) (hx:a.eval x=.int .u64 m) (hy:a.eval y=.int .u64 n) (hm:0≤m) (hm2:m<18446744073709551616) (hn:0<n) (r:Int) (hr:m / n=r):(execOp a.eval o).run Try.prog w=.ok (.value (.int .u64 r)) w:=by
 subst hr
 have h0:n≠0:=by omega
 have h1:0≤m / n:=Int.ediv_nonneg hm (by omega)
 have h2:m / n≤m:=Int.ediv_le_self n hm
 have ht:Int.tdiv m n=m / n:=Int.tdiv_eq_ediv_of_nonneg hm
 have hw:IntKind.u64.wrap (m / n)=m / n:=by rw [IntKind.wrap_u64]; omega
 unfold execOp
 simp only [ho,hx,hy]
 go_simp
theorem rg_low {w u v:World} {g p o:Nat} {l:List Value} (h:w.rangeAt p o l) (e:Gr w u) (k:Cg g w.heap.size u v):Rg v p o l:=by
 intro j x hj
 have h2:=h j x hj
 have hp:p<w.heap.size:=by
  refine Nat.lt_of_not_le fun hle=>?_
  simp [World.cell?,Array.getElem?_eq_none hle] at h2
 rw [World.cell?_of_block (w:=w) (w':=v) (a:=⟨p,o+j,none⟩) ((k.low p hp).trans (e.block p hp))]
 exact h2
theorem St.gr {b:Nat} {w u:World} {g:Nat} {A B:Sd} (h:St b w g A B) (k:Gr w u):St b u g A B:=by
 obtain ⟨x,y,qA,dA,vA,qB,dB,vB,hg,hA,hD,hXF,hU,hV⟩:=h
 exact ⟨x,y,qA,dA,vA,qB,dB,vB,k.blk hg,hA.gr k,hD.gr k,hXF.gr k,hU,hV⟩
theorem gr_cg {w u v:World} {g:Nat} (e:Gr w u) (k:Cg g w.heap.size u v):Gr w v :=
 ⟨k.os.trans e.os,k.tape.trans e.tape,k.output.trans e.output,Nat.le_trans e.size k.size,fun i hi=>(k.low i hi).trans (e.block i hi)⟩
def S0:Sd:=⟨cz,[],[],[]⟩
theorem inv0:Inv S0 S0:=by
 have h:Rel S0 S0:=by
  refine ⟨by decide,rfl,Nat.zero_le _,(fun t h=>by cases h),(fun i o h=>by cases h),rfl,rfl,Nat.le_refl _,Nat.le_refl _,(fun h hh=>by cases hh),(fun u hu=>by cases hu)⟩
 exact ⟨h,h⟩
theorem fam0 (b:Nat) (w:World):Fam b w (fam S0 S0 (.slice none 0 0) (.slice none 0 0) (.slice none 0 0) (.slice none 0 0) (.slice none 0 0) (.slice none 0 0)):=by
 refine ⟨fun i y hy=>?_,?_⟩
 ·match i,hy with
  | 0,hy=>cases hy; exact or_none _ _ _ _
  | 1,hy=>cases hy; exact or_none _ _ _ _
  | 2,hy=>cases hy; exact or_none _ _ _ _
  | 3,hy=>cases hy; exact or_none _ _ _ _
  | 4,hy=>cases hy; exact or_none _ _ _ _
  | 5,hy=>cases hy; exact or_none _ _ _ _
 ·intro i j y z hy hz hij g hg
  match i,hy with
  | 0,hy=>cases hy; cases hg
  | 1,hy=>cases hy; cases hg
  | 2,hy=>cases hy; cases hg
  | 3,hy=>cases hy; cases hg
  | 4,hy=>cases hy; cases hg
  | 5,hy=>cases hy; cases hg
set_option maxHeartbeats 16000000 in
theorem order_law0 (w:World) (s:Option Addr) (n c:Nat) (hst:∀ j,j<n→∃ p o z,s=some ⟨p,o,none⟩∧w.rangeAt p (o+4 * j) (sps z)) (hc:n≤c) (hcm:c<9223372036854775808):Calls Try.prog 4 #[.slice s n c] w (Vl (.bool true) w):=by
 obtain ⟨T,hT⟩:∃ T:Ending→World→Prop,T=Vl (.bool true) w:=⟨_,rfl⟩
 rw [← hT]
 replace hT:=hide hT; replace hst:=hide hst
 obtain ⟨m,hm⟩:∃ m,m=min n 400:=⟨_,rfl⟩
 have hm1:m≤n:=by omega
 have hm2:m≤400:=by omega
 have hm3:min (n:Int) 400=((m:Nat):Int):=by omega
 replace hm:=hide hm
 go_enter Try.func4,Try.ntmps4
 go_upto_region 1 with fail
 obtain ⟨u0,hu_⟩:∃ u,u=w:=⟨_,rfl⟩
 rw [← hu_]
 have hB:Bl w [] u0:=hu_ ▸ Bl.nil w
 clear hu_
 refine wp_region_lit ?_
 refine list_call 6 #[] (by kernel_rfl) (by kernel_rfl) (((wakes_ok u0)).mono ?_)
 rintro r_ u1 ⟨rfl,hg⟩
 replace hB:=hB.more hg
 clear hg
 refine ⟨_,rfl,?_⟩
 simp only [nrm]
 refine lvk (.bool false) ?_
 simp only [nrm]
 refine wpList_nil ?_
 replace hB:=hide hB
 go_upto_region 3 with fail
 replace hB:=unhide hB
 refine wp_region_lit ?_
 refine list_valw (.pointer (some ⟨u1.heap.size,0,none⟩)) (u1.alloc (.cells (fl [[.int .u32 0],[.slice none 0 0],[.int .i64 0],[.int .u32 0],[.slice none 0 0],[.slice none 0 0],[.slice none 0 0],[.slice none 0 0],[.int .u32 0],[.slice none 0 0],[.int .i64 0],[.int .u32 0],[.slice none 0 0],[.slice none 0 0],[.slice none 0 0],[.slice none 0 0]]) 43 (0,0))) (by kernel_rfl) (by kernel_rfl) ?_
 replace hB:=hB.new (fl [[.int .u32 0],[.slice none 0 0],[.int .i64 0],[.int .u32 0],[.slice none 0 0],[.slice none 0 0],[.slice none 0 0],[.slice none 0 0],[.int .u32 0],[.slice none 0 0],[.int .i64 0],[.int .u32 0],[.slice none 0 0],[.slice none 0 0],[.slice none 0 0],[.slice none 0 0]]) 43
 simp only [List.nil_append,List.cons_append] at hB
 generalize World.alloc _ _=u2 at *
 generalize u1.heap.size=g3 at *
 simp only [nrm]
 refine wpList_nil ?_
 replace hB:=hide hB
 go_upto_region 4 with fail
 replace hB:=unhide hB
 refine wp_region_lit ?_
 refine lvk (.slice s n c) ?_
 simp only [nrm]
 refine lvk (.slice s n c) ?_
 simp only [nrm]
 refine lvk (.int .i64 n) ?_
 simp only [nrm]
 refine list_val (.int .i64 ((m:Nat):Int)) (by kernel_rfl) (min_i _ (.tmp 23) (.const (.int .i64 400)) (n:Int) 400 rfl (by kernel_rfl) rfl _ hm3) ?_
 simp only [nrm]
 refine list_val (.slice s m c) (by kernel_rfl) (exec_upS _ (.tmp 21) (.tmp 24) rfl s n c m (by kernel_rfl) (by kernel_rfl) (by omega)) ?_
 simp only [nrm]
 refine lvk (.int .i64 m) ?_
 simp only [nrm]
 refine lvk (.int .i64 0) ?_
 simp only [nrm]
 refine wpList_nil ?_
 have hgr:=hB.gr
 have hbw:w.heap.size≤u2.heap.size:=hgr.size
 have hS:St w.heap.size u2 g3 S0 S0:=⟨xz,xz,.slice none 0 0,.slice none 0 0,.slice none 0 0,.slice none 0 0,.slice none 0 0,.slice none 0 0,hB.get 0 (x:=⟨g3,fl [[.int .u32 0],[.slice none 0 0],[.int .i64 0],[.int .u32 0],[.slice none 0 0],[.slice none 0 0],[.slice none 0 0],[.slice none 0 0],[.int .u32 0],[.slice none 0 0],[.int .i64 0],[.int .u32 0],[.slice none 0 0],[.slice none 0 0],[.slice none 0 0],[.slice none 0 0]],43⟩) rfl,⟨cin_z _,owx_z _ _⟩,⟨cin_z _,owx_z _ _⟩,fam0 _ _,(fun u hu=>by cases hu),(fun u hu=>by cases hu)⟩
 have hbg:w.heap.size≤g3:=(hB.at_ _ List.mem_cons_self).2
 clear hB
 replace hS:=hide hS
 have hI:=hide inv0
 have hN:Hid (Bd 0 S0 S0):=⟨Nat.le_refl _,Nat.le_refl _,Nat.le_refl _,Nat.le_refl _⟩
 have hG:=hide (Cg.refl g3 w.heap.size u2)
 replace hgr:=hide hgr
 go_wp2_with fail
 go_loopw [27] (fun i_ wr=>∃ (i:Nat) (A B:Sd),i≤m∧i_=.int .i64 (i:Int)∧Hid (St w.heap.size wr g3 A B)∧Hid (Inv A B)∧Hid (Bd i A B)∧Hid (Cg g3 w.heap.size u2 wr)) (fun i _=>m - (intOf i).toNat)
 case atStart=>exact ⟨0,S0,S0,Nat.zero_le _,rfl,hS,hI,hN,hG⟩
 case round =>
 clear hS hI hN hG
 obtain ⟨i,A,B,hi,rfl,hS,hI,hN,hG⟩:=hrel
 have hbr:w.heap.size≤wr.heap.size:=Nat.le_trans hbw (unhide hG).size
 by_cases hlt:i<m
 ·have jI:(i:Int)<(m:Int):=by omega
  obtain ⟨p,o,z,ha,hrg⟩:∃ p o z,s=some ⟨p,o,none⟩∧Rg wr p (o+4 * i) (sps z):=by
   obtain ⟨p,o,z,h1,h2⟩:=unhide hst i (by omega)
   exact ⟨p,o,z,h1,rg_low h2 (unhide hgr) (unhide hG)⟩
  have hB:=Bl.nil wr
  replace ha:=hide ha; replace hrg:=hide hrg
  obtain ⟨kd,hkd⟩:∃ k,k=(z.k % 18446744073709551616) % 4:=⟨_,rfl⟩
  obtain ⟨pl,hpl⟩:∃ k,k=(z.k % 18446744073709551616) / 4 % 2:=⟨_,rfl⟩
  have hk0:0≤z.k % 18446744073709551616:=Int.emod_nonneg _ (by decide)
  have hk1:z.k % 18446744073709551616<18446744073709551616:=Int.emod_lt_of_pos _ (by decide)
  replace hk0:=hide hk0; replace hk1:=hide hk1
  have hpc:pl=0∨pl=1:=by have:=unhide hk0; omega
  replace hpl:=hide hpl; replace hkd:=hide hkd
  replace hB:=hide hB
  go_upto_region 6 with fail
  replace hB:=unhide hB
  refine wp_region_lit ?_
  refine lvk (.int .i64 (i:Int)) ?_
  simp only [nrm]
  refine list_val (.pointer (some ⟨p,o+4 * i,none⟩)) (by kernel_rfl) (exec_isSp _ (.tmp 25) (.tmp 27) rfl p o m c i (by rw [← unhide ha]; kernel_rfl) (by kernel_rfl) hlt) ?_
  simp only [nrm]
  refine list_val (.agg (fl [[.int .i64 z.k],[.int .i64 z.i],[.int .i64 z.r],[.bool z.l]])) (by kernel_rfl) (exec_lSp _ (.tmp 30) rfl p (o+4 * i) (by kernel_rfl) z (unhide hrg)) ?_
  simp only [nrm]
  refine list_valw (.pointer (some ⟨wr.heap.size,0,none⟩)) (wr.alloc (.cells (fl [[.int .i64 0],[.int .i64 0],[.int .i64 0],[.bool false]]) 45 (0,0))) (by kernel_rfl) (by kernel_rfl) ?_
  replace hB:=hB.new (fl [[.int .i64 0],[.int .i64 0],[.int .i64 0],[.bool false]]) 45
  simp only [List.nil_append,List.cons_append] at hB
  generalize World.alloc _ _=u3 at *
  generalize wr.heap.size=g5 at *
  simp only [nrm]
  (refine wpList_step fun K hK=>?_; replace hK:=hide hK; go_simp; refine unhide hK _ _ ?_; clear hK K)
  refine list_all 45 (.tmp 5) (.tmp 31) (g5) (S2:=[[.int .i64 z.k],[.int .i64 z.i],[.int .i64 z.r],[.bool z.l]]) (by kernel_rfl) rfl (by kernel_rfl) (by kernel_rfl) hB 0 rfl NST (nST  _ _ _ _) (nST  _ _ _ _) (by kernel_rfl) (oST  rfl rfl rfl rfl) ?_
  intro u4 hB_ hbt_
  clear hB
  replace hB:Bl wr [⟨g5,fl [[.int .i64 z.k],[.int .i64 z.i],[.int .i64 z.r],[.bool z.l]],45⟩] u4:=hB_
  clear hB_
  clear hbt_
  simp only [nrm]
  refine wpList_nil ?_
  rcases hpc with rfl | rfl
  ·skip
   replace hB:=hide hB
   go_upto_region 7 with fail
   replace hB:=unhide hB
   refine wp_region_lit ?_
   refine lvk (.pointer (some ⟨g5,0,none⟩)) ?_
   simp only [nrm]
   refine list_val (.int .i64 z.k) (by kernel_rfl) (exec_ci _ (.tmp 32) rfl (g5) 0 (by kernel_rfl) z.k (seg_cell (nST  _ _ _ _) (hB.get 0 (x:=⟨g5,fl [[.int .i64 z.k],[.int .i64 z.i],[.int .i64 z.r],[.bool z.l]],45⟩) rfl) 0 (v:=.int .i64 z.k) rfl rfl)) ?_
   simp only [nrm]
   refine list_val (.int .u64 (z.k % 18446744073709551616)) (by kernel_rfl) (conv_iuW _ (.tmp 33) z.k rfl (by kernel_rfl) _ rfl) ?_
   simp only [nrm]
   refine list_val (.int .u64 (z.k % 18446744073709551616 / 4)) (by kernel_rfl) (quo_u _ (.tmp 34) (.const (.int .u64 4)) (z.k % 18446744073709551616) 4 rfl (by kernel_rfl) rfl (unhide hk0) (unhide hk1) (by decide) _ rfl) ?_
   simp only [nrm]
   refine list_val (.int .u64 0) (by kernel_rfl) (rem_u _ (.tmp 35) (.const (.int .u64 2)) (z.k % 18446744073709551616 / 4) 2 rfl (by kernel_rfl) rfl (Int.ediv_nonneg (unhide hk0) (by decide)) (by decide) (by decide) _ (unhide hpl).symm) ?_
   simp only [nrm]
   refine lvk (.pointer (some ⟨g3,0,none⟩)) ?_
   simp only [nrm]
   (refine wpList_step fun K hK=>?_; replace hK:=hide hK; go_simp; refine unhide hK _ _ ?_; clear hK K)
   refine wpList_nil ?_
   replace hB:=hide hB
   go_upto_region 8 with fail
   replace hB:=unhide hB
   refine wp_region_lit ?_
   refine lvk (.pointer (some ⟨g5,0,none⟩)) ?_
   simp only [nrm]
   refine list_val (.int .i64 z.k) (by kernel_rfl) (exec_ci _ (.tmp 38) rfl (g5) 0 (by kernel_rfl) z.k (seg_cell (nST  _ _ _ _) (hB.get 0 (x:=⟨g5,fl [[.int .i64 z.k],[.int .i64 z.i],[.int .i64 z.r],[.bool z.l]],45⟩) rfl) 0 (v:=.int .i64 z.k) rfl rfl)) ?_
   simp only [nrm]
   refine list_val (.int .u64 (z.k % 18446744073709551616)) (by kernel_rfl) (conv_iuW _ (.tmp 39) z.k rfl (by kernel_rfl) _ rfl) ?_
   simp only [nrm]
   refine list_val (.int .u64 (z.k % 18446744073709551616 / 4)) (by kernel_rfl) (quo_u _ (.tmp 40) (.const (.int .u64 4)) (z.k % 18446744073709551616) 4 rfl (by kernel_rfl) rfl (unhide hk0) (unhide hk1) (by decide) _ rfl) ?_
   simp only [nrm]
   refine list_val (.int .u64 0) (by kernel_rfl) (rem_u _ (.tmp 41) (.const (.int .u64 2)) (z.k % 18446744073709551616 / 4) 2 rfl (by kernel_rfl) rfl (Int.ediv_nonneg (unhide hk0) (by decide)) (by decide) (by decide) _ (unhide hpl).symm) ?_
   simp only [nrm]
   refine lvk (.int .u64 1) ?_
   simp only [nrm]
   refine lvk (.pointer (some ⟨g3,8,none⟩)) ?_
   simp only [nrm]
   (refine wpList_step fun K hK=>?_; replace hK:=hide hK; go_simp; refine unhide hK _ _ ?_; clear hK K)
   refine wpList_nil ?_
   replace hB:=hide hB
   go_upto_region 9 with fail
   replace hB:=unhide hB
   refine wp_region_lit ?_
   refine lvk (.pointer (some ⟨g5,0,none⟩)) ?_
   simp only [nrm]
   refine list_val (.int .i64 z.k) (by kernel_rfl) (exec_ci _ (.tmp 45) rfl (g5) 0 (by kernel_rfl) z.k (seg_cell (nST  _ _ _ _) (hB.get 0 (x:=⟨g5,fl [[.int .i64 z.k],[.int .i64 z.i],[.int .i64 z.r],[.bool z.l]],45⟩) rfl) 0 (v:=.int .i64 z.k) rfl rfl)) ?_
   simp only [nrm]
   refine list_val (.int .u64 (z.k % 18446744073709551616)) (by kernel_rfl) (conv_iuW _ (.tmp 46) z.k rfl (by kernel_rfl) _ rfl) ?_
   simp only [nrm]
   refine list_val (.int .u64 kd) (by kernel_rfl) (rem_u _ (.tmp 47) (.const (.int .u64 4)) (z.k % 18446744073709551616) 4 rfl (by kernel_rfl) rfl (unhide hk0) (by decide) (by decide) _ (unhide hkd).symm) ?_
   simp only [nrm]
   refine wpList_nil ?_
   have hgt:=hB.get 0 (x:=⟨g5,fl [[.int .i64 z.k],[.int .i64 z.i],[.int .i64 z.r],[.bool z.l]],45⟩) rfl
   have hS2:=(unhide hS).gr hB.gr
   have hG2:=(unhide hG).gr hB.gr hbw
   have hbu:w.heap.size≤u4.heap.size:=Nat.le_trans hbw hG2.size
   clear hB
   replace hgt:=hide hgt; replace hS2:=hide hS2; replace hG2:=hide hG2
   go_upto_block 2 with fail
   refine wp_block ?_
   refine switch0 w.heap.size g3 g5 i i z.k z.i z.r kd z.l A B u4 _ _ _ _ _ _ _ _ _ _ _ _ _ _ _ _ _ _ _ _ _ _ _ _ _ _ _ _ _ _ _ _ _ _ _ _ _ _ _ _ _ _ _ _ _ _ _ _ _ _ _ _ _ _ _ _ _ _ _ _ _ _ _ _ _ _ _ _ _ _ _ _ _ _ _ _ _ _ _ _ _ _ _ _ _ _ _ _ _ _ _ _ _ _ _ _ _ _ _ _ _ _ _ _ _ _ _ _ _ _ _ _ _ _ _ _ _ _ _ _ _ _ _ _ _ _ _ _ _ _ _ _ _ _ _ _ _ _ _ _ _ _ _ _ _ _ _ _ _ _ _ _ _ _ _ _ _ _ _ _ _ _ _ _ _ _ _ _ _ _ _ _ _ _ _ _ _ _ _ _ _ _ _ _ _ _ _ _ _ _ _ _ _ _ _ _ _ _ _ _ _ _ _ _ _ _ _ _ _ _ _ _ _ _ _ _ _ _ _ _ _ _ _ _ _ _ _ _ _ _ _ _ _ _ _ _ _ _ hbu hbg (unhide hS2) (unhide hI) (unhide hN) (by omega) (by omega) (unhide hgt) (fun _ _ _ _ _ h=>h) ?_
   intro u2 u8 u9 u10 u11 u12 u13 u14 u15 u49 u50 u51 u52 u53 u54 u55 u56 u57 u58 u59 u60 u61 u62 u63 u64 u65 u66 u67 u68 u69 u70 u71 u72 u73 u74 u75 u76 u77 u78 u79 u80 u81 u82 u83 u84 u85 u86 u87 u88 u89 u90 u91 u92 u93 u94 u95 u96 u97 u98 u99 u100 u101 u102 u103 u104 u105 u106 u107 u108 u109 u110 u111 u112 u113 u114 u115 u116 u117 u118 u119 u120 u121 u122 u123 u124 u125 u126 u127 u128 u129 u130 u131 u132 u133 u134 u135 u136 u137 u138 u139 u140 u141 u142 u143 u144 u145 u146 u147 u148 u149 u150 u151 u152 u153 u154 u155 u156 u157 u158 u159 u160 u161 u162 u163 u164 u165 u166 u167 u168 u169 u170 u171 u172 u173 u174 u175 u176 u177 u178 u179 u180 u181 u182 u183 A2 B2 w1 hS3 hI3 hG3 hN3
   dsimp only
   replace hG3:=hide ((unhide hG2).trans hG3)
   replace hS3:=hide hS3; replace hI3:=hide hI3; replace hN3:=hide hN3
   clear hS hI hN hG hS2 hG2 hgt hrg ha
   have hbu1:w.heap.size≤w1.heap.size:=Nat.le_trans hbw (unhide hG3).size
   go_upto_block 3 with fail
   refine wp_block ?_
   refine ck_ok w.heap.size g3 A2 B2 w1 _ _ _ _ _ _ _ _ _ _ _ _ _ _ _ _ _ _ _ _ _ _ _ _ _ _ _ _ _ _ _ _ _ _ _ _ _ _ _ _ _ _ _ _ _ _ _ _ _ _ _ _ _ _ _ _ _ _ _ _ _ _ _ _ _ _ _ _ _ _ _ _ _ _ _ _ _ _ _ _ _ _ _ _ _ _ _ _ _ _ _ _ _ _ _ _ _ _ _ _ _ _ _ _ _ _ _ _ _ _ _ _ _ _ _ _ _ _ _ _ _ _ _ _ _ _ _ _ _ _ _ _ _ _ _ _ _ _ _ _ _ _ _ _ _ _ _ _ _ _ _ _ _ _ _ _ _ _ _ _ _ _ _ _ _ _ _ _ _ _ _ _ _ _ _ _ _ _ _ _ _ _ _ _ _ _ _ _ _ _ _ _ _ _ _ _ _ _ _ _ _ _ _ _ _ _ _ _ _ _ _ _ _ _ _ _ _ _ _ _ _ _ _ _ _ _ _ _ _ _ _ _ _ _ _ _ _ _ _ _ _ _ hbu1 hbg (unhide hS3) (unhide hI3) (fun _ _ _ _ _ h=>h) ?_
   intro u2 u16 u17 u18 u184 u185 u186 u187 u188 u189 u190 u191 u192 u193 u194 u195 u196 u197 u198 u199 u200 u201 u202 u203 u204 u205 u206 u207 u208 u209 u210 u211 u212 u213 u214 u215 u216 u217 u218 u219 u220 u221 u222 u223 u224 u225 u226 u227 u228 u229 u230 u231 u232 u233 u234 u235 u236 u237 u238 u239 u240 u241 w2 hS4 hG4
   dsimp only
   replace hG4:=hide ((unhide hG3).trans hG4)
   replace hS4:=hide hS4
   clear hS3 hG3
   have jw:IntKind.i64.wrap ((i:Int)+1)=(i:Int)+1:=by rw [IntKind.wrap_i64]; omega
   go_wp2_with fail
   go_roundw
   case rel=>exact ⟨i+1,A2,B2,by omega,by simp,hS4,hI3,hN3,hG4⟩
   case measure=>simp [intOf]; omega
  ·skip
   replace hB:=hide hB
   go_upto_region 7 with fail
   replace hB:=unhide hB
   refine wp_region_lit ?_
   refine lvk (.pointer (some ⟨g5,0,none⟩)) ?_
   simp only [nrm]
   refine list_val (.int .i64 z.k) (by kernel_rfl) (exec_ci _ (.tmp 32) rfl (g5) 0 (by kernel_rfl) z.k (seg_cell (nST  _ _ _ _) (hB.get 0 (x:=⟨g5,fl [[.int .i64 z.k],[.int .i64 z.i],[.int .i64 z.r],[.bool z.l]],45⟩) rfl) 0 (v:=.int .i64 z.k) rfl rfl)) ?_
   simp only [nrm]
   refine list_val (.int .u64 (z.k % 18446744073709551616)) (by kernel_rfl) (conv_iuW _ (.tmp 33) z.k rfl (by kernel_rfl) _ rfl) ?_
   simp only [nrm]
   refine list_val (.int .u64 (z.k % 18446744073709551616 / 4)) (by kernel_rfl) (quo_u _ (.tmp 34) (.const (.int .u64 4)) (z.k % 18446744073709551616) 4 rfl (by kernel_rfl) rfl (unhide hk0) (unhide hk1) (by decide) _ rfl) ?_
   simp only [nrm]
   refine list_val (.int .u64 1) (by kernel_rfl) (rem_u _ (.tmp 35) (.const (.int .u64 2)) (z.k % 18446744073709551616 / 4) 2 rfl (by kernel_rfl) rfl (Int.ediv_nonneg (unhide hk0) (by decide)) (by decide) (by decide) _ (unhide hpl).symm) ?_
   simp only [nrm]
   refine lvk (.pointer (some ⟨g3,8,none⟩)) ?_
   simp only [nrm]
   (refine wpList_step fun K hK=>?_; replace hK:=hide hK; go_simp; refine unhide hK _ _ ?_; clear hK K)
   refine wpList_nil ?_
   replace hB:=hide hB
   go_upto_region 8 with fail
   replace hB:=unhide hB
   refine wp_region_lit ?_
   refine lvk (.pointer (some ⟨g5,0,none⟩)) ?_
   simp only [nrm]
   refine list_val (.int .i64 z.k) (by kernel_rfl) (exec_ci _ (.tmp 38) rfl (g5) 0 (by kernel_rfl) z.k (seg_cell (nST  _ _ _ _) (hB.get 0 (x:=⟨g5,fl [[.int .i64 z.k],[.int .i64 z.i],[.int .i64 z.r],[.bool z.l]],45⟩) rfl) 0 (v:=.int .i64 z.k) rfl rfl)) ?_
   simp only [nrm]
   refine list_val (.int .u64 (z.k % 18446744073709551616)) (by kernel_rfl) (conv_iuW _ (.tmp 39) z.k rfl (by kernel_rfl) _ rfl) ?_
   simp only [nrm]
   refine list_val (.int .u64 (z.k % 18446744073709551616 / 4)) (by kernel_rfl) (quo_u _ (.tmp 40) (.const (.int .u64 4)) (z.k % 18446744073709551616) 4 rfl (by kernel_rfl) rfl (unhide hk0) (unhide hk1) (by decide) _ rfl) ?_
   simp only [nrm]
   refine list_val (.int .u64 1) (by kernel_rfl) (rem_u _ (.tmp 41) (.const (.int .u64 2)) (z.k % 18446744073709551616 / 4) 2 rfl (by kernel_rfl) rfl (Int.ediv_nonneg (unhide hk0) (by decide)) (by decide) (by decide) _ (unhide hpl).symm) ?_
   simp only [nrm]
   refine lvk (.int .u64 0) ?_
   simp only [nrm]
   refine lvk (.pointer (some ⟨g3,0,none⟩)) ?_
   simp only [nrm]
   (refine wpList_step fun K hK=>?_; replace hK:=hide hK; go_simp; refine unhide hK _ _ ?_; clear hK K)
   refine wpList_nil ?_
   replace hB:=hide hB
   go_upto_region 9 with fail
   replace hB:=unhide hB
   refine wp_region_lit ?_
   refine lvk (.pointer (some ⟨g5,0,none⟩)) ?_
   simp only [nrm]
   refine list_val (.int .i64 z.k) (by kernel_rfl) (exec_ci _ (.tmp 45) rfl (g5) 0 (by kernel_rfl) z.k (seg_cell (nST  _ _ _ _) (hB.get 0 (x:=⟨g5,fl [[.int .i64 z.k],[.int .i64 z.i],[.int .i64 z.r],[.bool z.l]],45⟩) rfl) 0 (v:=.int .i64 z.k) rfl rfl)) ?_
   simp only [nrm]
   refine list_val (.int .u64 (z.k % 18446744073709551616)) (by kernel_rfl) (conv_iuW _ (.tmp 46) z.k rfl (by kernel_rfl) _ rfl) ?_
   simp only [nrm]
   refine list_val (.int .u64 kd) (by kernel_rfl) (rem_u _ (.tmp 47) (.const (.int .u64 4)) (z.k % 18446744073709551616) 4 rfl (by kernel_rfl) rfl (unhide hk0) (by decide) (by decide) _ (unhide hkd).symm) ?_
   simp only [nrm]
   refine wpList_nil ?_
   have hgt:=hB.get 0 (x:=⟨g5,fl [[.int .i64 z.k],[.int .i64 z.i],[.int .i64 z.r],[.bool z.l]],45⟩) rfl
   have hS2:=(unhide hS).gr hB.gr
   have hG2:=(unhide hG).gr hB.gr hbw
   have hbu:w.heap.size≤u4.heap.size:=Nat.le_trans hbw hG2.size
   clear hB
   replace hgt:=hide hgt; replace hS2:=hide hS2; replace hG2:=hide hG2
   go_upto_block 2 with fail
   refine wp_block ?_
   refine switch1 w.heap.size g3 g5 i i z.k z.i z.r kd z.l A B u4 _ _ _ _ _ _ _ _ _ _ _ _ _ _ _ _ _ _ _ _ _ _ _ _ _ _ _ _ _ _ _ _ _ _ _ _ _ _ _ _ _ _ _ _ _ _ _ _ _ _ _ _ _ _ _ _ _ _ _ _ _ _ _ _ _ _ _ _ _ _ _ _ _ _ _ _ _ _ _ _ _ _ _ _ _ _ _ _ _ _ _ _ _ _ _ _ _ _ _ _ _ _ _ _ _ _ _ _ _ _ _ _ _ _ _ _ _ _ _ _ _ _ _ _ _ _ _ _ _ _ _ _ _ _ _ _ _ _ _ _ _ _ _ _ _ _ _ _ _ _ _ _ _ _ _ _ _ _ _ _ _ _ _ _ _ _ _ _ _ _ _ _ _ _ _ _ _ _ _ _ _ _ _ _ _ _ _ _ _ _ _ _ _ _ _ _ _ _ _ _ _ _ _ _ _ _ _ _ _ _ _ _ _ _ _ _ _ _ _ _ _ _ _ _ _ _ _ _ _ _ _ _ _ _ _ _ _ _ hbu hbg (unhide hS2) (unhide hI) (unhide hN) (by omega) (by omega) (unhide hgt) (fun _ _ _ _ _ h=>h) ?_
   intro u2 u8 u9 u10 u11 u12 u13 u14 u15 u49 u50 u51 u52 u53 u54 u55 u56 u57 u58 u59 u60 u61 u62 u63 u64 u65 u66 u67 u68 u69 u70 u71 u72 u73 u74 u75 u76 u77 u78 u79 u80 u81 u82 u83 u84 u85 u86 u87 u88 u89 u90 u91 u92 u93 u94 u95 u96 u97 u98 u99 u100 u101 u102 u103 u104 u105 u106 u107 u108 u109 u110 u111 u112 u113 u114 u115 u116 u117 u118 u119 u120 u121 u122 u123 u124 u125 u126 u127 u128 u129 u130 u131 u132 u133 u134 u135 u136 u137 u138 u139 u140 u141 u142 u143 u144 u145 u146 u147 u148 u149 u150 u151 u152 u153 u154 u155 u156 u157 u158 u159 u160 u161 u162 u163 u164 u165 u166 u167 u168 u169 u170 u171 u172 u173 u174 u175 u176 u177 u178 u179 u180 u181 u182 u183 A2 B2 w1 hS3 hI3 hG3 hN3
   dsimp only
   replace hG3:=hide ((unhide hG2).trans hG3)
   replace hS3:=hide hS3; replace hI3:=hide hI3; replace hN3:=hide hN3
   clear hS hI hN hG hS2 hG2 hgt hrg ha
   have hbu1:w.heap.size≤w1.heap.size:=Nat.le_trans hbw (unhide hG3).size
   go_upto_block 3 with fail
   refine wp_block ?_
   refine ck_ok w.heap.size g3 A2 B2 w1 _ _ _ _ _ _ _ _ _ _ _ _ _ _ _ _ _ _ _ _ _ _ _ _ _ _ _ _ _ _ _ _ _ _ _ _ _ _ _ _ _ _ _ _ _ _ _ _ _ _ _ _ _ _ _ _ _ _ _ _ _ _ _ _ _ _ _ _ _ _ _ _ _ _ _ _ _ _ _ _ _ _ _ _ _ _ _ _ _ _ _ _ _ _ _ _ _ _ _ _ _ _ _ _ _ _ _ _ _ _ _ _ _ _ _ _ _ _ _ _ _ _ _ _ _ _ _ _ _ _ _ _ _ _ _ _ _ _ _ _ _ _ _ _ _ _ _ _ _ _ _ _ _ _ _ _ _ _ _ _ _ _ _ _ _ _ _ _ _ _ _ _ _ _ _ _ _ _ _ _ _ _ _ _ _ _ _ _ _ _ _ _ _ _ _ _ _ _ _ _ _ _ _ _ _ _ _ _ _ _ _ _ _ _ _ _ _ _ _ _ _ _ _ _ _ _ _ _ _ _ _ _ _ _ _ _ _ _ _ _ _ _ hbu1 hbg (unhide hS3) (unhide hI3) (fun _ _ _ _ _ h=>h) ?_
   intro u2 u16 u17 u18 u184 u185 u186 u187 u188 u189 u190 u191 u192 u193 u194 u195 u196 u197 u198 u199 u200 u201 u202 u203 u204 u205 u206 u207 u208 u209 u210 u211 u212 u213 u214 u215 u216 u217 u218 u219 u220 u221 u222 u223 u224 u225 u226 u227 u228 u229 u230 u231 u232 u233 u234 u235 u236 u237 u238 u239 u240 u241 w2 hS4 hG4
   dsimp only
   replace hG4:=hide ((unhide hG3).trans hG4)
   replace hS4:=hide hS4
   clear hS3 hG3
   have jw:IntKind.i64.wrap ((i:Int)+1)=(i:Int)+1:=by rw [IntKind.wrap_i64]; omega
   go_wp2_with fail
   go_roundw
   case rel=>exact ⟨i+1,A2,B2,by omega,by simp,hS4,hI3,hN3,hG4⟩
   case measure=>simp [intOf]; omega
 ·have jI:¬ (i:Int)<(m:Int):=by omega
  have hB:=Bl.nil wr
  have hgw:=hide (gr_cg (unhide hgr) (unhide hG))
  replace hB:=hide hB
  go_upto_region 40 with fail
  replace hB:=unhide hB
  refine wp_region_lit ?_
  (refine wpList_step fun K hK=>?_; replace hK:=hide hK; go_simp; refine unhide hK _ _ ?_; clear hK K)
  refine wpList_nil ?_
  replace hB:=hide hB
  go_wp2_with fail
  replace hB:=unhide hB
  rw [unhide hT]
  exact (⟨rfl,unhide hgw⟩)
end Go.Proofs.Ytcefkkoombmndab
namespace Go.Proofs.Ytcefkkoombmndab
open Go.RowKit
set_option maxRecDepth 100000
set_option linter.unusedSimpArgs false
set_option linter.unusedVariables false
theorem trod_struct4 {H:Type} {enc:TypeId × Value→H} {P:Program} {w:World} {base:Nat} {spare:Nat→Bool} {held:Bool} {t:TypeId} {f0 f1 f2 f3:Field} {fuel:Nat} {cs:List Value} {x:DataW H × List MemPlace} (ht:P.underlying t=some (.struct #[f0,f1,f2,f3])) (h:DataW.trod enc P w base spare held fuel t cs=some x) :
  ∃ y0 y1 y2 y3 n,cs.length=P.cellsOf t∧DataW.trod enc P w base spare held n f0.type ((cs.drop f0.offset).take (P.cellsOf f0.type))=some y0∧DataW.trod enc P w base spare held n f1.type ((cs.drop f1.offset).take (P.cellsOf f1.type))=some y1∧DataW.trod enc P w base spare held n f2.type ((cs.drop f2.offset).take (P.cellsOf f2.type))=some y2∧DataW.trod enc P w base spare held n f3.type ((cs.drop f3.offset).take (P.cellsOf f3.type))=some y3:=by
 obtain ⟨xs,n,_,rfl,hl,hlen,hf⟩:=DataW.trod_struct ht h
 match xs,hlen with
 | [y0,y1,y2,y3],_=>exact ⟨y0,y1,y2,y3,n,hl,by simpa using hf 0 f0 rfl,by simpa using hf 1 f1 rfl,by simpa using hf 2 f2 rfl,by simpa using hf 3 f3 rfl⟩
theorem Try.cellsB1:Try.prog.cellsOf 4=1:=by kernel_rfl
theorem Try.cellsStp:Try.prog.cellsOf 45=4:=by kernel_rfl
theorem open_stp {H:Type} {enc:TypeId × Value→H} {W:World} {fuel:Nat} {cs:List Value} {x:DataW H × List MemPlace} (hf:DataW.trod enc Try.prog W 0 (fun _=>true) true fuel 45 cs=some x):∃ s:Stp,cs=sps s∧True:=by
 obtain ⟨y0,y1,y2,y3,n,hl,h0,h1,h2,h3⟩:=trod_struct4 Try.underlying45 hf
 simp only [Try.cellsI,Try.cellsB1] at h0 h1 h2 h3
 rw [Try.cellsStp] at hl
 obtain ⟨z0,e0,_,w0⟩:=DataW.trod_int Try.underlying3 h0
 obtain ⟨z1,e1,_,w1⟩:=DataW.trod_int Try.underlying3 h1
 obtain ⟨z2,e2,_,w2⟩:=DataW.trod_int Try.underlying3 h2
 obtain ⟨z3,e3,_⟩:=DataW.trod_bool Try.underlying4 h3
 refine ⟨⟨z0,z1,z2,z3⟩,?_,trivial⟩
 match cs,hl with
 | [a,b,c,d],_ =>
  simp at e0 e1 e2 e3
  subst e0 e1 e2 e3
  rfl
theorem open_steps {H:Type} {enc:TypeId × Value→H} {W:World} {fuel:Nat} {cs:List Value} {x:DataW H × List MemPlace} (hf:DataW.trod enc Try.prog W 0 (fun _=>true) true fuel 38 cs=some x):∃ a len cap l,cs=[.slice a len cap]∧Lr 4 W a len cap ((l:List Stp).map sps):=by
 obtain ⟨a,len,cap,L,e1,hR,-⟩:=open_rows (t:=38) (e:=45) (k:=4) Try.underlying38 Try.cellsStp (by decide) (⟨0,0,0,false⟩:Stp) sps (fun _=>True) (fun s hs=>rfl) (fun fuel cs x hx=>open_stp hx) hf
 exact ⟨a,len,cap,L,e1,hR⟩
theorem order_law (W:World) (l:List Stp) (a:Option Addr) (n c:Nat) (h:Lr 4 W a n c (l.map sps)):Calls Try.prog 4 #[.slice a n c] W (Vl (.bool true) W):=by
 refine order_law0 W a n c (fun j hj=>?_) h.cap h.max
 rcases h.sl with h0 | ⟨p,o,e,h2⟩
 ·omega
 ·have hl:=h.len
  rw [List.length_map] at hl
  obtain ⟨z,hz⟩:∃ z,l[j]?=some z:=⟨_,List.getElem?_eq_getElem (by omega)⟩
  have h3:=h2 j hj
  have e4:(l.map sps).getD j []=sps z:=by simp [List.getD,hz]
  rw [e4] at h3
  exact ⟨p,o,z,e,h3⟩
end Go.Proofs.Ytcefkkoombmndab
namespace Go.Proofs.Ytcefkkoombmndab
open Go.ChangeShapes Go.WideShapes Go.ChangeAt Go.RowKit
set_option linter.unusedVariables false
set_option maxRecDepth 100000 in
set_option linter.unusedSimpArgs false
theorem convoOrder_lifted (os:Go.Os) (started:os.Started) (H:Type) (enc:TypeId × Value→H) :
  ReturnsInHanded {} Try.checked os 4 .any (Rows.convoOrderSpec.pre6 enc Try.prog Try.f4 Rows.convoOrderRow.domain false) (Rows.convoOrderSpec.post enc Try.prog Try.f4 false true false false):=by
 refine returnsInHanded_of_change_sized (C:=Try.checked) own started (by kernel_rfl) Try.func4
  (ChangeSpec.witness6 (enc:=enc) (C:=Try.checked) false ⟨#[],#[.slice none 0 0],[]⟩ 8 (by kernel_rfl) (by kernel_rfl) (by kernel_rfl) (by kernel_rfl)) ?_
 intro W base args ds gs before hval0 hW hcnd hsz0 _
 have hsz:(DataW.weightsEach Try.prog (Try.f4.params.toList++Rows.convoOrderSpec.plain.varTypes Try.prog) (ds++gs)).all (·≤reachBytes)=true:=hsz0
 have hval:∀ (j:Nat) t v,Try.f4.params[j]?=some t→args[j]?=some v→Value.okWide Try.prog W .any base t v:=hval0
 have hW':=hW
 obtain ⟨p,q,hA0,hV,rfl,hfz,hnd⟩:=hW
 have hA:DataW.TrodAll enc Try.prog W 0 (fun _=>true) true Try.f4.params.toList args.toList ds p:=hA0
 rw [Try.params4] at hA hval hsz
 obtain ⟨v0,vs0,d0,ds0,p0,q0,hargs,rfl,rfl,h0,r0⟩:=trodAll_cons hA
 obtain ⟨rfl,rfl,rfl⟩:=trodAll_nil r0
 obtain rfl:args=#[v0]:=by cases args; simp_all
 obtain ⟨rfl,rfl⟩:=trodVars_none hV
 have k0:=h0
 have lt0:∀ x ∈ p0,x.block<W.heap.size:=by obtain ⟨m,hm⟩:=k0; exact DataW.trod_lt m _ _ _ hm
 obtain ⟨s0,len0,cap0,rfl⟩:=okWide_slice Try.underlying38 (hval 0 38 v0 rfl rfl)
 obtain ⟨l0,hl0⟩:∃ l:List Stp,Lr 4 W s0 len0 cap0 (l.map sps):=by
  obtain ⟨m,hm⟩:=h0
  obtain ⟨a,n,c,l,e,hR⟩:=open_steps hm
  simp [Value.cells] at e
  obtain ⟨rfl,rfl,rfl⟩:=e
  exact ⟨l,hR⟩
 clear hA0 hval0
 refine (order_law W l0 s0 len0 cap0 hl0).mono fun e W' ⟨he,bel⟩=>?_
 subst he
 exact ⟨_,rfl,_,_,_,[],_,[],hW',trodAll_mk1 (shut_bool Try.underlying4 _),(trodAll_cons_mk (Below.trod laidOut (by kernel_rfl) (of_decide_eq_true (by kernel_rfl)) k0 bel lt0) trodAll_mk0),rfl,bel.frame _,fun h=>by cases h⟩
theorem convoOrder_holds:Rows.ConvoOrderSaid :=
 OpenClaim.holds_of_wide 4 Try.f4 rfl rfl rfl rfl rfl rfl rfl ⟨rfl,rfl,rfl,rfl,rfl⟩ rfl rfl rfl rfl rfl (by kernel_rfl) Try.func4 (by kernel_rfl)
  (of_decide_eq_true (by kernel_rfl)) (by unfold Func.isWrapper; first | (rw [if_pos (by decide +kernel)]; kernel_rfl) | (rw [if_neg (by decide +kernel)]; exact ⟨rfl,rfl⟩))
  (fun os started H enc _=>convoOrder_lifted os started H enc)
end Go.Proofs.Ytcefkkoombmndab
