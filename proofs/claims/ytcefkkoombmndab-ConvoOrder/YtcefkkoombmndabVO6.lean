/-
  What the proof leans on.
-/
import Derived.Test.YtcefkkoombmndabVO5
namespace Go.Proofs.Ytcefkkoombmndab
open Go.RowKit
set_option maxRecDepth 100000
set_option linter.unusedSimpArgs false
set_option linter.unusedVariables false
theorem nilb (w:World):Bl (bare w) [] w:=⟨⟨rfl,rfl,rfl,Nat.zero_le _,fun i hi=>absurd hi (Nat.not_lt_zero i)⟩,(fun _ h=>by cases h),List.Pairwise.nil⟩
def St (b:Nat) (w:World) (g:Nat) (A B:Sd):Prop:=∃ (x y:Lc) (qA dA vA qB dB vB:Value),w.heap[g]?=some (.cells (fl (sdc A.c x qA dA vA++sdc B.c y qB dB vB)) 43 (0,0))∧Co b w A.c x∧Co b w B.c y∧Fam b w (fam A B qA dA vA qB dB vB)∧(∀ u ∈ A.w,u.B.length=105∧IsB u.B)∧(∀ u ∈ B.w,u.B.length=105∧IsB u.B)
def Old (L:List En) (n:Nat):Prop:=∀ (i:Nat) (y:En),L[i]?=some y→∀ g,y.v.ownBlock=some g→g<n
theorem Fam.old {b:Nat} {w:World} {L:List En} (h:Fam b w L):Old L w.heap.size:=fun i y hy g hg=>by
 obtain ⟨_,cur,h2⟩:=own_lt (h.own i y hy) hg
 exact lt_of_block h2
theorem Fam.bo {b n j:Nat} {w u:World} {L:List En} (h:Fam b w L) {C:Array Value} {t:TypeId} (hz:w.heap[j]?=some (.cells C t (0,0))) (m:Bt j w u) (ho:Old L n) (hj:n≤j):Fam b u L :=
 ⟨fun i y hy=>own_keep (h.own i y hy) fun g hg=>by
  obtain ⟨_,cur,h2⟩:=own_lt (h.own i y hy) hg
  have:=ho i y hy g hg
  exact m.block g (lt_of_block h2) (by omega),h.ne⟩
theorem Fam.bz {b g:Nat} {w u:World} {A B:Sd} {qA dA vA qB dB vB:Value} (h:Fam b w (fam A B qA dA vA qB dB vB)) {C:Array Value} {t:TypeId} (hg:w.heap[g]?=some (.cells C t (0,0))) (m:Bt g w u) (h1:t≠9:=by decide) (h2:t≠53:=by decide):Fam b u (fam A B qA dA vA qB dB vB) :=
 h.bt hg m fun y hy=>by
  unfold fam at hy
  simp only [List.mem_cons,List.not_mem_nil,or_false] at hy
  rcases hy with rfl | rfl | rfl | rfl | rfl | rfl <;> assumption
structure Cgs (g b:Nat) (w u:World):Prop where
 cg:Cg g b w u
 hb:b≤w.heap.size
theorem Cgs.size {g b:Nat} {w u:World} (h:Cgs g b w u):w.heap.size≤u.heap.size:=h.cg.size
theorem Cgs.gr {g b:Nat} {w u v:World} (h:Cgs g b w u) (k:Gr u v):Cgs g b w v:=⟨h.cg.gr k h.hb,h.hb⟩
theorem Cgs.bl {g b j:Nat} {w u v:World} (h:Cgs g b w u) {C:Array Value} {t:TypeId} (hz:u.heap[j]?=some (.cells C t (0,0))) (m:Bt j u v) (hj:w.heap.size≤j):Cgs g b w v:=⟨h.cg.bt m h.hb (.inr hj),h.hb⟩
theorem Cgs.bg {g b:Nat} {w u v:World} (h:Cgs g b w u) {C:Array Value} {t:TypeId} (hz:u.heap[g]?=some (.cells C t (0,0))) (m:Bt g u v) (hbg:b≤g):Cgs g b w v:=⟨h.cg.bt m h.hb (.inl ⟨rfl,hbg⟩),h.hb⟩
def RcB (b:Nat) (c':Cm) (rest:List Value) (w:World) (r:Ending) (w':World):Prop:=∃ x,r=.returned (.tuple (.agg (fl (cvs c' x))::rest).toArray)∧Co b w' c' x∧Gr w w'
theorem rcb_of {b:Nat} {c':Cm} {rest:List Value} {w:World} {r:Ending} {w':World} (h:Rc c' rest w r w') (hb:b≤w.heap.size):RcB b c' rest w r w':=by
 obtain ⟨x,h1,h2,h3,h4⟩:=h
 exact ⟨x,h1,⟨h2,h3.base hb⟩,h4⟩
theorem unr_fl (u:Un):(unr u).toArray=fl [[.int .u32 u.ack],[.int .u32 u.seq],bw u.B,[.bool u.idle]]:=by simp [unr,fl]
theorem und_at {w:World} {g:Nat} {p q:Int} {B:List Int} {i:Bool} (h:w.heap[g]?=some (.cells (fl [[.int .u32 p],[.int .u32 q],bw B,[.bool i]]) 53 (0,0))):w.rangeAt g 0 (unr ⟨p,q,B,i⟩):=by
 have h2:w.heap[g]?=some (.cells (unr ⟨p,q,B,i⟩).toArray 53 (0,0)):=by rw [unr_fl]; exact h
 exact range_row h2
theorem own_ne_ty {k:Nat} {e:TypeId} {b:Nat} {w:World} {v:Value} {R:List (List Value)} (h:Or_ k e b w v R) {j:Nat} {C:Array Value} {t:TypeId} (hz:w.heap[j]?=some (.cells C t (0,0))) (ht:t≠e):v.ownBlock≠some j:=fun e1=>by
 obtain ⟨_,cur,h2⟩:=own_lt h e1
 rw [h2] at hz
 cases hz
 exact ht rfl
theorem Bl.grownN {w v v':World} {L:List Blk} (h:Bl (bare w) L v) {o:Option Nat} (g:v.grownBy v' o) (hn:∀ y ∈ L,o≠some y.g):Bl (bare w) L v' :=
 ⟨⟨g.os.trans h.gr.os,g.tape.trans h.gr.tape,g.output.trans h.gr.output,Nat.zero_le _,fun i hi=>absurd hi (Nat.not_lt_zero i)⟩,fun y hy=>by
  obtain ⟨h1,h2⟩:=h.at_ y hy
  exact ⟨by rw [g.block y.g (lt_of_block h1) (fun e=>hn y hy e.symm)]; exact h1,h2⟩,h.ne⟩
theorem z105b:IsB Z105:=fun x hx=>by
 unfold Z105 at hx
 rw [List.eq_of_mem_replicate hx]
 decide
set_option maxHeartbeats 4000000 in
theorem ssay_some0 (b g:Nat) (A B:Sd) (w:World) (hb:b≤w.heap.size) (hbg:b≤g) (hS:St b w g A B) (hI:Inv A B) (h0:A.c.O.length≠0) (hmany:A.w.length≤100000):Calls Try.prog 12 #[.pointer (some ⟨g,0,none⟩)] w (fun r_ w'=>r_=.returned (.bool true)∧St b w' g { A with c:=(tu A.c).1,w:=A.w++[⟨A.c.dl,(tu A.c).2.1.n,(tu A.c).2.1.B,false⟩] } B∧Cg g b w w'):=by
 obtain ⟨T,hT⟩:∃ T:Ending→World→Prop,T=(fun r_ w'=>r_=.returned (.bool true)∧St b w' g { A with c:=(tu A.c).1,w:=A.w++[⟨A.c.dl,(tu A.c).2.1.n,(tu A.c).2.1.B,false⟩] } B∧Cg g b w w'):=⟨_,rfl⟩
 rw [← hT]
 replace hT:=hide hT
 obtain ⟨x,y,qA,dA,vA,qB,dB,vB,hg,hA,hD,hXF,hU,hV⟩:=hS
 obtain ⟨sa,sc,hva,-⟩:=(hXF.own 2 _ rfl).lz
 dsimp only at hva
 subst hva
 obtain ⟨n,hn⟩:∃ n,n=(A.w.map unr).length:=⟨_,rfl⟩
 rw [← hn] at hg hXF
 have hXo:=hXF.old
 have hXG:Hid (Cgs g b w w):=⟨Cg.refl g b w,hb⟩
 have hR:=hI.1
 obtain ⟨c',o,hTu,hot⟩:∃ c' o,tu A.c=(c',o,0)∧o=A.c.O.getD A.c.tn.toNat oZ:=⟨_,_,ot_some hR h0,rfl⟩
 have hoB:o.Ok:=by
  have hl:=rt_le hR.rt
  have hlt:A.c.tn.toNat<A.c.O.length:=by omega
  rw [hot,List.getD_eq_getElem?_getD,List.getElem?_eq_getElem hlt]
  exact hA.i.o.1 _ (List.getElem_mem hlt)
 have hoBl:=hoB.2.1
 rw [hTu] at hT
 dsimp only at hT
 replace hTu:=hide hTu
 clear hot
 have hdl:=hide hA.i.dl
 replace hXF:=hide hXF; replace hA:=hide hA; replace hD:=hide hD; replace hU:=hide hU; replace hV:=hide hV; replace hI:=hide hI; replace hR:=hide hR
 have hbl:=lt_of_block hg
 go_enter Try.func12,Try.ntmps12
 go_upto_region 1 with fail
 have hB:=(nilb w).add ⟨g,sg A.c x qA dA (.slice sa n sc) B.c y qB dB vB,43⟩ hg (Nat.zero_le _) (by intro y hy; cases hy)
 simp only [List.nil_append] at hB
 clear hg
 obtain ⟨u0,hu_⟩:∃ u,u=w:=⟨_,rfl⟩
 have hB2:Bl (bare w) [⟨g,sg A.c x qA dA (.slice sa n sc) B.c y qB dB vB,43⟩] u0:=hu_ ▸ hB
 replace hXF:=hu_ ▸ hXF; replace hA:=hu_ ▸ hA; replace hD:=hu_ ▸ hD
 replace hXG:Hid (Cgs g b w u0):=hu_ ▸ hXG
 clear hB
 have hB:=hB2
 clear hB2
 first | rw [← hu_] | skip
 clear hu_
 refine wp_region_lit ?_
 refine lvk (.pointer (some ⟨g,0,none⟩)) ?_
 simp only [nrm]
 refine lvk (.pointer (some ⟨g,0,none⟩)) ?_
 simp only [nrm]
 refine lvk (.pointer (some ⟨g,0,none⟩)) ?_
 simp only [nrm]
 refine lvk (.pointer (some ⟨g,3,none⟩)) ?_
 simp only [nrm]
 refine list_val (.int .u32 A.c.dl) (by kernel_rfl) (exec_c32 _ (.tmp 10) rfl (g) 3 (by kernel_rfl) A.c.dl (seg_cell (nS2  _ _ _ _ _ _ _ _ _ _ _ _ _ _ _ _) (hB.get 0 (x:=⟨g,sg A.c x qA dA (.slice sa n sc) B.c y qB dB vB,43⟩) rfl) 3 (v:=.int .u32 A.c.dl) rfl rfl)) ?_
 simp only [nrm]
 refine list_val (.agg (fl [[.int .u32 A.c.dl],[.int .u32 0],bw Z105,[.bool true]])) (by kernel_rfl) (bD03 _ (.tmp 11) (.const (.bool true)) rfl (by kernel_rfl) (by kernel_rfl)) ?_
 simp only [nrm]
 have hgl3:=(unhide hXG).size
 refine list_valw (.pointer (some ⟨u0.heap.size,0,none⟩)) (u0.alloc (.cells (cu0) 53 (0,0))) (by kernel_rfl) (by kernel_rfl) ?_
 replace hB:=hB.new (cu0) 53
 simp only [List.nil_append,List.cons_append] at hB
 have hg:=(Gr.refl u0).alloc (.cells (cu0) 53 (0,0))
 replace hA:=hide ((unhide hA).gr hg)
 replace hD:=hide ((unhide hD).gr hg)
 replace hXF:=hide ((unhide hXF).gr hg)
 replace hXG:=hide ((unhide hXG).gr hg)
 clear hg
 generalize World.alloc _ _=u1 at *
 generalize u0.heap.size=g3 at *
 simp only [nrm]
 have hzz_:Hid (u1.heap[g3]?=some (.cells (cu0) 53 (0,0))):=hide (hB.get 1 (x:=⟨g3,cu0,53⟩) rfl)
 refine list_all 53 (.tmp 3) (.tmp 12) (g3) (S2:=[[.int .u32 A.c.dl],[.int .u32 0],bw Z105,[.bool true]]) (by kernel_rfl) rfl (by kernel_rfl) (by kernel_rfl) hB 1 rfl ND (nD Z105_len _ _ _) (nD Z105_len _ _ _) (by kernel_rfl) (oD _ rfl rfl rfl) ?_
 intro u2 hB_ hbt_
 clear hB
 replace hB:Bl (bare w) [⟨g,sg A.c x qA dA (.slice sa n sc) B.c y qB dB vB,43⟩,⟨g3,fl [[.int .u32 A.c.dl],[.int .u32 0],bw Z105,[.bool true]],53⟩] u2:=hB_
 clear hB_
 replace hA:=hide ((unhide hA).bz (unhide hzz_) hbt_)
 replace hD:=hide ((unhide hD).bz (unhide hzz_) hbt_)
 replace hXF:=hide ((unhide hXF).bo (unhide hzz_) hbt_ hXo hgl3)
 replace hXG:=hide ((unhide hXG).bl (unhide hzz_) hbt_ hgl3)
 clear hbt_ hzz_
 simp only [nrm]
 refine wpList_nil ?_
 replace hB:=hide hB
 go_upto_region 2 with fail
 replace hB:=unhide hB
 refine wp_region_lit ?_
 refine lvk (.pointer (some ⟨g,0,none⟩)) ?_
 simp only [nrm]
 refine lvk (.pointer (some ⟨g,0,none⟩)) ?_
 simp only [nrm]
 refine lvk (.pointer (some ⟨g,0,none⟩)) ?_
 simp only [nrm]
 refine list_val (.agg (cg A.c x)) (by kernel_rfl) (exec_sr _ 26 (.tmp 16) rfl (g) 0 (by kernel_rfl) (hB.get 0 (x:=⟨g,sg A.c x qA dA (.slice sa n sc) B.c y qB dB vB,43⟩) rfl) 0 5 (show 0+5≤16 by decide) rfl Try.underlying26 rfl (by kernel_rfl)) ?_
 simp only [nrm]
 refine list_call 9 #[.agg (cg A.c x)] (by kernel_rfl) (by kernel_rfl) ((((show Calls Try.prog 9 #[.agg (cg A.c x)] u2 (Rc c' [.agg (fl [[.int .u32 o.n],bw o.B]),.int .i64 0] u2) from by have h:=turn_ok A.c x u2 (unhide hA).i; rw [unhide hTu] at h; exact h).mono fun _ _ h=>rcb_of h (Nat.le_trans hb (unhide hXG).size))).mono ?_)
 rintro r_ u3 ⟨x2,rfl,hE,hg⟩
 replace hA:=hide ((unhide hA).gr hg)
 replace hD:=hide ((unhide hD).gr hg)
 replace hXF:=hide ((unhide hXF).gr hg)
 replace hXG:=hide ((unhide hXG).gr hg)
 replace hB:=hB.more hg
 clear hg
 replace hE:=hide hE
 refine ⟨_,rfl,?_⟩
 simp only [nrm]
 refine lvk (.tuple #[.agg (cg c' x2),.agg (fl [[.int .u32 o.n],bw o.B]),.int .i64 0]) ?_
 simp only [nrm]
 refine lvk (.agg (cg c' x2)) ?_
 simp only [nrm]
 refine lvk (.agg (fl [[.int .u32 o.n],bw o.B])) ?_
 simp only [nrm]
 refine lvk (.int .i64 0) ?_
 simp only [nrm]
 have hgl4:=(unhide hXG).size
 refine list_valw (.pointer (some ⟨u3.heap.size,0,none⟩)) (u3.alloc (.cells (cg0) 26 (0,0))) (by kernel_rfl) (by kernel_rfl) ?_
 replace hB:=hB.new (cg0) 26
 simp only [List.nil_append,List.cons_append] at hB
 have hg:=(Gr.refl u3).alloc (.cells (cg0) 26 (0,0))
 replace hA:=hide ((unhide hA).gr hg)
 replace hD:=hide ((unhide hD).gr hg)
 replace hXF:=hide ((unhide hXF).gr hg)
 replace hXG:=hide ((unhide hXG).gr hg)
 replace hE:=hide ((unhide hE).gr hg)
 clear hg
 generalize World.alloc _ _=u4 at *
 generalize u3.heap.size=g4 at *
 simp only [nrm]
 have hgl5:=(unhide hXG).size
 have hne5_hA:=(unhide hA).newO
 have hne5_hD:=(unhide hD).newO
 have hne5_hE:=(unhide hE).newO
 refine list_valw (.pointer (some ⟨u4.heap.size,0,none⟩)) (u4.alloc (.cells (fl [[.int .u32 0],bw Z105]) 33 (0,0))) (by kernel_rfl) (by kernel_rfl) ?_
 replace hB:=hB.new (fl [[.int .u32 0],bw Z105]) 33
 simp only [List.nil_append,List.cons_append] at hB
 have hg:=(Gr.refl u4).alloc (.cells (fl [[.int .u32 0],bw Z105]) 33 (0,0))
 replace hA:=hide ((unhide hA).gr hg)
 replace hD:=hide ((unhide hD).gr hg)
 replace hXF:=hide ((unhide hXF).gr hg)
 replace hXG:=hide ((unhide hXG).gr hg)
 replace hE:=hide ((unhide hE).gr hg)
 clear hg
 generalize World.alloc _ _=u5 at *
 generalize u4.heap.size=g5 at *
 simp only [nrm]
 have hzz_:Hid (u5.heap[g4]?=some (.cells (cg0) 26 (0,0))):=hide (hB.get 2 (x:=⟨g4,cg0,26⟩) rfl)
 refine list_all 26 (.tmp 4) (.tmp 19) (g4) (S2:=[[.int .u32 c'.nx],[.slice x2.ao x2.no x2.co],[.int .i64 c'.tn],[.int .u32 c'.dl],[.slice x2.ah x2.nh x2.ch]]) (by kernel_rfl) rfl (by kernel_rfl) (by kernel_rfl) hB 2 rfl NC (nC  _ _ _ _ _) (nC  _ _ _ _ _) (by kernel_rfl) (oC  rfl rfl rfl rfl rfl) ?_
 intro u6 hB_ hbt_
 clear hB
 replace hB:Bl (bare w) [⟨g,sg A.c x qA dA (.slice sa n sc) B.c y qB dB vB,43⟩,⟨g3,fl [[.int .u32 A.c.dl],[.int .u32 0],bw Z105,[.bool true]],53⟩,⟨g4,cg c' x2,26⟩,⟨g5,fl [[.int .u32 0],bw Z105],33⟩] u6:=hB_
 clear hB_
 replace hA:=hide ((unhide hA).bz (unhide hzz_) hbt_)
 replace hD:=hide ((unhide hD).bz (unhide hzz_) hbt_)
 replace hXF:=hide ((unhide hXF).bo (unhide hzz_) hbt_ hXo hgl4)
 replace hXG:=hide ((unhide hXG).bl (unhide hzz_) hbt_ hgl4)
 replace hE:=hide ((unhide hE).bz (unhide hzz_) hbt_)
 clear hbt_ hzz_
 simp only [nrm]
 have hzz_:Hid (u6.heap[g5]?=some (.cells (fl [[.int .u32 0],bw Z105]) 33 (0,0))):=hide (hB.get 3 (x:=⟨g5,fl [[.int .u32 0],bw Z105],33⟩) rfl)
 refine list_all 33 (.tmp 5) (.tmp 20) (g5) (S2:=[[.int .u32 o.n],bw o.B]) (by kernel_rfl) rfl (by kernel_rfl) (by kernel_rfl) hB 3 rfl NO (nO Z105_len _) (nO hoBl _) (by kernel_rfl) (oO _ rfl) ?_
 intro u7 hB_ hbt_
 clear hB
 replace hB:Bl (bare w) [⟨g,sg A.c x qA dA (.slice sa n sc) B.c y qB dB vB,43⟩,⟨g3,fl [[.int .u32 A.c.dl],[.int .u32 0],bw Z105,[.bool true]],53⟩,⟨g4,cg c' x2,26⟩,⟨g5,fl [[.int .u32 o.n],bw o.B],33⟩] u7:=hB_
 clear hB_
 replace hA:=hide ((unhide hA).bkO (unhide hzz_) hbt_ hne5_hA)
 replace hD:=hide ((unhide hD).bkO (unhide hzz_) hbt_ hne5_hD)
 replace hXF:=hide ((unhide hXF).bo (unhide hzz_) hbt_ hXo hgl5)
 replace hXG:=hide ((unhide hXG).bl (unhide hzz_) hbt_ hgl5)
 replace hE:=hide ((unhide hE).bkO (unhide hzz_) hbt_ hne5_hE)
 clear hbt_ hzz_
 simp only [nrm]
 (refine wpList_step fun K hK=>?_; replace hK:=hide hK; go_simp; refine unhide hK _ _ ?_; clear hK K)
 refine wpList_nil ?_
 replace hB:=hide hB
 go_upto_region 3 with fail
 replace hB:=unhide hB
 refine wp_region_lit ?_
 refine lvk (.int .i64 0) ?_
 simp only [nrm]
 refine list_val (.bool true) (by kernel_rfl) (eql_e _ (.tmp 22) (.const (.int .i64 0)) 0 0 true rfl (by kernel_rfl) (by kernel_rfl) (by decide)) ?_
 simp only [nrm]
 refine wpList_nil ?_
 replace hB:=hide hB
 go_upto_region 4 with fail
 replace hB:=unhide hB
 refine wp_region_lit ?_
 refine lvk (.pointer (some ⟨g,0,none⟩)) ?_
 simp only [nrm]
 refine list_val (.agg (cg c' x2)) (by kernel_rfl) (exec_sw _ 26 (.tmp 4) rfl (g4) (by kernel_rfl) (hB.get 2 (x:=⟨g4,cg c' x2,26⟩) rfl) NC (nC  _ _ _ _ _) Try.underlying26 rfl (by kernel_rfl)) ?_
 simp only [nrm]
 refine lvk (.pointer (some ⟨g,0,none⟩)) ?_
 simp only [nrm]
 refine lvk (.pointer (some ⟨g,0,none⟩)) ?_
 simp only [nrm]
 have hzz_:Hid (u7.heap[g]?=some (.cells (sg A.c x qA dA (.slice sa n sc) B.c y qB dB vB) 43 (0,0))):=hide (hB.get 0 (x:=⟨g,sg A.c x qA dA (.slice sa n sc) B.c y qB dB vB,43⟩) rfl)
 refine list_sr 26 (.tmp 27) (.tmp 25) (g) 0 [[.int .u32 c'.nx],[.slice x2.ao x2.no x2.co],[.int .i64 c'.tn],[.int .u32 c'.dl],[.slice x2.ah x2.nh x2.ch]] (by kernel_rfl) rfl (by kernel_rfl) (by kernel_rfl) hB 0 rfl 0 5 (show 0+5≤16 by decide) rfl rfl rfl (by kernel_rfl) (oC rfl rfl rfl rfl rfl) ?_
 intro u8 hB_ hbt_
 clear hB
 replace hB:Bl (bare w) [⟨g,sg c' x2 qA dA (.slice sa n sc) B.c y qB dB vB,43⟩,⟨g3,fl [[.int .u32 A.c.dl],[.int .u32 0],bw Z105,[.bool true]],53⟩,⟨g4,cg c' x2,26⟩,⟨g5,fl [[.int .u32 o.n],bw o.B],33⟩] u8:=hB_
 clear hB_
 replace hA:=hide ((unhide hA).bz (unhide hzz_) hbt_)
 replace hD:=hide ((unhide hD).bz (unhide hzz_) hbt_)
 replace hXF:=hide ((unhide hXF).bz (unhide hzz_) hbt_)
 replace hXG:=hide ((unhide hXG).bg (unhide hzz_) hbt_ hbg)
 replace hE:=hide ((unhide hE).bz (unhide hzz_) hbt_)
 clear hbt_ hzz_
 simp only [nrm]
 refine wpList_nil ?_
 replace hB:=hide hB
 go_upto_region 5 with fail
 replace hB:=unhide hB
 refine any_start (S:=fun v_=>v_.heap[g5]?=some (.cells (fl [[.int .u32 o.n],bw o.B]) 33 (0,0))) (by kernel_rfl) ?_
 replace hA:=hide ((unhide hA).gr ((Gr.refl u8).drew))
 replace hD:=hide ((unhide hD).gr ((Gr.refl u8).drew))
 replace hXF:=hide ((unhide hXF).gr ((Gr.refl u8).drew))
 replace hXG:=hide ((unhide hXG).gr ((Gr.refl u8).drew))
 replace hE:=hide ((unhide hE).gr ((Gr.refl u8).drew))
 replace hB:=hB.drew
 generalize World.drew _=u9 at *
 simp only [List.size_toArray,List.length_cons,List.length_nil,Array.replicate,List.replicate]
 have hS_:=hide (show (fun v_=>v_.heap[g5]?=some (.cells (fl [[.int .u32 o.n],bw o.B]) 33 (0,0))) u9 from (hB.get 3 (x:=⟨g5,fl [[.int .u32 o.n],bw o.B],33⟩) rfl))
 refine any_tk 0 (.pointer (some ⟨g5,0,none⟩)) (tf 10 0) rfl (fun x_ hu=>by kernel_rfl) (unhide hS_) ?_
 simp only [nrm]
 refine any_tk 1 (.int .u32 o.n) (tf 10 1) rfl (fun x_ hu=>exec_c32 _ (.tmp 28) rfl (g5) 0 (by kernel_rfl) o.n (seg_cell (nO hoBl _) hu 0 (v:=.int .u32 o.n) rfl rfl)) (unhide hS_) ?_
 simp only [nrm]
 refine any_tk 2 (.pointer (some ⟨g5,1,none⟩)) (tf 10 2) rfl (fun x_ hu=>by kernel_rfl) (unhide hS_) ?_
 simp only [nrm]
 refine any_tk 3 (.agg (fl [bw o.B])) (tf 10 3) rfl (fun x_ hu=>exec_lb _ (.tmp 30) rfl (g5) 1 (by kernel_rfl) hu NO (nO hoBl _) 1 o.B rfl rfl rfl) (unhide hS_) ?_
 simp only [nrm]
 refine any_tk 4 (.pointer (some ⟨g3,107,none⟩)) (tf 10 4) rfl (fun x_ hu=>by kernel_rfl) (unhide hS_) ?_
 simp only [nrm]
 refine any_one (i:=5) (by kernel_rfl) rfl (fun K hK=>?_)
 have hzz_:Hid (u9.heap[g3]?=some (.cells (fl [[.int .u32 A.c.dl],[.int .u32 0],bw Z105,[.bool true]]) 53 (0,0))):=hide (hB.get 1 (x:=⟨g3,fl [[.int .u32 A.c.dl],[.int .u32 0],bw Z105,[.bool true]],53⟩) rfl)
 refine step_cb (.tmp 32) (.const (.bool false)) (g3) 107 false (by kernel_rfl) rfl (by kernel_rfl) (by kernel_rfl) hB 1 rfl ND (nD Z105_len _ _ _) 3 _ rfl rfl ?_
 intro u10 hB_ hbt_
 clear hB
 replace hB:Bl (bare w) [⟨g,sg c' x2 qA dA (.slice sa n sc) B.c y qB dB vB,43⟩,⟨g3,fl [[.int .u32 A.c.dl],[.int .u32 0],bw Z105,[.bool false]],53⟩,⟨g4,cg c' x2,26⟩,⟨g5,fl [[.int .u32 o.n],bw o.B],33⟩] u10:=hB_
 clear hB_
 replace hA:=hide ((unhide hA).bz (unhide hzz_) hbt_)
 replace hD:=hide ((unhide hD).bz (unhide hzz_) hbt_)
 replace hXF:=hide ((unhide hXF).bo (unhide hzz_) hbt_ hXo hgl3)
 replace hXG:=hide ((unhide hXG).bl (unhide hzz_) hbt_ hgl3)
 replace hE:=hide ((unhide hE).bz (unhide hzz_) hbt_)
 clear hbt_ hzz_
 clear hS_
 have hS_:=hide (show (fun v_=>v_.heap[g5]?=some (.cells (fl [[.int .u32 o.n],bw o.B]) 33 (0,0))) u10 from (hB.get 3 (x:=⟨g5,fl [[.int .u32 o.n],bw o.B],33⟩) rfl))
 refine hK.out _ _ (unhide hS_) (fun _=>?_)
 clear hK K
 simp only [nrm]
 refine any_tk 6 (.pointer (some ⟨g3,1,none⟩)) (tf 10 6) rfl (fun x_ hu=>by kernel_rfl) (unhide hS_) ?_
 simp only [nrm]
 refine any_one (i:=7) (by kernel_rfl) rfl (fun K hK=>?_)
 have hzz_:Hid (u10.heap[g3]?=some (.cells (fl [[.int .u32 A.c.dl],[.int .u32 0],bw Z105,[.bool false]]) 53 (0,0))):=hide (hB.get 1 (x:=⟨g3,fl [[.int .u32 A.c.dl],[.int .u32 0],bw Z105,[.bool false]],53⟩) rfl)
 refine step_c32 (.tmp 33) (.tmp 29) (g3) 1 o.n (by kernel_rfl) rfl (by kernel_rfl) (by kernel_rfl) hB 1 rfl ND (nD Z105_len _ _ _) 1 _ rfl rfl ?_
 intro u11 hB_ hbt_
 clear hB
 replace hB:Bl (bare w) [⟨g,sg c' x2 qA dA (.slice sa n sc) B.c y qB dB vB,43⟩,⟨g3,fl [[.int .u32 A.c.dl],[.int .u32 o.n],bw Z105,[.bool false]],53⟩,⟨g4,cg c' x2,26⟩,⟨g5,fl [[.int .u32 o.n],bw o.B],33⟩] u11:=hB_
 clear hB_
 replace hA:=hide ((unhide hA).bz (unhide hzz_) hbt_)
 replace hD:=hide ((unhide hD).bz (unhide hzz_) hbt_)
 replace hXF:=hide ((unhide hXF).bo (unhide hzz_) hbt_ hXo hgl3)
 replace hXG:=hide ((unhide hXG).bl (unhide hzz_) hbt_ hgl3)
 replace hE:=hide ((unhide hE).bz (unhide hzz_) hbt_)
 clear hbt_ hzz_
 clear hS_
 have hS_:=hide (show (fun v_=>v_.heap[g5]?=some (.cells (fl [[.int .u32 o.n],bw o.B]) 33 (0,0))) u11 from (hB.get 3 (x:=⟨g5,fl [[.int .u32 o.n],bw o.B],33⟩) rfl))
 refine hK.out _ _ (unhide hS_) (fun _=>?_)
 clear hK K
 simp only [nrm]
 refine any_tk 8 (.pointer (some ⟨g3,2,none⟩)) (tf 10 8) rfl (fun x_ hu=>by kernel_rfl) (unhide hS_) ?_
 simp only [nrm]
 refine any_one (i:=9) (by kernel_rfl) rfl (fun K hK=>?_)
 have hzz_:Hid (u11.heap[g3]?=some (.cells (fl [[.int .u32 A.c.dl],[.int .u32 o.n],bw Z105,[.bool false]]) 53 (0,0))):=hide (hB.get 1 (x:=⟨g3,fl [[.int .u32 A.c.dl],[.int .u32 o.n],bw Z105,[.bool false]],53⟩) rfl)
 refine step_sgb 48 (.tmp 34) (.tmp 31) (g3) 2 o.B (by kernel_rfl) rfl (by kernel_rfl) (by kernel_rfl) hB 1 rfl ND (nD Z105_len _ _ _) 2 (by rw [bw_len,hoBl]; rfl) rfl (by rw [bw_len,hoBl]; kernel_rfl) ?_
 intro u12 hB_ hbt_
 clear hB
 replace hB:Bl (bare w) [⟨g,sg c' x2 qA dA (.slice sa n sc) B.c y qB dB vB,43⟩,⟨g3,fl [[.int .u32 A.c.dl],[.int .u32 o.n],bw o.B,[.bool false]],53⟩,⟨g4,cg c' x2,26⟩,⟨g5,fl [[.int .u32 o.n],bw o.B],33⟩] u12:=hB_
 clear hB_
 replace hA:=hide ((unhide hA).bz (unhide hzz_) hbt_)
 replace hD:=hide ((unhide hD).bz (unhide hzz_) hbt_)
 replace hXF:=hide ((unhide hXF).bo (unhide hzz_) hbt_ hXo hgl3)
 replace hXG:=hide ((unhide hXG).bl (unhide hzz_) hbt_ hgl3)
 replace hE:=hide ((unhide hE).bz (unhide hzz_) hbt_)
 clear hbt_ hzz_
 clear hS_
 have hS_:=hide (show (fun v_=>v_.heap[g5]?=some (.cells (fl [[.int .u32 o.n],bw o.B]) 33 (0,0))) u12 from (hB.get 3 (x:=⟨g5,fl [[.int .u32 o.n],bw o.B],33⟩) rfl))
 refine hK.out _ _ (unhide hS_) (fun _=>?_)
 clear hK K
 simp only [nrm]
 refine any_done (by kernel_rfl) ?_
 clear hS_
 replace hB:=hide hB
 go_upto_region 8 with fail
 replace hB:=unhide hB
 refine anyC_start 10 (fun v_=>v_.heap[g]?=some (.cells (sg c' x2 qA dA (.slice sa n sc) B.c y qB dB vB) 43 (0,0))∧v_.heap[g3]?=some (.cells (fl [[.int .u32 A.c.dl],[.int .u32 o.n],bw o.B,[.bool false]]) 53 (0,0))) (by kernel_rfl) ?_
 replace hA:=hide ((unhide hA).gr ((Gr.refl u12).drew))
 replace hD:=hide ((unhide hD).gr ((Gr.refl u12).drew))
 replace hXF:=hide ((unhide hXF).gr ((Gr.refl u12).drew))
 replace hXG:=hide ((unhide hXG).gr ((Gr.refl u12).drew))
 replace hE:=hide ((unhide hE).gr ((Gr.refl u12).drew))
 replace hB:=hB.drew
 generalize World.drew _=u13 at *
 simp only [List.size_toArray,List.length_cons,List.length_nil,Array.replicate,List.replicate]
 refine anyC_take (i:=0) (v:=(.pointer (some ⟨g,0,none⟩))) (fun v_=>v_.heap[g]?=some (.cells (sg c' x2 qA dA (.slice sa n sc) B.c y qB dB vB) 43 (0,0))∧v_.heap[g3]?=some (.cells (fl [[.int .u32 A.c.dl],[.int .u32 o.n],bw o.B,[.bool false]]) 53 (0,0))) (fun _ h_=>h_) (.inr (by kernel_rfl)) rfl (by kernel_rfl) (by kernel_rfl) (by kernel_rfl) (by decide) (by kernel_rfl) (by decide) (fun _ _ _ h=>h) (.inl ⟨by kernel_rfl,fun x_ hu=>by kernel_rfl⟩) ⟨(hB.get 0 (x:=⟨g,sg c' x2 qA dA (.slice sa n sc) B.c y qB dB vB,43⟩) rfl),(hB.get 1 (x:=⟨g3,fl [[.int .u32 A.c.dl],[.int .u32 o.n],bw o.B,[.bool false]],53⟩) rfl)⟩ ?_
 simp only [nrm]
 refine anyC_take (i:=1) (v:=(.pointer (some ⟨g,0,none⟩))) (fun v_=>v_.heap[g]?=some (.cells (sg c' x2 qA dA (.slice sa n sc) B.c y qB dB vB) 43 (0,0))∧v_.heap[g3]?=some (.cells (fl [[.int .u32 A.c.dl],[.int .u32 o.n],bw o.B,[.bool false]]) 53 (0,0))) (fun _ h_=>h_) (.inr (by kernel_rfl)) rfl (by kernel_rfl) (by kernel_rfl) (by kernel_rfl) (by decide) (by kernel_rfl) (by decide) (fun _ _ _ h=>h) (.inl ⟨by kernel_rfl,fun x_ hu=>by kernel_rfl⟩) ⟨(hB.get 0 (x:=⟨g,sg c' x2 qA dA (.slice sa n sc) B.c y qB dB vB,43⟩) rfl),(hB.get 1 (x:=⟨g3,fl [[.int .u32 A.c.dl],[.int .u32 o.n],bw o.B,[.bool false]],53⟩) rfl)⟩ ?_
 simp only [nrm]
 refine anyC_take (i:=2) (v:=(.pointer (some ⟨g,0,none⟩))) (fun v_=>v_.heap[g]?=some (.cells (sg c' x2 qA dA (.slice sa n sc) B.c y qB dB vB) 43 (0,0))∧v_.heap[g3]?=some (.cells (fl [[.int .u32 A.c.dl],[.int .u32 o.n],bw o.B,[.bool false]]) 53 (0,0))) (fun _ h_=>h_) (.inr (by kernel_rfl)) rfl (by kernel_rfl) (by kernel_rfl) (by kernel_rfl) (by decide) (by kernel_rfl) (by decide) (fun _ _ _ h=>h) (.inl ⟨by kernel_rfl,fun x_ hu=>by kernel_rfl⟩) ⟨(hB.get 0 (x:=⟨g,sg c' x2 qA dA (.slice sa n sc) B.c y qB dB vB,43⟩) rfl),(hB.get 1 (x:=⟨g3,fl [[.int .u32 A.c.dl],[.int .u32 o.n],bw o.B,[.bool false]],53⟩) rfl)⟩ ?_
 simp only [nrm]
 refine anyC_take (i:=3) (v:=(.pointer (some ⟨g,7,none⟩))) (fun v_=>v_.heap[g]?=some (.cells (sg c' x2 qA dA (.slice sa n sc) B.c y qB dB vB) 43 (0,0))∧v_.heap[g3]?=some (.cells (fl [[.int .u32 A.c.dl],[.int .u32 o.n],bw o.B,[.bool false]]) 53 (0,0))) (fun _ h_=>h_) (.inr (by kernel_rfl)) rfl (by kernel_rfl) (by kernel_rfl) (by kernel_rfl) (by decide) (by kernel_rfl) (by decide) (fun _ _ _ h=>h) (.inl ⟨by kernel_rfl,fun x_ hu=>by kernel_rfl⟩) ⟨(hB.get 0 (x:=⟨g,sg c' x2 qA dA (.slice sa n sc) B.c y qB dB vB,43⟩) rfl),(hB.get 1 (x:=⟨g3,fl [[.int .u32 A.c.dl],[.int .u32 o.n],bw o.B,[.bool false]],53⟩) rfl)⟩ ?_
 simp only [nrm]
 refine anyC_take (i:=4) (v:=(.slice sa n sc)) (fun v_=>v_.heap[g]?=some (.cells (sg c' x2 qA dA (.slice sa n sc) B.c y qB dB vB) 43 (0,0))∧v_.heap[g3]?=some (.cells (fl [[.int .u32 A.c.dl],[.int .u32 o.n],bw o.B,[.bool false]]) 53 (0,0))) (fun _ h_=>h_) (.inr (by kernel_rfl)) rfl (by kernel_rfl) (by kernel_rfl) (by kernel_rfl) (by decide) (by kernel_rfl) (by decide) (fun _ _ _ h=>h) (.inl ⟨by kernel_rfl,fun x_ hu=>exec_csU _ (.tmp 40) rfl (g) 7 (by kernel_rfl) sa n sc (seg_cell (nS2  _ _ _ _ _ _ _ _ _ _ _ _ _ _ _ _) hu.1 7 (v:=.slice sa n sc) rfl rfl)⟩) ⟨(hB.get 0 (x:=⟨g,sg c' x2 qA dA (.slice sa n sc) B.c y qB dB vB,43⟩) rfl),(hB.get 1 (x:=⟨g3,fl [[.int .u32 A.c.dl],[.int .u32 o.n],bw o.B,[.bool false]],53⟩) rfl)⟩ ?_
 simp only [nrm]
 refine anyC_take (i:=5) (v:=(.agg (fl [[.int .u32 A.c.dl],[.int .u32 o.n],bw o.B,[.bool false]]))) (fun v_=>v_.heap[g]?=some (.cells (sg c' x2 qA dA (.slice sa n sc) B.c y qB dB vB) 43 (0,0))∧v_.heap[g3]?=some (.cells (fl [[.int .u32 A.c.dl],[.int .u32 o.n],bw o.B,[.bool false]]) 53 (0,0))) (fun _ h_=>h_) (.inr (by kernel_rfl)) rfl (by kernel_rfl) (by kernel_rfl) (by kernel_rfl) (by decide) (by kernel_rfl) (by decide) (fun _ _ _ h=>h) (.inl ⟨by kernel_rfl,fun x_ hu=>exec_sw _ 53 (.tmp 3) rfl (g3) (by kernel_rfl) hu.2 ND (nD hoBl _ _ _) Try.underlying53 rfl (by kernel_rfl)⟩) ⟨(hB.get 0 (x:=⟨g,sg c' x2 qA dA (.slice sa n sc) B.c y qB dB vB,43⟩) rfl),(hB.get 1 (x:=⟨g3,fl [[.int .u32 A.c.dl],[.int .u32 o.n],bw o.B,[.bool false]],53⟩) rfl)⟩ ?_
 simp only [nrm]
 refine anyC_one (i:=6) (by kernel_rfl) rfl (fun K hK=>?_)
 refine step_val (.slice (some ⟨u13.heap.size,0,none⟩) 1 1) (u13.alloc (.cells (fl [[.int .u32 A.c.dl],[.int .u32 o.n],bw o.B,[.bool false]]) 53 (0,0))) (by kernel_rfl) (exec_bsu _ (.tmp 42) rfl ⟨A.c.dl,o.n,o.B,false⟩ hoBl (by kernel_rfl)) ?_
 have hg:=(Gr.refl u13).alloc (.cells (fl [[.int .u32 A.c.dl],[.int .u32 o.n],bw o.B,[.bool false]]) 53 (0,0))
 have hnew:=blk_new u13 (.cells (fl [[.int .u32 A.c.dl],[.int .u32 o.n],bw o.B,[.bool false]]) 53 (0,0))
 replace hA:=hide ((unhide hA).gr hg)
 replace hD:=hide ((unhide hD).gr hg)
 replace hXF:=hide ((unhide hXF).gr hg)
 replace hXG:=hide ((unhide hXG).gr hg)
 replace hE:=hide ((unhide hE).gr hg)
 replace hB:=hB.more hg
 clear hg
 generalize World.alloc _ _=u14 at *
 generalize u13.heap.size=gq at *
 refine hK.out _ _ ⟨(hB.get 0 (x:=⟨g,sg c' x2 qA dA (.slice sa n sc) B.c y qB dB vB,43⟩) rfl),(hB.get 1 (x:=⟨g3,fl [[.int .u32 A.c.dl],[.int .u32 o.n],bw o.B,[.bool false]],53⟩) rfl)⟩ (fun _=>?_)
 clear hK K
 simp only [nrm]
 refine anyC_one (i:=7) (by kernel_rfl) rfl (fun K hK=>?_)
 rw [if_pos (by kernel_rfl)]
 have hOr:=(unhide hXF).own 2 _ rfl
 dsimp only at hOr
 refine app_row1B ltU (.tmp 41) (.tmp 43) rfl b (Nat.le_trans hb (unhide hXG).size) (.slice sa n sc) (A.w.map unr) (by kernel_rfl) hOr gq 0 1 (unr ⟨A.c.dl,o.n,o.B,false⟩) (by kernel_rfl) (unr_len hoBl) (und_at hnew) (unr_one _) (by rw [List.length_map]; omega) ?_
 intro v2 u15 hO2 hgr hsn
 have hmap:(A.w++[(⟨A.c.dl,o.n,o.B,false⟩:Un)]).map unr=A.w.map unr++[unr ⟨A.c.dl,o.n,o.B,false⟩]:=by rw [List.map_append]; rfl
 replace hXF:Hid (Fam b u15 (fam { A with w:=A.w++[⟨A.c.dl,o.n,o.B,false⟩] } B qA dA v2 qB dB vB)):=hide (by have h:=(unhide hXF).put 2 rfl hO2 hgr (fun q hq=>by rcases hsn with h | h <;> rw [h] at hq <;> first | exact .inl hq | (right; cases hq; exact Nat.le_refl _)); rw [← hmap] at h; exact h)
 replace hA:=hide ((unhide hA).grown hOr hgr)
 replace hD:=hide ((unhide hD).grown hOr hgr)
 replace hE:=hide ((unhide hE).grown hOr hgr)
 replace hXG:Hid (Cgs g b w u15):=⟨(unhide hXG).cg.grown hOr (Nat.le_refl _) hb hgr (.inr rfl),hb⟩
 have hne_:∀ y_ ∈ ([⟨g,sg c' x2 qA dA (.slice sa n sc) B.c y qB dB vB,43⟩,⟨g3,fl [[.int .u32 A.c.dl],[.int .u32 o.n],bw o.B,[.bool false]],53⟩,⟨g4,cg c' x2,26⟩,⟨g5,fl [[.int .u32 o.n],bw o.B],33⟩]:List Blk),(Value.slice sa n sc).ownBlock≠some y_.g:=by
  intro y_ hy_
  simp only [List.mem_cons,List.not_mem_nil,or_false] at hy_
  rcases hy_ with rfl | rfl | rfl | rfl
  ·exact own_ne_ty hOr (hB.get 0 (x:=⟨g,sg c' x2 qA dA (.slice sa n sc) B.c y qB dB vB,43⟩) rfl) (show 43≠53 by decide)
  ·exact fun e_=>by have h_:=hXo 2 _ rfl _ e_; dsimp only at h_; omega
  ·exact own_ne_ty hOr (hB.get 2 (x:=⟨g4,cg c' x2,26⟩) rfl) (show 26≠53 by decide)
  ·exact own_ne_ty hOr (hB.get 3 (x:=⟨g5,fl [[.int .u32 o.n],bw o.B],33⟩) rfl) (show 33≠53 by decide)
 replace hB:=Bl.grownN hB hgr hne_
 clear hne_ hmap
 obtain ⟨sa2,sc2,rfl,-⟩:=hO2.lz
 obtain ⟨n2,hn2⟩:∃ m,m=(A.w.map unr++[unr ⟨A.c.dl,o.n,o.B,false⟩]).length:=⟨_,rfl⟩
 rw [← hn2] at hXF ⊢
 clear hOr hO2 hgr hsn hnew
 refine hK.out _ _ ⟨(hB.get 0 (x:=⟨g,sg c' x2 qA dA (.slice sa n sc) B.c y qB dB vB,43⟩) rfl),(hB.get 1 (x:=⟨g3,fl [[.int .u32 A.c.dl],[.int .u32 o.n],bw o.B,[.bool false]],53⟩) rfl)⟩ (fun _=>?_)
 clear hK K
 simp only [nrm]
 refine anyC_take (i:=8) (v:=(.pointer (some ⟨g,0,none⟩))) (fun _=>True) (fun _ _=>trivial) (.inl (fun _=>trivial)) rfl (by kernel_rfl) (by kernel_rfl) (by kernel_rfl) (by decide) (by kernel_rfl) (by decide) (fun _ _ _ h=>h) (.inl ⟨by kernel_rfl,fun x_ hu=>by kernel_rfl⟩) ⟨(hB.get 0 (x:=⟨g,sg c' x2 qA dA (.slice sa n sc) B.c y qB dB vB,43⟩) rfl),(hB.get 1 (x:=⟨g3,fl [[.int .u32 A.c.dl],[.int .u32 o.n],bw o.B,[.bool false]],53⟩) rfl)⟩ ?_
 simp only [nrm]
 refine anyC_take (i:=9) (v:=(.pointer (some ⟨g,7,none⟩))) (fun v_=>v_.heap[g]?=some (.cells (sg c' x2 qA dA (.slice sa n sc) B.c y qB dB vB) 43 (0,0))∧v_.heap[g3]?=some (.cells (fl [[.int .u32 A.c.dl],[.int .u32 o.n],bw o.B,[.bool false]]) 53 (0,0))) (fun _ h_=>h_) (.inr (by kernel_rfl)) rfl (by kernel_rfl) (by kernel_rfl) (by kernel_rfl) (by decide) (by kernel_rfl) (by decide) (fun _ _ _ h=>h) (.inl ⟨by kernel_rfl,fun x_ hu=>by kernel_rfl⟩) ⟨(hB.get 0 (x:=⟨g,sg c' x2 qA dA (.slice sa n sc) B.c y qB dB vB,43⟩) rfl),(hB.get 1 (x:=⟨g3,fl [[.int .u32 A.c.dl],[.int .u32 o.n],bw o.B,[.bool false]],53⟩) rfl)⟩ ?_
 simp only [nrm]
 refine anyC_last (by kernel_rfl) rfl (fun K hK=>?_)
 have hzz_:Hid (u15.heap[g]?=some (.cells (sg c' x2 qA dA (.slice sa n sc) B.c y qB dB vB) 43 (0,0))):=hide (hB.get 0 (x:=⟨g,sg c' x2 qA dA (.slice sa n sc) B.c y qB dB vB,43⟩) rfl)
 refine step_csU (.tmp 46) (.tmp 44) (g) 7 sa2 n2 sc2 (by kernel_rfl) rfl (by kernel_rfl) (by kernel_rfl) hB 0 rfl NS2 (nS2  _ _ _ _ _ _ _ _ _ _ _ _ _ _ _ _) 7 _ rfl rfl ?_
 intro u16 hB_ hbt_
 clear hB
 replace hB:Bl (bare w) [⟨g,sg c' x2 qA dA (.slice sa2 n2 sc2) B.c y qB dB vB,43⟩,⟨g3,fl [[.int .u32 A.c.dl],[.int .u32 o.n],bw o.B,[.bool false]],53⟩,⟨g4,cg c' x2,26⟩,⟨g5,fl [[.int .u32 o.n],bw o.B],33⟩] u16:=hB_
 clear hB_
 replace hA:=hide ((unhide hA).bz (unhide hzz_) hbt_)
 replace hD:=hide ((unhide hD).bz (unhide hzz_) hbt_)
 replace hXF:=hide ((unhide hXF).bz (unhide hzz_) hbt_)
 replace hXG:=hide ((unhide hXG).bg (unhide hzz_) hbt_ hbg)
 replace hE:=hide ((unhide hE).bz (unhide hzz_) hbt_)
 clear hbt_ hzz_
 refine hK.out _ _ ?_
 clear hK K
 simp only [nrm]
 refine any_done (by kernel_rfl) ?_
 replace hB:=hide hB
 go_upto_region 9 with fail
 replace hB:=unhide hB
 refine wp_region_lit ?_
 (refine wpList_step fun K hK=>?_; replace hK:=hide hK; go_simp; refine unhide hK _ _ ?_; clear hK K)
 refine wpList_nil ?_
 replace hB:=hide hB
 go_wp2_with fail
 replace hB:=unhide hB
 rw [unhide hT]
 exact (⟨rfl,⟨x2,y,qA,dA,(.slice sa2 n2 sc2),qB,dB,vB,hB.get 0 (x:=⟨g,sg c' x2 qA dA (.slice sa2 n2 sc2) B.c y qB dB vB,43⟩) rfl,unhide hE,unhide hD,unhide hXF,(fun u_ hu_=>(List.mem_append.1 hu_).elim (fun h_=>unhide hU u_ h_) (fun h_=>by rw [List.mem_singleton.1 h_]; exact hoB.2)),unhide hV⟩,(unhide hXG).cg⟩)
set_option maxHeartbeats 4000000 in
theorem ssay_none0 (b g:Nat) (A B:Sd) (w:World) (hb:b≤w.heap.size) (hbg:b≤g) (hS:St b w g A B) (hI:Inv A B) (h0:A.c.O.length=0) (hmany:A.w.length≤100000):Calls Try.prog 12 #[.pointer (some ⟨g,0,none⟩)] w (fun r_ w'=>r_=.returned (.bool true)∧St b w' g { A with w:=A.w++[⟨A.c.dl,0,Z105,true⟩] } B∧Cg g b w w'):=by
 obtain ⟨T,hT⟩:∃ T:Ending→World→Prop,T=(fun r_ w'=>r_=.returned (.bool true)∧St b w' g { A with w:=A.w++[⟨A.c.dl,0,Z105,true⟩] } B∧Cg g b w w'):=⟨_,rfl⟩
 rw [← hT]
 replace hT:=hide hT
 obtain ⟨x,y,qA,dA,vA,qB,dB,vB,hg,hA,hD,hXF,hU,hV⟩:=hS
 obtain ⟨sa,sc,hva,-⟩:=(hXF.own 2 _ rfl).lz
 dsimp only at hva
 subst hva
 obtain ⟨n,hn⟩:∃ n,n=(A.w.map unr).length:=⟨_,rfl⟩
 rw [← hn] at hg hXF
 have hXo:=hXF.old
 have hXG:Hid (Cgs g b w w):=⟨Cg.refl g b w,hb⟩
 have hR:=hI.1
 have hTu:=hide (ot_none hR h0)
 have hdl:=hide hA.i.dl
 replace hXF:=hide hXF; replace hA:=hide hA; replace hD:=hide hD; replace hU:=hide hU; replace hV:=hide hV; replace hI:=hide hI; replace hR:=hide hR
 have hbl:=lt_of_block hg
 go_enter Try.func12,Try.ntmps12
 go_upto_region 1 with fail
 have hB:=(nilb w).add ⟨g,sg A.c x qA dA (.slice sa n sc) B.c y qB dB vB,43⟩ hg (Nat.zero_le _) (by intro y hy; cases hy)
 simp only [List.nil_append] at hB
 clear hg
 obtain ⟨u0,hu_⟩:∃ u,u=w:=⟨_,rfl⟩
 have hB2:Bl (bare w) [⟨g,sg A.c x qA dA (.slice sa n sc) B.c y qB dB vB,43⟩] u0:=hu_ ▸ hB
 replace hXF:=hu_ ▸ hXF; replace hA:=hu_ ▸ hA; replace hD:=hu_ ▸ hD
 replace hXG:Hid (Cgs g b w u0):=hu_ ▸ hXG
 clear hB
 have hB:=hB2
 clear hB2
 first | rw [← hu_] | skip
 clear hu_
 refine wp_region_lit ?_
 refine lvk (.pointer (some ⟨g,0,none⟩)) ?_
 simp only [nrm]
 refine lvk (.pointer (some ⟨g,0,none⟩)) ?_
 simp only [nrm]
 refine lvk (.pointer (some ⟨g,0,none⟩)) ?_
 simp only [nrm]
 refine lvk (.pointer (some ⟨g,3,none⟩)) ?_
 simp only [nrm]
 refine list_val (.int .u32 A.c.dl) (by kernel_rfl) (exec_c32 _ (.tmp 10) rfl (g) 3 (by kernel_rfl) A.c.dl (seg_cell (nS2  _ _ _ _ _ _ _ _ _ _ _ _ _ _ _ _) (hB.get 0 (x:=⟨g,sg A.c x qA dA (.slice sa n sc) B.c y qB dB vB,43⟩) rfl) 3 (v:=.int .u32 A.c.dl) rfl rfl)) ?_
 simp only [nrm]
 refine list_val (.agg (fl [[.int .u32 A.c.dl],[.int .u32 0],bw Z105,[.bool true]])) (by kernel_rfl) (bD03 _ (.tmp 11) (.const (.bool true)) rfl (by kernel_rfl) (by kernel_rfl)) ?_
 simp only [nrm]
 have hgl3:=(unhide hXG).size
 refine list_valw (.pointer (some ⟨u0.heap.size,0,none⟩)) (u0.alloc (.cells (cu0) 53 (0,0))) (by kernel_rfl) (by kernel_rfl) ?_
 replace hB:=hB.new (cu0) 53
 simp only [List.nil_append,List.cons_append] at hB
 have hg:=(Gr.refl u0).alloc (.cells (cu0) 53 (0,0))
 replace hA:=hide ((unhide hA).gr hg)
 replace hD:=hide ((unhide hD).gr hg)
 replace hXF:=hide ((unhide hXF).gr hg)
 replace hXG:=hide ((unhide hXG).gr hg)
 clear hg
 generalize World.alloc _ _=u1 at *
 generalize u0.heap.size=g3 at *
 simp only [nrm]
 have hzz_:Hid (u1.heap[g3]?=some (.cells (cu0) 53 (0,0))):=hide (hB.get 1 (x:=⟨g3,cu0,53⟩) rfl)
 refine list_all 53 (.tmp 3) (.tmp 12) (g3) (S2:=[[.int .u32 A.c.dl],[.int .u32 0],bw Z105,[.bool true]]) (by kernel_rfl) rfl (by kernel_rfl) (by kernel_rfl) hB 1 rfl ND (nD Z105_len _ _ _) (nD Z105_len _ _ _) (by kernel_rfl) (oD _ rfl rfl rfl) ?_
 intro u2 hB_ hbt_
 clear hB
 replace hB:Bl (bare w) [⟨g,sg A.c x qA dA (.slice sa n sc) B.c y qB dB vB,43⟩,⟨g3,fl [[.int .u32 A.c.dl],[.int .u32 0],bw Z105,[.bool true]],53⟩] u2:=hB_
 clear hB_
 replace hA:=hide ((unhide hA).bz (unhide hzz_) hbt_)
 replace hD:=hide ((unhide hD).bz (unhide hzz_) hbt_)
 replace hXF:=hide ((unhide hXF).bo (unhide hzz_) hbt_ hXo hgl3)
 replace hXG:=hide ((unhide hXG).bl (unhide hzz_) hbt_ hgl3)
 clear hbt_ hzz_
 simp only [nrm]
 refine wpList_nil ?_
 replace hB:=hide hB
 go_upto_region 2 with fail
 replace hB:=unhide hB
 refine wp_region_lit ?_
 refine lvk (.pointer (some ⟨g,0,none⟩)) ?_
 simp only [nrm]
 refine lvk (.pointer (some ⟨g,0,none⟩)) ?_
 simp only [nrm]
 refine lvk (.pointer (some ⟨g,0,none⟩)) ?_
 simp only [nrm]
 refine list_val (.agg (cg A.c x)) (by kernel_rfl) (exec_sr _ 26 (.tmp 16) rfl (g) 0 (by kernel_rfl) (hB.get 0 (x:=⟨g,sg A.c x qA dA (.slice sa n sc) B.c y qB dB vB,43⟩) rfl) 0 5 (show 0+5≤16 by decide) rfl Try.underlying26 rfl (by kernel_rfl)) ?_
 simp only [nrm]
 refine list_call 9 #[.agg (cg A.c x)] (by kernel_rfl) (by kernel_rfl) ((((show Calls Try.prog 9 #[.agg (cg A.c x)] u2 (Rc cz [.agg (fl [[.int .u32 oZ.n],bw oZ.B]),.int .i64 4] u2) from by have h:=turn_ok A.c x u2 (unhide hA).i; rw [unhide hTu] at h; exact h).mono fun _ _ h=>rcb_of h (Nat.le_trans hb (unhide hXG).size))).mono ?_)
 rintro r_ u3 ⟨x2,rfl,hE,hg⟩
 replace hA:=hide ((unhide hA).gr hg)
 replace hD:=hide ((unhide hD).gr hg)
 replace hXF:=hide ((unhide hXF).gr hg)
 replace hXG:=hide ((unhide hXG).gr hg)
 replace hB:=hB.more hg
 clear hg
 clear hE
 refine ⟨_,rfl,?_⟩
 simp only [nrm]
 refine lvk (.tuple #[.agg (fl [[.int .u32 0],[.slice x2.ao x2.no x2.co],[.int .i64 0],[.int .u32 0],[.slice x2.ah x2.nh x2.ch]]),.agg (fl [[.int .u32 0],bw Z105]),.int .i64 4]) ?_
 simp only [nrm]
 refine lvk (.agg (fl [[.int .u32 0],[.slice x2.ao x2.no x2.co],[.int .i64 0],[.int .u32 0],[.slice x2.ah x2.nh x2.ch]])) ?_
 simp only [nrm]
 refine lvk (.agg (fl [[.int .u32 0],bw Z105])) ?_
 simp only [nrm]
 refine lvk (.int .i64 4) ?_
 simp only [nrm]
 have hgl4:=(unhide hXG).size
 refine list_valw (.pointer (some ⟨u3.heap.size,0,none⟩)) (u3.alloc (.cells (cg0) 26 (0,0))) (by kernel_rfl) (by kernel_rfl) ?_
 replace hB:=hB.new (cg0) 26
 simp only [List.nil_append,List.cons_append] at hB
 have hg:=(Gr.refl u3).alloc (.cells (cg0) 26 (0,0))
 replace hA:=hide ((unhide hA).gr hg)
 replace hD:=hide ((unhide hD).gr hg)
 replace hXF:=hide ((unhide hXF).gr hg)
 replace hXG:=hide ((unhide hXG).gr hg)
 clear hg
 generalize World.alloc _ _=u4 at *
 generalize u3.heap.size=g4 at *
 simp only [nrm]
 have hgl5:=(unhide hXG).size
 have hne5_hA:=(unhide hA).newO
 have hne5_hD:=(unhide hD).newO
 refine list_valw (.pointer (some ⟨u4.heap.size,0,none⟩)) (u4.alloc (.cells (fl [[.int .u32 0],bw Z105]) 33 (0,0))) (by kernel_rfl) (by kernel_rfl) ?_
 replace hB:=hB.new (fl [[.int .u32 0],bw Z105]) 33
 simp only [List.nil_append,List.cons_append] at hB
 have hg:=(Gr.refl u4).alloc (.cells (fl [[.int .u32 0],bw Z105]) 33 (0,0))
 replace hA:=hide ((unhide hA).gr hg)
 replace hD:=hide ((unhide hD).gr hg)
 replace hXF:=hide ((unhide hXF).gr hg)
 replace hXG:=hide ((unhide hXG).gr hg)
 clear hg
 generalize World.alloc _ _=u5 at *
 generalize u4.heap.size=g5 at *
 simp only [nrm]
 have hzz_:Hid (u5.heap[g4]?=some (.cells (cg0) 26 (0,0))):=hide (hB.get 2 (x:=⟨g4,cg0,26⟩) rfl)
 refine list_all 26 (.tmp 4) (.tmp 19) (g4) (S2:=[[.int .u32 0],[.slice x2.ao x2.no x2.co],[.int .i64 0],[.int .u32 0],[.slice x2.ah x2.nh x2.ch]]) (by kernel_rfl) rfl (by kernel_rfl) (by kernel_rfl) hB 2 rfl NC (nC  _ _ _ _ _) (nC  _ _ _ _ _) (by kernel_rfl) (oC  rfl rfl rfl rfl rfl) ?_
 intro u6 hB_ hbt_
 clear hB
 replace hB:Bl (bare w) [⟨g,sg A.c x qA dA (.slice sa n sc) B.c y qB dB vB,43⟩,⟨g3,fl [[.int .u32 A.c.dl],[.int .u32 0],bw Z105,[.bool true]],53⟩,⟨g4,fl [[.int .u32 0],[.slice x2.ao x2.no x2.co],[.int .i64 0],[.int .u32 0],[.slice x2.ah x2.nh x2.ch]],26⟩,⟨g5,fl [[.int .u32 0],bw Z105],33⟩] u6:=hB_
 clear hB_
 replace hA:=hide ((unhide hA).bz (unhide hzz_) hbt_)
 replace hD:=hide ((unhide hD).bz (unhide hzz_) hbt_)
 replace hXF:=hide ((unhide hXF).bo (unhide hzz_) hbt_ hXo hgl4)
 replace hXG:=hide ((unhide hXG).bl (unhide hzz_) hbt_ hgl4)
 clear hbt_ hzz_
 simp only [nrm]
 have hzz_:Hid (u6.heap[g5]?=some (.cells (fl [[.int .u32 0],bw Z105]) 33 (0,0))):=hide (hB.get 3 (x:=⟨g5,fl [[.int .u32 0],bw Z105],33⟩) rfl)
 refine list_all 33 (.tmp 5) (.tmp 20) (g5) (S2:=[[.int .u32 0],bw Z105]) (by kernel_rfl) rfl (by kernel_rfl) (by kernel_rfl) hB 3 rfl NO (nO Z105_len _) (nO Z105_len _) (by kernel_rfl) (oO _ rfl) ?_
 intro u7 hB_ hbt_
 clear hB
 replace hB:Bl (bare w) [⟨g,sg A.c x qA dA (.slice sa n sc) B.c y qB dB vB,43⟩,⟨g3,fl [[.int .u32 A.c.dl],[.int .u32 0],bw Z105,[.bool true]],53⟩,⟨g4,fl [[.int .u32 0],[.slice x2.ao x2.no x2.co],[.int .i64 0],[.int .u32 0],[.slice x2.ah x2.nh x2.ch]],26⟩,⟨g5,fl [[.int .u32 0],bw Z105],33⟩] u7:=hB_
 clear hB_
 replace hA:=hide ((unhide hA).bkO (unhide hzz_) hbt_ hne5_hA)
 replace hD:=hide ((unhide hD).bkO (unhide hzz_) hbt_ hne5_hD)
 replace hXF:=hide ((unhide hXF).bo (unhide hzz_) hbt_ hXo hgl5)
 replace hXG:=hide ((unhide hXG).bl (unhide hzz_) hbt_ hgl5)
 clear hbt_ hzz_
 simp only [nrm]
 (refine wpList_step fun K hK=>?_; replace hK:=hide hK; go_simp; refine unhide hK _ _ ?_; clear hK K)
 refine wpList_nil ?_
 replace hB:=hide hB
 go_upto_region 3 with fail
 replace hB:=unhide hB
 refine wp_region_lit ?_
 refine lvk (.int .i64 4) ?_
 simp only [nrm]
 refine list_val (.bool false) (by kernel_rfl) (eql_e _ (.tmp 22) (.const (.int .i64 0)) 4 0 false rfl (by kernel_rfl) (by kernel_rfl) (by decide)) ?_
 simp only [nrm]
 refine wpList_nil ?_
 replace hB:=hide hB
 go_upto_region 6 with fail
 replace hB:=unhide hB
 refine wp_region_lit ?_
 refine lvk (.int .i64 4) ?_
 simp only [nrm]
 refine list_val (.bool false) (by kernel_rfl) (neq_e _ (.tmp 35) (.const (.int .i64 4)) 4 4 false rfl (by kernel_rfl) (by kernel_rfl) (by decide)) ?_
 simp only [nrm]
 refine wpList_nil ?_
 replace hB:=hide hB
 go_upto_region 8 with fail
 replace hB:=unhide hB
 refine anyC_start 10 (fun v_=>v_.heap[g]?=some (.cells (sg A.c x qA dA (.slice sa n sc) B.c y qB dB vB) 43 (0,0))∧v_.heap[g3]?=some (.cells (fl [[.int .u32 A.c.dl],[.int .u32 0],bw Z105,[.bool true]]) 53 (0,0))) (by kernel_rfl) ?_
 replace hA:=hide ((unhide hA).gr ((Gr.refl u7).drew))
 replace hD:=hide ((unhide hD).gr ((Gr.refl u7).drew))
 replace hXF:=hide ((unhide hXF).gr ((Gr.refl u7).drew))
 replace hXG:=hide ((unhide hXG).gr ((Gr.refl u7).drew))
 replace hB:=hB.drew
 generalize World.drew _=u8 at *
 simp only [List.size_toArray,List.length_cons,List.length_nil,Array.replicate,List.replicate]
 refine anyC_take (i:=0) (v:=(.pointer (some ⟨g,0,none⟩))) (fun v_=>v_.heap[g]?=some (.cells (sg A.c x qA dA (.slice sa n sc) B.c y qB dB vB) 43 (0,0))∧v_.heap[g3]?=some (.cells (fl [[.int .u32 A.c.dl],[.int .u32 0],bw Z105,[.bool true]]) 53 (0,0))) (fun _ h_=>h_) (.inr (by kernel_rfl)) rfl (by kernel_rfl) (by kernel_rfl) (by kernel_rfl) (by decide) (by kernel_rfl) (by decide) (fun _ _ _ h=>h) (.inl ⟨by kernel_rfl,fun x_ hu=>by kernel_rfl⟩) ⟨(hB.get 0 (x:=⟨g,sg A.c x qA dA (.slice sa n sc) B.c y qB dB vB,43⟩) rfl),(hB.get 1 (x:=⟨g3,fl [[.int .u32 A.c.dl],[.int .u32 0],bw Z105,[.bool true]],53⟩) rfl)⟩ ?_
 simp only [nrm]
 refine anyC_take (i:=1) (v:=(.pointer (some ⟨g,0,none⟩))) (fun v_=>v_.heap[g]?=some (.cells (sg A.c x qA dA (.slice sa n sc) B.c y qB dB vB) 43 (0,0))∧v_.heap[g3]?=some (.cells (fl [[.int .u32 A.c.dl],[.int .u32 0],bw Z105,[.bool true]]) 53 (0,0))) (fun _ h_=>h_) (.inr (by kernel_rfl)) rfl (by kernel_rfl) (by kernel_rfl) (by kernel_rfl) (by decide) (by kernel_rfl) (by decide) (fun _ _ _ h=>h) (.inl ⟨by kernel_rfl,fun x_ hu=>by kernel_rfl⟩) ⟨(hB.get 0 (x:=⟨g,sg A.c x qA dA (.slice sa n sc) B.c y qB dB vB,43⟩) rfl),(hB.get 1 (x:=⟨g3,fl [[.int .u32 A.c.dl],[.int .u32 0],bw Z105,[.bool true]],53⟩) rfl)⟩ ?_
 simp only [nrm]
 refine anyC_take (i:=2) (v:=(.pointer (some ⟨g,0,none⟩))) (fun v_=>v_.heap[g]?=some (.cells (sg A.c x qA dA (.slice sa n sc) B.c y qB dB vB) 43 (0,0))∧v_.heap[g3]?=some (.cells (fl [[.int .u32 A.c.dl],[.int .u32 0],bw Z105,[.bool true]]) 53 (0,0))) (fun _ h_=>h_) (.inr (by kernel_rfl)) rfl (by kernel_rfl) (by kernel_rfl) (by kernel_rfl) (by decide) (by kernel_rfl) (by decide) (fun _ _ _ h=>h) (.inl ⟨by kernel_rfl,fun x_ hu=>by kernel_rfl⟩) ⟨(hB.get 0 (x:=⟨g,sg A.c x qA dA (.slice sa n sc) B.c y qB dB vB,43⟩) rfl),(hB.get 1 (x:=⟨g3,fl [[.int .u32 A.c.dl],[.int .u32 0],bw Z105,[.bool true]],53⟩) rfl)⟩ ?_
 simp only [nrm]
 refine anyC_take (i:=3) (v:=(.pointer (some ⟨g,7,none⟩))) (fun v_=>v_.heap[g]?=some (.cells (sg A.c x qA dA (.slice sa n sc) B.c y qB dB vB) 43 (0,0))∧v_.heap[g3]?=some (.cells (fl [[.int .u32 A.c.dl],[.int .u32 0],bw Z105,[.bool true]]) 53 (0,0))) (fun _ h_=>h_) (.inr (by kernel_rfl)) rfl (by kernel_rfl) (by kernel_rfl) (by kernel_rfl) (by decide) (by kernel_rfl) (by decide) (fun _ _ _ h=>h) (.inl ⟨by kernel_rfl,fun x_ hu=>by kernel_rfl⟩) ⟨(hB.get 0 (x:=⟨g,sg A.c x qA dA (.slice sa n sc) B.c y qB dB vB,43⟩) rfl),(hB.get 1 (x:=⟨g3,fl [[.int .u32 A.c.dl],[.int .u32 0],bw Z105,[.bool true]],53⟩) rfl)⟩ ?_
 simp only [nrm]
 refine anyC_take (i:=4) (v:=(.slice sa n sc)) (fun v_=>v_.heap[g]?=some (.cells (sg A.c x qA dA (.slice sa n sc) B.c y qB dB vB) 43 (0,0))∧v_.heap[g3]?=some (.cells (fl [[.int .u32 A.c.dl],[.int .u32 0],bw Z105,[.bool true]]) 53 (0,0))) (fun _ h_=>h_) (.inr (by kernel_rfl)) rfl (by kernel_rfl) (by kernel_rfl) (by kernel_rfl) (by decide) (by kernel_rfl) (by decide) (fun _ _ _ h=>h) (.inl ⟨by kernel_rfl,fun x_ hu=>exec_csU _ (.tmp 40) rfl (g) 7 (by kernel_rfl) sa n sc (seg_cell (nS2  _ _ _ _ _ _ _ _ _ _ _ _ _ _ _ _) hu.1 7 (v:=.slice sa n sc) rfl rfl)⟩) ⟨(hB.get 0 (x:=⟨g,sg A.c x qA dA (.slice sa n sc) B.c y qB dB vB,43⟩) rfl),(hB.get 1 (x:=⟨g3,fl [[.int .u32 A.c.dl],[.int .u32 0],bw Z105,[.bool true]],53⟩) rfl)⟩ ?_
 simp only [nrm]
 refine anyC_take (i:=5) (v:=(.agg (fl [[.int .u32 A.c.dl],[.int .u32 0],bw Z105,[.bool true]]))) (fun v_=>v_.heap[g]?=some (.cells (sg A.c x qA dA (.slice sa n sc) B.c y qB dB vB) 43 (0,0))∧v_.heap[g3]?=some (.cells (fl [[.int .u32 A.c.dl],[.int .u32 0],bw Z105,[.bool true]]) 53 (0,0))) (fun _ h_=>h_) (.inr (by kernel_rfl)) rfl (by kernel_rfl) (by kernel_rfl) (by kernel_rfl) (by decide) (by kernel_rfl) (by decide) (fun _ _ _ h=>h) (.inl ⟨by kernel_rfl,fun x_ hu=>exec_sw _ 53 (.tmp 3) rfl (g3) (by kernel_rfl) hu.2 ND (nD Z105_len _ _ _) Try.underlying53 rfl (by kernel_rfl)⟩) ⟨(hB.get 0 (x:=⟨g,sg A.c x qA dA (.slice sa n sc) B.c y qB dB vB,43⟩) rfl),(hB.get 1 (x:=⟨g3,fl [[.int .u32 A.c.dl],[.int .u32 0],bw Z105,[.bool true]],53⟩) rfl)⟩ ?_
 simp only [nrm]
 refine anyC_one (i:=6) (by kernel_rfl) rfl (fun K hK=>?_)
 refine step_val (.slice (some ⟨u8.heap.size,0,none⟩) 1 1) (u8.alloc (.cells (fl [[.int .u32 A.c.dl],[.int .u32 0],bw Z105,[.bool true]]) 53 (0,0))) (by kernel_rfl) (exec_bsu _ (.tmp 42) rfl ⟨A.c.dl,0,Z105,true⟩ Z105_len (by kernel_rfl)) ?_
 have hg:=(Gr.refl u8).alloc (.cells (fl [[.int .u32 A.c.dl],[.int .u32 0],bw Z105,[.bool true]]) 53 (0,0))
 have hnew:=blk_new u8 (.cells (fl [[.int .u32 A.c.dl],[.int .u32 0],bw Z105,[.bool true]]) 53 (0,0))
 replace hA:=hide ((unhide hA).gr hg)
 replace hD:=hide ((unhide hD).gr hg)
 replace hXF:=hide ((unhide hXF).gr hg)
 replace hXG:=hide ((unhide hXG).gr hg)
 replace hB:=hB.more hg
 clear hg
 generalize World.alloc _ _=u9 at *
 generalize u8.heap.size=gq at *
 refine hK.out _ _ ⟨(hB.get 0 (x:=⟨g,sg A.c x qA dA (.slice sa n sc) B.c y qB dB vB,43⟩) rfl),(hB.get 1 (x:=⟨g3,fl [[.int .u32 A.c.dl],[.int .u32 0],bw Z105,[.bool true]],53⟩) rfl)⟩ (fun _=>?_)
 clear hK K
 simp only [nrm]
 refine anyC_one (i:=7) (by kernel_rfl) rfl (fun K hK=>?_)
 rw [if_pos (by kernel_rfl)]
 have hOr:=(unhide hXF).own 2 _ rfl
 dsimp only at hOr
 refine app_row1B ltU (.tmp 41) (.tmp 43) rfl b (Nat.le_trans hb (unhide hXG).size) (.slice sa n sc) (A.w.map unr) (by kernel_rfl) hOr gq 0 1 (unr ⟨A.c.dl,0,Z105,true⟩) (by kernel_rfl) (unr_len Z105_len) (und_at hnew) (unr_one _) (by rw [List.length_map]; omega) ?_
 intro v2 u10 hO2 hgr hsn
 have hmap:(A.w++[(⟨A.c.dl,0,Z105,true⟩:Un)]).map unr=A.w.map unr++[unr ⟨A.c.dl,0,Z105,true⟩]:=by rw [List.map_append]; rfl
 replace hXF:Hid (Fam b u10 (fam { A with w:=A.w++[⟨A.c.dl,0,Z105,true⟩] } B qA dA v2 qB dB vB)):=hide (by have h:=(unhide hXF).put 2 rfl hO2 hgr (fun q hq=>by rcases hsn with h | h <;> rw [h] at hq <;> first | exact .inl hq | (right; cases hq; exact Nat.le_refl _)); rw [← hmap] at h; exact h)
 replace hA:=hide ((unhide hA).grown hOr hgr)
 replace hD:=hide ((unhide hD).grown hOr hgr)
 replace hXG:Hid (Cgs g b w u10):=⟨(unhide hXG).cg.grown hOr (Nat.le_refl _) hb hgr (.inr rfl),hb⟩
 have hne_:∀ y_ ∈ ([⟨g,sg A.c x qA dA (.slice sa n sc) B.c y qB dB vB,43⟩,⟨g3,fl [[.int .u32 A.c.dl],[.int .u32 0],bw Z105,[.bool true]],53⟩,⟨g4,fl [[.int .u32 0],[.slice x2.ao x2.no x2.co],[.int .i64 0],[.int .u32 0],[.slice x2.ah x2.nh x2.ch]],26⟩,⟨g5,fl [[.int .u32 0],bw Z105],33⟩]:List Blk),(Value.slice sa n sc).ownBlock≠some y_.g:=by
  intro y_ hy_
  simp only [List.mem_cons,List.not_mem_nil,or_false] at hy_
  rcases hy_ with rfl | rfl | rfl | rfl
  ·exact own_ne_ty hOr (hB.get 0 (x:=⟨g,sg A.c x qA dA (.slice sa n sc) B.c y qB dB vB,43⟩) rfl) (show 43≠53 by decide)
  ·exact fun e_=>by have h_:=hXo 2 _ rfl _ e_; dsimp only at h_; omega
  ·exact own_ne_ty hOr (hB.get 2 (x:=⟨g4,fl [[.int .u32 0],[.slice x2.ao x2.no x2.co],[.int .i64 0],[.int .u32 0],[.slice x2.ah x2.nh x2.ch]],26⟩) rfl) (show 26≠53 by decide)
  ·exact own_ne_ty hOr (hB.get 3 (x:=⟨g5,fl [[.int .u32 0],bw Z105],33⟩) rfl) (show 33≠53 by decide)
 replace hB:=Bl.grownN hB hgr hne_
 clear hne_ hmap
 obtain ⟨sa2,sc2,rfl,-⟩:=hO2.lz
 obtain ⟨n2,hn2⟩:∃ m,m=(A.w.map unr++[unr ⟨A.c.dl,0,Z105,true⟩]).length:=⟨_,rfl⟩
 rw [← hn2] at hXF ⊢
 clear hOr hO2 hgr hsn hnew
 refine hK.out _ _ ⟨(hB.get 0 (x:=⟨g,sg A.c x qA dA (.slice sa n sc) B.c y qB dB vB,43⟩) rfl),(hB.get 1 (x:=⟨g3,fl [[.int .u32 A.c.dl],[.int .u32 0],bw Z105,[.bool true]],53⟩) rfl)⟩ (fun _=>?_)
 clear hK K
 simp only [nrm]
 refine anyC_take (i:=8) (v:=(.pointer (some ⟨g,0,none⟩))) (fun _=>True) (fun _ _=>trivial) (.inl (fun _=>trivial)) rfl (by kernel_rfl) (by kernel_rfl) (by kernel_rfl) (by decide) (by kernel_rfl) (by decide) (fun _ _ _ h=>h) (.inl ⟨by kernel_rfl,fun x_ hu=>by kernel_rfl⟩) ⟨(hB.get 0 (x:=⟨g,sg A.c x qA dA (.slice sa n sc) B.c y qB dB vB,43⟩) rfl),(hB.get 1 (x:=⟨g3,fl [[.int .u32 A.c.dl],[.int .u32 0],bw Z105,[.bool true]],53⟩) rfl)⟩ ?_
 simp only [nrm]
 refine anyC_take (i:=9) (v:=(.pointer (some ⟨g,7,none⟩))) (fun v_=>v_.heap[g]?=some (.cells (sg A.c x qA dA (.slice sa n sc) B.c y qB dB vB) 43 (0,0))∧v_.heap[g3]?=some (.cells (fl [[.int .u32 A.c.dl],[.int .u32 0],bw Z105,[.bool true]]) 53 (0,0))) (fun _ h_=>h_) (.inr (by kernel_rfl)) rfl (by kernel_rfl) (by kernel_rfl) (by kernel_rfl) (by decide) (by kernel_rfl) (by decide) (fun _ _ _ h=>h) (.inl ⟨by kernel_rfl,fun x_ hu=>by kernel_rfl⟩) ⟨(hB.get 0 (x:=⟨g,sg A.c x qA dA (.slice sa n sc) B.c y qB dB vB,43⟩) rfl),(hB.get 1 (x:=⟨g3,fl [[.int .u32 A.c.dl],[.int .u32 0],bw Z105,[.bool true]],53⟩) rfl)⟩ ?_
 simp only [nrm]
 refine anyC_last (by kernel_rfl) rfl (fun K hK=>?_)
 have hzz_:Hid (u10.heap[g]?=some (.cells (sg A.c x qA dA (.slice sa n sc) B.c y qB dB vB) 43 (0,0))):=hide (hB.get 0 (x:=⟨g,sg A.c x qA dA (.slice sa n sc) B.c y qB dB vB,43⟩) rfl)
 refine step_csU (.tmp 46) (.tmp 44) (g) 7 sa2 n2 sc2 (by kernel_rfl) rfl (by kernel_rfl) (by kernel_rfl) hB 0 rfl NS2 (nS2  _ _ _ _ _ _ _ _ _ _ _ _ _ _ _ _) 7 _ rfl rfl ?_
 intro u11 hB_ hbt_
 clear hB
 replace hB:Bl (bare w) [⟨g,sg A.c x qA dA (.slice sa2 n2 sc2) B.c y qB dB vB,43⟩,⟨g3,fl [[.int .u32 A.c.dl],[.int .u32 0],bw Z105,[.bool true]],53⟩,⟨g4,fl [[.int .u32 0],[.slice x2.ao x2.no x2.co],[.int .i64 0],[.int .u32 0],[.slice x2.ah x2.nh x2.ch]],26⟩,⟨g5,fl [[.int .u32 0],bw Z105],33⟩] u11:=hB_
 clear hB_
 replace hA:=hide ((unhide hA).bz (unhide hzz_) hbt_)
 replace hD:=hide ((unhide hD).bz (unhide hzz_) hbt_)
 replace hXF:=hide ((unhide hXF).bz (unhide hzz_) hbt_)
 replace hXG:=hide ((unhide hXG).bg (unhide hzz_) hbt_ hbg)
 clear hbt_ hzz_
 refine hK.out _ _ ?_
 clear hK K
 simp only [nrm]
 refine any_done (by kernel_rfl) ?_
 replace hB:=hide hB
 go_upto_region 9 with fail
 replace hB:=unhide hB
 refine wp_region_lit ?_
 (refine wpList_step fun K hK=>?_; replace hK:=hide hK; go_simp; refine unhide hK _ _ ?_; clear hK K)
 refine wpList_nil ?_
 replace hB:=hide hB
 go_wp2_with fail
 replace hB:=unhide hB
 rw [unhide hT]
 exact (⟨rfl,⟨x,y,qA,dA,(.slice sa2 n2 sc2),qB,dB,vB,hB.get 0 (x:=⟨g,sg A.c x qA dA (.slice sa2 n2 sc2) B.c y qB dB vB,43⟩) rfl,unhide hA,unhide hD,unhide hXF,(fun u_ hu_=>(List.mem_append.1 hu_).elim (fun h_=>unhide hU u_ h_) (fun h_=>by rw [List.mem_singleton.1 h_]; exact ⟨Z105_len,z105b⟩)),unhide hV⟩,(unhide hXG).cg⟩)
set_option maxHeartbeats 4000000 in
theorem ssay_some1 (b g:Nat) (A B:Sd) (w:World) (hb:b≤w.heap.size) (hbg:b≤g) (hS:St b w g A B) (hI:Inv A B) (h0:B.c.O.length≠0) (hmany:B.w.length≤100000):Calls Try.prog 12 #[.pointer (some ⟨g,8,none⟩)] w (fun r_ w'=>r_=.returned (.bool true)∧St b w' g A { B with c:=(tu B.c).1,w:=B.w++[⟨B.c.dl,(tu B.c).2.1.n,(tu B.c).2.1.B,false⟩] }∧Cg g b w w'):=by
 obtain ⟨T,hT⟩:∃ T:Ending→World→Prop,T=(fun r_ w'=>r_=.returned (.bool true)∧St b w' g A { B with c:=(tu B.c).1,w:=B.w++[⟨B.c.dl,(tu B.c).2.1.n,(tu B.c).2.1.B,false⟩] }∧Cg g b w w'):=⟨_,rfl⟩
 rw [← hT]
 replace hT:=hide hT
 obtain ⟨x,y,qA,dA,vA,qB,dB,vB,hg,hA,hD,hXF,hU,hV⟩:=hS
 obtain ⟨sa,sc,hva,-⟩:=(hXF.own 5 _ rfl).lz
 dsimp only at hva
 subst hva
 obtain ⟨n,hn⟩:∃ n,n=(B.w.map unr).length:=⟨_,rfl⟩
 rw [← hn] at hg hXF
 have hXo:=hXF.old
 have hXG:Hid (Cgs g b w w):=⟨Cg.refl g b w,hb⟩
 have hR:=hI.2
 obtain ⟨c',o,hTu,hot⟩:∃ c' o,tu B.c=(c',o,0)∧o=B.c.O.getD B.c.tn.toNat oZ:=⟨_,_,ot_some hR h0,rfl⟩
 have hoB:o.Ok:=by
  have hl:=rt_le hR.rt
  have hlt:B.c.tn.toNat<B.c.O.length:=by omega
  rw [hot,List.getD_eq_getElem?_getD,List.getElem?_eq_getElem hlt]
  exact hD.i.o.1 _ (List.getElem_mem hlt)
 have hoBl:=hoB.2.1
 rw [hTu] at hT
 dsimp only at hT
 replace hTu:=hide hTu
 clear hot
 have hdl:=hide hD.i.dl
 replace hXF:=hide hXF; replace hA:=hide hA; replace hD:=hide hD; replace hU:=hide hU; replace hV:=hide hV; replace hI:=hide hI; replace hR:=hide hR
 have hbl:=lt_of_block hg
 go_enter Try.func12,Try.ntmps12
 go_upto_region 1 with fail
 have hB:=(nilb w).add ⟨g,sg A.c x qA dA vA B.c y qB dB (.slice sa n sc),43⟩ hg (Nat.zero_le _) (by intro y hy; cases hy)
 simp only [List.nil_append] at hB
 clear hg
 obtain ⟨u0,hu_⟩:∃ u,u=w:=⟨_,rfl⟩
 have hB2:Bl (bare w) [⟨g,sg A.c x qA dA vA B.c y qB dB (.slice sa n sc),43⟩] u0:=hu_ ▸ hB
 replace hXF:=hu_ ▸ hXF; replace hA:=hu_ ▸ hA; replace hD:=hu_ ▸ hD
 replace hXG:Hid (Cgs g b w u0):=hu_ ▸ hXG
 clear hB
 have hB:=hB2
 clear hB2
 first | rw [← hu_] | skip
 clear hu_
 refine wp_region_lit ?_
 refine lvk (.pointer (some ⟨g,8,none⟩)) ?_
 simp only [nrm]
 refine lvk (.pointer (some ⟨g,8,none⟩)) ?_
 simp only [nrm]
 refine lvk (.pointer (some ⟨g,8,none⟩)) ?_
 simp only [nrm]
 refine lvk (.pointer (some ⟨g,11,none⟩)) ?_
 simp only [nrm]
 refine list_val (.int .u32 B.c.dl) (by kernel_rfl) (exec_c32 _ (.tmp 10) rfl (g) 11 (by kernel_rfl) B.c.dl (seg_cell (nS2  _ _ _ _ _ _ _ _ _ _ _ _ _ _ _ _) (hB.get 0 (x:=⟨g,sg A.c x qA dA vA B.c y qB dB (.slice sa n sc),43⟩) rfl) 11 (v:=.int .u32 B.c.dl) rfl rfl)) ?_
 simp only [nrm]
 refine list_val (.agg (fl [[.int .u32 B.c.dl],[.int .u32 0],bw Z105,[.bool true]])) (by kernel_rfl) (bD03 _ (.tmp 11) (.const (.bool true)) rfl (by kernel_rfl) (by kernel_rfl)) ?_
 simp only [nrm]
 have hgl3:=(unhide hXG).size
 refine list_valw (.pointer (some ⟨u0.heap.size,0,none⟩)) (u0.alloc (.cells (cu0) 53 (0,0))) (by kernel_rfl) (by kernel_rfl) ?_
 replace hB:=hB.new (cu0) 53
 simp only [List.nil_append,List.cons_append] at hB
 have hg:=(Gr.refl u0).alloc (.cells (cu0) 53 (0,0))
 replace hA:=hide ((unhide hA).gr hg)
 replace hD:=hide ((unhide hD).gr hg)
 replace hXF:=hide ((unhide hXF).gr hg)
 replace hXG:=hide ((unhide hXG).gr hg)
 clear hg
 generalize World.alloc _ _=u1 at *
 generalize u0.heap.size=g3 at *
 simp only [nrm]
 have hzz_:Hid (u1.heap[g3]?=some (.cells (cu0) 53 (0,0))):=hide (hB.get 1 (x:=⟨g3,cu0,53⟩) rfl)
 refine list_all 53 (.tmp 3) (.tmp 12) (g3) (S2:=[[.int .u32 B.c.dl],[.int .u32 0],bw Z105,[.bool true]]) (by kernel_rfl) rfl (by kernel_rfl) (by kernel_rfl) hB 1 rfl ND (nD Z105_len _ _ _) (nD Z105_len _ _ _) (by kernel_rfl) (oD _ rfl rfl rfl) ?_
 intro u2 hB_ hbt_
 clear hB
 replace hB:Bl (bare w) [⟨g,sg A.c x qA dA vA B.c y qB dB (.slice sa n sc),43⟩,⟨g3,fl [[.int .u32 B.c.dl],[.int .u32 0],bw Z105,[.bool true]],53⟩] u2:=hB_
 clear hB_
 replace hA:=hide ((unhide hA).bz (unhide hzz_) hbt_)
 replace hD:=hide ((unhide hD).bz (unhide hzz_) hbt_)
 replace hXF:=hide ((unhide hXF).bo (unhide hzz_) hbt_ hXo hgl3)
 replace hXG:=hide ((unhide hXG).bl (unhide hzz_) hbt_ hgl3)
 clear hbt_ hzz_
 simp only [nrm]
 refine wpList_nil ?_
 replace hB:=hide hB
 go_upto_region 2 with fail
 replace hB:=unhide hB
 refine wp_region_lit ?_
 refine lvk (.pointer (some ⟨g,8,none⟩)) ?_
 simp only [nrm]
 refine lvk (.pointer (some ⟨g,8,none⟩)) ?_
 simp only [nrm]
 refine lvk (.pointer (some ⟨g,8,none⟩)) ?_
 simp only [nrm]
 refine list_val (.agg (cg B.c y)) (by kernel_rfl) (exec_sr _ 26 (.tmp 16) rfl (g) 8 (by kernel_rfl) (hB.get 0 (x:=⟨g,sg A.c x qA dA vA B.c y qB dB (.slice sa n sc),43⟩) rfl) 8 5 (show 8+5≤16 by decide) rfl Try.underlying26 rfl (by kernel_rfl)) ?_
 simp only [nrm]
 refine list_call 9 #[.agg (cg B.c y)] (by kernel_rfl) (by kernel_rfl) ((((show Calls Try.prog 9 #[.agg (cg B.c y)] u2 (Rc c' [.agg (fl [[.int .u32 o.n],bw o.B]),.int .i64 0] u2) from by have h:=turn_ok B.c y u2 (unhide hD).i; rw [unhide hTu] at h; exact h).mono fun _ _ h=>rcb_of h (Nat.le_trans hb (unhide hXG).size))).mono ?_)
 rintro r_ u3 ⟨x2,rfl,hE,hg⟩
 replace hA:=hide ((unhide hA).gr hg)
 replace hD:=hide ((unhide hD).gr hg)
 replace hXF:=hide ((unhide hXF).gr hg)
 replace hXG:=hide ((unhide hXG).gr hg)
 replace hB:=hB.more hg
 clear hg
 replace hE:=hide hE
 refine ⟨_,rfl,?_⟩
 simp only [nrm]
 refine lvk (.tuple #[.agg (cg c' x2),.agg (fl [[.int .u32 o.n],bw o.B]),.int .i64 0]) ?_
 simp only [nrm]
 refine lvk (.agg (cg c' x2)) ?_
 simp only [nrm]
 refine lvk (.agg (fl [[.int .u32 o.n],bw o.B])) ?_
 simp only [nrm]
 refine lvk (.int .i64 0) ?_
 simp only [nrm]
 have hgl4:=(unhide hXG).size
 refine list_valw (.pointer (some ⟨u3.heap.size,0,none⟩)) (u3.alloc (.cells (cg0) 26 (0,0))) (by kernel_rfl) (by kernel_rfl) ?_
 replace hB:=hB.new (cg0) 26
 simp only [List.nil_append,List.cons_append] at hB
 have hg:=(Gr.refl u3).alloc (.cells (cg0) 26 (0,0))
 replace hA:=hide ((unhide hA).gr hg)
 replace hD:=hide ((unhide hD).gr hg)
 replace hXF:=hide ((unhide hXF).gr hg)
 replace hXG:=hide ((unhide hXG).gr hg)
 replace hE:=hide ((unhide hE).gr hg)
 clear hg
 generalize World.alloc _ _=u4 at *
 generalize u3.heap.size=g4 at *
 simp only [nrm]
 have hgl5:=(unhide hXG).size
 have hne5_hA:=(unhide hA).newO
 have hne5_hD:=(unhide hD).newO
 have hne5_hE:=(unhide hE).newO
 refine list_valw (.pointer (some ⟨u4.heap.size,0,none⟩)) (u4.alloc (.cells (fl [[.int .u32 0],bw Z105]) 33 (0,0))) (by kernel_rfl) (by kernel_rfl) ?_
 replace hB:=hB.new (fl [[.int .u32 0],bw Z105]) 33
 simp only [List.nil_append,List.cons_append] at hB
 have hg:=(Gr.refl u4).alloc (.cells (fl [[.int .u32 0],bw Z105]) 33 (0,0))
 replace hA:=hide ((unhide hA).gr hg)
 replace hD:=hide ((unhide hD).gr hg)
 replace hXF:=hide ((unhide hXF).gr hg)
 replace hXG:=hide ((unhide hXG).gr hg)
 replace hE:=hide ((unhide hE).gr hg)
 clear hg
 generalize World.alloc _ _=u5 at *
 generalize u4.heap.size=g5 at *
 simp only [nrm]
 have hzz_:Hid (u5.heap[g4]?=some (.cells (cg0) 26 (0,0))):=hide (hB.get 2 (x:=⟨g4,cg0,26⟩) rfl)
 refine list_all 26 (.tmp 4) (.tmp 19) (g4) (S2:=[[.int .u32 c'.nx],[.slice x2.ao x2.no x2.co],[.int .i64 c'.tn],[.int .u32 c'.dl],[.slice x2.ah x2.nh x2.ch]]) (by kernel_rfl) rfl (by kernel_rfl) (by kernel_rfl) hB 2 rfl NC (nC  _ _ _ _ _) (nC  _ _ _ _ _) (by kernel_rfl) (oC  rfl rfl rfl rfl rfl) ?_
 intro u6 hB_ hbt_
 clear hB
 replace hB:Bl (bare w) [⟨g,sg A.c x qA dA vA B.c y qB dB (.slice sa n sc),43⟩,⟨g3,fl [[.int .u32 B.c.dl],[.int .u32 0],bw Z105,[.bool true]],53⟩,⟨g4,cg c' x2,26⟩,⟨g5,fl [[.int .u32 0],bw Z105],33⟩] u6:=hB_
 clear hB_
 replace hA:=hide ((unhide hA).bz (unhide hzz_) hbt_)
 replace hD:=hide ((unhide hD).bz (unhide hzz_) hbt_)
 replace hXF:=hide ((unhide hXF).bo (unhide hzz_) hbt_ hXo hgl4)
 replace hXG:=hide ((unhide hXG).bl (unhide hzz_) hbt_ hgl4)
 replace hE:=hide ((unhide hE).bz (unhide hzz_) hbt_)
 clear hbt_ hzz_
 simp only [nrm]
 have hzz_:Hid (u6.heap[g5]?=some (.cells (fl [[.int .u32 0],bw Z105]) 33 (0,0))):=hide (hB.get 3 (x:=⟨g5,fl [[.int .u32 0],bw Z105],33⟩) rfl)
 refine list_all 33 (.tmp 5) (.tmp 20) (g5) (S2:=[[.int .u32 o.n],bw o.B]) (by kernel_rfl) rfl (by kernel_rfl) (by kernel_rfl) hB 3 rfl NO (nO Z105_len _) (nO hoBl _) (by kernel_rfl) (oO _ rfl) ?_
 intro u7 hB_ hbt_
 clear hB
 replace hB:Bl (bare w) [⟨g,sg A.c x qA dA vA B.c y qB dB (.slice sa n sc),43⟩,⟨g3,fl [[.int .u32 B.c.dl],[.int .u32 0],bw Z105,[.bool true]],53⟩,⟨g4,cg c' x2,26⟩,⟨g5,fl [[.int .u32 o.n],bw o.B],33⟩] u7:=hB_
 clear hB_
 replace hA:=hide ((unhide hA).bkO (unhide hzz_) hbt_ hne5_hA)
 replace hD:=hide ((unhide hD).bkO (unhide hzz_) hbt_ hne5_hD)
 replace hXF:=hide ((unhide hXF).bo (unhide hzz_) hbt_ hXo hgl5)
 replace hXG:=hide ((unhide hXG).bl (unhide hzz_) hbt_ hgl5)
 replace hE:=hide ((unhide hE).bkO (unhide hzz_) hbt_ hne5_hE)
 clear hbt_ hzz_
 simp only [nrm]
 (refine wpList_step fun K hK=>?_; replace hK:=hide hK; go_simp; refine unhide hK _ _ ?_; clear hK K)
 refine wpList_nil ?_
 replace hB:=hide hB
 go_upto_region 3 with fail
 replace hB:=unhide hB
 refine wp_region_lit ?_
 refine lvk (.int .i64 0) ?_
 simp only [nrm]
 refine list_val (.bool true) (by kernel_rfl) (eql_e _ (.tmp 22) (.const (.int .i64 0)) 0 0 true rfl (by kernel_rfl) (by kernel_rfl) (by decide)) ?_
 simp only [nrm]
 refine wpList_nil ?_
 replace hB:=hide hB
 go_upto_region 4 with fail
 replace hB:=unhide hB
 refine wp_region_lit ?_
 refine lvk (.pointer (some ⟨g,8,none⟩)) ?_
 simp only [nrm]
 refine list_val (.agg (cg c' x2)) (by kernel_rfl) (exec_sw _ 26 (.tmp 4) rfl (g4) (by kernel_rfl) (hB.get 2 (x:=⟨g4,cg c' x2,26⟩) rfl) NC (nC  _ _ _ _ _) Try.underlying26 rfl (by kernel_rfl)) ?_
 simp only [nrm]
 refine lvk (.pointer (some ⟨g,8,none⟩)) ?_
 simp only [nrm]
 refine lvk (.pointer (some ⟨g,8,none⟩)) ?_
 simp only [nrm]
 have hzz_:Hid (u7.heap[g]?=some (.cells (sg A.c x qA dA vA B.c y qB dB (.slice sa n sc)) 43 (0,0))):=hide (hB.get 0 (x:=⟨g,sg A.c x qA dA vA B.c y qB dB (.slice sa n sc),43⟩) rfl)
 refine list_sr 26 (.tmp 27) (.tmp 25) (g) 8 [[.int .u32 c'.nx],[.slice x2.ao x2.no x2.co],[.int .i64 c'.tn],[.int .u32 c'.dl],[.slice x2.ah x2.nh x2.ch]] (by kernel_rfl) rfl (by kernel_rfl) (by kernel_rfl) hB 0 rfl 8 5 (show 8+5≤16 by decide) rfl rfl rfl (by kernel_rfl) (oC rfl rfl rfl rfl rfl) ?_
 intro u8 hB_ hbt_
 clear hB
 replace hB:Bl (bare w) [⟨g,sg A.c x qA dA vA c' x2 qB dB (.slice sa n sc),43⟩,⟨g3,fl [[.int .u32 B.c.dl],[.int .u32 0],bw Z105,[.bool true]],53⟩,⟨g4,cg c' x2,26⟩,⟨g5,fl [[.int .u32 o.n],bw o.B],33⟩] u8:=hB_
 clear hB_
 replace hA:=hide ((unhide hA).bz (unhide hzz_) hbt_)
 replace hD:=hide ((unhide hD).bz (unhide hzz_) hbt_)
 replace hXF:=hide ((unhide hXF).bz (unhide hzz_) hbt_)
 replace hXG:=hide ((unhide hXG).bg (unhide hzz_) hbt_ hbg)
 replace hE:=hide ((unhide hE).bz (unhide hzz_) hbt_)
 clear hbt_ hzz_
 simp only [nrm]
 refine wpList_nil ?_
 replace hB:=hide hB
 go_upto_region 5 with fail
 replace hB:=unhide hB
 refine any_start (S:=fun v_=>v_.heap[g5]?=some (.cells (fl [[.int .u32 o.n],bw o.B]) 33 (0,0))) (by kernel_rfl) ?_
 replace hA:=hide ((unhide hA).gr ((Gr.refl u8).drew))
 replace hD:=hide ((unhide hD).gr ((Gr.refl u8).drew))
 replace hXF:=hide ((unhide hXF).gr ((Gr.refl u8).drew))
 replace hXG:=hide ((unhide hXG).gr ((Gr.refl u8).drew))
 replace hE:=hide ((unhide hE).gr ((Gr.refl u8).drew))
 replace hB:=hB.drew
 generalize World.drew _=u9 at *
 simp only [List.size_toArray,List.length_cons,List.length_nil,Array.replicate,List.replicate]
 have hS_:=hide (show (fun v_=>v_.heap[g5]?=some (.cells (fl [[.int .u32 o.n],bw o.B]) 33 (0,0))) u9 from (hB.get 3 (x:=⟨g5,fl [[.int .u32 o.n],bw o.B],33⟩) rfl))
 refine any_tk 0 (.pointer (some ⟨g5,0,none⟩)) (tf 10 0) rfl (fun x_ hu=>by kernel_rfl) (unhide hS_) ?_
 simp only [nrm]
 refine any_tk 1 (.int .u32 o.n) (tf 10 1) rfl (fun x_ hu=>exec_c32 _ (.tmp 28) rfl (g5) 0 (by kernel_rfl) o.n (seg_cell (nO hoBl _) hu 0 (v:=.int .u32 o.n) rfl rfl)) (unhide hS_) ?_
 simp only [nrm]
 refine any_tk 2 (.pointer (some ⟨g5,1,none⟩)) (tf 10 2) rfl (fun x_ hu=>by kernel_rfl) (unhide hS_) ?_
 simp only [nrm]
 refine any_tk 3 (.agg (fl [bw o.B])) (tf 10 3) rfl (fun x_ hu=>exec_lb _ (.tmp 30) rfl (g5) 1 (by kernel_rfl) hu NO (nO hoBl _) 1 o.B rfl rfl rfl) (unhide hS_) ?_
 simp only [nrm]
 refine any_tk 4 (.pointer (some ⟨g3,107,none⟩)) (tf 10 4) rfl (fun x_ hu=>by kernel_rfl) (unhide hS_) ?_
 simp only [nrm]
 refine any_one (i:=5) (by kernel_rfl) rfl (fun K hK=>?_)
 have hzz_:Hid (u9.heap[g3]?=some (.cells (fl [[.int .u32 B.c.dl],[.int .u32 0],bw Z105,[.bool true]]) 53 (0,0))):=hide (hB.get 1 (x:=⟨g3,fl [[.int .u32 B.c.dl],[.int .u32 0],bw Z105,[.bool true]],53⟩) rfl)
 refine step_cb (.tmp 32) (.const (.bool false)) (g3) 107 false (by kernel_rfl) rfl (by kernel_rfl) (by kernel_rfl) hB 1 rfl ND (nD Z105_len _ _ _) 3 _ rfl rfl ?_
 intro u10 hB_ hbt_
 clear hB
 replace hB:Bl (bare w) [⟨g,sg A.c x qA dA vA c' x2 qB dB (.slice sa n sc),43⟩,⟨g3,fl [[.int .u32 B.c.dl],[.int .u32 0],bw Z105,[.bool false]],53⟩,⟨g4,cg c' x2,26⟩,⟨g5,fl [[.int .u32 o.n],bw o.B],33⟩] u10:=hB_
 clear hB_
 replace hA:=hide ((unhide hA).bz (unhide hzz_) hbt_)
 replace hD:=hide ((unhide hD).bz (unhide hzz_) hbt_)
 replace hXF:=hide ((unhide hXF).bo (unhide hzz_) hbt_ hXo hgl3)
 replace hXG:=hide ((unhide hXG).bl (unhide hzz_) hbt_ hgl3)
 replace hE:=hide ((unhide hE).bz (unhide hzz_) hbt_)
 clear hbt_ hzz_
 clear hS_
 have hS_:=hide (show (fun v_=>v_.heap[g5]?=some (.cells (fl [[.int .u32 o.n],bw o.B]) 33 (0,0))) u10 from (hB.get 3 (x:=⟨g5,fl [[.int .u32 o.n],bw o.B],33⟩) rfl))
 refine hK.out _ _ (unhide hS_) (fun _=>?_)
 clear hK K
 simp only [nrm]
 refine any_tk 6 (.pointer (some ⟨g3,1,none⟩)) (tf 10 6) rfl (fun x_ hu=>by kernel_rfl) (unhide hS_) ?_
 simp only [nrm]
 refine any_one (i:=7) (by kernel_rfl) rfl (fun K hK=>?_)
 have hzz_:Hid (u10.heap[g3]?=some (.cells (fl [[.int .u32 B.c.dl],[.int .u32 0],bw Z105,[.bool false]]) 53 (0,0))):=hide (hB.get 1 (x:=⟨g3,fl [[.int .u32 B.c.dl],[.int .u32 0],bw Z105,[.bool false]],53⟩) rfl)
 refine step_c32 (.tmp 33) (.tmp 29) (g3) 1 o.n (by kernel_rfl) rfl (by kernel_rfl) (by kernel_rfl) hB 1 rfl ND (nD Z105_len _ _ _) 1 _ rfl rfl ?_
 intro u11 hB_ hbt_
 clear hB
 replace hB:Bl (bare w) [⟨g,sg A.c x qA dA vA c' x2 qB dB (.slice sa n sc),43⟩,⟨g3,fl [[.int .u32 B.c.dl],[.int .u32 o.n],bw Z105,[.bool false]],53⟩,⟨g4,cg c' x2,26⟩,⟨g5,fl [[.int .u32 o.n],bw o.B],33⟩] u11:=hB_
 clear hB_
 replace hA:=hide ((unhide hA).bz (unhide hzz_) hbt_)
 replace hD:=hide ((unhide hD).bz (unhide hzz_) hbt_)
 replace hXF:=hide ((unhide hXF).bo (unhide hzz_) hbt_ hXo hgl3)
 replace hXG:=hide ((unhide hXG).bl (unhide hzz_) hbt_ hgl3)
 replace hE:=hide ((unhide hE).bz (unhide hzz_) hbt_)
 clear hbt_ hzz_
 clear hS_
 have hS_:=hide (show (fun v_=>v_.heap[g5]?=some (.cells (fl [[.int .u32 o.n],bw o.B]) 33 (0,0))) u11 from (hB.get 3 (x:=⟨g5,fl [[.int .u32 o.n],bw o.B],33⟩) rfl))
 refine hK.out _ _ (unhide hS_) (fun _=>?_)
 clear hK K
 simp only [nrm]
 refine any_tk 8 (.pointer (some ⟨g3,2,none⟩)) (tf 10 8) rfl (fun x_ hu=>by kernel_rfl) (unhide hS_) ?_
 simp only [nrm]
 refine any_one (i:=9) (by kernel_rfl) rfl (fun K hK=>?_)
 have hzz_:Hid (u11.heap[g3]?=some (.cells (fl [[.int .u32 B.c.dl],[.int .u32 o.n],bw Z105,[.bool false]]) 53 (0,0))):=hide (hB.get 1 (x:=⟨g3,fl [[.int .u32 B.c.dl],[.int .u32 o.n],bw Z105,[.bool false]],53⟩) rfl)
 refine step_sgb 48 (.tmp 34) (.tmp 31) (g3) 2 o.B (by kernel_rfl) rfl (by kernel_rfl) (by kernel_rfl) hB 1 rfl ND (nD Z105_len _ _ _) 2 (by rw [bw_len,hoBl]; rfl) rfl (by rw [bw_len,hoBl]; kernel_rfl) ?_
 intro u12 hB_ hbt_
 clear hB
 replace hB:Bl (bare w) [⟨g,sg A.c x qA dA vA c' x2 qB dB (.slice sa n sc),43⟩,⟨g3,fl [[.int .u32 B.c.dl],[.int .u32 o.n],bw o.B,[.bool false]],53⟩,⟨g4,cg c' x2,26⟩,⟨g5,fl [[.int .u32 o.n],bw o.B],33⟩] u12:=hB_
 clear hB_
 replace hA:=hide ((unhide hA).bz (unhide hzz_) hbt_)
 replace hD:=hide ((unhide hD).bz (unhide hzz_) hbt_)
 replace hXF:=hide ((unhide hXF).bo (unhide hzz_) hbt_ hXo hgl3)
 replace hXG:=hide ((unhide hXG).bl (unhide hzz_) hbt_ hgl3)
 replace hE:=hide ((unhide hE).bz (unhide hzz_) hbt_)
 clear hbt_ hzz_
 clear hS_
 have hS_:=hide (show (fun v_=>v_.heap[g5]?=some (.cells (fl [[.int .u32 o.n],bw o.B]) 33 (0,0))) u12 from (hB.get 3 (x:=⟨g5,fl [[.int .u32 o.n],bw o.B],33⟩) rfl))
 refine hK.out _ _ (unhide hS_) (fun _=>?_)
 clear hK K
 simp only [nrm]
 refine any_done (by kernel_rfl) ?_
 clear hS_
 replace hB:=hide hB
 go_upto_region 8 with fail
 replace hB:=unhide hB
 refine anyC_start 10 (fun v_=>v_.heap[g]?=some (.cells (sg A.c x qA dA vA c' x2 qB dB (.slice sa n sc)) 43 (0,0))∧v_.heap[g3]?=some (.cells (fl [[.int .u32 B.c.dl],[.int .u32 o.n],bw o.B,[.bool false]]) 53 (0,0))) (by kernel_rfl) ?_
 replace hA:=hide ((unhide hA).gr ((Gr.refl u12).drew))
 replace hD:=hide ((unhide hD).gr ((Gr.refl u12).drew))
 replace hXF:=hide ((unhide hXF).gr ((Gr.refl u12).drew))
 replace hXG:=hide ((unhide hXG).gr ((Gr.refl u12).drew))
 replace hE:=hide ((unhide hE).gr ((Gr.refl u12).drew))
 replace hB:=hB.drew
 generalize World.drew _=u13 at *
 simp only [List.size_toArray,List.length_cons,List.length_nil,Array.replicate,List.replicate]
 refine anyC_take (i:=0) (v:=(.pointer (some ⟨g,8,none⟩))) (fun v_=>v_.heap[g]?=some (.cells (sg A.c x qA dA vA c' x2 qB dB (.slice sa n sc)) 43 (0,0))∧v_.heap[g3]?=some (.cells (fl [[.int .u32 B.c.dl],[.int .u32 o.n],bw o.B,[.bool false]]) 53 (0,0))) (fun _ h_=>h_) (.inr (by kernel_rfl)) rfl (by kernel_rfl) (by kernel_rfl) (by kernel_rfl) (by decide) (by kernel_rfl) (by decide) (fun _ _ _ h=>h) (.inl ⟨by kernel_rfl,fun x_ hu=>by kernel_rfl⟩) ⟨(hB.get 0 (x:=⟨g,sg A.c x qA dA vA c' x2 qB dB (.slice sa n sc),43⟩) rfl),(hB.get 1 (x:=⟨g3,fl [[.int .u32 B.c.dl],[.int .u32 o.n],bw o.B,[.bool false]],53⟩) rfl)⟩ ?_
 simp only [nrm]
 refine anyC_take (i:=1) (v:=(.pointer (some ⟨g,8,none⟩))) (fun v_=>v_.heap[g]?=some (.cells (sg A.c x qA dA vA c' x2 qB dB (.slice sa n sc)) 43 (0,0))∧v_.heap[g3]?=some (.cells (fl [[.int .u32 B.c.dl],[.int .u32 o.n],bw o.B,[.bool false]]) 53 (0,0))) (fun _ h_=>h_) (.inr (by kernel_rfl)) rfl (by kernel_rfl) (by kernel_rfl) (by kernel_rfl) (by decide) (by kernel_rfl) (by decide) (fun _ _ _ h=>h) (.inl ⟨by kernel_rfl,fun x_ hu=>by kernel_rfl⟩) ⟨(hB.get 0 (x:=⟨g,sg A.c x qA dA vA c' x2 qB dB (.slice sa n sc),43⟩) rfl),(hB.get 1 (x:=⟨g3,fl [[.int .u32 B.c.dl],[.int .u32 o.n],bw o.B,[.bool false]],53⟩) rfl)⟩ ?_
 simp only [nrm]
 refine anyC_take (i:=2) (v:=(.pointer (some ⟨g,8,none⟩))) (fun v_=>v_.heap[g]?=some (.cells (sg A.c x qA dA vA c' x2 qB dB (.slice sa n sc)) 43 (0,0))∧v_.heap[g3]?=some (.cells (fl [[.int .u32 B.c.dl],[.int .u32 o.n],bw o.B,[.bool false]]) 53 (0,0))) (fun _ h_=>h_) (.inr (by kernel_rfl)) rfl (by kernel_rfl) (by kernel_rfl) (by kernel_rfl) (by decide) (by kernel_rfl) (by decide) (fun _ _ _ h=>h) (.inl ⟨by kernel_rfl,fun x_ hu=>by kernel_rfl⟩) ⟨(hB.get 0 (x:=⟨g,sg A.c x qA dA vA c' x2 qB dB (.slice sa n sc),43⟩) rfl),(hB.get 1 (x:=⟨g3,fl [[.int .u32 B.c.dl],[.int .u32 o.n],bw o.B,[.bool false]],53⟩) rfl)⟩ ?_
 simp only [nrm]
 refine anyC_take (i:=3) (v:=(.pointer (some ⟨g,15,none⟩))) (fun v_=>v_.heap[g]?=some (.cells (sg A.c x qA dA vA c' x2 qB dB (.slice sa n sc)) 43 (0,0))∧v_.heap[g3]?=some (.cells (fl [[.int .u32 B.c.dl],[.int .u32 o.n],bw o.B,[.bool false]]) 53 (0,0))) (fun _ h_=>h_) (.inr (by kernel_rfl)) rfl (by kernel_rfl) (by kernel_rfl) (by kernel_rfl) (by decide) (by kernel_rfl) (by decide) (fun _ _ _ h=>h) (.inl ⟨by kernel_rfl,fun x_ hu=>by kernel_rfl⟩) ⟨(hB.get 0 (x:=⟨g,sg A.c x qA dA vA c' x2 qB dB (.slice sa n sc),43⟩) rfl),(hB.get 1 (x:=⟨g3,fl [[.int .u32 B.c.dl],[.int .u32 o.n],bw o.B,[.bool false]],53⟩) rfl)⟩ ?_
 simp only [nrm]
 refine anyC_take (i:=4) (v:=(.slice sa n sc)) (fun v_=>v_.heap[g]?=some (.cells (sg A.c x qA dA vA c' x2 qB dB (.slice sa n sc)) 43 (0,0))∧v_.heap[g3]?=some (.cells (fl [[.int .u32 B.c.dl],[.int .u32 o.n],bw o.B,[.bool false]]) 53 (0,0))) (fun _ h_=>h_) (.inr (by kernel_rfl)) rfl (by kernel_rfl) (by kernel_rfl) (by kernel_rfl) (by decide) (by kernel_rfl) (by decide) (fun _ _ _ h=>h) (.inl ⟨by kernel_rfl,fun x_ hu=>exec_csU _ (.tmp 40) rfl (g) 15 (by kernel_rfl) sa n sc (seg_cell (nS2  _ _ _ _ _ _ _ _ _ _ _ _ _ _ _ _) hu.1 15 (v:=.slice sa n sc) rfl rfl)⟩) ⟨(hB.get 0 (x:=⟨g,sg A.c x qA dA vA c' x2 qB dB (.slice sa n sc),43⟩) rfl),(hB.get 1 (x:=⟨g3,fl [[.int .u32 B.c.dl],[.int .u32 o.n],bw o.B,[.bool false]],53⟩) rfl)⟩ ?_
 simp only [nrm]
 refine anyC_take (i:=5) (v:=(.agg (fl [[.int .u32 B.c.dl],[.int .u32 o.n],bw o.B,[.bool false]]))) (fun v_=>v_.heap[g]?=some (.cells (sg A.c x qA dA vA c' x2 qB dB (.slice sa n sc)) 43 (0,0))∧v_.heap[g3]?=some (.cells (fl [[.int .u32 B.c.dl],[.int .u32 o.n],bw o.B,[.bool false]]) 53 (0,0))) (fun _ h_=>h_) (.inr (by kernel_rfl)) rfl (by kernel_rfl) (by kernel_rfl) (by kernel_rfl) (by decide) (by kernel_rfl) (by decide) (fun _ _ _ h=>h) (.inl ⟨by kernel_rfl,fun x_ hu=>exec_sw _ 53 (.tmp 3) rfl (g3) (by kernel_rfl) hu.2 ND (nD hoBl _ _ _) Try.underlying53 rfl (by kernel_rfl)⟩) ⟨(hB.get 0 (x:=⟨g,sg A.c x qA dA vA c' x2 qB dB (.slice sa n sc),43⟩) rfl),(hB.get 1 (x:=⟨g3,fl [[.int .u32 B.c.dl],[.int .u32 o.n],bw o.B,[.bool false]],53⟩) rfl)⟩ ?_
 simp only [nrm]
 refine anyC_one (i:=6) (by kernel_rfl) rfl (fun K hK=>?_)
 refine step_val (.slice (some ⟨u13.heap.size,0,none⟩) 1 1) (u13.alloc (.cells (fl [[.int .u32 B.c.dl],[.int .u32 o.n],bw o.B,[.bool false]]) 53 (0,0))) (by kernel_rfl) (exec_bsu _ (.tmp 42) rfl ⟨B.c.dl,o.n,o.B,false⟩ hoBl (by kernel_rfl)) ?_
 have hg:=(Gr.refl u13).alloc (.cells (fl [[.int .u32 B.c.dl],[.int .u32 o.n],bw o.B,[.bool false]]) 53 (0,0))
 have hnew:=blk_new u13 (.cells (fl [[.int .u32 B.c.dl],[.int .u32 o.n],bw o.B,[.bool false]]) 53 (0,0))
 replace hA:=hide ((unhide hA).gr hg)
 replace hD:=hide ((unhide hD).gr hg)
 replace hXF:=hide ((unhide hXF).gr hg)
 replace hXG:=hide ((unhide hXG).gr hg)
 replace hE:=hide ((unhide hE).gr hg)
 replace hB:=hB.more hg
 clear hg
 generalize World.alloc _ _=u14 at *
 generalize u13.heap.size=gq at *
 refine hK.out _ _ ⟨(hB.get 0 (x:=⟨g,sg A.c x qA dA vA c' x2 qB dB (.slice sa n sc),43⟩) rfl),(hB.get 1 (x:=⟨g3,fl [[.int .u32 B.c.dl],[.int .u32 o.n],bw o.B,[.bool false]],53⟩) rfl)⟩ (fun _=>?_)
 clear hK K
 simp only [nrm]
 refine anyC_one (i:=7) (by kernel_rfl) rfl (fun K hK=>?_)
 rw [if_pos (by kernel_rfl)]
 have hOr:=(unhide hXF).own 5 _ rfl
 dsimp only at hOr
 refine app_row1B ltU (.tmp 41) (.tmp 43) rfl b (Nat.le_trans hb (unhide hXG).size) (.slice sa n sc) (B.w.map unr) (by kernel_rfl) hOr gq 0 1 (unr ⟨B.c.dl,o.n,o.B,false⟩) (by kernel_rfl) (unr_len hoBl) (und_at hnew) (unr_one _) (by rw [List.length_map]; omega) ?_
 intro v2 u15 hO2 hgr hsn
 have hmap:(B.w++[(⟨B.c.dl,o.n,o.B,false⟩:Un)]).map unr=B.w.map unr++[unr ⟨B.c.dl,o.n,o.B,false⟩]:=by rw [List.map_append]; rfl
 replace hXF:Hid (Fam b u15 (fam A { B with w:=B.w++[⟨B.c.dl,o.n,o.B,false⟩] } qA dA vA qB dB v2)):=hide (by have h:=(unhide hXF).put 5 rfl hO2 hgr (fun q hq=>by rcases hsn with h | h <;> rw [h] at hq <;> first | exact .inl hq | (right; cases hq; exact Nat.le_refl _)); rw [← hmap] at h; exact h)
 replace hA:=hide ((unhide hA).grown hOr hgr)
 replace hD:=hide ((unhide hD).grown hOr hgr)
 replace hE:=hide ((unhide hE).grown hOr hgr)
 replace hXG:Hid (Cgs g b w u15):=⟨(unhide hXG).cg.grown hOr (Nat.le_refl _) hb hgr (.inr rfl),hb⟩
 have hne_:∀ y_ ∈ ([⟨g,sg A.c x qA dA vA c' x2 qB dB (.slice sa n sc),43⟩,⟨g3,fl [[.int .u32 B.c.dl],[.int .u32 o.n],bw o.B,[.bool false]],53⟩,⟨g4,cg c' x2,26⟩,⟨g5,fl [[.int .u32 o.n],bw o.B],33⟩]:List Blk),(Value.slice sa n sc).ownBlock≠some y_.g:=by
  intro y_ hy_
  simp only [List.mem_cons,List.not_mem_nil,or_false] at hy_
  rcases hy_ with rfl | rfl | rfl | rfl
  ·exact own_ne_ty hOr (hB.get 0 (x:=⟨g,sg A.c x qA dA vA c' x2 qB dB (.slice sa n sc),43⟩) rfl) (show 43≠53 by decide)
  ·exact fun e_=>by have h_:=hXo 5 _ rfl _ e_; dsimp only at h_; omega
  ·exact own_ne_ty hOr (hB.get 2 (x:=⟨g4,cg c' x2,26⟩) rfl) (show 26≠53 by decide)
  ·exact own_ne_ty hOr (hB.get 3 (x:=⟨g5,fl [[.int .u32 o.n],bw o.B],33⟩) rfl) (show 33≠53 by decide)
 replace hB:=Bl.grownN hB hgr hne_
 clear hne_ hmap
 obtain ⟨sa2,sc2,rfl,-⟩:=hO2.lz
 obtain ⟨n2,hn2⟩:∃ m,m=(B.w.map unr++[unr ⟨B.c.dl,o.n,o.B,false⟩]).length:=⟨_,rfl⟩
 rw [← hn2] at hXF ⊢
 clear hOr hO2 hgr hsn hnew
 refine hK.out _ _ ⟨(hB.get 0 (x:=⟨g,sg A.c x qA dA vA c' x2 qB dB (.slice sa n sc),43⟩) rfl),(hB.get 1 (x:=⟨g3,fl [[.int .u32 B.c.dl],[.int .u32 o.n],bw o.B,[.bool false]],53⟩) rfl)⟩ (fun _=>?_)
 clear hK K
 simp only [nrm]
 refine anyC_take (i:=8) (v:=(.pointer (some ⟨g,8,none⟩))) (fun _=>True) (fun _ _=>trivial) (.inl (fun _=>trivial)) rfl (by kernel_rfl) (by kernel_rfl) (by kernel_rfl) (by decide) (by kernel_rfl) (by decide) (fun _ _ _ h=>h) (.inl ⟨by kernel_rfl,fun x_ hu=>by kernel_rfl⟩) ⟨(hB.get 0 (x:=⟨g,sg A.c x qA dA vA c' x2 qB dB (.slice sa n sc),43⟩) rfl),(hB.get 1 (x:=⟨g3,fl [[.int .u32 B.c.dl],[.int .u32 o.n],bw o.B,[.bool false]],53⟩) rfl)⟩ ?_
 simp only [nrm]
 refine anyC_take (i:=9) (v:=(.pointer (some ⟨g,15,none⟩))) (fun v_=>v_.heap[g]?=some (.cells (sg A.c x qA dA vA c' x2 qB dB (.slice sa n sc)) 43 (0,0))∧v_.heap[g3]?=some (.cells (fl [[.int .u32 B.c.dl],[.int .u32 o.n],bw o.B,[.bool false]]) 53 (0,0))) (fun _ h_=>h_) (.inr (by kernel_rfl)) rfl (by kernel_rfl) (by kernel_rfl) (by kernel_rfl) (by decide) (by kernel_rfl) (by decide) (fun _ _ _ h=>h) (.inl ⟨by kernel_rfl,fun x_ hu=>by kernel_rfl⟩) ⟨(hB.get 0 (x:=⟨g,sg A.c x qA dA vA c' x2 qB dB (.slice sa n sc),43⟩) rfl),(hB.get 1 (x:=⟨g3,fl [[.int .u32 B.c.dl],[.int .u32 o.n],bw o.B,[.bool false]],53⟩) rfl)⟩ ?_
 simp only [nrm]
 refine anyC_last (by kernel_rfl) rfl (fun K hK=>?_)
 have hzz_:Hid (u15.heap[g]?=some (.cells (sg A.c x qA dA vA c' x2 qB dB (.slice sa n sc)) 43 (0,0))):=hide (hB.get 0 (x:=⟨g,sg A.c x qA dA vA c' x2 qB dB (.slice sa n sc),43⟩) rfl)
 refine step_csU (.tmp 46) (.tmp 44) (g) 15 sa2 n2 sc2 (by kernel_rfl) rfl (by kernel_rfl) (by kernel_rfl) hB 0 rfl NS2 (nS2  _ _ _ _ _ _ _ _ _ _ _ _ _ _ _ _) 15 _ rfl rfl ?_
 intro u16 hB_ hbt_
 clear hB
 replace hB:Bl (bare w) [⟨g,sg A.c x qA dA vA c' x2 qB dB (.slice sa2 n2 sc2),43⟩,⟨g3,fl [[.int .u32 B.c.dl],[.int .u32 o.n],bw o.B,[.bool false]],53⟩,⟨g4,cg c' x2,26⟩,⟨g5,fl [[.int .u32 o.n],bw o.B],33⟩] u16:=hB_
 clear hB_
 replace hA:=hide ((unhide hA).bz (unhide hzz_) hbt_)
 replace hD:=hide ((unhide hD).bz (unhide hzz_) hbt_)
 replace hXF:=hide ((unhide hXF).bz (unhide hzz_) hbt_)
 replace hXG:=hide ((unhide hXG).bg (unhide hzz_) hbt_ hbg)
 replace hE:=hide ((unhide hE).bz (unhide hzz_) hbt_)
 clear hbt_ hzz_
 refine hK.out _ _ ?_
 clear hK K
 simp only [nrm]
 refine any_done (by kernel_rfl) ?_
 replace hB:=hide hB
 go_upto_region 9 with fail
 replace hB:=unhide hB
 refine wp_region_lit ?_
 (refine wpList_step fun K hK=>?_; replace hK:=hide hK; go_simp; refine unhide hK _ _ ?_; clear hK K)
 refine wpList_nil ?_
 replace hB:=hide hB
 go_wp2_with fail
 replace hB:=unhide hB
 rw [unhide hT]
 exact (⟨rfl,⟨x,x2,qA,dA,vA,qB,dB,(.slice sa2 n2 sc2),hB.get 0 (x:=⟨g,sg A.c x qA dA vA c' x2 qB dB (.slice sa2 n2 sc2),43⟩) rfl,unhide hA,unhide hE,unhide hXF,unhide hU,(fun u_ hu_=>(List.mem_append.1 hu_).elim (fun h_=>unhide hV u_ h_) (fun h_=>by rw [List.mem_singleton.1 h_]; exact hoB.2))⟩,(unhide hXG).cg⟩)
set_option maxHeartbeats 4000000 in
theorem ssay_none1 (b g:Nat) (A B:Sd) (w:World) (hb:b≤w.heap.size) (hbg:b≤g) (hS:St b w g A B) (hI:Inv A B) (h0:B.c.O.length=0) (hmany:B.w.length≤100000):Calls Try.prog 12 #[.pointer (some ⟨g,8,none⟩)] w (fun r_ w'=>r_=.returned (.bool true)∧St b w' g A { B with w:=B.w++[⟨B.c.dl,0,Z105,true⟩] }∧Cg g b w w'):=by
 obtain ⟨T,hT⟩:∃ T:Ending→World→Prop,T=(fun r_ w'=>r_=.returned (.bool true)∧St b w' g A { B with w:=B.w++[⟨B.c.dl,0,Z105,true⟩] }∧Cg g b w w'):=⟨_,rfl⟩
 rw [← hT]
 replace hT:=hide hT
 obtain ⟨x,y,qA,dA,vA,qB,dB,vB,hg,hA,hD,hXF,hU,hV⟩:=hS
 obtain ⟨sa,sc,hva,-⟩:=(hXF.own 5 _ rfl).lz
 dsimp only at hva
 subst hva
 obtain ⟨n,hn⟩:∃ n,n=(B.w.map unr).length:=⟨_,rfl⟩
 rw [← hn] at hg hXF
 have hXo:=hXF.old
 have hXG:Hid (Cgs g b w w):=⟨Cg.refl g b w,hb⟩
 have hR:=hI.2
 have hTu:=hide (ot_none hR h0)
 have hdl:=hide hD.i.dl
 replace hXF:=hide hXF; replace hA:=hide hA; replace hD:=hide hD; replace hU:=hide hU; replace hV:=hide hV; replace hI:=hide hI; replace hR:=hide hR
 have hbl:=lt_of_block hg
 go_enter Try.func12,Try.ntmps12
 go_upto_region 1 with fail
 have hB:=(nilb w).add ⟨g,sg A.c x qA dA vA B.c y qB dB (.slice sa n sc),43⟩ hg (Nat.zero_le _) (by intro y hy; cases hy)
 simp only [List.nil_append] at hB
 clear hg
 obtain ⟨u0,hu_⟩:∃ u,u=w:=⟨_,rfl⟩
 have hB2:Bl (bare w) [⟨g,sg A.c x qA dA vA B.c y qB dB (.slice sa n sc),43⟩] u0:=hu_ ▸ hB
 replace hXF:=hu_ ▸ hXF; replace hA:=hu_ ▸ hA; replace hD:=hu_ ▸ hD
 replace hXG:Hid (Cgs g b w u0):=hu_ ▸ hXG
 clear hB
 have hB:=hB2
 clear hB2
 first | rw [← hu_] | skip
 clear hu_
 refine wp_region_lit ?_
 refine lvk (.pointer (some ⟨g,8,none⟩)) ?_
 simp only [nrm]
 refine lvk (.pointer (some ⟨g,8,none⟩)) ?_
 simp only [nrm]
 refine lvk (.pointer (some ⟨g,8,none⟩)) ?_
 simp only [nrm]
 refine lvk (.pointer (some ⟨g,11,none⟩)) ?_
 simp only [nrm]
 refine list_val (.int .u32 B.c.dl) (by kernel_rfl) (exec_c32 _ (.tmp 10) rfl (g) 11 (by kernel_rfl) B.c.dl (seg_cell (nS2  _ _ _ _ _ _ _ _ _ _ _ _ _ _ _ _) (hB.get 0 (x:=⟨g,sg A.c x qA dA vA B.c y qB dB (.slice sa n sc),43⟩) rfl) 11 (v:=.int .u32 B.c.dl) rfl rfl)) ?_
 simp only [nrm]
 refine list_val (.agg (fl [[.int .u32 B.c.dl],[.int .u32 0],bw Z105,[.bool true]])) (by kernel_rfl) (bD03 _ (.tmp 11) (.const (.bool true)) rfl (by kernel_rfl) (by kernel_rfl)) ?_
 simp only [nrm]
 have hgl3:=(unhide hXG).size
 refine list_valw (.pointer (some ⟨u0.heap.size,0,none⟩)) (u0.alloc (.cells (cu0) 53 (0,0))) (by kernel_rfl) (by kernel_rfl) ?_
 replace hB:=hB.new (cu0) 53
 simp only [List.nil_append,List.cons_append] at hB
 have hg:=(Gr.refl u0).alloc (.cells (cu0) 53 (0,0))
 replace hA:=hide ((unhide hA).gr hg)
 replace hD:=hide ((unhide hD).gr hg)
 replace hXF:=hide ((unhide hXF).gr hg)
 replace hXG:=hide ((unhide hXG).gr hg)
 clear hg
 generalize World.alloc _ _=u1 at *
 generalize u0.heap.size=g3 at *
 simp only [nrm]
 have hzz_:Hid (u1.heap[g3]?=some (.cells (cu0) 53 (0,0))):=hide (hB.get 1 (x:=⟨g3,cu0,53⟩) rfl)
 refine list_all 53 (.tmp 3) (.tmp 12) (g3) (S2:=[[.int .u32 B.c.dl],[.int .u32 0],bw Z105,[.bool true]]) (by kernel_rfl) rfl (by kernel_rfl) (by kernel_rfl) hB 1 rfl ND (nD Z105_len _ _ _) (nD Z105_len _ _ _) (by kernel_rfl) (oD _ rfl rfl rfl) ?_
 intro u2 hB_ hbt_
 clear hB
 replace hB:Bl (bare w) [⟨g,sg A.c x qA dA vA B.c y qB dB (.slice sa n sc),43⟩,⟨g3,fl [[.int .u32 B.c.dl],[.int .u32 0],bw Z105,[.bool true]],53⟩] u2:=hB_
 clear hB_
 replace hA:=hide ((unhide hA).bz (unhide hzz_) hbt_)
 replace hD:=hide ((unhide hD).bz (unhide hzz_) hbt_)
 replace hXF:=hide ((unhide hXF).bo (unhide hzz_) hbt_ hXo hgl3)
 replace hXG:=hide ((unhide hXG).bl (unhide hzz_) hbt_ hgl3)
 clear hbt_ hzz_
 simp only [nrm]
 refine wpList_nil ?_
 replace hB:=hide hB
 go_upto_region 2 with fail
 replace hB:=unhide hB
 refine wp_region_lit ?_
 refine lvk (.pointer (some ⟨g,8,none⟩)) ?_
 simp only [nrm]
 refine lvk (.pointer (some ⟨g,8,none⟩)) ?_
 simp only [nrm]
 refine lvk (.pointer (some ⟨g,8,none⟩)) ?_
 simp only [nrm]
 refine list_val (.agg (cg B.c y)) (by kernel_rfl) (exec_sr _ 26 (.tmp 16) rfl (g) 8 (by kernel_rfl) (hB.get 0 (x:=⟨g,sg A.c x qA dA vA B.c y qB dB (.slice sa n sc),43⟩) rfl) 8 5 (show 8+5≤16 by decide) rfl Try.underlying26 rfl (by kernel_rfl)) ?_
 simp only [nrm]
 refine list_call 9 #[.agg (cg B.c y)] (by kernel_rfl) (by kernel_rfl) ((((show Calls Try.prog 9 #[.agg (cg B.c y)] u2 (Rc cz [.agg (fl [[.int .u32 oZ.n],bw oZ.B]),.int .i64 4] u2) from by have h:=turn_ok B.c y u2 (unhide hD).i; rw [unhide hTu] at h; exact h).mono fun _ _ h=>rcb_of h (Nat.le_trans hb (unhide hXG).size))).mono ?_)
 rintro r_ u3 ⟨x2,rfl,hE,hg⟩
 replace hA:=hide ((unhide hA).gr hg)
 replace hD:=hide ((unhide hD).gr hg)
 replace hXF:=hide ((unhide hXF).gr hg)
 replace hXG:=hide ((unhide hXG).gr hg)
 replace hB:=hB.more hg
 clear hg
 clear hE
 refine ⟨_,rfl,?_⟩
 simp only [nrm]
 refine lvk (.tuple #[.agg (fl [[.int .u32 0],[.slice x2.ao x2.no x2.co],[.int .i64 0],[.int .u32 0],[.slice x2.ah x2.nh x2.ch]]),.agg (fl [[.int .u32 0],bw Z105]),.int .i64 4]) ?_
 simp only [nrm]
 refine lvk (.agg (fl [[.int .u32 0],[.slice x2.ao x2.no x2.co],[.int .i64 0],[.int .u32 0],[.slice x2.ah x2.nh x2.ch]])) ?_
 simp only [nrm]
 refine lvk (.agg (fl [[.int .u32 0],bw Z105])) ?_
 simp only [nrm]
 refine lvk (.int .i64 4) ?_
 simp only [nrm]
 have hgl4:=(unhide hXG).size
 refine list_valw (.pointer (some ⟨u3.heap.size,0,none⟩)) (u3.alloc (.cells (cg0) 26 (0,0))) (by kernel_rfl) (by kernel_rfl) ?_
 replace hB:=hB.new (cg0) 26
 simp only [List.nil_append,List.cons_append] at hB
 have hg:=(Gr.refl u3).alloc (.cells (cg0) 26 (0,0))
 replace hA:=hide ((unhide hA).gr hg)
 replace hD:=hide ((unhide hD).gr hg)
 replace hXF:=hide ((unhide hXF).gr hg)
 replace hXG:=hide ((unhide hXG).gr hg)
 clear hg
 generalize World.alloc _ _=u4 at *
 generalize u3.heap.size=g4 at *
 simp only [nrm]
 have hgl5:=(unhide hXG).size
 have hne5_hA:=(unhide hA).newO
 have hne5_hD:=(unhide hD).newO
 refine list_valw (.pointer (some ⟨u4.heap.size,0,none⟩)) (u4.alloc (.cells (fl [[.int .u32 0],bw Z105]) 33 (0,0))) (by kernel_rfl) (by kernel_rfl) ?_
 replace hB:=hB.new (fl [[.int .u32 0],bw Z105]) 33
 simp only [List.nil_append,List.cons_append] at hB
 have hg:=(Gr.refl u4).alloc (.cells (fl [[.int .u32 0],bw Z105]) 33 (0,0))
 replace hA:=hide ((unhide hA).gr hg)
 replace hD:=hide ((unhide hD).gr hg)
 replace hXF:=hide ((unhide hXF).gr hg)
 replace hXG:=hide ((unhide hXG).gr hg)
 clear hg
 generalize World.alloc _ _=u5 at *
 generalize u4.heap.size=g5 at *
 simp only [nrm]
 have hzz_:Hid (u5.heap[g4]?=some (.cells (cg0) 26 (0,0))):=hide (hB.get 2 (x:=⟨g4,cg0,26⟩) rfl)
 refine list_all 26 (.tmp 4) (.tmp 19) (g4) (S2:=[[.int .u32 0],[.slice x2.ao x2.no x2.co],[.int .i64 0],[.int .u32 0],[.slice x2.ah x2.nh x2.ch]]) (by kernel_rfl) rfl (by kernel_rfl) (by kernel_rfl) hB 2 rfl NC (nC  _ _ _ _ _) (nC  _ _ _ _ _) (by kernel_rfl) (oC  rfl rfl rfl rfl rfl) ?_
 intro u6 hB_ hbt_
 clear hB
 replace hB:Bl (bare w) [⟨g,sg A.c x qA dA vA B.c y qB dB (.slice sa n sc),43⟩,⟨g3,fl [[.int .u32 B.c.dl],[.int .u32 0],bw Z105,[.bool true]],53⟩,⟨g4,fl [[.int .u32 0],[.slice x2.ao x2.no x2.co],[.int .i64 0],[.int .u32 0],[.slice x2.ah x2.nh x2.ch]],26⟩,⟨g5,fl [[.int .u32 0],bw Z105],33⟩] u6:=hB_
 clear hB_
 replace hA:=hide ((unhide hA).bz (unhide hzz_) hbt_)
 replace hD:=hide ((unhide hD).bz (unhide hzz_) hbt_)
 replace hXF:=hide ((unhide hXF).bo (unhide hzz_) hbt_ hXo hgl4)
 replace hXG:=hide ((unhide hXG).bl (unhide hzz_) hbt_ hgl4)
 clear hbt_ hzz_
 simp only [nrm]
 have hzz_:Hid (u6.heap[g5]?=some (.cells (fl [[.int .u32 0],bw Z105]) 33 (0,0))):=hide (hB.get 3 (x:=⟨g5,fl [[.int .u32 0],bw Z105],33⟩) rfl)
 refine list_all 33 (.tmp 5) (.tmp 20) (g5) (S2:=[[.int .u32 0],bw Z105]) (by kernel_rfl) rfl (by kernel_rfl) (by kernel_rfl) hB 3 rfl NO (nO Z105_len _) (nO Z105_len _) (by kernel_rfl) (oO _ rfl) ?_
 intro u7 hB_ hbt_
 clear hB
 replace hB:Bl (bare w) [⟨g,sg A.c x qA dA vA B.c y qB dB (.slice sa n sc),43⟩,⟨g3,fl [[.int .u32 B.c.dl],[.int .u32 0],bw Z105,[.bool true]],53⟩,⟨g4,fl [[.int .u32 0],[.slice x2.ao x2.no x2.co],[.int .i64 0],[.int .u32 0],[.slice x2.ah x2.nh x2.ch]],26⟩,⟨g5,fl [[.int .u32 0],bw Z105],33⟩] u7:=hB_
 clear hB_
 replace hA:=hide ((unhide hA).bkO (unhide hzz_) hbt_ hne5_hA)
 replace hD:=hide ((unhide hD).bkO (unhide hzz_) hbt_ hne5_hD)
 replace hXF:=hide ((unhide hXF).bo (unhide hzz_) hbt_ hXo hgl5)
 replace hXG:=hide ((unhide hXG).bl (unhide hzz_) hbt_ hgl5)
 clear hbt_ hzz_
 simp only [nrm]
 (refine wpList_step fun K hK=>?_; replace hK:=hide hK; go_simp; refine unhide hK _ _ ?_; clear hK K)
 refine wpList_nil ?_
 replace hB:=hide hB
 go_upto_region 3 with fail
 replace hB:=unhide hB
 refine wp_region_lit ?_
 refine lvk (.int .i64 4) ?_
 simp only [nrm]
 refine list_val (.bool false) (by kernel_rfl) (eql_e _ (.tmp 22) (.const (.int .i64 0)) 4 0 false rfl (by kernel_rfl) (by kernel_rfl) (by decide)) ?_
 simp only [nrm]
 refine wpList_nil ?_
 replace hB:=hide hB
 go_upto_region 6 with fail
 replace hB:=unhide hB
 refine wp_region_lit ?_
 refine lvk (.int .i64 4) ?_
 simp only [nrm]
 refine list_val (.bool false) (by kernel_rfl) (neq_e _ (.tmp 35) (.const (.int .i64 4)) 4 4 false rfl (by kernel_rfl) (by kernel_rfl) (by decide)) ?_
 simp only [nrm]
 refine wpList_nil ?_
 replace hB:=hide hB
 go_upto_region 8 with fail
 replace hB:=unhide hB
 refine anyC_start 10 (fun v_=>v_.heap[g]?=some (.cells (sg A.c x qA dA vA B.c y qB dB (.slice sa n sc)) 43 (0,0))∧v_.heap[g3]?=some (.cells (fl [[.int .u32 B.c.dl],[.int .u32 0],bw Z105,[.bool true]]) 53 (0,0))) (by kernel_rfl) ?_
 replace hA:=hide ((unhide hA).gr ((Gr.refl u7).drew))
 replace hD:=hide ((unhide hD).gr ((Gr.refl u7).drew))
 replace hXF:=hide ((unhide hXF).gr ((Gr.refl u7).drew))
 replace hXG:=hide ((unhide hXG).gr ((Gr.refl u7).drew))
 replace hB:=hB.drew
 generalize World.drew _=u8 at *
 simp only [List.size_toArray,List.length_cons,List.length_nil,Array.replicate,List.replicate]
 refine anyC_take (i:=0) (v:=(.pointer (some ⟨g,8,none⟩))) (fun v_=>v_.heap[g]?=some (.cells (sg A.c x qA dA vA B.c y qB dB (.slice sa n sc)) 43 (0,0))∧v_.heap[g3]?=some (.cells (fl [[.int .u32 B.c.dl],[.int .u32 0],bw Z105,[.bool true]]) 53 (0,0))) (fun _ h_=>h_) (.inr (by kernel_rfl)) rfl (by kernel_rfl) (by kernel_rfl) (by kernel_rfl) (by decide) (by kernel_rfl) (by decide) (fun _ _ _ h=>h) (.inl ⟨by kernel_rfl,fun x_ hu=>by kernel_rfl⟩) ⟨(hB.get 0 (x:=⟨g,sg A.c x qA dA vA B.c y qB dB (.slice sa n sc),43⟩) rfl),(hB.get 1 (x:=⟨g3,fl [[.int .u32 B.c.dl],[.int .u32 0],bw Z105,[.bool true]],53⟩) rfl)⟩ ?_
 simp only [nrm]
 refine anyC_take (i:=1) (v:=(.pointer (some ⟨g,8,none⟩))) (fun v_=>v_.heap[g]?=some (.cells (sg A.c x qA dA vA B.c y qB dB (.slice sa n sc)) 43 (0,0))∧v_.heap[g3]?=some (.cells (fl [[.int .u32 B.c.dl],[.int .u32 0],bw Z105,[.bool true]]) 53 (0,0))) (fun _ h_=>h_) (.inr (by kernel_rfl)) rfl (by kernel_rfl) (by kernel_rfl) (by kernel_rfl) (by decide) (by kernel_rfl) (by decide) (fun _ _ _ h=>h) (.inl ⟨by kernel_rfl,fun x_ hu=>by kernel_rfl⟩) ⟨(hB.get 0 (x:=⟨g,sg A.c x qA dA vA B.c y qB dB (.slice sa n sc),43⟩) rfl),(hB.get 1 (x:=⟨g3,fl [[.int .u32 B.c.dl],[.int .u32 0],bw Z105,[.bool true]],53⟩) rfl)⟩ ?_
 simp only [nrm]
 refine anyC_take (i:=2) (v:=(.pointer (some ⟨g,8,none⟩))) (fun v_=>v_.heap[g]?=some (.cells (sg A.c x qA dA vA B.c y qB dB (.slice sa n sc)) 43 (0,0))∧v_.heap[g3]?=some (.cells (fl [[.int .u32 B.c.dl],[.int .u32 0],bw Z105,[.bool true]]) 53 (0,0))) (fun _ h_=>h_) (.inr (by kernel_rfl)) rfl (by kernel_rfl) (by kernel_rfl) (by kernel_rfl) (by decide) (by kernel_rfl) (by decide) (fun _ _ _ h=>h) (.inl ⟨by kernel_rfl,fun x_ hu=>by kernel_rfl⟩) ⟨(hB.get 0 (x:=⟨g,sg A.c x qA dA vA B.c y qB dB (.slice sa n sc),43⟩) rfl),(hB.get 1 (x:=⟨g3,fl [[.int .u32 B.c.dl],[.int .u32 0],bw Z105,[.bool true]],53⟩) rfl)⟩ ?_
 simp only [nrm]
 refine anyC_take (i:=3) (v:=(.pointer (some ⟨g,15,none⟩))) (fun v_=>v_.heap[g]?=some (.cells (sg A.c x qA dA vA B.c y qB dB (.slice sa n sc)) 43 (0,0))∧v_.heap[g3]?=some (.cells (fl [[.int .u32 B.c.dl],[.int .u32 0],bw Z105,[.bool true]]) 53 (0,0))) (fun _ h_=>h_) (.inr (by kernel_rfl)) rfl (by kernel_rfl) (by kernel_rfl) (by kernel_rfl) (by decide) (by kernel_rfl) (by decide) (fun _ _ _ h=>h) (.inl ⟨by kernel_rfl,fun x_ hu=>by kernel_rfl⟩) ⟨(hB.get 0 (x:=⟨g,sg A.c x qA dA vA B.c y qB dB (.slice sa n sc),43⟩) rfl),(hB.get 1 (x:=⟨g3,fl [[.int .u32 B.c.dl],[.int .u32 0],bw Z105,[.bool true]],53⟩) rfl)⟩ ?_
 simp only [nrm]
 refine anyC_take (i:=4) (v:=(.slice sa n sc)) (fun v_=>v_.heap[g]?=some (.cells (sg A.c x qA dA vA B.c y qB dB (.slice sa n sc)) 43 (0,0))∧v_.heap[g3]?=some (.cells (fl [[.int .u32 B.c.dl],[.int .u32 0],bw Z105,[.bool true]]) 53 (0,0))) (fun _ h_=>h_) (.inr (by kernel_rfl)) rfl (by kernel_rfl) (by kernel_rfl) (by kernel_rfl) (by decide) (by kernel_rfl) (by decide) (fun _ _ _ h=>h) (.inl ⟨by kernel_rfl,fun x_ hu=>exec_csU _ (.tmp 40) rfl (g) 15 (by kernel_rfl) sa n sc (seg_cell (nS2  _ _ _ _ _ _ _ _ _ _ _ _ _ _ _ _) hu.1 15 (v:=.slice sa n sc) rfl rfl)⟩) ⟨(hB.get 0 (x:=⟨g,sg A.c x qA dA vA B.c y qB dB (.slice sa n sc),43⟩) rfl),(hB.get 1 (x:=⟨g3,fl [[.int .u32 B.c.dl],[.int .u32 0],bw Z105,[.bool true]],53⟩) rfl)⟩ ?_
 simp only [nrm]
 refine anyC_take (i:=5) (v:=(.agg (fl [[.int .u32 B.c.dl],[.int .u32 0],bw Z105,[.bool true]]))) (fun v_=>v_.heap[g]?=some (.cells (sg A.c x qA dA vA B.c y qB dB (.slice sa n sc)) 43 (0,0))∧v_.heap[g3]?=some (.cells (fl [[.int .u32 B.c.dl],[.int .u32 0],bw Z105,[.bool true]]) 53 (0,0))) (fun _ h_=>h_) (.inr (by kernel_rfl)) rfl (by kernel_rfl) (by kernel_rfl) (by kernel_rfl) (by decide) (by kernel_rfl) (by decide) (fun _ _ _ h=>h) (.inl ⟨by kernel_rfl,fun x_ hu=>exec_sw _ 53 (.tmp 3) rfl (g3) (by kernel_rfl) hu.2 ND (nD Z105_len _ _ _) Try.underlying53 rfl (by kernel_rfl)⟩) ⟨(hB.get 0 (x:=⟨g,sg A.c x qA dA vA B.c y qB dB (.slice sa n sc),43⟩) rfl),(hB.get 1 (x:=⟨g3,fl [[.int .u32 B.c.dl],[.int .u32 0],bw Z105,[.bool true]],53⟩) rfl)⟩ ?_
 simp only [nrm]
 refine anyC_one (i:=6) (by kernel_rfl) rfl (fun K hK=>?_)
 refine step_val (.slice (some ⟨u8.heap.size,0,none⟩) 1 1) (u8.alloc (.cells (fl [[.int .u32 B.c.dl],[.int .u32 0],bw Z105,[.bool true]]) 53 (0,0))) (by kernel_rfl) (exec_bsu _ (.tmp 42) rfl ⟨B.c.dl,0,Z105,true⟩ Z105_len (by kernel_rfl)) ?_
 have hg:=(Gr.refl u8).alloc (.cells (fl [[.int .u32 B.c.dl],[.int .u32 0],bw Z105,[.bool true]]) 53 (0,0))
 have hnew:=blk_new u8 (.cells (fl [[.int .u32 B.c.dl],[.int .u32 0],bw Z105,[.bool true]]) 53 (0,0))
 replace hA:=hide ((unhide hA).gr hg)
 replace hD:=hide ((unhide hD).gr hg)
 replace hXF:=hide ((unhide hXF).gr hg)
 replace hXG:=hide ((unhide hXG).gr hg)
 replace hB:=hB.more hg
 clear hg
 generalize World.alloc _ _=u9 at *
 generalize u8.heap.size=gq at *
 refine hK.out _ _ ⟨(hB.get 0 (x:=⟨g,sg A.c x qA dA vA B.c y qB dB (.slice sa n sc),43⟩) rfl),(hB.get 1 (x:=⟨g3,fl [[.int .u32 B.c.dl],[.int .u32 0],bw Z105,[.bool true]],53⟩) rfl)⟩ (fun _=>?_)
 clear hK K
 simp only [nrm]
 refine anyC_one (i:=7) (by kernel_rfl) rfl (fun K hK=>?_)
 rw [if_pos (by kernel_rfl)]
 have hOr:=(unhide hXF).own 5 _ rfl
 dsimp only at hOr
 refine app_row1B ltU (.tmp 41) (.tmp 43) rfl b (Nat.le_trans hb (unhide hXG).size) (.slice sa n sc) (B.w.map unr) (by kernel_rfl) hOr gq 0 1 (unr ⟨B.c.dl,0,Z105,true⟩) (by kernel_rfl) (unr_len Z105_len) (und_at hnew) (unr_one _) (by rw [List.length_map]; omega) ?_
 intro v2 u10 hO2 hgr hsn
 have hmap:(B.w++[(⟨B.c.dl,0,Z105,true⟩:Un)]).map unr=B.w.map unr++[unr ⟨B.c.dl,0,Z105,true⟩]:=by rw [List.map_append]; rfl
 replace hXF:Hid (Fam b u10 (fam A { B with w:=B.w++[⟨B.c.dl,0,Z105,true⟩] } qA dA vA qB dB v2)):=hide (by have h:=(unhide hXF).put 5 rfl hO2 hgr (fun q hq=>by rcases hsn with h | h <;> rw [h] at hq <;> first | exact .inl hq | (right; cases hq; exact Nat.le_refl _)); rw [← hmap] at h; exact h)
 replace hA:=hide ((unhide hA).grown hOr hgr)
 replace hD:=hide ((unhide hD).grown hOr hgr)
 replace hXG:Hid (Cgs g b w u10):=⟨(unhide hXG).cg.grown hOr (Nat.le_refl _) hb hgr (.inr rfl),hb⟩
 have hne_:∀ y_ ∈ ([⟨g,sg A.c x qA dA vA B.c y qB dB (.slice sa n sc),43⟩,⟨g3,fl [[.int .u32 B.c.dl],[.int .u32 0],bw Z105,[.bool true]],53⟩,⟨g4,fl [[.int .u32 0],[.slice x2.ao x2.no x2.co],[.int .i64 0],[.int .u32 0],[.slice x2.ah x2.nh x2.ch]],26⟩,⟨g5,fl [[.int .u32 0],bw Z105],33⟩]:List Blk),(Value.slice sa n sc).ownBlock≠some y_.g:=by
  intro y_ hy_
  simp only [List.mem_cons,List.not_mem_nil,or_false] at hy_
  rcases hy_ with rfl | rfl | rfl | rfl
  ·exact own_ne_ty hOr (hB.get 0 (x:=⟨g,sg A.c x qA dA vA B.c y qB dB (.slice sa n sc),43⟩) rfl) (show 43≠53 by decide)
  ·exact fun e_=>by have h_:=hXo 5 _ rfl _ e_; dsimp only at h_; omega
  ·exact own_ne_ty hOr (hB.get 2 (x:=⟨g4,fl [[.int .u32 0],[.slice x2.ao x2.no x2.co],[.int .i64 0],[.int .u32 0],[.slice x2.ah x2.nh x2.ch]],26⟩) rfl) (show 26≠53 by decide)
  ·exact own_ne_ty hOr (hB.get 3 (x:=⟨g5,fl [[.int .u32 0],bw Z105],33⟩) rfl) (show 33≠53 by decide)
 replace hB:=Bl.grownN hB hgr hne_
 clear hne_ hmap
 obtain ⟨sa2,sc2,rfl,-⟩:=hO2.lz
 obtain ⟨n2,hn2⟩:∃ m,m=(B.w.map unr++[unr ⟨B.c.dl,0,Z105,true⟩]).length:=⟨_,rfl⟩
 rw [← hn2] at hXF ⊢
 clear hOr hO2 hgr hsn hnew
 refine hK.out _ _ ⟨(hB.get 0 (x:=⟨g,sg A.c x qA dA vA B.c y qB dB (.slice sa n sc),43⟩) rfl),(hB.get 1 (x:=⟨g3,fl [[.int .u32 B.c.dl],[.int .u32 0],bw Z105,[.bool true]],53⟩) rfl)⟩ (fun _=>?_)
 clear hK K
 simp only [nrm]
 refine anyC_take (i:=8) (v:=(.pointer (some ⟨g,8,none⟩))) (fun _=>True) (fun _ _=>trivial) (.inl (fun _=>trivial)) rfl (by kernel_rfl) (by kernel_rfl) (by kernel_rfl) (by decide) (by kernel_rfl) (by decide) (fun _ _ _ h=>h) (.inl ⟨by kernel_rfl,fun x_ hu=>by kernel_rfl⟩) ⟨(hB.get 0 (x:=⟨g,sg A.c x qA dA vA B.c y qB dB (.slice sa n sc),43⟩) rfl),(hB.get 1 (x:=⟨g3,fl [[.int .u32 B.c.dl],[.int .u32 0],bw Z105,[.bool true]],53⟩) rfl)⟩ ?_
 simp only [nrm]
 refine anyC_take (i:=9) (v:=(.pointer (some ⟨g,15,none⟩))) (fun v_=>v_.heap[g]?=some (.cells (sg A.c x qA dA vA B.c y qB dB (.slice sa n sc)) 43 (0,0))∧v_.heap[g3]?=some (.cells (fl [[.int .u32 B.c.dl],[.int .u32 0],bw Z105,[.bool true]]) 53 (0,0))) (fun _ h_=>h_) (.inr (by kernel_rfl)) rfl (by kernel_rfl) (by kernel_rfl) (by kernel_rfl) (by decide) (by kernel_rfl) (by decide) (fun _ _ _ h=>h) (.inl ⟨by kernel_rfl,fun x_ hu=>by kernel_rfl⟩) ⟨(hB.get 0 (x:=⟨g,sg A.c x qA dA vA B.c y qB dB (.slice sa n sc),43⟩) rfl),(hB.get 1 (x:=⟨g3,fl [[.int .u32 B.c.dl],[.int .u32 0],bw Z105,[.bool true]],53⟩) rfl)⟩ ?_
 simp only [nrm]
 refine anyC_last (by kernel_rfl) rfl (fun K hK=>?_)
 have hzz_:Hid (u10.heap[g]?=some (.cells (sg A.c x qA dA vA B.c y qB dB (.slice sa n sc)) 43 (0,0))):=hide (hB.get 0 (x:=⟨g,sg A.c x qA dA vA B.c y qB dB (.slice sa n sc),43⟩) rfl)
 refine step_csU (.tmp 46) (.tmp 44) (g) 15 sa2 n2 sc2 (by kernel_rfl) rfl (by kernel_rfl) (by kernel_rfl) hB 0 rfl NS2 (nS2  _ _ _ _ _ _ _ _ _ _ _ _ _ _ _ _) 15 _ rfl rfl ?_
 intro u11 hB_ hbt_
 clear hB
 replace hB:Bl (bare w) [⟨g,sg A.c x qA dA vA B.c y qB dB (.slice sa2 n2 sc2),43⟩,⟨g3,fl [[.int .u32 B.c.dl],[.int .u32 0],bw Z105,[.bool true]],53⟩,⟨g4,fl [[.int .u32 0],[.slice x2.ao x2.no x2.co],[.int .i64 0],[.int .u32 0],[.slice x2.ah x2.nh x2.ch]],26⟩,⟨g5,fl [[.int .u32 0],bw Z105],33⟩] u11:=hB_
 clear hB_
 replace hA:=hide ((unhide hA).bz (unhide hzz_) hbt_)
 replace hD:=hide ((unhide hD).bz (unhide hzz_) hbt_)
 replace hXF:=hide ((unhide hXF).bz (unhide hzz_) hbt_)
 replace hXG:=hide ((unhide hXG).bg (unhide hzz_) hbt_ hbg)
 clear hbt_ hzz_
 refine hK.out _ _ ?_
 clear hK K
 simp only [nrm]
 refine any_done (by kernel_rfl) ?_
 replace hB:=hide hB
 go_upto_region 9 with fail
 replace hB:=unhide hB
 refine wp_region_lit ?_
 (refine wpList_step fun K hK=>?_; replace hK:=hide hK; go_simp; refine unhide hK _ _ ?_; clear hK K)
 refine wpList_nil ?_
 replace hB:=hide hB
 go_wp2_with fail
 replace hB:=unhide hB
 rw [unhide hT]
 exact (⟨rfl,⟨x,y,qA,dA,vA,qB,dB,(.slice sa2 n2 sc2),hB.get 0 (x:=⟨g,sg A.c x qA dA vA B.c y qB dB (.slice sa2 n2 sc2),43⟩) rfl,unhide hA,unhide hD,unhide hXF,unhide hU,(fun u_ hu_=>(List.mem_append.1 hu_).elim (fun h_=>unhide hV u_ h_) (fun h_=>by rw [List.mem_singleton.1 h_]; exact ⟨Z105_len,z105b⟩))⟩,(unhide hXG).cg⟩)
end Go.Proofs.Ytcefkkoombmndab
namespace Go.Proofs.Ytcefkkoombmndab
open Go.RowKit
set_option maxRecDepth 100000
set_option linter.unusedSimpArgs false
set_option linter.unusedVariables false
def NKf (b:Nat) (C:Array Value) (t:TypeId) (u:World) (q:Value):Prop:=∃ g,q=.pointer (some ⟨g,0,none⟩)∧b≤g∧u.heap[g]?=some (.cells C t (0,0))
theorem NKf.gr {b:Nat} {C:Array Value} {t:TypeId} {u v:World} {q:Value} (h:NKf b C t u q) (g:Gr u v):NKf b C t v q:=by
 obtain ⟨p,h1,h2,h3⟩:=h
 exact ⟨p,h1,h2,g.blk h3⟩
theorem Bl.joinz {w u x:World} {L:List Blk} {g:Nat} {c:Array Value} {t:TypeId} (h0:Bl w L u) (h:Bl w L x) (hge:u.heap.size≤g) (hn:x.heap[g]?=some (.cells c t (0,0))):Bl w (L++[⟨g,c,t⟩]) x :=
 h.add ⟨g,c,t⟩ hn (Nat.le_trans h0.gr.size hge) (fun y hy=>by have:=lt_of_block (h0.at_ y hy).1; show y.g≠g; omega)
def Sz (n:Nat) (u:World):Prop:=n≤u.heap.size
theorem Sz.gr {n:Nat} {u v:World} (h:Sz n u) (g:Gr u v):Sz n v:=Nat.le_trans h g.size
theorem exec_ub {op:Oper} {a:Act} (w:World) (x:Operand) (ho:op.op=.load 5 x) (g i:Nat) (hx:a.eval x=.pointer (some ⟨g,i,none⟩)) (v:Int) (hc:w.cell? ⟨g,i,none⟩=some (.int .u8 v)):(execOp a.eval op).run Try.prog w=.ok (.value (.int .u8 v)) w:=by
 unfold execOp
 simp only [ho,hx,Instr.loadAt,Instr.sureAddr,Sem.run_bind,Sem.run_pure,Result.andThen_ok]
 go_simp
theorem exec_tx {a:Act} {o:Oper} (w:World) (x:Operand) (ho:o.op=.convert 49 9 x) (s:Option Addr) (n c:Nat) (L:List Int) (hx:a.eval x=.slice s n c) (hn:L.length=n) (hL:Sl w s L) (t:ByteArray) (ht:t=strOfNums L) :
  (execOp a.eval o).run Try.prog w=.ok (.value (.string t)) w:=by
 subst ht
 have h:=hL.text n c hn
 unfold execOp
 simp only [ho,hx,Sem.run_bind,h,Result.andThen_ok,Sem.run_pure]
theorem str_tbo (s:ByteArray):strOfNums (tbo s)=s:=by
 have h:(strOfNums (tbo s)).data.toList=s.data.toList:=by
  rw [strOfNums_data]
  unfold tbo
  rw [List.map_map]
  refine (List.map_congr_left fun x hx=>?_).trans (List.map_id _)
  show UInt8.ofNat ((x.toNat:Int)).toNat=id x
  rw [Int.toNat_natCast]
  exact UInt8.ofNat_toNat
 have h2:(strOfNums (tbo s)).data=s.data:=Array.ext' h
 exact congrArg ByteArray.mk h2
theorem tbo_len (s:ByteArray):(tbo s).length=s.size:=by unfold tbo; rw [List.length_map,Array.length_toList]; rfl
theorem bdy_len {t:ByteArray} (h:t.size=3):(bdy t).length=105:=by unfold bdy; simp [tbo_len,h]
theorem und_cells {w:World} {g:Nat} {p q:Int} {t:ByteArray} {i:Bool} (ht:t.size=3) (h:w.heap[g]?=some (.cells (fl [[.int .u32 p],[.int .u32 q],bw (bdy t),[.bool i]]) 53 (0,0))) :
  w.cell? ⟨g,2,none⟩=some (.int .u8 3)∧Sl w (some ⟨g,3,none⟩) (tbo t):=by
 have e:(tbo t).length=3:=by rw [tbo_len,ht]
 obtain ⟨x,y,z,hxyz⟩:∃ x y z,tbo t=[x,y,z]:=by
  match hh:tbo t,e with
  | [x,y,z],_=>exact ⟨x,y,z,rfl⟩
 have h2:=und_at h
 have e2:unr ⟨p,q,bdy t,i⟩=.int .u32 p::.int .u32 q::.int .u8 3::.int .u8 x::.int .u8 y::.int .u8 z::(bw (List.replicate 101 0)++[.bool i]):=by
  unfold unr bdy
  rw [ht,hxyz]
  simp [bw]
 rw [e2] at h2
 refine ⟨h2 2 _ rfl,.inr ⟨g,3,rfl,fun j hj=>?_⟩⟩
 rw [hxyz] at hj ⊢
 match j,hj with
 | 0,_=>exact h2 3 _ rfl
 | 1,_=>exact h2 4 _ rfl
 | 2,_=>exact h2 5 _ rfl
theorem app_rowsB {t e:TypeId} {k nb:Nat} (L:Lw t e k nb) {w:World} {o:Oper} {a:Act} {K:Act→World→Prop} {Q:Exit→Act→World→Prop} (s x:Operand)
  (ho:o.op=.call { callee:=.builtin .append,args:=#[s,x],argTypes:=#[t,t] }) (b:Nat) (hBb:b≤w.heap.size) (v:Value) (R:List (List Value)) (hs:a.eval s=v) (hown:Or_ k e b w v R)
  (sp:Option Addr) (n sc:Nat) (l:List (List Value)) (hx:a.eval x=.slice sp n sc) (hl:Lz k w sp n sc l) (h1:∀ r ∈ l,∀ u ∈ r,u.oneCell'=true) (hbig:((R.length+n)+(R.length+n) / 4+192) * nb≤281474976710656∧R.length+n≤4611686018427387904)
  (h:∀ v' w',Or_ k e b w' v' (R++l)→w.grownBy w' v.ownBlock→(v'.ownBlock=v.ownBlock∨v'.ownBlock=some w.heap.size)→K (a.put o.dst v') w'):o.wp Try.prog a w K Q:=by
 obtain ⟨i0,z0,hi,hz0,hz1,hz2,hz3⟩:=L.hi
 rcases hl.sl with rfl | ⟨p,q,rfl,hat⟩
 ·obtain rfl:0=n:=hl.len
  obtain ⟨a',c',rfl,hls⟩:=hown.ls
  have hc:=hls.cap
  have hrun:(Builtin.append_ #[t,t] o.type #[.slice a' R.length c',.slice sp 0 sc]).run Try.prog w=.ok (.slice a' R.length c') w:=by
   cases a' <;> cases sp <;> simp [Builtin.append_,run_underlying L.ht,sizeOf,typeInfo,hi,Builtin.lenOf,Builtin.firstCells,loadCells,loadCellsFrom,storeCells,hc]
  unfold Oper.wp
  simp [execOp,ho,resolve,invoke,builtin,hs,hx,hrun,Result.andThen]
  exact h _ _ (by rw [List.append_nil]; exact hown) (World.grownBy.refl _ _) (.inl rfl)
 ·have hfl:=flat_len l k hl.row
  have hln:=hl.len
  have hat2:∀ j u,l.flatten[j]?=some u→w.cell? ((⟨p,q,none⟩:Addr).add j)=some u:=fun j u hj=>by rw [Addr.add_mid]; exact hat j u hj
  have hrl:l.flatten.length=n * k:=by rw [hfl,hln]
  have h1':∀ u ∈ l.flatten,u.oneCell'=true:=by
   intro u hu
   obtain ⟨r,hr,hu⟩:=List.mem_flatten.1 hu
   exact h1 r hr u hu
  obtain ⟨v',w',hr,h2,h3,-⟩:=run_append_own_wide (P:=Try.prog) w b t o.type e i0 z0 k nb L.ht hi hz0 hz1 hz2 hz3 L.hk v R.length _ hown.2 ⟨p,q,none⟩ n sc l.flatten hrl hat2 h1' (by unfold maxLen; omega) hbig.1 hBb
  have hwh:v'.ownBlock=v.ownBlock∨v'.ownBlock=some w.heap.size:=by
   subst hz1 hz2
   rcases hown.2.2 with ⟨e1,e2⟩ | ⟨g,cap,cur,e1,hbg,hg,hnc,hcm,hcs,htake⟩
   ·subst e1
    by_cases h0:n=0
    ·subst h0
     have hrun:(Builtin.append_ #[t,t] o.type #[.slice none 0 0,.slice (some ⟨p,q,none⟩) 0 sc]).run Try.prog w=.ok (.slice none 0 0) w:=by
      simp [Builtin.append_,run_underlying L.ht,sizeOf,typeInfo,hi,Builtin.lenOf,Builtin.firstCells,loadCells,loadCellsFrom,storeCells]
     rw [hrun] at hr
     injection hr with hr _
     rw [← hr]
     exact .inl rfl
    ·have hr2:=run_append_nil (P:=Try.prog) w t o.type e i0 z0 L.ht hi hz0 ⟨p,q,none⟩ n sc l.flatten hrl hat2 (by omega) (by omega) (Nat.le_trans (Nat.mul_le_mul_right _ (by omega)) hbig.1)
     rw [hr2] at hr
     injection hr with hr _
     rw [← hr]
     exact .inr rfl
   ·subst e1
    by_cases hroom:R.length+n≤cap
    ·have hfit:R.length * i0.size+l.flatten.length≤cur.size:=by rw [hrl,hcs,← Nat.add_mul]; exact Nat.mul_le_mul_right _ hroom
     have hr2:=run_append_room (P:=Try.prog) w t o.type e i0 L.ht hi g R.length cap cur hg ⟨p,q,none⟩ n sc l.flatten hrl hat2 h1' hroom hfit
     rw [hr2] at hr
     injection hr with hr _
     rw [← hr]
     exact .inl rfl
    ·have hr2:=run_append_grow (P:=Try.prog) w t o.type e i0 z0 L.ht hi hz0 ⟨g,0,none⟩ R.length cap _ hown.2.1 (hown.2.cells (g:=g) rfl) ⟨p,q,none⟩ n sc l.flatten hrl hat2 (by omega) (by omega) (growslice_fits_wide (by omega) hbig.1)
     rw [hr2] at hr
     injection hr with hr _
     rw [← hr]
     exact .inr rfl
  unfold Oper.wp execOp
  simp only [ho,resolve,invoke,builtin,Sem.run_bind,Sem.run_pure,Result.andThen_ok,List.map_toArray,List.map_cons,List.map_nil,hs,hx,hr]
  refine h v' w' ⟨?_,?_⟩ h3 hwh
  ·intro x hx
   rcases List.mem_append.1 hx with hx | hx
   ·exact hown.1 x hx
   ·exact hl.row x hx
  ·rw [List.length_append,List.flatten_append,hln]
   exact h2
def RcL (b:Nat) (c':Cm) (L:List ByteArray) (w:World) (r:Ending) (w':World):Prop:=∃ x a n c,r=.returned (.tuple #[.agg (fl (cvs c' x)),.slice a n c,.int .i64 0])∧Co b w' c' x∧n=L.length∧Or_ 1 9 b w' (.slice a n c) (L.map tr1)∧Gr w w'
theorem or_len {k:Nat} {e:TypeId} {b:Nat} {w:World} {a:Option Addr} {n c:Nat} {R:List (List Value)} (h:Or_ k e b w (.slice a n c) R):n=R.length:=by
 obtain ⟨a',c',h1,-⟩:=h.lz
 cases h1
 rfl
theorem taken_ok (b:Nat) (c c2:Cm) (L:List ByteArray) (x:Lc) (s:It) (r:Int) (w:World) (hc:Co b w c x) (hs:s.Ok) (hb:b≤w.heap.size) (ht:tk c s r=(c2,L,0)):Calls Try.prog 22 #[.agg (fl [[.int .u32 c.nx],[.slice x.ao x.no x.co],[.int .i64 c.tn],[.int .u32 c.dl],[.slice x.ah x.nh x.ch]]),.agg (fl [[.int .u32 s.n],[.string s.s]]),.int .i64 r] w (RcL b c2 L w):=by
 refine (take_ok c x s r w hc.i hs).mono ?_
 rintro r_ w' ⟨x',a',n',c',h1,h2,h3,h4,h5⟩
 rw [ht] at h1 h2 h4
 exact ⟨x',a',n',c',h1,⟨h2,h3.base hb⟩,by rw [or_len h4,List.length_map],or_base h4 hb,h5⟩
end Go.Proofs.Ytcefkkoombmndab
