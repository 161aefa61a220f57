/-
  What the proof leans on.
-/
import Derived.Test.YthahhglbeafkmaaGreatDoorRK14
namespace Go.Proofs.YthahhglbeafkmaaGreatDoor
open Go.RowKit
set_option maxRecDepth 100000
set_option linter.unusedSimpArgs false
set_option linter.unusedVariables false
theorem exec_winl {a:Act} {o:Oper} (w:World) (x y z:Operand) (ho:o.op=.slice 43 x (some y) (some z) none) (p q len cap l h m:Nat) (hx:a.eval x=.slice (some ⟨p,q,none⟩) len cap) (hy:a.eval y=.int .i64 l) (hz:a.eval z=.int .i64 h) (h1:h=l+m) (h0:0<m) (h2:h≤cap) :
  (execOp a.eval o).run Tryz.prog w=.ok (.value (.slice (some ⟨p,q+l,none⟩) m (cap - l))) w:=by
 have e0:h - l=m:=by omega
 have e1:(0:Int)≤l:=by omega
 have e2:(l:Int)≤h:=by omega
 have e3:(h:Int)≤cap:=by omega
 have hu:Tryz.prog.underlying 43=some (.slice (Tryz.prog.elem 43)):=by kernel_rfl
 have hs:(sizeOf (Tryz.prog.elem 43)).run Tryz.prog w=.ok 1 w:=by kernel_rfl
 have hne:¬ cap=l:=by omega
 simp [execOp,ho,hx,hy,hz,run_sliceAt_slice _ _ _ _ _ _ hu,run_slice_lh _ _ _ _ _ hu _ _ _ _ e1 e2 e3,hs,sliced,hne,Addr.add_mid,e0]
theorem exec_froml {a:Act} {o:Oper} (w:World) (x y:Operand) (ho:o.op=.slice 43 x (some y) none none) (p q len cap l:Nat) (hx:a.eval x=.slice (some ⟨p,q,none⟩) len cap) (hy:a.eval y=.int .i64 l) (h1:l<len) (h2:len≤cap) :
  (execOp a.eval o).run Tryz.prog w=.ok (.value (.slice (some ⟨p,q+l,none⟩) (len - l) (cap - l))) w:=by
 have h:=exec_from w x y ho (some ⟨p,q,none⟩) len cap l hx hy h2 (by omega)
 rw [if_neg (by omega),Option.map_some,Addr.add_mid] at h
 exact h
theorem lb_win {w:World} {p q n c:Nat} {L:List Int} (h:Lb w (some ⟨p,q,none⟩) n c L) (l m:Nat) (hlm:l+m≤n):Lb w (some ⟨p,q+l,none⟩) m (c - l) ((L.drop l).take m):=by
 have hl:=h.len
 have hc:=h.cap
 have hm:=h.max
 refine ⟨by rw [List.length_take,List.length_drop]; omega,fun x hx=>h.isB x (List.mem_of_mem_drop (List.mem_of_mem_take hx)),?_,by omega,by omega⟩
 refine .inr ⟨p,q+l,rfl,fun j hj=>?_⟩
 rw [List.length_take,List.length_drop] at hj
 rcases h.sl with h1 | ⟨p',q',h1,h2⟩
 ·rw [h1] at hl
  simp at hl
  omega
 ·cases h1
  have h3:=h2 (l+j) (by omega)
  rw [Nat.add_assoc,h3]
  rw [List.getD_eq_getElem?_getD,List.getD_eq_getElem?_getD,List.getElem?_take,if_pos (by omega),List.getElem?_drop]
theorem lb_cell {w:World} {p q n c:Nat} {L:List Int} (h:Lb w (some ⟨p,q,none⟩) n c L) (j:Nat) (hj:j<n):w.cell? ⟨p,q+j,none⟩=some (.int .u8 (L.getD j 0)):=by
 have hl:=h.len
 rcases h.sl with h1 | ⟨p',q',h1,h2⟩
 ·rw [h1] at hl
  simp at hl
  omega
 ·cases h1
  exact h2 j (by omega)
theorem allZ_step (L:List Int) (j:Nat) (h:j<L.length):allZ (L.take (j+1))=(allZ (L.take j) && decide (L.getD j 0=0)):=by
 have e1:(L.take (j+1)).length=j+1:=by rw [List.length_take]; omega
 have e2:(L.take j).length=j:=by rw [List.length_take]; omega
 have key:L.take (j+1)=List.replicate (j+1) 0 ↔ L.take j=List.replicate j 0∧L.getD j 0=0:=by
  rw [List.take_add_one,List.getElem?_eq_getElem h,List.getD_eq_getElem?_getD,List.getElem?_eq_getElem h,List.replicate_succ']
  simp only [Option.toList_some,Option.getD_some]
  constructor
  ·intro h1
   have h2:=List.append_inj h1 (by rw [e2]; simp)
   exact ⟨h2.1,by simpa using h2.2⟩
  ·rintro ⟨h1,h2⟩
   rw [h1,h2]
 rw [Bool.eq_iff_iff]
 simp only [allZ,decide_eq_true_eq,Bool.and_eq_true]
 rw [e1,e2]
 exact key
theorem neq_i {a:Act} {o:Oper} (w:World) (x y:Operand) (m n:Int) (b:Bool) (ho:o.op=.binOp .neq 3 x y 3) (hx:a.eval x=.int .i64 m) (hy:a.eval y=.int .i64 n) (hb:decide (m≠n)=b):(execOp a.eval o).run Tryz.prog w=.ok (.value (.bool b)) w:=by
 subst hb
 unfold execOp
 simp only [ho,hx,hy]
 go_simp
 by_cases h_:m=n <;> simp [h_]
theorem eql_8x {a:Act} {o:Oper} (w:World) (x y:Operand) (m n:Int) (b:Bool) (ho:o.op=.binOp .eql 5 x y 5) (hx:a.eval x=.int .u8 m) (hy:a.eval y=.int .u8 n) (hb:decide (m=n)=b):(execOp a.eval o).run Tryz.prog w=.ok (.value (.bool b)) w :=
 exec_eqI w 5 x y ho (q:=.u8) (by kernel_rfl) m n hx hy b hb
theorem conv_8i {a:Act} {o:Oper} (w:World) (x:Operand) (m:Int) (ho:o.op=.convert 5 3 x) (hx:a.eval x=.int .u8 m) (h:0≤m∧m<256):(execOp a.eval o).run Tryz.prog w=.ok (.value (.int .i64 m)) w:=by
 have e:IntKind.i64.wrap m=m:=by rw [IntKind.wrap_i64]; omega
 unfold execOp
 simp only [ho,hx]
 go_simp
theorem conv_6432 {a:Act} {o:Oper} (w:World) (x:Operand) (m:Int) (ho:o.op=.convert 26 27 x) (hx:a.eval x=.int .u64 m) (h:0≤m∧m<4294967296):(execOp a.eval o).run Tryz.prog w=.ok (.value (.int .u32 m)) w:=by
 have e:IntKind.u32.wrap m=m:=by rw [IntKind.wrap_u32]; omega
 unfold execOp
 simp only [ho,hx]
 go_simp
theorem lowN_u4 {L:List Int} (h:IsB L) (hl:L.length=4):U4 (lowN L):=by
 have:=lowN_bd L h
 rw [hl] at this
 have e:(256:Int) ^ 4=4294967296:=by decide
 rw [e] at this
 exact this
set_option maxHeartbeats 4000000 in
theorem yread_291 (Ky:List Int) (hKy:Ky.length=32) (hKb:IsB Ky) (f:Bool) (z:Option Addr) (n c:Nat) (w:World)  : Calls Tryz.prog 11 #[.agg (fl [bw Ky,[.bool f]]),.int .u64 0,.slice z n c] w (Vl (.tuple #[.agg (fl [[.int .i64 0],[.int .u32 0],[.int .u32 0],bw Z105]),.int .i64 291]) w):=by
 obtain ⟨T,hT⟩:∃ T:Ending→World→Prop,T=(Vl (.tuple #[.agg (fl [[.int .i64 0],[.int .u32 0],[.int .u32 0],bw Z105]),.int .i64 291]) w):=⟨_,rfl⟩
 rw [← hT]
 replace hT:=hide hT
 obtain ⟨A0_,hA0_⟩:∃ S_,S_=fl [bw Ky,[.bool f]]:=⟨_,rfl⟩
 rw [← hA0_]
 replace hA0_:=hide hA0_
 go_enter Tryz.func11,Tryz.ntmps11
 go_upto_region 1 with fail
 have hB:=(((Bl.nil w).new A0_ 25).new (fl [[.int .i64 0],[.int .u32 0],[.int .u32 0],bw Z105]) 30)
 simp only [size_alloc,List.nil_append,List.cons_append] at hB
 rw [unhide hA0_] at hB
 generalize hu_:World.alloc _ _=u0
 replace hB:Bl w [⟨w.heap.size,fl [bw Ky,[.bool f]],25⟩,⟨w.heap.size+1,fl [[.int .i64 0],[.int .u32 0],[.int .u32 0],bw Z105],30⟩] u0:=by
  rw [← hu_]
  rw [unhide hA0_]
  exact hB
 clear hu_ hA0_
 refine wp_region_lit ?_
 refine list_val (.agg (fl [[.int .i64 0],[.int .u32 0],[.int .u32 0],bw Z105])) (by kernel_rfl) (bE _ rfl) ?_
 simp only [nrm]
 refine list_valw (.pointer (some ⟨u0.heap.size,0,none⟩)) (u0.alloc (.cells (fl [[.int .i64 0],[.int .u32 0],[.int .u32 0],bw Z105]) 30 (0,0))) (by kernel_rfl) (by kernel_rfl) ?_
 replace hB:=hB.new (fl [[.int .i64 0],[.int .u32 0],[.int .u32 0],bw Z105]) 30
 simp only [List.nil_append,List.cons_append] at hB
 generalize World.alloc _ _=u1 at *
 generalize u0.heap.size=g8 at *
 replace hB:Bl w [⟨w.heap.size,fl [bw Ky,[.bool f]],25⟩,⟨w.heap.size+1,fl [[.int .i64 0],[.int .u32 0],[.int .u32 0],bw Z105],30⟩,⟨g8,fl [[.int .i64 0],[.int .u32 0],[.int .u32 0],bw Z105],30⟩] u1:=hB
 simp only [nrm]
 refine list_all 30 (.tmp 8) (.tmp 15) (g8) (S2:=[[.int .i64 0],[.int .u32 0],[.int .u32 0],bw Z105]) (by kernel_rfl) rfl (by kernel_rfl) (by kernel_rfl) hB 2 rfl NE (nE (show List.length Z105=105 from rfl) _ _ _) (nE (show List.length Z105=105 from rfl) _ _ _) (by kernel_rfl) (oE _ rfl rfl rfl) ?_
 intro u2 hB_ hbt_
 clear hB
 replace hB:Bl w [⟨w.heap.size,fl [bw Ky,[.bool f]],25⟩,⟨w.heap.size+1,fl [[.int .i64 0],[.int .u32 0],[.int .u32 0],bw Z105],30⟩,⟨g8,fl [[.int .i64 0],[.int .u32 0],[.int .u32 0],bw Z105],30⟩] u2:=hB_
 clear hB_
 clear hbt_
 simp only [nrm]
 refine wpList_nil ?_
 replace hB:=hide hB
 go_upto_region 2 with fail
 replace hB:=unhide hB
 refine wp_region_lit ?_
 refine lvk (.int .u64 0) ?_
 simp only [nrm]
 refine list_val (.bool true) (by kernel_rfl) (eql_64 _ (.tmp 16) (.const (.int .u64 0)) 0 0 true rfl (by kernel_rfl) (by kernel_rfl) (by decide)) ?_
 simp only [nrm]
 refine wpList_nil ?_
 replace hB:=hide hB
 go_upto_region 3 with fail
 replace hB:=unhide hB
 refine wp_region_lit ?_
 refine list_val (.agg (fl [[.int .i64 0],[.int .u32 0],[.int .u32 0],bw Z105])) (by kernel_rfl) (exec_sw _ 30 (.tmp 8) rfl (g8) (by kernel_rfl) (hB.get 2 (x:=⟨g8,fl [[.int .i64 0],[.int .u32 0],[.int .u32 0],bw Z105],30⟩) rfl) NE (nE (show List.length Z105=105 from rfl) _ _ _) Tryz.underlying30 rfl (by kernel_rfl)) ?_
 simp only [nrm]
 refine list_all 30 (.tmp 6) (.tmp 18) (w.heap.size+1) (S2:=[[.int .i64 0],[.int .u32 0],[.int .u32 0],bw Z105]) (by kernel_rfl) rfl (by kernel_rfl) (by kernel_rfl) hB 1 rfl NE (nE (show List.length Z105=105 from rfl) _ _ _) (nE (show List.length Z105=105 from rfl) _ _ _) (by kernel_rfl) (oE _ rfl rfl rfl) ?_
 intro u3 hB_ hbt_
 clear hB
 replace hB:Bl w [⟨w.heap.size,fl [bw Ky,[.bool f]],25⟩,⟨w.heap.size+1,fl [[.int .i64 0],[.int .u32 0],[.int .u32 0],bw Z105],30⟩,⟨g8,fl [[.int .i64 0],[.int .u32 0],[.int .u32 0],bw Z105],30⟩] u3:=hB_
 clear hB_
 clear hbt_
 simp only [nrm]
 (refine wpList_step fun K hK=>?_; replace hK:=hide hK; go_simp; refine unhide hK _ _ ?_; clear hK K)
 refine wpList_nil ?_
 replace hB:=hide hB
 go_wp2_with fail
 replace hB:=unhide hB
 rw [unhide hT]
 exact bodyPost_ret (v:=.tuple #[.agg (fl [[.int .i64 0],[.int .u32 0],[.int .u32 0],bw Z105]),.int .i64 291]) (res2 Tryz.results11 (rv_cell (by kernel_rfl) (hB.get 1 (x:=⟨w.heap.size+1,fl [[.int .i64 0],[.int .u32 0],[.int .u32 0],bw Z105],30⟩) rfl) Tryz.underlying30 rfl (by rw [fl_size (nE (show List.length Z105=105 from rfl) _ _ _)]; kernel_rfl)) (rv_tmp (by kernel_rfl))) rfl (⟨rfl,hB.gr⟩)
set_option maxHeartbeats 4000000 in
theorem yread_240 (Ky:List Int) (hKy:Ky.length=32) (hKb:IsB Ky) (f:Bool) (z:Option Addr) (n c:Nat) (r:Int) (w:World) (hr0:r≠0) (hn:n≠130):Calls Tryz.prog 11 #[.agg (fl [bw Ky,[.bool f]]),.int .u64 r,.slice z n c] w (Vl (.tuple #[.agg (fl [[.int .i64 0],[.int .u32 0],[.int .u32 0],bw Z105]),.int .i64 240]) w):=by
 obtain ⟨T,hT⟩:∃ T:Ending→World→Prop,T=(Vl (.tuple #[.agg (fl [[.int .i64 0],[.int .u32 0],[.int .u32 0],bw Z105]),.int .i64 240]) w):=⟨_,rfl⟩
 rw [← hT]
 replace hT:=hide hT
 have hn1:¬ (n:Int)=130:=by omega
 obtain ⟨A0_,hA0_⟩:∃ S_,S_=fl [bw Ky,[.bool f]]:=⟨_,rfl⟩
 rw [← hA0_]
 replace hA0_:=hide hA0_
 go_enter Tryz.func11,Tryz.ntmps11
 go_upto_region 1 with fail
 have hB:=(((Bl.nil w).new A0_ 25).new (fl [[.int .i64 0],[.int .u32 0],[.int .u32 0],bw Z105]) 30)
 simp only [size_alloc,List.nil_append,List.cons_append] at hB
 rw [unhide hA0_] at hB
 generalize hu_:World.alloc _ _=u0
 replace hB:Bl w [⟨w.heap.size,fl [bw Ky,[.bool f]],25⟩,⟨w.heap.size+1,fl [[.int .i64 0],[.int .u32 0],[.int .u32 0],bw Z105],30⟩] u0:=by
  rw [← hu_]
  rw [unhide hA0_]
  exact hB
 clear hu_ hA0_
 refine wp_region_lit ?_
 refine list_val (.agg (fl [[.int .i64 0],[.int .u32 0],[.int .u32 0],bw Z105])) (by kernel_rfl) (bE _ rfl) ?_
 simp only [nrm]
 refine list_valw (.pointer (some ⟨u0.heap.size,0,none⟩)) (u0.alloc (.cells (fl [[.int .i64 0],[.int .u32 0],[.int .u32 0],bw Z105]) 30 (0,0))) (by kernel_rfl) (by kernel_rfl) ?_
 replace hB:=hB.new (fl [[.int .i64 0],[.int .u32 0],[.int .u32 0],bw Z105]) 30
 simp only [List.nil_append,List.cons_append] at hB
 generalize World.alloc _ _=u1 at *
 generalize u0.heap.size=g8 at *
 replace hB:Bl w [⟨w.heap.size,fl [bw Ky,[.bool f]],25⟩,⟨w.heap.size+1,fl [[.int .i64 0],[.int .u32 0],[.int .u32 0],bw Z105],30⟩,⟨g8,fl [[.int .i64 0],[.int .u32 0],[.int .u32 0],bw Z105],30⟩] u1:=hB
 simp only [nrm]
 refine list_all 30 (.tmp 8) (.tmp 15) (g8) (S2:=[[.int .i64 0],[.int .u32 0],[.int .u32 0],bw Z105]) (by kernel_rfl) rfl (by kernel_rfl) (by kernel_rfl) hB 2 rfl NE (nE (show List.length Z105=105 from rfl) _ _ _) (nE (show List.length Z105=105 from rfl) _ _ _) (by kernel_rfl) (oE _ rfl rfl rfl) ?_
 intro u2 hB_ hbt_
 clear hB
 replace hB:Bl w [⟨w.heap.size,fl [bw Ky,[.bool f]],25⟩,⟨w.heap.size+1,fl [[.int .i64 0],[.int .u32 0],[.int .u32 0],bw Z105],30⟩,⟨g8,fl [[.int .i64 0],[.int .u32 0],[.int .u32 0],bw Z105],30⟩] u2:=hB_
 clear hB_
 clear hbt_
 simp only [nrm]
 refine wpList_nil ?_
 replace hB:=hide hB
 go_upto_region 2 with fail
 replace hB:=unhide hB
 refine wp_region_lit ?_
 refine lvk (.int .u64 r) ?_
 simp only [nrm]
 refine list_val (.bool false) (by kernel_rfl) (eql_64 _ (.tmp 16) (.const (.int .u64 0)) r 0 false rfl (by kernel_rfl) (by kernel_rfl) (decide_eq_false hr0)) ?_
 simp only [nrm]
 refine wpList_nil ?_
 replace hB:=hide hB
 go_upto_region 4 with fail
 replace hB:=unhide hB
 refine wp_region_lit ?_
 refine lvk (.slice z n c) ?_
 simp only [nrm]
 refine lvk (.int .i64 n) ?_
 simp only [nrm]
 refine list_val (.bool true) (by kernel_rfl) (neq_i _ (.tmp 20) (.const (.int .i64 130)) n 130 true rfl (by kernel_rfl) (by kernel_rfl) (decide_eq_true hn1)) ?_
 simp only [nrm]
 refine wpList_nil ?_
 replace hB:=hide hB
 go_upto_region 5 with fail
 replace hB:=unhide hB
 refine wp_region_lit ?_
 refine list_val (.agg (fl [[.int .i64 0],[.int .u32 0],[.int .u32 0],bw Z105])) (by kernel_rfl) (exec_sw _ 30 (.tmp 8) rfl (g8) (by kernel_rfl) (hB.get 2 (x:=⟨g8,fl [[.int .i64 0],[.int .u32 0],[.int .u32 0],bw Z105],30⟩) rfl) NE (nE (show List.length Z105=105 from rfl) _ _ _) Tryz.underlying30 rfl (by kernel_rfl)) ?_
 simp only [nrm]
 refine list_all 30 (.tmp 6) (.tmp 22) (w.heap.size+1) (S2:=[[.int .i64 0],[.int .u32 0],[.int .u32 0],bw Z105]) (by kernel_rfl) rfl (by kernel_rfl) (by kernel_rfl) hB 1 rfl NE (nE (show List.length Z105=105 from rfl) _ _ _) (nE (show List.length Z105=105 from rfl) _ _ _) (by kernel_rfl) (oE _ rfl rfl rfl) ?_
 intro u3 hB_ hbt_
 clear hB
 replace hB:Bl w [⟨w.heap.size,fl [bw Ky,[.bool f]],25⟩,⟨w.heap.size+1,fl [[.int .i64 0],[.int .u32 0],[.int .u32 0],bw Z105],30⟩,⟨g8,fl [[.int .i64 0],[.int .u32 0],[.int .u32 0],bw Z105],30⟩] u3:=hB_
 clear hB_
 clear hbt_
 simp only [nrm]
 (refine wpList_step fun K hK=>?_; replace hK:=hide hK; go_simp; refine unhide hK _ _ ?_; clear hK K)
 refine wpList_nil ?_
 replace hB:=hide hB
 go_wp2_with fail
 replace hB:=unhide hB
 rw [unhide hT]
 exact bodyPost_ret (v:=.tuple #[.agg (fl [[.int .i64 0],[.int .u32 0],[.int .u32 0],bw Z105]),.int .i64 240]) (res2 Tryz.results11 (rv_cell (by kernel_rfl) (hB.get 1 (x:=⟨w.heap.size+1,fl [[.int .i64 0],[.int .u32 0],[.int .u32 0],bw Z105],30⟩) rfl) Tryz.underlying30 rfl (by rw [fl_size (nE (show List.length Z105=105 from rfl) _ _ _)]; kernel_rfl)) (rv_tmp (by kernel_rfl))) rfl (⟨rfl,hB.gr⟩)
set_option maxHeartbeats 4000000 in
theorem yread_290 (Ky:List Int) (hKy:Ky.length=32) (hKb:IsB Ky) (f:Bool) (p o c:Nat) (r:Int) (hr:0≤r∧r<18446744073709551616) (L:List Int) (w:World) (hr0:r≠0) (lp:Lb w (some ⟨p,o,none⟩) 130 c L) (hz:L=Z130):Calls Tryz.prog 11 #[.agg (fl [bw Ky,[.bool f]]),.int .u64 r,.slice (some ⟨p,o,none⟩) 130 c] w (Vl (.tuple #[.agg (fl [[.int .i64 0],[.int .u32 0],[.int .u32 0],bw Z105]),.int .i64 290]) w):=by
 obtain ⟨T,hT⟩:∃ T:Ending→World→Prop,T=(Vl (.tuple #[.agg (fl [[.int .i64 0],[.int .u32 0],[.int .u32 0],bw Z105]),.int .i64 290]) w):=⟨_,rfl⟩
 rw [← hT]
 replace hT:=hide hT
 have hLl:=lp.len
 obtain ⟨A0_,hA0_⟩:∃ S_,S_=fl [bw Ky,[.bool f]]:=⟨_,rfl⟩
 rw [← hA0_]
 replace hA0_:=hide hA0_
 replace lp:=hide lp
 go_enter Tryz.func11,Tryz.ntmps11
 go_upto_region 1 with fail
 have hB:=(((Bl.nil w).new A0_ 25).new (fl [[.int .i64 0],[.int .u32 0],[.int .u32 0],bw Z105]) 30)
 simp only [size_alloc,List.nil_append,List.cons_append] at hB
 rw [unhide hA0_] at hB
 generalize hu_:World.alloc _ _=u0
 replace hB:Bl w [⟨w.heap.size,fl [bw Ky,[.bool f]],25⟩,⟨w.heap.size+1,fl [[.int .i64 0],[.int .u32 0],[.int .u32 0],bw Z105],30⟩] u0:=by
  rw [← hu_]
  rw [unhide hA0_]
  exact hB
 clear hu_ hA0_
 refine wp_region_lit ?_
 refine list_val (.agg (fl [[.int .i64 0],[.int .u32 0],[.int .u32 0],bw Z105])) (by kernel_rfl) (bE _ rfl) ?_
 simp only [nrm]
 refine list_valw (.pointer (some ⟨u0.heap.size,0,none⟩)) (u0.alloc (.cells (fl [[.int .i64 0],[.int .u32 0],[.int .u32 0],bw Z105]) 30 (0,0))) (by kernel_rfl) (by kernel_rfl) ?_
 replace hB:=hB.new (fl [[.int .i64 0],[.int .u32 0],[.int .u32 0],bw Z105]) 30
 simp only [List.nil_append,List.cons_append] at hB
 generalize World.alloc _ _=u1 at *
 generalize u0.heap.size=g8 at *
 replace hB:Bl w [⟨w.heap.size,fl [bw Ky,[.bool f]],25⟩,⟨w.heap.size+1,fl [[.int .i64 0],[.int .u32 0],[.int .u32 0],bw Z105],30⟩,⟨g8,fl [[.int .i64 0],[.int .u32 0],[.int .u32 0],bw Z105],30⟩] u1:=hB
 simp only [nrm]
 refine list_all 30 (.tmp 8) (.tmp 15) (g8) (S2:=[[.int .i64 0],[.int .u32 0],[.int .u32 0],bw Z105]) (by kernel_rfl) rfl (by kernel_rfl) (by kernel_rfl) hB 2 rfl NE (nE (show List.length Z105=105 from rfl) _ _ _) (nE (show List.length Z105=105 from rfl) _ _ _) (by kernel_rfl) (oE _ rfl rfl rfl) ?_
 intro u2 hB_ hbt_
 clear hB
 replace hB:Bl w [⟨w.heap.size,fl [bw Ky,[.bool f]],25⟩,⟨w.heap.size+1,fl [[.int .i64 0],[.int .u32 0],[.int .u32 0],bw Z105],30⟩,⟨g8,fl [[.int .i64 0],[.int .u32 0],[.int .u32 0],bw Z105],30⟩] u2:=hB_
 clear hB_
 clear hbt_
 simp only [nrm]
 refine wpList_nil ?_
 replace hB:=hide hB
 go_upto_region 2 with fail
 replace hB:=unhide hB
 refine wp_region_lit ?_
 refine lvk (.int .u64 r) ?_
 simp only [nrm]
 refine list_val (.bool false) (by kernel_rfl) (eql_64 _ (.tmp 16) (.const (.int .u64 0)) r 0 false rfl (by kernel_rfl) (by kernel_rfl) (decide_eq_false hr0)) ?_
 simp only [nrm]
 refine wpList_nil ?_
 replace hB:=hide hB
 go_upto_region 4 with fail
 replace hB:=unhide hB
 refine wp_region_lit ?_
 refine lvk (.slice (some ⟨p,o,none⟩) 130 c) ?_
 simp only [nrm]
 refine lvk (.int .i64 130) ?_
 simp only [nrm]
 refine list_val (.bool false) (by kernel_rfl) (neq_i _ (.tmp 20) (.const (.int .i64 130)) 130 130 false rfl (by kernel_rfl) (by kernel_rfl) (by decide)) ?_
 simp only [nrm]
 refine wpList_nil ?_
 replace hB:=hide hB
 go_upto_region 6 with fail
 replace hB:=unhide hB
 refine wp_region_lit ?_
 (refine wpList_step fun K hK=>?_; replace hK:=hide hK; go_simp; refine unhide hK _ _ ?_; clear hK K)
 refine wpList_nil ?_
 replace hB:=hide hB
 go_upto_region 7 with fail
 replace hB:=unhide hB
 refine wp_region_lit ?_
 (refine wpList_step fun K hK=>?_; replace hK:=hide hK; go_simp; refine unhide hK _ _ ?_; clear hK K)
 refine wpList_nil ?_
 replace hB:=hide hB
 go_wp2_with fail
 go_loopw [9,10] (fun z i wr=>∃ (j:Nat) (q:Bool),j≤130∧z=.bool q∧i=.int .i64 (j:Int)∧Hid (q=allZ (L.take j))∧Hid (Bl w [⟨w.heap.size,fl [bw Ky,[.bool f]],25⟩,⟨w.heap.size+1,fl [[.int .i64 0],[.int .u32 0],[.int .u32 0],bw Z105],30⟩,⟨g8,fl [[.int .i64 0],[.int .u32 0],[.int .u32 0],bw Z105],30⟩] wr)) (fun _ i _=>130 - (intOf i).toNat)
 case atStart=>exact ⟨0,true,by omega,rfl,rfl,rfl,hB⟩
 case round =>
 clear hB
 obtain ⟨j,q,hj,rfl,rfl,hq,hB⟩:=hrel
 have hB:=unhide hB
 by_cases hlt:j<130
 ·have jI:(j:Int)<130:=by omega
  have hst:=allZ_step L j (by omega)
  have jw:IntKind.i64.wrap ((j:Int)+1)=(j:Int)+1:=by rw [IntKind.wrap_i64]; omega
  obtain ⟨x,hx⟩:∃ x,x=L.getD j 0:=⟨_,rfl⟩
  obtain ⟨e,hE⟩:∃ e,decide (x=0)=e:=⟨_,rfl⟩
  rw [← hx,hE,← unhide hq] at hst
  replace hst:=hide hst
  replace hx:=hide hx
  cases q
  ·skip
   replace hB:=hide hB
   go_upto_region 10 with fail
   replace hB:=unhide hB
   refine wp_region_lit ?_
   refine wpList_gen fun ops_ hops=>?_
   replace hops:=hide hops
   refine list_val (.bool false) (by rw [unhide hops]; kernel_rfl) (by kernel_rfl) ?_
   simp only [nrm]
   refine list_val (.bool false) (by rw [unhide hops]; kernel_rfl) (by kernel_rfl) ?_
   simp only [nrm]
   refine list_off (by rw [unhide hops]; kernel_rfl) ?_
   simp only [nrm]
   refine list_off (by rw [unhide hops]; kernel_rfl) ?_
   simp only [nrm]
   refine list_off (by rw [unhide hops]; kernel_rfl) ?_
   simp only [nrm]
   refine list_off (by rw [unhide hops]; kernel_rfl) ?_
   simp only [nrm]
   refine list_off (by rw [unhide hops]; kernel_rfl) ?_
   simp only [nrm]
   refine list_val (.bool false) (by rw [unhide hops]; kernel_rfl) (by kernel_rfl) ?_
   simp only [nrm]
   (refine wpList_step fun K hK=>?_; replace hK:=hide hK; go_simp; refine unhide hK _ _ ?_; clear hK K)
   refine wpList_nil ?_
   replace hB:=hide hB
   clear hx hE
   go_wp2_with fail
   go_roundw
   case rel=>exact ⟨j+1,false,by omega,rfl,by simp,by rw [unhide hst]; first | rfl | simp,hB⟩
   case measure=>simp [intOf]; omega
  ·skip
   replace hB:=hide hB
   go_upto_region 10 with fail
   replace hB:=unhide hB
   refine wp_region_lit ?_
   refine wpList_gen fun ops_ hops=>?_
   replace hops:=hide hops
   refine list_val (.bool true) (by rw [unhide hops]; kernel_rfl) (by kernel_rfl) ?_
   simp only [nrm]
   refine list_val (.bool true) (by rw [unhide hops]; kernel_rfl) (by kernel_rfl) ?_
   simp only [nrm]
   refine list_val (.slice (some ⟨p,o,none⟩) 130 c) (by rw [unhide hops]; kernel_rfl) (by kernel_rfl) ?_
   simp only [nrm]
   refine list_val (.int .i64 (j:Int)) (by rw [unhide hops]; kernel_rfl) (by kernel_rfl) ?_
   simp only [nrm]
   refine list_val (.pointer (some ⟨p,o+j,none⟩)) (by rw [unhide hops]; kernel_rfl) (exec_at _ (.tmp 31) (.tmp 32) rfl p o 130 c j (by kernel_rfl) (by kernel_rfl) hlt) ?_
   simp only [nrm]
   refine list_val (.int .u8 x) (by rw [unhide hops]; kernel_rfl) (exec_u8 _ (.tmp 33) rfl p (o+j) (by kernel_rfl) x (by rw [unhide hx]; exact lb_cell ((unhide lp).gr hB.gr) j hlt)) ?_
   simp only [nrm]
   refine list_val (.bool e) (by rw [unhide hops]; kernel_rfl) (eql_8x _ (.tmp 34) (.const (.int .u8 0)) x 0 e rfl (by kernel_rfl) (by kernel_rfl) hE) ?_
   simp only [nrm]
   refine list_val (.bool e) (by rw [unhide hops]; kernel_rfl) (by kernel_rfl) ?_
   simp only [nrm]
   (refine wpList_step fun K hK=>?_; replace hK:=hide hK; go_simp; refine unhide hK _ _ ?_; clear hK K)
   refine wpList_nil ?_
   replace hB:=hide hB
   clear hx hE
   go_wp2_with fail
   go_roundw
   case rel=>exact ⟨j+1,e,by omega,rfl,by simp,by rw [unhide hst]; first | rfl | simp,hB⟩
   case measure=>simp [intOf]; omega
 ·have jI:¬ (j:Int)<130:=by omega
  obtain rfl:j=130:=by omega
  have hq2:q=true:=by
   rw [unhide hq,List.take_of_length_le (by omega)]
   rw [hz]; rfl
  subst hq2
  clear hq hlt
  replace hB:=hide hB
  go_upto_region 11 with fail
  replace hB:=unhide hB
  refine wp_region_lit ?_
  refine lvk (.bool true) ?_
  simp only [nrm]
  refine wpList_nil ?_
  replace hB:=hide hB
  go_upto_region 12 with fail
  replace hB:=unhide hB
  refine wp_region_lit ?_
  refine list_val (.agg (fl [[.int .i64 0],[.int .u32 0],[.int .u32 0],bw Z105])) (by kernel_rfl) (exec_sw _ 30 (.tmp 8) rfl (g8) (by kernel_rfl) (hB.get 2 (x:=⟨g8,fl [[.int .i64 0],[.int .u32 0],[.int .u32 0],bw Z105],30⟩) rfl) NE (nE (show List.length Z105=105 from rfl) _ _ _) Tryz.underlying30 rfl (by kernel_rfl)) ?_
  simp only [nrm]
  refine list_all 30 (.tmp 6) (.tmp 38) (w.heap.size+1) (S2:=[[.int .i64 0],[.int .u32 0],[.int .u32 0],bw Z105]) (by kernel_rfl) rfl (by kernel_rfl) (by kernel_rfl) hB 1 rfl NE (nE (show List.length Z105=105 from rfl) _ _ _) (nE (show List.length Z105=105 from rfl) _ _ _) (by kernel_rfl) (oE _ rfl rfl rfl) ?_
  intro u3 hB_ hbt_
  clear hB
  replace hB:Bl w [⟨w.heap.size,fl [bw Ky,[.bool f]],25⟩,⟨w.heap.size+1,fl [[.int .i64 0],[.int .u32 0],[.int .u32 0],bw Z105],30⟩,⟨g8,fl [[.int .i64 0],[.int .u32 0],[.int .u32 0],bw Z105],30⟩] u3:=hB_
  clear hB_
  clear hbt_
  simp only [nrm]
  (refine wpList_step fun K hK=>?_; replace hK:=hide hK; go_simp; refine unhide hK _ _ ?_; clear hK K)
  refine wpList_nil ?_
  replace hB:=hide hB
  go_wp2_with fail
  replace hB:=unhide hB
  rw [unhide hT]
  exact bodyPost_ret (v:=.tuple #[.agg (fl [[.int .i64 0],[.int .u32 0],[.int .u32 0],bw Z105]),.int .i64 290]) (res2 Tryz.results11 (rv_cell (by kernel_rfl) (hB.get 1 (x:=⟨w.heap.size+1,fl [[.int .i64 0],[.int .u32 0],[.int .u32 0],bw Z105],30⟩) rfl) Tryz.underlying30 rfl (by rw [fl_size (nE (show List.length Z105=105 from rfl) _ _ _)]; kernel_rfl)) (rv_tmp (by kernel_rfl))) rfl (⟨rfl,hB.gr⟩)
set_option maxHeartbeats 4000000 in
theorem yread_180 (Ky:List Int) (hKy:Ky.length=32) (hKb:IsB Ky) (f:Bool) (p o c:Nat) (r:Int) (hr:0≤r∧r<18446744073709551616) (L:List Int) (Y N D:List Int) (w:World) (hr0:r≠0) (lp:Lb w (some ⟨p,o,none⟩) 130 c L) (hF:Fst w) (hY:Y=rkL r Ky f false) (hN:N=cntL r) (hD:D=drL r Ky) (hz:L≠Z130) (hno:∀ M,IsB M→L≠sealL Y N D M):Calls Tryz.prog 11 #[.agg (fl [bw Ky,[.bool f]]),.int .u64 r,.slice (some ⟨p,o,none⟩) 130 c] w (Vl (.tuple #[.agg (fl [[.int .i64 0],[.int .u32 0],[.int .u32 0],bw Z105]),.int .i64 180]) w):=by
 obtain ⟨T,hT⟩:∃ T:Ending→World→Prop,T=(Vl (.tuple #[.agg (fl [[.int .i64 0],[.int .u32 0],[.int .u32 0],bw Z105]),.int .i64 180]) w):=⟨_,rfl⟩
 rw [← hT]
 replace hT:=hide hT
 have hYl:Y.length=32:=by rw [hY]; exact rkL_len _ _ _ _
 have hNl:N.length=12:=by rw [hN]; exact cntL_len _
 have hDl:D.length=16:=by rw [hD]; exact drL_len _ _
 have hYb:IsB Y:=by rw [hY]; exact rkL_isB _ _ _ _
 have hNb:IsB N:=by rw [hN]; exact cntL_isB _
 have hDb:IsB D:=by rw [hD]; exact drL_isB _ _
 have hLl:=lp.len
 obtain ⟨A0_,hA0_⟩:∃ S_,S_=fl [bw Ky,[.bool f]]:=⟨_,rfl⟩
 rw [← hA0_]
 replace hA0_:=hide hA0_
 replace hY:=hide hY
 replace hN:=hide hN
 replace hD:=hide hD
 replace hF:=hide hF
 replace hKb:=hide hKb
 replace hYb:=hide hYb
 replace hNb:=hide hNb
 replace hDb:=hide hDb
 replace lp:=hide lp
 replace hno:=hide hno
 go_enter Tryz.func11,Tryz.ntmps11
 go_upto_region 1 with fail
 have hB:=(((Bl.nil w).new A0_ 25).new (fl [[.int .i64 0],[.int .u32 0],[.int .u32 0],bw Z105]) 30)
 simp only [size_alloc,List.nil_append,List.cons_append] at hB
 rw [unhide hA0_] at hB
 generalize hu_:World.alloc _ _=u0
 replace hB:Bl w [⟨w.heap.size,fl [bw Ky,[.bool f]],25⟩,⟨w.heap.size+1,fl [[.int .i64 0],[.int .u32 0],[.int .u32 0],bw Z105],30⟩] u0:=by
  rw [← hu_]
  rw [unhide hA0_]
  exact hB
 clear hu_ hA0_
 refine wp_region_lit ?_
 refine list_val (.agg (fl [[.int .i64 0],[.int .u32 0],[.int .u32 0],bw Z105])) (by kernel_rfl) (bE _ rfl) ?_
 simp only [nrm]
 refine list_valw (.pointer (some ⟨u0.heap.size,0,none⟩)) (u0.alloc (.cells (fl [[.int .i64 0],[.int .u32 0],[.int .u32 0],bw Z105]) 30 (0,0))) (by kernel_rfl) (by kernel_rfl) ?_
 replace hB:=hB.new (fl [[.int .i64 0],[.int .u32 0],[.int .u32 0],bw Z105]) 30
 simp only [List.nil_append,List.cons_append] at hB
 generalize World.alloc _ _=u1 at *
 generalize u0.heap.size=g8 at *
 replace hB:Bl w [⟨w.heap.size,fl [bw Ky,[.bool f]],25⟩,⟨w.heap.size+1,fl [[.int .i64 0],[.int .u32 0],[.int .u32 0],bw Z105],30⟩,⟨g8,fl [[.int .i64 0],[.int .u32 0],[.int .u32 0],bw Z105],30⟩] u1:=hB
 simp only [nrm]
 refine list_all 30 (.tmp 8) (.tmp 15) (g8) (S2:=[[.int .i64 0],[.int .u32 0],[.int .u32 0],bw Z105]) (by kernel_rfl) rfl (by kernel_rfl) (by kernel_rfl) hB 2 rfl NE (nE (show List.length Z105=105 from rfl) _ _ _) (nE (show List.length Z105=105 from rfl) _ _ _) (by kernel_rfl) (oE _ rfl rfl rfl) ?_
 intro u2 hB_ hbt_
 clear hB
 replace hB:Bl w [⟨w.heap.size,fl [bw Ky,[.bool f]],25⟩,⟨w.heap.size+1,fl [[.int .i64 0],[.int .u32 0],[.int .u32 0],bw Z105],30⟩,⟨g8,fl [[.int .i64 0],[.int .u32 0],[.int .u32 0],bw Z105],30⟩] u2:=hB_
 clear hB_
 clear hbt_
 simp only [nrm]
 refine wpList_nil ?_
 replace hB:=hide hB
 go_upto_region 2 with fail
 replace hB:=unhide hB
 refine wp_region_lit ?_
 refine lvk (.int .u64 r) ?_
 simp only [nrm]
 refine list_val (.bool false) (by kernel_rfl) (eql_64 _ (.tmp 16) (.const (.int .u64 0)) r 0 false rfl (by kernel_rfl) (by kernel_rfl) (decide_eq_false hr0)) ?_
 simp only [nrm]
 refine wpList_nil ?_
 replace hB:=hide hB
 go_upto_region 4 with fail
 replace hB:=unhide hB
 refine wp_region_lit ?_
 refine lvk (.slice (some ⟨p,o,none⟩) 130 c) ?_
 simp only [nrm]
 refine lvk (.int .i64 130) ?_
 simp only [nrm]
 refine list_val (.bool false) (by kernel_rfl) (neq_i _ (.tmp 20) (.const (.int .i64 130)) 130 130 false rfl (by kernel_rfl) (by kernel_rfl) (by decide)) ?_
 simp only [nrm]
 refine wpList_nil ?_
 replace hB:=hide hB
 go_upto_region 6 with fail
 replace hB:=unhide hB
 refine wp_region_lit ?_
 (refine wpList_step fun K hK=>?_; replace hK:=hide hK; go_simp; refine unhide hK _ _ ?_; clear hK K)
 refine wpList_nil ?_
 replace hB:=hide hB
 go_upto_region 7 with fail
 replace hB:=unhide hB
 refine wp_region_lit ?_
 (refine wpList_step fun K hK=>?_; replace hK:=hide hK; go_simp; refine unhide hK _ _ ?_; clear hK K)
 refine wpList_nil ?_
 replace hB:=hide hB
 go_wp2_with fail
 go_loopw [9,10] (fun z i wr=>∃ (j:Nat) (q:Bool),j≤130∧z=.bool q∧i=.int .i64 (j:Int)∧Hid (q=allZ (L.take j))∧Hid (Bl w [⟨w.heap.size,fl [bw Ky,[.bool f]],25⟩,⟨w.heap.size+1,fl [[.int .i64 0],[.int .u32 0],[.int .u32 0],bw Z105],30⟩,⟨g8,fl [[.int .i64 0],[.int .u32 0],[.int .u32 0],bw Z105],30⟩] wr)) (fun _ i _=>130 - (intOf i).toNat)
 case atStart=>exact ⟨0,true,by omega,rfl,rfl,rfl,hB⟩
 case round =>
 clear hB
 obtain ⟨j,q,hj,rfl,rfl,hq,hB⟩:=hrel
 have hB:=unhide hB
 by_cases hlt:j<130
 ·have jI:(j:Int)<130:=by omega
  have hst:=allZ_step L j (by omega)
  have jw:IntKind.i64.wrap ((j:Int)+1)=(j:Int)+1:=by rw [IntKind.wrap_i64]; omega
  obtain ⟨x,hx⟩:∃ x,x=L.getD j 0:=⟨_,rfl⟩
  obtain ⟨e,hE⟩:∃ e,decide (x=0)=e:=⟨_,rfl⟩
  rw [← hx,hE,← unhide hq] at hst
  replace hst:=hide hst
  replace hx:=hide hx
  cases q
  ·skip
   replace hB:=hide hB
   go_upto_region 10 with fail
   replace hB:=unhide hB
   refine wp_region_lit ?_
   refine wpList_gen fun ops_ hops=>?_
   replace hops:=hide hops
   refine list_val (.bool false) (by rw [unhide hops]; kernel_rfl) (by kernel_rfl) ?_
   simp only [nrm]
   refine list_val (.bool false) (by rw [unhide hops]; kernel_rfl) (by kernel_rfl) ?_
   simp only [nrm]
   refine list_off (by rw [unhide hops]; kernel_rfl) ?_
   simp only [nrm]
   refine list_off (by rw [unhide hops]; kernel_rfl) ?_
   simp only [nrm]
   refine list_off (by rw [unhide hops]; kernel_rfl) ?_
   simp only [nrm]
   refine list_off (by rw [unhide hops]; kernel_rfl) ?_
   simp only [nrm]
   refine list_off (by rw [unhide hops]; kernel_rfl) ?_
   simp only [nrm]
   refine list_val (.bool false) (by rw [unhide hops]; kernel_rfl) (by kernel_rfl) ?_
   simp only [nrm]
   (refine wpList_step fun K hK=>?_; replace hK:=hide hK; go_simp; refine unhide hK _ _ ?_; clear hK K)
   refine wpList_nil ?_
   replace hB:=hide hB
   clear hx hE
   go_wp2_with fail
   go_roundw
   case rel=>exact ⟨j+1,false,by omega,rfl,by simp,by rw [unhide hst]; first | rfl | simp,hB⟩
   case measure=>simp [intOf]; omega
  ·skip
   replace hB:=hide hB
   go_upto_region 10 with fail
   replace hB:=unhide hB
   refine wp_region_lit ?_
   refine wpList_gen fun ops_ hops=>?_
   replace hops:=hide hops
   refine list_val (.bool true) (by rw [unhide hops]; kernel_rfl) (by kernel_rfl) ?_
   simp only [nrm]
   refine list_val (.bool true) (by rw [unhide hops]; kernel_rfl) (by kernel_rfl) ?_
   simp only [nrm]
   refine list_val (.slice (some ⟨p,o,none⟩) 130 c) (by rw [unhide hops]; kernel_rfl) (by kernel_rfl) ?_
   simp only [nrm]
   refine list_val (.int .i64 (j:Int)) (by rw [unhide hops]; kernel_rfl) (by kernel_rfl) ?_
   simp only [nrm]
   refine list_val (.pointer (some ⟨p,o+j,none⟩)) (by rw [unhide hops]; kernel_rfl) (exec_at _ (.tmp 31) (.tmp 32) rfl p o 130 c j (by kernel_rfl) (by kernel_rfl) hlt) ?_
   simp only [nrm]
   refine list_val (.int .u8 x) (by rw [unhide hops]; kernel_rfl) (exec_u8 _ (.tmp 33) rfl p (o+j) (by kernel_rfl) x (by rw [unhide hx]; exact lb_cell ((unhide lp).gr hB.gr) j hlt)) ?_
   simp only [nrm]
   refine list_val (.bool e) (by rw [unhide hops]; kernel_rfl) (eql_8x _ (.tmp 34) (.const (.int .u8 0)) x 0 e rfl (by kernel_rfl) (by kernel_rfl) hE) ?_
   simp only [nrm]
   refine list_val (.bool e) (by rw [unhide hops]; kernel_rfl) (by kernel_rfl) ?_
   simp only [nrm]
   (refine wpList_step fun K hK=>?_; replace hK:=hide hK; go_simp; refine unhide hK _ _ ?_; clear hK K)
   refine wpList_nil ?_
   replace hB:=hide hB
   clear hx hE
   go_wp2_with fail
   go_roundw
   case rel=>exact ⟨j+1,e,by omega,rfl,by simp,by rw [unhide hst]; first | rfl | simp,hB⟩
   case measure=>simp [intOf]; omega
 ·have jI:¬ (j:Int)<130:=by omega
  obtain rfl:j=130:=by omega
  have hq2:q=false:=by
   rw [unhide hq,List.take_of_length_le (by omega)]
   unfold allZ; rw [hLl]; exact decide_eq_false hz
  subst hq2
  clear hq hlt
  replace hB:=hide hB
  go_upto_region 11 with fail
  replace hB:=unhide hB
  refine wp_region_lit ?_
  refine lvk (.bool false) ?_
  simp only [nrm]
  refine wpList_nil ?_
  replace hB:=hide hB
  go_upto_region 13 with fail
  replace hB:=unhide hB
  refine wp_region_lit ?_
  refine list_val (.agg (fl [bw Ky,[.bool f]])) (by kernel_rfl) (exec_sw _ 25 (.tmp 3) rfl (w.heap.size) (by kernel_rfl) (hB.get 0 (x:=⟨w.heap.size,fl [bw Ky,[.bool f]],25⟩) rfl) NP (nP hKy _) Tryz.underlying25 rfl (by kernel_rfl)) ?_
  simp only [nrm]
  refine lvk (.int .u64 r) ?_
  simp only [nrm]
  refine list_call 24 #[.agg (fl [bw Ky,[.bool f]]),.int .u64 r] (by kernel_rfl) (by kernel_rfl) (((show Calls Tryz.prog 24 #[.agg (fl [bw Ky,[.bool f]]),.int .u64 r] wr (Vl (.agg (kc D)) wr) from by rw [unhide hD]; exact ydropf_ok r hr Ky hKy (unhide hKb) f wr ((unhide hF).gr hB.gr))).mono ?_)
  rintro r_ u3 ⟨rfl,hg⟩
  replace hB:=hB.more hg
  clear hg
  refine ⟨_,rfl,?_⟩
  simp only [nrm]
  refine list_valw (.pointer (some ⟨u3.heap.size,0,none⟩)) (u3.alloc (.cells (kc Z16) 33 (0,0))) (by kernel_rfl) (by kernel_rfl) ?_
  replace hB:=hB.new (kc Z16) 33
  simp only [List.nil_append,List.cons_append] at hB
  generalize World.alloc _ _=u4 at *
  generalize u3.heap.size=g11 at *
  replace hB:Bl w [⟨w.heap.size,fl [bw Ky,[.bool f]],25⟩,⟨w.heap.size+1,fl [[.int .i64 0],[.int .u32 0],[.int .u32 0],bw Z105],30⟩,⟨g8,fl [[.int .i64 0],[.int .u32 0],[.int .u32 0],bw Z105],30⟩,⟨g11,kc Z16,33⟩] u4:=hB
  simp only [nrm]
  refine list_store 33 (.tmp 11) (.tmp 41) (g11) (kc D) 33 (kc Z16) (by kernel_rfl) rfl (by kernel_rfl) (by kernel_rfl) (hB.get 3 (x:=⟨g11,kc Z16,33⟩) rfl) (by rw [Tryz.infoDrop,kc_size,hDl]) (by rw [kc_size,kc_size,(show List.length Z16=16 from rfl),hDl]) (kc_one _) ?_
  replace hB:=hB.set 3 (x:=⟨g11,kc Z16,33⟩) rfl (kc D)
  simp only [List.set_cons_zero,List.set_cons_succ] at hB
  generalize World.setRow _ _ _=u5 at *
  replace hB:Bl w [⟨w.heap.size,fl [bw Ky,[.bool f]],25⟩,⟨w.heap.size+1,fl [[.int .i64 0],[.int .u32 0],[.int .u32 0],bw Z105],30⟩,⟨g8,fl [[.int .i64 0],[.int .u32 0],[.int .u32 0],bw Z105],30⟩,⟨g11,kc D,33⟩] u5:=hB
  simp only [nrm]
  refine wpList_nil ?_
  replace hB:=hide hB
  go_upto_region 14 with fail
  replace hB:=unhide hB
  refine any_start (S:=fun v_=>v_.heap[w.heap.size]?=some (.cells (fl [bw Ky,[.bool f]]) 25 (0,0))) (by kernel_rfl) ?_
  replace hB:=hB.drew
  generalize World.drew _=u6 at *
  simp only [List.size_toArray,List.length_cons,List.length_nil,Array.replicate,List.replicate]
  have hS_:=hide (show (fun v_=>v_.heap[w.heap.size]?=some (.cells (fl [bw Ky,[.bool f]]) 25 (0,0))) u6 from (hB.get 0 (x:=⟨w.heap.size,fl [bw Ky,[.bool f]],25⟩) rfl))
  refine any_tk 0 (.agg (fl [bw Ky,[.bool f]])) (tf 16 0) rfl (fun x_ hu=>exec_sw _ 25 (.tmp 3) rfl (w.heap.size) (by kernel_rfl) hu NP (nP hKy _) Tryz.underlying25 rfl (by kernel_rfl)) (unhide hS_) ?_
  simp only [nrm]
  refine any_tk 1 (.int .u64 r) (tf 16 1) rfl (fun x_ hu=>by kernel_rfl) (unhide hS_) ?_
  simp only [nrm]
  refine any_tk 2 (.pointer (some ⟨w.heap.size,32,none⟩)) (tf 16 2) rfl (fun x_ hu=>by kernel_rfl) (unhide hS_) ?_
  simp only [nrm]
  refine any_tk 3 (.bool f) (tf 16 3) rfl (fun x_ hu=>exec_cb _ (.tmp 45) rfl (w.heap.size) 32 (by kernel_rfl) f (seg_cell (nP hKy _) hu 1 (v:=.bool f) rfl rfl)) (unhide hS_) ?_
  simp only [nrm]
  refine any_tk 4 (.bool (!f)) (tf 16 4) rfl (fun x_ hu=>by kernel_rfl) (unhide hS_) ?_
  simp only [nrm]
  refine any_tk 6 (.int .u64 r) (tf 16 5) rfl (fun x_ hu=>by kernel_rfl) (unhide hS_) ?_
  simp only [nrm]
  refine any_tk 8 (.slice (some ⟨g11,0,none⟩) 16 16) #[true,true,true,true,true,false,true,false,false,false,false,false,false,false,false,false] rfl (fun x_ hu=>by kernel_rfl) (unhide hS_) ?_
  simp only [nrm]
  refine any_tk 9 (.slice (some ⟨p,o,none⟩) 130 c) #[true,true,true,true,true,false,true,false,true,false,false,false,false,false,false,false] rfl (fun x_ hu=>by kernel_rfl) (unhide hS_) ?_
  simp only [nrm]
  refine any_one (i:=5) (by kernel_rfl) rfl (fun K hK=>?_)
  refine step_callw (by kernel_rfl) 26 #[.agg (fl [bw Ky,[.bool f]]),.int .u64 r,.bool (!f)] (by kernel_rfl) (((show Calls Tryz.prog 26 #[.agg (fl [bw Ky,[.bool f]]),.int .u64 r,.bool (!f)] u6 (Vl (.agg (kc Y)) u6) from by rw [unhide hY,← key_f]; exact ykeyf_ok (!f) r hr Ky hKy (unhide hKb) f u6 ((unhide hF).gr hB.gr))).mono ?_)
  rintro r_ u7 ⟨rfl,hg⟩
  replace hB:=hB.more hg
  clear hg
  refine ⟨_,rfl,?_⟩
  clear hS_
  have hS_:=hide (show (fun v_=>v_.heap[w.heap.size]?=some (.cells (fl [bw Ky,[.bool f]]) 25 (0,0))) u7 from (hB.get 0 (x:=⟨w.heap.size,fl [bw Ky,[.bool f]],25⟩) rfl))
  refine hK.out _ _ (unhide hS_) (fun _=>?_)
  clear hK K
  simp only [nrm]
  refine any_one (i:=7) (by kernel_rfl) rfl (fun K hK=>?_)
  refine step_callw (by kernel_rfl) 27 #[.int .u64 r] (by kernel_rfl) (((show Calls Tryz.prog 27 #[.int .u64 r] u7 (Vl (.agg (kc N)) u7) from by rw [unhide hN]; exact ynonce_ok r hr u7)).mono ?_)
  rintro r_ u8 ⟨rfl,hg⟩
  replace hB:=hB.more hg
  clear hg
  refine ⟨_,rfl,?_⟩
  clear hS_
  have hS_:=hide (show (fun v_=>v_.heap[w.heap.size]?=some (.cells (fl [bw Ky,[.bool f]]) 25 (0,0))) u8 from (hB.get 0 (x:=⟨w.heap.size,fl [bw Ky,[.bool f]],25⟩) rfl))
  refine hK.out _ _ (unhide hS_) (fun _=>?_)
  clear hK K
  simp only [nrm]
  refine any_one (i:=10) (by kernel_rfl) rfl (fun K hK=>?_)
  refine step_callw (by kernel_rfl) 32 #[.agg (kc Y),.agg (kc N),.slice (some ⟨g11,0,none⟩) 16 16,.slice (some ⟨p,o,none⟩) 130 c] (by kernel_rfl) ((ropen_no Y N hYl hNl (unhide hYb) (unhide hNb) D L (some ⟨g11,0,none⟩) (some ⟨p,o,none⟩) 16 130 16 c (by decide) (by decide) u8 (kc_lb (hB.get 3 (x:=⟨g11,kc D,33⟩) rfl) hDl (unhide hDb) (by decide)) ((unhide lp).gr hB.gr) (unhide hno)).mono ?_)
  rintro r_ u9 ⟨rfl,hg⟩
  replace hB:=hB.more hg
  clear hg
  refine ⟨_,rfl,?_⟩
  clear hS_
  have hS_:=hide (show (fun v_=>v_.heap[w.heap.size]?=some (.cells (fl [bw Ky,[.bool f]]) 25 (0,0))) u9 from (hB.get 0 (x:=⟨w.heap.size,fl [bw Ky,[.bool f]],25⟩) rfl))
  refine hK.out _ _ (unhide hS_) (fun _=>?_)
  clear hK K
  simp only [nrm]
  refine any_tk 11 (.tuple #[.slice none 0 0,.bool false]) (tf 16 11) rfl (fun x_ hu=>by kernel_rfl) (unhide hS_) ?_
  simp only [nrm]
  refine any_tk 12 (.slice none 0 0) (tf 16 12) rfl (fun x_ hu=>by kernel_rfl) (unhide hS_) ?_
  simp only [nrm]
  refine any_tk 13 (.bool false) (tf 16 13) rfl (fun x_ hu=>by kernel_rfl) (unhide hS_) ?_
  simp only [nrm]
  refine any_one (i:=14) (by kernel_rfl) rfl (fun K hK=>?_)
  replace hK:=hide hK
  go_simp
  refine (unhide hK).out _ _ (unhide hS_) (fun _=>?_)
  clear hK K
  simp only [nrm]
  refine any_one (i:=15) (by kernel_rfl) rfl (fun K hK=>?_)
  replace hK:=hide hK
  go_simp
  refine (unhide hK).out _ _ (unhide hS_) (fun _=>?_)
  clear hK K
  simp only [nrm]
  refine any_done (by kernel_rfl) ?_
  clear hS_
  replace hB:=hide hB
  go_upto_region 15 with fail
  replace hB:=unhide hB
  refine wp_region_lit ?_
  refine lvk (.bool false) ?_
  simp only [nrm]
  refine lvk (.bool true) ?_
  simp only [nrm]
  refine wpList_nil ?_
  replace hB:=hide hB
  go_upto_region 16 with fail
  replace hB:=unhide hB
  refine wp_region_lit ?_
  refine list_val (.agg (fl [[.int .i64 0],[.int .u32 0],[.int .u32 0],bw Z105])) (by kernel_rfl) (exec_sw _ 30 (.tmp 8) rfl (g8) (by kernel_rfl) (hB.get 2 (x:=⟨g8,fl [[.int .i64 0],[.int .u32 0],[.int .u32 0],bw Z105],30⟩) rfl) NE (nE (show List.length Z105=105 from rfl) _ _ _) Tryz.underlying30 rfl (by kernel_rfl)) ?_
  simp only [nrm]
  refine list_all 30 (.tmp 6) (.tmp 58) (w.heap.size+1) (S2:=[[.int .i64 0],[.int .u32 0],[.int .u32 0],bw Z105]) (by kernel_rfl) rfl (by kernel_rfl) (by kernel_rfl) hB 1 rfl NE (nE (show List.length Z105=105 from rfl) _ _ _) (nE (show List.length Z105=105 from rfl) _ _ _) (by kernel_rfl) (oE _ rfl rfl rfl) ?_
  intro u10 hB_ hbt_
  clear hB
  replace hB:Bl w [⟨w.heap.size,fl [bw Ky,[.bool f]],25⟩,⟨w.heap.size+1,fl [[.int .i64 0],[.int .u32 0],[.int .u32 0],bw Z105],30⟩,⟨g8,fl [[.int .i64 0],[.int .u32 0],[.int .u32 0],bw Z105],30⟩,⟨g11,kc D,33⟩] u10:=hB_
  clear hB_
  clear hbt_
  simp only [nrm]
  (refine wpList_step fun K hK=>?_; replace hK:=hide hK; go_simp; refine unhide hK _ _ ?_; clear hK K)
  refine wpList_nil ?_
  replace hB:=hide hB
  go_wp2_with fail
  replace hB:=unhide hB
  rw [unhide hT]
  exact bodyPost_ret (v:=.tuple #[.agg (fl [[.int .i64 0],[.int .u32 0],[.int .u32 0],bw Z105]),.int .i64 180]) (res2 Tryz.results11 (rv_cell (by kernel_rfl) (hB.get 1 (x:=⟨w.heap.size+1,fl [[.int .i64 0],[.int .u32 0],[.int .u32 0],bw Z105],30⟩) rfl) Tryz.underlying30 rfl (by rw [fl_size (nE (show List.length Z105=105 from rfl) _ _ _)]; kernel_rfl)) (rv_tmp (by kernel_rfl))) rfl (⟨rfl,hB.gr⟩)
set_option maxHeartbeats 4000000 in
theorem yread_241 (Ky:List Int) (hKy:Ky.length=32) (hKb:IsB Ky) (f:Bool) (p o c:Nat) (r:Int) (hr:0≤r∧r<18446744073709551616) (L:List Int) (Y N D:List Int) (P:List Int) (ek ea es:Int) (eB:List Int) (w:World) (hr0:r≠0) (lp:Lb w (some ⟨p,o,none⟩) 130 c L) (hF:Fst w) (hY:Y=rkL r Ky f false) (hN:N=cntL r) (hD:D=drL r Ky) (hz:L≠Z130) (hPl:P.length=114) (hPb:IsB P) (hL:L=sealL Y N D P) (hek:P.getD 0 0=ek) (hea:lowN ((P.drop 1).take 4)=ea) (hes:lowN ((P.drop 5).take 4)=es) (heB:(P.drop 9).take 105=eB) (he:evR ek es eB=false):Calls Tryz.prog 11 #[.agg (fl [bw Ky,[.bool f]]),.int .u64 r,.slice (some ⟨p,o,none⟩) 130 c] w (Vl (.tuple #[.agg (fl [[.int .i64 0],[.int .u32 0],[.int .u32 0],bw Z105]),.int .i64 241]) w):=by
 obtain ⟨T,hT⟩:∃ T:Ending→World→Prop,T=(Vl (.tuple #[.agg (fl [[.int .i64 0],[.int .u32 0],[.int .u32 0],bw Z105]),.int .i64 241]) w):=⟨_,rfl⟩
 rw [← hT]
 replace hT:=hide hT
 have hYl:Y.length=32:=by rw [hY]; exact rkL_len _ _ _ _
 have hNl:N.length=12:=by rw [hN]; exact cntL_len _
 have hDl:D.length=16:=by rw [hD]; exact drL_len _ _
 have hYb:IsB Y:=by rw [hY]; exact rkL_isB _ _ _ _
 have hNb:IsB N:=by rw [hN]; exact cntL_isB _
 have hDb:IsB D:=by rw [hD]; exact drL_isB _ _
 have hLl:=lp.len
 have heBl:eB.length=105:=by rw [← heB]; exact sub_len hPl (by decide)
 obtain ⟨A0_,hA0_⟩:∃ S_,S_=fl [bw Ky,[.bool f]]:=⟨_,rfl⟩
 rw [← hA0_]
 replace hA0_:=hide hA0_
 replace hY:=hide hY
 replace hN:=hide hN
 replace hD:=hide hD
 replace hF:=hide hF
 replace hKb:=hide hKb
 replace hYb:=hide hYb
 replace hNb:=hide hNb
 replace hDb:=hide hDb
 replace lp:=hide lp
 replace hPb:=hide hPb
 replace hL:=hide hL
 replace hek:=hide hek
 replace hea:=hide hea
 replace hes:=hide hes
 replace heB:=hide heB
 replace he:=hide he
 go_enter Tryz.func11,Tryz.ntmps11
 go_upto_region 1 with fail
 have hB:=(((Bl.nil w).new A0_ 25).new (fl [[.int .i64 0],[.int .u32 0],[.int .u32 0],bw Z105]) 30)
 simp only [size_alloc,List.nil_append,List.cons_append] at hB
 rw [unhide hA0_] at hB
 generalize hu_:World.alloc _ _=u0
 replace hB:Bl w [⟨w.heap.size,fl [bw Ky,[.bool f]],25⟩,⟨w.heap.size+1,fl [[.int .i64 0],[.int .u32 0],[.int .u32 0],bw Z105],30⟩] u0:=by
  rw [← hu_]
  rw [unhide hA0_]
  exact hB
 clear hu_ hA0_
 refine wp_region_lit ?_
 refine list_val (.agg (fl [[.int .i64 0],[.int .u32 0],[.int .u32 0],bw Z105])) (by kernel_rfl) (bE _ rfl) ?_
 simp only [nrm]
 refine list_valw (.pointer (some ⟨u0.heap.size,0,none⟩)) (u0.alloc (.cells (fl [[.int .i64 0],[.int .u32 0],[.int .u32 0],bw Z105]) 30 (0,0))) (by kernel_rfl) (by kernel_rfl) ?_
 replace hB:=hB.new (fl [[.int .i64 0],[.int .u32 0],[.int .u32 0],bw Z105]) 30
 simp only [List.nil_append,List.cons_append] at hB
 generalize World.alloc _ _=u1 at *
 generalize u0.heap.size=g8 at *
 replace hB:Bl w [⟨w.heap.size,fl [bw Ky,[.bool f]],25⟩,⟨w.heap.size+1,fl [[.int .i64 0],[.int .u32 0],[.int .u32 0],bw Z105],30⟩,⟨g8,fl [[.int .i64 0],[.int .u32 0],[.int .u32 0],bw Z105],30⟩] u1:=hB
 simp only [nrm]
 refine list_all 30 (.tmp 8) (.tmp 15) (g8) (S2:=[[.int .i64 0],[.int .u32 0],[.int .u32 0],bw Z105]) (by kernel_rfl) rfl (by kernel_rfl) (by kernel_rfl) hB 2 rfl NE (nE (show List.length Z105=105 from rfl) _ _ _) (nE (show List.length Z105=105 from rfl) _ _ _) (by kernel_rfl) (oE _ rfl rfl rfl) ?_
 intro u2 hB_ hbt_
 clear hB
 replace hB:Bl w [⟨w.heap.size,fl [bw Ky,[.bool f]],25⟩,⟨w.heap.size+1,fl [[.int .i64 0],[.int .u32 0],[.int .u32 0],bw Z105],30⟩,⟨g8,fl [[.int .i64 0],[.int .u32 0],[.int .u32 0],bw Z105],30⟩] u2:=hB_
 clear hB_
 clear hbt_
 simp only [nrm]
 refine wpList_nil ?_
 replace hB:=hide hB
 go_upto_region 2 with fail
 replace hB:=unhide hB
 refine wp_region_lit ?_
 refine lvk (.int .u64 r) ?_
 simp only [nrm]
 refine list_val (.bool false) (by kernel_rfl) (eql_64 _ (.tmp 16) (.const (.int .u64 0)) r 0 false rfl (by kernel_rfl) (by kernel_rfl) (decide_eq_false hr0)) ?_
 simp only [nrm]
 refine wpList_nil ?_
 replace hB:=hide hB
 go_upto_region 4 with fail
 replace hB:=unhide hB
 refine wp_region_lit ?_
 refine lvk (.slice (some ⟨p,o,none⟩) 130 c) ?_
 simp only [nrm]
 refine lvk (.int .i64 130) ?_
 simp only [nrm]
 refine list_val (.bool false) (by kernel_rfl) (neq_i _ (.tmp 20) (.const (.int .i64 130)) 130 130 false rfl (by kernel_rfl) (by kernel_rfl) (by decide)) ?_
 simp only [nrm]
 refine wpList_nil ?_
 replace hB:=hide hB
 go_upto_region 6 with fail
 replace hB:=unhide hB
 refine wp_region_lit ?_
 (refine wpList_step fun K hK=>?_; replace hK:=hide hK; go_simp; refine unhide hK _ _ ?_; clear hK K)
 refine wpList_nil ?_
 replace hB:=hide hB
 go_upto_region 7 with fail
 replace hB:=unhide hB
 refine wp_region_lit ?_
 (refine wpList_step fun K hK=>?_; replace hK:=hide hK; go_simp; refine unhide hK _ _ ?_; clear hK K)
 refine wpList_nil ?_
 replace hB:=hide hB
 go_wp2_with fail
 go_loopw [9,10] (fun z i wr=>∃ (j:Nat) (q:Bool),j≤130∧z=.bool q∧i=.int .i64 (j:Int)∧Hid (q=allZ (L.take j))∧Hid (Bl w [⟨w.heap.size,fl [bw Ky,[.bool f]],25⟩,⟨w.heap.size+1,fl [[.int .i64 0],[.int .u32 0],[.int .u32 0],bw Z105],30⟩,⟨g8,fl [[.int .i64 0],[.int .u32 0],[.int .u32 0],bw Z105],30⟩] wr)) (fun _ i _=>130 - (intOf i).toNat)
 case atStart=>exact ⟨0,true,by omega,rfl,rfl,rfl,hB⟩
 case round =>
 clear hB
 obtain ⟨j,q,hj,rfl,rfl,hq,hB⟩:=hrel
 have hB:=unhide hB
 by_cases hlt:j<130
 ·have jI:(j:Int)<130:=by omega
  have hst:=allZ_step L j (by omega)
  have jw:IntKind.i64.wrap ((j:Int)+1)=(j:Int)+1:=by rw [IntKind.wrap_i64]; omega
  obtain ⟨x,hx⟩:∃ x,x=L.getD j 0:=⟨_,rfl⟩
  obtain ⟨e,hE⟩:∃ e,decide (x=0)=e:=⟨_,rfl⟩
  rw [← hx,hE,← unhide hq] at hst
  replace hst:=hide hst
  replace hx:=hide hx
  cases q
  ·skip
   replace hB:=hide hB
   go_upto_region 10 with fail
   replace hB:=unhide hB
   refine wp_region_lit ?_
   refine wpList_gen fun ops_ hops=>?_
   replace hops:=hide hops
   refine list_val (.bool false) (by rw [unhide hops]; kernel_rfl) (by kernel_rfl) ?_
   simp only [nrm]
   refine list_val (.bool false) (by rw [unhide hops]; kernel_rfl) (by kernel_rfl) ?_
   simp only [nrm]
   refine list_off (by rw [unhide hops]; kernel_rfl) ?_
   simp only [nrm]
   refine list_off (by rw [unhide hops]; kernel_rfl) ?_
   simp only [nrm]
   refine list_off (by rw [unhide hops]; kernel_rfl) ?_
   simp only [nrm]
   refine list_off (by rw [unhide hops]; kernel_rfl) ?_
   simp only [nrm]
   refine list_off (by rw [unhide hops]; kernel_rfl) ?_
   simp only [nrm]
   refine list_val (.bool false) (by rw [unhide hops]; kernel_rfl) (by kernel_rfl) ?_
   simp only [nrm]
   (refine wpList_step fun K hK=>?_; replace hK:=hide hK; go_simp; refine unhide hK _ _ ?_; clear hK K)
   refine wpList_nil ?_
   replace hB:=hide hB
   clear hx hE
   go_wp2_with fail
   go_roundw
   case rel=>exact ⟨j+1,false,by omega,rfl,by simp,by rw [unhide hst]; first | rfl | simp,hB⟩
   case measure=>simp [intOf]; omega
  ·skip
   replace hB:=hide hB
   go_upto_region 10 with fail
   replace hB:=unhide hB
   refine wp_region_lit ?_
   refine wpList_gen fun ops_ hops=>?_
   replace hops:=hide hops
   refine list_val (.bool true) (by rw [unhide hops]; kernel_rfl) (by kernel_rfl) ?_
   simp only [nrm]
   refine list_val (.bool true) (by rw [unhide hops]; kernel_rfl) (by kernel_rfl) ?_
   simp only [nrm]
   refine list_val (.slice (some ⟨p,o,none⟩) 130 c) (by rw [unhide hops]; kernel_rfl) (by kernel_rfl) ?_
   simp only [nrm]
   refine list_val (.int .i64 (j:Int)) (by rw [unhide hops]; kernel_rfl) (by kernel_rfl) ?_
   simp only [nrm]
   refine list_val (.pointer (some ⟨p,o+j,none⟩)) (by rw [unhide hops]; kernel_rfl) (exec_at _ (.tmp 31) (.tmp 32) rfl p o 130 c j (by kernel_rfl) (by kernel_rfl) hlt) ?_
   simp only [nrm]
   refine list_val (.int .u8 x) (by rw [unhide hops]; kernel_rfl) (exec_u8 _ (.tmp 33) rfl p (o+j) (by kernel_rfl) x (by rw [unhide hx]; exact lb_cell ((unhide lp).gr hB.gr) j hlt)) ?_
   simp only [nrm]
   refine list_val (.bool e) (by rw [unhide hops]; kernel_rfl) (eql_8x _ (.tmp 34) (.const (.int .u8 0)) x 0 e rfl (by kernel_rfl) (by kernel_rfl) hE) ?_
   simp only [nrm]
   refine list_val (.bool e) (by rw [unhide hops]; kernel_rfl) (by kernel_rfl) ?_
   simp only [nrm]
   (refine wpList_step fun K hK=>?_; replace hK:=hide hK; go_simp; refine unhide hK _ _ ?_; clear hK K)
   refine wpList_nil ?_
   replace hB:=hide hB
   clear hx hE
   go_wp2_with fail
   go_roundw
   case rel=>exact ⟨j+1,e,by omega,rfl,by simp,by rw [unhide hst]; first | rfl | simp,hB⟩
   case measure=>simp [intOf]; omega
 ·have jI:¬ (j:Int)<130:=by omega
  obtain rfl:j=130:=by omega
  have hq2:q=false:=by
   rw [unhide hq,List.take_of_length_le (by omega)]
   unfold allZ; rw [hLl]; exact decide_eq_false hz
  subst hq2
  clear hq hlt
  replace hB:=hide hB
  go_upto_region 11 with fail
  replace hB:=unhide hB
  refine wp_region_lit ?_
  refine lvk (.bool false) ?_
  simp only [nrm]
  refine wpList_nil ?_
  replace hB:=hide hB
  go_upto_region 13 with fail
  replace hB:=unhide hB
  refine wp_region_lit ?_
  refine list_val (.agg (fl [bw Ky,[.bool f]])) (by kernel_rfl) (exec_sw _ 25 (.tmp 3) rfl (w.heap.size) (by kernel_rfl) (hB.get 0 (x:=⟨w.heap.size,fl [bw Ky,[.bool f]],25⟩) rfl) NP (nP hKy _) Tryz.underlying25 rfl (by kernel_rfl)) ?_
  simp only [nrm]
  refine lvk (.int .u64 r) ?_
  simp only [nrm]
  refine list_call 24 #[.agg (fl [bw Ky,[.bool f]]),.int .u64 r] (by kernel_rfl) (by kernel_rfl) (((show Calls Tryz.prog 24 #[.agg (fl [bw Ky,[.bool f]]),.int .u64 r] wr (Vl (.agg (kc D)) wr) from by rw [unhide hD]; exact ydropf_ok r hr Ky hKy (unhide hKb) f wr ((unhide hF).gr hB.gr))).mono ?_)
  rintro r_ u3 ⟨rfl,hg⟩
  replace hB:=hB.more hg
  clear hg
  refine ⟨_,rfl,?_⟩
  simp only [nrm]
  refine list_valw (.pointer (some ⟨u3.heap.size,0,none⟩)) (u3.alloc (.cells (kc Z16) 33 (0,0))) (by kernel_rfl) (by kernel_rfl) ?_
  replace hB:=hB.new (kc Z16) 33
  simp only [List.nil_append,List.cons_append] at hB
  generalize World.alloc _ _=u4 at *
  generalize u3.heap.size=g11 at *
  replace hB:Bl w [⟨w.heap.size,fl [bw Ky,[.bool f]],25⟩,⟨w.heap.size+1,fl [[.int .i64 0],[.int .u32 0],[.int .u32 0],bw Z105],30⟩,⟨g8,fl [[.int .i64 0],[.int .u32 0],[.int .u32 0],bw Z105],30⟩,⟨g11,kc Z16,33⟩] u4:=hB
  simp only [nrm]
  refine list_store 33 (.tmp 11) (.tmp 41) (g11) (kc D) 33 (kc Z16) (by kernel_rfl) rfl (by kernel_rfl) (by kernel_rfl) (hB.get 3 (x:=⟨g11,kc Z16,33⟩) rfl) (by rw [Tryz.infoDrop,kc_size,hDl]) (by rw [kc_size,kc_size,(show List.length Z16=16 from rfl),hDl]) (kc_one _) ?_
  replace hB:=hB.set 3 (x:=⟨g11,kc Z16,33⟩) rfl (kc D)
  simp only [List.set_cons_zero,List.set_cons_succ] at hB
  generalize World.setRow _ _ _=u5 at *
  replace hB:Bl w [⟨w.heap.size,fl [bw Ky,[.bool f]],25⟩,⟨w.heap.size+1,fl [[.int .i64 0],[.int .u32 0],[.int .u32 0],bw Z105],30⟩,⟨g8,fl [[.int .i64 0],[.int .u32 0],[.int .u32 0],bw Z105],30⟩,⟨g11,kc D,33⟩] u5:=hB
  simp only [nrm]
  refine wpList_nil ?_
  replace hB:=hide hB
  go_upto_region 14 with fail
  replace hB:=unhide hB
  refine any_start (S:=fun v_=>v_.heap[w.heap.size]?=some (.cells (fl [bw Ky,[.bool f]]) 25 (0,0))) (by kernel_rfl) ?_
  replace hB:=hB.drew
  generalize World.drew _=u6 at *
  simp only [List.size_toArray,List.length_cons,List.length_nil,Array.replicate,List.replicate]
  have hS_:=hide (show (fun v_=>v_.heap[w.heap.size]?=some (.cells (fl [bw Ky,[.bool f]]) 25 (0,0))) u6 from (hB.get 0 (x:=⟨w.heap.size,fl [bw Ky,[.bool f]],25⟩) rfl))
  refine any_tk 0 (.agg (fl [bw Ky,[.bool f]])) (tf 16 0) rfl (fun x_ hu=>exec_sw _ 25 (.tmp 3) rfl (w.heap.size) (by kernel_rfl) hu NP (nP hKy _) Tryz.underlying25 rfl (by kernel_rfl)) (unhide hS_) ?_
  simp only [nrm]
  refine any_tk 1 (.int .u64 r) (tf 16 1) rfl (fun x_ hu=>by kernel_rfl) (unhide hS_) ?_
  simp only [nrm]
  refine any_tk 2 (.pointer (some ⟨w.heap.size,32,none⟩)) (tf 16 2) rfl (fun x_ hu=>by kernel_rfl) (unhide hS_) ?_
  simp only [nrm]
  refine any_tk 3 (.bool f) (tf 16 3) rfl (fun x_ hu=>exec_cb _ (.tmp 45) rfl (w.heap.size) 32 (by kernel_rfl) f (seg_cell (nP hKy _) hu 1 (v:=.bool f) rfl rfl)) (unhide hS_) ?_
  simp only [nrm]
  refine any_tk 4 (.bool (!f)) (tf 16 4) rfl (fun x_ hu=>by kernel_rfl) (unhide hS_) ?_
  simp only [nrm]
  refine any_tk 6 (.int .u64 r) (tf 16 5) rfl (fun x_ hu=>by kernel_rfl) (unhide hS_) ?_
  simp only [nrm]
  refine any_tk 8 (.slice (some ⟨g11,0,none⟩) 16 16) #[true,true,true,true,true,false,true,false,false,false,false,false,false,false,false,false] rfl (fun x_ hu=>by kernel_rfl) (unhide hS_) ?_
  simp only [nrm]
  refine any_tk 9 (.slice (some ⟨p,o,none⟩) 130 c) #[true,true,true,true,true,false,true,false,true,false,false,false,false,false,false,false] rfl (fun x_ hu=>by kernel_rfl) (unhide hS_) ?_
  simp only [nrm]
  refine any_one (i:=5) (by kernel_rfl) rfl (fun K hK=>?_)
  refine step_callw (by kernel_rfl) 26 #[.agg (fl [bw Ky,[.bool f]]),.int .u64 r,.bool (!f)] (by kernel_rfl) (((show Calls Tryz.prog 26 #[.agg (fl [bw Ky,[.bool f]]),.int .u64 r,.bool (!f)] u6 (Vl (.agg (kc Y)) u6) from by rw [unhide hY,← key_f]; exact ykeyf_ok (!f) r hr Ky hKy (unhide hKb) f u6 ((unhide hF).gr hB.gr))).mono ?_)
  rintro r_ u7 ⟨rfl,hg⟩
  replace hB:=hB.more hg
  clear hg
  refine ⟨_,rfl,?_⟩
  clear hS_
  have hS_:=hide (show (fun v_=>v_.heap[w.heap.size]?=some (.cells (fl [bw Ky,[.bool f]]) 25 (0,0))) u7 from (hB.get 0 (x:=⟨w.heap.size,fl [bw Ky,[.bool f]],25⟩) rfl))
  refine hK.out _ _ (unhide hS_) (fun _=>?_)
  clear hK K
  simp only [nrm]
  refine any_one (i:=7) (by kernel_rfl) rfl (fun K hK=>?_)
  refine step_callw (by kernel_rfl) 27 #[.int .u64 r] (by kernel_rfl) (((show Calls Tryz.prog 27 #[.int .u64 r] u7 (Vl (.agg (kc N)) u7) from by rw [unhide hN]; exact ynonce_ok r hr u7)).mono ?_)
  rintro r_ u8 ⟨rfl,hg⟩
  replace hB:=hB.more hg
  clear hg
  refine ⟨_,rfl,?_⟩
  clear hS_
  have hS_:=hide (show (fun v_=>v_.heap[w.heap.size]?=some (.cells (fl [bw Ky,[.bool f]]) 25 (0,0))) u8 from (hB.get 0 (x:=⟨w.heap.size,fl [bw Ky,[.bool f]],25⟩) rfl))
  refine hK.out _ _ (unhide hS_) (fun _=>?_)
  clear hK K
  simp only [nrm]
  refine any_one (i:=10) (by kernel_rfl) rfl (fun K hK=>?_)
  refine step_callw (by kernel_rfl) 32 #[.agg (kc Y),.agg (kc N),.slice (some ⟨g11,0,none⟩) 16 16,.slice (some ⟨p,o,none⟩) 130 c] (by kernel_rfl) ((ropen_yes Y N hYl hNl (unhide hYb) (unhide hNb) D P (unhide hPb) (some ⟨g11,0,none⟩) (some ⟨p,o,none⟩) 16 130 16 c (by decide) (by decide) u8 (kc_lb (hB.get 3 (x:=⟨g11,kc D,33⟩) rfl) hDl (unhide hDb) (by decide)) (show Lb u8 (some ⟨p,o,none⟩) 130 c (sealL Y N D P) from (unhide hL) ▸ (unhide lp).gr hB.gr)).mono ?_)
  rintro r_ u9 ⟨v1,rfl,ho,hg⟩
  replace hB:=hB.more hg
  clear hg
  obtain ⟨a1,c1,rfl,l1⟩:=ho.lb' (unhide hPb) 114 hPl
  obtain ⟨p1,q1,rfl,l1⟩:=l1.some (by decide)
  clear ho
  replace l1:=hide l1
  have hs1:Hid (Sn u9 u9):=Gr.refl _
  refine ⟨_,rfl,?_⟩
  clear hS_
  have hS_:=hide (show (fun v_=>v_.heap[w.heap.size]?=some (.cells (fl [bw Ky,[.bool f]]) 25 (0,0))) u9 from (hB.get 0 (x:=⟨w.heap.size,fl [bw Ky,[.bool f]],25⟩) rfl))
  refine hK.out _ _ (unhide hS_) (fun _=>?_)
  clear hK K
  simp only [nrm]
  refine any_tk 11 (.tuple #[.slice (some ⟨p1,q1,none⟩) 114 c1,.bool true]) (tf 16 11) rfl (fun x_ hu=>by kernel_rfl) (unhide hS_) ?_
  simp only [nrm]
  refine any_tk 12 (.slice (some ⟨p1,q1,none⟩) 114 c1) (tf 16 12) rfl (fun x_ hu=>by kernel_rfl) (unhide hS_) ?_
  simp only [nrm]
  refine any_tk 13 (.bool true) (tf 16 13) rfl (fun x_ hu=>by kernel_rfl) (unhide hS_) ?_
  simp only [nrm]
  refine any_one (i:=14) (by kernel_rfl) rfl (fun K hK=>?_)
  replace hK:=hide hK
  go_simp
  refine (unhide hK).out _ _ (unhide hS_) (fun _=>?_)
  clear hK K
  simp only [nrm]
  refine any_one (i:=15) (by kernel_rfl) rfl (fun K hK=>?_)
  replace hK:=hide hK
  go_simp
  refine (unhide hK).out _ _ (unhide hS_) (fun _=>?_)
  clear hK K
  simp only [nrm]
  refine any_done (by kernel_rfl) ?_
  clear hS_
  replace hB:=hide hB
  go_upto_region 15 with fail
  replace hB:=unhide hB
  refine wp_region_lit ?_
  refine lvk (.bool true) ?_
  simp only [nrm]
  refine lvk (.bool false) ?_
  simp only [nrm]
  refine wpList_nil ?_
  have hc1:114≤c1:=(unhide l1).cap
  have hk0:0≤ek∧ek<256:=by
   rw [← unhide hek,List.getD_eq_getElem?_getD,List.getElem?_eq_getElem (by omega)]
   exact (unhide hPb) _ (List.getElem_mem _)
  have hea4:U4 ea:=by rw [← unhide hea]; exact lowN_u4 (sub_isB (unhide hPb) 1 4) (sub_len hPl (by decide))
  have hes4:U4 es:=by rw [← unhide hes]; exact lowN_u4 (sub_isB (unhide hPb) 5 4) (sub_len hPl (by decide))
  replace hB:=hide hB
  go_upto_region 17 with fail
  replace hB:=unhide hB
  refine any_start (S:=fun v_=>v_.cell? ⟨p1,q1+0,none⟩=some (.int .u8 ek)) (by kernel_rfl) ?_
  replace hs1:=hide ((unhide hs1).gr ((Gr.refl u9).drew))
  replace hB:=hB.drew
  generalize World.drew _=u10 at *
  have hB0:=hide hB
  have hsz_:Hid (Sz u10.heap.size u10):=Nat.le_refl _
  have hgs1:=(unhide hs1).size
  simp only [List.size_toArray,List.length_cons,List.length_nil,Array.replicate,List.replicate]
  refine any_take (i:=0) (v:=(.slice (some ⟨p1,q1,none⟩) 114 c1)) (tf 15 0) rfl (by kernel_rfl) (by kernel_rfl) (by kernel_rfl) (by kernel_rfl) (fun _ _ _ h=>h) (.inl ⟨by kernel_rfl,fun x_ hu=>by kernel_rfl⟩) (show _ from by have h:=lb_cell ((unhide l1).gr (unhide hs1).g) 0 (by decide); rw [unhide hek] at h; exact h) ?_
  simp only [nrm]
  refine any_take (i:=1) (v:=(.pointer (some ⟨p1,q1+0,none⟩))) (tf 15 1) rfl (by kernel_rfl) (by kernel_rfl) (by kernel_rfl) (by kernel_rfl) (fun _ _ _ h=>h) (.inl ⟨by kernel_rfl,fun x_ hu=>exec_at _ (.tmp 59) (.const (.int .i64 0)) rfl p1 q1 114 c1 0 (by kernel_rfl) (by kernel_rfl) (by decide)⟩) (show _ from by have h:=lb_cell ((unhide l1).gr (unhide hs1).g) 0 (by decide); rw [unhide hek] at h; exact h) ?_
  simp only [nrm]
  refine any_take (i:=2) (v:=(.int .u8 ek)) (tf 15 2) rfl (by kernel_rfl) (by kernel_rfl) (by kernel_rfl) (by kernel_rfl) (fun _ _ _ h=>h) (.inl ⟨by kernel_rfl,fun x_ hu=>exec_u8 _ (.tmp 60) rfl p1 (q1+0) (by kernel_rfl) ek hu⟩) (show _ from by have h:=lb_cell ((unhide l1).gr (unhide hs1).g) 0 (by decide); rw [unhide hek] at h; exact h) ?_
  simp only [nrm]
  refine any_take (i:=3) (v:=(.int .i64 ek)) (tf 15 3) rfl (by kernel_rfl) (by kernel_rfl) (by kernel_rfl) (by kernel_rfl) (fun _ _ _ h=>h) (.inl ⟨by kernel_rfl,fun x_ hu=>conv_8i _ (.tmp 61) ek rfl (by kernel_rfl) hk0⟩) (show _ from by have h:=lb_cell ((unhide l1).gr (unhide hs1).g) 0 (by decide); rw [unhide hek] at h; exact h) ?_
  simp only [nrm]
  refine any_take (i:=4) (v:=(.slice (some ⟨p1,q1,none⟩) 114 c1)) (tf 15 4) rfl (by kernel_rfl) (by kernel_rfl) (by kernel_rfl) (by kernel_rfl) (fun _ _ _ h=>h) (.inl ⟨by kernel_rfl,fun x_ hu=>by kernel_rfl⟩) (show _ from by have h:=lb_cell ((unhide l1).gr (unhide hs1).g) 0 (by decide); rw [unhide hek] at h; exact h) ?_
  simp only [nrm]
  refine any_take (i:=5) (v:=(.slice (some ⟨p1,q1+1,none⟩) 4 (c1 - 1))) (tf 15 5) rfl (by kernel_rfl) (by kernel_rfl) (by kernel_rfl) (by kernel_rfl) (fun _ _ _ h=>h) (.inl ⟨by kernel_rfl,fun x_ hu=>exec_winl _ (.tmp 63) (.const (.int .i64 1)) (.const (.int .i64 5)) rfl p1 q1 114 c1 1 5 4 (by kernel_rfl) (by kernel_rfl) (by kernel_rfl) rfl (by decide) (by omega)⟩) (show _ from by have h:=lb_cell ((unhide l1).gr (unhide hs1).g) 0 (by decide); rw [unhide hek] at h; exact h) ?_
  simp only [nrm]
  refine any_take (i:=8) (v:=(.slice (some ⟨p1,q1,none⟩) 114 c1)) (tf 15 6) rfl (by kernel_rfl) (by kernel_rfl) (by kernel_rfl) (by kernel_rfl) (fun _ _ _ h=>h) (.inl ⟨by kernel_rfl,fun x_ hu=>by kernel_rfl⟩) (show _ from by have h:=lb_cell ((unhide l1).gr (unhide hs1).g) 0 (by decide); rw [unhide hek] at h; exact h) ?_
  simp only [nrm]
  refine any_take (i:=9) (v:=(.slice (some ⟨p1,q1+5,none⟩) 4 (c1 - 5))) #[true,true,true,true,true,true,false,false,true,false,false,false,false,false,false] rfl (by kernel_rfl) (by kernel_rfl) (by kernel_rfl) (by kernel_rfl) (fun _ _ _ h=>h) (.inl ⟨by kernel_rfl,fun x_ hu=>exec_winl _ (.tmp 67) (.const (.int .i64 5)) (.const (.int .i64 9)) rfl p1 q1 114 c1 5 9 4 (by kernel_rfl) (by kernel_rfl) (by kernel_rfl) rfl (by decide) (by omega)⟩) (show _ from by have h:=lb_cell ((unhide l1).gr (unhide hs1).g) 0 (by decide); rw [unhide hek] at h; exact h) ?_
  simp only [nrm]
  refine float_first (fun q u=>NKf u10.heap.size (fl [[.int .i64 0],[.int .u32 0],[.int .u32 0],bw Z105]) 30 u q) 14 (fun b_=>#[true,true,true,true,true,true,false,false,true,true,false,false,false,b_,false]) 13 6 false rfl rfl (fun v_ g_=>g_.cell (show _ from by have h:=lb_cell ((unhide l1).gr (unhide hs1).g) 0 (by decide); rw [unhide hek] at h; exact h)) (by kernel_rfl) (fun b_=>by cases b_ <;> rfl) ?_ ?_
  all_goals simp only [fw1,Act.put,List.setIfInBounds_toArray,List.set_cons_zero,List.set_cons_succ,List.getElem_toArray,List.getElem_cons_zero,List.getElem_cons_succ]
  ·intro q_ x_ hgx K hK
   refine wpOp_step (o:=_) rfl (fun K' hK'=>?_)
   replace hK':=hide hK'
   replace hK:=hide hK
   refine step_val (.pointer (some ⟨x_.heap.size,0,none⟩)) (x_.alloc (.cells (fl [[.int .i64 0],[.int .u32 0],[.int .u32 0],bw Z105]) 30 (0,0))) (by kernel_rfl) (by kernel_rfl) ?_
   exact unhide hK' _ _ (unhide hK _ _ ((Gr.refl _).alloc _) (⟨_,rfl,Nat.le_trans (unhide hsz_) hgx.size,blk_new _ _⟩))
  intro b1_6 q1_6 x1_6 hg hTq hall
  replace hs1:=hide ((unhide hs1).gr hg)
  replace hsz_:=hide ((unhide hsz_).gr hg)
  replace hB:=hB.more hg
  clear hg
  clear hall
  refine wpOp_step (o:=_) rfl (fun K hK=>?_)
  replace hK:=hide hK
  refine step_callw (by kernel_rfl) 33 #[.slice (some ⟨p1,q1+1,none⟩) 4 (c1 - 1)] (by kernel_rfl) (((show Calls Tryz.prog 33 #[.slice (some ⟨p1,q1+1,none⟩) 4 (c1 - 1)] x1_6 (Vl (.int .u64 ea) x1_6) from by rw [← unhide hea]; exact rhighg_ok ((P.drop 1).take 4) _ 4 (c1 - 1) x1_6 (lb_win ((unhide l1).gr (unhide hs1).g) 1 4 (by decide)) (by decide))).mono ?_)
  rintro r u11 ⟨rfl,hg⟩
  refine ⟨_,rfl,?_⟩
  replace hTq:=fun e=>NKf.gr (hTq e) hg
  replace hs1:=hide ((unhide hs1).gr hg)
  replace hsz_:=hide ((unhide hsz_).gr hg)
  replace hB:=hB.more hg
  clear hg
  refine unhide hK _ _ ⟨(show _ from by have h:=lb_cell ((unhide l1).gr (unhide hs1).g) 0 (by decide); rw [unhide hek] at h; exact h),?_⟩
  clear hK K
  simp only [nrm]
  refine any_take (i:=7) (v:=(.int .u32 ea)) #[true,true,true,true,true,true,true,false,true,true,false,false,false,false,false] rfl (by kernel_rfl) (by kernel_rfl) (by kernel_rfl) (by kernel_rfl) (fun _ _ _ h=>h) (.inl ⟨by kernel_rfl,fun x_ hu=>conv_6432 _ (.tmp 65) ea rfl (by kernel_rfl) hea4⟩) (show _ from by have h:=lb_cell ((unhide l1).gr (unhide hs1).g) 0 (by decide); rw [unhide hek] at h; exact h) ?_
  simp only [nrm]
  refine float_again (fun q u=>NKf u10.heap.size (fl [[.int .i64 0],[.int .u32 0],[.int .u32 0],bw Z105]) 30 u q) 14 (fun b_=>#[true,true,true,true,true,true,true,true,true,true,false,false,false,b_,false]) 13 10 false (b:=b1_6) (q:=q1_6) rfl rfl hTq (fun v_ g_=>g_.cell (show _ from by have h:=lb_cell ((unhide l1).gr (unhide hs1).g) 0 (by decide); rw [unhide hek] at h; exact h)) (by kernel_rfl) (fun b_=>by cases b_ <;> rfl) ?_ ?_
  all_goals simp only [fw1,Act.put,List.setIfInBounds_toArray,List.set_cons_zero,List.set_cons_succ,List.getElem_toArray,List.getElem_cons_zero,List.getElem_cons_succ]
  ·intro q_ x_ hgx K hK
   refine wpOp_step (o:=_) rfl (fun K' hK'=>?_)
   replace hK':=hide hK'
   replace hK:=hide hK
   refine step_val (.pointer (some ⟨x_.heap.size,0,none⟩)) (x_.alloc (.cells (fl [[.int .i64 0],[.int .u32 0],[.int .u32 0],bw Z105]) 30 (0,0))) (by kernel_rfl) (by kernel_rfl) ?_
   exact unhide hK' _ _ (unhide hK _ _ ((Gr.refl _).alloc _) (⟨_,rfl,Nat.le_trans (unhide hsz_) hgx.size,blk_new _ _⟩))
  clear hTq
  intro b1_10 q1_10 x1_10 hg hTq hall
  replace hs1:=hide ((unhide hs1).gr hg)
  replace hsz_:=hide ((unhide hsz_).gr hg)
  replace hB:=hB.more hg
  clear hg
  clear hall
  refine wpOp_step (o:=_) rfl (fun K hK=>?_)
  replace hK:=hide hK
  refine step_callw (by kernel_rfl) 33 #[.slice (some ⟨p1,q1+5,none⟩) 4 (c1 - 5)] (by kernel_rfl) (((show Calls Tryz.prog 33 #[.slice (some ⟨p1,q1+5,none⟩) 4 (c1 - 5)] x1_10 (Vl (.int .u64 es) x1_10) from by rw [← unhide hes]; exact rhighg_ok ((P.drop 5).take 4) _ 4 (c1 - 5) x1_10 (lb_win ((unhide l1).gr (unhide hs1).g) 5 4 (by decide)) (by decide))).mono ?_)
  rintro r u12 ⟨rfl,hg⟩
  refine ⟨_,rfl,?_⟩
  replace hTq:=fun e=>NKf.gr (hTq e) hg
  replace hs1:=hide ((unhide hs1).gr hg)
  replace hsz_:=hide ((unhide hsz_).gr hg)
  replace hB:=hB.more hg
  clear hg
  refine unhide hK _ _ ⟨(show _ from by have h:=lb_cell ((unhide l1).gr (unhide hs1).g) 0 (by decide); rw [unhide hek] at h; exact h),?_⟩
  clear hK K
  simp only [nrm]
  refine any_take (i:=11) (v:=(.int .u32 es)) (tf 15 11) rfl (by kernel_rfl) (by kernel_rfl) (by kernel_rfl) (by kernel_rfl) (fun _ _ _ h=>h) (.inl ⟨by kernel_rfl,fun x_ hu=>conv_6432 _ (.tmp 69) es rfl (by kernel_rfl) hes4⟩) (show _ from by have h:=lb_cell ((unhide l1).gr (unhide hs1).g) 0 (by decide); rw [unhide hek] at h; exact h) ?_
  simp only [nrm]
  refine any_take (i:=12) (v:=(.agg (fl [[.int .i64 ek],[.int .u32 ea],[.int .u32 es],bw Z105]))) (tf 15 12) rfl (by kernel_rfl) (by kernel_rfl) (by kernel_rfl) (by kernel_rfl) (fun _ _ _ h=>h) (.inl ⟨by kernel_rfl,fun x_ hu=>bE012 _ (.tmp 62) (.tmp 66) (.tmp 70) rfl (by kernel_rfl) (by kernel_rfl) (by kernel_rfl)⟩) (show _ from by have h:=lb_cell ((unhide l1).gr (unhide hs1).g) 0 (by decide); rw [unhide hek] at h; exact h) ?_
  simp only [nrm]
  refine float_again (fun q u=>NKf u10.heap.size (fl [[.int .i64 0],[.int .u32 0],[.int .u32 0],bw Z105]) 30 u q) 14 (fun b_=>#[true,true,true,true,true,true,true,true,true,true,true,true,true,b_,false]) 13 14 true (b:=b1_10) (q:=q1_10) rfl rfl hTq (fun v_ g_=>g_.cell (show _ from by have h:=lb_cell ((unhide l1).gr (unhide hs1).g) 0 (by decide); rw [unhide hek] at h; exact h)) (by kernel_rfl) (fun b_=>by cases b_ <;> rfl) ?_ ?_
  all_goals simp only [fw1,Act.put,List.setIfInBounds_toArray,List.set_cons_zero,List.set_cons_succ,List.getElem_toArray,List.getElem_cons_zero,List.getElem_cons_succ]
  ·intro q_ x_ hgx K hK
   refine wpOp_step (o:=_) rfl (fun K' hK'=>?_)
   replace hK':=hide hK'
   replace hK:=hide hK
   refine step_val (.pointer (some ⟨x_.heap.size,0,none⟩)) (x_.alloc (.cells (fl [[.int .i64 0],[.int .u32 0],[.int .u32 0],bw Z105]) 30 (0,0))) (by kernel_rfl) (by kernel_rfl) ?_
   exact unhide hK' _ _ (unhide hK _ _ ((Gr.refl _).alloc _) (⟨_,rfl,Nat.le_trans (unhide hsz_) hgx.size,blk_new _ _⟩))
  clear hTq
  intro b1_14 q1_14 x1_14 hg hTq hall
  replace hs1:=hide ((unhide hs1).gr hg)
  replace hsz_:=hide ((unhide hsz_).gr hg)
  replace hB:=hB.more hg
  clear hg
  obtain rfl:b1_14=true:=hall (by trivial)
  replace hTq:=hTq rfl
  clear hall
  obtain ⟨g14,rfl,hge_,hnew_⟩:=hTq
  replace hB:=Bl.joinz (unhide hB0) hB hge_ hnew_
  simp only [List.cons_append,List.nil_append] at hB
  clear hB0 hnew_
  refine wpOp_step (o:=_) rfl (fun K hK=>?_)
  replace hK:=hide hK
  have hzz_:Hid (x1_14.heap[g14]?=some (.cells (fl [[.int .i64 0],[.int .u32 0],[.int .u32 0],bw Z105]) 30 (0,0))):=hide (hB.get 4 (x:=⟨g14,fl [[.int .i64 0],[.int .u32 0],[.int .u32 0],bw Z105],30⟩) rfl)
  refine step_all 30 (.tmp 14) (.tmp 71) (g14) (S2:=[[.int .i64 ek],[.int .u32 ea],[.int .u32 es],bw Z105]) (by kernel_rfl) rfl (by kernel_rfl) (by kernel_rfl) hB 4 rfl NE (nE (show List.length Z105=105 from rfl) _ _ _) (nE (show List.length Z105=105 from rfl) _ _ _) (by kernel_rfl) (oE _ rfl rfl rfl) ?_
  intro u13 hB_ hbt_
  clear hB
  replace hB:Bl w [⟨w.heap.size,fl [bw Ky,[.bool f]],25⟩,⟨w.heap.size+1,fl [[.int .i64 0],[.int .u32 0],[.int .u32 0],bw Z105],30⟩,⟨g8,fl [[.int .i64 0],[.int .u32 0],[.int .u32 0],bw Z105],30⟩,⟨g11,kc D,33⟩,⟨g14,fl [[.int .i64 ek],[.int .u32 ea],[.int .u32 es],bw Z105],30⟩] u13:=hB_
  clear hB_
  replace hs1:=hide ((unhide hs1).bt hbt_ (Nat.le_trans hgs1 hge_))
  clear hbt_ hzz_
  refine unhide hK _ _ ⟨(show _ from by have h:=lb_cell ((unhide l1).gr (unhide hs1).g) 0 (by decide); rw [unhide hek] at h; exact h),?_⟩
  clear hK K
  simp only [nrm]
  refine any_done (by kernel_rfl) ?_
  clear hsz_
  replace hB:=hide hB
  go_upto_region 18 with fail
  replace hB:=unhide hB
  refine any_start (S:=fun v_=>True) (by kernel_rfl) ?_
  replace hs1:=hide ((unhide hs1).gr ((Gr.refl u13).drew))
  replace hB:=hB.drew
  generalize World.drew _=u14 at *
  simp only [List.size_toArray,List.length_cons,List.length_nil,Array.replicate,List.replicate]
  refine any_tk 0 (.pointer (some ⟨g14,3,none⟩)) (tf 5 0) rfl (fun x_ hu=>by kernel_rfl) trivial ?_
  simp only [nrm]
  refine any_tk 1 (.slice (some ⟨g14,3,none⟩) 105 105) (tf 5 1) rfl (fun x_ hu=>by kernel_rfl) trivial ?_
  simp only [nrm]
  refine any_tk 2 (.slice (some ⟨p1,q1,none⟩) 114 c1) (tf 5 2) rfl (fun x_ hu=>by kernel_rfl) trivial ?_
  simp only [nrm]
  refine any_tk 3 (.slice (some ⟨p1,q1+9,none⟩) 105 (c1 - 9)) (tf 5 3) rfl (fun x_ hu=>exec_froml _ (.tmp 74) (.const (.int .i64 9)) rfl p1 q1 114 c1 9 (by kernel_rfl) (by kernel_rfl) (by decide) hc1) trivial ?_
  simp only [nrm]
  refine any_one (i:=4) (by kernel_rfl) rfl (fun K hK=>?_)
  rw [if_pos (by kernel_rfl)]
  refine copy_wp (.tmp 73) (.tmp 75) rfl (g14) 3 105 105 ((some ⟨p1,q1+9,none⟩)) 105 (c1 - 9) (by kernel_rfl) (by kernel_rfl) (([[.int .i64 ek],[.int .u32 ea],[.int .u32 es],bw Z105]:List (List Value)).flatten) 30 (hB.get 4 (x:=⟨g14,fl [[.int .i64 ek],[.int .u32 ea],[.int .u32 es],bw Z105],30⟩) rfl) eB (by rw [heBl]; rfl) ((show Sl _ _ eB from by have h:=(lb_win ((unhide l1).gr (unhide hs1).g) 9 105 (by decide)).sl; rw [unhide heB] at h; exact h)) (by rw [fl_flat (nE (show List.length Z105=105 from rfl) _ _ _),heBl]; decide) ?_
  replace hB:=hB.cells 4 (C:=(([[.int .i64 ek],[.int .u32 ea],[.int .u32 es],bw Z105]:List (List Value)).flatten)) rfl 3 (bw eB)
  rw [show 3=(List.take 3 NE).sum from rfl,seg_set (nE (show List.length Z105=105 from rfl) _ _ _) 3 (bw eB) (by rw [bw_len,heBl]; rfl)] at hB
  simp only [List.set_cons_zero,List.set_cons_succ] at hB
  replace hs1:=hide ((unhide hs1).bt (setCells_bt (List.map (Value.int .u8) eB) u14 g14 3) (Nat.le_trans hgs1 hge_))
  replace hB:Bl w [⟨w.heap.size,fl [bw Ky,[.bool f]],25⟩,⟨w.heap.size+1,fl [[.int .i64 0],[.int .u32 0],[.int .u32 0],bw Z105],30⟩,⟨g8,fl [[.int .i64 0],[.int .u32 0],[.int .u32 0],bw Z105],30⟩,⟨g11,kc D,33⟩,⟨g14,fl [[.int .i64 ek],[.int .u32 ea],[.int .u32 es],bw eB],30⟩] (World.setCells u14 g14 3 (List.map (Value.int .u8) eB)):=hB
  generalize World.setCells u14 g14 3 (List.map (Value.int .u8) eB)=u15 at *
  refine hK.out _ _ trivial (fun _=>?_)
  clear hK K
  simp only [nrm]
  refine any_done (by kernel_rfl) ?_
  replace hB:=hide hB
  go_upto_region 19 with fail
  replace hB:=unhide hB
  refine wp_region_lit ?_
  refine list_val (.agg (fl [[.int .i64 ek],[.int .u32 ea],[.int .u32 es],bw eB])) (by kernel_rfl) (exec_sw _ 30 (.tmp 14) rfl (g14) (by kernel_rfl) (hB.get 4 (x:=⟨g14,fl [[.int .i64 ek],[.int .u32 ea],[.int .u32 es],bw eB],30⟩) rfl) NE (nE heBl _ _ _) Tryz.underlying30 rfl (by kernel_rfl)) ?_
  simp only [nrm]
  refine list_call 8 #[.agg (fl [[.int .i64 ek],[.int .u32 ea],[.int .u32 es],bw eB])] (by kernel_rfl) (by kernel_rfl) (((show Calls Tryz.prog 8 #[.agg (fl [[.int .i64 ek],[.int .u32 ea],[.int .u32 es],bw eB])] u15 (Vl (.bool false) u15) from by have h:=yright_ok ek ea es eB heBl u15; rw [unhide he] at h; exact h)).mono ?_)
  rintro r_ u16 ⟨rfl,hg⟩
  replace hB:=hB.more hg
  clear hg
  refine ⟨_,rfl,?_⟩
  simp only [nrm]
  refine lvk (.bool true) ?_
  simp only [nrm]
  refine wpList_nil ?_
  replace hB:=hide hB
  go_upto_region 20 with fail
  replace hB:=unhide hB
  refine wp_region_lit ?_
  refine list_val (.agg (fl [[.int .i64 0],[.int .u32 0],[.int .u32 0],bw Z105])) (by kernel_rfl) (exec_sw _ 30 (.tmp 8) rfl (g8) (by kernel_rfl) (hB.get 2 (x:=⟨g8,fl [[.int .i64 0],[.int .u32 0],[.int .u32 0],bw Z105],30⟩) rfl) NE (nE (show List.length Z105=105 from rfl) _ _ _) Tryz.underlying30 rfl (by kernel_rfl)) ?_
  simp only [nrm]
  refine list_all 30 (.tmp 6) (.tmp 80) (w.heap.size+1) (S2:=[[.int .i64 0],[.int .u32 0],[.int .u32 0],bw Z105]) (by kernel_rfl) rfl (by kernel_rfl) (by kernel_rfl) hB 1 rfl NE (nE (show List.length Z105=105 from rfl) _ _ _) (nE (show List.length Z105=105 from rfl) _ _ _) (by kernel_rfl) (oE _ rfl rfl rfl) ?_
  intro u17 hB_ hbt_
  clear hB
  replace hB:Bl w [⟨w.heap.size,fl [bw Ky,[.bool f]],25⟩,⟨w.heap.size+1,fl [[.int .i64 0],[.int .u32 0],[.int .u32 0],bw Z105],30⟩,⟨g8,fl [[.int .i64 0],[.int .u32 0],[.int .u32 0],bw Z105],30⟩,⟨g11,kc D,33⟩,⟨g14,fl [[.int .i64 ek],[.int .u32 ea],[.int .u32 es],bw eB],30⟩] u17:=hB_
  clear hB_
  clear hbt_
  simp only [nrm]
  (refine wpList_step fun K hK=>?_; replace hK:=hide hK; go_simp; refine unhide hK _ _ ?_; clear hK K)
  refine wpList_nil ?_
  replace hB:=hide hB
  go_wp2_with fail
  replace hB:=unhide hB
  rw [unhide hT]
  exact bodyPost_ret (v:=.tuple #[.agg (fl [[.int .i64 0],[.int .u32 0],[.int .u32 0],bw Z105]),.int .i64 241]) (res2 Tryz.results11 (rv_cell (by kernel_rfl) (hB.get 1 (x:=⟨w.heap.size+1,fl [[.int .i64 0],[.int .u32 0],[.int .u32 0],bw Z105],30⟩) rfl) Tryz.underlying30 rfl (by rw [fl_size (nE (show List.length Z105=105 from rfl) _ _ _)]; kernel_rfl)) (rv_tmp (by kernel_rfl))) rfl (⟨rfl,hB.gr⟩)
set_option maxHeartbeats 4000000 in
theorem yread_ok (Ky:List Int) (hKy:Ky.length=32) (hKb:IsB Ky) (f:Bool) (p o c:Nat) (r:Int) (hr:0≤r∧r<18446744073709551616) (L:List Int) (Y N D:List Int) (P:List Int) (ek ea es:Int) (eB:List Int) (w:World) (hr0:r≠0) (lp:Lb w (some ⟨p,o,none⟩) 130 c L) (hF:Fst w) (hY:Y=rkL r Ky f false) (hN:N=cntL r) (hD:D=drL r Ky) (hz:L≠Z130) (hPl:P.length=114) (hPb:IsB P) (hL:L=sealL Y N D P) (hek:P.getD 0 0=ek) (hea:lowN ((P.drop 1).take 4)=ea) (hes:lowN ((P.drop 5).take 4)=es) (heB:(P.drop 9).take 105=eB) (he:evR ek es eB=true):Calls Tryz.prog 11 #[.agg (fl [bw Ky,[.bool f]]),.int .u64 r,.slice (some ⟨p,o,none⟩) 130 c] w (Vl (.tuple #[.agg (fl [[.int .i64 ek],[.int .u32 ea],[.int .u32 es],bw eB]),.int .i64 0]) w):=by
 obtain ⟨T,hT⟩:∃ T:Ending→World→Prop,T=(Vl (.tuple #[.agg (fl [[.int .i64 ek],[.int .u32 ea],[.int .u32 es],bw eB]),.int .i64 0]) w):=⟨_,rfl⟩
 rw [← hT]
 replace hT:=hide hT
 have hYl:Y.length=32:=by rw [hY]; exact rkL_len _ _ _ _
 have hNl:N.length=12:=by rw [hN]; exact cntL_len _
 have hDl:D.length=16:=by rw [hD]; exact drL_len _ _
 have hYb:IsB Y:=by rw [hY]; exact rkL_isB _ _ _ _
 have hNb:IsB N:=by rw [hN]; exact cntL_isB _
 have hDb:IsB D:=by rw [hD]; exact drL_isB _ _
 have hLl:=lp.len
 have heBl:eB.length=105:=by rw [← heB]; exact sub_len hPl (by decide)
 obtain ⟨A0_,hA0_⟩:∃ S_,S_=fl [bw Ky,[.bool f]]:=⟨_,rfl⟩
 rw [← hA0_]
 replace hA0_:=hide hA0_
 replace hY:=hide hY
 replace hN:=hide hN
 replace hD:=hide hD
 replace hF:=hide hF
 replace hKb:=hide hKb
 replace hYb:=hide hYb
 replace hNb:=hide hNb
 replace hDb:=hide hDb
 replace lp:=hide lp
 replace hPb:=hide hPb
 replace hL:=hide hL
 replace hek:=hide hek
 replace hea:=hide hea
 replace hes:=hide hes
 replace heB:=hide heB
 replace he:=hide he
 go_enter Tryz.func11,Tryz.ntmps11
 go_upto_region 1 with fail
 have hB:=(((Bl.nil w).new A0_ 25).new (fl [[.int .i64 0],[.int .u32 0],[.int .u32 0],bw Z105]) 30)
 simp only [size_alloc,List.nil_append,List.cons_append] at hB
 rw [unhide hA0_] at hB
 generalize hu_:World.alloc _ _=u0
 replace hB:Bl w [⟨w.heap.size,fl [bw Ky,[.bool f]],25⟩,⟨w.heap.size+1,fl [[.int .i64 0],[.int .u32 0],[.int .u32 0],bw Z105],30⟩] u0:=by
  rw [← hu_]
  rw [unhide hA0_]
  exact hB
 clear hu_ hA0_
 refine wp_region_lit ?_
 refine list_val (.agg (fl [[.int .i64 0],[.int .u32 0],[.int .u32 0],bw Z105])) (by kernel_rfl) (bE _ rfl) ?_
 simp only [nrm]
 refine list_valw (.pointer (some ⟨u0.heap.size,0,none⟩)) (u0.alloc (.cells (fl [[.int .i64 0],[.int .u32 0],[.int .u32 0],bw Z105]) 30 (0,0))) (by kernel_rfl) (by kernel_rfl) ?_
 replace hB:=hB.new (fl [[.int .i64 0],[.int .u32 0],[.int .u32 0],bw Z105]) 30
 simp only [List.nil_append,List.cons_append] at hB
 generalize World.alloc _ _=u1 at *
 generalize u0.heap.size=g8 at *
 replace hB:Bl w [⟨w.heap.size,fl [bw Ky,[.bool f]],25⟩,⟨w.heap.size+1,fl [[.int .i64 0],[.int .u32 0],[.int .u32 0],bw Z105],30⟩,⟨g8,fl [[.int .i64 0],[.int .u32 0],[.int .u32 0],bw Z105],30⟩] u1:=hB
 simp only [nrm]
 refine list_all 30 (.tmp 8) (.tmp 15) (g8) (S2:=[[.int .i64 0],[.int .u32 0],[.int .u32 0],bw Z105]) (by kernel_rfl) rfl (by kernel_rfl) (by kernel_rfl) hB 2 rfl NE (nE (show List.length Z105=105 from rfl) _ _ _) (nE (show List.length Z105=105 from rfl) _ _ _) (by kernel_rfl) (oE _ rfl rfl rfl) ?_
 intro u2 hB_ hbt_
 clear hB
 replace hB:Bl w [⟨w.heap.size,fl [bw Ky,[.bool f]],25⟩,⟨w.heap.size+1,fl [[.int .i64 0],[.int .u32 0],[.int .u32 0],bw Z105],30⟩,⟨g8,fl [[.int .i64 0],[.int .u32 0],[.int .u32 0],bw Z105],30⟩] u2:=hB_
 clear hB_
 clear hbt_
 simp only [nrm]
 refine wpList_nil ?_
 replace hB:=hide hB
 go_upto_region 2 with fail
 replace hB:=unhide hB
 refine wp_region_lit ?_
 refine lvk (.int .u64 r) ?_
 simp only [nrm]
 refine list_val (.bool false) (by kernel_rfl) (eql_64 _ (.tmp 16) (.const (.int .u64 0)) r 0 false rfl (by kernel_rfl) (by kernel_rfl) (decide_eq_false hr0)) ?_
 simp only [nrm]
 refine wpList_nil ?_
 replace hB:=hide hB
 go_upto_region 4 with fail
 replace hB:=unhide hB
 refine wp_region_lit ?_
 refine lvk (.slice (some ⟨p,o,none⟩) 130 c) ?_
 simp only [nrm]
 refine lvk (.int .i64 130) ?_
 simp only [nrm]
 refine list_val (.bool false) (by kernel_rfl) (neq_i _ (.tmp 20) (.const (.int .i64 130)) 130 130 false rfl (by kernel_rfl) (by kernel_rfl) (by decide)) ?_
 simp only [nrm]
 refine wpList_nil ?_
 replace hB:=hide hB
 go_upto_region 6 with fail
 replace hB:=unhide hB
 refine wp_region_lit ?_
 (refine wpList_step fun K hK=>?_; replace hK:=hide hK; go_simp; refine unhide hK _ _ ?_; clear hK K)
 refine wpList_nil ?_
 replace hB:=hide hB
 go_upto_region 7 with fail
 replace hB:=unhide hB
 refine wp_region_lit ?_
 (refine wpList_step fun K hK=>?_; replace hK:=hide hK; go_simp; refine unhide hK _ _ ?_; clear hK K)
 refine wpList_nil ?_
 replace hB:=hide hB
 go_wp2_with fail
 go_loopw [9,10] (fun z i wr=>∃ (j:Nat) (q:Bool),j≤130∧z=.bool q∧i=.int .i64 (j:Int)∧Hid (q=allZ (L.take j))∧Hid (Bl w [⟨w.heap.size,fl [bw Ky,[.bool f]],25⟩,⟨w.heap.size+1,fl [[.int .i64 0],[.int .u32 0],[.int .u32 0],bw Z105],30⟩,⟨g8,fl [[.int .i64 0],[.int .u32 0],[.int .u32 0],bw Z105],30⟩] wr)) (fun _ i _=>130 - (intOf i).toNat)
 case atStart=>exact ⟨0,true,by omega,rfl,rfl,rfl,hB⟩
 case round =>
 clear hB
 obtain ⟨j,q,hj,rfl,rfl,hq,hB⟩:=hrel
 have hB:=unhide hB
 by_cases hlt:j<130
 ·have jI:(j:Int)<130:=by omega
  have hst:=allZ_step L j (by omega)
  have jw:IntKind.i64.wrap ((j:Int)+1)=(j:Int)+1:=by rw [IntKind.wrap_i64]; omega
  obtain ⟨x,hx⟩:∃ x,x=L.getD j 0:=⟨_,rfl⟩
  obtain ⟨e,hE⟩:∃ e,decide (x=0)=e:=⟨_,rfl⟩
  rw [← hx,hE,← unhide hq] at hst
  replace hst:=hide hst
  replace hx:=hide hx
  cases q
  ·skip
   replace hB:=hide hB
   go_upto_region 10 with fail
   replace hB:=unhide hB
   refine wp_region_lit ?_
   refine wpList_gen fun ops_ hops=>?_
   replace hops:=hide hops
   refine list_val (.bool false) (by rw [unhide hops]; kernel_rfl) (by kernel_rfl) ?_
   simp only [nrm]
   refine list_val (.bool false) (by rw [unhide hops]; kernel_rfl) (by kernel_rfl) ?_
   simp only [nrm]
   refine list_off (by rw [unhide hops]; kernel_rfl) ?_
   simp only [nrm]
   refine list_off (by rw [unhide hops]; kernel_rfl) ?_
   simp only [nrm]
   refine list_off (by rw [unhide hops]; kernel_rfl) ?_
   simp only [nrm]
   refine list_off (by rw [unhide hops]; kernel_rfl) ?_
   simp only [nrm]
   refine list_off (by rw [unhide hops]; kernel_rfl) ?_
   simp only [nrm]
   refine list_val (.bool false) (by rw [unhide hops]; kernel_rfl) (by kernel_rfl) ?_
   simp only [nrm]
   (refine wpList_step fun K hK=>?_; replace hK:=hide hK; go_simp; refine unhide hK _ _ ?_; clear hK K)
   refine wpList_nil ?_
   replace hB:=hide hB
   clear hx hE
   go_wp2_with fail
   go_roundw
   case rel=>exact ⟨j+1,false,by omega,rfl,by simp,by rw [unhide hst]; first | rfl | simp,hB⟩
   case measure=>simp [intOf]; omega
  ·skip
   replace hB:=hide hB
   go_upto_region 10 with fail
   replace hB:=unhide hB
   refine wp_region_lit ?_
   refine wpList_gen fun ops_ hops=>?_
   replace hops:=hide hops
   refine list_val (.bool true) (by rw [unhide hops]; kernel_rfl) (by kernel_rfl) ?_
   simp only [nrm]
   refine list_val (.bool true) (by rw [unhide hops]; kernel_rfl) (by kernel_rfl) ?_
   simp only [nrm]
   refine list_val (.slice (some ⟨p,o,none⟩) 130 c) (by rw [unhide hops]; kernel_rfl) (by kernel_rfl) ?_
   simp only [nrm]
   refine list_val (.int .i64 (j:Int)) (by rw [unhide hops]; kernel_rfl) (by kernel_rfl) ?_
   simp only [nrm]
   refine list_val (.pointer (some ⟨p,o+j,none⟩)) (by rw [unhide hops]; kernel_rfl) (exec_at _ (.tmp 31) (.tmp 32) rfl p o 130 c j (by kernel_rfl) (by kernel_rfl) hlt) ?_
   simp only [nrm]
   refine list_val (.int .u8 x) (by rw [unhide hops]; kernel_rfl) (exec_u8 _ (.tmp 33) rfl p (o+j) (by kernel_rfl) x (by rw [unhide hx]; exact lb_cell ((unhide lp).gr hB.gr) j hlt)) ?_
   simp only [nrm]
   refine list_val (.bool e) (by rw [unhide hops]; kernel_rfl) (eql_8x _ (.tmp 34) (.const (.int .u8 0)) x 0 e rfl (by kernel_rfl) (by kernel_rfl) hE) ?_
   simp only [nrm]
   refine list_val (.bool e) (by rw [unhide hops]; kernel_rfl) (by kernel_rfl) ?_
   simp only [nrm]
   (refine wpList_step fun K hK=>?_; replace hK:=hide hK; go_simp; refine unhide hK _ _ ?_; clear hK K)
   refine wpList_nil ?_
   replace hB:=hide hB
   clear hx hE
   go_wp2_with fail
   go_roundw
   case rel=>exact ⟨j+1,e,by omega,rfl,by simp,by rw [unhide hst]; first | rfl | simp,hB⟩
   case measure=>simp [intOf]; omega
 ·have jI:¬ (j:Int)<130:=by omega
  obtain rfl:j=130:=by omega
  have hq2:q=false:=by
   rw [unhide hq,List.take_of_length_le (by omega)]
   unfold allZ; rw [hLl]; exact decide_eq_false hz
  subst hq2
  clear hq hlt
  replace hB:=hide hB
  go_upto_region 11 with fail
  replace hB:=unhide hB
  refine wp_region_lit ?_
  refine lvk (.bool false) ?_
  simp only [nrm]
  refine wpList_nil ?_
  replace hB:=hide hB
  go_upto_region 13 with fail
  replace hB:=unhide hB
  refine wp_region_lit ?_
  refine list_val (.agg (fl [bw Ky,[.bool f]])) (by kernel_rfl) (exec_sw _ 25 (.tmp 3) rfl (w.heap.size) (by kernel_rfl) (hB.get 0 (x:=⟨w.heap.size,fl [bw Ky,[.bool f]],25⟩) rfl) NP (nP hKy _) Tryz.underlying25 rfl (by kernel_rfl)) ?_
  simp only [nrm]
  refine lvk (.int .u64 r) ?_
  simp only [nrm]
  refine list_call 24 #[.agg (fl [bw Ky,[.bool f]]),.int .u64 r] (by kernel_rfl) (by kernel_rfl) (((show Calls Tryz.prog 24 #[.agg (fl [bw Ky,[.bool f]]),.int .u64 r] wr (Vl (.agg (kc D)) wr) from by rw [unhide hD]; exact ydropf_ok r hr Ky hKy (unhide hKb) f wr ((unhide hF).gr hB.gr))).mono ?_)
  rintro r_ u3 ⟨rfl,hg⟩
  replace hB:=hB.more hg
  clear hg
  refine ⟨_,rfl,?_⟩
  simp only [nrm]
  refine list_valw (.pointer (some ⟨u3.heap.size,0,none⟩)) (u3.alloc (.cells (kc Z16) 33 (0,0))) (by kernel_rfl) (by kernel_rfl) ?_
  replace hB:=hB.new (kc Z16) 33
  simp only [List.nil_append,List.cons_append] at hB
  generalize World.alloc _ _=u4 at *
  generalize u3.heap.size=g11 at *
  replace hB:Bl w [⟨w.heap.size,fl [bw Ky,[.bool f]],25⟩,⟨w.heap.size+1,fl [[.int .i64 0],[.int .u32 0],[.int .u32 0],bw Z105],30⟩,⟨g8,fl [[.int .i64 0],[.int .u32 0],[.int .u32 0],bw Z105],30⟩,⟨g11,kc Z16,33⟩] u4:=hB
  simp only [nrm]
  refine list_store 33 (.tmp 11) (.tmp 41) (g11) (kc D) 33 (kc Z16) (by kernel_rfl) rfl (by kernel_rfl) (by kernel_rfl) (hB.get 3 (x:=⟨g11,kc Z16,33⟩) rfl) (by rw [Tryz.infoDrop,kc_size,hDl]) (by rw [kc_size,kc_size,(show List.length Z16=16 from rfl),hDl]) (kc_one _) ?_
  replace hB:=hB.set 3 (x:=⟨g11,kc Z16,33⟩) rfl (kc D)
  simp only [List.set_cons_zero,List.set_cons_succ] at hB
  generalize World.setRow _ _ _=u5 at *
  replace hB:Bl w [⟨w.heap.size,fl [bw Ky,[.bool f]],25⟩,⟨w.heap.size+1,fl [[.int .i64 0],[.int .u32 0],[.int .u32 0],bw Z105],30⟩,⟨g8,fl [[.int .i64 0],[.int .u32 0],[.int .u32 0],bw Z105],30⟩,⟨g11,kc D,33⟩] u5:=hB
  simp only [nrm]
  refine wpList_nil ?_
  replace hB:=hide hB
  go_upto_region 14 with fail
  replace hB:=unhide hB
  refine any_start (S:=fun v_=>v_.heap[w.heap.size]?=some (.cells (fl [bw Ky,[.bool f]]) 25 (0,0))) (by kernel_rfl) ?_
  replace hB:=hB.drew
  generalize World.drew _=u6 at *
  simp only [List.size_toArray,List.length_cons,List.length_nil,Array.replicate,List.replicate]
  have hS_:=hide (show (fun v_=>v_.heap[w.heap.size]?=some (.cells (fl [bw Ky,[.bool f]]) 25 (0,0))) u6 from (hB.get 0 (x:=⟨w.heap.size,fl [bw Ky,[.bool f]],25⟩) rfl))
  refine any_tk 0 (.agg (fl [bw Ky,[.bool f]])) (tf 16 0) rfl (fun x_ hu=>exec_sw _ 25 (.tmp 3) rfl (w.heap.size) (by kernel_rfl) hu NP (nP hKy _) Tryz.underlying25 rfl (by kernel_rfl)) (unhide hS_) ?_
  simp only [nrm]
  refine any_tk 1 (.int .u64 r) (tf 16 1) rfl (fun x_ hu=>by kernel_rfl) (unhide hS_) ?_
  simp only [nrm]
  refine any_tk 2 (.pointer (some ⟨w.heap.size,32,none⟩)) (tf 16 2) rfl (fun x_ hu=>by kernel_rfl) (unhide hS_) ?_
  simp only [nrm]
  refine any_tk 3 (.bool f) (tf 16 3) rfl (fun x_ hu=>exec_cb _ (.tmp 45) rfl (w.heap.size) 32 (by kernel_rfl) f (seg_cell (nP hKy _) hu 1 (v:=.bool f) rfl rfl)) (unhide hS_) ?_
  simp only [nrm]
  refine any_tk 4 (.bool (!f)) (tf 16 4) rfl (fun x_ hu=>by kernel_rfl) (unhide hS_) ?_
  simp only [nrm]
  refine any_tk 6 (.int .u64 r) (tf 16 5) rfl (fun x_ hu=>by kernel_rfl) (unhide hS_) ?_
  simp only [nrm]
  refine any_tk 8 (.slice (some ⟨g11,0,none⟩) 16 16) #[true,true,true,true,true,false,true,false,false,false,false,false,false,false,false,false] rfl (fun x_ hu=>by kernel_rfl) (unhide hS_) ?_
  simp only [nrm]
  refine any_tk 9 (.slice (some ⟨p,o,none⟩) 130 c) #[true,true,true,true,true,false,true,false,true,false,false,false,false,false,false,false] rfl (fun x_ hu=>by kernel_rfl) (unhide hS_) ?_
  simp only [nrm]
  refine any_one (i:=5) (by kernel_rfl) rfl (fun K hK=>?_)
  refine step_callw (by kernel_rfl) 26 #[.agg (fl [bw Ky,[.bool f]]),.int .u64 r,.bool (!f)] (by kernel_rfl) (((show Calls Tryz.prog 26 #[.agg (fl [bw Ky,[.bool f]]),.int .u64 r,.bool (!f)] u6 (Vl (.agg (kc Y)) u6) from by rw [unhide hY,← key_f]; exact ykeyf_ok (!f) r hr Ky hKy (unhide hKb) f u6 ((unhide hF).gr hB.gr))).mono ?_)
  rintro r_ u7 ⟨rfl,hg⟩
  replace hB:=hB.more hg
  clear hg
  refine ⟨_,rfl,?_⟩
  clear hS_
  have hS_:=hide (show (fun v_=>v_.heap[w.heap.size]?=some (.cells (fl [bw Ky,[.bool f]]) 25 (0,0))) u7 from (hB.get 0 (x:=⟨w.heap.size,fl [bw Ky,[.bool f]],25⟩) rfl))
  refine hK.out _ _ (unhide hS_) (fun _=>?_)
  clear hK K
  simp only [nrm]
  refine any_one (i:=7) (by kernel_rfl) rfl (fun K hK=>?_)
  refine step_callw (by kernel_rfl) 27 #[.int .u64 r] (by kernel_rfl) (((show Calls Tryz.prog 27 #[.int .u64 r] u7 (Vl (.agg (kc N)) u7) from by rw [unhide hN]; exact ynonce_ok r hr u7)).mono ?_)
  rintro r_ u8 ⟨rfl,hg⟩
  replace hB:=hB.more hg
  clear hg
  refine ⟨_,rfl,?_⟩
  clear hS_
  have hS_:=hide (show (fun v_=>v_.heap[w.heap.size]?=some (.cells (fl [bw Ky,[.bool f]]) 25 (0,0))) u8 from (hB.get 0 (x:=⟨w.heap.size,fl [bw Ky,[.bool f]],25⟩) rfl))
  refine hK.out _ _ (unhide hS_) (fun _=>?_)
  clear hK K
  simp only [nrm]
  refine any_one (i:=10) (by kernel_rfl) rfl (fun K hK=>?_)
  refine step_callw (by kernel_rfl) 32 #[.agg (kc Y),.agg (kc N),.slice (some ⟨g11,0,none⟩) 16 16,.slice (some ⟨p,o,none⟩) 130 c] (by kernel_rfl) ((ropen_yes Y N hYl hNl (unhide hYb) (unhide hNb) D P (unhide hPb) (some ⟨g11,0,none⟩) (some ⟨p,o,none⟩) 16 130 16 c (by decide) (by decide) u8 (kc_lb (hB.get 3 (x:=⟨g11,kc D,33⟩) rfl) hDl (unhide hDb) (by decide)) (show Lb u8 (some ⟨p,o,none⟩) 130 c (sealL Y N D P) from (unhide hL) ▸ (unhide lp).gr hB.gr)).mono ?_)
  rintro r_ u9 ⟨v1,rfl,ho,hg⟩
  replace hB:=hB.more hg
  clear hg
  obtain ⟨a1,c1,rfl,l1⟩:=ho.lb' (unhide hPb) 114 hPl
  obtain ⟨p1,q1,rfl,l1⟩:=l1.some (by decide)
  clear ho
  replace l1:=hide l1
  have hs1:Hid (Sn u9 u9):=Gr.refl _
  refine ⟨_,rfl,?_⟩
  clear hS_
  have hS_:=hide (show (fun v_=>v_.heap[w.heap.size]?=some (.cells (fl [bw Ky,[.bool f]]) 25 (0,0))) u9 from (hB.get 0 (x:=⟨w.heap.size,fl [bw Ky,[.bool f]],25⟩) rfl))
  refine hK.out _ _ (unhide hS_) (fun _=>?_)
  clear hK K
  simp only [nrm]
  refine any_tk 11 (.tuple #[.slice (some ⟨p1,q1,none⟩) 114 c1,.bool true]) (tf 16 11) rfl (fun x_ hu=>by kernel_rfl) (unhide hS_) ?_
  simp only [nrm]
  refine any_tk 12 (.slice (some ⟨p1,q1,none⟩) 114 c1) (tf 16 12) rfl (fun x_ hu=>by kernel_rfl) (unhide hS_) ?_
  simp only [nrm]
  refine any_tk 13 (.bool true) (tf 16 13) rfl (fun x_ hu=>by kernel_rfl) (unhide hS_) ?_
  simp only [nrm]
  refine any_one (i:=14) (by kernel_rfl) rfl (fun K hK=>?_)
  replace hK:=hide hK
  go_simp
  refine (unhide hK).out _ _ (unhide hS_) (fun _=>?_)
  clear hK K
  simp only [nrm]
  refine any_one (i:=15) (by kernel_rfl) rfl (fun K hK=>?_)
  replace hK:=hide hK
  go_simp
  refine (unhide hK).out _ _ (unhide hS_) (fun _=>?_)
  clear hK K
  simp only [nrm]
  refine any_done (by kernel_rfl) ?_
  clear hS_
  replace hB:=hide hB
  go_upto_region 15 with fail
  replace hB:=unhide hB
  refine wp_region_lit ?_
  refine lvk (.bool true) ?_
  simp only [nrm]
  refine lvk (.bool false) ?_
  simp only [nrm]
  refine wpList_nil ?_
  have hc1:114≤c1:=(unhide l1).cap
  have hk0:0≤ek∧ek<256:=by
   rw [← unhide hek,List.getD_eq_getElem?_getD,List.getElem?_eq_getElem (by omega)]
   exact (unhide hPb) _ (List.getElem_mem _)
  have hea4:U4 ea:=by rw [← unhide hea]; exact lowN_u4 (sub_isB (unhide hPb) 1 4) (sub_len hPl (by decide))
  have hes4:U4 es:=by rw [← unhide hes]; exact lowN_u4 (sub_isB (unhide hPb) 5 4) (sub_len hPl (by decide))
  replace hB:=hide hB
  go_upto_region 17 with fail
  replace hB:=unhide hB
  refine any_start (S:=fun v_=>v_.cell? ⟨p1,q1+0,none⟩=some (.int .u8 ek)) (by kernel_rfl) ?_
  replace hs1:=hide ((unhide hs1).gr ((Gr.refl u9).drew))
  replace hB:=hB.drew
  generalize World.drew _=u10 at *
  have hB0:=hide hB
  have hsz_:Hid (Sz u10.heap.size u10):=Nat.le_refl _
  have hgs1:=(unhide hs1).size
  simp only [List.size_toArray,List.length_cons,List.length_nil,Array.replicate,List.replicate]
  refine any_take (i:=0) (v:=(.slice (some ⟨p1,q1,none⟩) 114 c1)) (tf 15 0) rfl (by kernel_rfl) (by kernel_rfl) (by kernel_rfl) (by kernel_rfl) (fun _ _ _ h=>h) (.inl ⟨by kernel_rfl,fun x_ hu=>by kernel_rfl⟩) (show _ from by have h:=lb_cell ((unhide l1).gr (unhide hs1).g) 0 (by decide); rw [unhide hek] at h; exact h) ?_
  simp only [nrm]
  refine any_take (i:=1) (v:=(.pointer (some ⟨p1,q1+0,none⟩))) (tf 15 1) rfl (by kernel_rfl) (by kernel_rfl) (by kernel_rfl) (by kernel_rfl) (fun _ _ _ h=>h) (.inl ⟨by kernel_rfl,fun x_ hu=>exec_at _ (.tmp 59) (.const (.int .i64 0)) rfl p1 q1 114 c1 0 (by kernel_rfl) (by kernel_rfl) (by decide)⟩) (show _ from by have h:=lb_cell ((unhide l1).gr (unhide hs1).g) 0 (by decide); rw [unhide hek] at h; exact h) ?_
  simp only [nrm]
  refine any_take (i:=2) (v:=(.int .u8 ek)) (tf 15 2) rfl (by kernel_rfl) (by kernel_rfl) (by kernel_rfl) (by kernel_rfl) (fun _ _ _ h=>h) (.inl ⟨by kernel_rfl,fun x_ hu=>exec_u8 _ (.tmp 60) rfl p1 (q1+0) (by kernel_rfl) ek hu⟩) (show _ from by have h:=lb_cell ((unhide l1).gr (unhide hs1).g) 0 (by decide); rw [unhide hek] at h; exact h) ?_
  simp only [nrm]
  refine any_take (i:=3) (v:=(.int .i64 ek)) (tf 15 3) rfl (by kernel_rfl) (by kernel_rfl) (by kernel_rfl) (by kernel_rfl) (fun _ _ _ h=>h) (.inl ⟨by kernel_rfl,fun x_ hu=>conv_8i _ (.tmp 61) ek rfl (by kernel_rfl) hk0⟩) (show _ from by have h:=lb_cell ((unhide l1).gr (unhide hs1).g) 0 (by decide); rw [unhide hek] at h; exact h) ?_
  simp only [nrm]
  refine any_take (i:=4) (v:=(.slice (some ⟨p1,q1,none⟩) 114 c1)) (tf 15 4) rfl (by kernel_rfl) (by kernel_rfl) (by kernel_rfl) (by kernel_rfl) (fun _ _ _ h=>h) (.inl ⟨by kernel_rfl,fun x_ hu=>by kernel_rfl⟩) (show _ from by have h:=lb_cell ((unhide l1).gr (unhide hs1).g) 0 (by decide); rw [unhide hek] at h; exact h) ?_
  simp only [nrm]
  refine any_take (i:=5) (v:=(.slice (some ⟨p1,q1+1,none⟩) 4 (c1 - 1))) (tf 15 5) rfl (by kernel_rfl) (by kernel_rfl) (by kernel_rfl) (by kernel_rfl) (fun _ _ _ h=>h) (.inl ⟨by kernel_rfl,fun x_ hu=>exec_winl _ (.tmp 63) (.const (.int .i64 1)) (.const (.int .i64 5)) rfl p1 q1 114 c1 1 5 4 (by kernel_rfl) (by kernel_rfl) (by kernel_rfl) rfl (by decide) (by omega)⟩) (show _ from by have h:=lb_cell ((unhide l1).gr (unhide hs1).g) 0 (by decide); rw [unhide hek] at h; exact h) ?_
  simp only [nrm]
  refine any_take (i:=8) (v:=(.slice (some ⟨p1,q1,none⟩) 114 c1)) (tf 15 6) rfl (by kernel_rfl) (by kernel_rfl) (by kernel_rfl) (by kernel_rfl) (fun _ _ _ h=>h) (.inl ⟨by kernel_rfl,fun x_ hu=>by kernel_rfl⟩) (show _ from by have h:=lb_cell ((unhide l1).gr (unhide hs1).g) 0 (by decide); rw [unhide hek] at h; exact h) ?_
  simp only [nrm]
  refine any_take (i:=9) (v:=(.slice (some ⟨p1,q1+5,none⟩) 4 (c1 - 5))) #[true,true,true,true,true,true,false,false,true,false,false,false,false,false,false] rfl (by kernel_rfl) (by kernel_rfl) (by kernel_rfl) (by kernel_rfl) (fun _ _ _ h=>h) (.inl ⟨by kernel_rfl,fun x_ hu=>exec_winl _ (.tmp 67) (.const (.int .i64 5)) (.const (.int .i64 9)) rfl p1 q1 114 c1 5 9 4 (by kernel_rfl) (by kernel_rfl) (by kernel_rfl) rfl (by decide) (by omega)⟩) (show _ from by have h:=lb_cell ((unhide l1).gr (unhide hs1).g) 0 (by decide); rw [unhide hek] at h; exact h) ?_
  simp only [nrm]
  refine float_first (fun q u=>NKf u10.heap.size (fl [[.int .i64 0],[.int .u32 0],[.int .u32 0],bw Z105]) 30 u q) 14 (fun b_=>#[true,true,true,true,true,true,false,false,true,true,false,false,false,b_,false]) 13 6 false rfl rfl (fun v_ g_=>g_.cell (show _ from by have h:=lb_cell ((unhide l1).gr (unhide hs1).g) 0 (by decide); rw [unhide hek] at h; exact h)) (by kernel_rfl) (fun b_=>by cases b_ <;> rfl) ?_ ?_
  all_goals simp only [fw1,Act.put,List.setIfInBounds_toArray,List.set_cons_zero,List.set_cons_succ,List.getElem_toArray,List.getElem_cons_zero,List.getElem_cons_succ]
  ·intro q_ x_ hgx K hK
   refine wpOp_step (o:=_) rfl (fun K' hK'=>?_)
   replace hK':=hide hK'
   replace hK:=hide hK
   refine step_val (.pointer (some ⟨x_.heap.size,0,none⟩)) (x_.alloc (.cells (fl [[.int .i64 0],[.int .u32 0],[.int .u32 0],bw Z105]) 30 (0,0))) (by kernel_rfl) (by kernel_rfl) ?_
   exact unhide hK' _ _ (unhide hK _ _ ((Gr.refl _).alloc _) (⟨_,rfl,Nat.le_trans (unhide hsz_) hgx.size,blk_new _ _⟩))
  intro b1_6 q1_6 x1_6 hg hTq hall
  replace hs1:=hide ((unhide hs1).gr hg)
  replace hsz_:=hide ((unhide hsz_).gr hg)
  replace hB:=hB.more hg
  clear hg
  clear hall
  refine wpOp_step (o:=_) rfl (fun K hK=>?_)
  replace hK:=hide hK
  refine step_callw (by kernel_rfl) 33 #[.slice (some ⟨p1,q1+1,none⟩) 4 (c1 - 1)] (by kernel_rfl) (((show Calls Tryz.prog 33 #[.slice (some ⟨p1,q1+1,none⟩) 4 (c1 - 1)] x1_6 (Vl (.int .u64 ea) x1_6) from by rw [← unhide hea]; exact rhighg_ok ((P.drop 1).take 4) _ 4 (c1 - 1) x1_6 (lb_win ((unhide l1).gr (unhide hs1).g) 1 4 (by decide)) (by decide))).mono ?_)
  rintro r u11 ⟨rfl,hg⟩
  refine ⟨_,rfl,?_⟩
  replace hTq:=fun e=>NKf.gr (hTq e) hg
  replace hs1:=hide ((unhide hs1).gr hg)
  replace hsz_:=hide ((unhide hsz_).gr hg)
  replace hB:=hB.more hg
  clear hg
  refine unhide hK _ _ ⟨(show _ from by have h:=lb_cell ((unhide l1).gr (unhide hs1).g) 0 (by decide); rw [unhide hek] at h; exact h),?_⟩
  clear hK K
  simp only [nrm]
  refine any_take (i:=7) (v:=(.int .u32 ea)) #[true,true,true,true,true,true,true,false,true,true,false,false,false,false,false] rfl (by kernel_rfl) (by kernel_rfl) (by kernel_rfl) (by kernel_rfl) (fun _ _ _ h=>h) (.inl ⟨by kernel_rfl,fun x_ hu=>conv_6432 _ (.tmp 65) ea rfl (by kernel_rfl) hea4⟩) (show _ from by have h:=lb_cell ((unhide l1).gr (unhide hs1).g) 0 (by decide); rw [unhide hek] at h; exact h) ?_
  simp only [nrm]
  refine float_again (fun q u=>NKf u10.heap.size (fl [[.int .i64 0],[.int .u32 0],[.int .u32 0],bw Z105]) 30 u q) 14 (fun b_=>#[true,true,true,true,true,true,true,true,true,true,false,false,false,b_,false]) 13 10 false (b:=b1_6) (q:=q1_6) rfl rfl hTq (fun v_ g_=>g_.cell (show _ from by have h:=lb_cell ((unhide l1).gr (unhide hs1).g) 0 (by decide); rw [unhide hek] at h; exact h)) (by kernel_rfl) (fun b_=>by cases b_ <;> rfl) ?_ ?_
  all_goals simp only [fw1,Act.put,List.setIfInBounds_toArray,List.set_cons_zero,List.set_cons_succ,List.getElem_toArray,List.getElem_cons_zero,List.getElem_cons_succ]
  ·intro q_ x_ hgx K hK
   refine wpOp_step (o:=_) rfl (fun K' hK'=>?_)
   replace hK':=hide hK'
   replace hK:=hide hK
   refine step_val (.pointer (some ⟨x_.heap.size,0,none⟩)) (x_.alloc (.cells (fl [[.int .i64 0],[.int .u32 0],[.int .u32 0],bw Z105]) 30 (0,0))) (by kernel_rfl) (by kernel_rfl) ?_
   exact unhide hK' _ _ (unhide hK _ _ ((Gr.refl _).alloc _) (⟨_,rfl,Nat.le_trans (unhide hsz_) hgx.size,blk_new _ _⟩))
  clear hTq
  intro b1_10 q1_10 x1_10 hg hTq hall
  replace hs1:=hide ((unhide hs1).gr hg)
  replace hsz_:=hide ((unhide hsz_).gr hg)
  replace hB:=hB.more hg
  clear hg
  clear hall
  refine wpOp_step (o:=_) rfl (fun K hK=>?_)
  replace hK:=hide hK
  refine step_callw (by kernel_rfl) 33 #[.slice (some ⟨p1,q1+5,none⟩) 4 (c1 - 5)] (by kernel_rfl) (((show Calls Tryz.prog 33 #[.slice (some ⟨p1,q1+5,none⟩) 4 (c1 - 5)] x1_10 (Vl (.int .u64 es) x1_10) from by rw [← unhide hes]; exact rhighg_ok ((P.drop 5).take 4) _ 4 (c1 - 5) x1_10 (lb_win ((unhide l1).gr (unhide hs1).g) 5 4 (by decide)) (by decide))).mono ?_)
  rintro r u12 ⟨rfl,hg⟩
  refine ⟨_,rfl,?_⟩
  replace hTq:=fun e=>NKf.gr (hTq e) hg
  replace hs1:=hide ((unhide hs1).gr hg)
  replace hsz_:=hide ((unhide hsz_).gr hg)
  replace hB:=hB.more hg
  clear hg
  refine unhide hK _ _ ⟨(show _ from by have h:=lb_cell ((unhide l1).gr (unhide hs1).g) 0 (by decide); rw [unhide hek] at h; exact h),?_⟩
  clear hK K
  simp only [nrm]
  refine any_take (i:=11) (v:=(.int .u32 es)) (tf 15 11) rfl (by kernel_rfl) (by kernel_rfl) (by kernel_rfl) (by kernel_rfl) (fun _ _ _ h=>h) (.inl ⟨by kernel_rfl,fun x_ hu=>conv_6432 _ (.tmp 69) es rfl (by kernel_rfl) hes4⟩) (show _ from by have h:=lb_cell ((unhide l1).gr (unhide hs1).g) 0 (by decide); rw [unhide hek] at h; exact h) ?_
  simp only [nrm]
  refine any_take (i:=12) (v:=(.agg (fl [[.int .i64 ek],[.int .u32 ea],[.int .u32 es],bw Z105]))) (tf 15 12) rfl (by kernel_rfl) (by kernel_rfl) (by kernel_rfl) (by kernel_rfl) (fun _ _ _ h=>h) (.inl ⟨by kernel_rfl,fun x_ hu=>bE012 _ (.tmp 62) (.tmp 66) (.tmp 70) rfl (by kernel_rfl) (by kernel_rfl) (by kernel_rfl)⟩) (show _ from by have h:=lb_cell ((unhide l1).gr (unhide hs1).g) 0 (by decide); rw [unhide hek] at h; exact h) ?_
  simp only [nrm]
  refine float_again (fun q u=>NKf u10.heap.size (fl [[.int .i64 0],[.int .u32 0],[.int .u32 0],bw Z105]) 30 u q) 14 (fun b_=>#[true,true,true,true,true,true,true,true,true,true,true,true,true,b_,false]) 13 14 true (b:=b1_10) (q:=q1_10) rfl rfl hTq (fun v_ g_=>g_.cell (show _ from by have h:=lb_cell ((unhide l1).gr (unhide hs1).g) 0 (by decide); rw [unhide hek] at h; exact h)) (by kernel_rfl) (fun b_=>by cases b_ <;> rfl) ?_ ?_
  all_goals simp only [fw1,Act.put,List.setIfInBounds_toArray,List.set_cons_zero,List.set_cons_succ,List.getElem_toArray,List.getElem_cons_zero,List.getElem_cons_succ]
  ·intro q_ x_ hgx K hK
   refine wpOp_step (o:=_) rfl (fun K' hK'=>?_)
   replace hK':=hide hK'
   replace hK:=hide hK
   refine step_val (.pointer (some ⟨x_.heap.size,0,none⟩)) (x_.alloc (.cells (fl [[.int .i64 0],[.int .u32 0],[.int .u32 0],bw Z105]) 30 (0,0))) (by kernel_rfl) (by kernel_rfl) ?_
   exact unhide hK' _ _ (unhide hK _ _ ((Gr.refl _).alloc _) (⟨_,rfl,Nat.le_trans (unhide hsz_) hgx.size,blk_new _ _⟩))
  clear hTq
  intro b1_14 q1_14 x1_14 hg hTq hall
  replace hs1:=hide ((unhide hs1).gr hg)
  replace hsz_:=hide ((unhide hsz_).gr hg)
  replace hB:=hB.more hg
  clear hg
  obtain rfl:b1_14=true:=hall (by trivial)
  replace hTq:=hTq rfl
  clear hall
  obtain ⟨g14,rfl,hge_,hnew_⟩:=hTq
  replace hB:=Bl.joinz (unhide hB0) hB hge_ hnew_
  simp only [List.cons_append,List.nil_append] at hB
  clear hB0 hnew_
  refine wpOp_step (o:=_) rfl (fun K hK=>?_)
  replace hK:=hide hK
  have hzz_:Hid (x1_14.heap[g14]?=some (.cells (fl [[.int .i64 0],[.int .u32 0],[.int .u32 0],bw Z105]) 30 (0,0))):=hide (hB.get 4 (x:=⟨g14,fl [[.int .i64 0],[.int .u32 0],[.int .u32 0],bw Z105],30⟩) rfl)
  refine step_all 30 (.tmp 14) (.tmp 71) (g14) (S2:=[[.int .i64 ek],[.int .u32 ea],[.int .u32 es],bw Z105]) (by kernel_rfl) rfl (by kernel_rfl) (by kernel_rfl) hB 4 rfl NE (nE (show List.length Z105=105 from rfl) _ _ _) (nE (show List.length Z105=105 from rfl) _ _ _) (by kernel_rfl) (oE _ rfl rfl rfl) ?_
  intro u13 hB_ hbt_
  clear hB
  replace hB:Bl w [⟨w.heap.size,fl [bw Ky,[.bool f]],25⟩,⟨w.heap.size+1,fl [[.int .i64 0],[.int .u32 0],[.int .u32 0],bw Z105],30⟩,⟨g8,fl [[.int .i64 0],[.int .u32 0],[.int .u32 0],bw Z105],30⟩,⟨g11,kc D,33⟩,⟨g14,fl [[.int .i64 ek],[.int .u32 ea],[.int .u32 es],bw Z105],30⟩] u13:=hB_
  clear hB_
  replace hs1:=hide ((unhide hs1).bt hbt_ (Nat.le_trans hgs1 hge_))
  clear hbt_ hzz_
  refine unhide hK _ _ ⟨(show _ from by have h:=lb_cell ((unhide l1).gr (unhide hs1).g) 0 (by decide); rw [unhide hek] at h; exact h),?_⟩
  clear hK K
  simp only [nrm]
  refine any_done (by kernel_rfl) ?_
  clear hsz_
  replace hB:=hide hB
  go_upto_region 18 with fail
  replace hB:=unhide hB
  refine any_start (S:=fun v_=>True) (by kernel_rfl) ?_
  replace hs1:=hide ((unhide hs1).gr ((Gr.refl u13).drew))
  replace hB:=hB.drew
  generalize World.drew _=u14 at *
  simp only [List.size_toArray,List.length_cons,List.length_nil,Array.replicate,List.replicate]
  refine any_tk 0 (.pointer (some ⟨g14,3,none⟩)) (tf 5 0) rfl (fun x_ hu=>by kernel_rfl) trivial ?_
  simp only [nrm]
  refine any_tk 1 (.slice (some ⟨g14,3,none⟩) 105 105) (tf 5 1) rfl (fun x_ hu=>by kernel_rfl) trivial ?_
  simp only [nrm]
  refine any_tk 2 (.slice (some ⟨p1,q1,none⟩) 114 c1) (tf 5 2) rfl (fun x_ hu=>by kernel_rfl) trivial ?_
  simp only [nrm]
  refine any_tk 3 (.slice (some ⟨p1,q1+9,none⟩) 105 (c1 - 9)) (tf 5 3) rfl (fun x_ hu=>exec_froml _ (.tmp 74) (.const (.int .i64 9)) rfl p1 q1 114 c1 9 (by kernel_rfl) (by kernel_rfl) (by decide) hc1) trivial ?_
  simp only [nrm]
  refine any_one (i:=4) (by kernel_rfl) rfl (fun K hK=>?_)
  rw [if_pos (by kernel_rfl)]
  refine copy_wp (.tmp 73) (.tmp 75) rfl (g14) 3 105 105 ((some ⟨p1,q1+9,none⟩)) 105 (c1 - 9) (by kernel_rfl) (by kernel_rfl) (([[.int .i64 ek],[.int .u32 ea],[.int .u32 es],bw Z105]:List (List Value)).flatten) 30 (hB.get 4 (x:=⟨g14,fl [[.int .i64 ek],[.int .u32 ea],[.int .u32 es],bw Z105],30⟩) rfl) eB (by rw [heBl]; rfl) ((show Sl _ _ eB from by have h:=(lb_win ((unhide l1).gr (unhide hs1).g) 9 105 (by decide)).sl; rw [unhide heB] at h; exact h)) (by rw [fl_flat (nE (show List.length Z105=105 from rfl) _ _ _),heBl]; decide) ?_
  replace hB:=hB.cells 4 (C:=(([[.int .i64 ek],[.int .u32 ea],[.int .u32 es],bw Z105]:List (List Value)).flatten)) rfl 3 (bw eB)
  rw [show 3=(List.take 3 NE).sum from rfl,seg_set (nE (show List.length Z105=105 from rfl) _ _ _) 3 (bw eB) (by rw [bw_len,heBl]; rfl)] at hB
  simp only [List.set_cons_zero,List.set_cons_succ] at hB
  replace hs1:=hide ((unhide hs1).bt (setCells_bt (List.map (Value.int .u8) eB) u14 g14 3) (Nat.le_trans hgs1 hge_))
  replace hB:Bl w [⟨w.heap.size,fl [bw Ky,[.bool f]],25⟩,⟨w.heap.size+1,fl [[.int .i64 0],[.int .u32 0],[.int .u32 0],bw Z105],30⟩,⟨g8,fl [[.int .i64 0],[.int .u32 0],[.int .u32 0],bw Z105],30⟩,⟨g11,kc D,33⟩,⟨g14,fl [[.int .i64 ek],[.int .u32 ea],[.int .u32 es],bw eB],30⟩] (World.setCells u14 g14 3 (List.map (Value.int .u8) eB)):=hB
  generalize World.setCells u14 g14 3 (List.map (Value.int .u8) eB)=u15 at *
  refine hK.out _ _ trivial (fun _=>?_)
  clear hK K
  simp only [nrm]
  refine any_done (by kernel_rfl) ?_
  replace hB:=hide hB
  go_upto_region 19 with fail
  replace hB:=unhide hB
  refine wp_region_lit ?_
  refine list_val (.agg (fl [[.int .i64 ek],[.int .u32 ea],[.int .u32 es],bw eB])) (by kernel_rfl) (exec_sw _ 30 (.tmp 14) rfl (g14) (by kernel_rfl) (hB.get 4 (x:=⟨g14,fl [[.int .i64 ek],[.int .u32 ea],[.int .u32 es],bw eB],30⟩) rfl) NE (nE heBl _ _ _) Tryz.underlying30 rfl (by kernel_rfl)) ?_
  simp only [nrm]
  refine list_call 8 #[.agg (fl [[.int .i64 ek],[.int .u32 ea],[.int .u32 es],bw eB])] (by kernel_rfl) (by kernel_rfl) (((show Calls Tryz.prog 8 #[.agg (fl [[.int .i64 ek],[.int .u32 ea],[.int .u32 es],bw eB])] u15 (Vl (.bool true) u15) from by have h:=yright_ok ek ea es eB heBl u15; rw [unhide he] at h; exact h)).mono ?_)
  rintro r_ u16 ⟨rfl,hg⟩
  replace hB:=hB.more hg
  clear hg
  refine ⟨_,rfl,?_⟩
  simp only [nrm]
  refine lvk (.bool false) ?_
  simp only [nrm]
  refine wpList_nil ?_
  replace hB:=hide hB
  go_upto_region 21 with fail
  replace hB:=unhide hB
  refine wp_region_lit ?_
  refine list_val (.agg (fl [[.int .i64 ek],[.int .u32 ea],[.int .u32 es],bw eB])) (by kernel_rfl) (exec_sw _ 30 (.tmp 14) rfl (g14) (by kernel_rfl) (hB.get 4 (x:=⟨g14,fl [[.int .i64 ek],[.int .u32 ea],[.int .u32 es],bw eB],30⟩) rfl) NE (nE heBl _ _ _) Tryz.underlying30 rfl (by kernel_rfl)) ?_
  simp only [nrm]
  refine list_all 30 (.tmp 6) (.tmp 81) (w.heap.size+1) (S2:=[[.int .i64 ek],[.int .u32 ea],[.int .u32 es],bw eB]) (by kernel_rfl) rfl (by kernel_rfl) (by kernel_rfl) hB 1 rfl NE (nE (show List.length Z105=105 from rfl) _ _ _) (nE heBl _ _ _) (by kernel_rfl) (oE _ rfl rfl rfl) ?_
  intro u17 hB_ hbt_
  clear hB
  replace hB:Bl w [⟨w.heap.size,fl [bw Ky,[.bool f]],25⟩,⟨w.heap.size+1,fl [[.int .i64 ek],[.int .u32 ea],[.int .u32 es],bw eB],30⟩,⟨g8,fl [[.int .i64 0],[.int .u32 0],[.int .u32 0],bw Z105],30⟩,⟨g11,kc D,33⟩,⟨g14,fl [[.int .i64 ek],[.int .u32 ea],[.int .u32 es],bw eB],30⟩] u17:=hB_
  clear hB_
  clear hbt_
  simp only [nrm]
  (refine wpList_step fun K hK=>?_; replace hK:=hide hK; go_simp; refine unhide hK _ _ ?_; clear hK K)
  refine wpList_nil ?_
  replace hB:=hide hB
  go_wp2_with fail
  replace hB:=unhide hB
  rw [unhide hT]
  exact bodyPost_ret (v:=.tuple #[.agg (fl [[.int .i64 ek],[.int .u32 ea],[.int .u32 es],bw eB]),.int .i64 0]) (res2 Tryz.results11 (rv_cell (by kernel_rfl) (hB.get 1 (x:=⟨w.heap.size+1,fl [[.int .i64 ek],[.int .u32 ea],[.int .u32 es],bw eB],30⟩) rfl) Tryz.underlying30 rfl (by rw [fl_size (nE heBl _ _ _)]; kernel_rfl)) (rv_tmp (by kernel_rfl))) rfl (⟨rfl,hB.gr⟩)
end Go.Proofs.YthahhglbeafkmaaGreatDoor
