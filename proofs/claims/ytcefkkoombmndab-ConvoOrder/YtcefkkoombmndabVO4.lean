/-
  What the proof leans on.
-/
import Derived.Lib.Overlaps
import Derived.Lib.AppendZerosOnto
import Derived.Laws.IdiomCopy
import Derived.Laws.Externs
import Derived.Test.YtcefkkoombmndabVO3
namespace Go.Proofs.Ytcefkkoombmndab
open Go.RowKit
set_option maxRecDepth 100000
set_option linter.unusedSimpArgs false
set_option linter.unusedVariables false
theorem exec_frO {a:Act} {o:Oper} (w:World) (x y:Operand) (ho:o.op=.slice 23 x (some y) none none) (s:Option Addr) (len cap n:Nat) (hx:a.eval x=.slice s len cap) (hy:a.eval y=.int .i64 n) (hc:len≤cap) (hn:n≤len) :
  (execOp a.eval o).run Try.prog w=.ok (.value (.slice (if cap=n then s else s.map (·.add (n * 106))) (len - n) (cap - n))) w:=by
 have h1:(0:Int)≤n:=by omega
 have h2:(n:Int)≤len:=by omega
 have hu:Try.prog.underlying 23=some (.slice (Try.prog.elem 23)):=by kernel_rfl
 have hz:(sizeOf (Try.prog.elem 23)).run Try.prog w=.ok 106 w:=by kernel_rfl
 simp [execOp,ho,hx,hy,run_sliceAt_slice _ _ _ _ _ _ hu,run_slice_l _ _ _ _ _ hu _ _ h1 h2,hz,sliced]
theorem exec_frI {a:Act} {o:Oper} (w:World) (x y:Operand) (ho:o.op=.slice 24 x (some y) none none) (s:Option Addr) (len cap n:Nat) (hx:a.eval x=.slice s len cap) (hy:a.eval y=.int .i64 n) (hc:len≤cap) (hn:n≤len) :
  (execOp a.eval o).run Try.prog w=.ok (.value (.slice (if cap=n then s else s.map (·.add (n * 2))) (len - n) (cap - n))) w:=by
 have h1:(0:Int)≤n:=by omega
 have h2:(n:Int)≤len:=by omega
 have hu:Try.prog.underlying 24=some (.slice (Try.prog.elem 24)):=by kernel_rfl
 have hz:(sizeOf (Try.prog.elem 24)).run Try.prog w=.ok 2 w:=by kernel_rfl
 simp [execOp,ho,hx,hy,run_sliceAt_slice _ _ _ _ _ _ hu,run_slice_l _ _ _ _ _ hu _ _ h1 h2,hz,sliced]
theorem conv_i64r {a:Act} {o:Oper} (w:World) (x:Operand) (m:Int) (ho:o.op=.convert 22 3 x) (hx:a.eval x=.int .u32 m) (h:0≤m∧m<4294967296) (r:Int) (hr:m=r):(execOp a.eval o).run Try.prog w=.ok (.value (.int .i64 r)) w:=by
 subst hr
 exact conv_i64 w x m ho hx h
def frA (k:Nat) (a:Option Addr) (c n:Nat):Option Addr:=if c=n then a else a.map (·.add (n * k))
theorem frA_some (k p o c n:Nat) (h:n<c):frA k (some ⟨p,o,none⟩) c n=some ⟨p,o+k * n,none⟩:=by
 unfold frA
 rw [if_neg (by omega),Option.map_some,add_some,Nat.mul_comm]
theorem Lz.from_ {k:Nat} {w:World} {a:Option Addr} {n c:Nat} {R:List (List Value)} (h:Lz k w a n c R) (m:Nat) (hm:m≤n):Lz k w (frA k a c m) (n - m) (c - m) (R.drop m):=by
 have hcap:=h.cap
 have hmax:=h.max
 refine ⟨by rw [List.length_drop,h.len],fun r hr=>h.row r (List.mem_of_mem_drop hr),?_,by omega,by omega⟩
 by_cases he:m=n
 ·left
  exact List.drop_eq_nil_of_le (by rw [h.len,he]; exact Nat.le_refl _)
 ·rcases h.sl with h1 | ⟨p,o,rfl,h2⟩
  ·left; rw [h1]; simp
  ·refine .inr ⟨p,o+k * m,frA_some k p o c m (by omega),fun j x hj=>?_⟩
   have h3:R.flatten[k * m+j]?=some x:=by
    have h4:=List.take_append_drop m R
    rw [← h4,List.flatten_append,List.getElem?_append_right (by
     rw [flat_len _ k (fun r hr=>h.row r (List.mem_of_mem_take hr)),List.length_take,h.len,Nat.min_eq_left hm,Nat.mul_comm]
     omega)]
    rw [flat_len _ k (fun r hr=>h.row r (List.mem_of_mem_take hr)),List.length_take,h.len,Nat.min_eq_left hm,Nat.mul_comm m k]
    rw [show k * m+j - k * m=j by omega]
    exact hj
   have:=h2 (k * m+j) x h3
   rwa [← Nat.add_assoc] at this
theorem Ow.from_ {k:Nat} {e:TypeId} {b:Nat} {w:World} {a:Option Addr} {n c:Nat} (h:Ow k e b w a n) (m:Nat) (hm:m≤n) (hc:n≤c):Ow k e b w (frA k a c m) (n - m):=by
 by_cases he:m=n
 ·left; omega
 ·rcases h with h | ⟨q,o,C,rfl,h2,h3,h4⟩
  ·left; omega
  ·refine .inr ⟨q,o+k * m,C,frA_some k q o c m (by omega),h2,h3,?_⟩
   rw [Nat.add_assoc,← Nat.mul_add,show m+(n - m)=n by omega]
   exact h4
theorem Co.drop {b:Nat} {w:World} {c:Cm} {x:Lc} (h:Co b w c x) (m:Nat) (hm:m≤x.no):Co b w { c with O:=c.O.drop m } ⟨frA 106 x.ao x.co m,x.no - m,x.co - m,x.ah,x.nh,x.ch⟩ :=
 ⟨⟨⟨fun s hs=>h.i.o.1 s (List.mem_of_mem_drop hs),by have:=h.i.o.2.from_ m hm; rwa [← List.map_drop] at this⟩,h.i.h,h.i.nx,h.i.tn,h.i.dl⟩,⟨h.o.o.from_ m hm h.i.o.2.cap,h.o.h⟩⟩
theorem Co.tn {b:Nat} {w:World} {c:Cm} {x:Lc} (h:Co b w c x) (t:Int) (ht : -9223372036854775808≤t∧t<9223372036854775808):Co b w { c with tn:=t } x:=⟨⟨h.i.o,h.i.h,h.i.nx,ht,h.i.dl⟩,h.o⟩
theorem seqs_at:∀ (L:List Ot) (k:Int) (i:Nat) (s:Ot),seqs k L=true→L[i]?=some s→s.n=k+(i:Int)
 | [],_,_,_,_,h=>by simp at h
 | o::L,k,0,s,h,hi=>by
  simp only [seqs,Bool.and_eq_true,decide_eq_true_eq] at h
  simp only [List.getElem?_cons_zero,Option.some.injEq] at hi
  rw [← hi]
  simpa using h.1
 | o::L,k,i+1,s,h,hi=>by
  simp only [seqs,Bool.and_eq_true,decide_eq_true_eq] at h
  rw [List.getElem?_cons_succ] at hi
  have:=seqs_at L (k+1) i s h.2 hi
  omega
def gk (c:Cm) (n:Int):Nat:=(n - (c.nx - c.O.length)).toNat
def ak (c:Cm) (n:Int):Cm × Int × Int :=
 if rt c=false then (cz,0,281) else if c.nx<n then (cz,0,280) else ({ c with O:=c.O.drop (gk c n),tn:=c.tn - min (gk c n:Int) c.tn },gk c n,0)
theorem ak_no {c:Cm} (n:Int) (h:rt c=false):ak c n=(cz,0,281):=by unfold ak; rw [if_pos h]
theorem ak_far {c:Cm} {n:Int} (h:rt c=true) (h2:c.nx<n):ak c n=(cz,0,280):=by unfold ak; rw [if_neg (by rw [h]; decide),if_pos h2]
theorem ak_yes {c:Cm} {n:Int} (h:rt c=true) (h2:¬ c.nx<n) (g:Nat) (hg:gk c n=g):ak c n=({ c with O:=c.O.drop g,tn:=c.tn - min (g:Int) c.tn },(g:Int),0):=by unfold ak; rw [if_neg (by rw [h]; decide),if_neg h2,hg]
set_option maxHeartbeats 4000000 in
theorem packed_ok (c:Cm) (x:Lc) (n:Int) (hn9:0≤n∧n<4294967296) (w:World) (hc:Cin w c x):Calls Try.prog 21 #[.agg (fl [[.int .u32 c.nx],[.slice x.ao x.no x.co],[.int .i64 c.tn],[.int .u32 c.dl],[.slice x.ah x.nh x.ch]]),.int .u32 n] w (Rc (ak c n).1 [.int .i64 (ak c n).2.1,.int .i64 (ak c n).2.2] w):=by
 obtain ⟨T,hT⟩:∃ T:Ending→World→Prop,T=(Rc (ak c n).1 [.int .i64 (ak c n).2.1,.int .i64 (ak c n).2.2] w):=⟨_,rfl⟩
 rw [← hT]
 replace hT:=hide hT
 have hn:=hc.o.len
 have hnx:=hc.nx
 replace hc:=hide hc
 obtain ⟨A0_,hA0_⟩:∃ S_,S_=fl [[.int .u32 c.nx],[.slice x.ao x.no x.co],[.int .i64 c.tn],[.int .u32 c.dl],[.slice x.ah x.nh x.ch]]:=⟨_,rfl⟩
 rw [← hA0_]
 replace hA0_:=hide hA0_
 go_enter Try.func21,Try.ntmps21
 go_upto_region 1 with fail
 have hB:=(((Bl.nil w).new A0_ 26).new (fl [[.int .u32 0],[.slice none 0 0],[.int .i64 0],[.int .u32 0],[.slice none 0 0]]) 26)
 simp only [size_alloc,List.nil_append,List.cons_append] at hB
 rw [unhide hA0_] at hB
 generalize hu_:World.alloc _ _=u0
 replace hB:Bl w [⟨w.heap.size,fl [[.int .u32 c.nx],[.slice x.ao x.no x.co],[.int .i64 c.tn],[.int .u32 c.dl],[.slice x.ah x.nh x.ch]],26⟩,⟨w.heap.size+1,fl [[.int .u32 0],[.slice none 0 0],[.int .i64 0],[.int .u32 0],[.slice none 0 0]],26⟩] u0:=by
  rw [← hu_]
  rw [unhide hA0_]
  exact hB
 clear hu_ hA0_
 cases h1:rt c with
 | false =>
  have hk:=chk_f h1
  have hv:=ak_no n h1
  refine wp_region_lit ?_
  refine list_val (.agg (fl [[.int .u32 c.nx],[.slice x.ao x.no x.co],[.int .i64 c.tn],[.int .u32 c.dl],[.slice x.ah x.nh x.ch]])) (by kernel_rfl) (exec_sw _ 26 (.tmp 2) rfl (w.heap.size) (by kernel_rfl) (hB.get 0 (x:=⟨w.heap.size,fl [[.int .u32 c.nx],[.slice x.ao x.no x.co],[.int .i64 c.tn],[.int .u32 c.dl],[.slice x.ah x.nh x.ch]],26⟩) rfl) NC (nC  _ _ _ _ _) Try.underlying26 rfl (by kernel_rfl)) ?_
  simp only [nrm]
  refine list_call 8 #[.agg (fl [[.int .u32 c.nx],[.slice x.ao x.no x.co],[.int .i64 c.tn],[.int .u32 c.dl],[.slice x.ah x.nh x.ch]])] (by kernel_rfl) (by kernel_rfl) (((show Calls Try.prog 8 #[.agg (fl [[.int .u32 c.nx],[.slice x.ao x.no x.co],[.int .i64 c.tn],[.int .u32 c.dl],[.slice x.ah x.nh x.ch]])] u0 (Vl (.int .i64 281) u0) from hk ▸ check_ok c x u0 ((unhide hc).gr hB.gr))).mono ?_)
  rintro r_ u1 ⟨rfl,hg⟩
  replace hB:=hB.more hg
  clear hg
  refine ⟨_,rfl,?_⟩
  simp only [nrm]
  (refine wpList_step fun K hK=>?_; replace hK:=hide hK; go_simp; refine unhide hK _ _ ?_; clear hK K)
  refine wpList_nil ?_
  replace hB:=hide hB
  go_upto_region 2 with fail
  replace hB:=unhide hB
  refine wp_region_lit ?_
  refine lvk (.int .i64 281) ?_
  simp only [nrm]
  refine list_val (.bool true) (by kernel_rfl) (neq_e _ (.tmp 12) (.const (.int .i64 0)) 281 0 true rfl (by kernel_rfl) (by kernel_rfl) (by decide)) ?_
  simp only [nrm]
  refine wpList_nil ?_
  replace hB:=hide hB
  go_upto_region 3 with fail
  replace hB:=unhide hB
  refine wp_region_lit ?_
  refine list_val (.agg (fl [[.int .u32 0],[.slice none 0 0],[.int .i64 0],[.int .u32 0],[.slice none 0 0]])) (by kernel_rfl) (bC _ rfl) ?_
  simp only [nrm]
  refine lvk (.int .i64 281) ?_
  simp only [nrm]
  refine list_all 26 (.tmp 4) (.tmp 14) (w.heap.size+1) (S2:=[[.int .u32 0],[.slice none 0 0],[.int .i64 0],[.int .u32 0],[.slice none 0 0]]) (by kernel_rfl) rfl (by kernel_rfl) (by kernel_rfl) hB 1 rfl NC (nC  _ _ _ _ _) (nC  _ _ _ _ _) (by kernel_rfl) (oC  rfl rfl rfl rfl rfl) ?_
  intro u2 hB_ hbt_
  clear hB
  replace hB:Bl w [⟨w.heap.size,fl [[.int .u32 c.nx],[.slice x.ao x.no x.co],[.int .i64 c.tn],[.int .u32 c.dl],[.slice x.ah x.nh x.ch]],26⟩,⟨w.heap.size+1,fl [[.int .u32 0],[.slice none 0 0],[.int .i64 0],[.int .u32 0],[.slice none 0 0]],26⟩] u2:=hB_
  clear hB_
  clear hbt_
  simp only [nrm]
  (refine wpList_step fun K hK=>?_; replace hK:=hide hK; go_simp; refine unhide hK _ _ ?_; clear hK K)
  (refine wpList_step fun K hK=>?_; replace hK:=hide hK; go_simp; refine unhide hK _ _ ?_; clear hK K)
  refine wpList_nil ?_
  replace hB:=hide hB
  go_wp2_with fail
  replace hB:=unhide hB
  rw [unhide hT]
  rw [hv]
  exact bodyPost_ret (v:=.tuple #[.agg (fl [[.int .u32 0],[.slice none 0 0],[.int .i64 0],[.int .u32 0],[.slice none 0 0]]),.int .i64 0,.int .i64 281]) (res3 Try.results21 (rv_cell (by kernel_rfl) (hB.get 1 (x:=⟨w.heap.size+1,fl [[.int .u32 0],[.slice none 0 0],[.int .i64 0],[.int .u32 0],[.slice none 0 0]],26⟩) rfl) Try.underlying26 rfl (by rw [fl_size (nC  _ _ _ _ _)]; kernel_rfl)) (rv_tmp (by kernel_rfl)) (rv_tmp (by kernel_rfl))) rfl (⟨xz,rfl,cin_z _,owx_z _ _,hB.gr⟩)
 | true =>
  have hk:=chk_t h1
  have hle:=rt_le h1
  rw [hn] at hle
  replace h1:=hide h1
  refine wp_region_lit ?_
  refine list_val (.agg (fl [[.int .u32 c.nx],[.slice x.ao x.no x.co],[.int .i64 c.tn],[.int .u32 c.dl],[.slice x.ah x.nh x.ch]])) (by kernel_rfl) (exec_sw _ 26 (.tmp 2) rfl (w.heap.size) (by kernel_rfl) (hB.get 0 (x:=⟨w.heap.size,fl [[.int .u32 c.nx],[.slice x.ao x.no x.co],[.int .i64 c.tn],[.int .u32 c.dl],[.slice x.ah x.nh x.ch]],26⟩) rfl) NC (nC  _ _ _ _ _) Try.underlying26 rfl (by kernel_rfl)) ?_
  simp only [nrm]
  refine list_call 8 #[.agg (fl [[.int .u32 c.nx],[.slice x.ao x.no x.co],[.int .i64 c.tn],[.int .u32 c.dl],[.slice x.ah x.nh x.ch]])] (by kernel_rfl) (by kernel_rfl) (((show Calls Try.prog 8 #[.agg (fl [[.int .u32 c.nx],[.slice x.ao x.no x.co],[.int .i64 c.tn],[.int .u32 c.dl],[.slice x.ah x.nh x.ch]])] u0 (Vl (.int .i64 0) u0) from hk ▸ check_ok c x u0 ((unhide hc).gr hB.gr))).mono ?_)
  rintro r_ u1 ⟨rfl,hg⟩
  replace hB:=hB.more hg
  clear hg
  refine ⟨_,rfl,?_⟩
  simp only [nrm]
  (refine wpList_step fun K hK=>?_; replace hK:=hide hK; go_simp; refine unhide hK _ _ ?_; clear hK K)
  refine wpList_nil ?_
  replace hB:=hide hB
  go_upto_region 2 with fail
  replace hB:=unhide hB
  refine wp_region_lit ?_
  refine lvk (.int .i64 0) ?_
  simp only [nrm]
  refine list_val (.bool false) (by kernel_rfl) (neq_e _ (.tmp 12) (.const (.int .i64 0)) 0 0 false rfl (by kernel_rfl) (by kernel_rfl) (by decide)) ?_
  simp only [nrm]
  refine wpList_nil ?_
  by_cases h2:c.nx<n
  ·have hv:=ak_far (unhide h1) h2
   replace hB:=hide hB
   go_upto_region 4 with fail
   replace hB:=unhide hB
   refine wp_region_lit ?_
   refine lvk (.int .u32 n) ?_
   simp only [nrm]
   refine lvk (.pointer (some ⟨w.heap.size,0,none⟩)) ?_
   simp only [nrm]
   refine list_val (.int .u32 c.nx) (by kernel_rfl) (exec_c32 _ (.tmp 17) rfl (w.heap.size) 0 (by kernel_rfl) c.nx (seg_cell (nC  _ _ _ _ _) (hB.get 0 (x:=⟨w.heap.size,fl [[.int .u32 c.nx],[.slice x.ao x.no x.co],[.int .i64 c.tn],[.int .u32 c.dl],[.slice x.ah x.nh x.ch]],26⟩) rfl) 0 (v:=.int .u32 c.nx) rfl rfl)) ?_
   simp only [nrm]
   refine list_val (.bool true) (by kernel_rfl) (gtr_32 _ (.tmp 16) (.tmp 18) n c.nx true rfl (by kernel_rfl) (by kernel_rfl) (decide_eq_true h2)) ?_
   simp only [nrm]
   refine wpList_nil ?_
   replace hB:=hide hB
   go_upto_region 5 with fail
   replace hB:=unhide hB
   refine wp_region_lit ?_
   refine list_val (.agg (fl [[.int .u32 0],[.slice none 0 0],[.int .i64 0],[.int .u32 0],[.slice none 0 0]])) (by kernel_rfl) (bC _ rfl) ?_
   simp only [nrm]
   refine list_all 26 (.tmp 4) (.tmp 20) (w.heap.size+1) (S2:=[[.int .u32 0],[.slice none 0 0],[.int .i64 0],[.int .u32 0],[.slice none 0 0]]) (by kernel_rfl) rfl (by kernel_rfl) (by kernel_rfl) hB 1 rfl NC (nC  _ _ _ _ _) (nC  _ _ _ _ _) (by kernel_rfl) (oC  rfl rfl rfl rfl rfl) ?_
   intro u2 hB_ hbt_
   clear hB
   replace hB:Bl w [⟨w.heap.size,fl [[.int .u32 c.nx],[.slice x.ao x.no x.co],[.int .i64 c.tn],[.int .u32 c.dl],[.slice x.ah x.nh x.ch]],26⟩,⟨w.heap.size+1,fl [[.int .u32 0],[.slice none 0 0],[.int .i64 0],[.int .u32 0],[.slice none 0 0]],26⟩] u2:=hB_
   clear hB_
   clear hbt_
   simp only [nrm]
   (refine wpList_step fun K hK=>?_; replace hK:=hide hK; go_simp; refine unhide hK _ _ ?_; clear hK K)
   (refine wpList_step fun K hK=>?_; replace hK:=hide hK; go_simp; refine unhide hK _ _ ?_; clear hK K)
   refine wpList_nil ?_
   replace hB:=hide hB
   go_wp2_with fail
   replace hB:=unhide hB
   rw [unhide hT]
   rw [hv]
   exact bodyPost_ret (v:=.tuple #[.agg (fl [[.int .u32 0],[.slice none 0 0],[.int .i64 0],[.int .u32 0],[.slice none 0 0]]),.int .i64 0,.int .i64 280]) (res3 Try.results21 (rv_cell (by kernel_rfl) (hB.get 1 (x:=⟨w.heap.size+1,fl [[.int .u32 0],[.slice none 0 0],[.int .i64 0],[.int .u32 0],[.slice none 0 0]],26⟩) rfl) Try.underlying26 rfl (by rw [fl_size (nC  _ _ _ _ _)]; kernel_rfl)) (rv_tmp (by kernel_rfl)) (rv_tmp (by kernel_rfl))) rfl (⟨xz,rfl,cin_z _,owx_z _ _,hB.gr⟩)
  replace hB:=hide hB
  go_upto_region 4 with fail
  replace hB:=unhide hB
  refine wp_region_lit ?_
  refine lvk (.int .u32 n) ?_
  simp only [nrm]
  refine lvk (.pointer (some ⟨w.heap.size,0,none⟩)) ?_
  simp only [nrm]
  refine list_val (.int .u32 c.nx) (by kernel_rfl) (exec_c32 _ (.tmp 17) rfl (w.heap.size) 0 (by kernel_rfl) c.nx (seg_cell (nC  _ _ _ _ _) (hB.get 0 (x:=⟨w.heap.size,fl [[.int .u32 c.nx],[.slice x.ao x.no x.co],[.int .i64 c.tn],[.int .u32 c.dl],[.slice x.ah x.nh x.ch]],26⟩) rfl) 0 (v:=.int .u32 c.nx) rfl rfl)) ?_
  simp only [nrm]
  refine list_val (.bool false) (by kernel_rfl) (gtr_32 _ (.tmp 16) (.tmp 18) n c.nx false rfl (by kernel_rfl) (by kernel_rfl) (decide_eq_false h2)) ?_
  simp only [nrm]
  refine wpList_nil ?_
  replace hB:=hide hB
  go_upto_region 6 with fail
  replace hB:=unhide hB
  refine wp_region_lit ?_
  (refine wpList_step fun K hK=>?_; replace hK:=hide hK; go_simp; refine unhide hK _ _ ?_; clear hK K)
  refine wpList_nil ?_
  replace hB:=hide hB
  go_upto_region 7 with fail
  replace hB:=unhide hB
  refine wp_region_lit ?_
  refine list_val (.agg (fl [[.int .u32 c.nx],[.slice x.ao x.no x.co],[.int .i64 c.tn],[.int .u32 c.dl],[.slice x.ah x.nh x.ch]])) (by kernel_rfl) (exec_sw _ 26 (.tmp 2) rfl (w.heap.size) (by kernel_rfl) (hB.get 0 (x:=⟨w.heap.size,fl [[.int .u32 c.nx],[.slice x.ao x.no x.co],[.int .i64 c.tn],[.int .u32 c.dl],[.slice x.ah x.nh x.ch]],26⟩) rfl) NC (nC  _ _ _ _ _) Try.underlying26 rfl (by kernel_rfl)) ?_
  simp only [nrm]
  refine list_call 24 #[.agg (fl [[.int .u32 c.nx],[.slice x.ao x.no x.co],[.int .i64 c.tn],[.int .u32 c.dl],[.slice x.ah x.nh x.ch]])] (by kernel_rfl) (by kernel_rfl) ((acked_ok c x u1 ((unhide hc).gr hB.gr) (by omega)).mono ?_)
  rintro r_ u2 ⟨rfl,hg⟩
  replace hB:=hB.more hg
  clear hg
  refine ⟨_,rfl,?_⟩
  simp only [nrm]
  (refine wpList_step fun K hK=>?_; replace hK:=hide hK; go_simp; refine unhide hK _ _ ?_; clear hK K)
  refine wpList_nil ?_
  obtain ⟨k0,hk0⟩:∃ k,k=c.nx - (x.no:Int):=⟨_,rfl⟩
  rw [← hk0]
  have hg0:gk c n=(n - k0).toNat:=by unfold gk; rw [hn,hk0]
  have hk1:0≤k0∧k0<4294967296:=by omega
  have hk2:n - k0≤(x.no:Int):=by omega
  replace hk0:=hide hk0
  by_cases h3:k0<n
  ·obtain ⟨g,hg⟩:∃ g:Nat,(g:Int)=n - k0:=⟨(n - k0).toNat,by omega⟩
   have hgn:g≤x.no:=by omega
   have hv:=ak_yes (unhide h1) h2 g (by rw [hg0]; omega)
   replace hv:=hide hv; replace hg:=hide hg
   replace hB:=hide hB
   go_upto_region 8 with fail
   replace hB:=unhide hB
   refine wp_region_lit ?_
   refine lvk (.int .u32 n) ?_
   simp only [nrm]
   refine lvk (.int .u32 k0) ?_
   simp only [nrm]
   refine list_val (.bool true) (by kernel_rfl) (gtr_32 _ (.tmp 23) (.tmp 24) n k0 true rfl (by kernel_rfl) (by kernel_rfl) (decide_eq_true h3)) ?_
   simp only [nrm]
   refine wpList_nil ?_
   replace hB:=hide hB
   go_upto_region 9 with fail
   replace hB:=unhide hB
   refine wp_region_lit ?_
   refine lvk (.int .u32 n) ?_
   simp only [nrm]
   refine lvk (.int .u32 k0) ?_
   simp only [nrm]
   refine list_val (.int .u32 (n - k0)) (by kernel_rfl) (sub_32 _ (.tmp 26) (.tmp 27) n k0 rfl (by kernel_rfl) (by kernel_rfl) _ rfl (by omega)) ?_
   simp only [nrm]
   refine list_val (.int .i64 (g:Int)) (by kernel_rfl) (conv_i64r _ (.tmp 28) (n - k0) rfl (by kernel_rfl) (by omega) _ (unhide hg).symm) ?_
   simp only [nrm]
   (refine wpList_step fun K hK=>?_; replace hK:=hide hK; go_simp; refine unhide hK _ _ ?_; clear hK K)
   refine wpList_nil ?_
   replace hB:=hide hB
   go_upto_region 10 with fail
   replace hB:=unhide hB
   have hb0:w.heap.size≤u2.heap.size:=hB.gr.size
   refine wp_region_lit ?_
   refine list_val (.agg (fl [[.int .u32 c.nx],[.slice x.ao x.no x.co],[.int .i64 c.tn],[.int .u32 c.dl],[.slice x.ah x.nh x.ch]])) (by kernel_rfl) (exec_sw _ 26 (.tmp 2) rfl (w.heap.size) (by kernel_rfl) (hB.get 0 (x:=⟨w.heap.size,fl [[.int .u32 c.nx],[.slice x.ao x.no x.co],[.int .i64 c.tn],[.int .u32 c.dl],[.slice x.ah x.nh x.ch]],26⟩) rfl) NC (nC  _ _ _ _ _) Try.underlying26 rfl (by kernel_rfl)) ?_
   simp only [nrm]
   refine list_call 18 #[.agg (fl [[.int .u32 c.nx],[.slice x.ao x.no x.co],[.int .i64 c.tn],[.int .u32 c.dl],[.slice x.ah x.nh x.ch]])] (by kernel_rfl) (by kernel_rfl) ((copied_ok c x u2 ((unhide hc).gr hB.gr) (by omega) (by rw [← (unhide hc).h.len]; omega)).mono ?_)
   rintro r_ u3 ⟨x1,rfl,hW,hn1,hh1,hg⟩
   replace hB:=hB.more hg
   clear hg
   replace hW:=hide (Co.mk (hW.cin (unhide hc).nums) (hW.owx.base hb0))
   refine ⟨_,rfl,?_⟩
   simp only [nrm]
   have hzz_:Hid (u3.heap[w.heap.size]?=some (.cells (fl [[.int .u32 c.nx],[.slice x.ao x.no x.co],[.int .i64 c.tn],[.int .u32 c.dl],[.slice x.ah x.nh x.ch]]) 26 (0,0))):=hide (hB.get 0 (x:=⟨w.heap.size,fl [[.int .u32 c.nx],[.slice x.ao x.no x.co],[.int .i64 c.tn],[.int .u32 c.dl],[.slice x.ah x.nh x.ch]],26⟩) rfl)
   refine list_all 26 (.tmp 2) (.tmp 31) (w.heap.size) (S2:=[[.int .u32 c.nx],[.slice x1.ao x1.no x1.co],[.int .i64 c.tn],[.int .u32 c.dl],[.slice x1.ah x1.nh x1.ch]]) (by kernel_rfl) rfl (by kernel_rfl) (by kernel_rfl) hB 0 rfl NC (nC  _ _ _ _ _) (nC  _ _ _ _ _) (by kernel_rfl) (oC  rfl rfl rfl rfl rfl) ?_
   intro u4 hB_ hbt_
   clear hB
   replace hB:Bl w [⟨w.heap.size,fl [[.int .u32 c.nx],[.slice x1.ao x1.no x1.co],[.int .i64 c.tn],[.int .u32 c.dl],[.slice x1.ah x1.nh x1.ch]],26⟩,⟨w.heap.size+1,fl [[.int .u32 0],[.slice none 0 0],[.int .i64 0],[.int .u32 0],[.slice none 0 0]],26⟩] u4:=hB_
   clear hB_
   replace hW:=hide ((unhide hW).bz (unhide hzz_) hbt_)
   clear hbt_ hzz_
   simp only [nrm]
   refine wpList_nil ?_
   clear hb0
   have hcp:=(unhide hW).i.o.2.cap
   have hmx:=(unhide hW).i.o.2.max
   replace hB:=hide hB
   go_upto_region 11 with fail
   replace hB:=unhide hB
   refine wp_region_lit ?_
   refine lvk (.pointer (some ⟨w.heap.size,1,none⟩)) ?_
   simp only [nrm]
   refine list_val (.slice x1.ao x1.no x1.co) (by kernel_rfl) (exec_csO _ (.tmp 32) rfl (w.heap.size) 1 (by kernel_rfl) x1.ao x1.no x1.co (seg_cell (nC  _ _ _ _ _) (hB.get 0 (x:=⟨w.heap.size,fl [[.int .u32 c.nx],[.slice x1.ao x1.no x1.co],[.int .i64 c.tn],[.int .u32 c.dl],[.slice x1.ah x1.nh x1.ch]],26⟩) rfl) 1 (v:=.slice x1.ao x1.no x1.co) rfl rfl)) ?_
   simp only [nrm]
   refine lvk (.int .i64 (g:Int)) ?_
   simp only [nrm]
   refine list_val (.slice (frA 106 x1.ao x1.co g) (x1.no - g) (x1.co - g)) (by kernel_rfl) (exec_frO _ (.tmp 33) (.tmp 34) rfl x1.ao x1.no x1.co g (by kernel_rfl) (by kernel_rfl) hcp (by omega)) ?_
   simp only [nrm]
   refine lvk (.pointer (some ⟨w.heap.size,1,none⟩)) ?_
   simp only [nrm]
   have hzz_:Hid (u4.heap[w.heap.size]?=some (.cells (fl [[.int .u32 c.nx],[.slice x1.ao x1.no x1.co],[.int .i64 c.tn],[.int .u32 c.dl],[.slice x1.ah x1.nh x1.ch]]) 26 (0,0))):=hide (hB.get 0 (x:=⟨w.heap.size,fl [[.int .u32 c.nx],[.slice x1.ao x1.no x1.co],[.int .i64 c.tn],[.int .u32 c.dl],[.slice x1.ah x1.nh x1.ch]],26⟩) rfl)
   refine list_csO (.tmp 36) (.tmp 35) (w.heap.size) 1 (frA 106 x1.ao x1.co g) (x1.no - g) (x1.co - g) (by kernel_rfl) rfl (by kernel_rfl) (by kernel_rfl) hB 0 rfl NC (nC  _ _ _ _ _) 1 _ rfl rfl ?_
   intro u5 hB_ hbt_
   clear hB
   replace hB:Bl w [⟨w.heap.size,fl [[.int .u32 c.nx],[.slice (frA 106 x1.ao x1.co g) (x1.no - g) (x1.co - g)],[.int .i64 c.tn],[.int .u32 c.dl],[.slice x1.ah x1.nh x1.ch]],26⟩,⟨w.heap.size+1,fl [[.int .u32 0],[.slice none 0 0],[.int .i64 0],[.int .u32 0],[.slice none 0 0]],26⟩] u5:=hB_
   clear hB_
   replace hW:=hide ((unhide hW).bz (unhide hzz_) hbt_)
   clear hbt_ hzz_
   simp only [nrm]
   refine wpList_nil ?_
   replace hB:=hide hB
   go_upto_region 12 with fail
   replace hB:=unhide hB
   refine wp_region_lit ?_
   refine lvk (.pointer (some ⟨w.heap.size,2,none⟩)) ?_
   simp only [nrm]
   refine list_val (.int .i64 c.tn) (by kernel_rfl) (exec_ci _ (.tmp 37) rfl (w.heap.size) 2 (by kernel_rfl) c.tn (seg_cell (nC  _ _ _ _ _) (hB.get 0 (x:=⟨w.heap.size,fl [[.int .u32 c.nx],[.slice (frA 106 x1.ao x1.co g) (x1.no - g) (x1.co - g)],[.int .i64 c.tn],[.int .u32 c.dl],[.slice x1.ah x1.nh x1.ch]],26⟩) rfl) 2 (v:=.int .i64 c.tn) rfl rfl)) ?_
   simp only [nrm]
   refine lvk (.int .i64 (g:Int)) ?_
   simp only [nrm]
   refine lvk (.pointer (some ⟨w.heap.size,2,none⟩)) ?_
   simp only [nrm]
   refine list_val (.int .i64 c.tn) (by kernel_rfl) (exec_ci _ (.tmp 40) rfl (w.heap.size) 2 (by kernel_rfl) c.tn (seg_cell (nC  _ _ _ _ _) (hB.get 0 (x:=⟨w.heap.size,fl [[.int .u32 c.nx],[.slice (frA 106 x1.ao x1.co g) (x1.no - g) (x1.co - g)],[.int .i64 c.tn],[.int .u32 c.dl],[.slice x1.ah x1.nh x1.ch]],26⟩) rfl) 2 (v:=.int .i64 c.tn) rfl rfl)) ?_
   simp only [nrm]
   refine list_val (.int .i64 (min (g:Int) c.tn)) (by kernel_rfl) (min_i _ (.tmp 39) (.tmp 41) (g:Int) c.tn rfl (by kernel_rfl) (by kernel_rfl) _ rfl) ?_
   simp only [nrm]
   refine list_val (.int .i64 (c.tn - min (g:Int) c.tn)) (by kernel_rfl) (sub_i _ (.tmp 38) (.tmp 42) c.tn (min (g:Int) c.tn) rfl (by kernel_rfl) (by kernel_rfl) _ rfl (by omega)) ?_
   simp only [nrm]
   refine lvk (.pointer (some ⟨w.heap.size,2,none⟩)) ?_
   simp only [nrm]
   have hzz_:Hid (u5.heap[w.heap.size]?=some (.cells (fl [[.int .u32 c.nx],[.slice (frA 106 x1.ao x1.co g) (x1.no - g) (x1.co - g)],[.int .i64 c.tn],[.int .u32 c.dl],[.slice x1.ah x1.nh x1.ch]]) 26 (0,0))):=hide (hB.get 0 (x:=⟨w.heap.size,fl [[.int .u32 c.nx],[.slice (frA 106 x1.ao x1.co g) (x1.no - g) (x1.co - g)],[.int .i64 c.tn],[.int .u32 c.dl],[.slice x1.ah x1.nh x1.ch]],26⟩) rfl)
   refine list_ci (.tmp 44) (.tmp 43) (w.heap.size) 2 (c.tn - min (g:Int) c.tn) (by kernel_rfl) rfl (by kernel_rfl) (by kernel_rfl) hB 0 rfl NC (nC  _ _ _ _ _) 2 _ rfl rfl ?_
   intro u6 hB_ hbt_
   clear hB
   replace hB:Bl w [⟨w.heap.size,fl [[.int .u32 c.nx],[.slice (frA 106 x1.ao x1.co g) (x1.no - g) (x1.co - g)],[.int .i64 (c.tn - min (g:Int) c.tn)],[.int .u32 c.dl],[.slice x1.ah x1.nh x1.ch]],26⟩,⟨w.heap.size+1,fl [[.int .u32 0],[.slice none 0 0],[.int .i64 0],[.int .u32 0],[.slice none 0 0]],26⟩] u6:=hB_
   clear hB_
   replace hW:=hide ((unhide hW).bz (unhide hzz_) hbt_)
   clear hbt_ hzz_
   simp only [nrm]
   refine wpList_nil ?_
   replace hB:=hide hB
   go_upto_region 13 with fail
   replace hB:=unhide hB
   refine wp_region_lit ?_
   refine list_val (.agg (fl [[.int .u32 c.nx],[.slice (frA 106 x1.ao x1.co g) (x1.no - g) (x1.co - g)],[.int .i64 (c.tn - min (g:Int) c.tn)],[.int .u32 c.dl],[.slice x1.ah x1.nh x1.ch]])) (by kernel_rfl) (exec_sw _ 26 (.tmp 2) rfl (w.heap.size) (by kernel_rfl) (hB.get 0 (x:=⟨w.heap.size,fl [[.int .u32 c.nx],[.slice (frA 106 x1.ao x1.co g) (x1.no - g) (x1.co - g)],[.int .i64 (c.tn - min (g:Int) c.tn)],[.int .u32 c.dl],[.slice x1.ah x1.nh x1.ch]],26⟩) rfl) NC (nC  _ _ _ _ _) Try.underlying26 rfl (by kernel_rfl)) ?_
   simp only [nrm]
   refine lvk (.int .i64 (g:Int)) ?_
   simp only [nrm]
   have hzz_:Hid (u6.heap[w.heap.size+1]?=some (.cells (fl [[.int .u32 0],[.slice none 0 0],[.int .i64 0],[.int .u32 0],[.slice none 0 0]]) 26 (0,0))):=hide (hB.get 1 (x:=⟨w.heap.size+1,fl [[.int .u32 0],[.slice none 0 0],[.int .i64 0],[.int .u32 0],[.slice none 0 0]],26⟩) rfl)
   refine list_all 26 (.tmp 4) (.tmp 45) (w.heap.size+1) (S2:=[[.int .u32 c.nx],[.slice (frA 106 x1.ao x1.co g) (x1.no - g) (x1.co - g)],[.int .i64 (c.tn - min (g:Int) c.tn)],[.int .u32 c.dl],[.slice x1.ah x1.nh x1.ch]]) (by kernel_rfl) rfl (by kernel_rfl) (by kernel_rfl) hB 1 rfl NC (nC  _ _ _ _ _) (nC  _ _ _ _ _) (by kernel_rfl) (oC  rfl rfl rfl rfl rfl) ?_
   intro u7 hB_ hbt_
   clear hB
   replace hB:Bl w [⟨w.heap.size,fl [[.int .u32 c.nx],[.slice (frA 106 x1.ao x1.co g) (x1.no - g) (x1.co - g)],[.int .i64 (c.tn - min (g:Int) c.tn)],[.int .u32 c.dl],[.slice x1.ah x1.nh x1.ch]],26⟩,⟨w.heap.size+1,fl [[.int .u32 c.nx],[.slice (frA 106 x1.ao x1.co g) (x1.no - g) (x1.co - g)],[.int .i64 (c.tn - min (g:Int) c.tn)],[.int .u32 c.dl],[.slice x1.ah x1.nh x1.ch]],26⟩] u7:=hB_
   clear hB_
   replace hW:=hide ((unhide hW).bz (unhide hzz_) hbt_)
   clear hbt_ hzz_
   simp only [nrm]
   (refine wpList_step fun K hK=>?_; replace hK:=hide hK; go_simp; refine unhide hK _ _ ?_; clear hK K)
   (refine wpList_step fun K hK=>?_; replace hK:=hide hK; go_simp; refine unhide hK _ _ ?_; clear hK K)
   refine wpList_nil ?_
   have hD:=((unhide hW).drop g (by omega)).tn (c.tn - min (g:Int) c.tn) (by first | omega | (dsimp only; omega))
   replace hB:=hide hB
   go_wp2_with fail
   replace hB:=unhide hB
   rw [unhide hT]
   rw [unhide hv]
   exact bodyPost_ret (v:=.tuple #[.agg (fl [[.int .u32 c.nx],[.slice (frA 106 x1.ao x1.co g) (x1.no - g) (x1.co - g)],[.int .i64 (c.tn - min (g:Int) c.tn)],[.int .u32 c.dl],[.slice x1.ah x1.nh x1.ch]]),.int .i64 (g:Int),.int .i64 0]) (res3 Try.results21 (rv_cell (by kernel_rfl) (hB.get 1 (x:=⟨w.heap.size+1,fl [[.int .u32 c.nx],[.slice (frA 106 x1.ao x1.co g) (x1.no - g) (x1.co - g)],[.int .i64 (c.tn - min (g:Int) c.tn)],[.int .u32 c.dl],[.slice x1.ah x1.nh x1.ch]],26⟩) rfl) Try.underlying26 rfl (by rw [fl_size (nC  _ _ _ _ _)]; kernel_rfl)) (rv_tmp (by kernel_rfl)) (rv_tmp (by kernel_rfl))) rfl (⟨⟨frA 106 x1.ao x1.co g,x1.no - g,x1.co - g,x1.ah,x1.nh,x1.ch⟩,rfl,hD.i,hD.o,hB.gr⟩)
  ·obtain ⟨g,hg⟩:∃ g:Nat,g=0:=⟨0,rfl⟩
   have hgn:g≤x.no:=by omega
   have hv:=ak_yes (unhide h1) h2 g (by rw [hg0]; omega)
   replace hv:=hide hv; replace hg:=hide hg
   replace hB:=hide hB
   go_upto_region 8 with fail
   replace hB:=unhide hB
   refine wp_region_lit ?_
   refine lvk (.int .u32 n) ?_
   simp only [nrm]
   refine lvk (.int .u32 k0) ?_
   simp only [nrm]
   refine list_val (.bool false) (by kernel_rfl) (gtr_32 _ (.tmp 23) (.tmp 24) n k0 false rfl (by kernel_rfl) (by kernel_rfl) (decide_eq_false h3)) ?_
   simp only [nrm]
   refine wpList_nil ?_
   have hgz:=unhide hg
   subst hgz
   replace hB:=hide hB
   go_upto_region 10 with fail
   replace hB:=unhide hB
   have hb0:w.heap.size≤u2.heap.size:=hB.gr.size
   refine wp_region_lit ?_
   refine list_val (.agg (fl [[.int .u32 c.nx],[.slice x.ao x.no x.co],[.int .i64 c.tn],[.int .u32 c.dl],[.slice x.ah x.nh x.ch]])) (by kernel_rfl) (exec_sw _ 26 (.tmp 2) rfl (w.heap.size) (by kernel_rfl) (hB.get 0 (x:=⟨w.heap.size,fl [[.int .u32 c.nx],[.slice x.ao x.no x.co],[.int .i64 c.tn],[.int .u32 c.dl],[.slice x.ah x.nh x.ch]],26⟩) rfl) NC (nC  _ _ _ _ _) Try.underlying26 rfl (by kernel_rfl)) ?_
   simp only [nrm]
   refine list_call 18 #[.agg (fl [[.int .u32 c.nx],[.slice x.ao x.no x.co],[.int .i64 c.tn],[.int .u32 c.dl],[.slice x.ah x.nh x.ch]])] (by kernel_rfl) (by kernel_rfl) ((copied_ok c x u2 ((unhide hc).gr hB.gr) (by omega) (by rw [← (unhide hc).h.len]; omega)).mono ?_)
   rintro r_ u3 ⟨x1,rfl,hW,hn1,hh1,hg⟩
   replace hB:=hB.more hg
   clear hg
   replace hW:=hide (Co.mk (hW.cin (unhide hc).nums) (hW.owx.base hb0))
   refine ⟨_,rfl,?_⟩
   simp only [nrm]
   have hzz_:Hid (u3.heap[w.heap.size]?=some (.cells (fl [[.int .u32 c.nx],[.slice x.ao x.no x.co],[.int .i64 c.tn],[.int .u32 c.dl],[.slice x.ah x.nh x.ch]]) 26 (0,0))):=hide (hB.get 0 (x:=⟨w.heap.size,fl [[.int .u32 c.nx],[.slice x.ao x.no x.co],[.int .i64 c.tn],[.int .u32 c.dl],[.slice x.ah x.nh x.ch]],26⟩) rfl)
   refine list_all 26 (.tmp 2) (.tmp 31) (w.heap.size) (S2:=[[.int .u32 c.nx],[.slice x1.ao x1.no x1.co],[.int .i64 c.tn],[.int .u32 c.dl],[.slice x1.ah x1.nh x1.ch]]) (by kernel_rfl) rfl (by kernel_rfl) (by kernel_rfl) hB 0 rfl NC (nC  _ _ _ _ _) (nC  _ _ _ _ _) (by kernel_rfl) (oC  rfl rfl rfl rfl rfl) ?_
   intro u4 hB_ hbt_
   clear hB
   replace hB:Bl w [⟨w.heap.size,fl [[.int .u32 c.nx],[.slice x1.ao x1.no x1.co],[.int .i64 c.tn],[.int .u32 c.dl],[.slice x1.ah x1.nh x1.ch]],26⟩,⟨w.heap.size+1,fl [[.int .u32 0],[.slice none 0 0],[.int .i64 0],[.int .u32 0],[.slice none 0 0]],26⟩] u4:=hB_
   clear hB_
   replace hW:=hide ((unhide hW).bz (unhide hzz_) hbt_)
   clear hbt_ hzz_
   simp only [nrm]
   refine wpList_nil ?_
   clear hb0
   have hcp:=(unhide hW).i.o.2.cap
   have hmx:=(unhide hW).i.o.2.max
   replace hB:=hide hB
   go_upto_region 11 with fail
   replace hB:=unhide hB
   refine wp_region_lit ?_
   refine lvk (.pointer (some ⟨w.heap.size,1,none⟩)) ?_
   simp only [nrm]
   refine list_val (.slice x1.ao x1.no x1.co) (by kernel_rfl) (exec_csO _ (.tmp 32) rfl (w.heap.size) 1 (by kernel_rfl) x1.ao x1.no x1.co (seg_cell (nC  _ _ _ _ _) (hB.get 0 (x:=⟨w.heap.size,fl [[.int .u32 c.nx],[.slice x1.ao x1.no x1.co],[.int .i64 c.tn],[.int .u32 c.dl],[.slice x1.ah x1.nh x1.ch]],26⟩) rfl) 1 (v:=.slice x1.ao x1.no x1.co) rfl rfl)) ?_
   simp only [nrm]
   refine lvk (.int .i64 0) ?_
   simp only [nrm]
   refine list_val (.slice (frA 106 x1.ao x1.co 0) (x1.no - 0) (x1.co - 0)) (by kernel_rfl) (exec_frO _ (.tmp 33) (.tmp 34) rfl x1.ao x1.no x1.co 0 (by kernel_rfl) (by kernel_rfl) hcp (by omega)) ?_
   simp only [nrm]
   refine lvk (.pointer (some ⟨w.heap.size,1,none⟩)) ?_
   simp only [nrm]
   have hzz_:Hid (u4.heap[w.heap.size]?=some (.cells (fl [[.int .u32 c.nx],[.slice x1.ao x1.no x1.co],[.int .i64 c.tn],[.int .u32 c.dl],[.slice x1.ah x1.nh x1.ch]]) 26 (0,0))):=hide (hB.get 0 (x:=⟨w.heap.size,fl [[.int .u32 c.nx],[.slice x1.ao x1.no x1.co],[.int .i64 c.tn],[.int .u32 c.dl],[.slice x1.ah x1.nh x1.ch]],26⟩) rfl)
   refine list_csO (.tmp 36) (.tmp 35) (w.heap.size) 1 (frA 106 x1.ao x1.co 0) (x1.no - 0) (x1.co - 0) (by kernel_rfl) rfl (by kernel_rfl) (by kernel_rfl) hB 0 rfl NC (nC  _ _ _ _ _) 1 _ rfl rfl ?_
   intro u5 hB_ hbt_
   clear hB
   replace hB:Bl w [⟨w.heap.size,fl [[.int .u32 c.nx],[.slice (frA 106 x1.ao x1.co 0) (x1.no - 0) (x1.co - 0)],[.int .i64 c.tn],[.int .u32 c.dl],[.slice x1.ah x1.nh x1.ch]],26⟩,⟨w.heap.size+1,fl [[.int .u32 0],[.slice none 0 0],[.int .i64 0],[.int .u32 0],[.slice none 0 0]],26⟩] u5:=hB_
   clear hB_
   replace hW:=hide ((unhide hW).bz (unhide hzz_) hbt_)
   clear hbt_ hzz_
   simp only [nrm]
   refine wpList_nil ?_
   replace hB:=hide hB
   go_upto_region 12 with fail
   replace hB:=unhide hB
   refine wp_region_lit ?_
   refine lvk (.pointer (some ⟨w.heap.size,2,none⟩)) ?_
   simp only [nrm]
   refine list_val (.int .i64 c.tn) (by kernel_rfl) (exec_ci _ (.tmp 37) rfl (w.heap.size) 2 (by kernel_rfl) c.tn (seg_cell (nC  _ _ _ _ _) (hB.get 0 (x:=⟨w.heap.size,fl [[.int .u32 c.nx],[.slice (frA 106 x1.ao x1.co 0) (x1.no - 0) (x1.co - 0)],[.int .i64 c.tn],[.int .u32 c.dl],[.slice x1.ah x1.nh x1.ch]],26⟩) rfl) 2 (v:=.int .i64 c.tn) rfl rfl)) ?_
   simp only [nrm]
   refine lvk (.int .i64 0) ?_
   simp only [nrm]
   refine lvk (.pointer (some ⟨w.heap.size,2,none⟩)) ?_
   simp only [nrm]
   refine list_val (.int .i64 c.tn) (by kernel_rfl) (exec_ci _ (.tmp 40) rfl (w.heap.size) 2 (by kernel_rfl) c.tn (seg_cell (nC  _ _ _ _ _) (hB.get 0 (x:=⟨w.heap.size,fl [[.int .u32 c.nx],[.slice (frA 106 x1.ao x1.co 0) (x1.no - 0) (x1.co - 0)],[.int .i64 c.tn],[.int .u32 c.dl],[.slice x1.ah x1.nh x1.ch]],26⟩) rfl) 2 (v:=.int .i64 c.tn) rfl rfl)) ?_
   simp only [nrm]
   refine list_val (.int .i64 (min (0:Int) c.tn)) (by kernel_rfl) (min_i _ (.tmp 39) (.tmp 41) (0:Int) c.tn rfl (by kernel_rfl) (by kernel_rfl) _ rfl) ?_
   simp only [nrm]
   refine list_val (.int .i64 (c.tn - min (0:Int) c.tn)) (by kernel_rfl) (sub_i _ (.tmp 38) (.tmp 42) c.tn (min (0:Int) c.tn) rfl (by kernel_rfl) (by kernel_rfl) _ rfl (by omega)) ?_
   simp only [nrm]
   refine lvk (.pointer (some ⟨w.heap.size,2,none⟩)) ?_
   simp only [nrm]
   have hzz_:Hid (u5.heap[w.heap.size]?=some (.cells (fl [[.int .u32 c.nx],[.slice (frA 106 x1.ao x1.co 0) (x1.no - 0) (x1.co - 0)],[.int .i64 c.tn],[.int .u32 c.dl],[.slice x1.ah x1.nh x1.ch]]) 26 (0,0))):=hide (hB.get 0 (x:=⟨w.heap.size,fl [[.int .u32 c.nx],[.slice (frA 106 x1.ao x1.co 0) (x1.no - 0) (x1.co - 0)],[.int .i64 c.tn],[.int .u32 c.dl],[.slice x1.ah x1.nh x1.ch]],26⟩) rfl)
   refine list_ci (.tmp 44) (.tmp 43) (w.heap.size) 2 (c.tn - min (0:Int) c.tn) (by kernel_rfl) rfl (by kernel_rfl) (by kernel_rfl) hB 0 rfl NC (nC  _ _ _ _ _) 2 _ rfl rfl ?_
   intro u6 hB_ hbt_
   clear hB
   replace hB:Bl w [⟨w.heap.size,fl [[.int .u32 c.nx],[.slice (frA 106 x1.ao x1.co 0) (x1.no - 0) (x1.co - 0)],[.int .i64 (c.tn - min (0:Int) c.tn)],[.int .u32 c.dl],[.slice x1.ah x1.nh x1.ch]],26⟩,⟨w.heap.size+1,fl [[.int .u32 0],[.slice none 0 0],[.int .i64 0],[.int .u32 0],[.slice none 0 0]],26⟩] u6:=hB_
   clear hB_
   replace hW:=hide ((unhide hW).bz (unhide hzz_) hbt_)
   clear hbt_ hzz_
   simp only [nrm]
   refine wpList_nil ?_
   replace hB:=hide hB
   go_upto_region 13 with fail
   replace hB:=unhide hB
   refine wp_region_lit ?_
   refine list_val (.agg (fl [[.int .u32 c.nx],[.slice (frA 106 x1.ao x1.co 0) (x1.no - 0) (x1.co - 0)],[.int .i64 (c.tn - min (0:Int) c.tn)],[.int .u32 c.dl],[.slice x1.ah x1.nh x1.ch]])) (by kernel_rfl) (exec_sw _ 26 (.tmp 2) rfl (w.heap.size) (by kernel_rfl) (hB.get 0 (x:=⟨w.heap.size,fl [[.int .u32 c.nx],[.slice (frA 106 x1.ao x1.co 0) (x1.no - 0) (x1.co - 0)],[.int .i64 (c.tn - min (0:Int) c.tn)],[.int .u32 c.dl],[.slice x1.ah x1.nh x1.ch]],26⟩) rfl) NC (nC  _ _ _ _ _) Try.underlying26 rfl (by kernel_rfl)) ?_
   simp only [nrm]
   refine lvk (.int .i64 0) ?_
   simp only [nrm]
   have hzz_:Hid (u6.heap[w.heap.size+1]?=some (.cells (fl [[.int .u32 0],[.slice none 0 0],[.int .i64 0],[.int .u32 0],[.slice none 0 0]]) 26 (0,0))):=hide (hB.get 1 (x:=⟨w.heap.size+1,fl [[.int .u32 0],[.slice none 0 0],[.int .i64 0],[.int .u32 0],[.slice none 0 0]],26⟩) rfl)
   refine list_all 26 (.tmp 4) (.tmp 45) (w.heap.size+1) (S2:=[[.int .u32 c.nx],[.slice (frA 106 x1.ao x1.co 0) (x1.no - 0) (x1.co - 0)],[.int .i64 (c.tn - min (0:Int) c.tn)],[.int .u32 c.dl],[.slice x1.ah x1.nh x1.ch]]) (by kernel_rfl) rfl (by kernel_rfl) (by kernel_rfl) hB 1 rfl NC (nC  _ _ _ _ _) (nC  _ _ _ _ _) (by kernel_rfl) (oC  rfl rfl rfl rfl rfl) ?_
   intro u7 hB_ hbt_
   clear hB
   replace hB:Bl w [⟨w.heap.size,fl [[.int .u32 c.nx],[.slice (frA 106 x1.ao x1.co 0) (x1.no - 0) (x1.co - 0)],[.int .i64 (c.tn - min (0:Int) c.tn)],[.int .u32 c.dl],[.slice x1.ah x1.nh x1.ch]],26⟩,⟨w.heap.size+1,fl [[.int .u32 c.nx],[.slice (frA 106 x1.ao x1.co 0) (x1.no - 0) (x1.co - 0)],[.int .i64 (c.tn - min (0:Int) c.tn)],[.int .u32 c.dl],[.slice x1.ah x1.nh x1.ch]],26⟩] u7:=hB_
   clear hB_
   replace hW:=hide ((unhide hW).bz (unhide hzz_) hbt_)
   clear hbt_ hzz_
   simp only [nrm]
   (refine wpList_step fun K hK=>?_; replace hK:=hide hK; go_simp; refine unhide hK _ _ ?_; clear hK K)
   (refine wpList_step fun K hK=>?_; replace hK:=hide hK; go_simp; refine unhide hK _ _ ?_; clear hK K)
   refine wpList_nil ?_
   have hD:=((unhide hW).drop 0 (by omega)).tn (c.tn - min (0:Int) c.tn) (by first | omega | (dsimp only; omega))
   replace hB:=hide hB
   go_wp2_with fail
   replace hB:=unhide hB
   rw [unhide hT]
   rw [unhide hv]
   exact bodyPost_ret (v:=.tuple #[.agg (fl [[.int .u32 c.nx],[.slice (frA 106 x1.ao x1.co 0) (x1.no - 0) (x1.co - 0)],[.int .i64 (c.tn - min (0:Int) c.tn)],[.int .u32 c.dl],[.slice x1.ah x1.nh x1.ch]]),.int .i64 0,.int .i64 0]) (res3 Try.results21 (rv_cell (by kernel_rfl) (hB.get 1 (x:=⟨w.heap.size+1,fl [[.int .u32 c.nx],[.slice (frA 106 x1.ao x1.co 0) (x1.no - 0) (x1.co - 0)],[.int .i64 (c.tn - min (0:Int) c.tn)],[.int .u32 c.dl],[.slice x1.ah x1.nh x1.ch]],26⟩) rfl) Try.underlying26 rfl (by rw [fl_size (nC  _ _ _ _ _)]; kernel_rfl)) (rv_tmp (by kernel_rfl)) (rv_tmp (by kernel_rfl))) rfl (⟨⟨frA 106 x1.ao x1.co 0,x1.no - 0,x1.co - 0,x1.ah,x1.nh,x1.ch⟩,rfl,hD.i,hD.o,hB.gr⟩)
end Go.Proofs.Ytcefkkoombmndab
namespace Go.Proofs.Ytcefkkoombmndab
open Go.RowKit
set_option maxRecDepth 100000
set_option linter.unusedSimpArgs false
set_option linter.unusedVariables false
def unt (c:Cm) (s:It) (r:Int):Int:=if rt c=false then 281 else if wt c s.n r=false then 282 else if szB s.s=false then 281 else 0
set_option maxHeartbeats 4000000 in
theorem untaken_ok (c:Cm) (x:Lc) (s:It) (r:Int) (w:World) (hc:Cin w c x) (hs:s.Ok):Calls Try.prog 28 #[.agg (fl [[.int .u32 c.nx],[.slice x.ao x.no x.co],[.int .i64 c.tn],[.int .u32 c.dl],[.slice x.ah x.nh x.ch]]),.agg (fl [[.int .u32 s.n],[.string s.s]]),.int .i64 r] w (Vl (.int .i64 (unt c s r)) w):=by
 obtain ⟨T,hT⟩:∃ T:Ending→World→Prop,T=(Vl (.int .i64 (unt c s r)) w):=⟨_,rfl⟩
 rw [← hT]
 replace hT:=hide hT
 replace hc:=hide hc
 obtain ⟨A0_,hA0_⟩:∃ S_,S_=fl [[.int .u32 c.nx],[.slice x.ao x.no x.co],[.int .i64 c.tn],[.int .u32 c.dl],[.slice x.ah x.nh x.ch]]:=⟨_,rfl⟩
 rw [← hA0_]
 replace hA0_:=hide hA0_
 obtain ⟨A1_,hA1_⟩:∃ S_,S_=fl [[.int .u32 s.n],[.string s.s]]:=⟨_,rfl⟩
 rw [← hA1_]
 replace hA1_:=hide hA1_
 go_enter Try.func28,Try.ntmps28
 go_upto_region 1 with fail
 have hB:=(((Bl.nil w).new A0_ 26).new A1_ 59)
 simp only [size_alloc,List.nil_append,List.cons_append] at hB
 rw [unhide hA0_,unhide hA1_] at hB
 generalize hu_:World.alloc _ _=u0
 replace hB:Bl w [⟨w.heap.size,fl [[.int .u32 c.nx],[.slice x.ao x.no x.co],[.int .i64 c.tn],[.int .u32 c.dl],[.slice x.ah x.nh x.ch]],26⟩,⟨w.heap.size+1,fl [[.int .u32 s.n],[.string s.s]],59⟩] u0:=by
  rw [← hu_]
  rw [unhide hA0_,unhide hA1_]
  exact hB
 clear hu_ hA0_ hA1_
 cases h1:rt c with
 | false =>
  have hk:=chk_f h1
  have hv:unt c s r=281:=by unfold unt; rw [if_pos h1]
  refine wp_region_lit ?_
  refine list_val (.agg (fl [[.int .u32 c.nx],[.slice x.ao x.no x.co],[.int .i64 c.tn],[.int .u32 c.dl],[.slice x.ah x.nh x.ch]])) (by kernel_rfl) (exec_sw _ 26 (.tmp 3) rfl (w.heap.size) (by kernel_rfl) (hB.get 0 (x:=⟨w.heap.size,fl [[.int .u32 c.nx],[.slice x.ao x.no x.co],[.int .i64 c.tn],[.int .u32 c.dl],[.slice x.ah x.nh x.ch]],26⟩) rfl) NC (nC  _ _ _ _ _) Try.underlying26 rfl (by kernel_rfl)) ?_
  simp only [nrm]
  refine list_call 8 #[.agg (fl [[.int .u32 c.nx],[.slice x.ao x.no x.co],[.int .i64 c.tn],[.int .u32 c.dl],[.slice x.ah x.nh x.ch]])] (by kernel_rfl) (by kernel_rfl) (((show Calls Try.prog 8 #[.agg (fl [[.int .u32 c.nx],[.slice x.ao x.no x.co],[.int .i64 c.tn],[.int .u32 c.dl],[.slice x.ah x.nh x.ch]])] u0 (Vl (.int .i64 281) u0) from hk ▸ check_ok c x u0 ((unhide hc).gr hB.gr))).mono ?_)
  rintro r_ u1 ⟨rfl,hg⟩
  replace hB:=hB.more hg
  clear hg
  refine ⟨_,rfl,?_⟩
  simp only [nrm]
  refine list_val (.bool true) (by kernel_rfl) (neq_e _ (.tmp 9) (.const (.int .i64 0)) 281 0 true rfl (by kernel_rfl) (by kernel_rfl) (by decide)) ?_
  simp only [nrm]
  (refine wpList_step fun K hK=>?_; replace hK:=hide hK; go_simp; refine unhide hK _ _ ?_; clear hK K)
  refine wpList_nil ?_
  replace hB:=hide hB
  go_upto_region 2 with fail
  replace hB:=unhide hB
  refine wp_region_lit ?_
  (refine wpList_step fun K hK=>?_; replace hK:=hide hK; go_simp; refine unhide hK _ _ ?_; clear hK K)
  refine wpList_nil ?_
  replace hB:=hide hB
  go_wp2_with fail
  replace hB:=unhide hB
  rw [unhide hT]
  exact (⟨by rw [hv] <;> rfl,hB.gr⟩)
 | true =>
  have hk:=chk_t h1
  cases h2:wt c s.n r with
  | false =>
   have hv:unt c s r=282:=by unfold unt; rw [if_neg (by rw [h1]; decide),if_pos h2]
   refine wp_region_lit ?_
   refine list_val (.agg (fl [[.int .u32 c.nx],[.slice x.ao x.no x.co],[.int .i64 c.tn],[.int .u32 c.dl],[.slice x.ah x.nh x.ch]])) (by kernel_rfl) (exec_sw _ 26 (.tmp 3) rfl (w.heap.size) (by kernel_rfl) (hB.get 0 (x:=⟨w.heap.size,fl [[.int .u32 c.nx],[.slice x.ao x.no x.co],[.int .i64 c.tn],[.int .u32 c.dl],[.slice x.ah x.nh x.ch]],26⟩) rfl) NC (nC  _ _ _ _ _) Try.underlying26 rfl (by kernel_rfl)) ?_
   simp only [nrm]
   refine list_call 8 #[.agg (fl [[.int .u32 c.nx],[.slice x.ao x.no x.co],[.int .i64 c.tn],[.int .u32 c.dl],[.slice x.ah x.nh x.ch]])] (by kernel_rfl) (by kernel_rfl) (((show Calls Try.prog 8 #[.agg (fl [[.int .u32 c.nx],[.slice x.ao x.no x.co],[.int .i64 c.tn],[.int .u32 c.dl],[.slice x.ah x.nh x.ch]])] u0 (Vl (.int .i64 0) u0) from hk ▸ check_ok c x u0 ((unhide hc).gr hB.gr))).mono ?_)
   rintro r_ u1 ⟨rfl,hg⟩
   replace hB:=hB.more hg
   clear hg
   refine ⟨_,rfl,?_⟩
   simp only [nrm]
   refine list_val (.bool false) (by kernel_rfl) (neq_e _ (.tmp 9) (.const (.int .i64 0)) 0 0 false rfl (by kernel_rfl) (by kernel_rfl) (by decide)) ?_
   simp only [nrm]
   (refine wpList_step fun K hK=>?_; replace hK:=hide hK; go_simp; refine unhide hK _ _ ?_; clear hK K)
   refine wpList_nil ?_
   replace hB:=hide hB
   go_upto_region 3 with fail
   replace hB:=unhide hB
   refine wp_region_lit ?_
   refine list_val (.agg (fl [[.int .u32 c.nx],[.slice x.ao x.no x.co],[.int .i64 c.tn],[.int .u32 c.dl],[.slice x.ah x.nh x.ch]])) (by kernel_rfl) (exec_sw _ 26 (.tmp 3) rfl (w.heap.size) (by kernel_rfl) (hB.get 0 (x:=⟨w.heap.size,fl [[.int .u32 c.nx],[.slice x.ao x.no x.co],[.int .i64 c.tn],[.int .u32 c.dl],[.slice x.ah x.nh x.ch]],26⟩) rfl) NC (nC  _ _ _ _ _) Try.underlying26 rfl (by kernel_rfl)) ?_
   simp only [nrm]
   refine lvk (.pointer (some ⟨w.heap.size+1,0,none⟩)) ?_
   simp only [nrm]
   refine list_val (.int .u32 s.n) (by kernel_rfl) (exec_c32 _ (.tmp 13) rfl (w.heap.size+1) 0 (by kernel_rfl) s.n (seg_cell (nI  _ _) (hB.get 1 (x:=⟨w.heap.size+1,fl [[.int .u32 s.n],[.string s.s]],59⟩) rfl) 0 (v:=.int .u32 s.n) rfl rfl)) ?_
   simp only [nrm]
   refine lvk (.int .i64 r) ?_
   simp only [nrm]
   refine list_call 15 #[.agg (fl [[.int .u32 c.nx],[.slice x.ao x.no x.co],[.int .i64 c.tn],[.int .u32 c.dl],[.slice x.ah x.nh x.ch]]),.int .u32 s.n,.int .i64 r] (by kernel_rfl) (by kernel_rfl) (((show Calls Try.prog 15 #[.agg (fl [[.int .u32 c.nx],[.slice x.ao x.no x.co],[.int .i64 c.tn],[.int .u32 c.dl],[.slice x.ah x.nh x.ch]]),.int .u32 s.n,.int .i64 r] u1 (Vl (.bool false) u1) from h2 ▸ wants_ok c x s.n r hs.1 u1 ((unhide hc).gr hB.gr))).mono ?_)
   rintro r_ u2 ⟨rfl,hg⟩
   replace hB:=hB.more hg
   clear hg
   refine ⟨_,rfl,?_⟩
   simp only [nrm]
   refine lvk (.bool true) ?_
   simp only [nrm]
   (refine wpList_step fun K hK=>?_; replace hK:=hide hK; go_simp; refine unhide hK _ _ ?_; clear hK K)
   refine wpList_nil ?_
   replace hB:=hide hB
   go_upto_region 4 with fail
   replace hB:=unhide hB
   refine wp_region_lit ?_
   (refine wpList_step fun K hK=>?_; replace hK:=hide hK; go_simp; refine unhide hK _ _ ?_; clear hK K)
   refine wpList_nil ?_
   replace hB:=hide hB
   go_wp2_with fail
   replace hB:=unhide hB
   rw [unhide hT]
   exact (⟨by rw [hv] <;> rfl,hB.gr⟩)
  | true =>
   cases h3:szB s.s with
   | false =>
    have hv:unt c s r=281:=by unfold unt; rw [if_neg (by rw [h1]; decide),if_neg (by rw [h2]; decide),if_pos h3]
    refine wp_region_lit ?_
    refine list_val (.agg (fl [[.int .u32 c.nx],[.slice x.ao x.no x.co],[.int .i64 c.tn],[.int .u32 c.dl],[.slice x.ah x.nh x.ch]])) (by kernel_rfl) (exec_sw _ 26 (.tmp 3) rfl (w.heap.size) (by kernel_rfl) (hB.get 0 (x:=⟨w.heap.size,fl [[.int .u32 c.nx],[.slice x.ao x.no x.co],[.int .i64 c.tn],[.int .u32 c.dl],[.slice x.ah x.nh x.ch]],26⟩) rfl) NC (nC  _ _ _ _ _) Try.underlying26 rfl (by kernel_rfl)) ?_
    simp only [nrm]
    refine list_call 8 #[.agg (fl [[.int .u32 c.nx],[.slice x.ao x.no x.co],[.int .i64 c.tn],[.int .u32 c.dl],[.slice x.ah x.nh x.ch]])] (by kernel_rfl) (by kernel_rfl) (((show Calls Try.prog 8 #[.agg (fl [[.int .u32 c.nx],[.slice x.ao x.no x.co],[.int .i64 c.tn],[.int .u32 c.dl],[.slice x.ah x.nh x.ch]])] u0 (Vl (.int .i64 0) u0) from hk ▸ check_ok c x u0 ((unhide hc).gr hB.gr))).mono ?_)
    rintro r_ u1 ⟨rfl,hg⟩
    replace hB:=hB.more hg
    clear hg
    refine ⟨_,rfl,?_⟩
    simp only [nrm]
    refine list_val (.bool false) (by kernel_rfl) (neq_e _ (.tmp 9) (.const (.int .i64 0)) 0 0 false rfl (by kernel_rfl) (by kernel_rfl) (by decide)) ?_
    simp only [nrm]
    (refine wpList_step fun K hK=>?_; replace hK:=hide hK; go_simp; refine unhide hK _ _ ?_; clear hK K)
    refine wpList_nil ?_
    replace hB:=hide hB
    go_upto_region 3 with fail
    replace hB:=unhide hB
    refine wp_region_lit ?_
    refine list_val (.agg (fl [[.int .u32 c.nx],[.slice x.ao x.no x.co],[.int .i64 c.tn],[.int .u32 c.dl],[.slice x.ah x.nh x.ch]])) (by kernel_rfl) (exec_sw _ 26 (.tmp 3) rfl (w.heap.size) (by kernel_rfl) (hB.get 0 (x:=⟨w.heap.size,fl [[.int .u32 c.nx],[.slice x.ao x.no x.co],[.int .i64 c.tn],[.int .u32 c.dl],[.slice x.ah x.nh x.ch]],26⟩) rfl) NC (nC  _ _ _ _ _) Try.underlying26 rfl (by kernel_rfl)) ?_
    simp only [nrm]
    refine lvk (.pointer (some ⟨w.heap.size+1,0,none⟩)) ?_
    simp only [nrm]
    refine list_val (.int .u32 s.n) (by kernel_rfl) (exec_c32 _ (.tmp 13) rfl (w.heap.size+1) 0 (by kernel_rfl) s.n (seg_cell (nI  _ _) (hB.get 1 (x:=⟨w.heap.size+1,fl [[.int .u32 s.n],[.string s.s]],59⟩) rfl) 0 (v:=.int .u32 s.n) rfl rfl)) ?_
    simp only [nrm]
    refine lvk (.int .i64 r) ?_
    simp only [nrm]
    refine list_call 15 #[.agg (fl [[.int .u32 c.nx],[.slice x.ao x.no x.co],[.int .i64 c.tn],[.int .u32 c.dl],[.slice x.ah x.nh x.ch]]),.int .u32 s.n,.int .i64 r] (by kernel_rfl) (by kernel_rfl) (((show Calls Try.prog 15 #[.agg (fl [[.int .u32 c.nx],[.slice x.ao x.no x.co],[.int .i64 c.tn],[.int .u32 c.dl],[.slice x.ah x.nh x.ch]]),.int .u32 s.n,.int .i64 r] u1 (Vl (.bool true) u1) from h2 ▸ wants_ok c x s.n r hs.1 u1 ((unhide hc).gr hB.gr))).mono ?_)
    rintro r_ u2 ⟨rfl,hg⟩
    replace hB:=hB.more hg
    clear hg
    refine ⟨_,rfl,?_⟩
    simp only [nrm]
    refine lvk (.bool false) ?_
    simp only [nrm]
    (refine wpList_step fun K hK=>?_; replace hK:=hide hK; go_simp; refine unhide hK _ _ ?_; clear hK K)
    refine wpList_nil ?_
    replace hB:=hide hB
    go_upto_region 5 with fail
    replace hB:=unhide hB
    refine wp_region_lit ?_
    refine lvk (.pointer (some ⟨w.heap.size+1,1,none⟩)) ?_
    simp only [nrm]
    refine list_val (.string s.s) (by kernel_rfl) (exec_cst _ (.tmp 19) rfl (w.heap.size+1) 1 (by kernel_rfl) s.s (seg_cell (nI  _ _) (hB.get 1 (x:=⟨w.heap.size+1,fl [[.int .u32 s.n],[.string s.s]],59⟩) rfl) 1 (v:=.string s.s) rfl rfl)) ?_
    simp only [nrm]
    refine list_call 25 #[.string s.s] (by kernel_rfl) (by kernel_rfl) (((show Calls Try.prog 25 #[.string s.s] u2 (Vl (.bool false) u2) from h3 ▸ sized_ok s.s hs.2 u2)).mono ?_)
    rintro r_ u3 ⟨rfl,hg⟩
    replace hB:=hB.more hg
    clear hg
    refine ⟨_,rfl,?_⟩
    simp only [nrm]
    refine lvk (.bool true) ?_
    simp only [nrm]
    (refine wpList_step fun K hK=>?_; replace hK:=hide hK; go_simp; refine unhide hK _ _ ?_; clear hK K)
    refine wpList_nil ?_
    replace hB:=hide hB
    go_upto_region 6 with fail
    replace hB:=unhide hB
    refine wp_region_lit ?_
    (refine wpList_step fun K hK=>?_; replace hK:=hide hK; go_simp; refine unhide hK _ _ ?_; clear hK K)
    refine wpList_nil ?_
    replace hB:=hide hB
    go_wp2_with fail
    replace hB:=unhide hB
    rw [unhide hT]
    exact (⟨by rw [hv] <;> rfl,hB.gr⟩)
   | true =>
    have hv:unt c s r=0:=by unfold unt; rw [if_neg (by rw [h1]; decide),if_neg (by rw [h2]; decide),if_neg (by rw [h3]; decide)]
    refine wp_region_lit ?_
    refine list_val (.agg (fl [[.int .u32 c.nx],[.slice x.ao x.no x.co],[.int .i64 c.tn],[.int .u32 c.dl],[.slice x.ah x.nh x.ch]])) (by kernel_rfl) (exec_sw _ 26 (.tmp 3) rfl (w.heap.size) (by kernel_rfl) (hB.get 0 (x:=⟨w.heap.size,fl [[.int .u32 c.nx],[.slice x.ao x.no x.co],[.int .i64 c.tn],[.int .u32 c.dl],[.slice x.ah x.nh x.ch]],26⟩) rfl) NC (nC  _ _ _ _ _) Try.underlying26 rfl (by kernel_rfl)) ?_
    simp only [nrm]
    refine list_call 8 #[.agg (fl [[.int .u32 c.nx],[.slice x.ao x.no x.co],[.int .i64 c.tn],[.int .u32 c.dl],[.slice x.ah x.nh x.ch]])] (by kernel_rfl) (by kernel_rfl) (((show Calls Try.prog 8 #[.agg (fl [[.int .u32 c.nx],[.slice x.ao x.no x.co],[.int .i64 c.tn],[.int .u32 c.dl],[.slice x.ah x.nh x.ch]])] u0 (Vl (.int .i64 0) u0) from hk ▸ check_ok c x u0 ((unhide hc).gr hB.gr))).mono ?_)
    rintro r_ u1 ⟨rfl,hg⟩
    replace hB:=hB.more hg
    clear hg
    refine ⟨_,rfl,?_⟩
    simp only [nrm]
    refine list_val (.bool false) (by kernel_rfl) (neq_e _ (.tmp 9) (.const (.int .i64 0)) 0 0 false rfl (by kernel_rfl) (by kernel_rfl) (by decide)) ?_
    simp only [nrm]
    (refine wpList_step fun K hK=>?_; replace hK:=hide hK; go_simp; refine unhide hK _ _ ?_; clear hK K)
    refine wpList_nil ?_
    replace hB:=hide hB
    go_upto_region 3 with fail
    replace hB:=unhide hB
    refine wp_region_lit ?_
    refine list_val (.agg (fl [[.int .u32 c.nx],[.slice x.ao x.no x.co],[.int .i64 c.tn],[.int .u32 c.dl],[.slice x.ah x.nh x.ch]])) (by kernel_rfl) (exec_sw _ 26 (.tmp 3) rfl (w.heap.size) (by kernel_rfl) (hB.get 0 (x:=⟨w.heap.size,fl [[.int .u32 c.nx],[.slice x.ao x.no x.co],[.int .i64 c.tn],[.int .u32 c.dl],[.slice x.ah x.nh x.ch]],26⟩) rfl) NC (nC  _ _ _ _ _) Try.underlying26 rfl (by kernel_rfl)) ?_
    simp only [nrm]
    refine lvk (.pointer (some ⟨w.heap.size+1,0,none⟩)) ?_
    simp only [nrm]
    refine list_val (.int .u32 s.n) (by kernel_rfl) (exec_c32 _ (.tmp 13) rfl (w.heap.size+1) 0 (by kernel_rfl) s.n (seg_cell (nI  _ _) (hB.get 1 (x:=⟨w.heap.size+1,fl [[.int .u32 s.n],[.string s.s]],59⟩) rfl) 0 (v:=.int .u32 s.n) rfl rfl)) ?_
    simp only [nrm]
    refine lvk (.int .i64 r) ?_
    simp only [nrm]
    refine list_call 15 #[.agg (fl [[.int .u32 c.nx],[.slice x.ao x.no x.co],[.int .i64 c.tn],[.int .u32 c.dl],[.slice x.ah x.nh x.ch]]),.int .u32 s.n,.int .i64 r] (by kernel_rfl) (by kernel_rfl) (((show Calls Try.prog 15 #[.agg (fl [[.int .u32 c.nx],[.slice x.ao x.no x.co],[.int .i64 c.tn],[.int .u32 c.dl],[.slice x.ah x.nh x.ch]]),.int .u32 s.n,.int .i64 r] u1 (Vl (.bool true) u1) from h2 ▸ wants_ok c x s.n r hs.1 u1 ((unhide hc).gr hB.gr))).mono ?_)
    rintro r_ u2 ⟨rfl,hg⟩
    replace hB:=hB.more hg
    clear hg
    refine ⟨_,rfl,?_⟩
    simp only [nrm]
    refine lvk (.bool false) ?_
    simp only [nrm]
    (refine wpList_step fun K hK=>?_; replace hK:=hide hK; go_simp; refine unhide hK _ _ ?_; clear hK K)
    refine wpList_nil ?_
    replace hB:=hide hB
    go_upto_region 5 with fail
    replace hB:=unhide hB
    refine wp_region_lit ?_
    refine lvk (.pointer (some ⟨w.heap.size+1,1,none⟩)) ?_
    simp only [nrm]
    refine list_val (.string s.s) (by kernel_rfl) (exec_cst _ (.tmp 19) rfl (w.heap.size+1) 1 (by kernel_rfl) s.s (seg_cell (nI  _ _) (hB.get 1 (x:=⟨w.heap.size+1,fl [[.int .u32 s.n],[.string s.s]],59⟩) rfl) 1 (v:=.string s.s) rfl rfl)) ?_
    simp only [nrm]
    refine list_call 25 #[.string s.s] (by kernel_rfl) (by kernel_rfl) (((show Calls Try.prog 25 #[.string s.s] u2 (Vl (.bool true) u2) from h3 ▸ sized_ok s.s hs.2 u2)).mono ?_)
    rintro r_ u3 ⟨rfl,hg⟩
    replace hB:=hB.more hg
    clear hg
    refine ⟨_,rfl,?_⟩
    simp only [nrm]
    refine lvk (.bool false) ?_
    simp only [nrm]
    (refine wpList_step fun K hK=>?_; replace hK:=hide hK; go_simp; refine unhide hK _ _ ?_; clear hK K)
    refine wpList_nil ?_
    replace hB:=hide hB
    go_upto_region 7 with fail
    replace hB:=unhide hB
    refine wp_region_lit ?_
    (refine wpList_step fun K hK=>?_; replace hK:=hide hK; go_simp; refine unhide hK _ _ ?_; clear hK K)
    refine wpList_nil ?_
    replace hB:=hide hB
    go_wp2_with fail
    replace hB:=unhide hB
    rw [unhide hT]
    exact (⟨by rw [hv] <;> rfl,hB.gr⟩)
theorem run_copy_k (w:World) (dT sT ty elem:TypeId) (k b o dLen dCap:Nat) (a:Addr) (sLen sCap:Nat) (cs:List Value) (m:Nat)
  (hu:Try.prog.underlying dT=some (.slice elem)) (hs:(Try.prog.info? elem).map (·.size)=some k) (hm:m=Nat.min sLen dLen) (hn:cs.length=m * k)
  (hsrc:∀ j v,cs[j]?=some v→w.cell? (a.add j)=some v) (hc:∀ j,j<cs.length→(w.cell? ⟨b,o+j,none⟩).isSome=true) (hf:∀ j,j<cs.length→w.frozen? ⟨b,o+j,none⟩=false) (h1:∀ v ∈ cs,v.oneCell'=true) :
  (Builtin.copy_ #[dT,sT] ty #[.slice (some ⟨b,o,none⟩) dLen dCap,.slice (some a) sLen sCap]).run Try.prog w=.ok (goInt m) (w.setCells b o cs):=by
 have hl:=run_loadCells_list (P:=Try.prog) w a cs hsrc
 have hst:=run_storeCells_cells (P:=Try.prog) b o cs 0 w (by simpa using hc) (by simpa using hf) h1
 cases hq:Try.prog.info? elem with
 | none=>simp [hq] at hs
 | some i =>
  have hi:i.size=k:=by simpa [hq] using hs
  simp [Builtin.copy_,run_underlying hu,Builtin.lenOf,Builtin.firstCells,sizeOf,typeInfo,hq,hi,← hm,← hn,hl,hst]
theorem list_copyk {ops:Array Oper} {Q:Exit→Act→World→Prop} {rest:List Oper} {o:Oper} {a:Act} {w:World} (d s:Operand) (ho:o.op=.call { callee:=.builtin .copy,args:=#[d,s],argTypes:=#[24,24] }) (hw:Region.wanted o (yielded ops a.tmps)=true)
  (v u v':Value) (w':World) (hd:a.eval d=v) (hs:a.eval s=u) (hr:(Builtin.copy_ #[24,24] o.type #[v,u]).run Try.prog w=.ok v' w') (h:wpList Try.prog ops Q rest (a.put o.dst v') w'):wpList Try.prog ops Q (o::rest) a w:=by
 refine wpList_step fun K hK=>?_
 rw [if_pos hw]
 unfold Oper.wp execOp
 simp only [ho,resolve,invoke,builtin,Sem.run_bind,Sem.run_pure,Result.andThen_ok,List.map_toArray,List.map_cons,List.map_nil,hd,hs,hr]
 exact hK _ _ h
theorem step_copyk {ops:Array Oper} {Q:Exit→Act→World→Prop} {o:Oper} {a:Act} {w:World} {K:Act→World→Prop} (d s:Operand) (ho:o.op=.call { callee:=.builtin .copy,args:=#[d,s],argTypes:=#[24,24] }) (hw:Region.wanted o (yielded ops a.tmps)=true)
  (v u v':Value) (w':World) (hd:a.eval d=v) (hs:a.eval s=u) (hr:(Builtin.copy_ #[24,24] o.type #[v,u]).run Try.prog w=.ok v' w') (h:K (a.put o.dst v') w'):if Region.wanted o (yielded ops a.tmps)=true then Oper.wp Try.prog o a w K Q else K (a.put o.dst undef) w:=by
 rw [if_pos hw]
 unfold Oper.wp execOp
 simp only [ho,resolve,invoke,builtin,Sem.run_bind,Sem.run_pure,Result.andThen_ok,List.map_toArray,List.map_cons,List.map_nil,hd,hs,hr]
 exact h
theorem sp_at {A M D:List Value} (vs:List Value) (o:Nat) (ho:A.length=o) (h:vs.length=M.length):sp (A++(M++D)) o vs=A++(vs++D):=by
 subst ho
 exact sp_mid vs A M D h
theorem list_3 (A E:List Value) (m k:Nat) (h:m+k≤E.length):A++E=(A++E.take m)++((E.drop m).take k++E.drop (m+k)):=by
 rw [List.append_assoc]
 congr 1
 conv=>lhs; rw [← List.take_append_drop m E]
 congr 1
 conv=>lhs; rw [← List.take_append_drop k (E.drop m)]
 rw [List.drop_drop]
theorem exec_ov {a:Act} {o:Oper} (w:World) (x y:Operand) (ho:o.op=.call { callee:=.value (.func 34),args:=#[x,y],argTypes:=#[24,24] }) (p q:Addr) (la ca lb cb:Nat) (hx:a.eval x=.slice (some p) la ca) (hy:a.eval y=.slice (some q) lb cb) (hne:p.block≠q.block) {C D:Array Value} (h1:w.heap[p.block]?=some (.cells C 59 (0,0))) (h2:w.heap[q.block]?=some (.cells D 59 (0,0))) (hD:D.size≠0) (hp:w.frozen? p=false) (hp2:w.frozen? { block:=p.block,off:=C.size }=false) :
  (execOp a.eval o).run Try.prog w=.ok (.value (.bool false)) w:=by
 have hs:∀ w,(Go.sizeOf 59).run Try.prog w=.ok 2 w:=fun w=>by kernel_rfl
 have h:=run_callFunc_extern (P:=Try.prog) (f:=34) Try.func34 (by kernel_rfl) (by kernel_rfl) (by kernel_rfl) (e:=Extern.SlicesOverlaps.overlaps #[24,24] #[4]) (by kernel_rfl) #[.slice (some p) la ca,.slice (some q) lb cb] w
 rw [Lib.run_overlaps_apart w 24 4 59 Try.underlying24 2 hs p q la ca lb cb hne 59 59 C.size D.size (by simp [World.shape?,h1]) (by simp [World.shape?,h2]) hD hp hp2] at h
 unfold execOp
 simp only [ho,resolve,invoke,List.map_toArray,List.map_cons,List.map_nil,hx,hy,Sem.run_bind,Sem.run_pure,Result.andThen_ok]
 exact h
theorem grown_of {w u v:World} {x:Option Nat} (h:Gr w u) (g:u.grownBy v x):w.grownBy v x :=
 ⟨g.os.trans h.os,g.tape.trans h.tape,g.output.trans h.output,Nat.le_trans h.size g.size,fun k hk hx=>(g.block k (Nat.lt_of_lt_of_le hk h.size) hx).trans (h.block k hk)⟩
theorem grown_cells {w u:World} {g o:Nat} {vs:List Value} (h:w.grownBy u (some g)):w.grownBy (u.setCells g o vs) (some g):=by
 have m:=setCells_bt vs u g o
 exact ⟨m.os.trans h.os,m.tape.trans h.tape,m.output.trans h.output,Nat.le_trans h.size m.size,fun k hk hx=>(m.block k (Nat.lt_of_lt_of_le hk h.size) (fun e=>hx (by rw [e]))).trans (h.block k hk hx)⟩
theorem gr_grown {w u:World} (h:Gr w u) (x:Option Nat):w.grownBy u x:=⟨h.os,h.tape,h.output,h.size,fun k hk _=>h.block k hk⟩
theorem flat2 {R:List (List Value)} (h:∀ r ∈ R,r.length=2):R.flatten.length=2 * R.length:=by rw [flat_len R 2 h]; omega
theorem ins_in {C:List Value} {R:List (List Value)} {row:List Value} {n i:Nat} (hR:∀ r ∈ R,r.length=2) (hn:R.length=n) (hi:i≤n) (hrow:row.length=2) (hC:2 * (n+1)≤C.length) (ht:Cov C R.flatten) :
  (sp (sp C (2 * (i+1)) (R.drop i).flatten) (2 * i) row).take ((n+1) * 2)=(R.take i++[row]++R.drop i).flatten:=by
 have hA:=flat2 (R:=R.take i) (fun r hr=>hR r (List.mem_of_mem_take hr))
 have hB:=flat2 (R:=R.drop i) (fun r hr=>hR r (List.mem_of_mem_drop hr))
 have hF:=flat2 hR
 rw [List.length_take,hn,Nat.min_eq_left hi] at hA
 rw [List.length_drop,hn] at hB
 have e1:C.take (2 * n)=R.flatten:=by
  apply List.ext_getElem?
  intro q
  by_cases hq:q<2 * n
  ·rw [List.getElem?_take_of_lt hq]
   have h2:R.flatten[q]?=some (R.flatten[q]'(by omega)):=List.getElem?_eq_getElem (by omega)
   rw [h2]
   exact ht q _ h2
  ·rw [List.getElem?_eq_none (by rw [List.length_take]; omega),List.getElem?_eq_none (by omega)]
 have e2:C=(R.take i).flatten++((R.drop i).flatten++C.drop (2 * n)):=by
  conv=>lhs; rw [← List.take_append_drop (2 * n) C,e1,← List.take_append_drop i R,List.flatten_append]
  rw [List.append_assoc]
 have hD:2≤(C.drop (2 * n)).length:=by rw [List.length_drop]; omega
 generalize hAq:(R.take i).flatten=A at *
 generalize hBq:(R.drop i).flatten=B at *
 generalize C.drop (2 * n)=D at *
 subst e2
 rw [list_3 A (B++D) 2 B.length (by rw [List.length_append]; omega),sp_at B _ (by rw [List.length_append,List.length_take,List.length_append]; omega) (by rw [List.length_take,List.length_drop,List.length_append]; omega),List.append_assoc,sp_at row _ (by omega) (by rw [List.length_take,List.length_append]; omega)]
 rw [List.flatten_append,List.flatten_append,hBq]
 have e3:[row].flatten=row:=by simp
 rw [e3]
 rw [show A++(row++(B++(B++D).drop (2+B.length)))=(A++row++B)++(B++D).drop (2+B.length) by simp]
 rw [List.take_append_of_le_length (by simp; omega),List.take_of_length_le (by simp; omega)]
 rw [hAq]
theorem ins_new {A Z B row:List Value} {n i:Nat} (hA:A.length=2 * i) (hi:i≤n) (hB:B.length=2 * (n - i)) (hrow:row.length=2) (hZ:2 * (n+1 - i)≤Z.length) :
  (sp (sp (A++Z) (2 * i) row) (2 * (i+1)) B).take ((n+1) * 2)=A++row++B:=by
 rw [show A++Z=A++(Z.take 2++Z.drop 2) by rw [List.take_append_drop],sp_at row _ hA (by rw [List.length_take]; omega)]
 rw [show A++(row++Z.drop 2)=(A++row)++((Z.drop 2).take B.length++(Z.drop 2).drop B.length) by rw [List.take_append_drop,List.append_assoc],sp_at B _ (by rw [List.length_append]; omega) (by rw [List.length_take,List.length_drop]; omega)]
 rw [← List.append_assoc,List.take_append_of_le_length (by simp; omega),List.take_of_length_le (by simp; omega)]
def Hb (g:Nat) (C:Array Value) (t:TypeId) (w:World):Prop:=w.heap[g]?=some (.cells C t (0,0))
theorem Hb.gr {g:Nat} {C:Array Value} {t:TypeId} {w v:World} (h:Hb g C t w) (k:Gr w v):Hb g C t v:=k.blk h
theorem Hb.ot {g q o:Nat} {C:Array Value} {t:TypeId} {w:World} {vs:List Value} (h:Hb g C t w) (hn:g≠q):Hb g C t (w.setCells q o vs):=(setCells_other vs w q o g hn).trans h
def Gb (w:World) (x:Option Nat) (u:World):Prop:=w.grownBy u x
theorem Gb.gr {w u v:World} {x:Option Nat} (h:Gb w x u) (k:Gr u v):Gb w x v:=⟨k.os.trans h.os,k.tape.trans h.tape,k.output.trans h.output,Nat.le_trans h.size k.size,fun i hi hx=>(k.block i (Nat.lt_of_lt_of_le hi h.size)).trans (h.block i hi hx)⟩
theorem gb_new {w u:World} {x:Option Nat} {g o:Nat} {vs:List Value} (h:Gb w x u) (hg:w.heap.size≤g):Gb w x (u.setCells g o vs):=by
 have m:=setCells_bt vs u g o
 exact ⟨m.os.trans h.os,m.tape.trans h.tape,m.output.trans h.output,Nat.le_trans h.size m.size,fun i hi hx=>(m.block i (Nat.lt_of_lt_of_le hi h.size) (by omega)).trans (h.block i hi hx)⟩
theorem exec_fsI {a:Act} {o:Oper} (w:World) (x y:Operand) (ho:o.op=.slice 24 x (some y) none none) (p q len cap n:Nat) (hx:a.eval x=.slice (some ⟨p,q,none⟩) len cap) (hy:a.eval y=.int .i64 n) (hc:len≤cap) (hn:n≤len) (hlt:n<cap) :
  (execOp a.eval o).run Try.prog w=.ok (.value (.slice (some ⟨p,q+2 * n,none⟩) (len - n) (cap - n))) w:=by
 have h:=exec_frI w x y ho _ len cap n hx hy hc hn
 have e:=frA_some 2 p q cap n hlt
 unfold frA at e
 rw [e] at h
 exact h
theorem list_appz {ops:Array Oper} {Q:Exit→Act→World→Prop} {rest:List Oper} {o:Oper} {a:Act} {w:World} (d s:Operand) (ho:o.op=.call { callee:=.builtin .append,args:=#[d,s],argTypes:=#[24,3] }) (hw:Region.wanted o (yielded ops a.tmps)=true)
  (v u v':Value) (w':World) (hd:a.eval d=v) (hs:a.eval s=u) (hr:(Builtin.append_ #[24,3] o.type #[v,u]).run Try.prog w=.ok v' w') (h:wpList Try.prog ops Q rest (a.put o.dst v') w'):wpList Try.prog ops Q (o::rest) a w:=by
 refine wpList_step fun K hK=>?_
 rw [if_pos hw]
 unfold Oper.wp execOp
 simp only [ho,resolve,invoke,builtin,Sem.run_bind,Sem.run_pure,Result.andThen_ok,List.map_toArray,List.map_cons,List.map_nil,hd,hs,hr]
 exact hK _ _ h
theorem ins_or {R:List (List Value)} {s:It} {n i b g c:Nat} {D:List Value} {w:World} (hR:∀ r ∈ R,r.length=2) (hn:n=R.length) (hi:i≤n) (hg:Hb g D.toArray 59 w) (hb:b≤g) (hc:n+1≤c) (hm:c≤maxLen) (hD:D.length=c * 2) (ht:D.take ((n+1) * 2)=(R.take i++[itr s]++R.drop i).flatten):Or_ 2 59 b w (.slice (some ⟨g,0,none⟩) (n+1) c) (R.take i++[itr s]++R.drop i):=by
 have hl:(R.take i++[itr s]++R.drop i).length=n+1:=by simp; omega
 have hr:∀ r ∈ R.take i++[itr s]++R.drop i,r.length=2:=by
  intro r hr
  rcases List.mem_append.1 hr with h | h
  ·rcases List.mem_append.1 h with h | h
   ·exact hR r (List.mem_of_mem_take h)
   ·rw [List.mem_singleton.1 h]; rfl
  ·exact hR r (List.mem_of_mem_drop h)
 refine ⟨hr,?_⟩
 rw [hl]
 exact ⟨by rw [flat2 hr,hl]; omega,.inr ⟨g,c,D.toArray,rfl,hb,hg,hc,hm,by simpa using hD,by simpa using ht⟩⟩
set_option maxHeartbeats 4000000 in
theorem insert_ok (R:List (List Value)) (s:It) (a:Option Addr) (n c i b vb:Nat) (hn3:n≤1000) (hi:i≤n) (w:World) (hO:Or_ 2 59 b w (.slice a n c) R) (h1R:∀ r ∈ R,∀ u ∈ r,u.oneCell'=true) (hb:b≤w.heap.size) (hv:w.heap[vb]?=some (.cells (fl [[.int .u32 s.n],[.string s.s]]) 59 (0,0))) (hvb:blkOf a≠some vb):Calls Try.prog 29 #[.slice a n c,.int .i64 (i:Int),.slice (some ⟨vb,0,none⟩) 1 1] w (fun r w'=>∃ a' c',r=.returned (.slice a' (n+1) c')∧Or_ 2 59 b w' (.slice a' (n+1) c') (R.take i++[itr s]++R.drop i)∧w.grownBy w' (Value.slice a n c).ownBlock):=by
 obtain ⟨T,hT⟩:∃ T:Ending→World→Prop,T=(fun r w'=>∃ a' c',r=.returned (.slice a' (n+1) c')∧Or_ 2 59 b w' (.slice a' (n+1) c') (R.take i++[itr s]++R.drop i)∧w.grownBy w' (Value.slice a n c).ownBlock):=⟨_,rfl⟩
 rw [← hT]
 replace hT:=hide hT
 have hRn:=(or_slice hO).1.symm
 have hLz:=(or_slice hO).2
 have hcap:=hLz.cap
 have hmax:=hLz.max
 have hRr:=hO.1
 replace hO:=hide hO; replace h1R:=hide h1R; replace hv:=hide hv; replace hvb:=hide hvb; replace hLz:=hide hLz; replace hRr:=hide hRr
 go_enter Try.func29,Try.ntmps29
 go_upto_region 1 with fail
 obtain ⟨u0,hu_⟩:∃ u,u=w:=⟨_,rfl⟩
 rw [← hu_]
 have hB:Bl w [] u0:=hu_ ▸ Bl.nil w
 clear hu_
 refine wp_region_lit ?_
 refine lvk (.slice a n c) ?_
 simp only [nrm]
 refine lvk (.int .i64 (i:Int)) ?_
 simp only [nrm]
 refine list_val (.slice (frA 2 a c i) (n - i) (c - i)) (by kernel_rfl) (exec_frI _ (.tmp 10) (.tmp 11) rfl a n c i (by kernel_rfl) (by kernel_rfl) hcap hi) ?_
 simp only [nrm]
 refine wpList_nil ?_
 replace hB:=hide hB
 go_upto_region 2 with fail
 replace hB:=unhide hB
 refine wp_region_lit ?_
 refine lvk (.slice (some ⟨vb,0,none⟩) 1 1) ?_
 simp only [nrm]
 refine lvk (.int .i64 1) ?_
 simp only [nrm]
 (refine wpList_step fun K hK=>?_; replace hK:=hide hK; go_simp; refine unhide hK _ _ ?_; clear hK K)
 refine wpList_nil ?_
 replace hB:=hide hB
 go_upto_region 3 with fail
 replace hB:=unhide hB
 refine wp_region_lit ?_
 refine lvk (.int .i64 1) ?_
 simp only [nrm]
 refine list_val (.bool false) (by kernel_rfl) (eql_i _ (.tmp 15) (.const (.int .i64 0)) 1 0 false rfl (by kernel_rfl) (by kernel_rfl) (by decide)) ?_
 simp only [nrm]
 refine wpList_nil ?_
 replace hB:=hide hB
 go_upto_region 5 with fail
 replace hB:=unhide hB
 refine wp_region_lit ?_
 refine lvk (.slice a n c) ?_
 simp only [nrm]
 refine lvk (.int .i64 (n:Int)) ?_
 simp only [nrm]
 (refine wpList_step fun K hK=>?_; replace hK:=hide hK; go_simp; refine unhide hK _ _ ?_; clear hK K)
 refine wpList_nil ?_
 by_cases h2:i=n
 ·have h2:=hide h2
  replace hB:=hide hB
  go_upto_region 6 with fail
  replace hB:=unhide hB
  refine wp_region_lit ?_
  refine lvk (.int .i64 (i:Int)) ?_
  simp only [nrm]
  refine lvk (.int .i64 (n:Int)) ?_
  simp only [nrm]
  refine list_val (.bool true) (by kernel_rfl) (eql_i _ (.tmp 20) (.tmp 21) (i:Int) (n:Int) true rfl (by kernel_rfl) (by kernel_rfl) (decide_eq_true (by have:=unhide h2; omega))) ?_
  simp only [nrm]
  refine wpList_nil ?_
  replace hB:=hide hB
  go_upto_region 7 with fail
  replace hB:=unhide hB
  refine wp_region_lit ?_
  refine lvk (.slice a n c) ?_
  simp only [nrm]
  refine lvk (.slice (some ⟨vb,0,none⟩) 1 1) ?_
  simp only [nrm]
  have hls:Lz 2 u0 (some ⟨vb,0,none⟩) 1 1 [itr s]:=⟨rfl,by intro r_ hr_; obtain rfl:=List.mem_singleton.1 hr_; rfl,.inr ⟨vb,0,rfl,by rw [List.flatten_cons,List.flatten_nil,List.append_nil]; exact range_row (hB.gr.blk (unhide hv))⟩,by omega,by omega⟩
  refine wpList_step fun K hK=>?_
  rw [if_pos (by kernel_rfl)]
  refine app_rowsW ltI (.tmp 23) (.tmp 24) rfl b _ R (by kernel_rfl) ((unhide hO).gr hB.gr) (some ⟨vb,0,none⟩) 1 1 [itr s] (by kernel_rfl) hls (by
   intro r_ hr_ u_ hu_
   obtain rfl:=List.mem_singleton.1 hr_
   exact itr_one _ u_ hu_) (by omega) (Nat.le_trans hb hB.gr.size) ?_
  intro v1 u1 hO1 hgr
  refine hK _ _ ?_
  clear hK K hls
  have hg9:=grown_of hB.gr hgr
  obtain ⟨a9,c9,rfl,hls9⟩:=hO1.lz
  have e2:(R++[itr s]).length=n+1:=by rw [List.length_append,List.length_singleton]; omega
  rw [e2] at hO1 ⊢
  have hOf:Hid (Or_ 2 59 b u1 (.slice a9 (n+1) c9) (R.take i++[itr s]++R.drop i)):=hide (by
   have h9:=unhide h2
   rw [List.take_of_length_le (by omega),List.drop_eq_nil_of_le (by omega),List.append_nil]
   exact hO1)
  clear hO1 hls9 e2 hgr hB
  simp only [nrm]
  (refine wpList_step fun K hK=>?_; replace hK:=hide hK; go_simp; refine unhide hK _ _ ?_; clear hK K)
  refine wpList_nil ?_
  have hB:=Bl.nil u1
  replace hB:=hide hB
  go_wp2_with fail
  replace hB:=unhide hB
  rw [unhide hT]
  exact (⟨a9,c9,rfl,unhide hOf,hg9⟩)
 ·have hin:i<n:=by omega
  obtain ⟨g,c0,C,e1,hbg,hg,hnc,hcm,hCl,hCov⟩:=Or_.some (unhide hO) (by intro e; rw [e] at hRn; simp at hRn; omega)
  injection e1 with e1 e2 e3
  subst e1 e3
  clear e2
  have hgvb:vb≠g:=fun e=>(unhide hvb) (by rw [e]; rfl)
  have hown:Value.ownBlock (Value.slice (some ⟨g,0,none⟩) n c)=some g:=rfl
  rw [hown] at hT
  have hclen:n+1≤c→2 * (n+1)≤C.length:=fun h9=>by rw [hCl]; omega
  have hlA:(R.take i).flatten.length=2 * i:=by rw [flat2 (fun r hr=>(unhide hRr) r (List.mem_of_mem_take hr)),List.length_take]; omega
  have hlB:(R.drop i).flatten.length=2 * (n - i):=by rw [flat2 (fun r hr=>(unhide hRr) r (List.mem_of_mem_drop hr)),List.length_drop]; omega
  have hRA:∀ j v,(R.take i).flatten[j]?=some v→C[j]?=some v:=fun j v hj=>hCov j v (by rw [← List.take_append_drop i R,List.flatten_append,List.getElem?_append_left (List.getElem?_eq_some_iff.1 hj).1]; exact hj)
  have hRB:∀ j v,(R.drop i).flatten[j]?=some v→C[2 * i+j]?=some v:=fun j v hj=>hCov _ v (by rw [← List.take_append_drop i R,List.flatten_append,List.getElem?_append_right (by omega),hlA,show 2 * i+j - 2 * i=j by omega]; exact hj)
  have h1B:∀ v ∈ (R.drop i).flatten,v.oneCell'=true:=fun v hv9=>by
   obtain ⟨r,hr,hv9⟩:=List.mem_flatten.1 hv9
   exact (unhide h1R) r (List.mem_of_mem_drop hr) v hv9
  replace hg:=hide hg; replace hCov:=hide hCov; replace hRA:=hide hRA; replace hRB:=hide hRB; replace h1B:=hide h1B; replace hlA:=hide hlA; replace hlB:=hide hlB; replace hclen:=hide hclen; replace hCl:=hide hCl
  replace hB:=hide hB
  go_upto_region 6 with fail
  replace hB:=unhide hB
  refine wp_region_lit ?_
  refine lvk (.int .i64 (i:Int)) ?_
  simp only [nrm]
  refine lvk (.int .i64 (n:Int)) ?_
  simp only [nrm]
  refine list_val (.bool false) (by kernel_rfl) (eql_i _ (.tmp 20) (.tmp 21) (i:Int) (n:Int) false rfl (by kernel_rfl) (by kernel_rfl) (decide_eq_false (by omega))) ?_
  simp only [nrm]
  refine wpList_nil ?_
  replace hB:=hide hB
  go_upto_region 8 with fail
  replace hB:=unhide hB
  by_cases h3:c<n+1
  ·have h3:=h3
   refine wp_region_lit ?_
   refine lvk (.int .i64 (n:Int)) ?_
   simp only [nrm]
   refine lvk (.int .i64 1) ?_
   simp only [nrm]
   refine list_val (.int .i64 ((n+1:Nat):Int)) (by kernel_rfl) (add_i _ (.tmp 26) (.tmp 27) (n:Int) 1 rfl (by kernel_rfl) (by kernel_rfl) _ (by omega) (by omega)) ?_
   simp only [nrm]
   refine lvk (.slice (some ⟨g,0,none⟩) n c) ?_
   simp only [nrm]
   refine lvk (.int .i64 (c:Int)) ?_
   simp only [nrm]
   refine list_val (.bool true) (by kernel_rfl) (gtr_i _ (.tmp 28) (.tmp 30) ((n+1:Nat):Int) (c:Int) true rfl (by kernel_rfl) (by kernel_rfl) (decide_eq_true (by omega))) ?_
   simp only [nrm]
   refine wpList_nil ?_
   have hgb:=hide (show Gb w (some g) u0 from gr_grown hB.gr (some g))
   have hV:=hide (show Hb vb (fl [[.int .u32 s.n],[.string s.s]]) 59 u0 from hB.gr.blk (unhide hv))
   have hG:=hide (show Hb g C.toArray 59 u0 from hB.gr.blk (unhide hg))
   have hvw:=lt_of_block (unhide hv)
   have hgw:=lt_of_block (unhide hg)
   have hb2:b≤u0.heap.size:=Nat.le_trans hb hB.gr.size
   have hwu:w.heap.size≤u0.heap.size:=hB.gr.size
   clear hB
   have hB:=Bl.nil u0
   replace hB:=hide hB
   go_upto_region 9 with fail
   replace hB:=unhide hB
   refine wp_region_lit ?_
   refine lvk (.slice (some ⟨g,0,none⟩) n c) ?_
   simp only [nrm]
   refine lvk (.int .i64 (i:Int)) ?_
   simp only [nrm]
   refine list_val (.slice (some ⟨g,0,none⟩) i c) (by kernel_rfl) (exec_upI _ (.tmp 32) (.tmp 33) rfl (some ⟨g,0,none⟩) n c i (by kernel_rfl) (by kernel_rfl) (by omega)) ?_
   simp only [nrm]
   refine lvk (.int .i64 (n:Int)) ?_
   simp only [nrm]
   refine lvk (.int .i64 1) ?_
   simp only [nrm]
   refine list_val (.int .i64 ((n+1:Nat):Int)) (by kernel_rfl) (add_i _ (.tmp 35) (.tmp 36) (n:Int) 1 rfl (by kernel_rfl) (by kernel_rfl) _ (by omega) (by omega)) ?_
   simp only [nrm]
   refine lvk (.int .i64 (i:Int)) ?_
   simp only [nrm]
   refine list_val (.int .i64 ((n+1 - i:Nat):Int)) (by kernel_rfl) (sub_i _ (.tmp 37) (.tmp 38) ((n+1:Nat):Int) (i:Int) rfl (by kernel_rfl) (by kernel_rfl) _ (by omega) (by omega)) ?_
   simp only [nrm]
   obtain ⟨i0,hi0,hi1,hi2,hi3⟩:=info_parts Try.infI3
   have hold:(Builtin.firstCells i0.size i (.slice (some ⟨g,0,none⟩) i c)).run Try.prog u0.drew=.ok (R.take i).flatten.toArray u0.drew:=by
    rw [hi2]
    exact run_firstCells_some u0.drew 2 i ⟨g,0,none⟩ i c _ (by have:=unhide hlA; omega) (fun j v hj=>by rw [Addr.add_mid,Nat.zero_add]; exact cell_of (((Gr.refl u0).drew).blk (unhide hG)) (by rw [List.getElem?_toArray]; exact (unhide hRA) j v hj))
   have hrun:=Lib.run_append_grow_zeros (P:=Try.prog) u0 24 3 24 59 i0 _ .i64 .i64 Try.underlying24 Try.underlying3 hi0 hi1 (some ⟨g,0,none⟩) i c _ hold (n+1 - i) (by omega) (by omega) (by omega) (by omega) (by rw [hi3]; omega) (by rw [hi3]; exact growslice_fits (by omega) (by omega))
   rw [show i+(n+1 - i)=n+1 by omega] at hrun
   have hGn:n+1≤grownCap u0 (n+1) c 59:=grownCap_ge _ _ _ _
   have hGm:grownCap u0 (n+1) c 59≤maxLen:=grownCap_le_maxLen _ _ _ _ (by unfold maxLen; omega)
   generalize grownCap u0 (n+1) c 59=G at *
   obtain ⟨Zl,hZ1,hZ2⟩:∃ Zl:List Value,((R.take i).flatten.toArray++Builtin.zeroCells (Value.agg (fl [[.int .u32 0],[.string ByteArray.empty]])).cells (n+1 - i)++Builtin.zeroCells (Value.agg (fl [[.int .u32 0],[.string ByteArray.empty]])).cells (G - (n+1)))=((R.take i).flatten++Zl).toArray∧Zl.length=2 * (G - i):=⟨(Builtin.zeroCells (Value.agg (fl [[.int .u32 0],[.string ByteArray.empty]])).cells (n+1 - i)++Builtin.zeroCells (Value.agg (fl [[.int .u32 0],[.string ByteArray.empty]])).cells (G - (n+1))).toList,by simp,by
    simp [Builtin.zeroCells,Value.cells,fl]
    omega⟩
   rw [hZ1] at hrun
   refine list_appz (.tmp 34) (.tmp 39) rfl (by kernel_rfl) _ _ _ _ (by kernel_rfl) (by kernel_rfl) hrun ?_
   have hN:Hid (Hb u0.heap.size ((R.take i).flatten++Zl).toArray 59 (u0.drew.alloc (.cells ((R.take i).flatten++Zl).toArray 59 (0,0)))):=blk_new u0.drew _
   have hg:=((Gr.refl u0).drew).alloc (.cells ((R.take i).flatten++Zl).toArray 59 (0,0))
   replace hgb:=hide ((unhide hgb).gr hg); replace hV:=hide ((unhide hV).gr hg); replace hG:=hide ((unhide hG).gr hg)
   clear hg hold hrun hZ1 hi0 hi1 hi2 hi3
   generalize World.alloc _ _=u1 at *
   generalize u0.heap.size=g2 at *
   clear hB
   have hB:=Bl.nil u1
   simp only [nrm]
   (refine wpList_step fun K hK=>?_; replace hK:=hide hK; go_simp; refine unhide hK _ _ ?_; clear hK K)
   refine wpList_nil ?_
   replace hB:=hide hB
   go_upto_region 10 with fail
   replace hB:=unhide hB
   refine wp_region_lit ?_
   refine lvk (.slice (some ⟨g2,0,none⟩) (n+1) G) ?_
   simp only [nrm]
   refine lvk (.int .i64 (i:Int)) ?_
   simp only [nrm]
   refine list_val (.slice (some ⟨g2,0+2 * i,none⟩) (n+1 - i) (G - i)) (by kernel_rfl) (exec_fsI _ (.tmp 41) (.tmp 42) rfl g2 0 (n+1) G i (by kernel_rfl) (by kernel_rfl) hGn (by omega) (by omega)) ?_
   simp only [nrm]
   refine lvk (.slice (some ⟨vb,0,none⟩) 1 1) ?_
   simp only [nrm]
   have hth:=there_of (n:=((itr s)).length) (o:=0+2 * i) (unhide hN) (by rw [List.length_append,hZ2]; have:=unhide hlA; have:=itr_len s; omega)
   have hcp:=fun ty_=>run_copy_k u1 24 24 ty_ 59 2 g2 (0+2 * i) (n+1 - i) (G - i) ⟨vb,0,none⟩ (1) (1) ((itr s)) (1) Try.underlying24 (by kernel_rfl) (by simp only [Nat.min_def]; split <;> omega) (by rfl) (fun j v hj=>by rw [Addr.add_mid]; exact cell_of (unhide hV) (by rw [Nat.zero_add]; unfold fl; rw [List.getElem?_toArray]; exact hj)) (fun j hj=>(hth j hj).1) (fun j hj=>(hth j hj).2) (itr_one s)
   refine list_copyk (.tmp 43) (.tmp 44) rfl (by kernel_rfl) _ _ _ _ (by kernel_rfl) (by kernel_rfl) (hcp _) ?_
   clear hcp hth
   have hN2:Hid (Hb g2 (sp ((R.take i).flatten++Zl) (0+2 * i) ((itr s))).toArray 59 (World.setCells u1 g2 (0+2 * i) ((itr s)))):=setCells_heap _ _ _ _ _ _ (unhide hN)
   replace hgb:=hide (show Gb w (some g) (World.setCells u1 g2 (0+2 * i) ((itr s))) from gb_new (unhide hgb) hwu)
   replace hV:=hide ((unhide hV).ot (o:=0+2 * i) (vs:=(itr s)) (show vb≠g2 by omega))
   replace hG:=hide ((unhide hG).ot (o:=0+2 * i) (vs:=(itr s)) (show g≠g2 by omega))
   replace hN:=hN2
   clear hN2
   generalize World.setCells _ _ _ _=u2 at *
   clear hB
   have hB:=Bl.nil u2
   simp only [nrm]
   refine wpList_nil ?_
   replace hB:=hide hB
   go_upto_region 11 with fail
   replace hB:=unhide hB
   refine any_start (S:=fun v_=>True) (by kernel_rfl) ?_
   replace hgb:=hide ((unhide hgb).gr ((Gr.refl u2).drew))
   replace hV:=hide ((unhide hV).gr ((Gr.refl u2).drew))
   replace hG:=hide ((unhide hG).gr ((Gr.refl u2).drew))
   replace hN:=hide ((unhide hN).gr ((Gr.refl u2).drew))
   replace hB:=hB.drew
   generalize World.drew _=u3 at *
   simp only [List.size_toArray,List.length_cons,List.length_nil,Array.replicate,List.replicate]
   refine any_tk 0 (.slice (some ⟨g2,0,none⟩) (n+1) G) (tf 9 0) rfl (fun x_ hu=>by kernel_rfl) trivial ?_
   simp only [nrm]
   refine any_tk 1 (.int .i64 (i:Int)) (tf 9 1) rfl (fun x_ hu=>by kernel_rfl) trivial ?_
   simp only [nrm]
   refine any_tk 2 (.int .i64 1) (tf 9 2) rfl (fun x_ hu=>by kernel_rfl) trivial ?_
   simp only [nrm]
   refine any_tk 3 (.int .i64 ((i+1:Nat):Int)) (tf 9 3) rfl (fun x_ hu=>add_i _ (.tmp 47) (.tmp 48) (i:Int) 1 rfl (by kernel_rfl) (by kernel_rfl) _ (by omega) (by omega)) trivial ?_
   simp only [nrm]
   refine any_tk 4 (.slice (some ⟨g2,0+2 * (i+1),none⟩) (n+1 - (i+1)) (G - (i+1))) (tf 9 4) rfl (fun x_ hu=>exec_fsI _ (.tmp 46) (.tmp 49) rfl g2 0 (n+1) G (i+1) (by kernel_rfl) (by kernel_rfl) hGn (by omega) (by omega)) trivial ?_
   simp only [nrm]
   refine any_tk 5 (.slice (some ⟨g,0,none⟩) n c) (tf 9 5) rfl (fun x_ hu=>by kernel_rfl) trivial ?_
   simp only [nrm]
   refine any_tk 6 (.int .i64 (i:Int)) (tf 9 6) rfl (fun x_ hu=>by kernel_rfl) trivial ?_
   simp only [nrm]
   refine any_tk 7 (.slice (some ⟨g,0+2 * i,none⟩) (n - i) (c - i)) (tf 9 7) rfl (fun x_ hu=>exec_fsI _ (.tmp 51) (.tmp 52) rfl g 0 n c i (by kernel_rfl) (by kernel_rfl) hcap (by omega) (by omega)) trivial ?_
   simp only [nrm]
   refine any_one (i:=8) (by kernel_rfl) rfl (fun K hK=>?_)
   have hth:=there_of (n:=((R.drop i).flatten).length) (o:=0+2 * (i+1)) (unhide hN) (by rw [sp_len,List.length_append,hZ2]; have:=unhide hlA; have:=unhide hlB; omega)
   have hcp:=fun ty_=>run_copy_k u3 24 24 ty_ 59 2 g2 (0+2 * (i+1)) (n+1 - (i+1)) (G - (i+1)) ⟨g,0+2 * i,none⟩ (n - i) (c - i) ((R.drop i).flatten) (n - i) Try.underlying24 (by kernel_rfl) (by simp only [Nat.min_def]; split <;> omega) (by have:=unhide hlB; omega) (fun j v hj=>by rw [Addr.add_mid]; exact cell_of (unhide hG) (by rw [List.getElem?_toArray,Nat.zero_add]; exact (unhide hRB) j v hj)) (fun j hj=>(hth j hj).1) (fun j hj=>(hth j hj).2) (unhide h1B)
   refine step_copyk (.tmp 50) (.tmp 53) rfl (by kernel_rfl) _ _ _ _ (by kernel_rfl) (by kernel_rfl) (hcp _) ?_
   clear hcp hth
   have hN2:Hid (Hb g2 (sp (sp ((R.take i).flatten++Zl) (0+2 * i) (itr s)) (0+2 * (i+1)) ((R.drop i).flatten)).toArray 59 (World.setCells u3 g2 (0+2 * (i+1)) ((R.drop i).flatten))):=setCells_heap _ _ _ _ _ _ (unhide hN)
   replace hgb:=hide (show Gb w (some g) (World.setCells u3 g2 (0+2 * (i+1)) ((R.drop i).flatten)) from gb_new (unhide hgb) hwu)
   replace hN:=hN2
   clear hN2 hV hG
   generalize World.setCells _ _ _ _=u4 at *
   clear hB
   have hB:=Bl.nil u4
   refine hK.out _ _ trivial (fun _=>?_)
   clear hK K
   simp only [nrm]
   refine any_done (by kernel_rfl) ?_
   replace hB:=hide hB
   go_upto_region 12 with fail
   replace hB:=unhide hB
   refine wp_region_lit ?_
   refine lvk (.slice (some ⟨g2,0,none⟩) (n+1) G) ?_
   simp only [nrm]
   (refine wpList_step fun K hK=>?_; replace hK:=hide hK; go_simp; refine unhide hK _ _ ?_; clear hK K)
   refine wpList_nil ?_
   have hfin:Or_ 2 59 b u4 (.slice (some ⟨g2,0,none⟩) (n+1) G) (R.take i++[itr s]++R.drop i):=ins_or (unhide hRr) hRn.symm hi (unhide hN) (by omega) hGn hGm (by rw [sp_len,sp_len,List.length_append,hZ2]; have:=unhide hlA; omega) (by rw [Nat.zero_add,Nat.zero_add,ins_new (unhide hlA) hi (unhide hlB) (itr_len s) (by rw [hZ2]; omega)]; simp)
   replace hB:=hide hB
   go_wp2_with fail
   replace hB:=unhide hB
   rw [unhide hT]
   exact (⟨some ⟨g2,0,none⟩,G,rfl,hfin,unhide hgb⟩)
  ·have h3:n+1≤c:=by omega
   refine wp_region_lit ?_
   refine lvk (.int .i64 (n:Int)) ?_
   simp only [nrm]
   refine lvk (.int .i64 1) ?_
   simp only [nrm]
   refine list_val (.int .i64 ((n+1:Nat):Int)) (by kernel_rfl) (add_i _ (.tmp 26) (.tmp 27) (n:Int) 1 rfl (by kernel_rfl) (by kernel_rfl) _ (by omega) (by omega)) ?_
   simp only [nrm]
   refine lvk (.slice (some ⟨g,0,none⟩) n c) ?_
   simp only [nrm]
   refine lvk (.int .i64 (c:Int)) ?_
   simp only [nrm]
   refine list_val (.bool false) (by kernel_rfl) (gtr_i _ (.tmp 28) (.tmp 30) ((n+1:Nat):Int) (c:Int) false rfl (by kernel_rfl) (by kernel_rfl) (decide_eq_false (by omega))) ?_
   simp only [nrm]
   refine wpList_nil ?_
   have hgb:=hide (show Gb w (some g) u0 from gr_grown hB.gr (some g))
   have hV:=hide (show Hb vb (fl [[.int .u32 s.n],[.string s.s]]) 59 u0 from hB.gr.blk (unhide hv))
   have hG:=hide (show Hb g C.toArray 59 u0 from hB.gr.blk (unhide hg))
   have hvw:=lt_of_block (unhide hv)
   have hgw:=lt_of_block (unhide hg)
   have hb2:b≤u0.heap.size:=Nat.le_trans hb hB.gr.size
   have hwu:w.heap.size≤u0.heap.size:=hB.gr.size
   clear hB
   have hB:=Bl.nil u0
   replace hB:=hide hB
   go_upto_region 13 with fail
   replace hB:=unhide hB
   refine wp_region_lit ?_
   refine lvk (.slice (some ⟨g,0,none⟩) n c) ?_
   simp only [nrm]
   refine lvk (.int .i64 (n:Int)) ?_
   simp only [nrm]
   refine lvk (.int .i64 1) ?_
   simp only [nrm]
   refine list_val (.int .i64 ((n+1:Nat):Int)) (by kernel_rfl) (add_i _ (.tmp 57) (.tmp 58) (n:Int) 1 rfl (by kernel_rfl) (by kernel_rfl) _ (by omega) (by omega)) ?_
   simp only [nrm]
   refine list_val (.slice (some ⟨g,0,none⟩) (n+1) c) (by kernel_rfl) (exec_upI _ (.tmp 56) (.tmp 59) rfl (some ⟨g,0,none⟩) n c (n+1) (by kernel_rfl) (by kernel_rfl) h3) ?_
   simp only [nrm]
   (refine wpList_step fun K hK=>?_; replace hK:=hide hK; go_simp; refine unhide hK _ _ ?_; clear hK K)
   refine wpList_nil ?_
   replace hB:=hide hB
   go_upto_region 14 with fail
   replace hB:=unhide hB
   refine wp_region_lit ?_
   refine lvk (.slice (some ⟨vb,0,none⟩) 1 1) ?_
   simp only [nrm]
   refine lvk (.slice (some ⟨g,0,none⟩) (n+1) c) ?_
   simp only [nrm]
   refine lvk (.int .i64 (i:Int)) ?_
   simp only [nrm]
   refine lvk (.int .i64 1) ?_
   simp only [nrm]
   refine list_val (.int .i64 ((i+1:Nat):Int)) (by kernel_rfl) (add_i _ (.tmp 63) (.tmp 64) (i:Int) 1 rfl (by kernel_rfl) (by kernel_rfl) _ (by omega) (by omega)) ?_
   simp only [nrm]
   refine list_val (.slice (some ⟨g,0+2 * (i+1),none⟩) (n+1 - (i+1)) (c - (i+1))) (by kernel_rfl) (exec_fsI _ (.tmp 62) (.tmp 65) rfl g 0 (n+1) c (i+1) (by kernel_rfl) (by kernel_rfl) h3 (by omega) (by omega)) ?_
   simp only [nrm]
   refine list_val (.bool false) (by kernel_rfl) (exec_ov _ (.tmp 61) (.tmp 66) rfl ⟨vb,0,none⟩ ⟨g,0+2 * (i+1),none⟩ 1 1 (n+1 - (i+1)) (c - (i+1)) (by kernel_rfl) (by kernel_rfl) hgvb (unhide hV) (unhide hG) (by have:=(unhide hclen) h3; rw [List.size_toArray]; omega) (froz_of (unhide hV)) (froz_of (unhide hV))) ?_
   simp only [nrm]
   refine lvk (.bool true) ?_
   simp only [nrm]
   refine wpList_nil ?_
   replace hB:=hide hB
   go_upto_region 15 with fail
   replace hB:=unhide hB
   refine any_start (S:=fun v_=>True) (by kernel_rfl) ?_
   replace hgb:=hide ((unhide hgb).gr ((Gr.refl u0).drew))
   replace hV:=hide ((unhide hV).gr ((Gr.refl u0).drew))
   replace hG:=hide ((unhide hG).gr ((Gr.refl u0).drew))
   replace hB:=hB.drew
   generalize World.drew _=u1 at *
   simp only [List.size_toArray,List.length_cons,List.length_nil,Array.replicate,List.replicate]
   refine any_tk 0 (.slice (some ⟨g,0,none⟩) (n+1) c) (tf 9 0) rfl (fun x_ hu=>by kernel_rfl) trivial ?_
   simp only [nrm]
   refine any_tk 1 (.int .i64 (i:Int)) (tf 9 1) rfl (fun x_ hu=>by kernel_rfl) trivial ?_
   simp only [nrm]
   refine any_tk 2 (.int .i64 1) (tf 9 2) rfl (fun x_ hu=>by kernel_rfl) trivial ?_
   simp only [nrm]
   refine any_tk 3 (.int .i64 ((i+1:Nat):Int)) (tf 9 3) rfl (fun x_ hu=>add_i _ (.tmp 70) (.tmp 71) (i:Int) 1 rfl (by kernel_rfl) (by kernel_rfl) _ (by omega) (by omega)) trivial ?_
   simp only [nrm]
   refine any_tk 4 (.slice (some ⟨g,0+2 * (i+1),none⟩) (n+1 - (i+1)) (c - (i+1))) (tf 9 4) rfl (fun x_ hu=>exec_fsI _ (.tmp 69) (.tmp 72) rfl g 0 (n+1) c (i+1) (by kernel_rfl) (by kernel_rfl) h3 (by omega) (by omega)) trivial ?_
   simp only [nrm]
   refine any_tk 5 (.slice (some ⟨g,0,none⟩) (n+1) c) (tf 9 5) rfl (fun x_ hu=>by kernel_rfl) trivial ?_
   simp only [nrm]
   refine any_tk 6 (.int .i64 (i:Int)) (tf 9 6) rfl (fun x_ hu=>by kernel_rfl) trivial ?_
   simp only [nrm]
   refine any_tk 7 (.slice (some ⟨g,0+2 * i,none⟩) (n+1 - i) (c - i)) (tf 9 7) rfl (fun x_ hu=>exec_fsI _ (.tmp 74) (.tmp 75) rfl g 0 (n+1) c i (by kernel_rfl) (by kernel_rfl) h3 (by omega) (by omega)) trivial ?_
   simp only [nrm]
   refine any_one (i:=8) (by kernel_rfl) rfl (fun K hK=>?_)
   have hth:=there_of (n:=((R.drop i).flatten).length) (o:=0+2 * (i+1)) (unhide hG) (by have:=(unhide hclen) h3; have:=unhide hlB; omega)
   have hcp:=fun ty_=>run_copy_k u1 24 24 ty_ 59 2 g (0+2 * (i+1)) (n+1 - (i+1)) (c - (i+1)) ⟨g,0+2 * i,none⟩ (n+1 - i) (c - i) ((R.drop i).flatten) (n - i) Try.underlying24 (by kernel_rfl) (by simp only [Nat.min_def]; split <;> omega) (by have:=unhide hlB; omega) (fun j v hj=>by rw [Addr.add_mid]; exact cell_of (unhide hG) (by rw [List.getElem?_toArray,Nat.zero_add]; exact (unhide hRB) j v hj)) (fun j hj=>(hth j hj).1) (fun j hj=>(hth j hj).2) (unhide h1B)
   refine step_copyk (.tmp 73) (.tmp 76) rfl (by kernel_rfl) _ _ _ _ (by kernel_rfl) (by kernel_rfl) (hcp _) ?_
   clear hcp hth
   have hG2:Hid (Hb g (sp C (0+2 * (i+1)) ((R.drop i).flatten)).toArray 59 (World.setCells u1 g (0+2 * (i+1)) ((R.drop i).flatten))):=setCells_heap _ _ _ _ _ _ (unhide hG)
   replace hgb:=hide (show Gb w (some g) (World.setCells u1 g (0+2 * (i+1)) ((R.drop i).flatten)) from grown_cells (unhide hgb))
   replace hV:=hide ((unhide hV).ot (o:=0+2 * (i+1)) (vs:=(R.drop i).flatten) hgvb)
   replace hG:=hG2
   clear hG2
   generalize World.setCells _ _ _ _=u2 at *
   clear hB
   have hB:=Bl.nil u2
   refine hK.out _ _ trivial (fun _=>?_)
   clear hK K
   simp only [nrm]
   refine any_done (by kernel_rfl) ?_
   replace hB:=hide hB
   go_upto_region 16 with fail
   replace hB:=unhide hB
   refine wp_region_lit ?_
   refine lvk (.slice (some ⟨g,0,none⟩) (n+1) c) ?_
   simp only [nrm]
   refine lvk (.int .i64 (i:Int)) ?_
   simp only [nrm]
   refine list_val (.slice (some ⟨g,0+2 * i,none⟩) (n+1 - i) (c - i)) (by kernel_rfl) (exec_fsI _ (.tmp 78) (.tmp 79) rfl g 0 (n+1) c i (by kernel_rfl) (by kernel_rfl) h3 (by omega) (by omega)) ?_
   simp only [nrm]
   refine lvk (.slice (some ⟨vb,0,none⟩) 1 1) ?_
   simp only [nrm]
   have hth:=there_of (n:=((itr s)).length) (o:=0+2 * i) (unhide hG) (by rw [sp_len]; have:=(unhide hclen) h3; have:=itr_len s; omega)
   have hcp:=fun ty_=>run_copy_k u2 24 24 ty_ 59 2 g (0+2 * i) (n+1 - i) (c - i) ⟨vb,0,none⟩ (1) (1) ((itr s)) (1) Try.underlying24 (by kernel_rfl) (by simp only [Nat.min_def]; split <;> omega) (by rfl) (fun j v hj=>by rw [Addr.add_mid]; exact cell_of (unhide hV) (by rw [Nat.zero_add]; unfold fl; rw [List.getElem?_toArray]; exact hj)) (fun j hj=>(hth j hj).1) (fun j hj=>(hth j hj).2) (itr_one s)
   refine list_copyk (.tmp 80) (.tmp 81) rfl (by kernel_rfl) _ _ _ _ (by kernel_rfl) (by kernel_rfl) (hcp _) ?_
   clear hcp hth
   have hG2:Hid (Hb g (sp (sp C (0+2 * (i+1)) (R.drop i).flatten) (0+2 * i) ((itr s))).toArray 59 (World.setCells u2 g (0+2 * i) ((itr s)))):=setCells_heap _ _ _ _ _ _ (unhide hG)
   replace hgb:=hide (show Gb w (some g) (World.setCells u2 g (0+2 * i) ((itr s))) from grown_cells (unhide hgb))
   replace hG:=hG2
   clear hG2 hV
   generalize World.setCells _ _ _ _=u3 at *
   clear hB
   have hB:=Bl.nil u3
   simp only [nrm]
   refine wpList_nil ?_
   replace hB:=hide hB
   go_upto_region 17 with fail
   replace hB:=unhide hB
   refine wp_region_lit ?_
   refine lvk (.slice (some ⟨g,0,none⟩) (n+1) c) ?_
   simp only [nrm]
   (refine wpList_step fun K hK=>?_; replace hK:=hide hK; go_simp; refine unhide hK _ _ ?_; clear hK K)
   refine wpList_nil ?_
   have hfin:Or_ 2 59 b u3 (.slice (some ⟨g,0,none⟩) (n+1) c) (R.take i++[itr s]++R.drop i):=ins_or (unhide hRr) hRn.symm hi (unhide hG) hbg h3 hcm (by rw [sp_len,sp_len]; exact unhide hCl) (by rw [Nat.zero_add,Nat.zero_add]; exact ins_in (unhide hRr) hRn hi (itr_len s) ((unhide hclen) h3) (unhide hCov))
   replace hB:=hide hB
   go_wp2_with fail
   replace hB:=unhide hB
   rw [unhide hT]
   exact (⟨some ⟨g,0,none⟩,c,rfl,hfin,unhide hgb⟩)
end Go.Proofs.Ytcefkkoombmndab
namespace Go.Proofs.Ytcefkkoombmndab
open Go.RowKit
set_option maxRecDepth 100000
set_option linter.unusedSimpArgs false
set_option linter.unusedVariables false
theorem exec_lhmI {a:Act} {o:Oper} (w:World) (x y z m:Operand) (ho:o.op=.slice 24 x (some y) (some z) (some m)) (p len cap n:Nat) (hx:a.eval x=.slice (some ⟨p,0,none⟩) len cap) (hy:a.eval y=.int .i64 0) (hz:a.eval z=.int .i64 1) (hm:a.eval m=.int .i64 n) (h1:1≤n) (h2:n≤cap) :
  (execOp a.eval o).run Try.prog w=.ok (.value (.slice (some ⟨p,0,none⟩) 1 n)) w:=by
 have h3:(1:Int)≤(n:Int):=by omega
 have h4:(n:Int)≤cap:=by omega
 have hu:Try.prog.underlying 24=some (.slice (Try.prog.elem 24)):=by kernel_rfl
 have hz2:(sizeOf (Try.prog.elem 24)).run Try.prog w=.ok 2 w:=by kernel_rfl
 have hn0:¬ n=0:=by omega
 simp [execOp,ho,hx,hy,hz,hm,run_sliceAt_slice _ _ _ _ _ _ hu,run_slice_lhm _ _ _ _ _ hu _ _ _ _ _ _ (show (0:Int)≤0 by omega) (show (0:Int)≤1 by omega) h3 h4,hz2,sliced,Addr.add]
theorem exec_lhI {a:Act} {o:Oper} (w:World) (x y z:Operand) (ho:o.op=.slice 24 x (some y) (some z) none) (p len cap n m k:Nat) (hx:a.eval x=.slice (some ⟨p,0,none⟩) len cap) (hy:a.eval y=.int .i64 n) (hz:a.eval z=.int .i64 m) (h1:n≤m) (h2:m≤cap) (h3:n<cap) (hk:m - n=k) :
  (execOp a.eval o).run Try.prog w=.ok (.value (.slice (some ⟨p,0+2 * n,none⟩) k (cap - n))) w:=by
 subst hk
 have h4:(n:Int)≤(m:Int):=by omega
 have h5:(m:Int)≤cap:=by omega
 have hu:Try.prog.underlying 24=some (.slice (Try.prog.elem 24)):=by kernel_rfl
 have hz2:(sizeOf (Try.prog.elem 24)).run Try.prog w=.ok 2 w:=by kernel_rfl
 have e:=frA_some 2 p 0 cap n h3
 unfold frA at e
 simp [execOp,ho,hx,hy,hz,run_sliceAt_slice _ _ _ _ _ _ hu,run_slice_lh _ _ _ _ _ hu _ _ _ _ (show (0:Int)≤(n:Int) by omega) h4 h5,hz2,sliced]
 simpa using e
theorem list_clearI {ops:Array Oper} {Q:Exit→Act→World→Prop} {rest:List Oper} {o:Oper} {a:Act} {w:World} (d:Operand) (ho:o.op=.call { callee:=.builtin .clear,args:=#[d],argTypes:=#[24] }) (hw:Region.wanted o (yielded ops a.tmps)=true) (g q c:Nat) (hd:a.eval d=.slice (some ⟨g,q,none⟩) 1 c) {C:List Value} (hg:w.heap[g]?=some (.cells C.toArray 59 (0,0))) (hq:q+2≤C.length)
  (h:wpList Try.prog ops Q rest (a.put o.dst (.tuple #[])) (w.setCells g q [.int .u32 0,.string ByteArray.empty])):wpList Try.prog ops Q (o::rest) a w:=by
 have ht:=there_of hg hq
 have hst:=run_storeCells_cells (P:=Try.prog) g q [.int .u32 0,.string ByteArray.empty] 0 w (fun j hj=>(ht j hj).1) (fun j hj=>(ht j hj).2) (by intro v hv; simp only [List.mem_cons,List.not_mem_nil,or_false] at hv; rcases hv with rfl | rfl <;> rfl)
 have hz:∀ w,(zeroValue 59).run Try.prog w=.ok (.agg (fl [[.int .u32 0],[.string ByteArray.empty]])) w:=fun w=>by kernel_rfl
 have hz2:(Builtin.zeroCells (Value.agg (fl [[.int .u32 0],[.string ByteArray.empty]])).cells 1).toList=[.int .u32 0,.string ByteArray.empty]:=by kernel_rfl
 simp only [Nat.add_zero] at hst
 have hr:(Builtin.clear_ #[24] o.type #[.slice (some ⟨g,q,none⟩) 1 c]).run Try.prog w=.ok (.tuple #[]) (w.setCells g q [.int .u32 0,.string ByteArray.empty]):=by
  simp [Builtin.clear_,run_underlying Try.underlying24,hz,hz2,hst]
 refine wpList_step fun K hK=>?_
 rw [if_pos hw]
 unfold Oper.wp execOp
 simp only [ho,resolve,invoke,builtin,Sem.run_bind,Sem.run_pure,Result.andThen_ok,List.map_toArray,List.map_cons,List.map_nil,hd,hr]
 exact hK _ _ h
theorem step_apr {ops:Array Oper} {Q:Exit→Act→World→Prop} {o:Oper} {a:Act} {w:World} {K:Act→World→Prop} (d s:Operand) (ho:o.op=.call { callee:=.builtin .append,args:=#[d,s],argTypes:=#[24,24] }) (hw:Region.wanted o (yielded ops a.tmps)=true)
  (v u v':Value) (w':World) (hd:a.eval d=v) (hs:a.eval s=u) (hr:(Builtin.append_ #[24,24] o.type #[v,u]).run Try.prog w=.ok v' w') (h:K (a.put o.dst v') w'):if Region.wanted o (yielded ops a.tmps)=true then Oper.wp Try.prog o a w K Q else K (a.put o.dst undef) w:=by
 rw [if_pos hw]
 unfold Oper.wp execOp
 simp only [ho,resolve,invoke,builtin,Sem.run_bind,Sem.run_pure,Result.andThen_ok,List.map_toArray,List.map_cons,List.map_nil,hd,hs,hr]
 exact h
theorem setRow_same (w:World) (g:Nat) (c:Array Value) (d:Array Value) (t:TypeId) (h:w.heap[g]?=some (.cells d t (0,0))):(w.setRow g c).heap[g]?=some (.cells c t (0,0)):=setRow_heap w g d c t (0,0) h
theorem gb_row {w u:World} {g:Nat} {c:Array Value} (h:Gb w (some g) u):Gb w (some g) (u.setRow g c):=by
 have m:=setRow_bt u g c
 exact ⟨m.os.trans h.os,m.tape.trans h.tape,m.output.trans h.output,Nat.le_trans h.size m.size,fun i hi hx=>(m.block i (Nat.lt_of_lt_of_le hi h.size) (fun e=>hx (by rw [e]))).trans (h.block i hi hx)⟩
set_option maxHeartbeats 4000000 in
theorem delete_ok (R:List (List Value)) (a:Option Addr) (n c b:Nat) (hn3:n≤1000) (h0:0<n) (w:World) (hO:Or_ 2 59 b w (.slice a n c) R) (h1R:∀ r ∈ R,∀ u ∈ r,u.oneCell'=true):Calls Try.prog 36 #[.slice a n c,.int .i64 0,.int .i64 1] w (fun r w'=>∃ a' c',r=.returned (.slice a' (n - 1) c')∧Or_ 2 59 b w' (.slice a' (n - 1) c') (R.drop 1)∧w.grownBy w' (Value.slice a n c).ownBlock):=by
 obtain ⟨T,hT⟩:∃ T:Ending→World→Prop,T=(fun r w'=>∃ a' c',r=.returned (.slice a' (n - 1) c')∧Or_ 2 59 b w' (.slice a' (n - 1) c') (R.drop 1)∧w.grownBy w' (Value.slice a n c).ownBlock):=⟨_,rfl⟩
 rw [← hT]
 replace hT:=hide hT
 have hRn:=(or_slice hO).1.symm
 have hLz:=(or_slice hO).2
 have hcap:=hLz.cap
 have hmax:=hLz.max
 have hRr:=hO.1
 clear hLz
 obtain ⟨g,c0,C,e1,hbg,hg,hnc,hcm,hCl,hCov⟩:=Or_.some hO (by intro e; rw [e] at hRn; simp at hRn; omega)
 injection e1 with e1 e2 e3
 subst e1 e3
 clear e2 hO hnc
 have hown:Value.ownBlock (Value.slice (some ⟨g,0,none⟩) n c)=some g:=rfl
 rw [hown] at hT
 clear hown
 have hlB:(R.drop 1).flatten.length=2 * (n - 1):=by rw [flat2 (fun r hr=>hRr r (List.mem_of_mem_drop hr)),List.length_drop]; omega
 have hlA:(R.take 1).flatten.length=2:=by rw [flat2 (fun r hr=>hRr r (List.mem_of_mem_take hr)),List.length_take]; omega
 have hRB:∀ j v,(R.drop 1).flatten[j]?=some v→C[0+2 * 1+j]?=some v:=fun j v hj=>hCov _ v (by rw [← List.take_append_drop 1 R,List.flatten_append,List.getElem?_append_right (by omega),hlA,show 0+2 * 1+j - 2=j by omega]; exact hj)
 have h1B:∀ v ∈ (R.drop 1).flatten,v.oneCell'=true:=fun v hv9=>by
  obtain ⟨r,hr,hv9⟩:=List.mem_flatten.1 hv9
  exact h1R r (List.mem_of_mem_drop hr) v hv9
 have hBr:∀ r ∈ R.drop 1,r.length=2:=fun r hr=>hRr r (List.mem_of_mem_drop hr)
 have hBn:(R.drop 1).length=n - 1:=by rw [List.length_drop]; omega
 obtain ⟨q2,hq2,hq3⟩:∃ q2,frA 2 (some ⟨g,0,none⟩) c 1=some ⟨g,q2,none⟩∧(1<n→q2=0+2 * 1):=by
  by_cases h9:1<c
  ·exact ⟨_,frA_some 2 g 0 c 1 h9,fun _=>rfl⟩
  ·have:c=1:=by omega
   exact ⟨0,by unfold frA; rw [if_pos this],fun h=>by omega⟩
 replace hg:=hide hg; replace hRB:=hide hRB; replace h1B:=hide h1B; replace hlB:=hide hlB; replace hCl:=hide hCl; replace hBr:=hide hBr; replace hBn:=hide hBn; replace hq2:=hide hq2; replace hq3:=hide hq3
 clear hCov h1R hlA hRr hRn
 go_enter Try.func36,Try.ntmps36
 go_upto_region 1 with fail
 obtain ⟨u0,hu_⟩:∃ u,u=w:=⟨_,rfl⟩
 rw [← hu_]
 have hB:Bl w [] u0:=hu_ ▸ Bl.nil w
 clear hu_
 have hgb:=hide (show Gb w (some g) u0 from gr_grown hB.gr (some g))
 have hG:=hide (show Hb g C.toArray 59 u0 from hB.gr.blk (unhide hg))
 clear hB hg
 have hB:=Bl.nil u0
 refine wp_region_lit ?_
 refine lvk (.slice (some ⟨g,0,none⟩) n c) ?_
 simp only [nrm]
 refine lvk (.int .i64 0) ?_
 simp only [nrm]
 refine lvk (.int .i64 1) ?_
 simp only [nrm]
 refine lvk (.slice (some ⟨g,0,none⟩) n c) ?_
 simp only [nrm]
 refine lvk (.int .i64 (n:Int)) ?_
 simp only [nrm]
 refine list_val (.slice (some ⟨g,0,none⟩) 1 n) (by kernel_rfl) (exec_lhmI _ (.tmp 8) (.tmp 9) (.tmp 10) (.tmp 12) rfl g n c n (by kernel_rfl) (by kernel_rfl) (by kernel_rfl) (by kernel_rfl) h0 hcap) ?_
 simp only [nrm]
 refine wpList_nil ?_
 replace hB:=hide hB
 go_upto_region 2 with fail
 replace hB:=unhide hB
 refine wp_region_lit ?_
 refine lvk (.int .i64 0) ?_
 simp only [nrm]
 refine lvk (.int .i64 1) ?_
 simp only [nrm]
 refine list_val (.bool false) (by kernel_rfl) (eql_i _ (.tmp 14) (.tmp 15) 0 1 false rfl (by kernel_rfl) (by kernel_rfl) (by decide)) ?_
 simp only [nrm]
 refine wpList_nil ?_
 replace hB:=hide hB
 go_upto_region 4 with fail
 replace hB:=unhide hB
 refine wp_region_lit ?_
 refine lvk (.slice (some ⟨g,0,none⟩) n c) ?_
 simp only [nrm]
 refine lvk (.int .i64 (n:Int)) ?_
 simp only [nrm]
 (refine wpList_step fun K hK=>?_; replace hK:=hide hK; go_simp; refine unhide hK _ _ ?_; clear hK K)
 refine wpList_nil ?_
 replace hB:=hide hB
 go_upto_region 5 with fail
 replace hB:=unhide hB
 refine any_start (S:=fun v_=>True) (by kernel_rfl) ?_
 replace hgb:=hide ((unhide hgb).gr ((Gr.refl u0).drew))
 replace hG:=hide ((unhide hG).gr ((Gr.refl u0).drew))
 replace hB:=hB.drew
 generalize World.drew _=u1 at *
 simp only [List.size_toArray,List.length_cons,List.length_nil,Array.replicate,List.replicate]
 refine any_tk 0 (.slice (some ⟨g,0,none⟩) n c) (tf 8 0) rfl (fun x_ hu=>by kernel_rfl) trivial ?_
 simp only [nrm]
 refine any_tk 1 (.int .i64 0) (tf 8 1) rfl (fun x_ hu=>by kernel_rfl) trivial ?_
 simp only [nrm]
 refine any_tk 2 (.slice (some ⟨g,0,none⟩) 0 c) (tf 8 2) rfl (fun x_ hu=>exec_upI _ (.tmp 20) (.tmp 21) rfl (some ⟨g,0,none⟩) n c 0 (by kernel_rfl) (by kernel_rfl) (by omega)) trivial ?_
 simp only [nrm]
 refine any_tk 3 (.slice (some ⟨g,0,none⟩) n c) (tf 8 3) rfl (fun x_ hu=>by kernel_rfl) trivial ?_
 simp only [nrm]
 refine any_tk 4 (.int .i64 1) (tf 8 4) rfl (fun x_ hu=>by kernel_rfl) trivial ?_
 simp only [nrm]
 refine any_tk 5 (.slice (some ⟨g,q2,none⟩) (n - 1) (c - 1)) (tf 8 5) rfl (fun x_ hu=>unhide hq2 ▸ exec_frI _ (.tmp 23) (.tmp 24) rfl (some ⟨g,0,none⟩) n c 1 (by kernel_rfl) (by kernel_rfl) hcap h0) trivial ?_
 simp only [nrm]
 refine any_one (i:=6) (by kernel_rfl) rfl (fun K hK=>?_)
 obtain ⟨i0,hi0,hi1,hi2,hi3⟩:=info_parts Try.infI3
 have hrun:=fun ty_=>run_append_room (P:=Try.prog) u1 24 ty_ 59 i0 Try.underlying24 hi0 g 0 c C.toArray (unhide hG) ⟨g,q2,none⟩ (n - 1) (c - 1) (R.drop 1).flatten (by rw [hi2]; have:=unhide hlB; omega) (fun j v hj=>by
  have h7:=(List.getElem?_eq_some_iff.1 hj).1
  have h8:=unhide hlB
  rw [Addr.add_mid,(unhide hq3) (by omega)]
  exact cell_of (unhide hG) (by rw [List.getElem?_toArray]; exact (unhide hRB) j v hj)) (unhide h1B) (by omega) (by rw [hi2]; have h7:=unhide hlB; have h8:=unhide hCl; rw [List.size_toArray]; omega)
 simp only [Nat.zero_mul,List.take_zero,List.nil_append,Nat.zero_add] at hrun
 refine step_apr (.tmp 22) (.tmp 25) rfl (by kernel_rfl) _ _ _ _ (by kernel_rfl) (by kernel_rfl) (hrun _) ?_
 have hN:Hid (Hb g ((R.drop 1).flatten++C.drop (R.drop 1).flatten.length).toArray 59 (u1.setRow g ((R.drop 1).flatten++C.toArray.toList.drop (R.drop 1).flatten.length).toArray)):=hide (setRow_same _ _ _ _ _ (unhide hG))
 replace hgb:=hide (show Gb w (some g) (u1.setRow g ((R.drop 1).flatten++C.toArray.toList.drop (R.drop 1).flatten.length).toArray) from gb_row (unhide hgb))
 clear hrun hi0 hi1 hi2 hi3
 generalize World.setRow _ _ _=u2 at *
 clear hB hG
 have hG:=hN
 clear hN
 have hB:=Bl.nil u2
 refine hK.out _ _ trivial (fun _=>?_)
 clear hK K
 simp only [nrm]
 refine any_one (i:=7) (by kernel_rfl) rfl (fun K hK=>?_)
 replace hK:=hide hK
 go_simp
 refine (unhide hK).out _ _ trivial (fun _=>?_)
 clear hK K
 simp only [nrm]
 refine any_done (by kernel_rfl) ?_
 replace hB:=hide hB
 go_upto_region 6 with fail
 replace hB:=unhide hB
 refine wp_region_lit ?_
 refine lvk (.slice (some ⟨g,0,none⟩) (n - 1) c) ?_
 simp only [nrm]
 refine lvk (.slice (some ⟨g,0,none⟩) (n - 1) c) ?_
 simp only [nrm]
 refine lvk (.int .i64 ((n - 1:Nat):Int)) ?_
 simp only [nrm]
 refine lvk (.int .i64 (n:Int)) ?_
 simp only [nrm]
 refine list_val (.slice (some ⟨g,0+2 * (n - 1),none⟩) 1 (c - (n - 1))) (by kernel_rfl) (exec_lhI _ (.tmp 27) (.tmp 29) (.tmp 30) rfl g (n - 1) c (n - 1) n 1 (by kernel_rfl) (by kernel_rfl) (by kernel_rfl) (by omega) hcap (by omega) (by omega)) ?_
 simp only [nrm]
 refine list_clearI (.tmp 31) rfl (by kernel_rfl) g (0+2 * (n - 1)) (c - (n - 1)) (by kernel_rfl) (unhide hG) (by have h7:=unhide hlB; have h8:=unhide hCl; rw [List.length_append,List.length_drop]; omega) ?_
 have hN:Hid (Hb g (sp ((R.drop 1).flatten++C.drop (R.drop 1).flatten.length) (0+2 * (n - 1)) [.int .u32 0,.string ByteArray.empty]).toArray 59 (u2.setCells g (0+2 * (n - 1)) [.int .u32 0,.string ByteArray.empty])):=setCells_heap _ _ _ _ _ _ (unhide hG)
 replace hgb:=hide (show Gb w (some g) (u2.setCells g (0+2 * (n - 1)) [.int .u32 0,.string ByteArray.empty]) from grown_cells (unhide hgb))
 generalize World.setCells _ _ _ _=u3 at *
 clear hB hG
 have hG:=hN
 clear hN
 have hB:=Bl.nil u3
 simp only [nrm]
 refine wpList_nil ?_
 replace hB:=hide hB
 go_upto_region 7 with fail
 replace hB:=unhide hB
 refine wp_region_lit ?_
 refine lvk (.slice (some ⟨g,0,none⟩) (n - 1) c) ?_
 simp only [nrm]
 (refine wpList_step fun K hK=>?_; replace hK:=hide hK; go_simp; refine unhide hK _ _ ?_; clear hK K)
 refine wpList_nil ?_
 have hfin:Or_ 2 59 b u3 (.slice (some ⟨g,0,none⟩) (n - 1) c) (R.drop 1):=by
  have h7:=unhide hlB
  have h8:=unhide hCl
  refine ⟨unhide hBr,?_⟩
  rw [unhide hBn]
  refine ⟨by rw [h7]; omega,.inr ⟨g,c,_,rfl,hbg,unhide hG,by omega,hcm,by rw [List.size_toArray,sp_len,List.length_append,List.length_drop]; omega,?_⟩⟩
  have h9:(C.drop (R.drop 1).flatten.length)=(C.drop (R.drop 1).flatten.length).take 2++(C.drop (R.drop 1).flatten.length).drop 2:=(List.take_append_drop 2 _).symm
  have hd:=List.length_drop (i:=(R.drop 1).flatten.length) (l:=C)
  generalize C.drop (R.drop 1).flatten.length=D at *
  rw [List.toList_toArray,h9,sp_at _ _ (by omega) (by simp [List.length_take]; omega),List.take_append_of_le_length (by omega),List.take_of_length_le (by omega)]
 replace hB:=hide hB
 go_wp2_with fail
 replace hB:=unhide hB
 rw [unhide hT]
 exact (⟨some ⟨g,0,none⟩,c,rfl,hfin,unhide hgb⟩)
end Go.Proofs.Ytcefkkoombmndab
