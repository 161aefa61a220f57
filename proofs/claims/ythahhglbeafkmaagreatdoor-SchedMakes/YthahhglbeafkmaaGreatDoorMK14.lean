/-
  SchedMakes, given whatever pair, round and envelope, returns true, and its arguments read afterwards as they read before: for every input; the package variable first holds what the program's text lays (the card ties it).
-/
import Derived.Test.YthahhglbeafkmaaGreatDoorRows
import Derived.ProofKit
import Derived.OpenShut
import Derived.ChangeOld
import Derived.ChangeSame
import Derived.SizedLaws
import Derived.Deep.Strs
import Derived.Deep.Grids
import Derived.Lib.SmallJoins
import Derived.Test.YthahhglbeafkmaaGreatDoorTie
import Derived.Test.YthahhglbeafkmaaGreatDoorCards
import Derived.LaidMore
import Derived.Stop.Joined
import Derived.SevenTiedAt
import Derived.Test.YthahhglbeafkmaaGreatDoorMK13
namespace Go.Proofs.YthahhglbeafkmaaGreatDoor
open Go.RowKit
set_option maxRecDepth 100000
set_option linter.unusedSimpArgs false
set_option linter.unusedVariables false
set_option maxHeartbeats 4000000 in
theorem makes_zero (Ky:List Int) (hKy:Ky.length=32) (hKb:IsB Ky) (f:Bool) (k a s:Int) (B:List Int) (hBl:B.length=105) (hBb:IsB B) (ha:U4 a) (hs:U4 s) (w:World) (hF:Fst w):Calls Tryz.prog 3 #[.agg (fl [bw Ky,[.bool f]]),.int .u64 0,.agg (fl [[.int .i64 k],[.int .u32 a],[.int .u32 s],bw B])] w (Vl (.bool true) w):=by
 obtain ⟨T,hT⟩:∃ T:Ending→World→Prop,T=(Vl (.bool true) w):=⟨_,rfl⟩
 rw [← hT]
 replace hT:=hide hT
 obtain ⟨A0_,hA0_⟩:∃ S_,S_=fl [bw Ky,[.bool f]]:=⟨_,rfl⟩
 rw [← hA0_]
 replace hA0_:=hide hA0_
 obtain ⟨A2_,hA2_⟩:∃ S_,S_=fl [[.int .i64 k],[.int .u32 a],[.int .u32 s],bw B]:=⟨_,rfl⟩
 rw [← hA2_]
 replace hA2_:=hide hA2_
 replace hF:=hide hF
 replace hKb:=hide hKb
 replace hBb:=hide hBb
 go_enter Tryz.func3,Tryz.ntmps3
 go_upto_region 1 with fail
 have hB:=(((Bl.nil w).new A0_ 25).new A2_ 30)
 simp only [size_alloc,List.nil_append,List.cons_append] at hB
 rw [unhide hA0_,unhide hA2_] at hB
 generalize hu_:World.alloc _ _=u0
 replace hB:Bl w [⟨w.heap.size,fl [bw Ky,[.bool f]],25⟩,⟨w.heap.size+1,fl [[.int .i64 k],[.int .u32 a],[.int .u32 s],bw B],30⟩] u0:=by
  rw [← hu_]
  rw [unhide hA0_,unhide hA2_]
  exact hB
 clear hu_ hA0_ hA2_
 refine wp_region_lit ?_
 refine list_call 6 #[] (by kernel_rfl) (by kernel_rfl) ((wakes_ok u0 ((unhide hF).gr hB.gr)).mono ?_)
 rintro r_ u1 ⟨rfl,hg⟩
 replace hB:=hB.more hg
 clear hg
 refine ⟨_,rfl,?_⟩
 simp only [nrm]
 refine lvk (.bool false) ?_
 simp only [nrm]
 refine wpList_nil ?_
 replace hB:=hide hB
 go_upto_region 3 with fail
 replace hB:=unhide hB
 refine wp_region_lit ?_
 refine list_val (.agg (fl [bw Ky,[.bool f]])) (by kernel_rfl) (exec_sw _ 25 (.tmp 3) rfl (w.heap.size) (by kernel_rfl) (hB.get 0 (x:=⟨w.heap.size,fl [bw Ky,[.bool f]],25⟩) rfl) NP (nP hKy _) Tryz.underlying25 rfl (by kernel_rfl)) ?_
 simp only [nrm]
 refine lvk (.int .u64 0) ?_
 simp only [nrm]
 refine list_val (.agg (fl [[.int .i64 k],[.int .u32 a],[.int .u32 s],bw B])) (by kernel_rfl) (exec_sw _ 30 (.tmp 5) rfl (w.heap.size+1) (by kernel_rfl) (hB.get 1 (x:=⟨w.heap.size+1,fl [[.int .i64 k],[.int .u32 a],[.int .u32 s],bw B],30⟩) rfl) NE (nE hBl _ _ _) Tryz.underlying30 rfl (by kernel_rfl)) ?_
 simp only [nrm]
 refine list_call 7 #[.agg (fl [bw Ky,[.bool f]]),.int .u64 0,.agg (fl [[.int .i64 k],[.int .u32 a],[.int .u32 s],bw B])] (by kernel_rfl) (by kernel_rfl) ((vreal_zero Ky hKy (unhide hKb) f k a s B hBl (unhide hBb) ha hs u1).mono ?_)
 rintro r_ u2 ⟨rfl,hg⟩
 replace hB:=hB.more hg
 clear hg
 refine ⟨_,rfl,?_⟩
 simp only [nrm]
 refine lvk (.tuple #[.agg (fl [bw Z16,bw Z130]),.int .i64 291]) ?_
 simp only [nrm]
 refine lvk (.agg (fl [bw Z16,bw Z130])) ?_
 simp only [nrm]
 refine lvk (.int .i64 291) ?_
 simp only [nrm]
 refine list_valw (.pointer (some ⟨u2.heap.size,0,none⟩)) (u2.alloc (.cells (fl [bw Z16,bw Z130]) 36 (0,0))) (by kernel_rfl) (by kernel_rfl) ?_
 replace hB:=hB.new (fl [bw Z16,bw Z130]) 36
 simp only [List.nil_append,List.cons_append] at hB
 generalize World.alloc _ _=u3 at *
 generalize u2.heap.size=g7 at *
 replace hB:Bl w [⟨w.heap.size,fl [bw Ky,[.bool f]],25⟩,⟨w.heap.size+1,fl [[.int .i64 k],[.int .u32 a],[.int .u32 s],bw B],30⟩,⟨g7,fl [bw Z16,bw Z130],36⟩] u3:=hB
 simp only [nrm]
 refine list_all 36 (.tmp 7) (.tmp 16) (g7) (S2:=[bw Z16,bw Z130]) (by kernel_rfl) rfl (by kernel_rfl) (by kernel_rfl) hB 2 rfl NX (nX (show List.length Z16=16 from rfl) (show List.length Z130=130 from rfl)) (nX (show List.length Z16=16 from rfl) (show List.length Z130=130 from rfl)) (by kernel_rfl) (oX _ _) ?_
 intro u4 hB_ hbt_
 clear hB
 replace hB:Bl w [⟨w.heap.size,fl [bw Ky,[.bool f]],25⟩,⟨w.heap.size+1,fl [[.int .i64 k],[.int .u32 a],[.int .u32 s],bw B],30⟩,⟨g7,fl [bw Z16,bw Z130],36⟩] u4:=hB_
 clear hB_
 clear hbt_
 simp only [nrm]
 (refine wpList_step fun K hK=>?_; replace hK:=hide hK; go_simp; refine unhide hK _ _ ?_; clear hK K)
 refine wpList_nil ?_
 replace hB:=hide hB
 go_upto_region 4 with fail
 replace hB:=unhide hB
 refine wp_region_lit ?_
 refine lvk (.int .u64 0) ?_
 simp only [nrm]
 refine list_val (.bool true) (by kernel_rfl) (eql_64 _ (.tmp 19) (.const (.int .u64 0)) 0 0 true rfl (by kernel_rfl) (by kernel_rfl) (by decide)) ?_
 simp only [nrm]
 (refine wpList_step fun K hK=>?_; replace hK:=hide hK; go_simp; refine unhide hK _ _ ?_; clear hK K)
 refine wpList_nil ?_
 replace hB:=hide hB
 go_upto_region 5 with fail
 replace hB:=unhide hB
 refine wp_region_lit ?_
 refine wpList_gen fun ops_ hops=>?_
 replace hops:=hide hops
 refine list_val (.agg (fl [bw Z16,bw Z130])) (by rw [unhide hops]; kernel_rfl) (exec_sw _ 36 (.tmp 7) rfl (g7) (by kernel_rfl) (hB.get 2 (x:=⟨g7,fl [bw Z16,bw Z130],36⟩) rfl) NX (nX (show List.length Z16=16 from rfl) (show List.length Z130=130 from rfl)) Tryz.underlying36 rfl (by kernel_rfl)) ?_
 simp only [nrm]
 refine list_val (.agg (fl [bw Z16,bw Z130])) (by rw [unhide hops]; kernel_rfl) (bX _ rfl) ?_
 simp only [nrm]
 refine list_val (.bool true) (by rw [unhide hops]; kernel_rfl) (exec_eql_x _ (.tmp 21) (.tmp 22) rfl (fl [bw Z16,bw Z130]) (by kernel_rfl) (by kernel_rfl) (eq_xf (show List.length Z16=16 from rfl) (show List.length Z130=130 from rfl) _)) ?_
 simp only [nrm]
 refine list_val (.bool true) (by rw [unhide hops]; kernel_rfl) (by kernel_rfl) ?_
 simp only [nrm]
 refine list_val (.int .i64 291) (by rw [unhide hops]; kernel_rfl) (by kernel_rfl) ?_
 simp only [nrm]
 refine list_val (.bool true) (by rw [unhide hops]; kernel_rfl) (eql_e _ (.tmp 25) (.const (.int .i64 291)) 291 291 true rfl (by kernel_rfl) (by kernel_rfl) (by decide)) ?_
 simp only [nrm]
 refine list_val (.bool true) (by rw [unhide hops]; kernel_rfl) (by kernel_rfl) ?_
 simp only [nrm]
 (refine wpList_step fun K hK=>?_; replace hK:=hide hK; go_simp; refine unhide hK _ _ ?_; clear hK K)
 refine wpList_nil ?_
 replace hB:=hide hB
 go_wp2_with fail
 replace hB:=unhide hB
 rw [unhide hT]
 exact (⟨rfl,hB.gr⟩)
set_option maxHeartbeats 4000000 in
theorem makes_bad (Ky:List Int) (hKy:Ky.length=32) (hKb:IsB Ky) (f:Bool) (k a s:Int) (B:List Int) (hBl:B.length=105) (hBb:IsB B) (ha:U4 a) (hs:U4 s) (r:Int) (hr:0≤r∧r<18446744073709551616) (w:World) (hF:Fst w) (hr0:r≠0) (he:evR k s B=false):Calls Tryz.prog 3 #[.agg (fl [bw Ky,[.bool f]]),.int .u64 r,.agg (fl [[.int .i64 k],[.int .u32 a],[.int .u32 s],bw B])] w (Vl (.bool true) w):=by
 obtain ⟨T,hT⟩:∃ T:Ending→World→Prop,T=(Vl (.bool true) w):=⟨_,rfl⟩
 rw [← hT]
 replace hT:=hide hT
 obtain ⟨A0_,hA0_⟩:∃ S_,S_=fl [bw Ky,[.bool f]]:=⟨_,rfl⟩
 rw [← hA0_]
 replace hA0_:=hide hA0_
 obtain ⟨A2_,hA2_⟩:∃ S_,S_=fl [[.int .i64 k],[.int .u32 a],[.int .u32 s],bw B]:=⟨_,rfl⟩
 rw [← hA2_]
 replace hA2_:=hide hA2_
 replace hF:=hide hF
 replace hKb:=hide hKb
 replace hBb:=hide hBb
 replace he:=hide he
 go_enter Tryz.func3,Tryz.ntmps3
 go_upto_region 1 with fail
 have hB:=(((Bl.nil w).new A0_ 25).new A2_ 30)
 simp only [size_alloc,List.nil_append,List.cons_append] at hB
 rw [unhide hA0_,unhide hA2_] at hB
 generalize hu_:World.alloc _ _=u0
 replace hB:Bl w [⟨w.heap.size,fl [bw Ky,[.bool f]],25⟩,⟨w.heap.size+1,fl [[.int .i64 k],[.int .u32 a],[.int .u32 s],bw B],30⟩] u0:=by
  rw [← hu_]
  rw [unhide hA0_,unhide hA2_]
  exact hB
 clear hu_ hA0_ hA2_
 refine wp_region_lit ?_
 refine list_call 6 #[] (by kernel_rfl) (by kernel_rfl) ((wakes_ok u0 ((unhide hF).gr hB.gr)).mono ?_)
 rintro r_ u1 ⟨rfl,hg⟩
 replace hB:=hB.more hg
 clear hg
 refine ⟨_,rfl,?_⟩
 simp only [nrm]
 refine lvk (.bool false) ?_
 simp only [nrm]
 refine wpList_nil ?_
 replace hB:=hide hB
 go_upto_region 3 with fail
 replace hB:=unhide hB
 refine wp_region_lit ?_
 refine list_val (.agg (fl [bw Ky,[.bool f]])) (by kernel_rfl) (exec_sw _ 25 (.tmp 3) rfl (w.heap.size) (by kernel_rfl) (hB.get 0 (x:=⟨w.heap.size,fl [bw Ky,[.bool f]],25⟩) rfl) NP (nP hKy _) Tryz.underlying25 rfl (by kernel_rfl)) ?_
 simp only [nrm]
 refine lvk (.int .u64 r) ?_
 simp only [nrm]
 refine list_val (.agg (fl [[.int .i64 k],[.int .u32 a],[.int .u32 s],bw B])) (by kernel_rfl) (exec_sw _ 30 (.tmp 5) rfl (w.heap.size+1) (by kernel_rfl) (hB.get 1 (x:=⟨w.heap.size+1,fl [[.int .i64 k],[.int .u32 a],[.int .u32 s],bw B],30⟩) rfl) NE (nE hBl _ _ _) Tryz.underlying30 rfl (by kernel_rfl)) ?_
 simp only [nrm]
 refine list_call 7 #[.agg (fl [bw Ky,[.bool f]]),.int .u64 r,.agg (fl [[.int .i64 k],[.int .u32 a],[.int .u32 s],bw B])] (by kernel_rfl) (by kernel_rfl) ((vreal_bad Ky hKy (unhide hKb) f k a s B hBl (unhide hBb) ha hs r u1 hr0 (unhide he)).mono ?_)
 rintro r_ u2 ⟨rfl,hg⟩
 replace hB:=hB.more hg
 clear hg
 refine ⟨_,rfl,?_⟩
 simp only [nrm]
 refine lvk (.tuple #[.agg (fl [bw Z16,bw Z130]),.int .i64 241]) ?_
 simp only [nrm]
 refine lvk (.agg (fl [bw Z16,bw Z130])) ?_
 simp only [nrm]
 refine lvk (.int .i64 241) ?_
 simp only [nrm]
 refine list_valw (.pointer (some ⟨u2.heap.size,0,none⟩)) (u2.alloc (.cells (fl [bw Z16,bw Z130]) 36 (0,0))) (by kernel_rfl) (by kernel_rfl) ?_
 replace hB:=hB.new (fl [bw Z16,bw Z130]) 36
 simp only [List.nil_append,List.cons_append] at hB
 generalize World.alloc _ _=u3 at *
 generalize u2.heap.size=g7 at *
 replace hB:Bl w [⟨w.heap.size,fl [bw Ky,[.bool f]],25⟩,⟨w.heap.size+1,fl [[.int .i64 k],[.int .u32 a],[.int .u32 s],bw B],30⟩,⟨g7,fl [bw Z16,bw Z130],36⟩] u3:=hB
 simp only [nrm]
 refine list_all 36 (.tmp 7) (.tmp 16) (g7) (S2:=[bw Z16,bw Z130]) (by kernel_rfl) rfl (by kernel_rfl) (by kernel_rfl) hB 2 rfl NX (nX (show List.length Z16=16 from rfl) (show List.length Z130=130 from rfl)) (nX (show List.length Z16=16 from rfl) (show List.length Z130=130 from rfl)) (by kernel_rfl) (oX _ _) ?_
 intro u4 hB_ hbt_
 clear hB
 replace hB:Bl w [⟨w.heap.size,fl [bw Ky,[.bool f]],25⟩,⟨w.heap.size+1,fl [[.int .i64 k],[.int .u32 a],[.int .u32 s],bw B],30⟩,⟨g7,fl [bw Z16,bw Z130],36⟩] u4:=hB_
 clear hB_
 clear hbt_
 simp only [nrm]
 (refine wpList_step fun K hK=>?_; replace hK:=hide hK; go_simp; refine unhide hK _ _ ?_; clear hK K)
 refine wpList_nil ?_
 replace hB:=hide hB
 go_upto_region 4 with fail
 replace hB:=unhide hB
 refine wp_region_lit ?_
 refine lvk (.int .u64 r) ?_
 simp only [nrm]
 refine list_val (.bool false) (by kernel_rfl) (eql_64 _ (.tmp 19) (.const (.int .u64 0)) r 0 false rfl (by kernel_rfl) (by kernel_rfl) (decide_eq_false hr0)) ?_
 simp only [nrm]
 (refine wpList_step fun K hK=>?_; replace hK:=hide hK; go_simp; refine unhide hK _ _ ?_; clear hK K)
 refine wpList_nil ?_
 replace hB:=hide hB
 go_upto_region 6 with fail
 replace hB:=unhide hB
 refine wp_region_lit ?_
 refine list_val (.agg (fl [[.int .i64 k],[.int .u32 a],[.int .u32 s],bw B])) (by kernel_rfl) (exec_sw _ 30 (.tmp 5) rfl (w.heap.size+1) (by kernel_rfl) (hB.get 1 (x:=⟨w.heap.size+1,fl [[.int .i64 k],[.int .u32 a],[.int .u32 s],bw B],30⟩) rfl) NE (nE hBl _ _ _) Tryz.underlying30 rfl (by kernel_rfl)) ?_
 simp only [nrm]
 refine list_call 8 #[.agg (fl [[.int .i64 k],[.int .u32 a],[.int .u32 s],bw B])] (by kernel_rfl) (by kernel_rfl) (((show Calls Tryz.prog 8 #[.agg (fl [[.int .i64 k],[.int .u32 a],[.int .u32 s],bw B])] u4 (Vl (.bool false) u4) from by have h:=yright_ok k a s B hBl u4; rw [unhide he] at h; exact h)).mono ?_)
 rintro r_ u5 ⟨rfl,hg⟩
 replace hB:=hB.more hg
 clear hg
 refine ⟨_,rfl,?_⟩
 simp only [nrm]
 refine lvk (.bool true) ?_
 simp only [nrm]
 (refine wpList_step fun K hK=>?_; replace hK:=hide hK; go_simp; refine unhide hK _ _ ?_; clear hK K)
 refine wpList_nil ?_
 replace hB:=hide hB
 go_upto_region 7 with fail
 replace hB:=unhide hB
 refine wp_region_lit ?_
 refine wpList_gen fun ops_ hops=>?_
 replace hops:=hide hops
 refine list_val (.agg (fl [bw Z16,bw Z130])) (by rw [unhide hops]; kernel_rfl) (exec_sw _ 36 (.tmp 7) rfl (g7) (by kernel_rfl) (hB.get 2 (x:=⟨g7,fl [bw Z16,bw Z130],36⟩) rfl) NX (nX (show List.length Z16=16 from rfl) (show List.length Z130=130 from rfl)) Tryz.underlying36 rfl (by kernel_rfl)) ?_
 simp only [nrm]
 refine list_val (.agg (fl [bw Z16,bw Z130])) (by rw [unhide hops]; kernel_rfl) (bX _ rfl) ?_
 simp only [nrm]
 refine list_val (.bool true) (by rw [unhide hops]; kernel_rfl) (exec_eql_x _ (.tmp 32) (.tmp 33) rfl (fl [bw Z16,bw Z130]) (by kernel_rfl) (by kernel_rfl) (eq_xf (show List.length Z16=16 from rfl) (show List.length Z130=130 from rfl) _)) ?_
 simp only [nrm]
 refine list_val (.bool true) (by rw [unhide hops]; kernel_rfl) (by kernel_rfl) ?_
 simp only [nrm]
 refine list_val (.int .i64 241) (by rw [unhide hops]; kernel_rfl) (by kernel_rfl) ?_
 simp only [nrm]
 refine list_val (.bool true) (by rw [unhide hops]; kernel_rfl) (eql_e _ (.tmp 36) (.const (.int .i64 241)) 241 241 true rfl (by kernel_rfl) (by kernel_rfl) (by decide)) ?_
 simp only [nrm]
 refine list_val (.bool true) (by rw [unhide hops]; kernel_rfl) (by kernel_rfl) ?_
 simp only [nrm]
 (refine wpList_step fun K hK=>?_; replace hK:=hide hK; go_simp; refine unhide hK _ _ ?_; clear hK K)
 refine wpList_nil ?_
 replace hB:=hide hB
 go_wp2_with fail
 replace hB:=unhide hB
 rw [unhide hT]
 exact (⟨rfl,hB.gr⟩)
set_option maxHeartbeats 4000000 in
theorem makes_good (Ky:List Int) (hKy:Ky.length=32) (hKb:IsB Ky) (f:Bool) (k a s:Int) (B:List Int) (hBl:B.length=105) (hBb:IsB B) (ha:U4 a) (hs:U4 s) (r:Int) (hr:0≤r∧r<18446744073709551616) (Y N D P C:List Int) (w:World) (hF:Fst w) (hr0:r≠0) (he:evR k s B=true) (hY:Y=rkL r Ky f true) (hN:N=cntL r) (hD:D=drL r Ky) (hP:P=evB k a s B) (hC:C=sealL Y N D P):Calls Tryz.prog 3 #[.agg (fl [bw Ky,[.bool f]]),.int .u64 r,.agg (fl [[.int .i64 k],[.int .u32 a],[.int .u32 s],bw B])] w (Vl (.bool true) w):=by
 obtain ⟨T,hT⟩:∃ T:Ending→World→Prop,T=(Vl (.bool true) w):=⟨_,rfl⟩
 rw [← hT]
 replace hT:=hide hT
 have hDl:D.length=16:=by rw [hD]; exact drL_len _ _
 have hCl:C.length=130:=by rw [hC,sealL_len',hP,evB_len _ _ _ hBl]
 obtain ⟨A0_,hA0_⟩:∃ S_,S_=fl [bw Ky,[.bool f]]:=⟨_,rfl⟩
 rw [← hA0_]
 replace hA0_:=hide hA0_
 obtain ⟨A2_,hA2_⟩:∃ S_,S_=fl [[.int .i64 k],[.int .u32 a],[.int .u32 s],bw B]:=⟨_,rfl⟩
 rw [← hA2_]
 replace hA2_:=hide hA2_
 replace hF:=hide hF
 replace hKb:=hide hKb
 replace hBb:=hide hBb
 replace he:=hide he
 replace hY:=hide hY
 replace hN:=hide hN
 replace hD:=hide hD
 replace hP:=hide hP
 replace hC:=hide hC
 go_enter Tryz.func3,Tryz.ntmps3
 go_upto_region 1 with fail
 have hB:=(((Bl.nil w).new A0_ 25).new A2_ 30)
 simp only [size_alloc,List.nil_append,List.cons_append] at hB
 rw [unhide hA0_,unhide hA2_] at hB
 generalize hu_:World.alloc _ _=u0
 replace hB:Bl w [⟨w.heap.size,fl [bw Ky,[.bool f]],25⟩,⟨w.heap.size+1,fl [[.int .i64 k],[.int .u32 a],[.int .u32 s],bw B],30⟩] u0:=by
  rw [← hu_]
  rw [unhide hA0_,unhide hA2_]
  exact hB
 clear hu_ hA0_ hA2_
 refine wp_region_lit ?_
 refine list_call 6 #[] (by kernel_rfl) (by kernel_rfl) ((wakes_ok u0 ((unhide hF).gr hB.gr)).mono ?_)
 rintro r_ u1 ⟨rfl,hg⟩
 replace hB:=hB.more hg
 clear hg
 refine ⟨_,rfl,?_⟩
 simp only [nrm]
 refine lvk (.bool false) ?_
 simp only [nrm]
 refine wpList_nil ?_
 replace hB:=hide hB
 go_upto_region 3 with fail
 replace hB:=unhide hB
 refine wp_region_lit ?_
 refine list_val (.agg (fl [bw Ky,[.bool f]])) (by kernel_rfl) (exec_sw _ 25 (.tmp 3) rfl (w.heap.size) (by kernel_rfl) (hB.get 0 (x:=⟨w.heap.size,fl [bw Ky,[.bool f]],25⟩) rfl) NP (nP hKy _) Tryz.underlying25 rfl (by kernel_rfl)) ?_
 simp only [nrm]
 refine lvk (.int .u64 r) ?_
 simp only [nrm]
 refine list_val (.agg (fl [[.int .i64 k],[.int .u32 a],[.int .u32 s],bw B])) (by kernel_rfl) (exec_sw _ 30 (.tmp 5) rfl (w.heap.size+1) (by kernel_rfl) (hB.get 1 (x:=⟨w.heap.size+1,fl [[.int .i64 k],[.int .u32 a],[.int .u32 s],bw B],30⟩) rfl) NE (nE hBl _ _ _) Tryz.underlying30 rfl (by kernel_rfl)) ?_
 simp only [nrm]
 refine list_call 7 #[.agg (fl [bw Ky,[.bool f]]),.int .u64 r,.agg (fl [[.int .i64 k],[.int .u32 a],[.int .u32 s],bw B])] (by kernel_rfl) (by kernel_rfl) ((vreal_ok Ky hKy (unhide hKb) f k a s B hBl (unhide hBb) ha hs r hr.1 Y N D P C u1 ((unhide hF).gr hB.gr) hr0 (unhide he) (unhide hY) (unhide hN) (unhide hD) (unhide hP) (unhide hC)).mono ?_)
 rintro r_ u2 ⟨rfl,hg⟩
 replace hB:=hB.more hg
 clear hg
 refine ⟨_,rfl,?_⟩
 simp only [nrm]
 refine lvk (.tuple #[.agg (fl [bw D,bw C]),.int .i64 0]) ?_
 simp only [nrm]
 refine lvk (.agg (fl [bw D,bw C])) ?_
 simp only [nrm]
 refine lvk (.int .i64 0) ?_
 simp only [nrm]
 refine list_valw (.pointer (some ⟨u2.heap.size,0,none⟩)) (u2.alloc (.cells (fl [bw Z16,bw Z130]) 36 (0,0))) (by kernel_rfl) (by kernel_rfl) ?_
 replace hB:=hB.new (fl [bw Z16,bw Z130]) 36
 simp only [List.nil_append,List.cons_append] at hB
 generalize World.alloc _ _=u3 at *
 generalize u2.heap.size=g7 at *
 replace hB:Bl w [⟨w.heap.size,fl [bw Ky,[.bool f]],25⟩,⟨w.heap.size+1,fl [[.int .i64 k],[.int .u32 a],[.int .u32 s],bw B],30⟩,⟨g7,fl [bw Z16,bw Z130],36⟩] u3:=hB
 simp only [nrm]
 refine list_all 36 (.tmp 7) (.tmp 16) (g7) (S2:=[bw D,bw C]) (by kernel_rfl) rfl (by kernel_rfl) (by kernel_rfl) hB 2 rfl NX (nX (show List.length Z16=16 from rfl) (show List.length Z130=130 from rfl)) (nX hDl hCl) (by kernel_rfl) (oX _ _) ?_
 intro u4 hB_ hbt_
 clear hB
 replace hB:Bl w [⟨w.heap.size,fl [bw Ky,[.bool f]],25⟩,⟨w.heap.size+1,fl [[.int .i64 k],[.int .u32 a],[.int .u32 s],bw B],30⟩,⟨g7,fl [bw D,bw C],36⟩] u4:=hB_
 clear hB_
 clear hbt_
 simp only [nrm]
 (refine wpList_step fun K hK=>?_; replace hK:=hide hK; go_simp; refine unhide hK _ _ ?_; clear hK K)
 refine wpList_nil ?_
 replace hB:=hide hB
 go_upto_region 4 with fail
 replace hB:=unhide hB
 refine wp_region_lit ?_
 refine lvk (.int .u64 r) ?_
 simp only [nrm]
 refine list_val (.bool false) (by kernel_rfl) (eql_64 _ (.tmp 19) (.const (.int .u64 0)) r 0 false rfl (by kernel_rfl) (by kernel_rfl) (decide_eq_false hr0)) ?_
 simp only [nrm]
 (refine wpList_step fun K hK=>?_; replace hK:=hide hK; go_simp; refine unhide hK _ _ ?_; clear hK K)
 refine wpList_nil ?_
 replace hB:=hide hB
 go_upto_region 6 with fail
 replace hB:=unhide hB
 refine wp_region_lit ?_
 refine list_val (.agg (fl [[.int .i64 k],[.int .u32 a],[.int .u32 s],bw B])) (by kernel_rfl) (exec_sw _ 30 (.tmp 5) rfl (w.heap.size+1) (by kernel_rfl) (hB.get 1 (x:=⟨w.heap.size+1,fl [[.int .i64 k],[.int .u32 a],[.int .u32 s],bw B],30⟩) rfl) NE (nE hBl _ _ _) Tryz.underlying30 rfl (by kernel_rfl)) ?_
 simp only [nrm]
 refine list_call 8 #[.agg (fl [[.int .i64 k],[.int .u32 a],[.int .u32 s],bw B])] (by kernel_rfl) (by kernel_rfl) (((show Calls Tryz.prog 8 #[.agg (fl [[.int .i64 k],[.int .u32 a],[.int .u32 s],bw B])] u4 (Vl (.bool true) u4) from by have h:=yright_ok k a s B hBl u4; rw [unhide he] at h; exact h)).mono ?_)
 rintro r_ u5 ⟨rfl,hg⟩
 replace hB:=hB.more hg
 clear hg
 refine ⟨_,rfl,?_⟩
 simp only [nrm]
 refine lvk (.bool false) ?_
 simp only [nrm]
 (refine wpList_step fun K hK=>?_; replace hK:=hide hK; go_simp; refine unhide hK _ _ ?_; clear hK K)
 refine wpList_nil ?_
 replace hB:=hide hB
 go_upto_region 8 with fail
 replace hB:=unhide hB
 refine any_start (S:=fun v_=>v_.heap[w.heap.size]?=some (.cells (fl [bw Ky,[.bool f]]) 25 (0,0))∧v_.heap[w.heap.size+1]?=some (.cells (fl [[.int .i64 k],[.int .u32 a],[.int .u32 s],bw B]) 30 (0,0))∧v_.heap[g7]?=some (.cells (fl [bw D,bw C]) 36 (0,0))) (by kernel_rfl) ?_
 replace hB:=hB.drew
 generalize World.drew _=u6 at *
 simp only [List.size_toArray,List.length_cons,List.length_nil,Array.replicate,List.replicate]
 have hS_:=hide (show (fun v_=>v_.heap[w.heap.size]?=some (.cells (fl [bw Ky,[.bool f]]) 25 (0,0))∧v_.heap[w.heap.size+1]?=some (.cells (fl [[.int .i64 k],[.int .u32 a],[.int .u32 s],bw B]) 30 (0,0))∧v_.heap[g7]?=some (.cells (fl [bw D,bw C]) 36 (0,0))) u6 from ⟨(hB.get 0 (x:=⟨w.heap.size,fl [bw Ky,[.bool f]],25⟩) rfl),(hB.get 1 (x:=⟨w.heap.size+1,fl [[.int .i64 k],[.int .u32 a],[.int .u32 s],bw B],30⟩) rfl),(hB.get 2 (x:=⟨g7,fl [bw D,bw C],36⟩) rfl)⟩)
 refine any_tk 0 (.int .i64 0) (tf 11 0) rfl (fun x_ hu=>by kernel_rfl) (unhide hS_) ?_
 simp only [nrm]
 refine any_tk 1 (.bool true) (tf 11 1) rfl (fun x_ hu=>eql_e _ (.tmp 39) (.const (.int .i64 0)) 0 0 true rfl (by kernel_rfl) (by kernel_rfl) (by decide)) (unhide hS_) ?_
 simp only [nrm]
 refine any_tk 2 (.bool true) (tf 11 2) rfl (fun x_ hu=>by kernel_rfl) (unhide hS_) ?_
 simp only [nrm]
 refine any_tk 3 (.agg (fl [bw D,bw C])) (tf 11 3) rfl (fun x_ hu=>exec_sw _ 36 (.tmp 7) rfl (g7) (by kernel_rfl) hu.2.2 NX (nX hDl hCl) Tryz.underlying36 rfl (by kernel_rfl)) (unhide hS_) ?_
 simp only [nrm]
 refine any_tk 4 (.agg (fl [bw Ky,[.bool f]])) (tf 11 4) rfl (fun x_ hu=>exec_sw _ 25 (.tmp 3) rfl (w.heap.size) (by kernel_rfl) hu.1 NP (nP hKy _) Tryz.underlying25 rfl (by kernel_rfl)) (unhide hS_) ?_
 simp only [nrm]
 refine any_tk 5 (.int .u64 r) (tf 11 5) rfl (fun x_ hu=>by kernel_rfl) (unhide hS_) ?_
 simp only [nrm]
 refine any_tk 6 (.agg (fl [[.int .i64 k],[.int .u32 a],[.int .u32 s],bw B])) (tf 11 6) rfl (fun x_ hu=>exec_sw _ 30 (.tmp 5) rfl (w.heap.size+1) (by kernel_rfl) hu.2.1 NE (nE hBl _ _ _) Tryz.underlying30 rfl (by kernel_rfl)) (unhide hS_) ?_
 simp only [nrm]
 refine any_one (i:=7) (by kernel_rfl) rfl (fun K hK=>?_)
 refine step_callw (by kernel_rfl) 9 #[.agg (fl [bw Ky,[.bool f]]),.int .u64 r,.agg (fl [[.int .i64 k],[.int .u32 a],[.int .u32 s],bw B])] (by kernel_rfl) ((yreal_ok Ky hKy (unhide hKb) f k a s B hBl (unhide hBb) ha hs r hr Y N D P C u6 ((unhide hF).gr hB.gr) (unhide he) (unhide hY) (unhide hN) (unhide hD) (unhide hP) (unhide hC)).mono ?_)
 rintro r_ u7 ⟨rfl,hg⟩
 replace hB:=hB.more hg
 clear hg
 refine ⟨_,rfl,?_⟩
 clear hS_
 have hS_:=hide (show (fun v_=>v_.heap[w.heap.size]?=some (.cells (fl [bw Ky,[.bool f]]) 25 (0,0))∧v_.heap[w.heap.size+1]?=some (.cells (fl [[.int .i64 k],[.int .u32 a],[.int .u32 s],bw B]) 30 (0,0))∧v_.heap[g7]?=some (.cells (fl [bw D,bw C]) 36 (0,0))) u7 from ⟨(hB.get 0 (x:=⟨w.heap.size,fl [bw Ky,[.bool f]],25⟩) rfl),(hB.get 1 (x:=⟨w.heap.size+1,fl [[.int .i64 k],[.int .u32 a],[.int .u32 s],bw B],30⟩) rfl),(hB.get 2 (x:=⟨g7,fl [bw D,bw C],36⟩) rfl)⟩)
 refine hK.out _ _ (unhide hS_) (fun _=>?_)
 clear hK K
 simp only [nrm]
 refine any_tk 8 (.bool true) (tf 11 8) rfl (fun x_ hu=>exec_eql_x _ (.tmp 42) (.tmp 46) rfl (fl [bw D,bw C]) (by kernel_rfl) (by kernel_rfl) (eq_xf (hDl) (hCl) _)) (unhide hS_) ?_
 simp only [nrm]
 refine any_tk 9 (.bool true) (tf 11 9) rfl (fun x_ hu=>by kernel_rfl) (unhide hS_) ?_
 simp only [nrm]
 refine any_one (i:=10) (by kernel_rfl) rfl (fun K hK=>?_)
 replace hK:=hide hK
 go_simp
 refine (unhide hK).out _ _ (unhide hS_) (fun _=>?_)
 clear hK K
 simp only [nrm]
 refine any_done (by kernel_rfl) ?_
 clear hS_
 replace hB:=hide hB
 go_wp2_with fail
 replace hB:=unhide hB
 rw [unhide hT]
 exact (⟨rfl,hB.gr⟩)
theorem makes_ok (Ky:List Int) (hKy:Ky.length=32) (hKb:IsB Ky) (f:Bool) (k a s:Int) (B:List Int) (hBl:B.length=105) (hBb:IsB B) (ha:U4 a) (hs:U4 s) (r:Int) (hr:0≤r∧r<18446744073709551616) (w:World) (hF:Fst w):Calls Tryz.prog 3 #[.agg (fl [bw Ky,[.bool f]]),.int .u64 r,.agg (fl [[.int .i64 k],[.int .u32 a],[.int .u32 s],bw B])] w (Vl (.bool true) w):=by
 by_cases hr0:r=0
 ·subst hr0
  exact makes_zero Ky hKy hKb f k a s B hBl hBb ha hs w hF
 ·cases he:evR k s B with
  | false=>exact makes_bad Ky hKy hKb f k a s B hBl hBb ha hs r hr w hF hr0 he
  | true=>exact makes_good Ky hKy hKb f k a s B hBl hBb ha hs r hr _ _ _ _ _ w hF hr0 he rfl rfl rfl rfl rfl
end Go.Proofs.YthahhglbeafkmaaGreatDoor
namespace Go.Proofs.YthahhglbeafkmaaGreatDoor
open Go.ChangeShapes Go.WideShapes Go.ChangeAt Go.RowKit
set_option maxRecDepth 100000
set_option linter.unusedSimpArgs false
set_option linter.unusedVariables false
def numV:Value→Int
 | .int _ z=>z
 | _=>0
theorem row8 {H:Type} {enc:TypeId × Value→H} {W:World} {t:TypeId} {n fuel:Nat} {cs:List Value} {x:DataW H × List MemPlace} (ht:Tryz.prog.underlying t=some (.array n 5)) (hc:Tryz.prog.cellsOf t=n)
  (h:DataW.trod enc Tryz.prog W 0 (fun _=>true) true fuel t cs=some x):∃ kl:List Int,cs=kl.map (Value.int .u8)∧kl.length=n∧IsB kl:=by
 obtain ⟨xs,m,_,_,hl,hxl,hx⟩:=DataW.trod_array ht h
 rw [hc] at hl
 have hcell:∀ i,i<n→∃ z,cs[i]?=some (.int .u8 z)∧(Lit.int .u8 z).wf=true:=by
  intro i hi
  have h1:=hx i hi
  rw [Tryz.cells_b,Nat.mul_one,List.getElem?_eq_getElem (by omega)] at h1
  obtain ⟨z,e,_,hwf⟩:=DataW.trod_int Tryz.underlying5 h1
  refine ⟨z,?_,hwf⟩
  have h2:((cs.drop i).take 1)[0]?=some (.int .u8 z):=by rw [e]; rfl
  simpa using h2
 refine ⟨cs.map numV,?_,by simp [hl],?_⟩
 ·apply List.ext_getElem (by simp)
  intro i h1 h2
  obtain ⟨z,hz,_⟩:=hcell i (by omega)
  have:cs[i]=.int .u8 z:=by rw [List.getElem?_eq_getElem h1] at hz; simpa using hz
  simp [this,numV]
 ·intro x hx
  obtain ⟨v,hv,rfl⟩:=List.mem_map.1 hx
  obtain ⟨i,hi,rfl⟩:=List.getElem_of_mem hv
  obtain ⟨z,hz,hwf⟩:=hcell i (by omega)
  have:cs[i]=.int .u8 z:=by rw [List.getElem?_eq_getElem hi] at hz; simpa using hz
  rw [this]
  exact wf_byte hwf
theorem take_sp (l:List Value) (o n:Nat):l.drop o=(l.drop o).take n++l.drop (o+n):=by
 have:=List.take_append_drop n (l.drop o)
 rw [List.drop_drop] at this
 exact this.symm
theorem Tryz.cellsKy:Tryz.prog.cellsOf 23=32:=by kernel_rfl
theorem Tryz.cellsPa:Tryz.prog.cellsOf 25=33:=by kernel_rfl
theorem Tryz.cellsBo:Tryz.prog.cellsOf 4=1:=by kernel_rfl
theorem open_pair {H:Type} {enc:TypeId × Value→H} {W:World} {base:Nat} {v:Value} {d:DataW H} {p:List MemPlace} (hv:Value.okWide Tryz.prog W .any base 25 v) (h:DataW.Trod enc Tryz.prog W 0 (fun _=>true) true 25 v d p) :
  ∃ D f,v=.agg (pairv D f)∧IsB D∧D.length=32:=by
 unfold Value.okWide at hv
 rw [Tryz.underlying25] at hv
 obtain ⟨cs,rfl,hsz,_⟩:=hv
 rw [Tryz.cellsPa] at hsz
 obtain ⟨fuel,hf⟩:=h
 obtain ⟨y0,y1,n,hx,hl,h0,h1⟩:=trod_struct2 Tryz.underlying25 hf
 simp only [Tryz.cellsKy,Tryz.cellsBo] at h0 h1
 obtain ⟨D,eD,hD,bD⟩:=row8 Tryz.underlying23 Tryz.cellsKy h0
 obtain ⟨f,eB,_⟩:=DataW.trod_bool Tryz.underlying4 h1
 refine ⟨D,f,?_,bD,hD⟩
 congr 1
 apply Array.ext'
 simp only [Value.cells,List.drop_zero] at eD eB
 have hl2:cs.toList.length=33:=by simpa using hsz
 generalize cs.toList=l at *
 have s0:=take_sp l 0 32
 have s1:=take_sp l 32 1
 have s2:l.drop 33=[]:=List.drop_eq_nil_of_le (by omega)
 rw [List.drop_zero] at s0
 rw [s0,eD,s1,eB,s2,List.append_nil]
 rfl
theorem wf_u32 {x:Int} (h:(Lit.int .u32 x).wf=true):0≤x∧x<4294967296:=by
 have:=bounds_u32 h
 omega
theorem Tryz.cells105:Tryz.prog.cellsOf 28=105:=by kernel_rfl
theorem Tryz.cellsEv:Tryz.prog.cellsOf 30=108:=by kernel_rfl
theorem Tryz.cells32:Tryz.prog.cellsOf 27=1:=by kernel_rfl
theorem Tryz.cellsI:Tryz.prog.cellsOf 3=1:=by kernel_rfl
theorem open_env {H:Type} {enc:TypeId × Value→H} {W:World} {base:Nat} {v:Value} {d:DataW H} {p:List MemPlace} (hv:Value.okWide Tryz.prog W .any base 30 v) (h:DataW.Trod enc Tryz.prog W 0 (fun _=>true) true 30 v d p) :
  ∃ k a s B,v=.agg (evl k a s B).toArray∧(0≤a∧a<4294967296)∧(0≤s∧s<4294967296)∧(B.length=105∧IsB B):=by
 unfold Value.okWide at hv
 rw [Tryz.underlying30] at hv
 obtain ⟨cs,rfl,hsz,_⟩:=hv
 rw [Tryz.cellsEv] at hsz
 obtain ⟨fuel,hf⟩:=h
 obtain ⟨y0,y1,y2,y3,n,hx,hl,h0,h1,h2,h3⟩:=Go.Joins.trod_struct4 Tryz.underlying30 hf
 simp only [Tryz.cellsI,Tryz.cells32,Tryz.cells105] at h0 h1 h2 h3
 obtain ⟨z0,e0,_,w0⟩:=DataW.trod_int Tryz.underlying3 h0
 obtain ⟨z1,e1,_,w1⟩:=DataW.trod_int Tryz.underlying27 h1
 obtain ⟨z2,e2,_,w2⟩:=DataW.trod_int Tryz.underlying27 h2
 obtain ⟨B,eB,hB,bB⟩:=row8 Tryz.underlying28 Tryz.cells105 h3
 refine ⟨z0,z1,z2,B,?_,wf_u32 w1,wf_u32 w2,hB,bB⟩
 congr 1
 apply Array.ext'
 simp only [Value.cells,List.drop_zero] at e0 e1 e2 eB
 have hl2:cs.toList.length=108:=by simpa using hsz
 generalize cs.toList=l at *
 have s0:=take_sp l 0 1
 have s1:=take_sp l 1 1
 have s2:=take_sp l 2 1
 have s3:=take_sp l 3 105
 have s4:l.drop 108=[]:=List.drop_eq_nil_of_le (by omega)
 rw [List.drop_zero] at s0
 rw [s0,e0,s1,e1,s2,e2,s3,eB,s4,List.append_nil]
 rfl
end Go.Proofs.YthahhglbeafkmaaGreatDoor
namespace Go.Proofs.YthahhglbeafkmaaGreatDoor
open Go Go.ChangeShapes Go.WideShapes Go.ChangeAt Go.RowKit
set_option linter.unusedVariables false
set_option linter.unusedSimpArgs false
theorem door_met (os:Go.Os) (args:Array Value):laidMetH Tryz.prog [("hollowtree/sha.first",Rows.laid_hollowtree_sha_first)] ((World.doorLaid Tryz.prog 400 os).forCall (fun _ _=>0) ⟨#[],args,[]⟩).memory :=
 laidMetH_of_parts3 (fuel:=8) (laidMet_of_run' 8 (by kernel_rfl) (by kernel_rfl)) (by kernel_rfl) (by kernel_rfl)
set_option maxRecDepth 100000 in
theorem open_u64 {W:World} {base:Nat} {v:Value} {H:Type} {enc:TypeId × Value→H} {d:DataW H} {p:List MemPlace} (hv:Value.okWide Tryz.prog W .any base 26 v) (h:DataW.Trod enc Tryz.prog W 0 (fun _=>true) true 26 v d p):∃ n,v=.int .u64 n∧0≤n∧n<18446744073709551616:=by
 obtain ⟨n,h1,_,_,h4⟩:=open_int Tryz.underlying26 hv h
 have h5:=bounds_u64 h4
 exact ⟨n,h1,by omega⟩
set_option maxRecDepth 100000 in
theorem schedMakes_lifted (os:Go.Os) (started:os.Started) (H:Type) (enc:TypeId × Value→H) :
  ReturnsInHanded {} Tryz.checked os 3 .any (fun w args=>(Rows.schedMakesSpec.pre enc Tryz.prog Tryz.f3 [] false w args∧laidMetH Tryz.prog [("hollowtree/sha.first",Rows.laid_hollowtree_sha_first)] w)∧sizedMet enc Tryz.prog Tryz.f3 (OpenSpec.ofChange Rows.schedMakesSpec) false w args)
   (Rows.schedMakesSpec.post enc Tryz.prog Tryz.f3 false true false false):=by
 refine returnsInHanded_of_change_and (C:=Tryz.checked) (X:=fun w _=>laidMetH Tryz.prog [("hollowtree/sha.first",Rows.laid_hollowtree_sha_first)] w) (fun _ _ _ hh h=>h.of_heap hh) own started (by kernel_rfl) Tryz.func3
  (ChangeSpec.witness_shaped (enc:=enc) (C:=Tryz.checked) (os:=os) (X:=fun w _=>laidMetH Tryz.prog [("hollowtree/sha.first",Rows.laid_hollowtree_sha_first)] w) false (World.doorLaid Tryz.prog 400 os) #[.agg (pairv Z32 false),.int .u64 0,.agg (evl 0 0 0 Z105).toArray] 8 rfl (World.shaped_of_RefB (by kernel_rfl) (by kernel_rfl)) (by kernel_rfl) (by kernel_rfl) (by kernel_rfl) (door_met os _)) ?_
 intro W base args ds gs before hval0 hW hcnd hsz0 hL _
 have hsz:(DataW.weightsEach Tryz.prog (Tryz.f3.params.toList++Rows.schedMakesSpec.plain.varTypes Tryz.prog) (ds++gs)).all (·≤reachBytes)=true:=hsz0
 have hval:∀ (j:Nat) t v,Tryz.f3.params[j]?=some t→args[j]?=some v→Value.okWide Tryz.prog W .any base t v:=hval0
 have hW':=hW
 obtain ⟨p,q,hA0,hV,rfl,hfz,hnd⟩:=hW
 have hA:DataW.TrodAll enc Tryz.prog W 0 (fun _=>true) true Tryz.f3.params.toList args.toList ds p:=hA0
 rw [Tryz.params3] at hA hval hsz
 obtain ⟨v0,vs0,d0,ds0,p0,q0,hargs,rfl,rfl,h0,r0⟩:=trodAll_cons hA
 obtain ⟨v1,vs1,d1,ds1,p1,q1,rfl,rfl,rfl,h1,r1⟩:=trodAll_cons r0
 obtain ⟨v2,vs2,d2,ds2,p2,q2,rfl,rfl,rfl,h2,r2⟩:=trodAll_cons r1
 obtain ⟨rfl,rfl,rfl⟩:=trodAll_nil r2
 obtain rfl:args=#[v0,v1,v2]:=by cases args; simp_all
 obtain ⟨rfl,rfl⟩:=trodVars_none hV
 have k0:=h0
 have lt0:∀ x ∈ p0,x.block<W.heap.size:=by obtain ⟨m,hm⟩:=k0; exact DataW.trod_lt m _ _ _ hm
 have k1:=h1
 have lt1:∀ x ∈ p1,x.block<W.heap.size:=by obtain ⟨m,hm⟩:=k1; exact DataW.trod_lt m _ _ _ hm
 have k2:=h2
 have lt2:∀ x ∈ p2,x.block<W.heap.size:=by obtain ⟨m,hm⟩:=k2; exact DataW.trod_lt m _ _ _ hm
 obtain ⟨l0,f0,rfl,b0,hl0⟩:=open_pair (hval 0 25 v0 rfl rfl) h0
 obtain ⟨n1,rfl,z1⟩:=open_u64 (hval 1 26 v1 rfl rfl) h1
 obtain ⟨k2_,a2_,s2_,B2,rfl,ha2,hs2,hB2⟩:=open_env (hval 2 30 v2 rfl rfl) h2
 clear hA0 hval0
 refine ((show Calls Tryz.prog 3 #[.agg (pairv l0 f0),.int .u64 n1,.agg (evl k2_ a2_ s2_ B2).toArray] W (Vl (.bool true) W) from by rw [pair_fl,evl_fl]; exact makes_ok l0 hl0 b0 f0 k2_ a2_ s2_ B2 hB2.1 hB2.2 ha2 hs2 n1 z1 W (first_laid hL))).mono fun e W' ⟨he,bel⟩=>?_
 subst he
 exact ⟨_,rfl,_,_,_,[],_,[],hW',trodAll_mk1 (shut_bool Tryz.underlying4 _),(trodAll_cons_mk (Below.trod laidOut (by kernel_rfl) (of_decide_eq_true (by kernel_rfl)) k0 bel lt0) (trodAll_cons_mk (Below.trod laidOut (by kernel_rfl) (of_decide_eq_true (by kernel_rfl)) k1 bel lt1) (trodAll_cons_mk (Below.trod laidOut (by kernel_rfl) (of_decide_eq_true (by kernel_rfl)) k2 bel lt2) trodAll_mk0))),rfl,bel.frame _,fun h=>by cases h⟩
theorem schedMakes_holds:Rows.SchedMakesSaid :=
 OpenClaim.holds_of_wide 3 Tryz.f3 rfl rfl rfl rfl rfl rfl rfl ⟨rfl,rfl,rfl,rfl,rfl⟩ rfl rfl rfl rfl rfl (by kernel_rfl) Tryz.func3 (by kernel_rfl)
  (of_decide_eq_true (by kernel_rfl)) (by unfold Func.isWrapper; first | (rw [if_pos (by decide +kernel)]; kernel_rfl) | (rw [if_neg (by decide +kernel)]; exact ⟨rfl,rfl⟩))
  (fun os started H enc _=>schedMakes_lifted os started H enc)
theorem schedMakes_card:Rows.SchedMakesCardSaid :=
 Claim7.holds_tied_plain_at .later [] _ _ _ _
  schedMakes_holds (fun _ h=>by cases h) (by kernel_rfl) (fun _ h=>by cases h) schedMakes_row_tie rfl ⟨rfl,rfl⟩ (by kernel_rfl) rfl
  (fun f fn hf hfn=>by
   obtain rfl:f=3:=Option.some.inj ((show Tryz.prog.funcNamed "hollowtree/hollowtreelaw19.SchedMakes" = some 3 by kernel_rfl).symm.trans hf) |>.symm
   obtain rfl:fn=Tryz.f3:=(Option.some.inj (Tryz.func3.symm.trans hfn)).symm
   exact ⟨by kernel_rfl,fun j t ht=>by
    rw [Tryz.params3] at ht
    have hm:t ∈ [25,26,30]:=by simpa using Array.mem_of_getElem? ht
    have hall:([25,26,30].all fun u => !Tryz.prog.wantsStandIn u)=true:=by kernel_rfl
    exact (show Tryz.prog.wantsStandIn t=false by simpa using List.all_eq_true.1 hall t hm)⟩)
  (by kernel_rfl)
end Go.Proofs.YthahhglbeafkmaaGreatDoor
