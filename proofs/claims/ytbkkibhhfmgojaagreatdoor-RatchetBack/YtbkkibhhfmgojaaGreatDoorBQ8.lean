/-
  What the proof leans on.
-/
import Derived.Great.BuildSlice
import Derived.Test.YtbkkibhhfmgojaaGreatDoorRows
import Derived.ChangeOld
import Derived.SizedLaws
import Derived.ProofKit
import Derived.OpenShut
import Derived.LaidMore
import Derived.Stop.Joined
import Derived.Test.YtbkkibhhfmgojaaGreatDoorBQ7
set_option linter.unusedSimpArgs false
set_option linter.unusedVariables false
set_option maxRecDepth 100000
set_option maxHeartbeats 40000000
namespace Go.Proofs.YtbkkibhhfmgojaaGreatDoor.Cv
open Go.RowKit
def LJ (w:World) (u:Int) (M:Nat) (c1:Array Value) (a':Act) (v:World):Prop :=
 ∃ (j:Nat) (bv:Int) (p6 p7:Nat) (x y s t:Array Value) (t10 t11 t12 t13 t14 t15 t16 t17 t18 t19 t20 t21 t22 t23 t24 t25 t26 t27 t28 t29 t30 t31 t32 t33 t34 t35 t36 t37 t38 t39 t40 t41 t42 t43 t44 t45 t46 t47 t48 t49 t50 t51 t52 t53 t54 t55 t56 t57 t58 t59 t60 t61 t62 t63 t64 t65 t66 t67:Value),j≤254∧a'=⟨#[(.agg (kc (digs (M:Int) 32))),(.agg c1),(.pointer (some ⟨w.heap.size,0,none⟩)),(.pointer (some ⟨w.heap.size+1,0,none⟩)),(.pointer (some ⟨w.heap.size+1+1,0,none⟩)),(.pointer (some ⟨w.heap.size+1+1+1,0,none⟩)),(.pointer (some ⟨p6,0,none⟩)),(.pointer (some ⟨p7,0,none⟩)),.int .i64 (j:Int),.int .i64 bv,t10,t11,t12,t13,t14,t15,t16,t17,t18,t19,t20,t21,t22,t23,t24,t25,t26,t27,t28,t29,t30,t31,t32,t33,t34,t35,t36,t37,t38,t39,t40,t41,t42,t43,t44,t45,t46,t47,t48,t49,t50,t51,t52,t53,t54,t55,t56,t57,t58,t59,t60,t61,t62,t63,t64,t65,t66,t67],[]⟩ ∧
  Bl w [⟨w.heap.size,(kc (digs (M:Int) 32)),23⟩,⟨w.heap.size+1,c1,140⟩,⟨w.heap.size+1+1,x,140⟩,⟨w.heap.size+1+1+1,y,140⟩,⟨p6,s,140⟩,⟨p7,t,140⟩] v∧EC (Ed.lad u (Ed.hi M (254 - j))).a x∧EC (Ed.lad u (Ed.hi M (254 - j))).b y∧EC (Ed.lad u (Ed.hi M (254 - j))).c s∧EC (Ed.lad u (Ed.hi M (254 - j))).d t
theorem i64_and7 (n:Int):bits .and .i64 n 7=n % 8:=by
 show IntKind.i64.wrap ((BitVec.ofInt 64 n &&& BitVec.ofInt 64 7).toNat:Int)=_;have e:(BitVec.ofInt 64 n &&& BitVec.ofInt 64 7).toNat=(n % 8).toNat:=by
  rw[BitVec.toNat_and];have:(BitVec.ofInt 64 (7:Int)).toNat=2 ^ 3 - 1:=by decide
  rw[this,Nat.and_two_pow_sub_one_eq_mod,BitVec.toNat_ofInt];omega
 rw[e,IntKind.wrap_i64];omega
theorem KB.of {v:World} {b:Nat} {l:List Int} (h:v.heap[b]?=some (.cells (kc l) 23 (0,0))):KB v b l:=h
theorem swap_b {m n z:Int} {tb:Bool} {a b:Array Value} (hz:z % 2=if tb then 1 else 0) (ha:EC m a) (hb:EC n b) (w:World):Calls Tryz.prog 148 #[.int .i64 z,.agg a,.agg b] w (fun r w'=>∃ e1 e2,r=.returned (.tuple #[.agg e1,.agg e2])∧EC (bif tb then n else m) e1∧EC (bif tb then m else n) e2∧Gr w w'):=by
 refine(swap_ec z ha hb w).mono ?_;rintro r w' ⟨rfl,h⟩;refine⟨_,_,rfl,?_,?_,h⟩ <;> (rw[hz]; cases tb <;> assumption)
theorem sx_sym (a b c d:Int):Ed.sX c d a b=Ed.sX a b c d:=by unfold Ed.sX; grind
theorem sz_sym (u a b c d:Int):Ed.sZ u c d a b=Ed.sZ u a b c d:=by unfold Ed.sZ; grind
theorem lad_next (u:Int) (M j:Nat) (hj:j≤254):Ed.lad u (Ed.hi M (254 - j+1))=Ed.stp u (Ed.lad u (Ed.hi M (254 - j))) (Ed.bt M j):=by
 show Ed.lad u (Ed.hi M (254 - j)++[Ed.bt M (254 - (254 - j))])=_;rw[Ed.lad_app,show 254 - (254 - j)=j from by omega]
theorem scope_round {P:Program} {a:Act} {w:World} {Q:Exit→Act→World→Prop} {c rest:Code} (l:Nat) (J:Act→World→Prop) (μ:Act→World→Nat) (hf:findLabel c l=some (Code.skip.seq rest))
  (pass:∀ a w,J a w→rest.wp P (Exit.jump l (fun a' w'=>J a' w'∧μ a' w'<μ a w) Q) a w)
  (first:(∀ a w,J a w→rest.wp P (Exit.jump l J Q) a w)→c.wp P (Exit.jump l J Q) a w):(Code.scope c).wp P Q a w:=by
 refine wp_scope_jumps l J μ hf (first fun a w h=>Code.wp_mono ?_ (pass a w h)) (fun a w h=>wp_seq (wp_skip (pass a w h)));intro e a' w' h;cases e <;> first | exact h | exact⟨h.1,h.2.1⟩
theorem ladder_ec {u:Int} {M:Nat} {c1:Array Value} (h1:EC u c1) (w:World) :
  Calls Tryz.prog 123 #[.agg (kc (digs (M:Int) 32)),.agg c1] w (fun r w'=>∃ e1 e2,r=.returned (.tuple #[.agg e1,.agg e2])∧EC (Ed.lad u (Ed.hi M 255)).a e1∧EC (Ed.lad u (Ed.hi M 255)).b e2∧Gr w w'):=by
 go_enter Tryz.func123,Tryz.ntmps123;go_wp2_with fail;refine scope_round 0 (LJ w u M c1) (fun a' _=>(intOf (a'.tmps.getD 8 undef)).toNat) rfl ?pass (fun hP=>?first)
 case first =>
  go_upto_region 1 with fail;have hB:=(((((Bl.nil w).new (kc (digs (M:Int) 32)) 23).new c1 140).new #[.int .u64 0,.int .u64 0,.int .u64 0,.int .u64 0,.int .u64 0] 140).new #[.int .u64 0,.int .u64 0,.int .u64 0,.int .u64 0,.int .u64 0] 140);simp only[aB,ac] at hB;generalize World.alloc _ _=v1_ at *;refine ag ?_;refine av 147 #[.int .u64 1] aa aa ((of_ec _ (by omega) _).mono ?_);rintro r v2_ ⟨c51,rfl,hc51,hg⟩;refine⟨_,rfl,?_⟩;replace hB:=hB.more hg;clear hg;simp only[aq];refine av 147 #[.int .u64 0] aa aa ((of_ec _ (by omega) _).mono ?_);rintro r v3_ ⟨c52,rfl,hc52,hg⟩;refine⟨_,rfl,?_⟩;replace hB:=hB.more hg;clear hg;simp only[aq]
  refine aA 140 (.tmp 4) (.tmp 10) (w.heap.size+1+1) c51 140 #[.int .u64 0,.int .u64 0,.int .u64 0,.int .u64 0,.int .u64 0] aa rfl aa aa (hB.get 2 (x:=⟨w.heap.size+1+1,#[.int .u64 0,.int .u64 0,.int .u64 0,.int .u64 0,.int .u64 0],140⟩) rfl) (by rw[Tryz.infoElem,EC.size _ hc51]) ((show (#[.int .u64 0,.int .u64 0,.int .u64 0,.int .u64 0,.int .u64 0]:Array Value).size=5 from rfl).trans (EC.size _ hc51).symm) (EC.one _ hc51) ?_;replace hB:=hB.set 2 (x:=⟨w.heap.size+1+1,#[.int .u64 0,.int .u64 0,.int .u64 0,.int .u64 0,.int .u64 0],140⟩) rfl c51;simp only[ab] at hB;generalize World.setRow _ _ _=v4_ at *;simp only[aq]
  refine aA 140 (.tmp 5) (.tmp 11) (w.heap.size+1+1+1) c52 140 #[.int .u64 0,.int .u64 0,.int .u64 0,.int .u64 0,.int .u64 0] aa rfl aa aa (hB.get 3 (x:=⟨w.heap.size+1+1+1,#[.int .u64 0,.int .u64 0,.int .u64 0,.int .u64 0,.int .u64 0],140⟩) rfl) (by rw[Tryz.infoElem,EC.size _ hc52]) ((show (#[.int .u64 0,.int .u64 0,.int .u64 0,.int .u64 0,.int .u64 0]:Array Value).size=5 from rfl).trans (EC.size _ hc52).symm) (EC.one _ hc52) ?_;replace hB:=hB.set 3 (x:=⟨w.heap.size+1+1+1,#[.int .u64 0,.int .u64 0,.int .u64 0,.int .u64 0,.int .u64 0],140⟩) rfl c52;simp only[ab] at hB;generalize World.setRow _ _ _=v5_ at *;simp only[aq];refine ai ?_;go_upto_region 2 with fail;refine aE (S:=fun v=>v.heap[w.heap.size+1]?=some (.cells c1 140 (0,0))∧True) aa ?_;replace hB:=hB.drew;generalize World.drew _=v6_ at *;simp only[ae,Array.replicate,List.replicate]
  refine ar (i:=0) (v:=(.agg c1)) #[false,false,false,false,false,false] rfl aa aa aa aa (fun _ _ _ h=>h) (.inl ⟨by kernel_rfl,fun x hu=>ax x 140 (.tmp 3) rfl (w.heap.size+1) aa c1 140 _ hu.1 Tryz.underlying140 rfl (by rw[Tryz.infoElem,EC.size _ h1])⟩) ⟨(hB.get 1 (x:=⟨w.heap.size+1,c1,140⟩) rfl),trivial⟩ ?_;simp only[aq];have hSf:∀ v,Gr v6_ v→(fun v=>v.heap[w.heap.size+1]?=some (.cells c1 140 (0,0))∧True) v:=fun v k=>⟨k.blk (hB.get 1 (x:=⟨w.heap.size+1,c1,140⟩) rfl),trivial⟩
  refine cH v6_ #[.int .u64 0,.int .u64 0,.int .u64 0,.int .u64 0,.int .u64 0] 140 (fun q2_1 q2_2=>⟨#[(.agg (kc (digs (M:Int) 32))),(.agg c1),(.pointer (some ⟨w.heap.size,0,none⟩)),(.pointer (some ⟨w.heap.size+1,0,none⟩)),(.pointer (some ⟨w.heap.size+1+1,0,none⟩)),(.pointer (some ⟨w.heap.size+1+1+1,0,none⟩)),q2_1,q2_2,undef,undef,(.agg c51),(.agg c52),(.agg c1),undef,undef,undef,undef,undef,undef,undef,undef,undef,undef,undef,undef,undef,undef,undef,undef,undef,undef,undef,undef,undef,undef,undef,undef,undef,undef,undef,undef,undef,undef,undef,undef,undef,undef,undef,undef,undef,undef,undef,undef,undef,undef,undef,undef,undef,undef,undef,undef,undef,undef,undef,undef,undef,undef,undef],[]⟩) (fun b2_1 b2_2=>#[true,false,b2_1,b2_2,false,false]) 2 3 1 false hSf aa (fun _ _=>⟨rfl,rfl⟩) ?_ ?_ ?_ ⟨false,false,undef,undef,0,0,M2.start _ _ _ _ _⟩
  ·intro q2_1 q2_2 x K hK;refine wpOp_step (o:=_) rfl (fun K' hK'=>?_);replace hK':=ao hK';replace hK:=ao hK;go_simp;exact aj hK' _ _ (aj hK)
  ·intro q2_1 q2_2 x K hK;refine wpOp_step (o:=_) rfl (fun K' hK'=>?_);replace hK':=ao hK';replace hK:=ao hK;go_simp;exact aj hK' _ _ (aj hK)
  intro b2_1 b2_2 q2_1 q2_2 g2_1 g2_2 v7_ hM _;refine wpOp_step (o:=_) rfl (fun K' hK'=>?_);replace hK':=ao hK';refine az aa 147 #[.int .u64 1] aa ((of_ec _ (by omega) _).mono ?_);rintro r v8_ ⟨c53,rfl,hc53,hg⟩;refine⟨_,rfl,?_⟩
  have hM':=hM.go (A':=(fun q2_1 q2_2=>⟨#[(.agg (kc (digs (M:Int) 32))),(.agg c1),(.pointer (some ⟨w.heap.size,0,none⟩)),(.pointer (some ⟨w.heap.size+1,0,none⟩)),(.pointer (some ⟨w.heap.size+1+1,0,none⟩)),(.pointer (some ⟨w.heap.size+1+1+1,0,none⟩)),q2_1,q2_2,undef,undef,(.agg c51),(.agg c52),(.agg c1),(.agg c53),undef,undef,undef,undef,undef,undef,undef,undef,undef,undef,undef,undef,undef,undef,undef,undef,undef,undef,undef,undef,undef,undef,undef,undef,undef,undef,undef,undef,undef,undef,undef,undef,undef,undef,undef,undef,undef,undef,undef,undef,undef,undef,undef,undef,undef,undef,undef,undef,undef,undef,undef,undef,undef,undef],[]⟩)) (F':=(fun b2_1 b2_2=>#[true,true,b2_1,b2_2,false,false])) hg;refine aj hK' _ _ ⟨hSf _ hM'.gr,?_⟩;clear hK' K' hM hg;simp only[aq]
  refine cH v6_ #[.int .u64 0,.int .u64 0,.int .u64 0,.int .u64 0,.int .u64 0] 140 (fun q2_1 q2_2=>⟨#[(.agg (kc (digs (M:Int) 32))),(.agg c1),(.pointer (some ⟨w.heap.size,0,none⟩)),(.pointer (some ⟨w.heap.size+1,0,none⟩)),(.pointer (some ⟨w.heap.size+1+1,0,none⟩)),(.pointer (some ⟨w.heap.size+1+1+1,0,none⟩)),q2_1,q2_2,undef,undef,(.agg c51),(.agg c52),(.agg c1),(.agg c53),undef,undef,undef,undef,undef,undef,undef,undef,undef,undef,undef,undef,undef,undef,undef,undef,undef,undef,undef,undef,undef,undef,undef,undef,undef,undef,undef,undef,undef,undef,undef,undef,undef,undef,undef,undef,undef,undef,undef,undef,undef,undef,undef,undef,undef,undef,undef,undef,undef,undef,undef,undef,undef,undef],[]⟩) (fun b2_1 b2_2=>#[true,true,b2_1,b2_2,false,false]) 2 3 4 true hSf aa (fun _ _=>⟨rfl,rfl⟩) ?_ ?_ ?_ ⟨b2_1,b2_2,q2_1,q2_2,g2_1,g2_2,hM'.go (Gr.refl _)⟩
  ·intro q2_1 q2_2 x K hK;refine wpOp_step (o:=_) rfl (fun K' hK'=>?_);replace hK':=ao hK';replace hK:=ao hK;go_simp;exact aj hK' _ _ (aj hK)
  ·intro q2_1 q2_2 x K hK;refine wpOp_step (o:=_) rfl (fun K' hK'=>?_);replace hK':=ao hK';replace hK:=ao hK;go_simp;exact aj hK' _ _ (aj hK)
  clear hM';intro b2_1 b2_2 q2_1 q2_2 g2_1 g2_2 v9_ hM hall;obtain⟨rfl,rfl⟩:=hall rfl;obtain⟨rfl,rfl,hB'⟩:=hM.all hB;replace hB:=hB';clear hB' hM hall;simp only[List.cons_append,List.nil_append] at hB;refine wpOp_step (o:=_) rfl (fun K' hK'=>?_);replace hK':=ao hK';rw[if_pos aa];refine wp_store_row 140 (.tmp 6) (.tmp 12) rfl g2_1 c1 aa aa 140 #[.int .u64 0,.int .u64 0,.int .u64 0,.int .u64 0,.int .u64 0] (hB.get 4 (x:=⟨g2_1,#[.int .u64 0,.int .u64 0,.int .u64 0,.int .u64 0,.int .u64 0],140⟩) rfl) (by rw[Tryz.infoElem,EC.size _ h1]) ((show (#[.int .u64 0,.int .u64 0,.int .u64 0,.int .u64 0,.int .u64 0]:Array Value).size=5 from rfl).trans (EC.size _ h1).symm) (EC.one _ h1) ?_;replace hB:=hB.set 4 (x:=⟨g2_1,#[.int .u64 0,.int .u64 0,.int .u64 0,.int .u64 0,.int .u64 0],140⟩) rfl c1;simp only[ab] at hB;refine aj hK' _ _ ⟨⟨(hB.get 1 (x:=⟨w.heap.size+1,c1,140⟩) rfl),trivial⟩,?_⟩
  clear hK' K' hSf;generalize World.setRow _ _ _=v10_ at *;simp only[aq];refine ay (i:=5) aa rfl (fun K hK=>?_);rw[if_pos aa];refine wp_store_row 140 (.tmp 7) (.tmp 13) rfl g2_2 c53 aa aa 140 #[.int .u64 0,.int .u64 0,.int .u64 0,.int .u64 0,.int .u64 0] (hB.get 5 (x:=⟨g2_2,#[.int .u64 0,.int .u64 0,.int .u64 0,.int .u64 0,.int .u64 0],140⟩) rfl) (by rw[Tryz.infoElem,EC.size _ hc53]) ((show (#[.int .u64 0,.int .u64 0,.int .u64 0,.int .u64 0,.int .u64 0]:Array Value).size=5 from rfl).trans (EC.size _ hc53).symm) (EC.one _ hc53) ?_;replace hB:=hB.set 5 (x:=⟨g2_2,#[.int .u64 0,.int .u64 0,.int .u64 0,.int .u64 0,.int .u64 0],140⟩) rfl c53;simp only[ab] at hB;refine hK.out _ _ ⟨(hB.get 1 (x:=⟨w.heap.size+1,c1,140⟩) rfl),trivial⟩ (fun _=>?_);clear hK K;generalize World.setRow _ _ _=v11_ at *;simp only[aq];refine aF aa ?_;go_wp2_with fail
  go_step3
  rename_i K hK
  exact hK _ _ (hP _ _ ⟨254,0,g2_1,g2_2,c51,c52,c1,c53,_,_,_,_,_,_,_,_,_,_,_,_,_,_,_,_,_,_,_,_,_,_,_,_,_,_,_,_,_,_,_,_,_,_,_,_,_,_,_,_,_,_,_,_,_,_,_,_,_,_,_,_,_,_,_,_,_,_,Nat.le_refl _,rfl,hB,hc51,hc52,h1,hc53⟩)
 case pass =>
  rintro a' v ⟨j,bv,p6,p7,x,y,s,t,t10,t11,t12,t13,t14,t15,t16,t17,t18,t19,t20,t21,t22,t23,t24,t25,t26,t27,t28,t29,t30,t31,t32,t33,t34,t35,t36,t37,t38,t39,t40,t41,t42,t43,t44,t45,t46,t47,t48,t49,t50,t51,t52,t53,t54,t55,t56,t57,t58,t59,t60,t61,t62,t63,t64,t65,t66,t67,hj,rfl,hB,hx,hy,hs,ht⟩;obtain⟨b,hb⟩:∃ b,b=j / 8:=⟨_,rfl⟩;obtain⟨q,hq⟩:∃ q,q=j % 8:=⟨_,rfl⟩;have e1:(j:Int) / 8=(b:Int):=by omega
  have e2:bits .and .i64 (j:Int) 7=(q:Int):=by rw[i64_and7]; omega
  have hb2:b<32:=by omega
  have hq2:q<8:=by omega
  have hbit:=ao (key_bit M j b q hb hq);replace hb:=ao hb; replace hq:=ao hq;have hk:=key_cell (KB.of (hB.get 0 (x:=⟨w.heap.size,(kc (digs (M:Int) 32)),23⟩) rfl)) b hb2;have hkb:0≤(M:Int) / 256 ^ b % 256∧(M:Int) / 256 ^ b % 256<256:=by omega
  generalize (M:Int) / 256 ^ b % 256=kb at hk hbit hkb;replace hB:=ao hB; replace hx:=ao hx; replace hy:=ao hy; replace hs:=ao hs; replace ht:=ao ht;go_upto_region 5 with fail;have hz:wrap64 (bits BinOp.and IntKind.u8 (kb / 2 ^ q) 1) % 2=if Ed.bt M j then 1 else 0:=by
   rw[low_bit kb q hkb,aj hbit];unfold Ed.bt;rcases(show M / 2 ^ j % 2=0∨M / 2 ^ j % 2=1 by omega) with e | e <;> (rw[e]; simp[wrap64])
  replace hz:=ao hz;generalize wrap64 (bits BinOp.and IntKind.u8 (kb / 2 ^ q) 1)=z at *;generalize bits BinOp.and IntKind.u8 (kb / 2 ^ q) 1=z1 at *;generalize kb / 2 ^ q=z2 at *;clear hbit hkb hk e1 e2 hb hq hb2 hq2;replace hB:=aj hB; replace hx:=aj hx; replace hy:=aj hy; replace hs:=aj hs; replace ht:=aj ht;refine ag ?_;refine ak (.int .i64 z) aa aa ?_;simp only[aq];refine ak (.agg x) aa (ax _ 140 (.tmp 4) rfl (w.heap.size+1+1) aa x 140 _ (hB.get 2 (x:=⟨w.heap.size+1+1,x,140⟩) rfl) Tryz.underlying140 rfl (by rw[Tryz.infoElem,EC.size _ hx])) ?_;simp only[aq];refine ak (.agg s) aa (ax _ 140 (.tmp 6) rfl p6 aa s 140 _ (hB.get 4 (x:=⟨p6,s,140⟩) rfl) Tryz.underlying140 rfl (by rw[Tryz.infoElem,EC.size _ hs])) ?_;simp only[aq];refine av 148 #[.int .i64 z,.agg x,.agg s] aa aa ((swap_b (aj hz) hx hs _).mono ?_);rintro r v101_ ⟨c11,c12,rfl,hc11,hc12,hg⟩;refine⟨_,rfl,?_⟩;replace hB:=hB.more hg
  clear hg;simp only[aq];refine ak (.tuple #[.agg c11,.agg c12]) aa aa ?_;simp only[aq];refine ak (.agg c11) aa aa ?_;simp only[aq];refine ak (.agg c12) aa aa ?_;simp only[aq];refine aA 140 (.tmp 4) (.tmp 28) (w.heap.size+1+1) c11 140 x aa rfl aa aa (hB.get 2 (x:=⟨w.heap.size+1+1,x,140⟩) rfl) (by rw[Tryz.infoElem,EC.size _ hc11]) ((EC.size _ hx).trans (EC.size _ hc11).symm) (EC.one _ hc11) ?_;replace hB:=hB.set 2 (x:=⟨w.heap.size+1+1,x,140⟩) rfl c11;simp only[ab] at hB;generalize World.setRow _ _ _=v102_ at *;simp only[aq];refine aA 140 (.tmp 6) (.tmp 29) p6 c12 140 s aa rfl aa aa (hB.get 4 (x:=⟨p6,s,140⟩) rfl) (by rw[Tryz.infoElem,EC.size _ hc12]) ((EC.size _ hs).trans (EC.size _ hc12).symm) (EC.one _ hc12) ?_;replace hB:=hB.set 4 (x:=⟨p6,s,140⟩) rfl c12;simp only[ab] at hB;generalize World.setRow _ _ _=v103_ at *;simp only[aq];refine ai ?_;go_upto_region 6 with fail;refine ag ?_
  refine ak (.int .i64 z) aa aa ?_;simp only[aq];refine ak (.agg y) aa (ax _ 140 (.tmp 5) rfl (w.heap.size+1+1+1) aa y 140 _ (hB.get 3 (x:=⟨w.heap.size+1+1+1,y,140⟩) rfl) Tryz.underlying140 rfl (by rw[Tryz.infoElem,EC.size _ hy])) ?_;simp only[aq];refine ak (.agg t) aa (ax _ 140 (.tmp 7) rfl p7 aa t 140 _ (hB.get 5 (x:=⟨p7,t,140⟩) rfl) Tryz.underlying140 rfl (by rw[Tryz.infoElem,EC.size _ ht])) ?_;simp only[aq];refine av 148 #[.int .i64 z,.agg y,.agg t] aa aa ((swap_b (aj hz) hy ht _).mono ?_);rintro r v104_ ⟨c13,c14,rfl,hc13,hc14,hg⟩;refine⟨_,rfl,?_⟩;replace hB:=hB.more hg;clear hg;simp only[aq];refine ak (.tuple #[.agg c13,.agg c14]) aa aa ?_;simp only[aq];refine ak (.agg c13) aa aa ?_;simp only[aq];refine ak (.agg c14) aa aa ?_;simp only[aq]
  refine aA 140 (.tmp 5) (.tmp 35) (w.heap.size+1+1+1) c13 140 y aa rfl aa aa (hB.get 3 (x:=⟨w.heap.size+1+1+1,y,140⟩) rfl) (by rw[Tryz.infoElem,EC.size _ hc13]) ((EC.size _ hy).trans (EC.size _ hc13).symm) (EC.one _ hc13) ?_;replace hB:=hB.set 3 (x:=⟨w.heap.size+1+1+1,y,140⟩) rfl c13;simp only[ab] at hB;generalize World.setRow _ _ _=v105_ at *;simp only[aq];refine aA 140 (.tmp 7) (.tmp 36) p7 c14 140 t aa rfl aa aa (hB.get 5 (x:=⟨p7,t,140⟩) rfl) (by rw[Tryz.infoElem,EC.size _ hc14]) ((EC.size _ ht).trans (EC.size _ hc14).symm) (EC.one _ hc14) ?_;replace hB:=hB.set 5 (x:=⟨p7,t,140⟩) rfl c14;simp only[ab] at hB;generalize World.setRow _ _ _=v106_ at *;simp only[aq];refine ai ?_;go_upto_region 7 with fail;refine ag ?_
  refine ak (.agg c1) aa (ax _ 140 (.tmp 3) rfl (w.heap.size+1) aa c1 140 _ (hB.get 1 (x:=⟨w.heap.size+1,c1,140⟩) rfl) Tryz.underlying140 rfl (by rw[Tryz.infoElem,EC.size _ h1])) ?_;simp only[aq];refine ak (.agg c11) aa (ax _ 140 (.tmp 4) rfl (w.heap.size+1+1) aa c11 140 _ (hB.get 2 (x:=⟨w.heap.size+1+1,c11,140⟩) rfl) Tryz.underlying140 rfl (by rw[Tryz.infoElem,EC.size _ hc11])) ?_;simp only[aq];refine ak (.agg c13) aa (ax _ 140 (.tmp 5) rfl (w.heap.size+1+1+1) aa c13 140 _ (hB.get 3 (x:=⟨w.heap.size+1+1+1,c13,140⟩) rfl) Tryz.underlying140 rfl (by rw[Tryz.infoElem,EC.size _ hc13])) ?_;simp only[aq];refine ak (.agg c12) aa (ax _ 140 (.tmp 6) rfl p6 aa c12 140 _ (hB.get 4 (x:=⟨p6,c12,140⟩) rfl) Tryz.underlying140 rfl (by rw[Tryz.infoElem,EC.size _ hc12])) ?_;simp only[aq]
  refine ak (.agg c14) aa (ax _ 140 (.tmp 7) rfl p7 aa c14 140 _ (hB.get 5 (x:=⟨p7,c14,140⟩) rfl) Tryz.underlying140 rfl (by rw[Tryz.infoElem,EC.size _ hc14])) ?_;simp only[aq];refine av 149 #[.agg c1,.agg c11,.agg c13,.agg c12,.agg c14] aa aa ((step_ec h1 hc11 hc13 hc12 hc14 _).mono ?_);rintro r v107_ ⟨c15,c16,c17,c18,rfl,hc15,hc16,hc17,hc18,hg⟩;refine⟨_,rfl,?_⟩;replace hB:=hB.more hg;clear hg;simp only[aq];refine ak (.tuple #[.agg c15,.agg c16,.agg c17,.agg c18]) aa aa ?_;simp only[aq];refine ak (.agg c15) aa aa ?_;simp only[aq];refine ak (.agg c16) aa aa ?_;simp only[aq];refine ak (.agg c17) aa aa ?_;simp only[aq];refine ak (.agg c18) aa aa ?_;simp only[aq];refine aA 140 (.tmp 4) (.tmp 44) (w.heap.size+1+1) c15 140 c11 aa rfl aa aa (hB.get 2 (x:=⟨w.heap.size+1+1,c11,140⟩) rfl) (by rw[Tryz.infoElem,EC.size _ hc15]) ((EC.size _ hc11).trans (EC.size _ hc15).symm) (EC.one _ hc15) ?_
  replace hB:=hB.set 2 (x:=⟨w.heap.size+1+1,c11,140⟩) rfl c15;simp only[ab] at hB;generalize World.setRow _ _ _=v108_ at *;simp only[aq];refine aA 140 (.tmp 5) (.tmp 45) (w.heap.size+1+1+1) c16 140 c13 aa rfl aa aa (hB.get 3 (x:=⟨w.heap.size+1+1+1,c13,140⟩) rfl) (by rw[Tryz.infoElem,EC.size _ hc16]) ((EC.size _ hc13).trans (EC.size _ hc16).symm) (EC.one _ hc16) ?_;replace hB:=hB.set 3 (x:=⟨w.heap.size+1+1+1,c13,140⟩) rfl c16;simp only[ab] at hB;generalize World.setRow _ _ _=v109_ at *;simp only[aq];refine aA 140 (.tmp 6) (.tmp 46) p6 c17 140 c12 aa rfl aa aa (hB.get 4 (x:=⟨p6,c12,140⟩) rfl) (by rw[Tryz.infoElem,EC.size _ hc17]) ((EC.size _ hc12).trans (EC.size _ hc17).symm) (EC.one _ hc17) ?_;replace hB:=hB.set 4 (x:=⟨p6,c12,140⟩) rfl c17;simp only[ab] at hB;generalize World.setRow _ _ _=v110_ at *;simp only[aq]
  refine aA 140 (.tmp 7) (.tmp 47) p7 c18 140 c14 aa rfl aa aa (hB.get 5 (x:=⟨p7,c14,140⟩) rfl) (by rw[Tryz.infoElem,EC.size _ hc18]) ((EC.size _ hc14).trans (EC.size _ hc18).symm) (EC.one _ hc18) ?_;replace hB:=hB.set 5 (x:=⟨p7,c14,140⟩) rfl c18;simp only[ab] at hB;generalize World.setRow _ _ _=v111_ at *;simp only[aq];refine ai ?_;go_upto_region 8 with fail;refine ag ?_;refine ak (.int .i64 z) aa aa ?_;simp only[aq];refine ak (.agg c15) aa (ax _ 140 (.tmp 4) rfl (w.heap.size+1+1) aa c15 140 _ (hB.get 2 (x:=⟨w.heap.size+1+1,c15,140⟩) rfl) Tryz.underlying140 rfl (by rw[Tryz.infoElem,EC.size _ hc15])) ?_;simp only[aq];refine ak (.agg c17) aa (ax _ 140 (.tmp 6) rfl p6 aa c17 140 _ (hB.get 4 (x:=⟨p6,c17,140⟩) rfl) Tryz.underlying140 rfl (by rw[Tryz.infoElem,EC.size _ hc17])) ?_;simp only[aq];refine av 148 #[.int .i64 z,.agg c15,.agg c17] aa aa ((swap_b (aj hz) hc15 hc17 _).mono ?_)
  rintro r v112_ ⟨c19,c20,rfl,hc19,hc20,hg⟩;refine⟨_,rfl,?_⟩;replace hB:=hB.more hg;clear hg;simp only[aq];refine ak (.tuple #[.agg c19,.agg c20]) aa aa ?_;simp only[aq];refine ak (.agg c19) aa aa ?_;simp only[aq];refine ak (.agg c20) aa aa ?_;simp only[aq];refine aA 140 (.tmp 4) (.tmp 53) (w.heap.size+1+1) c19 140 c15 aa rfl aa aa (hB.get 2 (x:=⟨w.heap.size+1+1,c15,140⟩) rfl) (by rw[Tryz.infoElem,EC.size _ hc19]) ((EC.size _ hc15).trans (EC.size _ hc19).symm) (EC.one _ hc19) ?_;replace hB:=hB.set 2 (x:=⟨w.heap.size+1+1,c15,140⟩) rfl c19;simp only[ab] at hB;generalize World.setRow _ _ _=v113_ at *;simp only[aq];refine aA 140 (.tmp 6) (.tmp 54) p6 c20 140 c17 aa rfl aa aa (hB.get 4 (x:=⟨p6,c17,140⟩) rfl) (by rw[Tryz.infoElem,EC.size _ hc20]) ((EC.size _ hc17).trans (EC.size _ hc20).symm) (EC.one _ hc20) ?_;replace hB:=hB.set 4 (x:=⟨p6,c17,140⟩) rfl c20;simp only[ab] at hB
  generalize World.setRow _ _ _=v114_ at *;simp only[aq];refine ai ?_;go_upto_region 9 with fail;refine ag ?_;refine ak (.int .i64 z) aa aa ?_;simp only[aq];refine ak (.agg c16) aa (ax _ 140 (.tmp 5) rfl (w.heap.size+1+1+1) aa c16 140 _ (hB.get 3 (x:=⟨w.heap.size+1+1+1,c16,140⟩) rfl) Tryz.underlying140 rfl (by rw[Tryz.infoElem,EC.size _ hc16])) ?_;simp only[aq];refine ak (.agg c18) aa (ax _ 140 (.tmp 7) rfl p7 aa c18 140 _ (hB.get 5 (x:=⟨p7,c18,140⟩) rfl) Tryz.underlying140 rfl (by rw[Tryz.infoElem,EC.size _ hc18])) ?_;simp only[aq];refine av 148 #[.int .i64 z,.agg c16,.agg c18] aa aa ((swap_b (aj hz) hc16 hc18 _).mono ?_);rintro r v115_ ⟨c21,c22,rfl,hc21,hc22,hg⟩;refine⟨_,rfl,?_⟩;replace hB:=hB.more hg;clear hg;simp only[aq];refine ak (.tuple #[.agg c21,.agg c22]) aa aa ?_;simp only[aq];refine ak (.agg c21) aa aa ?_;simp only[aq];refine ak (.agg c22) aa aa ?_;simp only[aq]
  refine aA 140 (.tmp 5) (.tmp 60) (w.heap.size+1+1+1) c21 140 c16 aa rfl aa aa (hB.get 3 (x:=⟨w.heap.size+1+1+1,c16,140⟩) rfl) (by rw[Tryz.infoElem,EC.size _ hc21]) ((EC.size _ hc16).trans (EC.size _ hc21).symm) (EC.one _ hc21) ?_;replace hB:=hB.set 3 (x:=⟨w.heap.size+1+1+1,c16,140⟩) rfl c21;simp only[ab] at hB;generalize World.setRow _ _ _=v116_ at *;simp only[aq];refine aA 140 (.tmp 7) (.tmp 61) p7 c22 140 c18 aa rfl aa aa (hB.get 5 (x:=⟨p7,c18,140⟩) rfl) (by rw[Tryz.infoElem,EC.size _ hc22]) ((EC.size _ hc18).trans (EC.size _ hc22).symm) (EC.one _ hc22) ?_;replace hB:=hB.set 5 (x:=⟨p7,c18,140⟩) rfl c22;simp only[ab] at hB;generalize World.setRow _ _ _=v117_ at *;simp only[aq];refine ai ?_;replace hc19:EC (Ed.lad u (Ed.hi M (254 - j+1))).a c19:=by
   rw[lad_next u M j hj];revert hc19;generalize Ed.bt M j=tb;generalize Ed.lad u (Ed.hi M (254 - j))=S;cases tb
   ·exact id
   ·intro h;have h2:EC (Ed.sX S.c S.d S.a S.b) c19:=h;rw[sx_sym] at h2;exact h2
  replace hc21:EC (Ed.lad u (Ed.hi M (254 - j+1))).b c21:=by
   rw[lad_next u M j hj];revert hc21;generalize Ed.bt M j=tb;generalize Ed.lad u (Ed.hi M (254 - j))=S;cases tb
   ·exact id
   ·intro h;have h2:EC (Ed.sZ u S.c S.d S.a S.b) c21:=h;rw[sz_sym] at h2;exact h2
  replace hc20:EC (Ed.lad u (Ed.hi M (254 - j+1))).c c20:=by
   rw[lad_next u M j hj];revert hc20;generalize Ed.bt M j=tb;generalize Ed.lad u (Ed.hi M (254 - j))=S;cases tb
   ·exact id
   ·exact id
  replace hc22:EC (Ed.lad u (Ed.hi M (254 - j+1))).d c22:=by
   rw[lad_next u M j hj];revert hc22;generalize Ed.bt M j=tb;generalize Ed.lad u (Ed.hi M (254 - j))=S;cases tb
   ·exact id
   ·exact id
  clear hx hy hs ht hc11 hc12 hc13 hc14 hc15 hc16 hc17 hc18;by_cases h0:j=0
  ·subst h0;go_upto_region 12 with fail;refine aE (S:=fun v=>v.heap[w.heap.size+1+1]?=some (.cells c19 140 (0,0))∧v.heap[w.heap.size+1+1+1]?=some (.cells c21 140 (0,0))∧True) aa ?_;replace hB:=hB.drew;generalize World.drew _=v118_ at *;simp only[ae,Array.replicate,List.replicate];refine ar (i:=0) (v:=(.agg c19)) #[false,false,false,false] rfl aa aa aa aa (fun _ _ _ h=>h) (.inl ⟨by kernel_rfl,fun x hu=>ax x 140 (.tmp 4) rfl (w.heap.size+1+1) aa c19 140 _ hu.1 Tryz.underlying140 rfl (by rw[Tryz.infoElem,EC.size _ hc19])⟩) ⟨(hB.get 2 (x:=⟨w.heap.size+1+1,c19,140⟩) rfl),(hB.get 3 (x:=⟨w.heap.size+1+1+1,c21,140⟩) rfl),trivial⟩ ?_;simp only[aq]
   refine ar (i:=1) (v:=(.agg c21)) #[true,false,false,false] rfl aa aa aa aa (fun _ _ _ h=>h) (.inl ⟨by kernel_rfl,fun x hu=>ax x 140 (.tmp 5) rfl (w.heap.size+1+1+1) aa c21 140 _ hu.2.1 Tryz.underlying140 rfl (by rw[Tryz.infoElem,EC.size _ hc21])⟩) ⟨(hB.get 2 (x:=⟨w.heap.size+1+1,c19,140⟩) rfl),(hB.get 3 (x:=⟨w.heap.size+1+1+1,c21,140⟩) rfl),trivial⟩ ?_;simp only[aq];refine ay (i:=2) aa rfl (fun K hK=>?_);rw[if_pos aa];refine wp_store_row 140 (.tmp 4) (.tmp 66) rfl (w.heap.size+1+1) c19 aa aa 140 c19 (hB.get 2 (x:=⟨w.heap.size+1+1,c19,140⟩) rfl) (by rw[Tryz.infoElem,EC.size _ hc19]) ((EC.size _ hc19).trans (EC.size _ hc19).symm) (EC.one _ hc19) ?_;replace hB:=hB.set 2 (x:=⟨w.heap.size+1+1,c19,140⟩) rfl c19;simp only[ab] at hB;refine hK.out _ _ ⟨(hB.get 2 (x:=⟨w.heap.size+1+1,c19,140⟩) rfl),(hB.get 3 (x:=⟨w.heap.size+1+1+1,c21,140⟩) rfl),trivial⟩ (fun _=>?_);clear hK K
   generalize World.setRow _ _ _=v119_ at *;simp only[aq];refine ay (i:=3) aa rfl (fun K hK=>?_);rw[if_pos aa];refine wp_store_row 140 (.tmp 5) (.tmp 67) rfl (w.heap.size+1+1+1) c21 aa aa 140 c21 (hB.get 3 (x:=⟨w.heap.size+1+1+1,c21,140⟩) rfl) (by rw[Tryz.infoElem,EC.size _ hc21]) ((EC.size _ hc21).trans (EC.size _ hc21).symm) (EC.one _ hc21) ?_;replace hB:=hB.set 3 (x:=⟨w.heap.size+1+1+1,c21,140⟩) rfl c21;simp only[ab] at hB;refine hK.out _ _ ⟨(hB.get 2 (x:=⟨w.heap.size+1+1,c19,140⟩) rfl),(hB.get 3 (x:=⟨w.heap.size+1+1+1,c21,140⟩) rfl),trivial⟩ (fun _=>?_);clear hK K;generalize World.setRow _ _ _=v120_ at *;simp only[aq];refine aF aa ?_;have hG:=hB.gr;have hr0:=(hB.get 2 (x:=⟨w.heap.size+1+1,c19,140⟩) rfl);have hh0:=hc19;obtain⟨c19_0,c19_1,c19_2,c19_3,c19_4,e0,_⟩:=hc19;rw[e0] at hr0;have p00:=aw (i:=0) hr0 rfl;have p01:=aw (i:=1) hr0 rfl;have p02:=aw (i:=2) hr0 rfl
   have p03:=aw (i:=3) hr0 rfl;have p04:=aw (i:=4) hr0 rfl;have hr1:=(hB.get 3 (x:=⟨w.heap.size+1+1+1,c21,140⟩) rfl);have hh1:=hc21;obtain⟨c21_0,c21_1,c21_2,c21_3,c21_4,e1,_⟩:=hc21;rw[e1] at hr1;have p10:=aw (i:=0) hr1 rfl;have p11:=aw (i:=1) hr1 rfl;have p12:=aw (i:=2) hr1 rfl;have p13:=aw (i:=3) hr1 rfl;have p14:=aw (i:=4) hr1 rfl;clear hB;go_wp2_with fail;simp only[Exit.jump];refine bodyPost_ret (v:=.tuple #[.agg #[.int .u64 c19_0,.int .u64 c19_1,.int .u64 c19_2,.int .u64 c19_3,.int .u64 c19_4],.agg #[.int .u64 c21_0,.int .u64 c21_1,.int .u64 c21_2,.int .u64 c21_3,.int .u64 c21_4]]) ?_ rfl ?_
   ·simp[results,Tryz.results123,go_sem,p00,p01,p02,p03,p04,p10,p11,p12,p13,p14]
   ·rw[← e0,← e1];exact⟨_,_,rfl,hh0,hh1,hG⟩
  ·obtain⟨i,rfl⟩:∃ i,j=i+1:=⟨j - 1,by omega⟩;rw[show 254 - (i+1)+1=254 - i from by omega] at hc19;rw[show 254 - (i+1)+1=254 - i from by omega] at hc21;rw[show 254 - (i+1)+1=254 - i from by omega] at hc20;rw[show 254 - (i+1)+1=254 - i from by omega] at hc22;go_wp2_with fail
   go_step3
   refine(⟨rfl,⟨i,z,p6,p7,c19,c21,c20,c22,_,_,_,_,_,_,_,_,_,_,_,_,_,_,_,_,_,_,_,_,_,_,_,_,_,_,_,_,_,_,_,_,_,_,_,_,_,_,_,_,_,_,_,_,_,_,_,_,_,_,_,_,_,_,_,_,_,_,by omega,rfl,hB,hc19,hc21,hc20,hc22⟩,?_⟩:0=0∧LJ w u M c1 _ _∧(_:Nat)<_);simp[intOf]
def cl (M:Nat):Nat:=M % 28948022309329048855892746252171976963317496166410141009864396001978282409984 / 8 * 8+28948022309329048855892746252171976963317496166410141009864396001978282409984
theorem and248 (x:Int) (h:0≤x∧x<256):bits .and .u8 x 248=x / 8 * 8:=by
 obtain⟨k,rfl⟩:=Int.eq_ofNat_of_zero_le h.1;have:∀ n:Fin 256,bits .and .u8 (n.val:Int) 248=(n.val:Int) / 8 * 8:=by decide +kernel
 exact this ⟨k,by omega⟩
theorem top64 (x:Int) (h:0≤x∧x<256):bits .or .u8 (bits .and .u8 x 127) 64=x % 64+64:=by
 obtain⟨k,rfl⟩:=Int.eq_ofNat_of_zero_le h.1;have:∀ n:Fin 256,bits .or .u8 (bits .and .u8 (n.val:Int) 127) 64=(n.val:Int) % 64+64:=by decide +kernel
 exact this ⟨k,by omega⟩
theorem cl_digit (M i:Nat) (h0:i≠0) (h1:i<31):(cl M:Int) / 256 ^ i % 256=(M:Int) / 256 ^ i % 256:=by
 have e:(cl M:Int)=(M:Int) % 28948022309329048855892746252171976963317496166410141009864396001978282409984 / 8 * 8+28948022309329048855892746252171976963317496166410141009864396001978282409984:=by unfold cl; omega
 rw[e];generalize (M:Int)=m;rcases(show i=1∨i=2∨i=3∨i=4∨i=5∨i=6∨i=7∨i=8∨i=9∨i=10∨i=11∨i=12∨i=13∨i=14∨i=15∨i=16∨i=17∨i=18∨i=19∨i=20∨i=21∨i=22∨i=23∨i=24∨i=25∨i=26∨i=27∨i=28∨i=29∨i=30 by omega) with rfl | rfl | rfl | rfl | rfl | rfl | rfl | rfl | rfl | rfl | rfl | rfl | rfl | rfl | rfl | rfl | rfl | rfl | rfl | rfl | rfl | rfl | rfl | rfl | rfl | rfl | rfl | rfl | rfl | rfl
 ·rw[show (256:Int) ^ 1=256 from by decide];omega
 ·rw[show (256:Int) ^ 2=65536 from by decide];omega
 ·rw[show (256:Int) ^ 3=16777216 from by decide];omega
 ·rw[show (256:Int) ^ 4=4294967296 from by decide];omega
 ·rw[show (256:Int) ^ 5=1099511627776 from by decide];omega
 ·rw[show (256:Int) ^ 6=281474976710656 from by decide];omega
 ·rw[show (256:Int) ^ 7=72057594037927936 from by decide];omega
 ·rw[show (256:Int) ^ 8=18446744073709551616 from by decide];omega
 ·rw[show (256:Int) ^ 9=4722366482869645213696 from by decide];omega
 ·rw[show (256:Int) ^ 10=1208925819614629174706176 from by decide];omega
 ·rw[show (256:Int) ^ 11=309485009821345068724781056 from by decide];omega
 ·rw[show (256:Int) ^ 12=79228162514264337593543950336 from by decide];omega
 ·rw[show (256:Int) ^ 13=20282409603651670423947251286016 from by decide];omega
 ·rw[show (256:Int) ^ 14=5192296858534827628530496329220096 from by decide];omega
 ·rw[show (256:Int) ^ 15=1329227995784915872903807060280344576 from by decide];omega
 ·rw[show (256:Int) ^ 16=340282366920938463463374607431768211456 from by decide];omega
 ·rw[show (256:Int) ^ 17=87112285931760246646623899502532662132736 from by decide];omega
 ·rw[show (256:Int) ^ 18=22300745198530623141535718272648361505980416 from by decide];omega
 ·rw[show (256:Int) ^ 19=5708990770823839524233143877797980545530986496 from by decide];omega
 ·rw[show (256:Int) ^ 20=1461501637330902918203684832716283019655932542976 from by decide];omega
 ·rw[show (256:Int) ^ 21=374144419156711147060143317175368453031918731001856 from by decide];omega
 ·rw[show (256:Int) ^ 22=95780971304118053647396689196894323976171195136475136 from by decide];omega
 ·rw[show (256:Int) ^ 23=24519928653854221733733552434404946937899825954937634816 from by decide];omega
 ·rw[show (256:Int) ^ 24=6277101735386680763835789423207666416102355444464034512896 from by decide];omega
 ·rw[show (256:Int) ^ 25=1606938044258990275541962092341162602522202993782792835301376 from by decide];omega
 ·rw[show (256:Int) ^ 26=411376139330301510538742295639337626245683966408394965837152256 from by decide];omega
 ·rw[show (256:Int) ^ 27=105312291668557186697918027683670432318895095400549111254310977536 from by decide];omega
 ·rw[show (256:Int) ^ 28=26959946667150639794667015087019630673637144422540572481103610249216 from by decide];omega
 ·rw[show (256:Int) ^ 29=6901746346790563787434755862277025452451108972170386555162524223799296 from by decide];omega
 ·rw[show (256:Int) ^ 30=1766847064778384329583297500742918515827483896875618958121606201292619776 from by decide];omega
theorem cl_first (M:Nat):(cl M:Int) / 256 ^ 0 % 256=(M:Int) / 256 ^ 0 % 256 / 8 * 8:=by
 have e:(cl M:Int)=(M:Int) % 28948022309329048855892746252171976963317496166410141009864396001978282409984 / 8 * 8+28948022309329048855892746252171976963317496166410141009864396001978282409984:=by unfold cl; omega
 rw[e,Int.pow_zero];generalize (M:Int)=m;omega
theorem cl_last (M:Nat):(cl M:Int) / 256 ^ 31 % 256=(M:Int) / 256 ^ 31 % 256 % 64+64:=by
 have e:(cl M:Int)=(M:Int) % 28948022309329048855892746252171976963317496166410141009864396001978282409984 / 8 * 8+28948022309329048855892746252171976963317496166410141009864396001978282409984:=by unfold cl; omega
 rw[e,show (256:Int) ^ 31=452312848583266388373324160190187140051835877600158453279131187530910662656 from by decide];generalize (M:Int)=m;omega
theorem kc_get (n:Int) (i:Nat) (hi:i<32):(kc (digs n 32))[i]?=some (.int .u8 (n / 256 ^ i % 256)):=by
 have h1:i<(digs n 32).length:=by rw[digs_len]; exact hi
 have h2:=cX n i hi;unfold kc;simp[h1];rw[← h2];simp[List.getD,h1]
theorem clamp_cells (M:Nat):(((kc (digs (M:Int) 32)).setIfInBounds 0 (.int .u8 ((M:Int) / 256 ^ 0 % 256 / 8 * 8))).setIfInBounds 31 (.int .u8 ((M:Int) / 256 ^ 31 % 256 % 64+64)))=kc (digs (cl M:Int) 32):=by
 apply Array.ext
 ·simp[au,digs_len]
 ·intro i h1 h2;have hi:i<32:=by rw[au,digs_len] at h2; exact h2
  have e2:=kc_get (cl M:Int) i hi;have e1:=kc_get (M:Int) i hi;rw[Array.getElem?_eq_getElem h2] at e2;rw[Array.getElem_setIfInBounds,Array.getElem_setIfInBounds,Option.some.inj e2];by_cases h31:i=31
  ·subst h31;rw[if_pos rfl,cl_last]
  ·rw[if_neg (fun e=>h31 e.symm)];by_cases h0:i=0
   ·subst h0;rw[if_pos rfl,cl_first]
   ·rw[if_neg (fun e=>h0 e.symm),cl_digit M i h0 (by omega)];have hs:i<(kc (digs (M:Int) 32)).size:=by rw[au,digs_len]; exact hi
    rw[Array.getElem?_eq_getElem hs] at e1;exact Option.some.inj e1
  ·rw[au,digs_len];exact hi
  ·rw[Array.size_setIfInBounds,au,digs_len];exact hi
theorem cG (n:Int) (k:Nat):(kc (digs n k)).size=32:=by rw[au,digs_len]
def Z32:Array Value:=#[.int .u8 0,.int .u8 0,.int .u8 0,.int .u8 0,.int .u8 0,.int .u8 0,.int .u8 0,.int .u8 0,.int .u8 0,.int .u8 0,.int .u8 0,.int .u8 0,.int .u8 0,.int .u8 0,.int .u8 0,.int .u8 0,.int .u8 0,.int .u8 0,.int .u8 0,.int .u8 0,.int .u8 0,.int .u8 0,.int .u8 0,.int .u8 0,.int .u8 0,.int .u8 0,.int .u8 0,.int .u8 0,.int .u8 0,.int .u8 0,.int .u8 0,.int .u8 0]
theorem Z32_size:Z32.size=32:=rfl
theorem clamp_ok (M:Nat) (w:World):Calls Tryz.prog 124 #[.agg (kc (digs (M:Int) 32))] w (fun r w'=>r=.returned (.agg (kc (digs (cl M:Int) 32)))∧Gr w w'):=by
 go_enter Tryz.func124,Tryz.ntmps124;go_upto_region 1 with fail;have hB:=((Bl.nil w).new (kc (digs (M:Int) 32)) 23).new #[.int .u8 0,.int .u8 0,.int .u8 0,.int .u8 0,.int .u8 0,.int .u8 0,.int .u8 0,.int .u8 0,.int .u8 0,.int .u8 0,.int .u8 0,.int .u8 0,.int .u8 0,.int .u8 0,.int .u8 0,.int .u8 0,.int .u8 0,.int .u8 0,.int .u8 0,.int .u8 0,.int .u8 0,.int .u8 0,.int .u8 0,.int .u8 0,.int .u8 0,.int .u8 0,.int .u8 0,.int .u8 0,.int .u8 0,.int .u8 0,.int .u8 0,.int .u8 0] 23;simp only[aB,ac] at hB;generalize World.alloc _ _=v1_ at *;replace hB:Bl w [⟨w.heap.size,kc (digs (M:Int) 32),23⟩,⟨w.heap.size+1,Z32,23⟩] v1_:=hB;have k0:=key_cell (KB.of (hB.get 0 (x:=⟨w.heap.size,kc (digs (M:Int) 32),23⟩) rfl)) 0 (by omega);have k31:=key_cell (KB.of (hB.get 0 (x:=⟨w.heap.size,kc (digs (M:Int) 32),23⟩) rfl)) 31 (by omega)
 have f0:=KB.froz (KB.of (hB.get 0 (x:=⟨w.heap.size,kc (digs (M:Int) 32),23⟩) rfl)) 0;have f31:=KB.froz (KB.of (hB.get 0 (x:=⟨w.heap.size,kc (digs (M:Int) 32),23⟩) rfl)) 31;have r0:0≤(M:Int) / 256 ^ 0 % 256∧(M:Int) / 256 ^ 0 % 256<256:=by omega
 have r31:0≤(M:Int) / 256 ^ 31 % 256∧(M:Int) / 256 ^ 31 % 256<256:=by omega
 have hC:=ao (clamp_cells M);generalize (M:Int) / 256 ^ 0 % 256=x0 at k0 r0 hC;generalize (M:Int) / 256 ^ 31 % 256=x31 at k31 r31 hC;replace hB:=ao hB;go_upto_region 4 with fail;replace hB:=aj hB;replace hB:=((hB.cell 0 rfl 0 (.int .u8 (bits .and .u8 x0 248))).cell 0 rfl 31 (.int .u8 (bits .and .u8 x31 127))).cell 0 rfl 31 (.int .u8 (bits .or .u8 (bits .and .u8 x31 127) 64));simp only[List.set_cons_zero,List.getElem?_cons_zero,Option.some.injEq,Array.setIfInBounds_setIfInBounds] at hB;generalize World.setCell _ _ _=v2_ at *;rw[and248 x0 r0,top64 x31 r31,aj hC] at hB;clear k0 k31 f0 f31 r0 r31 hC;refine ag ?_;refine ak (.agg (kc (digs (cl M:Int) 32))) aa (ax _ 23 (.tmp 1) rfl w.heap.size aa (kc (digs (cl M:Int) 32)) 23 _ (hB.get 0 (x:=⟨w.heap.size,(kc (digs (cl M:Int) 32)),23⟩) rfl) Tryz.underlying23 rfl (by rw[Tryz.infoKey,cG])) ?_;simp only[aq]
 refine aA 23 (.tmp 2) (.tmp 15) (w.heap.size+1) (kc (digs (cl M:Int) 32)) 23 Z32 aa rfl aa aa (hB.get 1 (x:=⟨w.heap.size+1,Z32,23⟩) rfl) (by rw[Tryz.infoKey,cG]) (Z32_size.trans (cG (cl M:Int) 32).symm) (aL _) ?_;replace hB:=hB.set 1 (x:=⟨w.heap.size+1,Z32,23⟩) rfl (kc (digs (cl M:Int) 32));simp only[ab] at hB;generalize World.setRow _ _ _=v3_ at *;simp only[aq];refine ai ?_;go_wp2_with fail;exact bodyPost_ret (v:=.agg (kc (digs (cl M:Int) 32))) (results_cell_row Tryz.results124 _ _ (w.heap.size+1) 23 (kc (digs (cl M:Int) 32)) (0,0) _ rfl (hB.get 1 (x:=⟨w.heap.size+1,(kc (digs (cl M:Int) 32)),23⟩) rfl) Tryz.underlying23 rfl (by rw[Tryz.infoKey,cG])) rfl ⟨rfl,hB.gr⟩
def xn (M U:Nat):Int:=(Ed.lad ((U:Int) % 57896044618658097711785492504343953926634992332820282019728792003956564819968) (Ed.hi (cl M) 255)).a * (Ed.lad ((U:Int) % 57896044618658097711785492504343953926634992332820282019728792003956564819968) (Ed.hi (cl M) 255)).b ^ p2
theorem pp_p:pp=Ed.p:=rfl
theorem x_ok (M U:Nat) (w:World) :
  Calls Tryz.prog 91 #[.agg (kc (digs (M:Int) 32)),.agg (kc (digs (U:Int) 32))] w (fun r w'=>r=.returned (.agg (kc (digs (xn M U % pp) 32)))∧Gr w w'):=by
 go_enter Tryz.func91,Tryz.ntmps91;go_upto_region 1 with fail;have hB:=((((Bl.nil w).new (kc (digs (M:Int) 32)) 23).new (kc (digs (U:Int) 32)) 23).new #[.int .u8 0,.int .u8 0,.int .u8 0,.int .u8 0,.int .u8 0,.int .u8 0,.int .u8 0,.int .u8 0,.int .u8 0,.int .u8 0,.int .u8 0,.int .u8 0,.int .u8 0,.int .u8 0,.int .u8 0,.int .u8 0,.int .u8 0,.int .u8 0,.int .u8 0,.int .u8 0,.int .u8 0,.int .u8 0,.int .u8 0,.int .u8 0,.int .u8 0,.int .u8 0,.int .u8 0,.int .u8 0,.int .u8 0,.int .u8 0,.int .u8 0,.int .u8 0] 23);simp only[aB,ac] at hB;generalize World.alloc _ _=v1_ at *;replace hB:Bl w [⟨w.heap.size,(kc (digs (M:Int) 32)),23⟩,⟨w.heap.size+1,(kc (digs (U:Int) 32)),23⟩,⟨w.heap.size+1+1,Z32,23⟩] v1_:=hB;refine aE (S:=fun v=>v.heap[w.heap.size]?=some (.cells (kc (digs (M:Int) 32)) 23 (0,0))∧v.heap[w.heap.size+1]?=some (.cells (kc (digs (U:Int) 32)) 23 (0,0))∧True) aa ?_;replace hB:=hB.drew
 generalize World.drew _=v2_ at *;simp only[ae,Array.replicate,List.replicate];refine ar (i:=0) (v:=(.agg (kc (digs (M:Int) 32)))) #[false,false,false,false,false,false,false,false,false,false,false,false] rfl aa aa aa aa (fun _ _ _ h=>h) (.inl ⟨by kernel_rfl,fun x hu=>ax x 23 (.tmp 2) rfl w.heap.size aa (kc (digs (M:Int) 32)) 23 _ hu.1 Tryz.underlying23 rfl (by rw[Tryz.infoKey,cG])⟩) ⟨(hB.get 0 (x:=⟨w.heap.size,(kc (digs (M:Int) 32)),23⟩) rfl),(hB.get 1 (x:=⟨w.heap.size+1,(kc (digs (U:Int) 32)),23⟩) rfl),trivial⟩ ?_;simp only[aq]
 refine ar (i:=2) (v:=(.agg (kc (digs (U:Int) 32)))) #[true,false,false,false,false,false,false,false,false,false,false,false] rfl aa aa aa aa (fun _ _ _ h=>h) (.inl ⟨by kernel_rfl,fun x hu=>ax x 23 (.tmp 3) rfl (w.heap.size+1) aa (kc (digs (U:Int) 32)) 23 _ hu.2.1 Tryz.underlying23 rfl (by rw[Tryz.infoKey,cG])⟩) ⟨(hB.get 0 (x:=⟨w.heap.size,(kc (digs (M:Int) 32)),23⟩) rfl),(hB.get 1 (x:=⟨w.heap.size+1,(kc (digs (U:Int) 32)),23⟩) rfl),trivial⟩ ?_;simp only[aq];have hSf:∀ v,Gr v2_ v→(fun v=>v.heap[w.heap.size]?=some (.cells (kc (digs (M:Int) 32)) 23 (0,0))∧v.heap[w.heap.size+1]?=some (.cells (kc (digs (U:Int) 32)) 23 (0,0))∧True) v:=fun v k=>⟨k.blk (hB.get 0 (x:=⟨w.heap.size,(kc (digs (M:Int) 32)),23⟩) rfl),k.blk (hB.get 1 (x:=⟨w.heap.size+1,(kc (digs (U:Int) 32)),23⟩) rfl),trivial⟩
 refine cH v2_ #[.int .u64 0,.int .u64 0,.int .u64 0,.int .u64 0,.int .u64 0] 140 (fun q1_1 q1_2=>⟨#[(.agg (kc (digs (M:Int) 32))),(.agg (kc (digs (U:Int) 32))),(.pointer (some ⟨w.heap.size,0,none⟩)),(.pointer (some ⟨w.heap.size+1,0,none⟩)),(.pointer (some ⟨w.heap.size+1+1,0,none⟩)),q1_1,q1_2,undef,(.agg (kc (digs (M:Int) 32))),undef,(.agg (kc (digs (U:Int) 32))),undef,undef,undef,undef,undef,undef,undef,undef,undef],[]⟩) (fun b1_1 b1_2=>#[true,false,true,false,false,false,false,false,b1_1,b1_2,false,false]) 8 9 1 false hSf aa (fun _ _=>⟨rfl,rfl⟩) ?_ ?_ ?_ ⟨false,false,undef,undef,0,0,M2.start _ _ _ _ _⟩
 ·intro q1_1 q1_2 x K hK;refine wpOp_step (o:=_) rfl (fun K' hK'=>?_);replace hK':=ao hK';replace hK:=ao hK;go_simp;exact aj hK' _ _ (aj hK)
 ·intro q1_1 q1_2 x K hK;refine wpOp_step (o:=_) rfl (fun K' hK'=>?_);replace hK':=ao hK';replace hK:=ao hK;go_simp;exact aj hK' _ _ (aj hK)
 intro b1_1 b1_2 q1_1 q1_2 g1_1 g1_2 v3_ hM _;refine wpOp_step (o:=_) rfl (fun K' hK'=>?_);replace hK':=ao hK';refine az aa 124 #[.agg (kc (digs (M:Int) 32))] aa ((clamp_ok M _).mono ?_);rintro r v4_ ⟨rfl,hg⟩;refine⟨_,rfl,?_⟩;have hM':=hM.go (A':=(fun q1_1 q1_2=>⟨#[(.agg (kc (digs (M:Int) 32))),(.agg (kc (digs (U:Int) 32))),(.pointer (some ⟨w.heap.size,0,none⟩)),(.pointer (some ⟨w.heap.size+1,0,none⟩)),(.pointer (some ⟨w.heap.size+1+1,0,none⟩)),q1_1,q1_2,undef,(.agg (kc (digs (M:Int) 32))),(.agg (kc (digs (cl M:Int) 32))),(.agg (kc (digs (U:Int) 32))),undef,undef,undef,undef,undef,undef,undef,undef,undef],[]⟩)) (F':=(fun b1_1 b1_2=>#[true,true,true,false,false,false,false,false,b1_1,b1_2,false,false])) hg;refine aj hK' _ _ ⟨hSf _ hM'.gr,?_⟩;clear hK' K' hM hg;simp only[aq]
 refine cH v2_ #[.int .u64 0,.int .u64 0,.int .u64 0,.int .u64 0,.int .u64 0] 140 (fun q1_1 q1_2=>⟨#[(.agg (kc (digs (M:Int) 32))),(.agg (kc (digs (U:Int) 32))),(.pointer (some ⟨w.heap.size,0,none⟩)),(.pointer (some ⟨w.heap.size+1,0,none⟩)),(.pointer (some ⟨w.heap.size+1+1,0,none⟩)),q1_1,q1_2,undef,(.agg (kc (digs (M:Int) 32))),(.agg (kc (digs (cl M:Int) 32))),(.agg (kc (digs (U:Int) 32))),undef,undef,undef,undef,undef,undef,undef,undef,undef],[]⟩) (fun b1_1 b1_2=>#[true,true,true,false,false,false,false,false,b1_1,b1_2,false,false]) 8 9 3 false hSf aa (fun _ _=>⟨rfl,rfl⟩) ?_ ?_ ?_ ⟨b1_1,b1_2,q1_1,q1_2,g1_1,g1_2,hM'.go (Gr.refl _)⟩
 ·intro q1_1 q1_2 x K hK;refine wpOp_step (o:=_) rfl (fun K' hK'=>?_);replace hK':=ao hK';replace hK:=ao hK;go_simp;exact aj hK' _ _ (aj hK)
 ·intro q1_1 q1_2 x K hK;refine wpOp_step (o:=_) rfl (fun K' hK'=>?_);replace hK':=ao hK';replace hK:=ao hK;go_simp;exact aj hK' _ _ (aj hK)
 clear hM';intro b1_1 b1_2 q1_1 q1_2 g1_1 g1_2 v5_ hM _;refine wpOp_step (o:=_) rfl (fun K' hK'=>?_);replace hK':=ao hK';refine az aa 77 #[.agg (kc (digs (U:Int) 32))] aa ((from_ec (U:Int) (by omega) _).mono ?_);rintro r v6_ ⟨c1,rfl,hc1,hg⟩;refine⟨_,rfl,?_⟩;have hM':=hM.go (A':=(fun q1_1 q1_2=>⟨#[(.agg (kc (digs (M:Int) 32))),(.agg (kc (digs (U:Int) 32))),(.pointer (some ⟨w.heap.size,0,none⟩)),(.pointer (some ⟨w.heap.size+1,0,none⟩)),(.pointer (some ⟨w.heap.size+1+1,0,none⟩)),q1_1,q1_2,undef,(.agg (kc (digs (M:Int) 32))),(.agg (kc (digs (cl M:Int) 32))),(.agg (kc (digs (U:Int) 32))),(.agg c1),undef,undef,undef,undef,undef,undef,undef,undef],[]⟩)) (F':=(fun b1_1 b1_2=>#[true,true,true,true,false,false,false,false,b1_1,b1_2,false,false])) hg;refine aj hK' _ _ ⟨hSf _ hM'.gr,?_⟩;clear hK' K' hM hg;simp only[aq]
 refine cH v2_ #[.int .u64 0,.int .u64 0,.int .u64 0,.int .u64 0,.int .u64 0] 140 (fun q1_1 q1_2=>⟨#[(.agg (kc (digs (M:Int) 32))),(.agg (kc (digs (U:Int) 32))),(.pointer (some ⟨w.heap.size,0,none⟩)),(.pointer (some ⟨w.heap.size+1,0,none⟩)),(.pointer (some ⟨w.heap.size+1+1,0,none⟩)),q1_1,q1_2,undef,(.agg (kc (digs (M:Int) 32))),(.agg (kc (digs (cl M:Int) 32))),(.agg (kc (digs (U:Int) 32))),(.agg c1),undef,undef,undef,undef,undef,undef,undef,undef],[]⟩) (fun b1_1 b1_2=>#[true,true,true,true,false,false,false,false,b1_1,b1_2,false,false]) 8 9 4 false hSf aa (fun _ _=>⟨rfl,rfl⟩) ?_ ?_ ?_ ⟨b1_1,b1_2,q1_1,q1_2,g1_1,g1_2,hM'.go (Gr.refl _)⟩
 ·intro q1_1 q1_2 x K hK;refine wpOp_step (o:=_) rfl (fun K' hK'=>?_);replace hK':=ao hK';replace hK:=ao hK;go_simp;exact aj hK' _ _ (aj hK)
 ·intro q1_1 q1_2 x K hK;refine wpOp_step (o:=_) rfl (fun K' hK'=>?_);replace hK':=ao hK';replace hK:=ao hK;go_simp;exact aj hK' _ _ (aj hK)
 clear hM';intro b1_1 b1_2 q1_1 q1_2 g1_1 g1_2 v7_ hM _;refine wpOp_step (o:=_) rfl (fun K' hK'=>?_);replace hK':=ao hK';refine az aa 123 #[.agg (kc (digs (cl M:Int) 32)),.agg c1] aa ((ladder_ec (M:=cl M) hc1 _).mono ?_);rintro r v8_ ⟨c2,c3,rfl,hc2,hc3,hg⟩;refine⟨_,rfl,?_⟩;have hM':=hM.go (A':=(fun q1_1 q1_2=>⟨#[(.agg (kc (digs (M:Int) 32))),(.agg (kc (digs (U:Int) 32))),(.pointer (some ⟨w.heap.size,0,none⟩)),(.pointer (some ⟨w.heap.size+1,0,none⟩)),(.pointer (some ⟨w.heap.size+1+1,0,none⟩)),q1_1,q1_2,undef,(.agg (kc (digs (M:Int) 32))),(.agg (kc (digs (cl M:Int) 32))),(.agg (kc (digs (U:Int) 32))),(.agg c1),(.tuple #[.agg c2,.agg c3]),undef,undef,undef,undef,undef,undef,undef],[]⟩)) (F':=(fun b1_1 b1_2=>#[true,true,true,true,true,false,false,false,b1_1,b1_2,false,false])) hg;refine aj hK' _ _ ⟨hSf _ hM'.gr,?_⟩;clear hK' K' hM hg;simp only[aq]
 refine ar (i:=5) (v:=(.tuple #[.agg c2,.agg c3])) #[true,true,true,true,true,false,false,false,false,false,false,false] rfl aa aa aa aa (fun _ _ _ h=>h) (.inl ⟨by kernel_rfl,fun x hu=>by kernel_rfl⟩) (hSf _ hM'.gr) ?_;simp only[aq];refine ar (i:=6) (v:=(.agg c2)) #[true,true,true,true,true,true,false,false,false,false,false,false] rfl aa aa aa aa (fun _ _ _ h=>h) (.inl ⟨by kernel_rfl,fun x hu=>by kernel_rfl⟩) (hSf _ hM'.gr) ?_;simp only[aq];refine ar (i:=7) (v:=(.agg c3)) #[true,true,true,true,true,true,true,false,false,false,false,false] rfl aa aa aa aa (fun _ _ _ h=>h) (.inl ⟨by kernel_rfl,fun x hu=>by kernel_rfl⟩) (hSf _ hM'.gr) ?_;simp only[aq]
 refine cH v2_ #[.int .u64 0,.int .u64 0,.int .u64 0,.int .u64 0,.int .u64 0] 140 (fun q1_1 q1_2=>⟨#[(.agg (kc (digs (M:Int) 32))),(.agg (kc (digs (U:Int) 32))),(.pointer (some ⟨w.heap.size,0,none⟩)),(.pointer (some ⟨w.heap.size+1,0,none⟩)),(.pointer (some ⟨w.heap.size+1+1,0,none⟩)),q1_1,q1_2,(.tuple #[.agg c2,.agg c3]),(.agg (kc (digs (M:Int) 32))),(.agg (kc (digs (cl M:Int) 32))),(.agg (kc (digs (U:Int) 32))),(.agg c1),(.tuple #[.agg c2,.agg c3]),(.agg c2),(.agg c3),undef,undef,undef,undef,undef],[]⟩) (fun b1_1 b1_2=>#[true,true,true,true,true,true,true,true,b1_1,b1_2,false,false]) 8 9 10 true hSf aa (fun _ _=>⟨rfl,rfl⟩) ?_ ?_ ?_ ⟨b1_1,b1_2,q1_1,q1_2,g1_1,g1_2,hM'.go (Gr.refl _)⟩
 ·intro q1_1 q1_2 x K hK;refine wpOp_step (o:=_) rfl (fun K' hK'=>?_);replace hK':=ao hK';replace hK:=ao hK;go_simp;exact aj hK' _ _ (aj hK)
 ·intro q1_1 q1_2 x K hK;refine wpOp_step (o:=_) rfl (fun K' hK'=>?_);replace hK':=ao hK';replace hK:=ao hK;go_simp;exact aj hK' _ _ (aj hK)
 clear hM';intro b1_1 b1_2 q1_1 q1_2 g1_1 g1_2 v9_ hM hall;obtain⟨rfl,rfl⟩:=hall rfl;obtain⟨rfl,rfl,hB'⟩:=hM.all hB;replace hB:=hB';clear hB' hM hall;simp only[List.cons_append,List.nil_append] at hB;refine wpOp_step (o:=_) rfl (fun K' hK'=>?_);replace hK':=ao hK';rw[if_pos aa];refine wp_store_row 140 (.tmp 5) (.tmp 13) rfl g1_1 c2 aa aa 140 #[.int .u64 0,.int .u64 0,.int .u64 0,.int .u64 0,.int .u64 0] (hB.get 3 (x:=⟨g1_1,#[.int .u64 0,.int .u64 0,.int .u64 0,.int .u64 0,.int .u64 0],140⟩) rfl) (by rw[Tryz.infoElem,EC.size _ hc2]) ((show (#[.int .u64 0,.int .u64 0,.int .u64 0,.int .u64 0,.int .u64 0]:Array Value).size=5 from rfl).trans (EC.size _ hc2).symm) (EC.one _ hc2) ?_;replace hB:=hB.set 3 (x:=⟨g1_1,#[.int .u64 0,.int .u64 0,.int .u64 0,.int .u64 0,.int .u64 0],140⟩) rfl c2;simp only[ab] at hB
 refine aj hK' _ _ ⟨⟨(hB.get 0 (x:=⟨w.heap.size,(kc (digs (M:Int) 32)),23⟩) rfl),(hB.get 1 (x:=⟨w.heap.size+1,(kc (digs (U:Int) 32)),23⟩) rfl),trivial⟩,?_⟩;clear hK' K' hSf;generalize World.setRow _ _ _=v10_ at *;simp only[aq];refine ay (i:=11) aa rfl (fun K hK=>?_);rw[if_pos aa];refine wp_store_row 140 (.tmp 6) (.tmp 14) rfl g1_2 c3 aa aa 140 #[.int .u64 0,.int .u64 0,.int .u64 0,.int .u64 0,.int .u64 0] (hB.get 4 (x:=⟨g1_2,#[.int .u64 0,.int .u64 0,.int .u64 0,.int .u64 0,.int .u64 0],140⟩) rfl) (by rw[Tryz.infoElem,EC.size _ hc3]) ((show (#[.int .u64 0,.int .u64 0,.int .u64 0,.int .u64 0,.int .u64 0]:Array Value).size=5 from rfl).trans (EC.size _ hc3).symm) (EC.one _ hc3) ?_;replace hB:=hB.set 4 (x:=⟨g1_2,#[.int .u64 0,.int .u64 0,.int .u64 0,.int .u64 0,.int .u64 0],140⟩) rfl c3;simp only[ab] at hB
 refine hK.out _ _ ⟨(hB.get 0 (x:=⟨w.heap.size,(kc (digs (M:Int) 32)),23⟩) rfl),(hB.get 1 (x:=⟨w.heap.size+1,(kc (digs (U:Int) 32)),23⟩) rfl),trivial⟩ (fun _=>?_);clear hK K;generalize World.setRow _ _ _=v11_ at *;simp only[aq];refine aF aa ?_;go_upto_region 2 with fail;refine aE (S:=fun v=>v.heap[g1_1]?=some (.cells c2 140 (0,0))∧v.heap[g1_2]?=some (.cells c3 140 (0,0))∧True) aa ?_;replace hB:=hB.drew;generalize World.drew _=v12_ at *;simp only[ae,Array.replicate,List.replicate];refine ar (i:=0) (v:=(.agg c2)) #[false,false,false,false,false,false] rfl aa aa aa aa (fun _ _ _ h=>h) (.inl ⟨by kernel_rfl,fun x hu=>ax x 140 (.tmp 5) rfl g1_1 aa c2 140 _ hu.1 Tryz.underlying140 rfl (by rw[Tryz.infoElem,EC.size _ hc2])⟩) ⟨(hB.get 3 (x:=⟨g1_1,c2,140⟩) rfl),(hB.get 4 (x:=⟨g1_2,c3,140⟩) rfl),trivial⟩ ?_;simp only[aq]
 refine ar (i:=1) (v:=(.agg c3)) #[true,false,false,false,false,false] rfl aa aa aa aa (fun _ _ _ h=>h) (.inl ⟨by kernel_rfl,fun x hu=>ax x 140 (.tmp 6) rfl g1_2 aa c3 140 _ hu.2.1 Tryz.underlying140 rfl (by rw[Tryz.infoElem,EC.size _ hc3])⟩) ⟨(hB.get 3 (x:=⟨g1_1,c2,140⟩) rfl),(hB.get 4 (x:=⟨g1_2,c3,140⟩) rfl),trivial⟩ ?_;simp only[aq];refine ay (i:=2) aa rfl (fun K hK=>?_);refine az aa 126 #[.agg c3] aa ((inv_ec hc3 _).mono ?_);rintro r v13_ ⟨c4,rfl,hc4,hg⟩;refine⟨_,rfl,?_⟩;replace hB:=hB.more hg;clear hg;refine hK.out _ _ ⟨(hB.get 3 (x:=⟨g1_1,c2,140⟩) rfl),(hB.get 4 (x:=⟨g1_2,c3,140⟩) rfl),trivial⟩ (fun _=>?_);clear hK K;simp only[aq];refine ay (i:=3) aa rfl (fun K hK=>?_);refine az aa 125 #[.agg c2,.agg c4] aa ((mul_ec hc2 hc4 _).mono ?_);rintro r v14_ ⟨c5,rfl,hc5,hg⟩;refine⟨_,rfl,?_⟩
 obtain⟨V,hV⟩:∃ V,V=(Ed.lad ((U:Int) % 57896044618658097711785492504343953926634992332820282019728792003956564819968) (Ed.hi (cl M) 255)).a * (Ed.lad ((U:Int) % 57896044618658097711785492504343953926634992332820282019728792003956564819968) (Ed.hi (cl M) 255)).b ^ p2:=⟨_,rfl⟩;rw[← hV] at hc5;replace hV:=ao hV;replace hB:=hB.more hg;clear hg;refine hK.out _ _ ⟨(hB.get 3 (x:=⟨g1_1,c2,140⟩) rfl),(hB.get 4 (x:=⟨g1_2,c3,140⟩) rfl),trivial⟩ (fun _=>?_);clear hK K;simp only[aq];refine ay (i:=4) aa rfl (fun K hK=>?_);refine az aa 78 #[.agg c5] aa ((bytes_ec hc5 _).mono ?_);rintro r v15_ ⟨rfl,hg⟩;refine⟨_,rfl,?_⟩;replace hB:=hB.more hg;clear hg;refine hK.out _ _ ⟨(hB.get 3 (x:=⟨g1_1,c2,140⟩) rfl),(hB.get 4 (x:=⟨g1_2,c3,140⟩) rfl),trivial⟩ (fun _=>?_);clear hK K;simp only[aq];refine ay (i:=5) aa rfl (fun K hK=>?_);rw[if_pos aa]
 refine wp_store_row 23 (.tmp 4) (.tmp 19) rfl (w.heap.size+1+1) (kc (digs (V % pp) 32)) aa aa 23 Z32 (hB.get 2 (x:=⟨w.heap.size+1+1,Z32,23⟩) rfl) (by rw[Tryz.infoKey,cG]) (Z32_size.trans (cG (V % pp) 32).symm) (aL _) ?_;replace hB:=hB.set 2 (x:=⟨w.heap.size+1+1,Z32,23⟩) rfl (kc (digs (V % pp) 32));simp only[ab] at hB;refine hK.out _ _ ⟨(hB.get 3 (x:=⟨g1_1,c2,140⟩) rfl),(hB.get 4 (x:=⟨g1_2,c3,140⟩) rfl),trivial⟩ (fun _=>?_);clear hK K;generalize World.setRow _ _ _=v16_ at *;simp only[aq];refine aF aa ?_;go_wp2_with fail;refine bodyPost_ret (v:=.agg (kc (digs (V % pp) 32))) (results_cell_row Tryz.results91 _ _ (w.heap.size+1+1) 23 (kc (digs (V % pp) 32)) (0,0) _ rfl (hB.get 2 (x:=⟨w.heap.size+1+1,(kc (digs (V % pp) 32)),23⟩) rfl) Tryz.underlying23 rfl (by rw[Tryz.infoKey,cG])) rfl ⟨?_,hB.gr⟩;rw[aj hV]
 rfl
def xN (M U:Nat):Nat:=(xn M U % pp).toNat
theorem xN_cast (M U:Nat):((xN M U:Nat):Int)=xn M U % pp:=Int.toNat_of_nonneg (Int.emod_nonneg _ (by decide))
theorem x_at (M U:Nat) (w:World):Calls Tryz.prog 91 #[.agg (kc (digs (M:Int) 32)),.agg (kc (digs (U:Int) 32))] w (fun r w'=>r=.returned (.agg (kc (digs (xN M U:Int) 32)))∧Gr w w'):=by
 rw[xN_cast];exact x_ok M U w
end Go.Proofs.YtbkkibhhfmgojaaGreatDoor.Cv
namespace Go.Proofs.YtbkkibhhfmgojaaGreatDoor.Cv
theorem dm {a b c d:Int} (h:a % Ed.p=b % Ed.p) (k:c % Ed.p=d % Ed.p):(a+c) % Ed.p=(b+d) % Ed.p:=by
 rw[Int.add_emod,h,k,← Int.add_emod]
theorem dk {a b c d:Int} (h:a % Ed.p=b % Ed.p) (k:c % Ed.p=d % Ed.p):(a - c) % Ed.p=(b - d) % Ed.p:=by
 rw[Int.sub_emod,h,k,← Int.sub_emod]
theorem bZ {a b c d:Int} (h:a % Ed.p=b % Ed.p) (k:c % Ed.p=d % Ed.p):(a * c) % Ed.p=(b * d) % Ed.p:=by
 rw[Int.mul_emod,h,k,← Int.mul_emod]
theorem em_pow {a b:Int} (h:a % Ed.p=b % Ed.p):∀ n:Nat,(a ^ n) % Ed.p=(b ^ n) % Ed.p
 | 0=>by rw[Int.pow_zero,Int.pow_zero]
 | n+1=>by rw[Int.pow_succ,Int.pow_succ]; exact bZ (em_pow h n) h
theorem em_em (a:Int):(a % Ed.p) % Ed.p=a % Ed.p:=Int.emod_emod_of_dvd a (Int.dvd_refl _)
def lm (u:Int) (M:Nat):Nat→Ed.St
 | 0=>⟨1,0,u,1⟩
 | n+1 =>
  let s:=Ed.stp u (lm u M n) (Ed.bt M (254 - n))
  ⟨s.a % Ed.p,s.b % Ed.p,s.c % Ed.p,s.d % Ed.p⟩
def Like (s t:Ed.St):Prop:=s.a % Ed.p=t.a % Ed.p∧s.b % Ed.p=t.b % Ed.p∧s.c % Ed.p=t.c % Ed.p∧s.d % Ed.p=t.d % Ed.p
theorem like_dX {a b c d:Int} (h:a % Ed.p=b % Ed.p) (k:c % Ed.p=d % Ed.p):Ed.dX a c % Ed.p=Ed.dX b d % Ed.p :=
 bZ (bZ (dm h k) (dm h k)) (bZ (dk h k) (dk h k))
theorem like_dZ {a b c d:Int} (h:a % Ed.p=b % Ed.p) (k:c % Ed.p=d % Ed.p):Ed.dZ a c % Ed.p=Ed.dZ b d % Ed.p :=
 have e:=bZ (dm h k) (dm h k);have f:=dk e (bZ (dk h k) (dk h k))
 bZ f (dm e (bZ rfl f))
theorem like_sX {a b c d a' b' c' d':Int} (h:a % Ed.p=a' % Ed.p) (k:b % Ed.p=b' % Ed.p) (i:c % Ed.p=c' % Ed.p) (j:d % Ed.p=d' % Ed.p):Ed.sX a b c d % Ed.p=Ed.sX a' b' c' d' % Ed.p :=
 have e:=dm (bZ (dk i j) (dm h k)) (bZ (dm i j) (dk h k))
 bZ e e
theorem like_sZ (u:Int) {a b c d a' b' c' d':Int} (h:a % Ed.p=a' % Ed.p) (k:b % Ed.p=b' % Ed.p) (i:c % Ed.p=c' % Ed.p) (j:d % Ed.p=d' % Ed.p):Ed.sZ u a b c d % Ed.p=Ed.sZ u a' b' c' d' % Ed.p :=
 have e:=dk (bZ (dk i j) (dm h k)) (bZ (dm i j) (dk h k))
 bZ rfl (bZ e e)
theorem like_stp (u:Int) {s t:Ed.St} (h:Like s t) (b:Bool):Like (Ed.stp u s b) (Ed.stp u t b):=by
 obtain⟨h1,h2,h3,h4⟩:=h;cases b
 ·exact⟨like_dX h1 h2,like_dZ h1 h2,like_sX h1 h2 h3 h4,like_sZ u h1 h2 h3 h4⟩
 ·exact⟨like_sX h1 h2 h3 h4,like_sZ u h1 h2 h3 h4,like_dX h3 h4,like_dZ h3 h4⟩
theorem like_lm (u:Int) (M:Nat):∀ n,Like (Ed.lad u (Ed.hi M n)) (lm u M n)
 | 0=>⟨rfl,rfl,rfl,rfl⟩
 | n+1=>by
  have h:=like_stp u (like_lm u M n) (Ed.bt M (254 - n));rw[Ed.hi,Ed.lad_app];exact⟨h.1.trans (em_em _).symm,h.2.1.trans (em_em _).symm,h.2.2.1.trans (em_em _).symm,h.2.2.2.trans (em_em _).symm⟩
def pw:Nat→Int→Nat→Int
 | 0,_,_=>1
 | n+1,b,e=>if e % 2=1 then b * pw n (b * b % Ed.p) (e / 2) % Ed.p else pw n (b * b % Ed.p) (e / 2)
theorem pow_two (b:Int):∀ n:Nat,(b * b) ^ n=b ^ (2 * n)
 | 0=>by rw[Int.pow_zero,Nat.mul_zero,Int.pow_zero]
 | n+1=>by rw[Int.pow_succ,pow_two b n,Nat.mul_succ,Int.pow_succ,Int.pow_succ,Int.mul_assoc]
theorem pw_ok:∀ (n:Nat) (b:Int) (e:Nat),e<2 ^ n→(b ^ e) % Ed.p=pw n b e % Ed.p
 | 0,b,e,h=>by
  have:e=0:=by simpa using h
  subst this;rw[Int.pow_zero,pw]
 | n+1,b,e,h=>by
  have ih:=pw_ok n (b * b % Ed.p) (e / 2) (by rw[Nat.pow_succ] at h; omega);have h1:(b * b) ^ (e / 2) % Ed.p=pw n (b * b % Ed.p) (e / 2) % Ed.p:=(em_pow (em_em (b * b)).symm (e / 2)).trans ih;rw[pow_two] at h1;unfold pw;by_cases he:e % 2=1
  ·rw[if_pos he];have h2:b ^ e=b * b ^ (2 * (e / 2)):=by
    have:e=2 * (e / 2)+1:=by omega
    conv=>lhs; rw[this]
    rw[Int.pow_succ,Int.mul_comm]
   rw[h2,em_em];exact bZ rfl h1
  ·rw[if_neg he];have h2:2 * (e / 2)=e:=by omega
   rw[h2] at h1;exact h1
theorem like_out {s t:Ed.St} (h:Like s t) (n e:Nat) (he:e<2 ^ n):(s.a * s.b ^ e) % Ed.p=(t.a * pw n t.b e) % Ed.p :=
 bZ h.1 ((em_pow h.2.1 e).trans (pw_ok n _ _ he))
theorem p2_l5:p2<2 ^ 255:=by decide +kernel
theorem xN_pw (M U:Nat) (u:Int) (hu:(U:Int) % 57896044618658097711785492504343953926634992332820282019728792003956564819968=u) (c:Nat) (hc:cl M=c) (s:Ed.St) (hs:lm u c 255=s) (r:Nat) (hr:(s.a * pw 255 s.b p2 % Ed.p).toNat=r):xN M U=r:=by
 have h:=like_out (like_lm u c 255) 255 p2 p2_l5;rw[hs] at h;rw[← hr,← h];unfold xN xn;rw[hu,hc,pp_p]
end Go.Proofs.YtbkkibhhfmgojaaGreatDoor.Cv
namespace Go.Proofs.YtbkkibhhfmgojaaGreatDoor.Cv
open Go.RowKit
theorem public_at (M:Nat) (w:World) :
  Calls Tryz.prog 46 #[.agg (kc (digs (M:Int) 32))] w (fun r w'=>r=.returned (.agg (kc (digs (xN M 9:Int) 32)))∧Gr w w'):=by
 go_enter Tryz.func46,Tryz.ntmps46;go_upto_region 1 with fail;have hB:=(((Bl.nil w).new (kc (digs (M:Int) 32)) 23).new #[.int .u8 0,.int .u8 0,.int .u8 0,.int .u8 0,.int .u8 0,.int .u8 0,.int .u8 0,.int .u8 0,.int .u8 0,.int .u8 0,.int .u8 0,.int .u8 0,.int .u8 0,.int .u8 0,.int .u8 0,.int .u8 0,.int .u8 0,.int .u8 0,.int .u8 0,.int .u8 0,.int .u8 0,.int .u8 0,.int .u8 0,.int .u8 0,.int .u8 0,.int .u8 0,.int .u8 0,.int .u8 0,.int .u8 0,.int .u8 0,.int .u8 0,.int .u8 0] 23);simp only[aB,ac] at hB;generalize World.alloc _ _=v1_ at *;replace hB:Bl w [⟨w.heap.size,(kc (digs (M:Int) 32)),23⟩,⟨w.heap.size+1,Z32,23⟩] v1_:=hB;refine ag ?_;refine ak (.agg (kc (digs (M:Int) 32))) aa (ax _ 23 (.tmp 1) rfl w.heap.size aa (kc (digs (M:Int) 32)) 23 _ (hB.get 0 (x:=⟨w.heap.size,(kc (digs (M:Int) 32)),23⟩) rfl) Tryz.underlying23 rfl (by rw[Tryz.infoKey,cG])) ?_;simp only[aq]
 refine ak (.agg (kc (digs ((9:Nat):Int) 32))) aa aa ?_;simp only[aq];refine av 91 #[.agg (kc (digs (M:Int) 32)),.agg (kc (digs ((9:Nat):Int) 32))] aa aa ((x_at M (9:Nat) _).mono ?_);rintro r v2_ ⟨rfl,hg⟩;refine⟨_,rfl,?_⟩;replace hB:=hB.more hg;clear hg;simp only[aq];refine aA 23 (.tmp 2) (.tmp 5) (w.heap.size+1) (kc (digs (xN M (9:Nat):Int) 32)) 23 Z32 aa rfl aa aa (hB.get 1 (x:=⟨w.heap.size+1,Z32,23⟩) rfl) (by rw[Tryz.infoKey,cG]) (Z32_size.trans (cG (xN M (9:Nat):Int) 32).symm) (aL _) ?_;replace hB:=hB.set 1 (x:=⟨w.heap.size+1,Z32,23⟩) rfl (kc (digs (xN M (9:Nat):Int) 32));simp only[ab] at hB;generalize World.setRow _ _ _=v3_ at *;simp only[aq];refine ai ?_;go_wp2_with fail
 exact bodyPost_ret (v:=.agg (kc (digs (xN M (9:Nat):Int) 32))) (results_cell_row Tryz.results46 _ _ (w.heap.size+1) 23 (kc (digs (xN M (9:Nat):Int) 32)) (0,0) _ rfl (hB.get 1 (x:=⟨w.heap.size+1,(kc (digs (xN M (9:Nat):Int) 32)),23⟩) rfl) Tryz.underlying23 rfl (by rw[Tryz.infoKey,cG])) rfl ⟨rfl,hB.gr⟩
theorem xN_lt (M U:Nat):(xN M U:Int)<Ed.p:=by
 rw[xN_cast,pp_p];exact Int.emod_lt_of_pos _ (by decide)
theorem x_n (M U:Nat) (w:World):Calls Tryz.prog 91 #[.agg (kc (digs (M:Int) 32)),.agg (kc (digs (U:Int) 32))] w (fun r w'=>∃ n:Nat,r=.returned (.agg (kc (digs (n:Int) 32)))∧Hid (n=xN M U)∧Gr w w') :=
 (x_at M U w).mono fun _ _ h=>⟨_,h.1,rfl,h.2⟩
theorem or8n (a b:Nat) (ha:a<256) (hb:b<256):bits .or .u8 (a:Int) (b:Int)=((a ||| b:Nat):Int):=by
 show IntKind.u8.wrap ((BitVec.ofInt 8 (a:Int) ||| BitVec.ofInt 8 (b:Int)).toNat:Int)=_;have e:(BitVec.ofInt 8 (a:Int) ||| BitVec.ofInt 8 (b:Int)).toNat=a ||| b:=by
  rw[BitVec.toNat_or,BitVec.toNat_ofInt,BitVec.toNat_ofInt];have h1:((a:Int) % ((2 ^ 8:Nat):Int)).toNat=a:=by omega
  have h2:((b:Int) % ((2 ^ 8:Nat):Int)).toNat=b:=by omega
  rw[h1,h2]
 have hl:a ||| b<256:=Nat.or_lt_two_pow (n:=8) ha hb;rw[e,IntKind.wrap_u8];omega
theorem or8z (u x:Int) (hu:0≤u∧u<256) (hx:0≤x∧x<256):(0≤bits .or .u8 u x∧bits .or .u8 u x<256)∧(bits .or .u8 u x=0 ↔ u=0∧x=0):=by
 obtain⟨U,rfl⟩:=Int.eq_ofNat_of_zero_le hu.1;obtain⟨X,rfl⟩:=Int.eq_ofNat_of_zero_le hx.1;have hl:U ||| X<256:=Nat.or_lt_two_pow (n:=8) (by omega) (by omega);have l1:=Nat.left_le_or (n:=U) (m:=X);have l2:=Nat.right_le_or (n:=U) (m:=X);rw[or8n U X (by omega) (by omega)];refine⟨by omega,⟨fun h=>by omega,?_⟩⟩;rintro⟨h1,h2⟩;obtain rfl:U=0:=by omega
 obtain rfl:X=0:=by omega
 rfl
def ZI (n:Nat) (k:Nat) (u:Int):Prop:=(0≤u∧u<256)∧(u=0 ↔ ∀ j,j<k→(n:Int) / 256 ^ j % 256=0)
theorem ZI.step {n k:Nat} {u:Int} (h:ZI n k u):ZI n (k+1) (bits .or .u8 u ((n:Int) / 256 ^ k % 256)):=by
 have h1:=or8z u ((n:Int) / 256 ^ k % 256) h.1 (by omega);refine⟨h1.1,h1.2.trans ?_⟩;rw[h.2];constructor
 ·rintro⟨h2,h3⟩ j hj;by_cases e:j=k
  ·rw[e]; exact h3
  ·exact h2 j (by omega)
 ·intro h2;exact⟨fun j hj=>h2 j (by omega),h2 k (by omega)⟩
theorem all_zero (n:Nat) (hn:n<115792089237316195423570985008687907853269984665640564039457584007913129639936):(∀ j,j<32→(n:Int) / 256 ^ j % 256=0) ↔ n=0:=by
 constructor
 ·intro h;have e:digs (n:Int) 32=digs 0 32:=by
   unfold digs;apply List.map_congr_left;intro j hj;have hj':j<32:=List.mem_range.1 hj;rw[if_pos hj',if_pos hj',h j hj'];simp
  have:=digs_inj (n:Int) 0 ⟨by omega,by omega⟩ ⟨by omega,by omega⟩ e;omega
 ·rintro rfl j _;simp
theorem zero32_ok (n g:Nat) (hn:n<115792089237316195423570985008687907853269984665640564039457584007913129639936) (w:World) (hg:w.heap[g]?=some (.cells (kc (digs (n:Int) 32)) 23 (0,0))) :
  Calls Tryz.prog 73 #[.slice (some ⟨g,0,none⟩) 32 32] w (fun r w'=>r=.returned (.bool (decide (n=0)))∧w'=w):=by
 replace hn:=ao hn;replace hg:=ao hg;have hZ:Hid (ZI n 0 0):=ao ⟨by omega,fun _ j hj=>by omega,fun _=>rfl⟩;go_enter Tryz.func73,Tryz.ntmps73;go_wp2_with fail
 go_loopw [3,8] (fun x i wr=>∃ (k:Nat) (u:Int),k≤32∧i=.int .i64 k∧x=.int .u8 u∧Hid (ZI n k u)∧wr=w) (fun _ i _=>32 - (intOf i).toNat)
 case atStart=>exact⟨0,0,Nat.zero_le _,rfl,rfl,hZ,rfl⟩
 case round =>
 clear hZ;obtain⟨k,u,hk,rfl,rfl,hZ,rfl⟩:=hrel;by_cases hkl:k<32
 ·have c1:=key_cell (KB.of (aj hg)) k hkl;have hZ2:=ao (aj hZ).step;have kI:(k:Int)<32:=by omega
  generalize (n:Int) / 256 ^ k % 256=x at *;go_wp2_with fail;go_roundw
  case rel=>exact⟨k+1,_,by omega,by go_num,rfl,hZ2,trivial⟩
  case measure=>simp[intOf]; omega
 ·have e:k=32:=by omega
  subst e;have hu:=(aj hZ).2.trans (all_zero n (aj hn));have hb:(u == 0)=decide (n=0):=by
   rw[Bool.eq_iff_iff];simpa using hu
  replace hb:=ao hb;clear hu;go_wp2_with fail;refine bodyPost_ret (v:=.bool (decide (n=0))) ?_ rfl ⟨rfl,rfl⟩;have hb2:=aj hb;simp[results,Tryz.results73,go_sem,← hb2]
theorem bO {P:Program} {fn:Func} {p q:Tmp} {ty:TypeId} (h:fn.results=#[.cell p ty,.tmp q]) (tmps:Array Value) (w:World) (g:Nat) (t:TypeId) (cs:Array Value) (fr:Nat × Nat) (d:TypeDesc)
  (hp:tmps.getD p undef=.pointer (some ⟨g,0,none⟩)) (v:Value) (hq:tmps.getD q undef=v) (hg:w.heap[g]?=some (.cells cs t fr))
  (hu:P.underlying ty=some d) (hd:(match d with | .struct _ | .array _ _=>true | _=>false)=true) (hi:(P.info? ty).map (·.size)=some cs.size) :
  (results fn tmps).run P w=.ok (.tuple #[.agg cs,v]) w:=by
 have hp':tmps[p]?.getD undef=.pointer (some ⟨g,0,none⟩):=by simpa using hp
 have hq':tmps[q]?.getD undef=v:=by simpa using hq
 simp[results,h,hp',hq',asAddr,run_loadVar_row w g t ty cs fr d hg hu hd hi]
theorem xN_256 (M U:Nat):xN M U<115792089237316195423570985008687907853269984665640564039457584007913129639936:=by
 have:=xN_lt M U;unfold Ed.p at this;omega
theorem agree_n (M U:Nat) (h:Hid (xN M U≠0)) (w:World) :
  Calls Tryz.prog 81 #[.agg (kc (digs (M:Int) 32)),.agg (kc (digs (U:Int) 32))] w (fun r w'=>∃ n:Nat,r=.returned (.tuple #[.agg (kc (digs (n:Int) 32)),.int .i64 0])∧Hid (n=xN M U)∧Gr w w'):=by
 go_enter Tryz.func81,Tryz.ntmps81;go_upto_region 1 with fail;have hB:=((((Bl.nil w).new (kc (digs (M:Int) 32)) 23).new (kc (digs (U:Int) 32)) 23).new #[.int .u8 0,.int .u8 0,.int .u8 0,.int .u8 0,.int .u8 0,.int .u8 0,.int .u8 0,.int .u8 0,.int .u8 0,.int .u8 0,.int .u8 0,.int .u8 0,.int .u8 0,.int .u8 0,.int .u8 0,.int .u8 0,.int .u8 0,.int .u8 0,.int .u8 0,.int .u8 0,.int .u8 0,.int .u8 0,.int .u8 0,.int .u8 0,.int .u8 0,.int .u8 0,.int .u8 0,.int .u8 0,.int .u8 0,.int .u8 0,.int .u8 0,.int .u8 0] 23);simp only[aB,ac] at hB;generalize World.alloc _ _=v1_ at *;replace hB:Bl w [⟨w.heap.size,(kc (digs (M:Int) 32)),23⟩,⟨w.heap.size+1,(kc (digs (U:Int) 32)),23⟩,⟨w.heap.size+1+1,Z32,23⟩] v1_:=hB;refine ag ?_
 refine ak (.agg (kc (digs (M:Int) 32))) aa (ax _ 23 (.tmp 2) rfl w.heap.size aa (kc (digs (M:Int) 32)) 23 _ (hB.get 0 (x:=⟨w.heap.size,(kc (digs (M:Int) 32)),23⟩) rfl) Tryz.underlying23 rfl (by rw[Tryz.infoKey,cG])) ?_;simp only[aq];refine ak (.agg (kc (digs (U:Int) 32))) aa (ax _ 23 (.tmp 3) rfl (w.heap.size+1) aa (kc (digs (U:Int) 32)) 23 _ (hB.get 1 (x:=⟨w.heap.size+1,(kc (digs (U:Int) 32)),23⟩) rfl) Tryz.underlying23 rfl (by rw[Tryz.infoKey,cG])) ?_;simp only[aq];refine av 91 #[.agg (kc (digs (M:Int) 32)),.agg (kc (digs (U:Int) 32))] aa aa ((x_n M U _).mono ?_);rintro r v2_ ⟨n1,rfl,hn1,hg⟩;refine⟨_,rfl,?_⟩;replace hB:=hB.more hg;clear hg;simp only[aq];refine wpList_step fun K hK=>?_;replace hK:=ao hK;go_simp;refine aj hK _ _ ?_;clear hK K
 replace hB:=hB.new #[.int .u8 0,.int .u8 0,.int .u8 0,.int .u8 0,.int .u8 0,.int .u8 0,.int .u8 0,.int .u8 0,.int .u8 0,.int .u8 0,.int .u8 0,.int .u8 0,.int .u8 0,.int .u8 0,.int .u8 0,.int .u8 0,.int .u8 0,.int .u8 0,.int .u8 0,.int .u8 0,.int .u8 0,.int .u8 0,.int .u8 0,.int .u8 0,.int .u8 0,.int .u8 0,.int .u8 0,.int .u8 0,.int .u8 0,.int .u8 0,.int .u8 0,.int .u8 0] 23;simp only[List.cons_append,List.nil_append] at hB;generalize v2_.heap.size=g1_3 at *;generalize World.alloc _ _=v3_ at *;replace hB:Bl w [⟨w.heap.size,(kc (digs (M:Int) 32)),23⟩,⟨w.heap.size+1,(kc (digs (U:Int) 32)),23⟩,⟨w.heap.size+1+1,Z32,23⟩,⟨g1_3,Z32,23⟩] v3_:=hB;refine aA 23 (.tmp 6) (.tmp 9) g1_3 (kc (digs (n1:Int) 32)) 23 Z32 aa rfl aa aa (hB.get 3 (x:=⟨g1_3,Z32,23⟩) rfl) (by rw[Tryz.infoKey,cG]) (Z32_size.trans (cG (n1:Int) 32).symm) (aL _) ?_
 replace hB:=hB.set 3 (x:=⟨g1_3,Z32,23⟩) rfl (kc (digs (n1:Int) 32));simp only[ab] at hB;generalize World.setRow _ _ _=v4_ at *;simp only[aq];refine ai ?_;have hnz:decide (n1=0)=false:=by rw[aj hn1]; simpa using aj h
 have hlt:n1<115792089237316195423570985008687907853269984665640564039457584007913129639936:=by rw[aj hn1]; exact xN_256 M U
 go_upto_region 2 with fail;refine ag ?_;refine ak (.slice (some ⟨g1_3,0,none⟩) 32 32) aa aa ?_;simp only[aq];refine av 73 #[.slice (some ⟨g1_3,0,none⟩) 32 32] aa aa ((zero32_ok n1 g1_3 hlt _ (hB.get 3 (x:=⟨g1_3,(kc (digs (n1:Int) 32)),23⟩) rfl)).mono ?_);rintro r vz_ ⟨rfl,rfl⟩;refine⟨_,rfl,?_⟩;rw[hnz];simp only[aq];refine ai ?_;go_upto_region 4 with fail;refine ag ?_;refine ak (.agg (kc (digs (n1:Int) 32))) aa (ax _ 23 (.tmp 6) rfl g1_3 aa (kc (digs (n1:Int) 32)) 23 _ (hB.get 3 (x:=⟨g1_3,(kc (digs (n1:Int) 32)),23⟩) rfl) Tryz.underlying23 rfl (by rw[Tryz.infoKey,cG])) ?_;simp only[aq];refine aA 23 (.tmp 4) (.tmp 13) (w.heap.size+1+1) (kc (digs (n1:Int) 32)) 23 Z32 aa rfl aa aa (hB.get 2 (x:=⟨w.heap.size+1+1,Z32,23⟩) rfl) (by rw[Tryz.infoKey,cG]) (Z32_size.trans (cG n1 32).symm) (aL _) ?_;replace hB:=hB.set 2 (x:=⟨w.heap.size+1+1,Z32,23⟩) rfl (kc (digs (n1:Int) 32));simp only[ab] at hB
 generalize World.setRow _ _ _=v5_ at *;simp only[aq];refine wpList_step fun K hK=>?_;replace hK:=ao hK;go_simp;refine aj hK _ _ ?_;clear hK K;refine ai ?_;go_wp2_with fail;exact bodyPost_ret (v:=.tuple #[.agg (kc (digs (n1:Int) 32)),.int .i64 0]) (bO Tryz.results81 _ _ (w.heap.size+1+1) 23 (kc (digs (n1:Int) 32)) (0,0) _ rfl (.int .i64 0) rfl (hB.get 2 (x:=⟨w.heap.size+1+1,(kc (digs (n1:Int) 32)),23⟩) rfl) Tryz.underlying23 rfl (by rw[Tryz.infoKey,cG])) rfl ⟨n1,rfl,hn1,hB.gr⟩
theorem agree_low (M U:Nat) (h:Hid (xN M U=0)) (w:World) :
  Calls Tryz.prog 81 #[.agg (kc (digs (M:Int) 32)),.agg (kc (digs (U:Int) 32))] w (fun r w'=>r=.returned (.tuple #[.agg (kc (digs (0:Int) 32)),.int .i64 130])∧Gr w w'):=by
 go_enter Tryz.func81,Tryz.ntmps81;go_upto_region 1 with fail;have hB:=((((Bl.nil w).new (kc (digs (M:Int) 32)) 23).new (kc (digs (U:Int) 32)) 23).new #[.int .u8 0,.int .u8 0,.int .u8 0,.int .u8 0,.int .u8 0,.int .u8 0,.int .u8 0,.int .u8 0,.int .u8 0,.int .u8 0,.int .u8 0,.int .u8 0,.int .u8 0,.int .u8 0,.int .u8 0,.int .u8 0,.int .u8 0,.int .u8 0,.int .u8 0,.int .u8 0,.int .u8 0,.int .u8 0,.int .u8 0,.int .u8 0,.int .u8 0,.int .u8 0,.int .u8 0,.int .u8 0,.int .u8 0,.int .u8 0,.int .u8 0,.int .u8 0] 23);simp only[aB,ac] at hB;generalize World.alloc _ _=v1_ at *;replace hB:Bl w [⟨w.heap.size,(kc (digs (M:Int) 32)),23⟩,⟨w.heap.size+1,(kc (digs (U:Int) 32)),23⟩,⟨w.heap.size+1+1,Z32,23⟩] v1_:=hB;refine ag ?_
 refine ak (.agg (kc (digs (M:Int) 32))) aa (ax _ 23 (.tmp 2) rfl w.heap.size aa (kc (digs (M:Int) 32)) 23 _ (hB.get 0 (x:=⟨w.heap.size,(kc (digs (M:Int) 32)),23⟩) rfl) Tryz.underlying23 rfl (by rw[Tryz.infoKey,cG])) ?_;simp only[aq];refine ak (.agg (kc (digs (U:Int) 32))) aa (ax _ 23 (.tmp 3) rfl (w.heap.size+1) aa (kc (digs (U:Int) 32)) 23 _ (hB.get 1 (x:=⟨w.heap.size+1,(kc (digs (U:Int) 32)),23⟩) rfl) Tryz.underlying23 rfl (by rw[Tryz.infoKey,cG])) ?_;simp only[aq];refine av 91 #[.agg (kc (digs (M:Int) 32)),.agg (kc (digs (U:Int) 32))] aa aa ((x_n M U _).mono ?_);rintro r v2_ ⟨n1,rfl,hn1,hg⟩;refine⟨_,rfl,?_⟩;replace hB:=hB.more hg;clear hg;simp only[aq];refine wpList_step fun K hK=>?_;replace hK:=ao hK;go_simp;refine aj hK _ _ ?_;clear hK K
 replace hB:=hB.new #[.int .u8 0,.int .u8 0,.int .u8 0,.int .u8 0,.int .u8 0,.int .u8 0,.int .u8 0,.int .u8 0,.int .u8 0,.int .u8 0,.int .u8 0,.int .u8 0,.int .u8 0,.int .u8 0,.int .u8 0,.int .u8 0,.int .u8 0,.int .u8 0,.int .u8 0,.int .u8 0,.int .u8 0,.int .u8 0,.int .u8 0,.int .u8 0,.int .u8 0,.int .u8 0,.int .u8 0,.int .u8 0,.int .u8 0,.int .u8 0,.int .u8 0,.int .u8 0] 23;simp only[List.cons_append,List.nil_append] at hB;generalize v2_.heap.size=g1_3 at *;generalize World.alloc _ _=v3_ at *;replace hB:Bl w [⟨w.heap.size,(kc (digs (M:Int) 32)),23⟩,⟨w.heap.size+1,(kc (digs (U:Int) 32)),23⟩,⟨w.heap.size+1+1,Z32,23⟩,⟨g1_3,Z32,23⟩] v3_:=hB;refine aA 23 (.tmp 6) (.tmp 9) g1_3 (kc (digs (n1:Int) 32)) 23 Z32 aa rfl aa aa (hB.get 3 (x:=⟨g1_3,Z32,23⟩) rfl) (by rw[Tryz.infoKey,cG]) (Z32_size.trans (cG (n1:Int) 32).symm) (aL _) ?_
 replace hB:=hB.set 3 (x:=⟨g1_3,Z32,23⟩) rfl (kc (digs (n1:Int) 32));simp only[ab] at hB;generalize World.setRow _ _ _=v4_ at *;simp only[aq];refine ai ?_;have hnz:decide (n1=0)=true:=by rw[aj hn1]; simpa using aj h
 have hlt:n1<115792089237316195423570985008687907853269984665640564039457584007913129639936:=by rw[aj hn1]; exact xN_256 M U
 go_upto_region 2 with fail;refine ag ?_;refine ak (.slice (some ⟨g1_3,0,none⟩) 32 32) aa aa ?_;simp only[aq];refine av 73 #[.slice (some ⟨g1_3,0,none⟩) 32 32] aa aa ((zero32_ok n1 g1_3 hlt _ (hB.get 3 (x:=⟨g1_3,(kc (digs (n1:Int) 32)),23⟩) rfl)).mono ?_);rintro r vz_ ⟨rfl,rfl⟩;refine⟨_,rfl,?_⟩;rw[hnz];simp only[aq];refine ai ?_;go_upto_region 3 with fail;refine ag ?_;refine ak (.agg (kc (digs (0:Int) 32))) aa aa ?_;simp only[aq];refine aA 23 (.tmp 4) (.tmp 12) (w.heap.size+1+1) (kc (digs (0:Int) 32)) 23 Z32 aa rfl aa aa (hB.get 2 (x:=⟨w.heap.size+1+1,Z32,23⟩) rfl) (by rw[Tryz.infoKey,cG]) (Z32_size.trans (cG 0 32).symm) (aL _) ?_;replace hB:=hB.set 2 (x:=⟨w.heap.size+1+1,Z32,23⟩) rfl (kc (digs (0:Int) 32));simp only[ab] at hB;generalize World.setRow _ _ _=v5_ at *;simp only[aq];refine wpList_step fun K hK=>?_;replace hK:=ao hK;go_simp;refine aj hK _ _ ?_;clear hK K;refine ai ?_
 go_wp2_with fail;exact bodyPost_ret (v:=.tuple #[.agg (kc (digs (0:Int) 32)),.int .i64 130]) (bO Tryz.results81 _ _ (w.heap.size+1+1) 23 (kc (digs (0:Int) 32)) (0,0) _ rfl (.int .i64 130) rfl (hB.get 2 (x:=⟨w.heap.size+1+1,(kc (digs (0:Int) 32)),23⟩) rfl) Tryz.underlying23 rfl (by rw[Tryz.infoKey,cG])) rfl ⟨rfl,hB.gr⟩
end Go.Proofs.YtbkkibhhfmgojaaGreatDoor.Cv
namespace Go.Proofs.YtbkkibhhfmgojaaGreatDoor
open Go.RowKit
theorem index_kc (l:List Int) (i:Nat) (hi:i<32) (hl:l.length=32) (w:World):(Instr.index 23 (.agg (kc l)) (.int .i64 i)).run Tryz.prog w=.ok (.int .u8 (l.getD i 0)) w:=by
 have he:(kc l)[i]?=some (.int .u8 (l.getD i 0)):=by simp[kc,List.getD,List.getElem?_eq_getElem (show i<l.length by omega)]
 simp[Instr.index,run_underlying Tryz.underlying23,asIntOf,hi,go_sem];rw[he];simp
theorem exec_kix {a:Act} {o:Oper} (w:World) (x y:Operand) (ho:o.op=.index 23 x y) (K:List Int) (hK:K.length=32) (i:Nat) (hx:a.eval x=.agg (kc K)) (hy:a.eval y=.int .i64 (i:Int)) (hi:i<32) :
  (execOp a.eval o).run Tryz.prog w=.ok (.value (.int .u8 (K.getD i 0))) w:=by
 have h:=index_kc K i hi hK w;unfold execOp;simp only[ho,hx,hy,Sem.run_bind,h,Result.andThen_ok,Sem.run_pure]
theorem exec_kat {a:Act} {o:Oper} (w:World) (x y:Operand) (ho:o.op=.indexAddr 23 x y) (g i:Nat) (hx:a.eval x=.pointer (some ⟨g,0,none⟩)) (hy:a.eval y=.int .i64 (i:Int)) (hi:i<32) :
  (execOp a.eval o).run Tryz.prog w=.ok (.value (.pointer (some ⟨g,i,none⟩))) w:=by
 have h1:(i:Int)<32:=by omega
 unfold execOp;simp only[ho,hx,hy];go_simp
def Bod (b:Bool) (w:World) (r:Ending) (w':World):Prop:=r=.returned (.bool b)∧Gr w w'
theorem less_ok (A B:List Int) (hA:A.length=32) (hB0:B.length=32) (w:World):Calls Tryz.prog 113 #[.agg (kc A),.agg (kc B)] w (Bod (ltL A B) w):=by
 obtain⟨T,hT⟩:∃ T,T=Bod (ltL A B) w:=⟨_,rfl⟩;rw[← hT];replace hT:=ao hT;obtain⟨AA,hAA⟩:∃ KK,KK=kc A:=⟨_,rfl⟩;obtain⟨BB,hBB⟩:∃ KK,KK=kc B:=⟨_,rfl⟩;rw[← hAA,← hBB];replace hAA:=ao hAA;replace hBB:=ao hBB;go_enter Tryz.func113,Tryz.ntmps113;go_upto_region 1 with fail;have hB:=((Bl.nil w).new AA 23).new BB 23;simp only[ac,aB] at hB;generalize World.alloc _ _=u at *;rw[aj hAA,aj hBB] at hB;replace hB:Bl w [⟨w.heap.size,kc A,23⟩,⟨w.heap.size+1,kc B,23⟩] u:=hB;refine ag ?_;refine ak (.agg (kc A)) aa (ax _ 23 (.tmp 2) rfl (w.heap.size) aa (kc A) 23 _ (hB.get 0 (x:=⟨w.heap.size,kc A,23⟩) rfl) Tryz.underlying23 rfl (by rw[Tryz.infoKey,au,hA])) ?_;simp only[aq];refine ak (.int .i64 0) aa aa ?_;simp only[aq];refine ai ?_;replace hB:=ao hB;go_wp2_with fail
 go_loopw [8] (fun i wr=>∃ (j:Nat),j≤32∧i=.int .i64 (j:Int)∧Hid (∀ k,k<j→A.getD k 0=B.getD k 0)∧wr=u) (fun i _=>32 - (intOf i).toNat)
 case atStart=>exact⟨0,by omega,rfl,fun k hk=>absurd hk (by omega),rfl⟩
 case round =>
 obtain⟨j,hj,rfl,hE,rfl⟩:=hrel;by_cases hlt:j<32
 ·have jI:(j:Int)<32:=by omega
  obtain⟨p,hp⟩:∃ c,c=A.getD j 0:=⟨_,rfl⟩;obtain⟨q,hq⟩:∃ c,c=B.getD j 0:=⟨_,rfl⟩;have hcq:=bJ ((aj hB).get 1 (x:=⟨w.heap.size+1,kc B,23⟩) rfl) j (by omega);rw[← hq] at hcq;replace hp:=ao hp; replace hq:=ao hq; replace hcq:=ao hcq;go_upto_region 3 with fail;refine ag ?_;refine ak (.int .i64 (j:Int)) aa aa ?_;simp only[aq];refine ak (.int .u8 p) aa (by rw[aj hp]; exact exec_kix _ (.tmp 7) (.tmp 8) rfl A hA j (by first | rfl | (rw[← aj hAA]; kernel_rfl)) aa hlt) ?_;simp only[aq]
  (refine af fun K hK=>?_;go_simp;refine aj hK _ _ ?_;clear hK K)
  (refine af fun K hK=>?_;go_simp;refine aj hK _ _ ?_;clear hK K)
  refine ai ?_;go_upto_region 4 with fail;by_cases hpq:p=q
  ·replace hpq:=ao hpq;refine ag ?_;refine ak (.int .u8 p) aa aa ?_;simp only[aq];refine ak (.int .i64 (j:Int)) aa aa ?_;simp only[aq];refine ak (.pointer (some ⟨w.heap.size+1,j,none⟩)) aa (exec_kat _ (.tmp 3) (.tmp 13) rfl (w.heap.size+1) j aa aa hlt) ?_;simp only[aq];refine ak (.int .u8 q) aa (exec_u8 _ (.tmp 14) rfl (w.heap.size+1) j aa q (aj hcq)) ?_;simp only[aq];refine ak (.bool false) aa (by have h:=aj hpq; go_simp) ?_;simp only[aq];refine ai ?_;have hE2:Hid (∀ k,k<j+1→A.getD k 0=B.getD k 0):=fun k hk=>by
    by_cases e:k=j
    ·rw[e,← aj hp,← aj hq]; exact aj hpq
    ·exact aj hE k (by omega)
   go_wp2_with fail;go_roundw
   case rel=>exact⟨j+1,by omega,by simp,hE2,trivial⟩
   case measure=>simp[intOf]; omega
  ·have hlt2:ltL A B=decide (p<q):=by rw[aj hp,aj hq]; exact ltL_at A B j (aj hE) (by omega) (by omega) (by rw[← aj hp,← aj hq]; exact hpq)
   obtain⟨bb,hbb⟩:∃ b,b=decide (p<q):=⟨_,rfl⟩;rw[hlt2,← hbb] at hT;replace hpq:=ao hpq; replace hbb:=ao hbb;clear hlt2;refine ag ?_;refine ak (.int .u8 p) aa aa ?_;simp only[aq];refine ak (.int .i64 (j:Int)) aa aa ?_;simp only[aq];refine ak (.pointer (some ⟨w.heap.size+1,j,none⟩)) aa (exec_kat _ (.tmp 3) (.tmp 13) rfl (w.heap.size+1) j aa aa hlt) ?_;simp only[aq];refine ak (.int .u8 q) aa (exec_u8 _ (.tmp 14) rfl (w.heap.size+1) j aa q (aj hcq)) ?_;simp only[aq];refine ak (.bool true) aa (by have h:=aj hpq; go_simp) ?_;simp only[aq];refine ai ?_;go_upto_region 5 with fail;refine ag ?_;refine ak (.int .u8 p) aa aa ?_;simp only[aq];refine ak (.int .i64 (j:Int)) aa aa ?_;simp only[aq];refine ak (.pointer (some ⟨w.heap.size+1,j,none⟩)) aa (exec_kat _ (.tmp 3) (.tmp 18) rfl (w.heap.size+1) j aa aa hlt) ?_;simp only[aq]
   refine ak (.int .u8 q) aa (exec_u8 _ (.tmp 19) rfl (w.heap.size+1) j aa q (aj hcq)) ?_;simp only[aq];refine ak (.bool bb) aa (by rw[aj hbb]; go_simp) ?_;simp only[aq]
   (refine af fun K hK=>?_;go_simp;refine aj hK _ _ ?_;clear hK K)
   refine ai ?_;have hZ:Hid (T (.returned (.bool bb)) wr):=by
    rw[aj hT];exact⟨rfl,(aj hB).gr⟩
   go_wp2_with fail;exact aj hZ
 ·have e:j=32:=by omega
  subst e;have hab:A=B:=list_of_getD (by omega) fun k hk=>aj hE k (by omega);rw[hab,ltL_irr] at hT;clear hlt hab;have hZ:Hid (T (.returned (.bool false)) wr):=by
   rw[aj hT];exact⟨rfl,(aj hB).gr⟩
  go_wp2_with fail;exact aj hZ
theorem Z32_len:Z32.length=32:=rfl
theorem cv {P:Program} {ops:Array Oper} {Q:Exit→Act→World→Prop} {a:Act} {w:World} {o:Oper} {K:Act→World→Prop} (ty:TypeId) (x y:Operand) (g:Nat) (c:Array Value) (t:TypeId) (old:Array Value) (hw:Region.wanted o (yielded ops a.tmps)=true) (ho:o.op=.store ty x y)
  (hx:a.eval x=.pointer (some ⟨g,0,none⟩)) (hy:a.eval y=.agg c) (hg:w.heap[g]?=some (.cells old t (0,0))) (hi:(P.info? ty).map (·.size)=some c.size) (hold:old.size=c.size) (h1:c.all (·.oneCell')=true)
  (h:K (a.put o.dst undef) (w.setRow g c)):if Region.wanted o (yielded ops a.tmps)=true then Oper.wp P o a w K Q else K (a.put o.dst undef) w:=by
 rw[if_pos hw];exact wp_store_row ty x y ho g c hx hy t old hg hi hold h1 h
theorem bO {P:Program} {fn:Func} {p q:Tmp} {ty:TypeId} (h:fn.results=#[.cell p ty,.tmp q]) (tmps:Array Value) (w:World) (g:Nat) (t:TypeId) (cs:Array Value) (fr:Nat × Nat) (d:TypeDesc)
  (hp:tmps.getD p undef=.pointer (some ⟨g,0,none⟩)) (v:Value) (hq:tmps.getD q undef=v) (hg:w.heap[g]?=some (.cells cs t fr))
  (hu:P.underlying ty=some d) (hd:(match d with | .struct _ | .array _ _=>true | _=>false)=true) (hi:(P.info? ty).map (·.size)=some cs.size) :
  (results fn tmps).run P w=.ok (.tuple #[.agg cs,v]) w:=by
 have hp':tmps[p]?.getD undef=.pointer (some ⟨g,0,none⟩):=by simpa using hp
 have hq':tmps[q]?.getD undef=v:=by simpa using hq
 simp[results,h,hp',hq',asAddr,run_loadVar_row w g t ty cs fr d hg hu hd hi]
def bE (K:List Int) (f:Bool):Array Value:=(K.map (Value.int .u8)++[Value.bool f]).toArray
theorem bW (K:List Int) (f:Bool):(bE K f).size=K.length+1:=by unfold bE; simp
theorem pairv_one (K:List Int) (f:Bool):(bE K f).all (·.oneCell')=true:=by unfold bE; simp[Value.oneCell']
theorem Tryz.infoPair:(Tryz.prog.info? 25).map (·.size)=some 33:=by kernel_rfl
theorem digs_isK (n:Int):IsK (Cv.digs n 32):=⟨Cv.digs_len _ _,fun x hx=>Cv.digs_by n 32 x hx⟩
theorem kn_ex (l:List Int) (h:IsK l):∃ n:Nat,n<115792089237316195423570985008687907853269984665640564039457584007913129639936∧l=Cv.digs (n:Int) 32:=by
 obtain⟨n,hn,e⟩:=Cv.key_num l h.1 h.2;obtain⟨k,rfl⟩:=Int.eq_ofNat_of_zero_le hn.1;exact⟨k,by omega,e⟩
open Classical in
noncomputable def kn (l:List Int):Nat:=if h:IsK l then Classical.choose (kn_ex l h) else 0
theorem dG {l:List Int} (h:IsK l):l=Cv.digs (kn l:Int) 32:=by
 unfold kn;rw[dif_pos h];exact(Classical.choose_spec (kn_ex l h)).2
theorem kn_lt {l:List Int} (h:IsK l):kn l<115792089237316195423570985008687907853269984665640564039457584007913129639936:=by
 unfold kn;rw[dif_pos h];exact(Classical.choose_spec (kn_ex l h)).1
theorem kn_of (n:Nat) (h:n<115792089237316195423570985008687907853269984665640564039457584007913129639936):kn (Cv.digs (n:Int) 32)=n:=by
 have h1:=dG (digs_isK (n:Int));have h2:=kn_lt (digs_isK (n:Int));have:=Cv.digs_inj (n:Int) (kn (Cv.digs (n:Int) 32):Int) ⟨by omega,by omega⟩ ⟨by omega,by omega⟩ h1;omega
noncomputable def agL (s u:List Int):List Int:=Cv.digs (Cv.xN (kn s) (kn u):Int) 32
noncomputable def df (s:List Int):List Int:=Cv.digs (Cv.xN (kn s) 9:Int) 32
def NLow (s u:List Int):Prop:=Cv.xN (kn s) (kn u)≠0
theorem agL_isK (s u:List Int):IsK (agL s u):=digs_isK _
theorem dq (s:List Int):IsK (df s):=digs_isK _
theorem agree_yes (s u:List Int) (hs:IsK s) (hu:IsK u) (h:NLow s u) (w:World) :
  Calls Tryz.prog 81 #[.agg (kc s),.agg (kc u)] w (fun r w'=>r=.returned (.tuple #[.agg (kc (agL s u)),.int .i64 0])∧Gr w w'):=by
 have h0:Hid (Cv.xN (kn s) (kn u)≠0):=by unfold NLow at h; exact ao h
 have h1:=Cv.agree_n (kn s) (kn u) h0 w;rw[← dG hs,← dG hu] at h1;refine Calls.mono h1 ?_;rintro r w' ⟨n,rfl,hn,hg⟩;refine⟨?_,hg⟩;have e:Cv.kc (Cv.digs (n:Int) 32)=kc (agL s u):=by
  unfold agL;rw[← aj hn]
  rfl
 rw[e]
theorem agree_not (s u:List Int) (hs:IsK s) (hu:IsK u) (h:¬ NLow s u) (w:World) :
  Calls Tryz.prog 81 #[.agg (kc s),.agg (kc u)] w (fun r w'=>r=.returned (.tuple #[.agg (kc Z32),.int .i64 130])∧Gr w w'):=by
 have h0:Hid (Cv.xN (kn s) (kn u)=0):=by unfold NLow at h; exact ao (Classical.not_not.1 h)
 have h1:=Cv.agree_low (kn s) (kn u) h0 w;rw[← dG hs,← dG hu] at h1;refine Calls.mono h1 ?_;rintro r w' ⟨rfl,hg⟩;refine⟨?_,hg⟩;have:Cv.digs (0:Int) 32=Z32:=by decide
 rw[this]
 rfl
theorem cU (s:List Int) (hs:IsK s) (w:World) :
  Calls Tryz.prog 46 #[.agg (kc s)] w (fun r w'=>r=.returned (.agg (kc (df s)))∧Gr w w'):=by
 have h1:=Cv.public_at (kn s) w;rw[← dG hs] at h1;unfold df;generalize Cv.xN (kn s) 9=n at *;exact h1
def tPair:ByteArray:=⟨#[112,97,105,114]⟩
noncomputable def prA (K U:List Int):List (List Int):=if ltL (df K) U=true then [df K,U] else [U,df K]
noncomputable def prK (K U:List Int):List Int:=spL (agL K U) (infoL (tb tPair) (prA K U)) 32
theorem prK_len (K U:List Int):(prK K U).length=32:=bH _ _ _
theorem prK_isB (K U:List Int):IsB (prK K U):=dA _ _ _
theorem built_pair (D:List Int) (hD:D.length=32) (f:Bool):Tryz.prog.built 25 [(0,.agg (kc D)),(1,.bool f)]=some (bE D f):=by
 match D,hD with
 | [a0,a1,a2,a3,a4,a5,a6,a7,a8,a9,b0,b1,b2,b3,b4,b5,b6,b7,b8,b9,c0,c1,c2,c3,c4,c5,c6,c7,c8,c9,d0,d1],_ =>
  show Tryz.prog.built 25 [(0,.agg (kc [a0,a1,a2,a3,a4,a5,a6,a7,a8,a9,b0,b1,b2,b3,b4,b5,b6,b7,b8,b9,c0,c1,c2,c3,c4,c5,c6,c7,c8,c9,d0,d1])),(1,.bool f)]=some (bE [a0,a1,a2,a3,a4,a5,a6,a7,a8,a9,b0,b1,b2,b3,b4,b5,b6,b7,b8,b9,c0,c1,c2,c3,c4,c5,c6,c7,c8,c9,d0,d1] f)
  kernel_rfl
theorem exec_bpair {a:Act} {o:Oper} (w:World) (x y:Operand) (ho:o.op=.build 25 #[(0,x),(1,y)]) (D:List Int) (hD:D.length=32) (f:Bool) (hx:a.eval x=.agg (kc D)) (hy:a.eval y=.bool f) :
  (execOp a.eval o).run Tryz.prog w=.ok (.value (.agg (bE D f))) w:=by
 have h:=run_build (P:=Tryz.prog) w 25 #[(0,.agg (kc D)),(1,.bool f)] _ (built_pair D hD f);unfold execOp;simp only[ho,List.map_toArray,List.map_cons,List.map_nil,hx,hy,Sem.run_bind,h,Result.andThen_ok,Sem.run_pure]
def Prd (D:List Int) (f:Bool) (e:Int) (w:World) (r:Ending) (w':World):Prop:=r=.returned (.tuple #[.agg (bE D f),.int .i64 e])∧Gr w w'
theorem pr_two {w:World} {p:Nat} {a b:Option Addr} {n c m d:Nat} {t:TypeId} {P Q:List Int} (h:w.heap[p]?=some (.cells #[.slice a n c,.slice b m d] t (0,0))) (hp:Lb w a n c P) (hq:Lb w b m d Q):Pr w (some ⟨p,0,none⟩) [P,Q]:=by
 refine .inr ⟨p,0,rfl,fun j hj=>?_⟩;have hj2:j=0∨j=1:=by simp at hj; omega
 rcases hj2 with rfl | rfl
 ·exact⟨a,n,c,aw h rfl,hp.len,hp.isB,hp.sl,hp.cap,hp.max⟩
 ·exact⟨b,m,d,aw h rfl,hq.len,hq.isB,hq.sl,hq.cap,hq.max⟩
theorem small_two {A B:List Int} (hA:A.length=32) (hB:B.length=32):small4 [A,B]:=⟨by simp,fun p hp=>by
 simp only[List.mem_cons,List.not_mem_nil,or_false] at hp;rcases hp with rfl | rfl <;> omega⟩
theorem pair_yes (A U:List Int) (hA:IsK A) (hU:IsK U) (hown:¬ U=df A) (hlow:NLow A U) (w:World) (hF:Fst w):Calls Tryz.prog 76 #[.agg (kc A),.agg (kc U)] w (Prd (prK A U) (ltL (df A) U) 0 w):=by
 obtain⟨T,hT⟩:∃ T,T=Prd (prK A U) (ltL (df A) U) 0 w:=⟨_,rfl⟩;rw[← hT];replace hT:=ao hT;have hAl:=hA.1;have hUl:=hU.1;replace hown:=ao hown;replace hlow:=ao hlow;obtain⟨SA,hSA⟩:∃ S,S=kc A:=⟨_,rfl⟩;obtain⟨SU,hSU⟩:∃ S,S=kc U:=⟨_,rfl⟩;rw[← hSA,← hSU];replace hSA:=ao hSA;replace hSU:=ao hSU;replace hA:=ao hA;replace hU:=ao hU;replace hF:=ao hF;go_enter Tryz.func76,Tryz.ntmps76;go_upto_region 1 with fail;have hB:=((((Bl.nil w).new SA 23).new SU 23).new #[.int .u8 0,.int .u8 0,.int .u8 0,.int .u8 0,.int .u8 0,.int .u8 0,.int .u8 0,.int .u8 0,.int .u8 0,.int .u8 0,.int .u8 0,.int .u8 0,.int .u8 0,.int .u8 0,.int .u8 0,.int .u8 0,.int .u8 0,.int .u8 0,.int .u8 0,.int .u8 0,.int .u8 0,.int .u8 0,.int .u8 0,.int .u8 0,.int .u8 0,.int .u8 0,.int .u8 0,.int .u8 0,.int .u8 0,.int .u8 0,.int .u8 0,.int .u8 0,.bool false] 25);simp only[aB,ac] at hB;generalize World.alloc _ _=u at *
 rw[aj hSA,aj hSU] at hB;replace hB:Bl w [⟨w.heap.size,kc A,23⟩,⟨w.heap.size+1,kc U,23⟩,⟨w.heap.size+1+1,bE Z32 false,25⟩] u:=hB;refine ag ?_;refine ak (.agg (kc A)) aa (ax _ 23 (.tmp 2) rfl (w.heap.size) aa (kc A) 23 _ (hB.get 0 (x:=⟨w.heap.size,kc A,23⟩) rfl) Tryz.underlying23 rfl (by rw[Tryz.infoKey,au,hAl])) ?_;simp only[aq];refine av 46 #[.agg (kc A)] aa aa ((cU A (aj hA) u).mono ?_);rintro r_ u1 ⟨rfl,hg⟩;replace hB:=hB.more hg;clear hg;obtain⟨P,hP⟩:∃ P,P=df A:=⟨_,rfl⟩;have hPk:IsK P:=by rw[hP]; exact dq A
 have hPl:=hPk.1;rw[← hP];replace hP:=ao hP; replace hPk:=ao hPk;refine⟨_,rfl,?_⟩;simp only[aq];refine aH (.pointer (some ⟨u1.heap.size,0,none⟩)) (u1.alloc (.cells (kc Z32) 23 (0,0))) aa aa ?_;replace hB:=hB.new (kc Z32) 23;simp only[ac] at hB;generalize World.alloc _ _=u2 at *;generalize u1.heap.size=gw at *;replace hB:Bl w [⟨w.heap.size,kc A,23⟩,⟨w.heap.size+1,kc U,23⟩,⟨w.heap.size+1+1,bE Z32 false,25⟩,⟨gw,kc Z32,23⟩] u2:=hB;simp only[aq];refine aA 23 (.tmp 6) (.tmp 13) (gw) (kc P) 23 (kc Z32) aa rfl aa aa (hB.get 3 (x:=⟨gw,kc Z32,23⟩) rfl) (by rw[Tryz.infoKey,au,hPl]) (by rw[au,au,hPl]; rfl) (aL _) ?_;replace hB:=hB.set 3 (x:=⟨gw,kc Z32,23⟩) rfl (kc P);simp only[ab] at hB;generalize World.setRow _ _ _=u3 at *;simp only[aq];refine ai ?_;replace hB:=ao hB;go_upto_region 2 with fail;replace hB:=aj hB;refine ag ?_
 refine ak (.agg (kc U)) aa (ax _ 23 (.tmp 3) rfl (w.heap.size+1) aa (kc U) 23 _ (hB.get 1 (x:=⟨w.heap.size+1,kc U,23⟩) rfl) Tryz.underlying23 rfl (by rw[Tryz.infoKey,au,hUl])) ?_;simp only[aq];refine ak (.agg (kc P)) aa (ax _ 23 (.tmp 6) rfl (gw) aa (kc P) 23 _ (hB.get 3 (x:=⟨gw,kc P,23⟩) rfl) Tryz.underlying23 rfl (by rw[Tryz.infoKey,au,hPl])) ?_;simp only[aq];refine ak (.bool false) aa (exec_eq_k _ (.tmp 14) (.tmp 15) rfl U P hUl hPl aa aa aa false (by rw[aj hP]; simpa using aj hown)) ?_;simp only[aq];refine ai ?_;replace hB:=ao hB;go_upto_region 4 with fail;replace hB:=aj hB;refine ag ?_;refine ak (.agg (kc A)) aa (ax _ 23 (.tmp 2) rfl (w.heap.size) aa (kc A) 23 _ (hB.get 0 (x:=⟨w.heap.size,kc A,23⟩) rfl) Tryz.underlying23 rfl (by rw[Tryz.infoKey,au,hAl])) ?_;simp only[aq]
 refine ak (.agg (kc U)) aa (ax _ 23 (.tmp 3) rfl (w.heap.size+1) aa (kc U) 23 _ (hB.get 1 (x:=⟨w.heap.size+1,kc U,23⟩) rfl) Tryz.underlying23 rfl (by rw[Tryz.infoKey,au,hUl])) ?_;simp only[aq];refine av 81 #[.agg (kc A),.agg (kc U)] aa aa ((agree_yes A U (aj hA) (aj hU) (aj hlow) u3).mono ?_);rintro r_ u4 ⟨rfl,hg⟩;replace hB:=hB.more hg;clear hg;obtain⟨G,hG⟩:∃ P,P=agL A U:=⟨_,rfl⟩;have hGk:IsK G:=by rw[hG]; exact agL_isK A U
 have hGl:=hGk.1;rw[← hG];replace hG:=ao hG; replace hGk:=ao hGk;refine⟨_,rfl,?_⟩;simp only[aq];refine ak (.tuple #[.agg (kc G),.int .i64 0]) aa aa ?_;simp only[aq];refine ak (.agg (kc G)) aa aa ?_;simp only[aq];refine ak (.int .i64 0) aa aa ?_;simp only[aq];refine aH (.pointer (some ⟨u4.heap.size,0,none⟩)) (u4.alloc (.cells (kc Z32) 23 (0,0))) aa aa ?_;replace hB:=hB.new (kc Z32) 23;simp only[ac] at hB;generalize World.alloc _ _=u5 at *;generalize u4.heap.size=gc at *;replace hB:Bl w [⟨w.heap.size,kc A,23⟩,⟨w.heap.size+1,kc U,23⟩,⟨w.heap.size+1+1,bE Z32 false,25⟩,⟨gw,kc P,23⟩,⟨gc,kc Z32,23⟩] u5:=hB;simp only[aq];refine aA 23 (.tmp 7) (.tmp 22) (gc) (kc G) 23 (kc Z32) aa rfl aa aa (hB.get 4 (x:=⟨gc,kc Z32,23⟩) rfl) (by rw[Tryz.infoKey,au,hGl]) (by rw[au,au,hGl]; rfl) (aL _) ?_;replace hB:=hB.set 4 (x:=⟨gc,kc Z32,23⟩) rfl (kc G);simp only[ab] at hB;generalize World.setRow _ _ _=u6 at *
 simp only[aq]
 (refine af fun K hK=>?_;go_simp;refine aj hK _ _ ?_;clear hK K)
 refine ai ?_;replace hB:=ao hB;go_upto_region 5 with fail;replace hB:=aj hB;refine ag ?_;refine ak (.int .i64 0) aa aa ?_;simp only[aq];refine ak (.bool false) aa aa ?_;simp only[aq];refine ai ?_;replace hB:=ao hB;go_upto_region 7 with fail;replace hB:=aj hB;refine ag ?_;refine ak (.agg (kc P)) aa (ax _ 23 (.tmp 6) rfl (gw) aa (kc P) 23 _ (hB.get 3 (x:=⟨gw,kc P,23⟩) rfl) Tryz.underlying23 rfl (by rw[Tryz.infoKey,au,hPl])) ?_;simp only[aq];refine ak (.agg (kc U)) aa (ax _ 23 (.tmp 3) rfl (w.heap.size+1) aa (kc U) 23 _ (hB.get 1 (x:=⟨w.heap.size+1,kc U,23⟩) rfl) Tryz.underlying23 rfl (by rw[Tryz.infoKey,au,hUl])) ?_;simp only[aq];refine av 113 #[.agg (kc P),.agg (kc U)] aa aa ((less_ok P U hPl hUl u6).mono ?_);rintro r_ u7 ⟨rfl,hg⟩;replace hB:=hB.more hg;clear hg;obtain⟨fi,hfi⟩:∃ P_,P_=ltL P U:=⟨_,rfl⟩;rw[← hfi];replace hfi:=ao hfi;refine⟨_,rfl,?_⟩;simp only[aq]
 (refine af fun K hK=>?_;go_simp;refine aj hK _ _ ?_;clear hK K)
 refine ai ?_;replace hB:=ao hB;go_upto_region 8 with fail;replace hB:=aj hB;refine aE (S:=fun v=>v.heap[w.heap.size+1]?=some (.cells (kc U) 23 (0,0))∧v.heap[gw]?=some (.cells (kc P) 23 (0,0))∧True) aa ?_;replace hB:=hB.drew;generalize World.drew _=v1_ at *;simp only[ae,Array.replicate,List.replicate];refine ar (i:=0) (v:=(.agg (kc U))) #[false,false,false,false,false,false] rfl aa aa aa aa (fun _ _ _ h=>h) (.inl ⟨by kernel_rfl,fun x_ hu=>ax x_ 23 (.tmp 3) rfl (w.heap.size+1) aa (kc U) 23 _ hu.1 Tryz.underlying23 rfl (by rw[Tryz.infoKey,au,hUl])⟩) ⟨(hB.get 1 (x:=⟨w.heap.size+1,(kc U),23⟩) rfl),(hB.get 3 (x:=⟨gw,(kc P),23⟩) rfl),trivial⟩ ?_;simp only[aq]
 refine ar (i:=1) (v:=(.agg (kc P))) #[true,false,false,false,false,false] rfl aa aa aa aa (fun _ _ _ h=>h) (.inl ⟨by kernel_rfl,fun x_ hu=>ax x_ 23 (.tmp 6) rfl gw aa (kc P) 23 _ hu.2.1 Tryz.underlying23 rfl (by rw[Tryz.infoKey,au,hPl])⟩) ⟨(hB.get 1 (x:=⟨w.heap.size+1,(kc U),23⟩) rfl),(hB.get 3 (x:=⟨gw,(kc P),23⟩) rfl),trivial⟩ ?_;simp only[aq];have hSf:∀ v,Gr v1_ v→(fun v=>v.heap[w.heap.size+1]?=some (.cells (kc U) 23 (0,0))∧v.heap[gw]?=some (.cells (kc P) 23 (0,0))∧True) v:=fun v k=>⟨k.blk (hB.get 1 (x:=⟨w.heap.size+1,(kc U),23⟩) rfl),k.blk (hB.get 3 (x:=⟨gw,(kc P),23⟩) rfl),trivial⟩
 refine cH v1_ #[.int .u8 0,.int .u8 0,.int .u8 0,.int .u8 0,.int .u8 0,.int .u8 0,.int .u8 0,.int .u8 0,.int .u8 0,.int .u8 0,.int .u8 0,.int .u8 0,.int .u8 0,.int .u8 0,.int .u8 0,.int .u8 0,.int .u8 0,.int .u8 0,.int .u8 0,.int .u8 0,.int .u8 0,.int .u8 0,.int .u8 0,.int .u8 0,.int .u8 0,.int .u8 0,.int .u8 0,.int .u8 0,.int .u8 0,.int .u8 0,.int .u8 0,.int .u8 0] 23 (fw2 _ 10 11) (fun b8_1 b8_2=>#[true,true,b8_1,b8_2,false,false]) 2 3 4 true hSf aa (fun _ _=>⟨rfl,rfl⟩) ?_ ?_ ?_ (M2.first (fun b8_1 b8_2=>#[true,true,b8_1,b8_2,false,false]) _ rfl rfl);all_goals simp only[fw2,Act.put,List.setIfInBounds_toArray,ab,List.getElem_toArray,List.getElem_cons_zero,List.getElem_cons_succ]
 ·intro q8_1 q8_2 x K hK;refine wpOp_step (o:=_) rfl (fun K' hK'=>?_);replace hK':=ao hK';replace hK:=ao hK;go_simp;exact aj hK' _ _ (aj hK)
 ·intro q8_1 q8_2 x K hK;refine wpOp_step (o:=_) rfl (fun K' hK'=>?_);replace hK':=ao hK';replace hK:=ao hK;go_simp;exact aj hK' _ _ (aj hK)
 intro b8_1 b8_2 q8_1 q8_2 g8_1 g8_2 v2_ hM hall;obtain⟨rfl,rfl⟩:=hall (by trivial);obtain⟨rfl,rfl,hB'⟩:=hM.all hB;replace hB:=hB';clear hB' hM hall;simp only[List.cons_append,List.nil_append] at hB;replace hB:Bl w [⟨w.heap.size,(kc A),23⟩,⟨w.heap.size+1,(kc U),23⟩,⟨w.heap.size+1+1,(bE Z32 false),25⟩,⟨gw,(kc P),23⟩,⟨gc,(kc G),23⟩,⟨g8_1,(kc Z32),23⟩,⟨g8_2,(kc Z32),23⟩] v2_:=hB;refine wpOp_step (o:=_) rfl (fun K' hK'=>?_);replace hK':=ao hK';rw[if_pos aa];refine wp_store_row 23 (.tmp 10) (.tmp 31) rfl g8_1 (kc U) aa aa 23 (kc Z32) (hB.get 5 (x:=⟨g8_1,(kc Z32),23⟩) rfl) (by rw[Tryz.infoKey,au,hUl]) (((au _).trans Z32_len).trans ((au _).trans hUl).symm) (aL _) ?_;replace hB:=hB.set 5 (x:=⟨g8_1,(kc Z32),23⟩) rfl (kc U);simp only[ab] at hB;refine aj hK' _ _ ⟨⟨(hB.get 1 (x:=⟨w.heap.size+1,(kc U),23⟩) rfl),(hB.get 3 (x:=⟨gw,(kc P),23⟩) rfl),trivial⟩,?_⟩;clear hK' K' hSf
 generalize World.setRow _ _ _=v3_ at *;simp only[aq];refine ay (i:=5) aa rfl (fun K hK=>?_);rw[if_pos aa];refine wp_store_row 23 (.tmp 11) (.tmp 32) rfl g8_2 (kc P) aa aa 23 (kc Z32) (hB.get 6 (x:=⟨g8_2,(kc Z32),23⟩) rfl) (by rw[Tryz.infoKey,au,hPl]) (((au _).trans Z32_len).trans ((au _).trans hPl).symm) (aL _) ?_;replace hB:=hB.set 6 (x:=⟨g8_2,(kc Z32),23⟩) rfl (kc P);simp only[ab] at hB;refine hK.out _ _ ⟨(hB.get 1 (x:=⟨w.heap.size+1,(kc U),23⟩) rfl),(hB.get 3 (x:=⟨gw,(kc P),23⟩) rfl),trivial⟩ (fun _=>?_);clear hK K;generalize World.setRow _ _ _=v4_ at *;simp only[aq];refine aF aa ?_;replace hB:Bl w [⟨w.heap.size,kc A,23⟩,⟨w.heap.size+1,kc U,23⟩,⟨w.heap.size+1+1,bE Z32 false,25⟩,⟨gw,kc P,23⟩,⟨gc,kc G,23⟩,⟨g8_1,kc U,23⟩,⟨g8_2,kc P,23⟩] v4_:=hB;cases fi with
 | false =>
  replace hB:=ao hB;go_upto_region 11 with fail;replace hB:=aj hB;refine aE (S:=fun v=>v.heap[gc]?=some (.cells (kc G) 23 (0,0))) aa ?_;replace hB:=hB.drew;generalize World.drew _=y0 at *;simp only[ae,Array.replicate,List.replicate];refine ar (i:=0) (v:=(.agg (kc G))) #[false,false,false,false,false,false,false,false,false] rfl aa aa aa aa (fun _ _ _ h=>h) (.inl ⟨by kernel_rfl,fun x_ hu=>ax _ 23 (.tmp 7) rfl (gc) aa (kc G) 23 _ (hu) Tryz.underlying23 rfl (by rw[Tryz.infoKey,au,hGl])⟩) (hB.get 4 (x:=⟨gc,kc G,23⟩) rfl) ?_;simp only[aq];refine ar (i:=1) (v:=(.slice (some ⟨g8_1,0,none⟩) 32 32)) #[true,false,false,false,false,false,false,false,false] rfl aa aa aa aa (fun _ _ _ h=>h) (.inl ⟨by kernel_rfl,fun x_ hu=>by kernel_rfl⟩) (hB.get 4 (x:=⟨gc,kc G,23⟩) rfl) ?_;simp only[aq]
  refine ar (i:=2) (v:=(.slice (some ⟨g8_2,0,none⟩) 32 32)) #[true,true,false,false,false,false,false,false,false] rfl aa aa aa aa (fun _ _ _ h=>h) (.inl ⟨by kernel_rfl,fun x_ hu=>by kernel_rfl⟩) (hB.get 4 (x:=⟨gc,kc G,23⟩) rfl) ?_;simp only[aq];refine ar (i:=5) (v:=(.bool false)) #[true,true,true,false,false,false,false,false,false] rfl aa aa aa aa (fun _ _ _ h=>h) (.inl ⟨by kernel_rfl,fun x_ hu=>by kernel_rfl⟩) (hB.get 4 (x:=⟨gc,kc G,23⟩) rfl) ?_;simp only[aq];refine ay (i:=3) aa rfl (fun K hK=>?_);replace hB:=ao hB;replace hK:=ao hK;go_simp;refine(aj hK).out _ _ ?_ (fun _=>?_)
  ·exact((Gr.refl y0).alloc (.cells #[.slice (some ⟨g8_1,0,none⟩) 32 32,.slice (some ⟨g8_2,0,none⟩) 32 32] 55)).blk ((aj hB).get 4 (x:=⟨gc,kc G,23⟩) rfl)
  clear hK K;have hg:=(Gr.refl y0).alloc (.cells #[.slice (some ⟨g8_1,0,none⟩) 32 32,.slice (some ⟨g8_2,0,none⟩) 32 32] 55 (0,0));have hnew:=aS y0 (.cells #[.slice (some ⟨g8_1,0,none⟩) 32 32,.slice (some ⟨g8_2,0,none⟩) 32 32] 55 (0,0));replace hB:=(aj hB).more hg;generalize World.alloc _ _=y1 at *;generalize y0.heap.size=gq at *;clear hg;simp only[aq];refine ay (i:=4) aa rfl (fun K hK=>?_);refine az aa 33 #[.agg (kc G),.string tPair,.slice (some ⟨gq,0,none⟩) 2 2] aa ((derive_ok G hGl (aj hGk).2 tPair (by decide) [U,P] (some ⟨gq,0,none⟩) 2 2 rfl (small_two hUl hPl) y1 ((aj hF).gr hB.gr) (pr_two hnew (dv (n:=32) (hB.get 5 (x:=⟨g8_1,kc U,23⟩) rfl) hUl (aj hU).2 (by omega)) (dv (n:=32) (hB.get 6 (x:=⟨g8_2,kc P,23⟩) rfl) hPl (aj hPk).2 (by omega)))).mono ?_);rintro r y2 ⟨rfl,hg⟩;refine⟨_,rfl,?_⟩;replace hB:=hB.more hg;clear hg hnew;obtain⟨D,hD⟩:∃ D,D=spL G (infoL (tb tPair) [U,P]) 32:=⟨_,rfl⟩
  rw[← hD];have hDl:D.length=32:=by rw[hD,bH]
  replace hD:=ao hD;refine hK.out _ _ (hB.get 4 (x:=⟨gc,kc G,23⟩) rfl) (fun _=>?_);clear hK K;simp only[aq];refine ar (i:=6) (v:=(.agg (bE D false))) #[true,true,true,true,true,true,false,false,false] rfl aa aa aa aa (fun _ _ _ h=>h) (.inl ⟨by kernel_rfl,fun x_ hu=>exec_bpair _ (.tmp 40) (.tmp 41) rfl D hDl false aa aa⟩) (hB.get 4 (x:=⟨gc,kc G,23⟩) rfl) ?_;simp only[aq];refine ay (i:=7) aa rfl (fun K hK=>?_);refine cv 25 (.tmp 4) (.tmp 42) (w.heap.size+1+1) (bE D false) 25 (bE Z32 false) aa rfl aa aa (hB.get 2 (x:=⟨w.heap.size+1+1,bE Z32 false,25⟩) rfl) (by rw[Tryz.infoPair,bW,hDl]) (by rw[bW,bW,hDl]; rfl) (pairv_one _ _) ?_;replace hB:=hB.set 2 (x:=⟨w.heap.size+1+1,bE Z32 false,25⟩) rfl (bE D false);simp only[ab] at hB;generalize World.setRow _ _ _=y3 at *;refine hK.out _ _ (hB.get 4 (x:=⟨gc,kc G,23⟩) rfl) (fun _=>?_);clear hK K;simp only[aq];refine ay (i:=8) aa rfl (fun K hK=>?_)
  replace hK:=ao hK;go_simp;refine(aj hK).out _ _ (hB.get 4 (x:=⟨gc,kc G,23⟩) rfl) (fun _=>?_);clear hK K;refine aF aa ?_;have hDr:D=prK A U:=by
   rw[aj hD,aj hG];unfold prK prA;rw[← aj hP,← aj hfi]
   rfl
  replace hDr:=ao hDr;replace hB:=ao hB;go_wp2_with fail;replace hB:=aj hB;rw[aj hT];exact bodyPost_ret (v:=.tuple #[.agg (bE D false),.int .i64 0]) (bO Tryz.results76 _ _ (w.heap.size+1+1) 25 (bE D false) (0,0) _ rfl (.int .i64 0) rfl (hB.get 2 (x:=⟨w.heap.size+1+1,bE D false,25⟩) rfl) Tryz.underlying25 rfl (by rw[Tryz.infoPair,bW,hDl])) rfl ⟨by rw[aj hDr,← aj hP,← aj hfi],hB.gr⟩
 | true =>
  replace hB:=ao hB;go_upto_region 10 with fail;replace hB:=aj hB;refine aE (S:=fun v=>v.heap[w.heap.size+1]?=some (.cells (kc U) 23 (0,0))∧v.heap[gw]?=some (.cells (kc P) 23 (0,0))∧True) aa ?_;replace hB:=hB.drew;generalize World.drew _=v25_ at *;simp only[ae,Array.replicate,List.replicate];refine ar (i:=0) (v:=(.agg (kc P))) #[false,false,false,false] rfl aa aa aa aa (fun _ _ _ h=>h) (.inl ⟨by kernel_rfl,fun x_ hu=>ax x_ 23 (.tmp 6) rfl gw aa (kc P) 23 _ hu.2.1 Tryz.underlying23 rfl (by rw[Tryz.infoKey,au,hPl])⟩) ⟨(hB.get 1 (x:=⟨w.heap.size+1,(kc U),23⟩) rfl),(hB.get 3 (x:=⟨gw,(kc P),23⟩) rfl),trivial⟩ ?_;simp only[aq]
  refine ar (i:=1) (v:=(.agg (kc U))) #[true,false,false,false] rfl aa aa aa aa (fun _ _ _ h=>h) (.inl ⟨by kernel_rfl,fun x_ hu=>ax x_ 23 (.tmp 3) rfl (w.heap.size+1) aa (kc U) 23 _ hu.1 Tryz.underlying23 rfl (by rw[Tryz.infoKey,au,hUl])⟩) ⟨(hB.get 1 (x:=⟨w.heap.size+1,(kc U),23⟩) rfl),(hB.get 3 (x:=⟨gw,(kc P),23⟩) rfl),trivial⟩ ?_;simp only[aq];refine ay (i:=2) aa rfl (fun K hK=>?_);rw[if_pos aa];refine wp_store_row 23 (.tmp 10) (.tmp 34) rfl g8_1 (kc P) aa aa 23 (kc U) (hB.get 5 (x:=⟨g8_1,(kc U),23⟩) rfl) (by rw[Tryz.infoKey,au,hPl]) (((au _).trans hUl).trans ((au _).trans hPl).symm) (aL _) ?_;replace hB:=hB.set 5 (x:=⟨g8_1,(kc U),23⟩) rfl (kc P);simp only[ab] at hB;refine hK.out _ _ ⟨(hB.get 1 (x:=⟨w.heap.size+1,(kc U),23⟩) rfl),(hB.get 3 (x:=⟨gw,(kc P),23⟩) rfl),trivial⟩ (fun _=>?_);clear hK K;generalize World.setRow _ _ _=v26_ at *;simp only[aq]
  refine ay (i:=3) aa rfl (fun K hK=>?_);rw[if_pos aa];refine wp_store_row 23 (.tmp 11) (.tmp 35) rfl g8_2 (kc U) aa aa 23 (kc P) (hB.get 6 (x:=⟨g8_2,(kc P),23⟩) rfl) (by rw[Tryz.infoKey,au,hUl]) (((au _).trans hPl).trans ((au _).trans hUl).symm) (aL _) ?_;replace hB:=hB.set 6 (x:=⟨g8_2,(kc P),23⟩) rfl (kc U);simp only[ab] at hB;refine hK.out _ _ ⟨(hB.get 1 (x:=⟨w.heap.size+1,(kc U),23⟩) rfl),(hB.get 3 (x:=⟨gw,(kc P),23⟩) rfl),trivial⟩ (fun _=>?_);clear hK K;generalize World.setRow _ _ _=v27_ at *;simp only[aq];refine aF aa ?_;replace hB:Bl w [⟨w.heap.size,kc A,23⟩,⟨w.heap.size+1,kc U,23⟩,⟨w.heap.size+1+1,bE Z32 false,25⟩,⟨gw,kc P,23⟩,⟨gc,kc G,23⟩,⟨g8_1,kc P,23⟩,⟨g8_2,kc U,23⟩] v27_:=hB;replace hB:=ao hB;go_upto_region 11 with fail;replace hB:=aj hB;refine aE (S:=fun v=>v.heap[gc]?=some (.cells (kc G) 23 (0,0))) aa ?_;replace hB:=hB.drew;generalize World.drew _=y0 at *
  simp only[ae,Array.replicate,List.replicate];refine ar (i:=0) (v:=(.agg (kc G))) #[false,false,false,false,false,false,false,false,false] rfl aa aa aa aa (fun _ _ _ h=>h) (.inl ⟨by kernel_rfl,fun x_ hu=>ax _ 23 (.tmp 7) rfl (gc) aa (kc G) 23 _ (hu) Tryz.underlying23 rfl (by rw[Tryz.infoKey,au,hGl])⟩) (hB.get 4 (x:=⟨gc,kc G,23⟩) rfl) ?_;simp only[aq];refine ar (i:=1) (v:=(.slice (some ⟨g8_1,0,none⟩) 32 32)) #[true,false,false,false,false,false,false,false,false] rfl aa aa aa aa (fun _ _ _ h=>h) (.inl ⟨by kernel_rfl,fun x_ hu=>by kernel_rfl⟩) (hB.get 4 (x:=⟨gc,kc G,23⟩) rfl) ?_;simp only[aq];refine ar (i:=2) (v:=(.slice (some ⟨g8_2,0,none⟩) 32 32)) #[true,true,false,false,false,false,false,false,false] rfl aa aa aa aa (fun _ _ _ h=>h) (.inl ⟨by kernel_rfl,fun x_ hu=>by kernel_rfl⟩) (hB.get 4 (x:=⟨gc,kc G,23⟩) rfl) ?_;simp only[aq]
  refine ar (i:=5) (v:=(.bool true)) #[true,true,true,false,false,false,false,false,false] rfl aa aa aa aa (fun _ _ _ h=>h) (.inl ⟨by kernel_rfl,fun x_ hu=>by kernel_rfl⟩) (hB.get 4 (x:=⟨gc,kc G,23⟩) rfl) ?_;simp only[aq];refine ay (i:=3) aa rfl (fun K hK=>?_);replace hB:=ao hB;replace hK:=ao hK;go_simp;refine(aj hK).out _ _ ?_ (fun _=>?_)
  ·exact((Gr.refl y0).alloc (.cells #[.slice (some ⟨g8_1,0,none⟩) 32 32,.slice (some ⟨g8_2,0,none⟩) 32 32] 55)).blk ((aj hB).get 4 (x:=⟨gc,kc G,23⟩) rfl)
  clear hK K;have hg:=(Gr.refl y0).alloc (.cells #[.slice (some ⟨g8_1,0,none⟩) 32 32,.slice (some ⟨g8_2,0,none⟩) 32 32] 55 (0,0));have hnew:=aS y0 (.cells #[.slice (some ⟨g8_1,0,none⟩) 32 32,.slice (some ⟨g8_2,0,none⟩) 32 32] 55 (0,0));replace hB:=(aj hB).more hg;generalize World.alloc _ _=y1 at *;generalize y0.heap.size=gq at *;clear hg;simp only[aq];refine ay (i:=4) aa rfl (fun K hK=>?_);refine az aa 33 #[.agg (kc G),.string tPair,.slice (some ⟨gq,0,none⟩) 2 2] aa ((derive_ok G hGl (aj hGk).2 tPair (by decide) [P,U] (some ⟨gq,0,none⟩) 2 2 rfl (small_two hPl hUl) y1 ((aj hF).gr hB.gr) (pr_two hnew (dv (n:=32) (hB.get 5 (x:=⟨g8_1,kc P,23⟩) rfl) hPl (aj hPk).2 (by omega)) (dv (n:=32) (hB.get 6 (x:=⟨g8_2,kc U,23⟩) rfl) hUl (aj hU).2 (by omega)))).mono ?_);rintro r y2 ⟨rfl,hg⟩;refine⟨_,rfl,?_⟩;replace hB:=hB.more hg;clear hg hnew;obtain⟨D,hD⟩:∃ D,D=spL G (infoL (tb tPair) [P,U]) 32:=⟨_,rfl⟩
  rw[← hD];have hDl:D.length=32:=by rw[hD,bH]
  replace hD:=ao hD;refine hK.out _ _ (hB.get 4 (x:=⟨gc,kc G,23⟩) rfl) (fun _=>?_);clear hK K;simp only[aq];refine ar (i:=6) (v:=(.agg (bE D true))) #[true,true,true,true,true,true,false,false,false] rfl aa aa aa aa (fun _ _ _ h=>h) (.inl ⟨by kernel_rfl,fun x_ hu=>exec_bpair _ (.tmp 40) (.tmp 41) rfl D hDl true aa aa⟩) (hB.get 4 (x:=⟨gc,kc G,23⟩) rfl) ?_;simp only[aq];refine ay (i:=7) aa rfl (fun K hK=>?_);refine cv 25 (.tmp 4) (.tmp 42) (w.heap.size+1+1) (bE D true) 25 (bE Z32 false) aa rfl aa aa (hB.get 2 (x:=⟨w.heap.size+1+1,bE Z32 false,25⟩) rfl) (by rw[Tryz.infoPair,bW,hDl]) (by rw[bW,bW,hDl]; rfl) (pairv_one _ _) ?_;replace hB:=hB.set 2 (x:=⟨w.heap.size+1+1,bE Z32 false,25⟩) rfl (bE D true);simp only[ab] at hB;generalize World.setRow _ _ _=y3 at *;refine hK.out _ _ (hB.get 4 (x:=⟨gc,kc G,23⟩) rfl) (fun _=>?_);clear hK K;simp only[aq];refine ay (i:=8) aa rfl (fun K hK=>?_)
  replace hK:=ao hK;go_simp;refine(aj hK).out _ _ (hB.get 4 (x:=⟨gc,kc G,23⟩) rfl) (fun _=>?_);clear hK K;refine aF aa ?_;have hDr:D=prK A U:=by
   rw[aj hD,aj hG];unfold prK prA;rw[← aj hP,← aj hfi]
   rfl
  replace hDr:=ao hDr;replace hB:=ao hB;go_wp2_with fail;replace hB:=aj hB;rw[aj hT];exact bodyPost_ret (v:=.tuple #[.agg (bE D true),.int .i64 0]) (bO Tryz.results76 _ _ (w.heap.size+1+1) 25 (bE D true) (0,0) _ rfl (.int .i64 0) rfl (hB.get 2 (x:=⟨w.heap.size+1+1,bE D true,25⟩) rfl) Tryz.underlying25 rfl (by rw[Tryz.infoPair,bW,hDl])) rfl ⟨by rw[aj hDr,← aj hP,← aj hfi],hB.gr⟩
end Go.Proofs.YtbkkibhhfmgojaaGreatDoor
namespace Go.Proofs.YtbkkibhhfmgojaaGreatDoor
open Go.ChangeShapes Go.WideShapes Go.ChangeAt Go.RowKit
theorem Tryz.cellsKy:Tryz.prog.cellsOf 23=32:=by kernel_rfl
theorem Tryz.cells5z:Tryz.prog.cellsOf 5=1:=by kernel_rfl
theorem gLows:Tryz.prog.globalNamed "hollowtree/curve.lows" = some 0:=by kernel_rfl
theorem tLows:(Tryz.prog.globals[0]?).map (·.type)=some 120:=by kernel_rfl
theorem u45:Tryz.prog.underlying 120=some (.array 5 23):=by kernel_rfl
theorem c45:Tryz.prog.cellsOf 120=160:=by kernel_rfl
def lowsL:List Value:=(Cv.digs 0 32++Cv.digs 1 32++Cv.digs 57896044618658097711785492504343953926634992332820282019728792003956564819948 32++Cv.digs 325606250916557431795983626356110631294008115727848805560023387167927233504 32++Cv.digs 39382357235489614581723060781553021112529911719440698176882885853963445705823 32).map (Value.int .u8)
def kd (l:List Int):DataW Unit:=.agg (l.map fun z=>.lit (.int .u8 z))
theorem kd_inj {k l:List Int} (h:kd k=kd l):k=l:=by
 unfold kd at h;have h1:k.map (fun z=>(DataW.lit (.int .u8 z):DataW Unit))=l.map (fun z=>(DataW.lit (.int .u8 z):DataW Unit)):=by simpa using h
 exact List.map_inj_right (fun x y e=>by simpa using e) |>.1 h1
theorem laidL_eq:(Rows.laid_hollowtree_curve_lows:DataW Unit)=.agg [kd (Cv.digs 0 32),kd (Cv.digs 1 32),kd (Cv.digs 57896044618658097711785492504343953926634992332820282019728792003956564819948 32),kd (Cv.digs 325606250916557431795983626356110631294008115727848805560023387167927233504 32),kd (Cv.digs 39382357235489614581723060781553021112529911719440698176882885853963445705823 32)]:=by kernel_rfl
theorem key_cells {enc:TypeId × Value→Unit} {W:World} {base fuel:Nat} {sp:TypeId→Bool} {held:Bool} {cs:List Value} {x:DataW Unit × List MemPlace} (h:DataW.trod enc Tryz.prog W base sp held fuel 23 cs=some x) :
  ∃ zs:List Int,cs=zs.map (Value.int .u8)∧x.1=kd zs:=by
 obtain⟨xs,m,_,hx,hl,hxl,hh⟩:=DataW.trod_array Tryz.underlying23 h;rw[Tryz.cellsKy] at hl;have hc:∀ i,i<32→∃ z,cs[i]?=some (.int .u8 z)∧xs[i]?=some (.lit (.int .u8 z),[]):=by
  intro i hi;have h1:=hh i hi;rw[Tryz.cells5z,Nat.mul_one,List.getElem?_eq_getElem (by omega)] at h1;obtain⟨z,e,e2,_⟩:=DataW.trod_int Tryz.underlying5 h1;refine⟨z,?_,?_⟩
  ·have h2:((cs.drop i).take 1)[0]?=some (.int .u8 z):=by rw[e]; rfl
   simpa using h2
  ·rw[List.getElem?_eq_getElem (by omega),e2]
 refine⟨cs.map (fun v=>match v with | .int _ z=>z | _=>0),?_,?_⟩
 ·apply List.ext_getElem?;intro i;rcases Nat.lt_or_ge i 32 with hi | hi
  ·obtain⟨z,h1,_⟩:=hc i hi;simp[h1]
  ·rw[List.getElem?_eq_none (by omega),List.getElem?_eq_none (by simp; omega)]
 ·rw[hx];unfold kd;show DataW.agg _=DataW.agg _
  congr 1
  apply List.ext_getElem?;intro i;rcases Nat.lt_or_ge i 32 with hi | hi
  ·obtain⟨z,h1,h2⟩:=hc i hi;simp[h1,h2]
  ·rw[List.getElem?_eq_none (by simp; omega),List.getElem?_eq_none (by simp; omega)]
theorem chunks (l:List Value):l.take (32+(32+(32+(32+32))))=(l.drop (0 * 32)).take 32++((l.drop (1 * 32)).take 32++((l.drop (2 * 32)).take 32++((l.drop (3 * 32)).take 32++(l.drop (4 * 32)).take 32))):=by
 rw[List.take_add,List.take_add,List.take_add,List.take_add,List.drop_drop,List.drop_drop,List.drop_drop];simp
theorem lows_range {W:World} (h:laidMetH Tryz.prog [("hollowtree/sha.first",Rows.laid_hollowtree_sha_first),("hollowtree/curve.lows",Rows.laid_hollowtree_curve_lows)] W):W.rangeAt 0 0 lowsL:=by
 rw[MakeChecks.laidMetH_plain _ _ _ aa] at h;obtain⟨ps,⟨_,_,_,_,_,_,_,_,_,_,⟨g0,t0,cs0,f0,p0,q0,hg0,ht0,hv0,hd0,_,_⟩,_⟩,_,_⟩:=h;obtain rfl:=Option.some.inj (gLows.symm.trans hg0);obtain rfl:=Option.some.inj (tLows.symm.trans ht0);rw[laidL_eq] at hd0;obtain⟨xs,m,_,hx,hl,hxl,hh⟩:=DataW.trod_array u45 hd0;rw[c45] at hl;simp only[Prod.mk.injEq,DataW.agg.injEq] at hx;have ch:∀ i (d:List Int),i<5→([kd (Cv.digs 0 32),kd (Cv.digs 1 32),kd (Cv.digs 57896044618658097711785492504343953926634992332820282019728792003956564819948 32),kd (Cv.digs 325606250916557431795983626356110631294008115727848805560023387167927233504 32),kd (Cv.digs 39382357235489614581723060781553021112529911719440698176882885853963445705823 32)]:List (DataW Unit))[i]?=some (kd d)→(cs0.toList.drop (i * 32)).take 32=d.map (Value.int .u8):=by
  intro i d hi hd;have h1:=hh i hi;rw[Tryz.cellsKy,List.getElem?_eq_getElem (by omega)] at h1;obtain⟨zs,e1,e2⟩:=key_cells h1;rw[hx.1,List.getElem?_map,List.getElem?_eq_getElem (by omega)] at hd;have e3:kd zs=kd d:=by rw[← e2]; simpa using hd
  rw[e1,kd_inj e3]
 have hall:cs0.toList=lowsL:=by
  have h1:=chunks cs0.toList;rw[List.take_of_length_le (by omega),ch 0 _ (by omega) rfl,ch 1 _ (by omega) rfl,ch 2 _ (by omega) rfl,ch 3 _ (by omega) rfl,ch 4 _ (by omega) rfl] at h1;rw[h1];unfold lowsL;simp only[List.map_append,List.append_assoc]
 intro j v hj;rw[World.var?_cell hg0 hv0,Nat.zero_add,← Array.getElem?_toList,hall];exact hj
def FL (w:World):Prop:=Fst w∧w.rangeAt 0 0 lowsL
theorem FL.gr {w v:World} (h:FL w) (g:Gr w v):FL v:=⟨h.1.gr g,fun j x hj=>g.cell (h.2 j x hj)⟩
noncomputable def plc (U:List Int):List Int:=Cv.digs ((kn U:Int) % 57896044618658097711785492504343953926634992332820282019728792003956564819968 % pp) 32
def lowK:Nat→List Int
 | 0=>Cv.digs 0 32
 | 1=>Cv.digs 1 32
 | 2=>Cv.digs 57896044618658097711785492504343953926634992332820282019728792003956564819948 32
 | 3=>Cv.digs 325606250916557431795983626356110631294008115727848805560023387167927233504 32
 | _=>Cv.digs 39382357235489614581723060781553021112529911719440698176882885853963445705823 32
theorem lowK_len (i:Nat):(lowK i).length=32:=by unfold lowK; split <;> exact Cv.digs_len _ _
noncomputable def du (U:List Int):Bool:=(List.range 5).any fun i=>decide (plc U=lowK i)
theorem info5k:(Tryz.prog.info? 120).map (·.size)=some lowsL.length:=by
 have e:lowsL.length=160:=by unfold lowsL; simp[Cv.digs_len]
 have h:(Tryz.prog.info? 120).map (·.size)=some 160:=by kernel_rfl
 exact h.trans (congrArg some e.symm)
theorem Bl.fst {w v:World} {L M:List Blk} (h:Bl w (L++M) v):Bl w L v:=⟨h.gr,fun x hx=>h.at_ x (List.mem_append_left _ hx),(List.pairwise_append.1 h.ne).1⟩
theorem low_get (i:Nat) (hi:i<5) {o:Oper} {a:Act} (w:World) (x y:Operand) (ho:o.op=.index 120 x y) (hx:a.eval x=.agg lowsL.toArray) (hy:a.eval y=.int .i64 (i:Int)):(execOp a.eval o).run Tryz.prog w=.ok (.value (.agg (kc (lowK i)))) w:=by
 unfold execOp;simp only[ho,hx,hy];have h:i=0∨i=1∨i=2∨i=3∨i=4:=by omega
 rcases h with rfl | rfl | rfl | rfl | rfl <;> (show _=_; kernel_rfl)
theorem low_ok (U:List Int) (hU:IsK U) (w:World) (hW:w.rangeAt 0 0 lowsL):Calls Tryz.prog 31 #[.agg (kc U)] w (Vl (.bool (du U)) w):=by
 obtain⟨T,hT⟩:∃ T:Ending→World→Prop,T=(Vl (.bool (du U)) w):=⟨_,rfl⟩;rw[← hT];replace hT:=ao hT;have hUl:=hU.1;obtain⟨V,hV⟩:∃ V,V=plc U:=⟨_,rfl⟩;have hVl:V.length=32:=by rw[hV]; exact Cv.digs_len _ _
 have hUd:=dG hU;replace hV:=ao hV; replace hUd:=ao hUd; replace hW:=ao hW;obtain⟨A0_,hA0_⟩:∃ S_,S_=kc U:=⟨_,rfl⟩;rw[← hA0_];replace hA0_:=ao hA0_;go_enter Tryz.func31,Tryz.ntmps31;go_upto_region 1 with fail;have hB:=((Bl.nil w).new A0_ 23);simp only[aB,ac] at hB;rw[aj hA0_] at hB;generalize hu_:World.alloc _ _=u0;replace hB:Bl w [⟨w.heap.size,kc U,23⟩] u0:=by
  rw[← hu_];rw[aj hA0_];exact hB
 clear hu_ hA0_;refine ag ?_;refine ak (.agg (kc U)) aa (ax _ 23 (.tmp 1) rfl (w.heap.size) aa (kc U) 23 _ (hB.get 0 (x:=⟨w.heap.size,kc U,23⟩) rfl) Tryz.underlying23 rfl (by rw[Tryz.infoKey,au,hUl])) ?_;simp only[aq];have hfr:=Cv.from_ec (kn U:Int) (by omega) u0;rw[show Cv.kc (Cv.digs (kn U:Int) 32)=kc U from by rw[← aj hUd]; rfl] at hfr;refine av 77 #[.agg (kc U)] aa aa (hfr.mono ?_);rintro r_ u1 ⟨c1,rfl,hc1,hg⟩;replace hB:=hB.more hg;clear hg hfr;refine⟨_,rfl,?_⟩;simp only[aq];refine av 78 #[.agg c1] aa aa ((Cv.bytes_ec hc1 u1).mono ?_);rintro r_ u2 ⟨rfl,hg⟩;rw[show Cv.kc (Cv.digs ((kn U:Int) % 57896044618658097711785492504343953926634992332820282019728792003956564819968 % pp) 32)=kc V from by rw[aj hV]; rfl];replace hB:=hB.more hg;clear hg;refine⟨_,rfl,?_⟩;simp only[aq];clear hc1;have hZ0:Hid (@Eq (Array Value) (kc Z32) (kc Z32)):=rfl
 refine aH (.pointer (some ⟨u2.heap.size,0,none⟩)) (u2.alloc (.cells (kc Z32) 23 (0,0))) aa aa ?_;replace hB:=hB.new (kc Z32) 23;simp only[ac] at hB;generalize World.alloc _ _=u3 at *;generalize u2.heap.size=g3 at *;simp only[aq];refine aA 23 (.tmp 3) (.tmp 8) (g3) (kc V) 23 (kc Z32) aa rfl aa aa (hB.get 1 (x:=⟨g3,kc Z32,23⟩) rfl) (by rw[Tryz.infoKey,au,hVl]) ((au _).trans (zl32.trans (hVl.symm.trans (au _).symm))) (aL _) ?_;replace hB:=hB.set 1 (x:=⟨g3,kc Z32,23⟩) rfl (kc V);simp only[ab] at hB;generalize World.setRow _ _ _=u4 at *;simp only[aq];refine ai ?_;replace hB:=ao hB;go_upto_region 2 with fail;replace hB:=aj hB;refine ag ?_;refine ak (.agg lowsL.toArray) aa (bz _ 120 (.global 0) rfl 0 0 aa lowsL _ (fun j x hj=>hB.gr.cell ((aj hW) j x hj)) Tryz.underlying120 rfl info5k) ?_;simp only[aq];refine ak (.int .i64 0) aa aa ?_;simp only[aq];refine ai ?_
 have hI:Hid ((∀ k,k<0→V≠lowK k)∧Bl w [⟨w.heap.size,kc U,23⟩,⟨g3,kc V,23⟩] u4):=⟨fun k hk=>absurd hk (by omega),hB⟩;clear hB;go_wp2_with fail
 go_loopw [10] (fun i wr=>∃ j:Nat,j≤5∧i=.int .i64 (j:Int)∧Hid ((∀ k,k<j→V≠lowK k)∧Bl w [⟨w.heap.size,kc U,23⟩,⟨g3,kc V,23⟩] wr)) (fun i _=>5 - (intOf i).toNat)
 case atStart=>exact⟨0,by omega,rfl,hI⟩
 case round =>
 clear hI;obtain⟨j,hj,rfl,hA⟩:=hrel;obtain⟨hE,hB⟩:=aj hA;clear hA;by_cases hlt:j<5
 ·have jI:(j:Int)<5:=by omega
  replace hE:=ao hE;replace hB:=ao hB;go_upto_region 4 with fail;replace hB:=aj hB;obtain⟨Y,hY⟩:∃ Y,Y=lowK j:=⟨_,rfl⟩;have hYl:Y.length=32:=by rw[hY]; exact lowK_len j
  refine ag ?_;refine ak (.agg (kc Y)) aa (by rw[hY]; exact low_get j hlt _ (.tmp 9) (.tmp 10) rfl aa aa) ?_;simp only[aq];refine aH (.pointer (some ⟨wr.heap.size,0,none⟩)) (wr.alloc (.cells (kc Z32) 23 (0,0))) aa aa ?_;replace hB:=hB.new (kc Z32) 23;simp only[ac] at hB;generalize World.alloc _ _=u5 at *;generalize wr.heap.size=g5 at *;simp only[aq];refine aA 23 (.tmp 5) (.tmp 12) (g5) (kc Y) 23 (kc Z32) aa rfl aa aa (hB.get 2 (x:=⟨g5,kc Z32,23⟩) rfl) (by rw[Tryz.infoKey,au,hYl]) ((au _).trans (zl32.trans (hYl.symm.trans (au _).symm))) (aL _) ?_;replace hB:=hB.set 2 (x:=⟨g5,kc Z32,23⟩) rfl (kc Y);simp only[ab] at hB;generalize World.setRow _ _ _=u6 at *;simp only[aq];refine ai ?_;replace hY:=ao hY;replace hB:=ao hB;go_upto_region 5 with fail;replace hB:=aj hB;refine ag ?_
  refine ak (.agg (kc V)) aa (ax _ 23 (.tmp 3) rfl (g3) aa (kc V) 23 _ (hB.get 1 (x:=⟨g3,kc V,23⟩) rfl) Tryz.underlying23 rfl (by rw[Tryz.infoKey,au,hVl])) ?_;simp only[aq];refine ak (.agg (kc Y)) aa (ax _ 23 (.tmp 5) rfl (g5) aa (kc Y) 23 _ (hB.get 2 (x:=⟨g5,kc Y,23⟩) rfl) Tryz.underlying23 rfl (by rw[Tryz.infoKey,au,hYl])) ?_;simp only[aq];refine ak (.bool (decide (V=Y))) aa (exec_eqK _ (.tmp 13) (.tmp 14) rfl V Y hVl hYl aa aa) ?_;simp only[aq];refine ai ?_;by_cases hVY:V=Y
  ·rw[show decide (V=Y)=true from decide_eq_true hVY];have hZ:Hid (Vl (.bool (du U)) w (.returned (.bool true)) u6):=⟨by
    have:du U=true:=by
     unfold du;rw[List.any_eq_true];exact⟨j,List.mem_range.2 hlt,by rw[← aj hV,← aj hY]; exact decide_eq_true hVY⟩
    rw[this],hB.gr⟩
   clear hB hVY;go_wp2_with fail;rw[aj hT];exact aj hZ
  ·rw[show decide (V=Y)=false from decide_eq_false hVY];have hB2:=Bl.fst (L:=[⟨w.heap.size,kc U,23⟩,⟨g3,kc V,23⟩]) (M:=[⟨g5,kc Y,23⟩]) hB;have hI2:Hid ((∀ k,k<j+1→V≠lowK k)∧Bl w [⟨w.heap.size,kc U,23⟩,⟨g3,kc V,23⟩] u6):=⟨fun k hk=>by
    rcases Nat.lt_or_ge k j with h | h
    ·exact(aj hE) k h
    ·have:k=j:=by omega
     rw[this,← aj hY]; exact hVY,hB2⟩
   clear hB hB2 hVY hE;have jw:IntKind.i64.wrap ((j:Int)+1)=(j:Int)+1:=by rw[IntKind.wrap_i64]; omega
   go_wp2_with fail;go_roundw
   case rel=>exact⟨j+1,by omega,by simp,hI2⟩
   case measure=>simp[intOf]; omega
 ·have jI:¬ (j:Int)<5:=by omega
  have hZ:Hid (Vl (.bool (du U)) w (.returned (.bool false)) wr):=⟨by
   have:du U=false:=by
    unfold du;rw[List.any_eq_false];intro k hk;have h5:=hE k (by have:=List.mem_range.1 hk; omega);rw[← aj hV];simpa using h5
   rw[this],hB.gr⟩
  clear hB hE;go_wp2_with fail;rw[aj hT];exact aj hZ
theorem agree_any (s u:List Int) (hs:IsK s) (hu:IsK u) (w:World):Calls Tryz.prog 81 #[.agg (kc s),.agg (kc u)] w (fun r w'=>(∃ e,r=.returned (.tuple #[.agg (kc (agL s u)),.int .i64 e]))∧Gr w w'):=by
 by_cases h:NLow s u
 ·exact(agree_yes s u hs hu h w).mono fun r w' h=>⟨⟨_,h.1⟩,h.2⟩
 ·have e:agL s u=Z32:=by
   have h0:Cv.xN (kn s) (kn u)=0:=by unfold NLow at h; omega
   unfold agL;rw[h0]; decide
  rw[e];exact(agree_not s u hs hu h w).mono fun r w' h=>⟨⟨_,h.1⟩,h.2⟩
end Go.Proofs.YtbkkibhhfmgojaaGreatDoor
