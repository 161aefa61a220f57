/-
  What the proof leans on.
-/
import Derived.BigRegion
import Derived.ChangeKeysEq
import Derived.WalkMore
import Derived.Deep.Cut
import Derived.Deep.RegionHeld3
import Derived.BigQuiet
import Derived.Deep.QuietTactic
import Derived.Test.YtbkkibhhfmgojaaGreatDoorBQ5
set_option linter.unusedSimpArgs false
set_option linter.unusedVariables false
set_option maxRecDepth 100000
set_option maxHeartbeats 40000000
namespace Go.Proofs.YtbkkibhhfmgojaaGreatDoor.Cv
open Go.RowKit
theorem dI (a b c d e:Int) (ha:0≤a∧a<2305843009213693952) (hb:0≤b∧b<2305843009213693952) (hc:0≤c∧c<2305843009213693952) (hd:0≤d∧d<2305843009213693952) (he:0≤e∧e<2305843009213693952) (w:World) :
  Calls Tryz.prog 114 #[.int .u64 a,.int .u64 b,.int .u64 c,.int .u64 d,.int .u64 e] w (Reck1 (val a b c d e) w):=by
 have hv:=ao (carries a b c d e);have h1:0≤b+a / 2251799813685248∧b+a / 2251799813685248<2305843009213694976:=by omega
 have w1:=aC (b+a / 2251799813685248) (by omega) (by omega);have m0:=co a (by omega) (by omega);have m1:=co _ h1.1 (by omega);generalize eb:b+a / 2251799813685248=b' at *;have h2:0≤c+b' / 2251799813685248∧c+b' / 2251799813685248<2305843009213694977:=by omega
 have w2:=aC (c+b' / 2251799813685248) (by omega) (by omega);have m2:=co _ h2.1 (by omega);generalize ec:c+b' / 2251799813685248=c' at *;have h3:0≤d+c' / 2251799813685248∧d+c' / 2251799813685248<2305843009213694977:=by omega
 have w3:=aC (d+c' / 2251799813685248) (by omega) (by omega);have m3:=co _ h3.1 (by omega);generalize ed:d+c' / 2251799813685248=d' at *;have h4:0≤e+d' / 2251799813685248∧e+d' / 2251799813685248<2305843009213694977:=by omega
 have w4:=aC (e+d' / 2251799813685248) (by omega) (by omega);have m4:=co _ h4.1 (by omega);generalize ee:e+d' / 2251799813685248=e' at *;have w5:=aC (e' / 2251799813685248 * 19) (by omega) (by omega);have w6:=aC (a % 2251799813685248+e' / 2251799813685248 * 19) (by omega) (by omega);go_enter Tryz.func114,Tryz.ntmps114;go_wp2_with fail;exact bodyPost_ret (v:=five (a % 2251799813685248+e' / 2251799813685248 * 19) (b' % 2251799813685248) (c' % 2251799813685248) (d' % 2251799813685248) (e' % 2251799813685248)) (by simp[results,Tryz.results114,go_sem,five]) rfl
  ⟨_,_,_,_,_,_,rfl,⟨⟨by omega,by omega,by omega,by omega,by omega⟩,aj hv⟩,rfl⟩
theorem carried_ok (a b c d e:Int) (ha:0≤a∧a<2305843009213693952) (hb:0≤b∧b<2305843009213693952) (hc:0≤c∧c<2305843009213693952) (hd:0≤d∧d<2305843009213693952) (he:0≤e∧e<2305843009213693952) (w:World) :
  Calls Tryz.prog 114 #[.int .u64 a,.int .u64 b,.int .u64 c,.int .u64 d,.int .u64 e] w (Reck (val a b c d e) w) :=
 (dI a b c d e ha hb hc hd he w).mono fun _ _ h=>h.all
def cq (h l:Int):Int:=h * 18446744073709551616+l
def W2 (h l:Int):Prop:=(0≤h∧h<18446744073709551616)∧(0≤l∧l<18446744073709551616)
theorem over_num (h l:Int) (hw:W2 h l) (hn:cq h l<41538374868278621028243970633760768) :
  (h * 8192+l / 2251799813685248)=cq h l / 2251799813685248∧h<2251799813685248:=by
 unfold cq W2 at *;omega
theorem or_join (h r:Int) (h0:0≤h) (h1:h<2251799813685248) (r0:0≤r) (r1:r<8192):bits .or .u64 (h * 8192) r=h * 8192+r:=by
 obtain⟨a,rfl⟩:=Int.eq_ofNat_of_zero_le h0;obtain⟨b,rfl⟩:=Int.eq_ofNat_of_zero_le r0;have e:((a:Int) * 8192)=((a * 8192:Nat):Int):=by simp
 rw[e,bits_or_u64_nat _ _ (by omega) (by omega)];have:=Nat.shiftLeft_add_eq_or_of_lt (show b<2 ^ 13 by omega) a;rw[Nat.shiftLeft_eq] at this;rw[← this];simp
theorem over_ok (h l:Int) (hw:W2 h l) (hn:cq h l<41538374868278621028243970633760768) (w:World) :
  Calls Tryz.prog 186 #[two h l] w (fun r w'=>r=.returned (.int .u64 (cq h l / 2251799813685248))∧Gr w w'):=by
 obtain⟨e,hb⟩:=over_num h l hw hn;have hh:=hw.1;have hl:=hw.2;have w1:IntKind.u64.wrap (h * 8192)=h * 8192:=aC _ (by omega) (by omega);have o1:bits .or .u64 (h * 8192) (l / 2251799813685248)=cq h l / 2251799813685248:=by
  rw[← e];exact or_join h (l / 2251799813685248) (by omega) (by omega) (by omega) (by omega)
 unfold two;go_enter Tryz.func186,Tryz.ntmps186;go_wp2_with fail;exact bodyPost_ret (v:=.int .u64 (cq h l / 2251799813685248)) (by simp[results,Tryz.results186,go_sem]) rfl ⟨rfl,(Gr.refl _).alloc _⟩
theorem maskN (a:Nat) (ha:a<18446744073709551616):bits .and .u64 (a:Int) 4294967295=((a % 4294967296:Nat):Int):=by
 have h:=bits_and_u64_nat a 4294967295 ha (by omega);have e:a &&& 4294967295=a % 4294967296:=Nat.and_two_pow_sub_one_eq_mod a 32;rw[e] at h;exact h
theorem divN (a:Nat):(a:Int) / 4294967296=((a / 4294967296:Nat):Int):=by omega
theorem mulN (a b:Nat):(a:Int) * (b:Int)=((a * b:Nat):Int):=(Int.natCast_mul a b).symm
theorem addN (a b:Nat):(a:Int)+(b:Int)=((a+b:Nat):Int):=(Int.natCast_add a b).symm
theorem wrapN (a:Nat) (ha:a<18446744073709551616):IntKind.u64.wrap (a:Int)=(a:Int):=by rw[IntKind.wrap_u64]; omega
theorem wrapM (a:Nat):IntKind.u64.wrap (a:Int)=((a % 18446744073709551616:Nat):Int):=by rw[IntKind.wrap_u64]; omega
theorem mul64_ok (x y:Int) (hx:0≤x∧x<18446744073709551616) (hy:0≤y∧y<18446744073709551616) (w:World) :
  Calls Tryz.prog 187 #[.int .u64 x,.int .u64 y] w (fun r w'=>r=.returned (.tuple #[.int .u64 (x * y / 18446744073709551616),.int .u64 (x * y % 18446744073709551616)])∧w'=w):=by
 obtain⟨x,rfl⟩:=Int.eq_ofNat_of_zero_le hx.1;obtain⟨y,rfl⟩:=Int.eq_ofNat_of_zero_le hy.1;have hx:x<18446744073709551616:=by omega
 have hy:y<18446744073709551616:=by omega
 obtain⟨bd,bt,bw,hhi⟩:=Lib.mul64_hi x y hx hy;have ba:=Lib.half_mul_le (a:=x / 4294967296) (b:=y / 4294967296) (by omega) (by omega);have bb:=Lib.half_mul_le (a:=x / 4294967296) (b:=y % 4294967296) (by omega) (by omega);have bc:=Lib.half_mul_le (a:=x % 4294967296) (b:=y / 4294967296) (by omega) (by omega);have ba':x / 4294967296 * (y / 4294967296)<18446744073709551616:=by omega
 have bb':x / 4294967296 * (y % 4294967296)<18446744073709551616:=by omega
 have bc':x % 4294967296 * (y / 4294967296)<18446744073709551616:=by omega
 have bh1:x / 4294967296 * (y / 4294967296)+(x / 4294967296 * (y % 4294967296)+x % 4294967296 * (y % 4294967296) / 4294967296) / 4294967296<18446744073709551616:=by omega
 have bh:x / 4294967296 * (y / 4294967296)+(x / 4294967296 * (y % 4294967296)+x % 4294967296 * (y % 4294967296) / 4294967296) / 4294967296+((x / 4294967296 * (y % 4294967296)+x % 4294967296 * (y % 4294967296) / 4294967296) % 4294967296+x % 4294967296 * (y / 4294967296)) / 4294967296<18446744073709551616:=by omega
 go_enter Tryz.func187,Tryz.ntmps187;go_wp2;simp only[maskN x hx,maskN y hy,divN,mulN,addN,wrapN _ bd,wrapN _ bb',wrapN _ bt,maskN _ bt,wrapN _ bc',wrapN _ bw,wrapN _ ba',wrapN _ bh1,wrapN _ bh,wrapM (x * y)];rw[hhi]
 go_ret2
 exact⟨rfl,rfl⟩
theorem add64_ok (x y:Int) (hx:0≤x) (hy:0≤y) (w:World) :
  (callFunc 188 #[.int .u64 x,.int .u64 y,.int .u64 0]).run Tryz.prog w=.ok (.value (.tuple #[.int .u64 ((x+y) % 18446744073709551616),.int .u64 ((x+y) / 18446744073709551616)])) w:=by
 rw[run_callFunc_extern Tryz.func188 aa aa aa (e:=add64Entry) aa,run_add64 x y 0 hx hy (by omega) (by omega)];simp only[Result.andThen,Int.add_zero]
def Sums (n:Int) (w:World) (r:Ending) (w':World):Prop:=∃ h l,r=.returned (two h l)∧W2 h l∧cq h l=n∧Gr w w'
theorem and_ok (h l x y:Int) (hw:W2 h l) (hx:0≤x∧x<18446744073709551616) (hy:0≤y∧y<18446744073709551616) (hn:cq h l+x * y<340282366920938463463374607431768211456) (w:World) :
  Calls Tryz.prog 151 #[two h l,.int .u64 x,.int .u64 y] w (Sums (cq h l+x * y) w):=by
 have hh:=hw.1;have hl:=hw.2;have hp:0≤x * y:=Int.mul_nonneg hx.1 hy.1;have m:=mul64_ok x y hx hy;generalize x * y=q at *;have hq:q / 18446744073709551616<18446744073709551616:=by unfold cq at hn; omega
 have w1:IntKind.u64.wrap (h+q / 18446744073709551616)=h+q / 18446744073709551616:=aC _ (by omega) (by unfold cq at hn; omega);have w2:IntKind.u64.wrap (h+q / 18446744073709551616+(q % 18446744073709551616+l) / 18446744073709551616)=h+q / 18446744073709551616+(q % 18446744073709551616+l) / 18446744073709551616:=aC _ (by omega) (by unfold cq at hn; omega);have ad:=add64_ok (q % 18446744073709551616) l (by omega) hl.1;have fin:cq (h+q / 18446744073709551616+(q % 18446744073709551616+l) / 18446744073709551616) ((q % 18446744073709551616+l) % 18446744073709551616)=cq h l+q:=by unfold cq; omega
 have fin:=ao fin;have bw:W2 (h+q / 18446744073709551616+(q % 18446744073709551616+l) / 18446744073709551616) ((q % 18446744073709551616+l) % 18446744073709551616):=by unfold cq at hn; unfold W2; omega
 have bw:=ao bw;have hn:=ao hn;unfold two;go_enter Tryz.func151,Tryz.ntmps151;go_wp2_with (go_at_call 187; refine(m _).mono ?_; rintro r1 w1 ⟨rfl,rfl⟩);exact bodyPost_ret (v:=two (h+q / 18446744073709551616+(q % 18446744073709551616+l) / 18446744073709551616) ((q % 18446744073709551616+l) % 18446744073709551616)) (by simp[results,Tryz.results151,go_sem,two]) rfl ⟨_,_,rfl,aj bw,aj fin,((Gr.refl _).alloc _).alloc _⟩
def Ov (h l:Int):Prop:=W2 h l∧cq h l<41538374868278621028243970633760768
theorem over_at (h l:Int) (hw:Hid (Ov h l)) (w:World) :
  Calls Tryz.prog 186 #[.agg #[.int .u64 h,.int .u64 l]] w (fun r w'=>r=.returned (.int .u64 (cq h l / 2251799813685248))∧Gr w w'):=over_ok h l (aj hw).1 (aj hw).2 w
theorem set5c {v:World} {b k o:Nat} {x0 x1 x2 x3 x4 y:Value} (hne:k≠b) (h:v.cell? ⟨k,o,none⟩=some y) :
  (((((v.setCell ⟨b,0,none⟩ x0).setCell ⟨b,1,none⟩ x1).setCell ⟨b,2,none⟩ x2).setCell ⟨b,3,none⟩ x3).setCell ⟨b,4,none⟩ x4).cell? ⟨k,o,none⟩=some y:=by
 rw[← h];refine World.cell?_of_block ?_;exact(Below.heap_setCell _ ⟨b,4,none⟩ _ k hne).trans ((Below.heap_setCell _ ⟨b,3,none⟩ _ k hne).trans ((Below.heap_setCell _ ⟨b,2,none⟩ _ k hne).trans ((Below.heap_setCell _ ⟨b,1,none⟩ _ k hne).trans (Below.heap_setCell _ ⟨b,0,none⟩ _ k hne))))
theorem six (w:World) (o0 o1 o2 o3 o4 o5:Obj) (u:World) (h:(((((w.alloc o0).alloc o1).alloc o2).alloc o3).alloc o4).alloc o5=u) :
  u.heap[w.heap.size]?=some o0∧u.heap[w.heap.size+1]?=some o1∧u.heap[w.heap.size+1+1]?=some o2∧u.heap[w.heap.size+1+1+1]?=some o3∧u.heap[w.heap.size+1+1+1+1]?=some o4∧u.heap[w.heap.size+1+1+1+1+1]?=some o5:=by
 rw[← h];refine⟨?_,?_,?_,?_,?_,?_⟩ <;> (simp only[bT,aB]; repeat (first | rw[if_pos trivial] | rw[if_pos (by omega)] | rw[if_neg (by omega)]))
theorem narrow_val (a b c d e:Int) :
  val (a % 2251799813685248+e / 2251799813685248 * 19) (b % 2251799813685248+a / 2251799813685248) (c % 2251799813685248+b / 2251799813685248) (d % 2251799813685248+c / 2251799813685248) (e % 2251799813685248+d / 2251799813685248) % pp=val a b c d e % pp:=by
 unfold val pp;omega
theorem low_num (h l:Int) (_:W2 h l):l % 2251799813685248=cq h l % 2251799813685248:=by unfold cq; omega
theorem narrowed_ok (ah al bh bl ch cl dh dl eh el a b c d e:Int) (ha:W2 ah al) (hb:W2 bh bl) (hc:W2 ch cl) (hd:W2 dh dl) (he:W2 eh el)
  (na:cq ah al=a) (nb:cq bh bl=b) (nc:cq ch cl=c) (nd:cq dh dl=d) (ne:cq eh el=e)
  (la:a<2596148429267413814265248164610048) (lb:b<2596148429267413814265248164610048) (lc:c<2596148429267413814265248164610048) (ld:d<2596148429267413814265248164610048) (le:e<162259276829213363391578010288128) (w:World) :
  Calls Tryz.prog 150 #[two ah al,two bh bl,two ch cl,two dh dl,two eh el] w (Reck (val a b c d e) w):=by
 have oa:Hid (Ov ah al):=ao ⟨ha,by omega⟩;have ob:Hid (Ov bh bl):=ao ⟨hb,by omega⟩;have oc:Hid (Ov ch cl):=ao ⟨hc,by omega⟩;have od:Hid (Ov dh dl):=ao ⟨hd,by omega⟩;have oe:Hid (Ov eh el):=ao ⟨he,by omega⟩;have a0:0≤a:=by unfold cq W2 at *; omega
 have b0:0≤b:=by unfold cq W2 at *; omega
 have c0:0≤c:=by unfold cq W2 at *; omega
 have d0:0≤d:=by unfold cq W2 at *; omega
 have e0:0≤e:=by unfold cq W2 at *; omega
 have ma:bits .and .u64 al 2251799813685247=a % 2251799813685248:=by rw[co al ha.2.1 ha.2.2,low_num ah al ha,na]
 have mb:bits .and .u64 bl 2251799813685247=b % 2251799813685248:=by rw[co bl hb.2.1 hb.2.2,low_num bh bl hb,nb]
 have mc:bits .and .u64 cl 2251799813685247=c % 2251799813685248:=by rw[co cl hc.2.1 hc.2.2,low_num ch cl hc,nc]
 have md:bits .and .u64 dl 2251799813685247=d % 2251799813685248:=by rw[co dl hd.2.1 hd.2.2,low_num dh dl hd,nd]
 have me:bits .and .u64 el 2251799813685247=e % 2251799813685248:=by rw[co el he.2.1 he.2.2,low_num eh el he,ne]
 have x0:=aC (e / 2251799813685248 * 19) (by omega) (by omega);have x1:=aC (a % 2251799813685248+e / 2251799813685248 * 19) (by omega) (by omega);have x2:=aC (b % 2251799813685248+a / 2251799813685248) (by omega) (by omega);have x3:=aC (c % 2251799813685248+b / 2251799813685248) (by omega) (by omega);have x4:=aC (d % 2251799813685248+c / 2251799813685248) (by omega) (by omega);have x5:=aC (e % 2251799813685248+d / 2251799813685248) (by omega) (by omega);have ca:=carried_ok (a % 2251799813685248+e / 2251799813685248 * 19) (b % 2251799813685248+a / 2251799813685248) (c % 2251799813685248+b / 2251799813685248) (d % 2251799813685248+c / 2251799813685248) (e % 2251799813685248+d / 2251799813685248) (by omega) (by omega) (by omega) (by omega) (by omega);have cb:=ca;clear ca
 have ca:∀ w,Calls Tryz.prog 114 #[.int .u64 (a % 2251799813685248+e / 2251799813685248 * 19),.int .u64 (b % 2251799813685248+a / 2251799813685248),.int .u64 (c % 2251799813685248+b / 2251799813685248),.int .u64 (d % 2251799813685248+c / 2251799813685248),.int .u64 (e % 2251799813685248+d / 2251799813685248)] w (Reck (val a b c d e) w):=fun w=>(cb w).mono (fun r w' h=>h.same (narrow_val a b c d e));clear cb ha hb hc hd he;replace ca:=ao ca;clear a0 b0 c0 d0 e0 la lb lc ld le;unfold two;go_enter Tryz.func150,Tryz.ntmps150;go_wp2_with fail;generalize hW:World.alloc _ _=u;have hg0:Gr w u:=by rw[← hW]; exact((((((Gr.refl _).alloc _).alloc _).alloc _).alloc _).alloc _).alloc _
 obtain⟨B0,B1,B2,B3,B4,B5⟩:=six w _ _ _ _ _ _ u hW;have hS0:(u.cell? ⟨w.heap.size,0,none⟩=some (.int .u64 ah)∧u.cell? ⟨w.heap.size,1,none⟩=some (.int .u64 al)∧u.cell? ⟨w.heap.size+1,0,none⟩=some (.int .u64 bh)∧u.cell? ⟨w.heap.size+1,1,none⟩=some (.int .u64 bl)∧u.cell? ⟨w.heap.size+1+1,0,none⟩=some (.int .u64 ch)∧u.cell? ⟨w.heap.size+1+1,1,none⟩=some (.int .u64 cl)∧u.cell? ⟨w.heap.size+1+1+1,0,none⟩=some (.int .u64 dh)∧u.cell? ⟨w.heap.size+1+1+1,1,none⟩=some (.int .u64 dl)∧u.cell? ⟨w.heap.size+1+1+1+1,0,none⟩=some (.int .u64 eh)∧u.cell? ⟨w.heap.size+1+1+1+1,1,none⟩=some (.int .u64 el)∧Hid (Res w (w.heap.size+1+1+1+1+1) 5 138 u)):=⟨aw B0 rfl,aw B0 rfl,aw B1 rfl,aw B1 rfl,aw B2 rfl,aw B2 rfl,aw B3 rfl,aw B3 rfl,aw B4 rfl,aw B4 rfl,ao ⟨hg0,by omega,_,rfl,B5⟩⟩;clear hW
 have keepS:∀ u v:World,Gr u v→(u.cell? ⟨w.heap.size,0,none⟩=some (.int .u64 ah)∧u.cell? ⟨w.heap.size,1,none⟩=some (.int .u64 al)∧u.cell? ⟨w.heap.size+1,0,none⟩=some (.int .u64 bh)∧u.cell? ⟨w.heap.size+1,1,none⟩=some (.int .u64 bl)∧u.cell? ⟨w.heap.size+1+1,0,none⟩=some (.int .u64 ch)∧u.cell? ⟨w.heap.size+1+1,1,none⟩=some (.int .u64 cl)∧u.cell? ⟨w.heap.size+1+1+1,0,none⟩=some (.int .u64 dh)∧u.cell? ⟨w.heap.size+1+1+1,1,none⟩=some (.int .u64 dl)∧u.cell? ⟨w.heap.size+1+1+1+1,0,none⟩=some (.int .u64 eh)∧u.cell? ⟨w.heap.size+1+1+1+1,1,none⟩=some (.int .u64 el)∧Hid (Res w (w.heap.size+1+1+1+1+1) 5 138 u))→(v.cell? ⟨w.heap.size,0,none⟩=some (.int .u64 ah)∧v.cell? ⟨w.heap.size,1,none⟩=some (.int .u64 al)∧v.cell? ⟨w.heap.size+1,0,none⟩=some (.int .u64 bh)∧v.cell? ⟨w.heap.size+1,1,none⟩=some (.int .u64 bl)∧v.cell? ⟨w.heap.size+1+1,0,none⟩=some (.int .u64 ch)∧v.cell? ⟨w.heap.size+1+1,1,none⟩=some (.int .u64 cl)∧v.cell? ⟨w.heap.size+1+1+1,0,none⟩=some (.int .u64 dh)∧v.cell? ⟨w.heap.size+1+1+1,1,none⟩=some (.int .u64 dl)∧v.cell? ⟨w.heap.size+1+1+1+1,0,none⟩=some (.int .u64 eh)∧v.cell? ⟨w.heap.size+1+1+1+1,1,none⟩=some (.int .u64 el)∧Hid (Res w (w.heap.size+1+1+1+1+1) 5 138 v)):=fun u v g h=>⟨g.cell h.1,g.cell h.2.1,g.cell h.2.2.1,g.cell h.2.2.2.1,g.cell h.2.2.2.2.1,g.cell h.2.2.2.2.2.1,g.cell h.2.2.2.2.2.2.1,g.cell h.2.2.2.2.2.2.2.1,g.cell h.2.2.2.2.2.2.2.2.1,g.cell h.2.2.2.2.2.2.2.2.2.1,ao ((aj h.2.2.2.2.2.2.2.2.2.2).gr g)⟩
 replace keepS:=ao keepS
 go_region_held (fun v=>(v.cell? ⟨w.heap.size,0,none⟩=some (.int .u64 ah)∧v.cell? ⟨w.heap.size,1,none⟩=some (.int .u64 al)∧v.cell? ⟨w.heap.size+1,0,none⟩=some (.int .u64 bh)∧v.cell? ⟨w.heap.size+1,1,none⟩=some (.int .u64 bl)∧v.cell? ⟨w.heap.size+1+1,0,none⟩=some (.int .u64 ch)∧v.cell? ⟨w.heap.size+1+1,1,none⟩=some (.int .u64 cl)∧v.cell? ⟨w.heap.size+1+1+1,0,none⟩=some (.int .u64 dh)∧v.cell? ⟨w.heap.size+1+1+1,1,none⟩=some (.int .u64 dl)∧v.cell? ⟨w.heap.size+1+1+1+1,0,none⟩=some (.int .u64 eh)∧v.cell? ⟨w.heap.size+1+1+1+1,1,none⟩=some (.int .u64 el)∧Hid (Res w (w.heap.size+1+1+1+1+1) 5 138 v))) (first | exact aj keepS _ _ (by assumption) (by assumption) | exact aj keepS _ _ (Gr.refl _).drew (by assumption) | exact⟨set5c (by omega) hS.1,set5c (by omega) hS.2.1,set5c (by omega) hS.2.2.1,set5c (by omega) hS.2.2.2.1,set5c (by omega) hS.2.2.2.2.1,set5c (by omega) hS.2.2.2.2.2.1,set5c (by omega) hS.2.2.2.2.2.2.1,set5c (by omega) hS.2.2.2.2.2.2.2.1,set5c (by omega) hS.2.2.2.2.2.2.2.2.1,set5c (by omega) hS.2.2.2.2.2.2.2.2.2.1,hF⟩)
  (first
   | (go_at_call 114; refine(aj ca _).mono ?_; rintro r w' ⟨y0,y1,y2,y3,y4,rfl,hR,hg⟩; have hS:=aj keepS _ _ hg (by assumption); replace hR:=ao hR; have hE:=aj hS.2.2.2.2.2.2.2.2.2.2; obtain⟨q0,hq0⟩:=hE.cell 0 (by decide); obtain⟨q1,hq1⟩:=hE.cell 1 (by decide); obtain⟨q2,hq2⟩:=hE.cell 2 (by decide); obtain⟨q3,hq3⟩:=hE.cell 3 (by decide); obtain⟨q4,hq4⟩:=hE.cell 4 (by decide); have z0:=hE.froz 0; have z1:=hE.froz 1; have z2:=hE.froz 2; have z3:=hE.froz 3; have z4:=hE.froz 4; have hF:=ao (((((hE.set 0 (.int .u64 y0)).set 1 (.int .u64 y1)).set 2 (.int .u64 y2)).set 3 (.int .u64 y3)).set 4 (.int .u64 y4)); unfold five)
   | (go_at_call 186; refine(over_at _ _ (by assumption) _).mono ?_; rintro r w' ⟨rfl,hg⟩))
 all_goals go_wp2_with fail
 all_goals refine bodyPost_ret (v:=five y0 y1 y2 y3 y4) ?_ rfl ?_
 ·simp[results,Tryz.results150,go_sem,five,hq0,hq1,hq2,hq3,hq4]
 ·exact⟨_,_,_,_,_,rfl,aj hR,(aj hF).1⟩
theorem mul_val (a0 a1 a2 a3 a4 b0 b1 b2 b3 b4:Int) :
  val (0+a0 * b0+a1 * (b4 * 19)+a2 * (b3 * 19)+a3 * (b2 * 19)+a4 * (b1 * 19))
   (0+a0 * b1+a1 * b0+a2 * (b4 * 19)+a3 * (b3 * 19)+a4 * (b2 * 19))
   (0+a0 * b2+a1 * b1+a2 * b0+a3 * (b4 * 19)+a4 * (b3 * 19))
   (0+a0 * b3+a1 * b2+a2 * b1+a3 * b0+a4 * (b4 * 19))
   (0+a0 * b4+a1 * b3+a2 * b2+a3 * b1+a4 * b0)
  + pp * (a1 * b4+a2 * b3+a3 * b2+a4 * b1+(a2 * b4+a3 * b3+a4 * b2) * 2251799813685248+(a3 * b4+a4 * b3) * 5070602400912917605986812821504+a4 * b4 * 11417981541647679048466287755595961091061972992)
  = val a0 a1 a2 a3 a4 * val b0 b1 b2 b3 b4:=by
 unfold val pp
 grind
theorem mul_mod (m n x y:Int) (h:x % pp=m % pp) (h':y % pp=n % pp):x * y % pp=m * n % pp:=by
 rw[Int.mul_emod,h,h',← Int.mul_emod]
theorem aY {x y X Y:Int} (hx:0≤x∧x<X) (hy:0≤y∧y<Y):0≤x * y∧x * y≤X * Y:=by
 refine⟨Int.mul_nonneg hx.1 hy.1,?_⟩;exact Int.mul_le_mul (by omega) (by omega) hy.1 (by omega)
theorem _root_.Go.Proofs.YtbkkibhhfmgojaaGreatDoor.Res.five {w v:World} {b:Nat} {t:TypeId} (h:Res w b 5 t v):∃ q0 q1 q2 q3 q4,v.cell? ⟨b,0,none⟩=some q0∧v.cell? ⟨b,1,none⟩=some q1∧v.cell? ⟨b,2,none⟩=some q2∧v.cell? ⟨b,3,none⟩=some q3∧v.cell? ⟨b,4,none⟩=some q4 ∧
  v.frozen? ⟨b,0,none⟩=false∧v.frozen? ⟨b,1,none⟩=false∧v.frozen? ⟨b,2,none⟩=false∧v.frozen? ⟨b,3,none⟩=false∧v.frozen? ⟨b,4,none⟩=false:=by
 obtain⟨q0,h0⟩:=h.cell 0 (by decide);obtain⟨q1,h1⟩:=h.cell 1 (by decide);obtain⟨q2,h2⟩:=h.cell 2 (by decide);obtain⟨q3,h3⟩:=h.cell 3 (by decide);obtain⟨q4,h4⟩:=h.cell 4 (by decide);exact⟨q0,q1,q2,q3,q4,h0,h1,h2,h3,h4,h.froz 0,h.froz 1,h.froz 2,h.froz 3,h.froz 4⟩
theorem _root_.Go.Proofs.YtbkkibhhfmgojaaGreatDoor.Res.set5 {w v:World} {b:Nat} {t:TypeId} (h:Res w b 5 t v) (x0 x1 x2 x3 x4:Value):Res w b 5 t (((((v.setCell ⟨b,0,none⟩ x0).setCell ⟨b,1,none⟩ x1).setCell ⟨b,2,none⟩ x2).setCell ⟨b,3,none⟩ x3).setCell ⟨b,4,none⟩ x4) :=
 ((((h.set 0 x0).set 1 x1).set 2 x2).set 3 x3).set 4 x4
theorem res22 {w v:World} {o:Obj} {cs:Array Value} {t:TypeId} {n:Nat} (hg:Gr ((w.alloc o).alloc (.cells cs t (0,0))) v) (hn:cs.size=n):Res w (w.heap.size+1) n t v:=by
 refine Res.gr ⟨((Gr.refl _).alloc _).alloc _,by omega,cs,hn,?_⟩ hg;simp only[bT,aB];rw[if_pos trivial]
end Go.Proofs.YtbkkibhhfmgojaaGreatDoor.Cv
namespace Go.Proofs.YtbkkibhhfmgojaaGreatDoor.Cv
open Go.RowKit
attribute [local go_sem ↓] Go.wp_at_zero Go.wp_at_succ
def Sm (h l n:Int):Prop:=W2 h l∧cq h l=n
def Wd (x:Int):Prop:=0≤x∧x<18446744073709551616
def Lo (n:Int):Prop:=n<340282366920938463463374607431768211456
def Nx (n x y n':Int):Prop:=Wd x∧Wd y∧n'=n+x * y∧Lo n'
theorem and_at (h l x y n n':Int) (hs:Hid (Sm h l n)) (hx:Hid (Nx n x y n')) (w:World) :
  Calls Tryz.prog 151 #[.agg #[.int .u64 h,.int .u64 l],.int .u64 x,.int .u64 y] w (fun r w'=>∃ h' l',r=.returned (.agg #[.int .u64 h',.int .u64 l'])∧Hid (Sm h' l' n')∧Gr w w'):=by
 obtain⟨vx,vy,e2,hn⟩:=aj hx;clear hx;have e:=(aj hs).2;subst e;subst e2;refine(and_ok h l x y (aj hs).1 vx vy hn w).mono ?_;rintro r w' ⟨h',l',h1,h2,h3,h4⟩;exact⟨h',l',h1,ao ⟨h2,h3⟩,h4⟩
def Nb (a b c d e:Int):Prop:=a<2596148429267413814265248164610048∧b<2596148429267413814265248164610048∧c<2596148429267413814265248164610048∧d<2596148429267413814265248164610048∧e<162259276829213363391578010288128
theorem narrow_at (ah al bh bl ch cl dh dl eh el a b c d e:Int) (ha:Hid (Sm ah al a)) (hb:Hid (Sm bh bl b)) (hc:Hid (Sm ch cl c)) (hd:Hid (Sm dh dl d)) (he:Hid (Sm eh el e)) (hn:Hid (Nb a b c d e)) (w:World) :
  Calls Tryz.prog 150 #[.agg #[.int .u64 ah,.int .u64 al],.agg #[.int .u64 bh,.int .u64 bl],.agg #[.int .u64 ch,.int .u64 cl],.agg #[.int .u64 dh,.int .u64 dl],.agg #[.int .u64 eh,.int .u64 el]] w (Reck (val a b c d e) w) :=
 narrowed_ok ah al bh bl ch cl dh dl eh el a b c d e (aj ha).1 (aj hb).1 (aj hc).1 (aj hd).1 (aj he).1 (aj ha).2 (aj hb).2 (aj hc).2 (aj hd).2 (aj he).2 (aj hn).1 (aj hn).2.1 (aj hn).2.2.1 (aj hn).2.2.2.1 (aj hn).2.2.2.2 w
theorem four (w:World) (o0 o1 o2 o3:Obj) (k:Nat) (u:World) (h:((((w.alloc o0).alloc o1).alloc o2).drewN k).alloc o3=u) :
  Gr w u∧u.heap[w.heap.size+1+1]?=some o2∧u.heap[w.heap.size+1+1+1]?=some o3:=by
 have e:∀ v:World,(v.drewN k).heap=v.heap:=fun _=>rfl;rw[← h];refine⟨((((Gr.refl _).alloc _).alloc _).alloc _).drewN k |>.alloc _,?_,?_⟩ <;> (simp only[bT,aB,e]; repeat (first | rw[if_pos trivial] | rw[if_pos (by omega)] | rw[if_neg (by omega)]))
theorem mul_ok (m n a0 a1 a2 a3 a4 b0 b1 b2 b3 b4:Int) (h:Rep m a0 a1 a2 a3 a4) (h':Rep n b0 b1 b2 b3 b4) (w:World) :
  Calls Tryz.prog 125 #[five a0 a1 a2 a3 a4,five b0 b1 b2 b3 b4] w (Reck (m * n) w):=by
 obtain⟨⟨ha0,ha1,ha2,ha3,ha4⟩,hv⟩:=h;obtain⟨⟨hb0,hb1,hb2,hb3,hb4⟩,hv'⟩:=h';have hm:=mul_mod m n _ _ hv hv';rw[← mul_val,Int.add_mul_emod_self_left] at hm;clear hv hv';have ww1:=aC (b1 * 19) (by omega) (by omega);have hw1:0≤b1 * 19∧b1 * 19<42784196460019712:=by omega
 generalize ew1:b1 * 19=w1 at *;have ww2:=aC (b2 * 19) (by omega) (by omega);have hw2:0≤b2 * 19∧b2 * 19<42784196460019712:=by omega
 generalize ew2:b2 * 19=w2 at *;have ww3:=aC (b3 * 19) (by omega) (by omega);have hw3:0≤b3 * 19∧b3 * 19<42784196460019712:=by omega
 generalize ew3:b3 * 19=w3 at *;have ww4:=aC (b4 * 19) (by omega) (by omega);have hw4:0≤b4 * 19∧b4 * 19<42784196460019712:=by omega
 generalize ew4:b4 * 19=w4 at *;have p0b0:=aY ha0 hb0;have p1w4:=aY ha1 hw4;have p2w3:=aY ha2 hw3;have p3w2:=aY ha3 hw2;have p4w1:=aY ha4 hw1;have p0b1:=aY ha0 hb1;have p1b0:=aY ha1 hb0;have p2w4:=aY ha2 hw4;have p3w3:=aY ha3 hw3;have p4w2:=aY ha4 hw2;have p0b2:=aY ha0 hb2;have p1b1:=aY ha1 hb1;have p2b0:=aY ha2 hb0;have p3w4:=aY ha3 hw4;have p4w3:=aY ha4 hw3;have p0b3:=aY ha0 hb3;have p1b2:=aY ha1 hb2;have p2b1:=aY ha2 hb1;have p3b0:=aY ha3 hb0;have p4w4:=aY ha4 hw4;have p0b4:=aY ha0 hb4;have p1b3:=aY ha1 hb3;have p2b2:=aY ha2 hb2;have p3b1:=aY ha3 hb1;have p4b0:=aY ha4 hb0;have s00e:∃ s,s=(0:Int)+a0 * b0:=⟨_,rfl⟩;obtain⟨s00,s00e⟩:=s00e;have s01e:∃ s,s=s00+a1 * w4:=⟨_,rfl⟩;obtain⟨s01,s01e⟩:=s01e;have s02e:∃ s,s=s01+a2 * w3:=⟨_,rfl⟩;obtain⟨s02,s02e⟩:=s02e;have s03e:∃ s,s=s02+a3 * w2:=⟨_,rfl⟩;obtain⟨s03,s03e⟩:=s03e;have s04e:∃ s,s=s03+a4 * w1:=⟨_,rfl⟩;obtain⟨s04,s04e⟩:=s04e
 have s10e:∃ s,s=(0:Int)+a0 * b1:=⟨_,rfl⟩;obtain⟨s10,s10e⟩:=s10e;have s11e:∃ s,s=s10+a1 * b0:=⟨_,rfl⟩;obtain⟨s11,s11e⟩:=s11e;have s12e:∃ s,s=s11+a2 * w4:=⟨_,rfl⟩;obtain⟨s12,s12e⟩:=s12e;have s13e:∃ s,s=s12+a3 * w3:=⟨_,rfl⟩;obtain⟨s13,s13e⟩:=s13e;have s14e:∃ s,s=s13+a4 * w2:=⟨_,rfl⟩;obtain⟨s14,s14e⟩:=s14e;have s20e:∃ s,s=(0:Int)+a0 * b2:=⟨_,rfl⟩;obtain⟨s20,s20e⟩:=s20e;have s21e:∃ s,s=s20+a1 * b1:=⟨_,rfl⟩;obtain⟨s21,s21e⟩:=s21e;have s22e:∃ s,s=s21+a2 * b0:=⟨_,rfl⟩;obtain⟨s22,s22e⟩:=s22e;have s23e:∃ s,s=s22+a3 * w4:=⟨_,rfl⟩;obtain⟨s23,s23e⟩:=s23e;have s24e:∃ s,s=s23+a4 * w3:=⟨_,rfl⟩;obtain⟨s24,s24e⟩:=s24e;have s30e:∃ s,s=(0:Int)+a0 * b3:=⟨_,rfl⟩;obtain⟨s30,s30e⟩:=s30e;have s31e:∃ s,s=s30+a1 * b2:=⟨_,rfl⟩;obtain⟨s31,s31e⟩:=s31e;have s32e:∃ s,s=s31+a2 * b1:=⟨_,rfl⟩;obtain⟨s32,s32e⟩:=s32e;have s33e:∃ s,s=s32+a3 * b0:=⟨_,rfl⟩;obtain⟨s33,s33e⟩:=s33e;have s34e:∃ s,s=s33+a4 * w4:=⟨_,rfl⟩
 obtain⟨s34,s34e⟩:=s34e;have s40e:∃ s,s=(0:Int)+a0 * b4:=⟨_,rfl⟩;obtain⟨s40,s40e⟩:=s40e;have s41e:∃ s,s=s40+a1 * b3:=⟨_,rfl⟩;obtain⟨s41,s41e⟩:=s41e;have s42e:∃ s,s=s41+a2 * b2:=⟨_,rfl⟩;obtain⟨s42,s42e⟩:=s42e;have s43e:∃ s,s=s42+a3 * b1:=⟨_,rfl⟩;obtain⟨s43,s43e⟩:=s43e;have s44e:∃ s,s=s43+a4 * b0:=⟨_,rfl⟩;obtain⟨s44,s44e⟩:=s44e;replace hm:val s04 s14 s24 s34 s44 % pp=m * n % pp:=by
  rw[s04e,s03e,s02e,s01e,s00e,s14e,s13e,s12e,s11e,s10e,s24e,s23e,s22e,s21e,s20e,s34e,s33e,s32e,s31e,s30e,s44e,s43e,s42e,s41e,s40e];exact hm
 replace hm:=ao hm;have n00:Hid (Nx 0 a0 b0 s00):=ao ⟨⟨by omega,by omega⟩,⟨by omega,by omega⟩,s00e,by unfold Lo; omega⟩;have n01:Hid (Nx s00 a1 w4 s01):=ao ⟨⟨by omega,by omega⟩,⟨by omega,by omega⟩,s01e,by unfold Lo; omega⟩;have n02:Hid (Nx s01 a2 w3 s02):=ao ⟨⟨by omega,by omega⟩,⟨by omega,by omega⟩,s02e,by unfold Lo; omega⟩;have n03:Hid (Nx s02 a3 w2 s03):=ao ⟨⟨by omega,by omega⟩,⟨by omega,by omega⟩,s03e,by unfold Lo; omega⟩;have n04:Hid (Nx s03 a4 w1 s04):=ao ⟨⟨by omega,by omega⟩,⟨by omega,by omega⟩,s04e,by unfold Lo; omega⟩;have n10:Hid (Nx 0 a0 b1 s10):=ao ⟨⟨by omega,by omega⟩,⟨by omega,by omega⟩,s10e,by unfold Lo; omega⟩;have n11:Hid (Nx s10 a1 b0 s11):=ao ⟨⟨by omega,by omega⟩,⟨by omega,by omega⟩,s11e,by unfold Lo; omega⟩;have n12:Hid (Nx s11 a2 w4 s12):=ao ⟨⟨by omega,by omega⟩,⟨by omega,by omega⟩,s12e,by unfold Lo; omega⟩
 have n13:Hid (Nx s12 a3 w3 s13):=ao ⟨⟨by omega,by omega⟩,⟨by omega,by omega⟩,s13e,by unfold Lo; omega⟩;have n14:Hid (Nx s13 a4 w2 s14):=ao ⟨⟨by omega,by omega⟩,⟨by omega,by omega⟩,s14e,by unfold Lo; omega⟩;have n20:Hid (Nx 0 a0 b2 s20):=ao ⟨⟨by omega,by omega⟩,⟨by omega,by omega⟩,s20e,by unfold Lo; omega⟩;have n21:Hid (Nx s20 a1 b1 s21):=ao ⟨⟨by omega,by omega⟩,⟨by omega,by omega⟩,s21e,by unfold Lo; omega⟩;have n22:Hid (Nx s21 a2 b0 s22):=ao ⟨⟨by omega,by omega⟩,⟨by omega,by omega⟩,s22e,by unfold Lo; omega⟩;have n23:Hid (Nx s22 a3 w4 s23):=ao ⟨⟨by omega,by omega⟩,⟨by omega,by omega⟩,s23e,by unfold Lo; omega⟩;have n24:Hid (Nx s23 a4 w3 s24):=ao ⟨⟨by omega,by omega⟩,⟨by omega,by omega⟩,s24e,by unfold Lo; omega⟩;have n30:Hid (Nx 0 a0 b3 s30):=ao ⟨⟨by omega,by omega⟩,⟨by omega,by omega⟩,s30e,by unfold Lo; omega⟩
 have n31:Hid (Nx s30 a1 b2 s31):=ao ⟨⟨by omega,by omega⟩,⟨by omega,by omega⟩,s31e,by unfold Lo; omega⟩;have n32:Hid (Nx s31 a2 b1 s32):=ao ⟨⟨by omega,by omega⟩,⟨by omega,by omega⟩,s32e,by unfold Lo; omega⟩;have n33:Hid (Nx s32 a3 b0 s33):=ao ⟨⟨by omega,by omega⟩,⟨by omega,by omega⟩,s33e,by unfold Lo; omega⟩;have n34:Hid (Nx s33 a4 w4 s34):=ao ⟨⟨by omega,by omega⟩,⟨by omega,by omega⟩,s34e,by unfold Lo; omega⟩;have n40:Hid (Nx 0 a0 b4 s40):=ao ⟨⟨by omega,by omega⟩,⟨by omega,by omega⟩,s40e,by unfold Lo; omega⟩;have n41:Hid (Nx s40 a1 b3 s41):=ao ⟨⟨by omega,by omega⟩,⟨by omega,by omega⟩,s41e,by unfold Lo; omega⟩;have n42:Hid (Nx s41 a2 b2 s42):=ao ⟨⟨by omega,by omega⟩,⟨by omega,by omega⟩,s42e,by unfold Lo; omega⟩;have n43:Hid (Nx s42 a3 b1 s43):=ao ⟨⟨by omega,by omega⟩,⟨by omega,by omega⟩,s43e,by unfold Lo; omega⟩
 have n44:Hid (Nx s43 a4 b0 s44):=ao ⟨⟨by omega,by omega⟩,⟨by omega,by omega⟩,s44e,by unfold Lo; omega⟩;have nb:Hid (Nb s04 s14 s24 s34 s44):=ao ⟨by omega,by omega,by omega,by omega,by omega⟩;clear p0b0 p1w4 p2w3 p3w2 p4w1 p0b1 p1b0 p2w4 p3w3 p4w2 p0b2 p1b1 p2b0 p3w4 p4w3 p0b3 p1b2 p2b1 p3b0 p4w4 p0b4 p1b3 p2b2 p3b1 p4b0 s04e s03e s02e s01e s00e s14e s13e s12e s11e s10e s24e s23e s22e s21e s20e s34e s33e s32e s31e s30e s44e s43e s42e s41e s40e ha0 hb0 ha1 hb1 ha2 hb2 ha3 hb3 ha4 hb4 hw1 hw2 hw3 hw4;have s0:Hid (Sm 0 0 0):=ao ⟨⟨by omega,by omega⟩,rfl⟩;unfold five;go_enter Tryz.func125,Tryz.ntmps125;go_wp2_with fail
 go_quiet (fail)
 all_goals go_wp2_with fail
 go_quiet (fail)
 all_goals go_wp2_with fail
 simp only[List.append_eq,List.cons_append,List.nil_append];generalize hW:World.alloc _ _=u;obtain⟨hg0,B2,B3⟩:=four w _ _ _ _ _ u hW;have hS0:u.cell? ⟨w.heap.size+1+1+1,0,none⟩=some (.int .u64 0)∧u.cell? ⟨w.heap.size+1+1+1,1,none⟩=some (.int .u64 0)∧Hid (Res w (w.heap.size+1+1) 5 140 u) :=
  ⟨aw B3 rfl,aw B3 rfl,ao ⟨hg0,by omega,_,rfl,B2⟩⟩
 have keepS:∀ u v:World,Gr u v→(u.cell? ⟨w.heap.size+1+1+1,0,none⟩=some (.int .u64 0)∧u.cell? ⟨w.heap.size+1+1+1,1,none⟩=some (.int .u64 0)∧Hid (Res w (w.heap.size+1+1) 5 140 u))→(v.cell? ⟨w.heap.size+1+1+1,0,none⟩=some (.int .u64 0)∧v.cell? ⟨w.heap.size+1+1+1,1,none⟩=some (.int .u64 0)∧Hid (Res w (w.heap.size+1+1) 5 140 v)) :=
  fun u v g h=>⟨g.cell h.1,g.cell h.2.1,ao ((aj h.2.2).gr g)⟩
 replace keepS:=ao keepS
 have keepT:∀ (v:World) (x0 x1 x2 x3 x4:Value),(v.cell? ⟨w.heap.size+1+1+1,0,none⟩=some (.int .u64 0)∧v.cell? ⟨w.heap.size+1+1+1,1,none⟩=some (.int .u64 0)∧Hid (Res w (w.heap.size+1+1) 5 140 v))→((((((v.setCell ⟨w.heap.size+1+1,0,none⟩ x0).setCell ⟨w.heap.size+1+1,1,none⟩ x1).setCell ⟨w.heap.size+1+1,2,none⟩ x2).setCell ⟨w.heap.size+1+1,3,none⟩ x3).setCell ⟨w.heap.size+1+1,4,none⟩ x4).cell? ⟨w.heap.size+1+1+1,0,none⟩=some (.int .u64 0)∧(((((v.setCell ⟨w.heap.size+1+1,0,none⟩ x0).setCell ⟨w.heap.size+1+1,1,none⟩ x1).setCell ⟨w.heap.size+1+1,2,none⟩ x2).setCell ⟨w.heap.size+1+1,3,none⟩ x3).setCell ⟨w.heap.size+1+1,4,none⟩ x4).cell? ⟨w.heap.size+1+1+1,1,none⟩=some (.int .u64 0)∧Hid (Res w (w.heap.size+1+1) 5 140 (((((v.setCell ⟨w.heap.size+1+1,0,none⟩ x0).setCell ⟨w.heap.size+1+1,1,none⟩ x1).setCell ⟨w.heap.size+1+1,2,none⟩ x2).setCell ⟨w.heap.size+1+1,3,none⟩ x3).setCell ⟨w.heap.size+1+1,4,none⟩ x4))):=fun v x0 x1 x2 x3 x4 h=>⟨set5c (by omega) h.1,set5c (by omega) h.2.1,ao ((aj h.2.2).set5 x0 x1 x2 x3 x4)⟩
 replace keepT:=ao keepT;clear hW B2 B3 hg0
 go_region_held3 (fun v=>v.cell? ⟨w.heap.size+1+1+1,0,none⟩=some (.int .u64 0)∧v.cell? ⟨w.heap.size+1+1+1,1,none⟩=some (.int .u64 0)∧Hid (Res w (w.heap.size+1+1) 5 140 v))
  (first | with_reducible exact aj keepS _ _ (by assumption) (by assumption) | with_reducible exact aj keepS _ _ (Gr.refl _).drew (by assumption) | with_reducible exact aj keepT _ _ _ _ _ _ (by assumption))
  (first
   | (go_at_call 150; refine(narrow_at _ _ _ _ _ _ _ _ _ _ _ _ _ _ _ (by assumption) (by assumption) (by assumption) (by assumption) (by assumption) (by assumption) _).mono ?_; rintro r w' ⟨y0,y1,y2,y3,y4,rfl,hR,hg⟩; have hS:=aj keepS _ _ hg (by assumption); clear n00 n01 n02 n03 n04 n10 n11 n12 n13 n14 n20 n21 n22 n23 n24 n30 n31 n32 n33 n34 n40 n41 n42 n43 n44 nb s0 ww1 ww2 ww3 ww4 ew1 ew2 ew3 ew4; replace hR:=ao hR; have hE:=aj hS.2.2; obtain⟨q0,q1,q2,q3,q4,hq0,hq1,hq2,hq3,hq4,z0,z1,z2,z3,z4⟩:=hE.five; have hF:=ao (hE.set5 (.int .u64 y0) (.int .u64 y1) (.int .u64 y2) (.int .u64 y3) (.int .u64 y4)); unfold five)
   | (go_at_call 151; (try clear hg); refine(and_at _ _ _ _ _ _ (by assumption) (by assumption) _).mono ?_; rintro r w' ⟨h1,l1,rfl,hs,hg⟩))
 all_goals go_wp2_with fail
 all_goals refine bodyPost_ret (v:=five y0 y1 y2 y3 y4) ?_ rfl ?_
 ·simp[results,Tryz.results125,go_sem,five,hq0,hq1,hq2,hq3,hq4]
 ·exact⟨_,_,_,_,_,rfl,⟨(aj hR).1,(aj hR).2.trans (aj hm)⟩,(aj hF).1⟩
end Go.Proofs.YtbkkibhhfmgojaaGreatDoor.Cv
namespace Go.Proofs.YtbkkibhhfmgojaaGreatDoor.Cv
open Go.RowKit
theorem least_val (a b c d e o1 o2 o3 o4 o5 u1 u2 u3 u4:Int) (ha:0≤a∧a<4503599627370496) (hb:0≤b∧b<2251799813685248) (hc:0≤c∧c<2251799813685248) (hd:0≤d∧d<2251799813685248) (he:0≤e∧e<2251799813685248)
  (e1:(19+a) / 2251799813685248=o1) (e2:(o1+b) / 2251799813685248=o2) (e3:(o2+c) / 2251799813685248=o3) (e4:(o3+d) / 2251799813685248=o4) (e5:(o4+e) / 2251799813685248=o5)
  (f1:(o5 * 19+a) / 2251799813685248=u1) (f2:(u1+b) / 2251799813685248=u2) (f3:(u2+c) / 2251799813685248=u3) (f4:(u3+d) / 2251799813685248=u4) :
  val ((o5 * 19+a) % 2251799813685248) ((u1+b) % 2251799813685248) ((u2+c) % 2251799813685248) ((u3+d) % 2251799813685248) ((u4+e) % 2251799813685248)=val a b c d e % pp:=by
 have h5:o5=0∨o5=1:=by omega
 have hv:val a b c d e+19 - 57896044618658097711785492504343953926634992332820282019728792003956564819968 * o5 ≥ 0∧val a b c d e+19 - 57896044618658097711785492504343953926634992332820282019728792003956564819968 * o5<57896044618658097711785492504343953926634992332820282019728792003956564819968:=by
  unfold val; omega
 have h0:0≤val a b c d e∧val a b c d e<57896044618658097711785492504343953926634992332820282019728796507556192190464:=by unfold val; omega
 have hr:val ((o5 * 19+a) % 2251799813685248) ((u1+b) % 2251799813685248) ((u2+c) % 2251799813685248) ((u3+d) % 2251799813685248) ((u4+e) % 2251799813685248)=val a b c d e+19 * o5 - 57896044618658097711785492504343953926634992332820282019728792003956564819968 * ((u4+e) / 2251799813685248):=by
  unfold val; omega
 have hb:0≤val ((o5 * 19+a) % 2251799813685248) ((u1+b) % 2251799813685248) ((u2+c) % 2251799813685248) ((u3+d) % 2251799813685248) ((u4+e) % 2251799813685248)∧val ((o5 * 19+a) % 2251799813685248) ((u1+b) % 2251799813685248) ((u2+c) % 2251799813685248) ((u3+d) % 2251799813685248) ((u4+e) % 2251799813685248)<57896044618658097711785492504343953926634992332820282019728792003956564819968:=by
  unfold val; omega
 rw[hr] at hb ⊢;generalize val a b c d e=v at *;generalize (u4+e) / 2251799813685248=t at *;unfold pp;clear e1 e2 e3 e4 e5 f1 f2 f3 f4 hr;rcases h5 with rfl | rfl
 ·have:t=0:=by omega
  subst this;omega
 ·have:t=1:=by omega
  subst this;omega
def Lst (a b c d e:Int) (r:Ending) (w w':World):Prop:=∃ y0 y1 y2 y3 y4,r=.returned (five y0 y1 y2 y3 y4)∧(0≤y0∧y0<2251799813685248)∧(0≤y1∧y1<2251799813685248)∧(0≤y2∧y2<2251799813685248)∧(0≤y3∧y3<2251799813685248)∧(0≤y4∧y4<2251799813685248)∧val y0 y1 y2 y3 y4=val a b c d e % pp∧∃ o o',w'=(w.alloc o).alloc o'
theorem least_ok (a b c d e:Int) (hf:Fit a b c d e) (w:World) :
  Calls Tryz.prog 115 #[five a b c d e] w (fun r w'=>Lst a b c d e r w w'):=by
 obtain⟨ha,hb,hc,hd,he⟩:=hf;have w1:=aC (19+a) (by omega) (by omega);generalize e1:(19+a) / 2251799813685248=o1 at *;have w2:=aC (o1+b) (by omega) (by omega);generalize e2:(o1+b) / 2251799813685248=o2 at *;have w3:=aC (o2+c) (by omega) (by omega);generalize e3:(o2+c) / 2251799813685248=o3 at *;have w4:=aC (o3+d) (by omega) (by omega);generalize e4:(o3+d) / 2251799813685248=o4 at *;have w5:=aC (o4+e) (by omega) (by omega);generalize e5:(o4+e) / 2251799813685248=o5 at *;have w6:=aC (o5 * 19) (by omega) (by omega);have v1:=aC (o5 * 19+a) (by omega) (by omega);have m1:=co (o5 * 19+a) (by omega) (by omega);generalize f1:(o5 * 19+a) / 2251799813685248=u1 at *;have v2:=aC (u1+b) (by omega) (by omega);have m2:=co (u1+b) (by omega) (by omega);generalize f2:(u1+b) / 2251799813685248=u2 at *;have v3:=aC (u2+c) (by omega) (by omega);have m3:=co (u2+c) (by omega) (by omega)
 generalize f3:(u2+c) / 2251799813685248=u3 at *;have v4:=aC (u3+d) (by omega) (by omega);have m4:=co (u3+d) (by omega) (by omega);generalize f4:(u3+d) / 2251799813685248=u4 at *;have v5:=aC (u4+e) (by omega) (by omega);have m5:=co (u4+e) (by omega) (by omega);have fin:=least_val a b c d e o1 o2 o3 o4 o5 u1 u2 u3 u4 ha hb hc hd he e1 e2 e3 e4 e5 f1 f2 f3 f4;replace fin:=ao fin;replace ha:=ao ha; replace hb:=ao hb; replace hc:=ao hc; replace hd:=ao hd; replace he:=ao he;have i0:∀ w,(Instr.index 138 (five a b c d e) (.int .i64 0)).run Tryz.prog w=.ok (.int .u64 a) w:=fun _=>by kernel_rfl
 have i1:∀ w,(Instr.index 138 (five a b c d e) (.int .i64 1)).run Tryz.prog w=.ok (.int .u64 b) w:=fun _=>by kernel_rfl
 have i2:∀ w,(Instr.index 138 (five a b c d e) (.int .i64 2)).run Tryz.prog w=.ok (.int .u64 c) w:=fun _=>by kernel_rfl
 have i3:∀ w,(Instr.index 138 (five a b c d e) (.int .i64 3)).run Tryz.prog w=.ok (.int .u64 d) w:=fun _=>by kernel_rfl
 have i4:∀ w,(Instr.index 138 (five a b c d e) (.int .i64 4)).run Tryz.prog w=.ok (.int .u64 e) w:=fun _=>by kernel_rfl
 unfold five at *;go_enter Tryz.func115,Tryz.ntmps115;go_wp2_with fail;refine wp_loop_rounds 6 ?_;rw[rounds_succ];go_wp2_with fail;rw[rounds_succ];go_wp2_with fail;rw[rounds_succ];go_wp2_with fail;rw[rounds_succ];go_wp2_with fail;rw[rounds_succ];go_wp2_with fail;rw[rounds_succ];go_wp2_with fail;refine wp_loop_rounds 6 ?_;rw[rounds_succ];go_wp2_with fail;rw[rounds_succ];go_wp2_with fail;rw[rounds_succ];go_wp2_with fail;rw[rounds_succ];go_wp2_with fail;rw[rounds_succ];go_wp2_with fail;rw[rounds_succ];go_wp2_with fail;exact bodyPost_ret (v:=five ((o5 * 19+a) % 2251799813685248) ((u1+b) % 2251799813685248) ((u2+c) % 2251799813685248) ((u3+d) % 2251799813685248) ((u4+e) % 2251799813685248)) (by simp[results,Tryz.results115,go_sem,five]) rfl
  ⟨_,_,_,_,_,rfl,by omega,by omega,by omega,by omega,by omega,aj fin,_,_,rfl⟩
theorem of_ok (n:Int) (h:0≤n∧n<18446744073709551616) (w:World):Calls Tryz.prog 147 #[.int .u64 n] w (Reck n w):=by
 have m:=co n h.1 h.2;have fin:val (n % 2251799813685248) (n / 2251799813685248) 0 0 0=n:=by unfold val; omega
 go_enter Tryz.func147,Tryz.ntmps147;go_wp2_with fail;exact bodyPost_ret (v:=five (n % 2251799813685248) (n / 2251799813685248) 0 0 0) (by simp[results,Tryz.results147,go_sem,five]) rfl
  ⟨_,_,_,_,_,rfl,⟨⟨by omega,by omega,by omega,by omega,by omega⟩,by rw[fin]⟩,(Gr.refl _).alloc _⟩
theorem val_add (a b c d e a' b' c' d' e':Int):val (a+a') (b+b') (c+c') (d+d') (e+e')=val a b c d e+val a' b' c' d' e':=by unfold val; omega
theorem add_ok (m n a b c d e a' b' c' d' e':Int) (h:Rep m a b c d e) (h':Rep n a' b' c' d' e') (w:World) :
  Calls Tryz.prog 182 #[five a b c d e,five a' b' c' d' e'] w (Reck (m+n) w):=by
 obtain⟨⟨ha,hb,hc,hd,he⟩,hv⟩:=h;obtain⟨⟨ha',hb',hc',hd',he'⟩,hv'⟩:=h';have w0:=aC (a+a') (by omega) (by omega);have w1:=aC (b+b') (by omega) (by omega);have w2:=aC (c+c') (by omega) (by omega);have w3:=aC (d+d') (by omega) (by omega);have w4:=aC (e+e') (by omega) (by omega);have cb:=dI (a+a') (b+b') (c+c') (d+d') (e+e') (by omega) (by omega) (by omega) (by omega) (by omega);rw[val_add] at cb;have hs:(val a b c d e+val a' b' c' d' e') % pp=(m+n) % pp:=by rw[Int.add_emod,hv,hv',← Int.add_emod]
 replace cb:=ao cb;replace hs:=ao hs;clear ha hb hc hd he ha' hb' hc' hd' he' hv hv';unfold five;go_enter Tryz.func182,Tryz.ntmps182;go_wp2_with fail
 go_region
 all_goals go_wp2_with (go_at_call 114; refine(aj cb _).mono ?_; rintro r w9 ⟨y0,y1,y2,y3,y4,o9,rfl,hR,rfl⟩; replace hR:=ao hR; unfold five)
 all_goals refine bodyPost_ret (v:=five y0 y1 y2 y3 y4) ?_ rfl ?_
 all_goals first
  | (refine⟨_,_,_,_,_,rfl,⟨(aj hR).1,(aj hR).2.trans (aj hs)⟩,by repeat (first | exact Gr.refl _ | apply Gr.alloc | apply Gr.drew)⟩; done)
  | simp[results,Tryz.results182,go_sem,five]
theorem val_sub (a b c d e a' b' c' d' e':Int):val (a+9007199254740916 - a') (b+9007199254740988 - b') (c+9007199254740988 - c') (d+9007199254740988 - d') (e+9007199254740988 - e')=val a b c d e - val a' b' c' d' e'+4 * pp:=by unfold val pp; omega
theorem sub_ok (m n a b c d e a' b' c' d' e':Int) (h:Rep m a b c d e) (h':Rep n a' b' c' d' e') (w:World) :
  Calls Tryz.prog 185 #[five a b c d e,five a' b' c' d' e'] w (Reck (m - n) w):=by
 obtain⟨⟨ha,hb,hc,hd,he⟩,hv⟩:=h;obtain⟨⟨ha',hb',hc',hd',he'⟩,hv'⟩:=h';have w0:=aC (a+9007199254740916) (by omega) (by omega);have w1:=aC (b+9007199254740988) (by omega) (by omega);have w2:=aC (c+9007199254740988) (by omega) (by omega);have w3:=aC (d+9007199254740988) (by omega) (by omega);have w4:=aC (e+9007199254740988) (by omega) (by omega);have u0:=aC (a+9007199254740916 - a') (by omega) (by omega);have u1:=aC (b+9007199254740988 - b') (by omega) (by omega);have u2:=aC (c+9007199254740988 - c') (by omega) (by omega);have u3:=aC (d+9007199254740988 - d') (by omega) (by omega);have u4:=aC (e+9007199254740988 - e') (by omega) (by omega);have cb:=dI (a+9007199254740916 - a') (b+9007199254740988 - b') (c+9007199254740988 - c') (d+9007199254740988 - d') (e+9007199254740988 - e') (by omega) (by omega) (by omega) (by omega) (by omega);rw[val_sub] at cb
 have hs:(val a b c d e - val a' b' c' d' e'+4 * pp) % pp=(m - n) % pp:=by
  rw[Int.add_mul_emod_self_right,Int.sub_emod,hv,hv',← Int.sub_emod]
 replace cb:=ao cb;replace hs:=ao hs;clear ha hb hc hd he ha' hb' hc' hd' he' hv hv';unfold five;go_enter Tryz.func185,Tryz.ntmps185;go_wp2_with fail
 go_region
 all_goals go_wp2_with fail
 all_goals refine wp_loop_rounds 5 ?_
 all_goals rw[rounds_succ]
 all_goals go_wp2_with fail
 all_goals rw[rounds_succ]
 all_goals go_wp2_with fail
 all_goals rw[rounds_succ]
 all_goals go_wp2_with fail
 all_goals rw[rounds_succ]
 all_goals go_wp2_with fail
 all_goals rw[rounds_succ]
 all_goals go_wp2_with (go_at_call 114; refine(aj cb _).mono ?_; rintro r w9 ⟨y0,y1,y2,y3,y4,o9,rfl,hR,rfl⟩; replace hR:=ao hR; unfold five)
 all_goals refine bodyPost_ret (v:=five y0 y1 y2 y3 y4) ?_ rfl ?_
 all_goals first
  | (refine⟨_,_,_,_,_,rfl,⟨(aj hR).1,(aj hR).2.trans (aj hs)⟩,by repeat (first | exact Gr.refl _ | apply Gr.alloc | apply Gr.drew)⟩; done)
  | simp[results,Tryz.results185,go_sem,five]
theorem least_al (n a b c d e:Int) (hf:Rep n a b c d e) (w:World) :
  Calls Tryz.prog 115 #[.agg #[.int .u64 a,.int .u64 b,.int .u64 c,.int .u64 d,.int .u64 e]] w (fun r w'=>∃ y0 y1 y2 y3 y4,r=.returned (.agg #[.int .u64 y0,.int .u64 y1,.int .u64 y2,.int .u64 y3,.int .u64 y4])∧Hid (((0≤y0∧y0<2251799813685248)∧(0≤y1∧y1<2251799813685248)∧(0≤y2∧y2<2251799813685248)∧(0≤y3∧y3<2251799813685248)∧(0≤y4∧y4<2251799813685248))∧val y0 y1 y2 y3 y4=n % pp)∧∃ o o',w'=(w.alloc o).alloc o'):=by
 refine(least_ok a b c d e hf.1 w).mono ?_;rintro r w' ⟨y0,y1,y2,y3,y4,h1,b0,b1,b2,b3,b4,h2,h3⟩;exact⟨y0,y1,y2,y3,y4,h1,ao ⟨⟨b0,b1,b2,b3,b4⟩,h2.trans hf.2⟩,h3⟩
theorem neg_ok (n a b c d e:Int) (hf:Rep n a b c d e) (w:World) :
  Calls Tryz.prog 153 #[five a b c d e] w (Reck (0 - n) w):=by
 have hl:=ao (sub_ok 0 n 0 0 0 0 0 a b c d e ⟨⟨by omega,by omega,by omega,by omega,by omega⟩,rfl⟩ hf);clear hf;unfold five at *;go_enter Tryz.func153,Tryz.ntmps153;go_wp2_with (go_at_call 185; refine(aj hl _).mono ?_; rintro r w9 ⟨y0,y1,y2,y3,y4,rfl,hR,hg⟩; unfold five; replace hR:=ao hR; have hE:=ao (res22 hg rfl); obtain⟨q0,q1,q2,q3,q4,hq0,hq1,hq2,hq3,hq4,z0,z1,z2,z3,z4⟩:=(aj hE).five);refine bodyPost_ret (v:=five y0 y1 y2 y3 y4) ?_ rfl ?_
 ·simp[results,Tryz.results153,go_sem,five,hq0,hq1,hq2,hq3,hq4]
 ·exact⟨_,_,_,_,_,rfl,aj hR,((aj hE).set5 _ _ _ _ _).1⟩
def kc (l:List Int):Array Value:=(l.map (Value.int .u8)).toArray
def digs (n:Int) (k:Nat):List Int:=(List.range 32).map (fun j=>if j<k then n / 256 ^ j % 256 else 0)
def keyV (n:Int):Value:=.agg (kc (digs n 32))
theorem digs_len (n:Int) (k:Nat):(digs n k).length=32:=by simp[digs]
theorem digs_set (n x:Int) (k:Nat) (h:x=n / 256 ^ k % 256):(digs n k).set k x=digs n (k+1):=by
 subst h;apply List.ext_getElem
 ·simp[digs]
 ·intro i h1 h2;simp only[digs,List.getElem_set,List.getElem_map,List.getElem_range];by_cases e:k=i
  ·subst e; simp
  ·rw[if_neg e];by_cases e2:i<k
   ·rw[if_pos e2,if_pos (by omega)]
   ·rw[if_neg e2,if_neg (by omega)]
theorem au (l:List Int):(kc l).size=l.length:=by simp[kc]
theorem aL (l:List Int):(kc l).all (·.oneCell')=true:=by
 simp only[kc,List.all_toArray,List.all_eq_true];intro v hv;obtain⟨x,_,rfl⟩:=List.mem_map.1 hv;rfl
def KB (w:World) (g:Nat) (l:List Int):Prop:=w.heap[g]?=some (.cells (kc l) 23 (0,0))
theorem KB.cell {w:World} {g:Nat} {l:List Int} (h:KB w g l) (i:Nat) (hi:i<l.length):w.cell? ⟨g,i,none⟩=some (.int .u8 (l.getD i 0)):=by
 have e:(kc l)[i]?=some (.int .u8 (l.getD i 0)):=by simp[kc,List.getD,List.getElem?_eq_getElem hi]
 exact aw h e
theorem KB.froz {w:World} {g:Nat} {l:List Int} (h:KB w g l) (i:Nat):w.frozen? ⟨g,i,none⟩=false:=aO h
theorem KB.gr {w w':World} {g:Nat} {l:List Int} (h:KB w g l) (s:Gr w w'):KB w' g l:=s.blk h
theorem KB.set {w:World} {g:Nat} {l:List Int} (h:KB w g l) (i:Nat) (x:Int):KB (w.setCell ⟨g,i,none⟩ (.int .u8 x)) g (l.set i x):=by
 unfold KB at *;rw[heap_setCell_same w g i _ _ _ h];simp[kc,List.map_set]
theorem KB.other {w:World} {g g' i:Nat} {l:List Int} {x:Value} (h:KB w g l) (hn:g≠g'):KB (w.setCell ⟨g',i,none⟩ x) g l:=by
 unfold KB at *;rw[Below.heap_setCell w ⟨g',i,none⟩ x g hn]; exact h
theorem or_sum (t:Nat) (K x y:Int) (hK:K=2 ^ t) (ht:t≤64) (hx:0≤x∧x<K) (hy:0≤y∧y * K<18446744073709551616):bits .or .u64 x (y * K)=x+y * K:=by
 obtain⟨a,rfl⟩:=Int.eq_ofNat_of_zero_le hx.1;obtain⟨b,rfl⟩:=Int.eq_ofNat_of_zero_le hy.1;have hK2:K=((2 ^ t:Nat):Int):=by rw[hK]; simp
 have hp:(2 ^ t:Nat)≤2 ^ 64:=Nat.pow_le_pow_right (by omega) ht;have hp2:(2 ^ 64:Nat)=18446744073709551616:=by decide
 rw[hK2] at hx hy ⊢;have e:(b:Int) * ((2 ^ t:Nat):Int)=((b * 2 ^ t:Nat):Int):=by simp
 rw[e] at hy ⊢;have ha:a<2 ^ t:=by omega
 rw[bits_or_u64_nat _ _ (by omega) (by omega)];have h:=Nat.shiftLeft_add_eq_or_of_lt ha b;rw[Nat.shiftLeft_eq] at h;have h2:a ||| b * 2 ^ t=a+b * 2 ^ t:=by rw[Nat.or_comm,← h,Nat.add_comm]
 rw[h2];simp
theorem bj (t:Nat) (K J x y:Int) (hK:K=2 ^ t) (ht:t≤56) (hJ:J * K=18446744073709551616) (h0:0<K) (hJ0:0<J) (hx:0≤x∧x<K):bits .or .u64 x (IntKind.u64.wrap (y * K)) % 256=(x+y * K) % 256:=by
 have e1:IntKind.u64.wrap (y * K)=(y % J) * K:=by
  rw[IntKind.wrap_u64,← hJ,Int.mul_comm y,Int.mul_comm J,Int.mul_emod_mul_of_pos _ _ h0,Int.mul_comm]
 have b0:0≤y % J:=Int.emod_nonneg _ (by omega);have b1:y % J<J:=Int.emod_lt_of_pos _ hJ0;have b2:(y % J) * K<18446744073709551616:=by rw[← hJ]; exact Int.mul_lt_mul_of_pos_right b1 h0
 rw[e1,or_sum t K x (y % J) hK (by omega) hx ⟨b0,b2⟩];have e2:y * K=(y % J) * K+18446744073709551616 * (y / J):=by
  rw[← hJ];have:=Int.emod_add_mul_ediv y J;have h3:J * K * (y / J)=J * (y / J) * K:=by rw[Int.mul_assoc,Int.mul_comm K,← Int.mul_assoc]
  rw[h3,← Int.add_mul,this]
 rw[e2];omega
def Dg (y0 y1 y2 y3 y4 v:Int):Prop:=((0≤y0∧y0<2251799813685248)∧(0≤y1∧y1<2251799813685248)∧(0≤y2∧y2<2251799813685248)∧(0≤y3∧y3<2251799813685248)∧(0≤y4∧y4<2251799813685248))∧val y0 y1 y2 y3 y4=v
theorem bm0 {y0 y1 y2 y3 y4 v:Int} (h:Dg y0 y1 y2 y3 y4 v):bits .or .u64 (y0) (IntKind.u64.wrap (y1 * 2251799813685248)) % 256=v / 256 ^ 0 % 256:=by
 rw[show (256:Int) ^ 0=1 from rfl];obtain⟨⟨b0,b1,b2,b3,b4⟩,hv⟩:=h;unfold val at hv;rw[bj 51 2251799813685248 8192 (y0) y1 (by decide) (by omega) (by decide) (by decide) (by decide) (by omega),← hv];omega
theorem bm1 {y0 y1 y2 y3 y4 v:Int} (h:Dg y0 y1 y2 y3 y4 v):bits .or .u64 (y0 / 256) (IntKind.u64.wrap (y1 * 8796093022208)) % 256=v / 256 ^ 1 % 256:=by
 rw[show (256:Int) ^ 1=256 from by decide];obtain⟨⟨b0,b1,b2,b3,b4⟩,hv⟩:=h;unfold val at hv;rw[bj 43 8796093022208 2097152 (y0 / 256) y1 (by decide) (by omega) (by decide) (by decide) (by decide) (by omega),← hv];omega
theorem bm2 {y0 y1 y2 y3 y4 v:Int} (h:Dg y0 y1 y2 y3 y4 v):bits .or .u64 (y0 / 65536) (IntKind.u64.wrap (y1 * 34359738368)) % 256=v / 256 ^ 2 % 256:=by
 rw[show (256:Int) ^ 2=65536 from by decide];obtain⟨⟨b0,b1,b2,b3,b4⟩,hv⟩:=h;unfold val at hv;rw[bj 35 34359738368 536870912 (y0 / 65536) y1 (by decide) (by omega) (by decide) (by decide) (by decide) (by omega),← hv];omega
theorem bm3 {y0 y1 y2 y3 y4 v:Int} (h:Dg y0 y1 y2 y3 y4 v):bits .or .u64 (y0 / 16777216) (IntKind.u64.wrap (y1 * 134217728)) % 256=v / 256 ^ 3 % 256:=by
 rw[show (256:Int) ^ 3=16777216 from by decide];obtain⟨⟨b0,b1,b2,b3,b4⟩,hv⟩:=h;unfold val at hv;rw[bj 27 134217728 137438953472 (y0 / 16777216) y1 (by decide) (by omega) (by decide) (by decide) (by decide) (by omega),← hv];omega
theorem bm4 {y0 y1 y2 y3 y4 v:Int} (h:Dg y0 y1 y2 y3 y4 v):bits .or .u64 (y0 / 4294967296) (IntKind.u64.wrap (y1 * 524288)) % 256=v / 256 ^ 4 % 256:=by
 rw[show (256:Int) ^ 4=4294967296 from by decide];obtain⟨⟨b0,b1,b2,b3,b4⟩,hv⟩:=h;unfold val at hv;rw[bj 19 524288 35184372088832 (y0 / 4294967296) y1 (by decide) (by omega) (by decide) (by decide) (by decide) (by omega),← hv];omega
theorem bm5 {y0 y1 y2 y3 y4 v:Int} (h:Dg y0 y1 y2 y3 y4 v):bits .or .u64 (y0 / 1099511627776) (IntKind.u64.wrap (y1 * 2048)) % 256=v / 256 ^ 5 % 256:=by
 rw[show (256:Int) ^ 5=1099511627776 from by decide];obtain⟨⟨b0,b1,b2,b3,b4⟩,hv⟩:=h;unfold val at hv;rw[bj 11 2048 9007199254740992 (y0 / 1099511627776) y1 (by decide) (by omega) (by decide) (by decide) (by decide) (by omega),← hv];omega
theorem bm6 {y0 y1 y2 y3 y4 v:Int} (h:Dg y0 y1 y2 y3 y4 v):bits .or .u64 (y0 / 281474976710656) (IntKind.u64.wrap (y1 * 8)) % 256=v / 256 ^ 6 % 256:=by
 rw[show (256:Int) ^ 6=281474976710656 from by decide];obtain⟨⟨b0,b1,b2,b3,b4⟩,hv⟩:=h;unfold val at hv;rw[bj 3 8 2305843009213693952 (y0 / 281474976710656) y1 (by decide) (by omega) (by decide) (by decide) (by decide) (by omega),← hv];omega
theorem bm7 {y0 y1 y2 y3 y4 v:Int} (h:Dg y0 y1 y2 y3 y4 v):bits .or .u64 (y1 / 32) (IntKind.u64.wrap (y2 * 70368744177664)) % 256=v / 256 ^ 7 % 256:=by
 rw[show (256:Int) ^ 7=72057594037927936 from by decide];obtain⟨⟨b0,b1,b2,b3,b4⟩,hv⟩:=h;unfold val at hv;rw[bj 46 70368744177664 262144 (y1 / 32) y2 (by decide) (by omega) (by decide) (by decide) (by decide) (by omega),← hv];omega
theorem bm8 {y0 y1 y2 y3 y4 v:Int} (h:Dg y0 y1 y2 y3 y4 v):bits .or .u64 (y1 / 8192) (IntKind.u64.wrap (y2 * 274877906944)) % 256=v / 256 ^ 8 % 256:=by
 rw[show (256:Int) ^ 8=18446744073709551616 from by decide];obtain⟨⟨b0,b1,b2,b3,b4⟩,hv⟩:=h;unfold val at hv;rw[bj 38 274877906944 67108864 (y1 / 8192) y2 (by decide) (by omega) (by decide) (by decide) (by decide) (by omega),← hv];omega
theorem bm9 {y0 y1 y2 y3 y4 v:Int} (h:Dg y0 y1 y2 y3 y4 v):bits .or .u64 (y1 / 2097152) (IntKind.u64.wrap (y2 * 1073741824)) % 256=v / 256 ^ 9 % 256:=by
 rw[show (256:Int) ^ 9=4722366482869645213696 from by decide];obtain⟨⟨b0,b1,b2,b3,b4⟩,hv⟩:=h;unfold val at hv;rw[bj 30 1073741824 17179869184 (y1 / 2097152) y2 (by decide) (by omega) (by decide) (by decide) (by decide) (by omega),← hv];omega
theorem bm10 {y0 y1 y2 y3 y4 v:Int} (h:Dg y0 y1 y2 y3 y4 v):bits .or .u64 (y1 / 536870912) (IntKind.u64.wrap (y2 * 4194304)) % 256=v / 256 ^ 10 % 256:=by
 rw[show (256:Int) ^ 10=1208925819614629174706176 from by decide];obtain⟨⟨b0,b1,b2,b3,b4⟩,hv⟩:=h;unfold val at hv;rw[bj 22 4194304 4398046511104 (y1 / 536870912) y2 (by decide) (by omega) (by decide) (by decide) (by decide) (by omega),← hv];omega
theorem bm11 {y0 y1 y2 y3 y4 v:Int} (h:Dg y0 y1 y2 y3 y4 v):bits .or .u64 (y1 / 137438953472) (IntKind.u64.wrap (y2 * 16384)) % 256=v / 256 ^ 11 % 256:=by
 rw[show (256:Int) ^ 11=309485009821345068724781056 from by decide];obtain⟨⟨b0,b1,b2,b3,b4⟩,hv⟩:=h;unfold val at hv;rw[bj 14 16384 1125899906842624 (y1 / 137438953472) y2 (by decide) (by omega) (by decide) (by decide) (by decide) (by omega),← hv];omega
theorem bm12 {y0 y1 y2 y3 y4 v:Int} (h:Dg y0 y1 y2 y3 y4 v):bits .or .u64 (y1 / 35184372088832) (IntKind.u64.wrap (y2 * 64)) % 256=v / 256 ^ 12 % 256:=by
 rw[show (256:Int) ^ 12=79228162514264337593543950336 from by decide];obtain⟨⟨b0,b1,b2,b3,b4⟩,hv⟩:=h;unfold val at hv;rw[bj 6 64 288230376151711744 (y1 / 35184372088832) y2 (by decide) (by omega) (by decide) (by decide) (by decide) (by omega),← hv];omega
theorem bm13 {y0 y1 y2 y3 y4 v:Int} (h:Dg y0 y1 y2 y3 y4 v):bits .or .u64 (y2 / 4) (IntKind.u64.wrap (y3 * 562949953421312)) % 256=v / 256 ^ 13 % 256:=by
 rw[show (256:Int) ^ 13=20282409603651670423947251286016 from by decide];obtain⟨⟨b0,b1,b2,b3,b4⟩,hv⟩:=h;unfold val at hv;rw[bj 49 562949953421312 32768 (y2 / 4) y3 (by decide) (by omega) (by decide) (by decide) (by decide) (by omega),← hv];omega
theorem bm14 {y0 y1 y2 y3 y4 v:Int} (h:Dg y0 y1 y2 y3 y4 v):bits .or .u64 (y2 / 1024) (IntKind.u64.wrap (y3 * 2199023255552)) % 256=v / 256 ^ 14 % 256:=by
 rw[show (256:Int) ^ 14=5192296858534827628530496329220096 from by decide];obtain⟨⟨b0,b1,b2,b3,b4⟩,hv⟩:=h;unfold val at hv;rw[bj 41 2199023255552 8388608 (y2 / 1024) y3 (by decide) (by omega) (by decide) (by decide) (by decide) (by omega),← hv];omega
theorem bm15 {y0 y1 y2 y3 y4 v:Int} (h:Dg y0 y1 y2 y3 y4 v):bits .or .u64 (y2 / 262144) (IntKind.u64.wrap (y3 * 8589934592)) % 256=v / 256 ^ 15 % 256:=by
 rw[show (256:Int) ^ 15=1329227995784915872903807060280344576 from by decide];obtain⟨⟨b0,b1,b2,b3,b4⟩,hv⟩:=h;unfold val at hv;rw[bj 33 8589934592 2147483648 (y2 / 262144) y3 (by decide) (by omega) (by decide) (by decide) (by decide) (by omega),← hv];omega
theorem bm16 {y0 y1 y2 y3 y4 v:Int} (h:Dg y0 y1 y2 y3 y4 v):bits .or .u64 (y2 / 67108864) (IntKind.u64.wrap (y3 * 33554432)) % 256=v / 256 ^ 16 % 256:=by
 rw[show (256:Int) ^ 16=340282366920938463463374607431768211456 from by decide];obtain⟨⟨b0,b1,b2,b3,b4⟩,hv⟩:=h;unfold val at hv;rw[bj 25 33554432 549755813888 (y2 / 67108864) y3 (by decide) (by omega) (by decide) (by decide) (by decide) (by omega),← hv];omega
theorem bm17 {y0 y1 y2 y3 y4 v:Int} (h:Dg y0 y1 y2 y3 y4 v):bits .or .u64 (y2 / 17179869184) (IntKind.u64.wrap (y3 * 131072)) % 256=v / 256 ^ 17 % 256:=by
 rw[show (256:Int) ^ 17=87112285931760246646623899502532662132736 from by decide];obtain⟨⟨b0,b1,b2,b3,b4⟩,hv⟩:=h;unfold val at hv;rw[bj 17 131072 140737488355328 (y2 / 17179869184) y3 (by decide) (by omega) (by decide) (by decide) (by decide) (by omega),← hv];omega
theorem bm18 {y0 y1 y2 y3 y4 v:Int} (h:Dg y0 y1 y2 y3 y4 v):bits .or .u64 (y2 / 4398046511104) (IntKind.u64.wrap (y3 * 512)) % 256=v / 256 ^ 18 % 256:=by
 rw[show (256:Int) ^ 18=22300745198530623141535718272648361505980416 from by decide];obtain⟨⟨b0,b1,b2,b3,b4⟩,hv⟩:=h;unfold val at hv;rw[bj 9 512 36028797018963968 (y2 / 4398046511104) y3 (by decide) (by omega) (by decide) (by decide) (by decide) (by omega),← hv];omega
theorem bm19 {y0 y1 y2 y3 y4 v:Int} (h:Dg y0 y1 y2 y3 y4 v):bits .or .u64 (y2 / 1125899906842624) (IntKind.u64.wrap (y3 * 2)) % 256=v / 256 ^ 19 % 256:=by
 rw[show (256:Int) ^ 19=5708990770823839524233143877797980545530986496 from by decide];obtain⟨⟨b0,b1,b2,b3,b4⟩,hv⟩:=h;unfold val at hv;rw[bj 1 2 9223372036854775808 (y2 / 1125899906842624) y3 (by decide) (by omega) (by decide) (by decide) (by decide) (by omega),← hv];omega
theorem bm20 {y0 y1 y2 y3 y4 v:Int} (h:Dg y0 y1 y2 y3 y4 v):bits .or .u64 (y3 / 128) (IntKind.u64.wrap (y4 * 17592186044416)) % 256=v / 256 ^ 20 % 256:=by
 rw[show (256:Int) ^ 20=1461501637330902918203684832716283019655932542976 from by decide];obtain⟨⟨b0,b1,b2,b3,b4⟩,hv⟩:=h;unfold val at hv;rw[bj 44 17592186044416 1048576 (y3 / 128) y4 (by decide) (by omega) (by decide) (by decide) (by decide) (by omega),← hv];omega
theorem bm21 {y0 y1 y2 y3 y4 v:Int} (h:Dg y0 y1 y2 y3 y4 v):bits .or .u64 (y3 / 32768) (IntKind.u64.wrap (y4 * 68719476736)) % 256=v / 256 ^ 21 % 256:=by
 rw[show (256:Int) ^ 21=374144419156711147060143317175368453031918731001856 from by decide];obtain⟨⟨b0,b1,b2,b3,b4⟩,hv⟩:=h;unfold val at hv;rw[bj 36 68719476736 268435456 (y3 / 32768) y4 (by decide) (by omega) (by decide) (by decide) (by decide) (by omega),← hv];omega
theorem bm22 {y0 y1 y2 y3 y4 v:Int} (h:Dg y0 y1 y2 y3 y4 v):bits .or .u64 (y3 / 8388608) (IntKind.u64.wrap (y4 * 268435456)) % 256=v / 256 ^ 22 % 256:=by
 rw[show (256:Int) ^ 22=95780971304118053647396689196894323976171195136475136 from by decide];obtain⟨⟨b0,b1,b2,b3,b4⟩,hv⟩:=h;unfold val at hv;rw[bj 28 268435456 68719476736 (y3 / 8388608) y4 (by decide) (by omega) (by decide) (by decide) (by decide) (by omega),← hv];omega
theorem bm23 {y0 y1 y2 y3 y4 v:Int} (h:Dg y0 y1 y2 y3 y4 v):bits .or .u64 (y3 / 2147483648) (IntKind.u64.wrap (y4 * 1048576)) % 256=v / 256 ^ 23 % 256:=by
 rw[show (256:Int) ^ 23=24519928653854221733733552434404946937899825954937634816 from by decide];obtain⟨⟨b0,b1,b2,b3,b4⟩,hv⟩:=h;unfold val at hv;rw[bj 20 1048576 17592186044416 (y3 / 2147483648) y4 (by decide) (by omega) (by decide) (by decide) (by decide) (by omega),← hv];omega
theorem bm24 {y0 y1 y2 y3 y4 v:Int} (h:Dg y0 y1 y2 y3 y4 v):bits .or .u64 (y3 / 549755813888) (IntKind.u64.wrap (y4 * 4096)) % 256=v / 256 ^ 24 % 256:=by
 rw[show (256:Int) ^ 24=6277101735386680763835789423207666416102355444464034512896 from by decide];obtain⟨⟨b0,b1,b2,b3,b4⟩,hv⟩:=h;unfold val at hv;rw[bj 12 4096 4503599627370496 (y3 / 549755813888) y4 (by decide) (by omega) (by decide) (by decide) (by decide) (by omega),← hv];omega
theorem bm25 {y0 y1 y2 y3 y4 v:Int} (h:Dg y0 y1 y2 y3 y4 v):bits .or .u64 (y3 / 140737488355328) (IntKind.u64.wrap (y4 * 16)) % 256=v / 256 ^ 25 % 256:=by
 rw[show (256:Int) ^ 25=1606938044258990275541962092341162602522202993782792835301376 from by decide];obtain⟨⟨b0,b1,b2,b3,b4⟩,hv⟩:=h;unfold val at hv;rw[bj 4 16 1152921504606846976 (y3 / 140737488355328) y4 (by decide) (by omega) (by decide) (by decide) (by decide) (by omega),← hv];omega
theorem bm26 {y0 y1 y2 y3 y4 v:Int} (h:Dg y0 y1 y2 y3 y4 v):y4 / 16 % 256=v / 256 ^ 26 % 256:=by
 rw[show (256:Int) ^ 26=411376139330301510538742295639337626245683966408394965837152256 from by decide];obtain⟨⟨b0,b1,b2,b3,b4⟩,hv⟩:=h;unfold val at hv;rw[← hv];omega
theorem bm27 {y0 y1 y2 y3 y4 v:Int} (h:Dg y0 y1 y2 y3 y4 v):y4 / 4096 % 256=v / 256 ^ 27 % 256:=by
 rw[show (256:Int) ^ 27=105312291668557186697918027683670432318895095400549111254310977536 from by decide];obtain⟨⟨b0,b1,b2,b3,b4⟩,hv⟩:=h;unfold val at hv;rw[← hv];omega
theorem bm28 {y0 y1 y2 y3 y4 v:Int} (h:Dg y0 y1 y2 y3 y4 v):y4 / 1048576 % 256=v / 256 ^ 28 % 256:=by
 rw[show (256:Int) ^ 28=26959946667150639794667015087019630673637144422540572481103610249216 from by decide];obtain⟨⟨b0,b1,b2,b3,b4⟩,hv⟩:=h;unfold val at hv;rw[← hv];omega
theorem bm29 {y0 y1 y2 y3 y4 v:Int} (h:Dg y0 y1 y2 y3 y4 v):y4 / 268435456 % 256=v / 256 ^ 29 % 256:=by
 rw[show (256:Int) ^ 29=6901746346790563787434755862277025452451108972170386555162524223799296 from by decide];obtain⟨⟨b0,b1,b2,b3,b4⟩,hv⟩:=h;unfold val at hv;rw[← hv];omega
theorem bm30 {y0 y1 y2 y3 y4 v:Int} (h:Dg y0 y1 y2 y3 y4 v):y4 / 68719476736 % 256=v / 256 ^ 30 % 256:=by
 rw[show (256:Int) ^ 30=1766847064778384329583297500742918515827483896875618958121606201292619776 from by decide];obtain⟨⟨b0,b1,b2,b3,b4⟩,hv⟩:=h;unfold val at hv;rw[← hv];omega
theorem bm31 {y0 y1 y2 y3 y4 v:Int} (h:Dg y0 y1 y2 y3 y4 v):y4 / 17592186044416 % 256=v / 256 ^ 31 % 256:=by
 rw[show (256:Int) ^ 31=452312848583266388373324160190187140051835877600158453279131187530910662656 from by decide];obtain⟨⟨b0,b1,b2,b3,b4⟩,hv⟩:=h;unfold val at hv;rw[← hv];omega
def BL (w wr:World) (y0 y1 y2 y3 y4 v:Int) (k:Nat):Prop :=
 KB wr (w.heap.size+1+1) (digs v k)∧KB wr (w.heap.size+1) (digs v 0)∧wr.heap[w.heap.size+1+1+1+1+1]?=some (.cells #[.int .u64 y0,.int .u64 y1,.int .u64 y2,.int .u64 y3,.int .u64 y4] 138 (0,0))∧Gr w wr
theorem BL.next {w wr:World} {y0 y1 y2 y3 y4 v x:Int} {k:Nat} (h:BL w wr y0 y1 y2 y3 y4 v k) (e:x=v / 256 ^ k % 256):BL w (wr.setCell ⟨w.heap.size+1+1,k,none⟩ (.int .u8 x)) y0 y1 y2 y3 y4 v (k+1):=by
 obtain⟨h1,h2,h3,h4⟩:=h;refine⟨?_,h2.other (by omega),?_,h4.setCell (by show w.heap.size≤w.heap.size+1+1; omega) _⟩
 ·rw[← digs_set v x k e]; exact h1.set k x
 ·rw[Below.heap_setCell wr _ _ _ (by show w.heap.size+1+1+1+1+1≠w.heap.size+1+1; omega)]; exact h3
theorem six' (w:World) (o0 o1 o2 o3 o4 o5:Obj) (u:World) (h:(((((w.alloc o0).alloc o1).alloc o2).alloc o3).alloc o4).alloc o5=u) :
  u.heap[w.heap.size+1]?=some o1∧u.heap[w.heap.size+1+1]?=some o2∧u.heap[w.heap.size+1+1+1+1+1]?=some o5∧Gr w u:=by
 rw[← h];refine⟨?_,?_,?_,((((((Gr.refl _).alloc _).alloc _).alloc _).alloc _).alloc _).alloc _⟩ <;> (simp only[bT,aB]; repeat (first | rw[if_pos trivial] | rw[if_pos (by omega)] | rw[if_neg (by omega)]))
theorem bytes_ok (n a b c d e:Int) (hf:Rep n a b c d e) (w:World) :
  Calls Tryz.prog 78 #[five a b c d e] w (fun r w'=>r=.returned (keyV (n % pp))∧Gr w w'):=by
 have hl:=ao (least_al n a b c d e hf);clear hf;generalize n % pp=v at hl ⊢;unfold five;go_enter Tryz.func78,Tryz.ntmps78;go_wp2_with (go_at_call 115; refine(aj hl _).mono ?_; rintro r w9 ⟨y0,y1,y2,y3,y4,rfl,hy,o1,o2,rfl⟩);clear hl;have hd:Hid (Dg y0 y1 y2 y3 y4 v):=hy;clear hy;generalize hW:World.alloc _ _=u;obtain⟨B1,B2,B5,hg0⟩:=six' w _ _ _ _ _ _ u hW;have hS:Hid (BL w u y0 y1 y2 y3 y4 v 0):=ao ⟨B2,B1,B5,hg0⟩;clear hW B1 B2 B5 hg0
 go_loopw [12] (fun i wr=>∃ k:Nat,k≤32∧i=.int .i64 k∧Hid (BL w wr y0 y1 y2 y3 y4 v k)) (fun i _=>32 - (intOf i).toNat)
 case atStart=>exact⟨0,by omega,rfl,hS⟩
 case round =>
  clear hS;obtain⟨k,hk,rfl,hS⟩:=hrel;by_cases h32:k=32
  ·subst h32;obtain⟨h1,h2,h3,h4⟩:=aj hS;replace h1:=ao h1; replace h2:=ao h2; replace h3:=ao h3; replace h4:=ao h4;go_wp2_with (first | (refine wpList_load_row rfl 23 (.tmp 3) rfl (w.heap.size+1+1) rfl 23 (kc (digs v 32)) (0,0) _ (by exact aj h1) Tryz.underlying23 rfl (by rw[Tryz.infoKey,au,digs_len]) ?_) | (refine wpList_store_row rfl 23 (.tmp 2) (.tmp 43) rfl (w.heap.size+1) (kc (digs v 32)) rfl rfl 23 (kc (digs v 0)) (by exact aj h2) (by rw[Tryz.infoKey,au,digs_len]) (by rw[au,au,digs_len,digs_len]) (aL _) ?_));refine bodyPost_ret (v:=keyV v) (results_cell_row Tryz.results78 _ _ (w.heap.size+1) 23 (kc (digs v 32)) (0,0) _ rfl (setRow_heap wr (w.heap.size+1) _ _ 23 _ (aj h2)) Tryz.underlying23 rfl (by rw[Tryz.infoKey,au,digs_len])) rfl ⟨rfl,?_⟩;exact below_setRow (aj h4) (by omega) _
  ·have hlt:k<32:=by omega
   clear h32 hk;have hq:w.heap.size+1+1≠w.heap.size+1+1+1+1+1:=by omega
   have c0:=aw (i:=0) (aj hS).2.2.1 rfl;have c1:=aw (i:=1) (aj hS).2.2.1 rfl;have c2:=aw (i:=2) (aj hS).2.2.1 rfl;have c3:=aw (i:=3) (aj hS).2.2.1 rfl;have c4:=aw (i:=4) (aj hS).2.2.1 rfl;have ck:=(aj hS).1.cell k (by rw[digs_len]; exact hlt);have fk:=(aj hS).1.froz k;generalize (digs v k).getD k 0=old at ck;have hcases:k=0∨k=1∨k=2∨k=3∨k=4∨k=5∨k=6∨k=7∨k=8∨k=9∨k=10∨k=11∨k=12∨k=13∨k=14∨k=15∨k=16∨k=17∨k=18∨k=19∨k=20∨k=21∨k=22∨k=23∨k=24∨k=25∨k=26∨k=27∨k=28∨k=29∨k=30∨k=31:=by omega
   rcases hcases with rfl | rfl | rfl | rfl | rfl | rfl | rfl | rfl | rfl | rfl | rfl | rfl | rfl | rfl | rfl | rfl | rfl | rfl | rfl | rfl | rfl | rfl | rfl | rfl | rfl | rfl | rfl | rfl | rfl | rfl | rfl | rfl
   ·have hb:=ao (bm0 (aj hd));go_wp2_with fail;go_roundw
    case rel=>exact⟨1,by omega,rfl,ao ((aj hS).next (aj hb))⟩
    case measure=>decide
   ·have hb:=ao (bm1 (aj hd));go_wp2_with fail;go_roundw
    case rel=>exact⟨2,by omega,rfl,ao ((aj hS).next (aj hb))⟩
    case measure=>decide
   ·have hb:=ao (bm2 (aj hd));go_wp2_with fail;go_roundw
    case rel=>exact⟨3,by omega,rfl,ao ((aj hS).next (aj hb))⟩
    case measure=>decide
   ·have hb:=ao (bm3 (aj hd));go_wp2_with fail;go_roundw
    case rel=>exact⟨4,by omega,rfl,ao ((aj hS).next (aj hb))⟩
    case measure=>decide
   ·have hb:=ao (bm4 (aj hd));go_wp2_with fail;go_roundw
    case rel=>exact⟨5,by omega,rfl,ao ((aj hS).next (aj hb))⟩
    case measure=>decide
   ·have hb:=ao (bm5 (aj hd));go_wp2_with fail;go_roundw
    case rel=>exact⟨6,by omega,rfl,ao ((aj hS).next (aj hb))⟩
    case measure=>decide
   ·have hb:=ao (bm6 (aj hd));go_wp2_with fail;go_roundw
    case rel=>exact⟨7,by omega,rfl,ao ((aj hS).next (aj hb))⟩
    case measure=>decide
   ·have hb:=ao (bm7 (aj hd));go_wp2_with fail;go_roundw
    case rel=>exact⟨8,by omega,rfl,ao ((aj hS).next (aj hb))⟩
    case measure=>decide
   ·have hb:=ao (bm8 (aj hd));go_wp2_with fail;go_roundw
    case rel=>exact⟨9,by omega,rfl,ao ((aj hS).next (aj hb))⟩
    case measure=>decide
   ·have hb:=ao (bm9 (aj hd));go_wp2_with fail;go_roundw
    case rel=>exact⟨10,by omega,rfl,ao ((aj hS).next (aj hb))⟩
    case measure=>decide
   ·have hb:=ao (bm10 (aj hd));go_wp2_with fail;go_roundw
    case rel=>exact⟨11,by omega,rfl,ao ((aj hS).next (aj hb))⟩
    case measure=>decide
   ·have hb:=ao (bm11 (aj hd));go_wp2_with fail;go_roundw
    case rel=>exact⟨12,by omega,rfl,ao ((aj hS).next (aj hb))⟩
    case measure=>decide
   ·have hb:=ao (bm12 (aj hd));go_wp2_with fail;go_roundw
    case rel=>exact⟨13,by omega,rfl,ao ((aj hS).next (aj hb))⟩
    case measure=>decide
   ·have hb:=ao (bm13 (aj hd));go_wp2_with fail;go_roundw
    case rel=>exact⟨14,by omega,rfl,ao ((aj hS).next (aj hb))⟩
    case measure=>decide
   ·have hb:=ao (bm14 (aj hd));go_wp2_with fail;go_roundw
    case rel=>exact⟨15,by omega,rfl,ao ((aj hS).next (aj hb))⟩
    case measure=>decide
   ·have hb:=ao (bm15 (aj hd));go_wp2_with fail;go_roundw
    case rel=>exact⟨16,by omega,rfl,ao ((aj hS).next (aj hb))⟩
    case measure=>decide
   ·have hb:=ao (bm16 (aj hd));go_wp2_with fail;go_roundw
    case rel=>exact⟨17,by omega,rfl,ao ((aj hS).next (aj hb))⟩
    case measure=>decide
   ·have hb:=ao (bm17 (aj hd));go_wp2_with fail;go_roundw
    case rel=>exact⟨18,by omega,rfl,ao ((aj hS).next (aj hb))⟩
    case measure=>decide
   ·have hb:=ao (bm18 (aj hd));go_wp2_with fail;go_roundw
    case rel=>exact⟨19,by omega,rfl,ao ((aj hS).next (aj hb))⟩
    case measure=>decide
   ·have hb:=ao (bm19 (aj hd));go_wp2_with fail;go_roundw
    case rel=>exact⟨20,by omega,rfl,ao ((aj hS).next (aj hb))⟩
    case measure=>decide
   ·have hb:=ao (bm20 (aj hd));go_wp2_with fail;go_roundw
    case rel=>exact⟨21,by omega,rfl,ao ((aj hS).next (aj hb))⟩
    case measure=>decide
   ·have hb:=ao (bm21 (aj hd));go_wp2_with fail;go_roundw
    case rel=>exact⟨22,by omega,rfl,ao ((aj hS).next (aj hb))⟩
    case measure=>decide
   ·have hb:=ao (bm22 (aj hd));go_wp2_with fail;go_roundw
    case rel=>exact⟨23,by omega,rfl,ao ((aj hS).next (aj hb))⟩
    case measure=>decide
   ·have hb:=ao (bm23 (aj hd));go_wp2_with fail;go_roundw
    case rel=>exact⟨24,by omega,rfl,ao ((aj hS).next (aj hb))⟩
    case measure=>decide
   ·have hb:=ao (bm24 (aj hd));go_wp2_with fail;go_roundw
    case rel=>exact⟨25,by omega,rfl,ao ((aj hS).next (aj hb))⟩
    case measure=>decide
   ·have hb:=ao (bm25 (aj hd));go_wp2_with fail;go_roundw
    case rel=>exact⟨26,by omega,rfl,ao ((aj hS).next (aj hb))⟩
    case measure=>decide
   ·have hb:=ao (bm26 (aj hd));go_wp2_with fail;go_roundw
    case rel=>exact⟨27,by omega,rfl,ao ((aj hS).next (aj hb))⟩
    case measure=>decide
   ·have hb:=ao (bm27 (aj hd));go_wp2_with fail;go_roundw
    case rel=>exact⟨28,by omega,rfl,ao ((aj hS).next (aj hb))⟩
    case measure=>decide
   ·have hb:=ao (bm28 (aj hd));go_wp2_with fail;go_roundw
    case rel=>exact⟨29,by omega,rfl,ao ((aj hS).next (aj hb))⟩
    case measure=>decide
   ·have hb:=ao (bm29 (aj hd));go_wp2_with fail;go_roundw
    case rel=>exact⟨30,by omega,rfl,ao ((aj hS).next (aj hb))⟩
    case measure=>decide
   ·have hb:=ao (bm30 (aj hd));go_wp2_with fail;go_roundw
    case rel=>exact⟨31,by omega,rfl,ao ((aj hS).next (aj hb))⟩
    case measure=>decide
   ·have hb:=ao (bm31 (aj hd));go_wp2_with fail;go_roundw
    case rel=>exact⟨32,by omega,rfl,ao ((aj hS).next (aj hb))⟩
    case measure=>decide
theorem mask7 (a:Int) (h:0≤a∧a<256):bits .and .u8 a 127=a % 128:=by
 obtain⟨n,rfl⟩:=Int.eq_ofNat_of_zero_le h.1;have:∀ n:Fin 256,bits .and .u8 (n.val:Int) 127=(n.val:Int) % 128:=by decide +kernel
 exact this ⟨n,by omega⟩
theorem index_kc (l:List Int) (i:Nat) (hi:i<32) (hl:l.length=32) (w:World):(Instr.index 23 (.agg (kc l)) (.int .i64 i)).run Tryz.prog w=.ok (.int .u8 (l.getD i 0)) w:=by
 have he:(kc l)[i]?=some (.int .u8 (l.getD i 0)):=by simp[kc,List.getD,List.getElem?_eq_getElem (show i<l.length by omega)]
 simp[Instr.index,run_underlying Tryz.underlying23,asIntOf,hi,go_sem];rw[he];simp
theorem Tryz.infoKey':(Tryz.prog.info? 23).map (·.size)=some 32:=by kernel_rfl
def fs (l:List Int) (a:Nat):Nat→Int
 | 0=>0
 | k+1=>fs l a k+if 8 * k / 51=a then l.getD k 0 * 2 ^ (8 * k % 51) else 0
def ds (l:List Int):Nat→Int
 | 0=>0
 | k+1=>ds l k+l.getD k 0 * 256 ^ k
theorem val_fs (l:List Int):∀ k,k≤32→val (fs l 0 k) (fs l 1 k) (fs l 2 k) (fs l 3 k) (fs l 4 k)=ds l k:=by
 intro k
 induction k with
 | zero=>intro _; simp[fs,ds,val]
 | succ k ih =>
  intro hk;have ih:=ih (by omega);have e:∀ a:Nat,8 * k / 51=a→l.getD k 0 * 256 ^ k=l.getD k 0 * 2 ^ (8 * k % 51) * 2 ^ (51 * a):=by
   intro a ha;rw[Int.mul_assoc,← Int.pow_add];have h1:8 * k % 51+51 * a=8 * k:=by omega
   rw[h1,Int.pow_mul];rfl
  have hc:8 * k / 51=0∨8 * k / 51=1∨8 * k / 51=2∨8 * k / 51=3∨8 * k / 51=4:=by omega
  rcases hc with h | h | h | h | h;all_goals
   have e:=e _ h;simp only[fs,ds,h,e];rw[← ih];generalize l.getD k 0 * 2 ^ (8 * k % 51)=t;simp[val];omega
theorem fs_bd (l:List Int) (hb:∀ x ∈ l,0≤x∧x<256) (a:Nat):∀ k,0≤fs l a k∧fs l a k≤k * 288230376151711744:=by
 intro k
 induction k with
 | zero=>simp[fs]
 | succ k ih =>
  have hg:0≤l.getD k 0∧l.getD k 0<256:=by
   rw[List.getD_eq_getElem?_getD];rcases Nat.lt_or_ge k l.length with h | h
   ·rw[List.getElem?_eq_getElem h]; exact hb _ (List.getElem_mem h)
   ·rw[List.getElem?_eq_none h]; simp
  have hp:(2:Int) ^ (8 * k % 51)≤1125899906842624:=by
   have:(2:Nat) ^ (8 * k % 51)≤2 ^ 50:=Nat.pow_le_pow_right (by omega) (by omega);have h2:((2 ^ (8 * k % 51):Nat):Int)≤((2 ^ 50:Nat):Int):=by exact_mod_cast this
   simpa using h2
  have hp0:(0:Int)≤2 ^ (8 * k % 51):=Int.pow_nonneg (by omega);have ht:0≤l.getD k 0 * 2 ^ (8 * k % 51):=Int.mul_nonneg hg.1 hp0;have ht2:l.getD k 0 * 2 ^ (8 * k % 51)≤255 * 1125899906842624:=Int.mul_le_mul (by omega) hp hp0 (by omega);simp only[fs];generalize l.getD k 0 * 2 ^ (8 * k % 51)=t at *;split <;> (constructor <;> omega)
theorem getD_by (l:List Int) (hb:∀ x ∈ l,0≤x∧x<256) (k:Nat):0≤l.getD k 0∧l.getD k 0<256:=by
 rw[List.getD_eq_getElem?_getD];rcases Nat.lt_or_ge k l.length with h | h
 ·rw[List.getElem?_eq_getElem h]; exact hb _ (List.getElem_mem h)
 ·rw[List.getElem?_eq_none h]; simp
theorem fs_top (l:List Int) (hb:∀ x ∈ l,0≤x∧x<256) (a:Nat) (ha:a<5):0≤fs l a 32∧fs l a 32<2305843009213693952:=by
 have g:=fun k=>getD_by l hb k;have hc:a=0∨a=1∨a=2∨a=3∨a=4:=by omega
 have B:∀ i,0≤l.getD i 0∧l.getD i 0<256:=g;rcases hc with rfl | rfl | rfl | rfl | rfl;all_goals
  simp only[fs];simp;have:=B 0; have:=B 1; have:=B 2; have:=B 3; have:=B 4; have:=B 5; have:=B 6; have:=B 7; have:=B 8; have:=B 9; have:=B 10; have:=B 11; have:=B 12; have:=B 13; have:=B 14; have:=B 15;have:=B 16; have:=B 17; have:=B 18; have:=B 19; have:=B 20; have:=B 21; have:=B 22; have:=B 23; have:=B 24; have:=B 25; have:=B 26; have:=B 27; have:=B 28; have:=B 29; have:=B 30; have:=B 31;simp only[List.getD_eq_getElem?_getD] at *;omega
def FL (w wr:World) (l:List Int) (k:Nat):Prop :=
 wr.heap[w.heap.size+1+1]?=some (.cells #[.int .u64 (fs l 0 k),.int .u64 (fs l 1 k),.int .u64 (fs l 2 k),.int .u64 (fs l 3 k),.int .u64 (fs l 4 k)] 137 (0,0))∧Res w (w.heap.size+1) 5 140 wr
theorem FL.drew {w wr:World} {l:List Int} {k:Nat} (h:FL w wr l k):FL w wr.drew l k:=⟨h.1,⟨h.2.1.drew,h.2.2.1,h.2.2.2⟩⟩
theorem FL.next {w wr:World} {l:List Int} {k:Nat} (h:FL w wr l k) (at_:Nat) (x:Int) (ha:8 * k / 51=at_) (h5:at_<5) (e:x=fs l at_ k+l.getD k 0 * 2 ^ (8 * k % 51)) :
  FL w (wr.setCell ⟨w.heap.size+1+1,at_,none⟩ (.int .u64 x)) l (k+1):=by
 obtain⟨h1,h2,h3,cs,h4,h5'⟩:=h;refine⟨?_,?_⟩
 ·rw[heap_setCell_same wr _ at_ _ _ _ h1];have hc:at_=0∨at_=1∨at_=2∨at_=3∨at_=4:=by omega
  subst e;rcases hc with rfl | rfl | rfl | rfl | rfl <;> simp[fs,ha]
 ·refine⟨h2.setCell (by show w.heap.size≤w.heap.size+1+1; omega) _,h3,cs,h4,?_⟩;rw[Below.heap_setCell wr _ _ _ (by show w.heap.size+1≠w.heap.size+1+1; omega)]; exact h5'
theorem three33 (w:World) (o0 o1 o2:Obj) (u:World) (h:((w.alloc o0).alloc o1).alloc o2=u) :
  u.heap[w.heap.size+1]?=some o1∧u.heap[w.heap.size+1+1]?=some o2∧Gr w u:=by
 rw[← h];refine⟨?_,?_,(((Gr.refl _).alloc _).alloc _).alloc _⟩ <;> (simp only[bT,aB]; repeat (first | rw[if_pos trivial] | rw[if_pos (by omega)] | rw[if_neg (by omega)]))
theorem from_any (l:List Int) (hl:l.length=32) (hb:∀ x ∈ l,0≤x∧x<256) (w:World) :
  Calls Tryz.prog 77 #[.agg (kc l)] w (Reck (ds (l.set 31 (l.getD 31 0 % 128)) 32) w):=by
 obtain⟨z,hz⟩:∃ z,l.getD 31 0=z:=⟨_,rfl⟩;rw[hz];have hz2:0≤z∧z<256:=by
  rw[← hz]; apply hb; rw[List.getD_eq_getElem?_getD,List.getElem?_eq_getElem (by omega)]; simp
 have m31:=mask7 z hz2;obtain⟨l',hl'⟩:∃ l',l.set 31 (z % 128)=l':=⟨_,rfl⟩;rw[hl'];have hbl:∀ x ∈ l',0≤x∧x<256:=by
  rw[← hl']; intro x hx;rcases List.mem_or_eq_of_mem_set hx with h | h
  ·exact hb x h
  ·subst h; omega
 have hll:l'.length=32:=by rw[← hl']; simpa using hl
 have hcar:=dI _ _ _ _ _ (fs_top l' hbl 0 (by omega)) (fs_top l' hbl 1 (by omega)) (fs_top l' hbl 2 (by omega)) (fs_top l' hbl 3 (by omega)) (fs_top l' hbl 4 (by omega));rw[val_fs l' 32 (by omega)] at hcar;replace hcar:=ao hcar;have hbd:=ao (fun a=>fs_bd l' hbl a);replace hbl:=ao hbl;replace hll:=ao hll;have hb':=ao hb;clear hb;have A31:(kc l)[31]?=some (.int .u8 z):=by rw[← hz]; simp[kc,List.getD,List.getElem?_eq_getElem (show 31<l.length by omega)]
 have hA:(kc l).size=32:=by rw[au,hl]
 have hA2:(kc l).setIfInBounds 31 (.int .u8 (z % 128))=kc l':=by rw[← hl']; simp[kc,List.map_set]
 replace hA2:=ao hA2;generalize kc l=A at *;have A31':∀ h:31<A.size,A[31]'h=.int .u8 z:=fun h=>by rw[Array.getElem?_eq_getElem h] at A31; exact Option.some.inj A31
 go_enter Tryz.func77,Tryz.ntmps77;go_wp2_with (refine wpList_load_row rfl 23 (.tmp 1) rfl w.heap.size rfl 23 (A.setIfInBounds 31 (.int .u8 (z % 128))) (0,0) _ (by (try simp only[bT,aB]); repeat (first | rw[if_pos trivial] | rw[if_pos (by omega)] | rw[if_neg (by omega)])) Tryz.underlying23 rfl (by rw[Tryz.infoKey',Array.size_setIfInBounds,hA]) ?_);rw[aj hA2];generalize hW:World.alloc _ _=u;obtain⟨B1,B2,hg0⟩:=three33 w _ _ _ u hW;have hS:Hid (FL w u l' 0):=ao ⟨B2,hg0,by omega,_,rfl,B1⟩;clear hW B1 B2 hg0 hA2 A31 A31' hA hz2 hz m31 hb' hl hl'
 go_loopw [12] (fun i wr=>∃ k:Nat,k≤32∧i=.int .i64 k∧Hid (FL w wr l' k)) (fun i _=>32 - (intOf i).toNat)
 case atStart=>exact⟨0,by omega,rfl,hS⟩
 case round =>
  clear hS;obtain⟨k,hk,rfl,hS⟩:=hrel;have c0:=aw (i:=0) (aj hS).1 rfl;have c1:=aw (i:=1) (aj hS).1 rfl;have c2:=aw (i:=2) (aj hS).1 rfl;have c3:=aw (i:=3) (aj hS).1 rfl;have c4:=aw (i:=4) (aj hS).1 rfl;by_cases h32:k=32
  ·subst h32;clear hbd;go_wp2_with (go_at_call 114; refine(aj hcar _).mono ?_; rintro r w9 ⟨y0,y1,y2,y3,y4,o9,rfl,hR,rfl⟩; replace hR:=ao hR; have hE:=ao ((aj hS).2.gr ((Gr.refl _).alloc o9)); obtain⟨q0,q1,q2,q3,q4,hq0,hq1,hq2,hq3,hq4,z0,z1,z2,z3,z4⟩:=(aj hE).five; unfold five);refine bodyPost_ret (v:=five y0 y1 y2 y3 y4) ?_ rfl ?_
   ·simp[results,Tryz.results77,go_sem,five,hq0,hq1,hq2,hq3,hq4]
   ·exact⟨_,_,_,_,_,rfl,aj hR,((aj hE).set5 _ _ _ _ _).1⟩
  ·have hlt:k<32:=by omega
   clear h32 hk hcar;have hcases:k=0∨k=1∨k=2∨k=3∨k=4∨k=5∨k=6∨k=7∨k=8∨k=9∨k=10∨k=11∨k=12∨k=13∨k=14∨k=15∨k=16∨k=17∨k=18∨k=19∨k=20∨k=21∨k=22∨k=23∨k=24∨k=25∨k=26∨k=27∨k=28∨k=29∨k=30∨k=31:=by omega
   have ix:=index_kc l' k hlt (aj hll);have hby:=getD_by l' (aj hbl) k;have f0:=aO (i:=0) (aj hS).1;have f1:=aO (i:=1) (aj hS).1;have f2:=aO (i:=2) (aj hS).1;have f3:=aO (i:=3) (aj hS).1;have f4:=aO (i:=4) (aj hS).1;have b0:=aj hbd 0 k;have b1:=aj hbd 1 k;have b2:=aj hbd 2 k;have b3:=aj hbd 3 k;have b4:=aj hbd 4 k;clear hbd;generalize hc:l'.getD k 0=c at *;generalize g0:fs l' 0 k=F0 at *;generalize g1:fs l' 1 k=F1 at *;generalize g2:fs l' 2 k=F2 at *;generalize g3:fs l' 3 k=F3 at *;generalize g4:fs l' 4 k=F4 at *;have rc:IntKind.u64.wrap c=c:=aC _ (by omega) (by omega);rcases hcases with rfl | rfl | rfl | rfl | rfl | rfl | rfl | rfl | rfl | rfl | rfl | rfl | rfl | rfl | rfl | rfl | rfl | rfl | rfl | rfl | rfl | rfl | rfl | rfl | rfl | rfl | rfl | rfl | rfl | rfl | rfl | rfl
   ·have iy:∀ w,(Instr.index 23 (.agg (kc l')) (.int .i64 0)).run Tryz.prog w=.ok (.int .u8 c) w:=ix;have r2:IntKind.u64.wrap (F0+c)=F0+c:=aC _ (by omega) (by omega);clear b0 b1 b2 b3 b4 hby ix;go_wp2_with fail
    go_region
    go_wp2_with fail;go_roundw
    case rel =>
     have e1:F0+c=fs l' 0 0+l'.getD 0 0 * 2 ^ (8 * 0 % 51):=by rw[g0,hc]; simp
     have h1:FL w (wr.setCell ⟨w.heap.size+1+1,0,none⟩ (.int .u64 (F0+c))) l' (0+1):=FL.next (aj hS) 0 (F0+c) rfl (by decide) e1;refine⟨1,by decide,rfl,?_⟩;exact ao h1.drew
    case measure=>decide
   ·have iy:∀ w,(Instr.index 23 (.agg (kc l')) (.int .i64 1)).run Tryz.prog w=.ok (.int .u8 c) w:=ix;have r1:IntKind.u64.wrap (c * 256)=c * 256:=aC _ (by omega) (by omega);have r2:IntKind.u64.wrap (F0+c * 256)=F0+c * 256:=aC _ (by omega) (by omega);clear b0 b1 b2 b3 b4 hby ix;go_wp2_with fail
    go_region
    go_wp2_with fail;go_roundw
    case rel =>
     have e1:F0+c * 256=fs l' 0 1+l'.getD 1 0 * 2 ^ (8 * 1 % 51):=by rw[g0,hc]; simp
     have h1:FL w (wr.setCell ⟨w.heap.size+1+1,0,none⟩ (.int .u64 (F0+c * 256))) l' (1+1):=FL.next (aj hS) 0 (F0+c * 256) rfl (by decide) e1;refine⟨2,by decide,rfl,?_⟩;exact ao h1.drew
    case measure=>decide
   ·have iy:∀ w,(Instr.index 23 (.agg (kc l')) (.int .i64 2)).run Tryz.prog w=.ok (.int .u8 c) w:=ix;have r1:IntKind.u64.wrap (c * 65536)=c * 65536:=aC _ (by omega) (by omega);have r2:IntKind.u64.wrap (F0+c * 65536)=F0+c * 65536:=aC _ (by omega) (by omega);clear b0 b1 b2 b3 b4 hby ix;go_wp2_with fail
    go_region
    go_wp2_with fail;go_roundw
    case rel =>
     have e1:F0+c * 65536=fs l' 0 2+l'.getD 2 0 * 2 ^ (8 * 2 % 51):=by rw[g0,hc]; simp
     have h1:FL w (wr.setCell ⟨w.heap.size+1+1,0,none⟩ (.int .u64 (F0+c * 65536))) l' (2+1):=FL.next (aj hS) 0 (F0+c * 65536) rfl (by decide) e1;refine⟨3,by decide,rfl,?_⟩;exact ao h1.drew
    case measure=>decide
   ·have iy:∀ w,(Instr.index 23 (.agg (kc l')) (.int .i64 3)).run Tryz.prog w=.ok (.int .u8 c) w:=ix;have r1:IntKind.u64.wrap (c * 16777216)=c * 16777216:=aC _ (by omega) (by omega);have r2:IntKind.u64.wrap (F0+c * 16777216)=F0+c * 16777216:=aC _ (by omega) (by omega);clear b0 b1 b2 b3 b4 hby ix;go_wp2_with fail
    go_region
    go_wp2_with fail;go_roundw
    case rel =>
     have e1:F0+c * 16777216=fs l' 0 3+l'.getD 3 0 * 2 ^ (8 * 3 % 51):=by rw[g0,hc]; simp
     have h1:FL w (wr.setCell ⟨w.heap.size+1+1,0,none⟩ (.int .u64 (F0+c * 16777216))) l' (3+1):=FL.next (aj hS) 0 (F0+c * 16777216) rfl (by decide) e1;refine⟨4,by decide,rfl,?_⟩;exact ao h1.drew
    case measure=>decide
   ·have iy:∀ w,(Instr.index 23 (.agg (kc l')) (.int .i64 4)).run Tryz.prog w=.ok (.int .u8 c) w:=ix;have r1:IntKind.u64.wrap (c * 4294967296)=c * 4294967296:=aC _ (by omega) (by omega);have r2:IntKind.u64.wrap (F0+c * 4294967296)=F0+c * 4294967296:=aC _ (by omega) (by omega);clear b0 b1 b2 b3 b4 hby ix;go_wp2_with fail
    go_region
    go_wp2_with fail;go_roundw
    case rel =>
     have e1:F0+c * 4294967296=fs l' 0 4+l'.getD 4 0 * 2 ^ (8 * 4 % 51):=by rw[g0,hc]; simp
     have h1:FL w (wr.setCell ⟨w.heap.size+1+1,0,none⟩ (.int .u64 (F0+c * 4294967296))) l' (4+1):=FL.next (aj hS) 0 (F0+c * 4294967296) rfl (by decide) e1;refine⟨5,by decide,rfl,?_⟩;exact ao h1.drew
    case measure=>decide
   ·have iy:∀ w,(Instr.index 23 (.agg (kc l')) (.int .i64 5)).run Tryz.prog w=.ok (.int .u8 c) w:=ix;have r1:IntKind.u64.wrap (c * 1099511627776)=c * 1099511627776:=aC _ (by omega) (by omega);have r2:IntKind.u64.wrap (F0+c * 1099511627776)=F0+c * 1099511627776:=aC _ (by omega) (by omega);clear b0 b1 b2 b3 b4 hby ix;go_wp2_with fail
    go_region
    go_wp2_with fail;go_roundw
    case rel =>
     have e1:F0+c * 1099511627776=fs l' 0 5+l'.getD 5 0 * 2 ^ (8 * 5 % 51):=by rw[g0,hc]; simp
     have h1:FL w (wr.setCell ⟨w.heap.size+1+1,0,none⟩ (.int .u64 (F0+c * 1099511627776))) l' (5+1):=FL.next (aj hS) 0 (F0+c * 1099511627776) rfl (by decide) e1;refine⟨6,by decide,rfl,?_⟩;exact ao h1.drew
    case measure=>decide
   ·have iy:∀ w,(Instr.index 23 (.agg (kc l')) (.int .i64 6)).run Tryz.prog w=.ok (.int .u8 c) w:=ix;have r1:IntKind.u64.wrap (c * 281474976710656)=c * 281474976710656:=aC _ (by omega) (by omega);have r2:IntKind.u64.wrap (F0+c * 281474976710656)=F0+c * 281474976710656:=aC _ (by omega) (by omega);clear b0 b1 b2 b3 b4 hby ix;go_wp2_with fail
    go_region
    go_wp2_with fail;go_roundw
    case rel =>
     have e1:F0+c * 281474976710656=fs l' 0 6+l'.getD 6 0 * 2 ^ (8 * 6 % 51):=by rw[g0,hc]; simp
     have h1:FL w (wr.setCell ⟨w.heap.size+1+1,0,none⟩ (.int .u64 (F0+c * 281474976710656))) l' (6+1):=FL.next (aj hS) 0 (F0+c * 281474976710656) rfl (by decide) e1;refine⟨7,by decide,rfl,?_⟩;exact ao h1.drew
    case measure=>decide
   ·have iy:∀ w,(Instr.index 23 (.agg (kc l')) (.int .i64 7)).run Tryz.prog w=.ok (.int .u8 c) w:=ix;have r1:IntKind.u64.wrap (c * 32)=c * 32:=aC _ (by omega) (by omega);have r2:IntKind.u64.wrap (F1+c * 32)=F1+c * 32:=aC _ (by omega) (by omega);clear b0 b1 b2 b3 b4 hby ix;go_wp2_with fail
    go_region
    go_wp2_with fail;go_roundw
    case rel =>
     have e1:F1+c * 32=fs l' 1 7+l'.getD 7 0 * 2 ^ (8 * 7 % 51):=by rw[g1,hc]; simp
     have h1:FL w (wr.setCell ⟨w.heap.size+1+1,1,none⟩ (.int .u64 (F1+c * 32))) l' (7+1):=FL.next (aj hS) 1 (F1+c * 32) rfl (by decide) e1;refine⟨8,by decide,rfl,?_⟩;exact ao h1.drew
    case measure=>decide
   ·have iy:∀ w,(Instr.index 23 (.agg (kc l')) (.int .i64 8)).run Tryz.prog w=.ok (.int .u8 c) w:=ix;have r1:IntKind.u64.wrap (c * 8192)=c * 8192:=aC _ (by omega) (by omega);have r2:IntKind.u64.wrap (F1+c * 8192)=F1+c * 8192:=aC _ (by omega) (by omega);clear b0 b1 b2 b3 b4 hby ix;go_wp2_with fail
    go_region
    go_wp2_with fail;go_roundw
    case rel =>
     have e1:F1+c * 8192=fs l' 1 8+l'.getD 8 0 * 2 ^ (8 * 8 % 51):=by rw[g1,hc]; simp
     have h1:FL w (wr.setCell ⟨w.heap.size+1+1,1,none⟩ (.int .u64 (F1+c * 8192))) l' (8+1):=FL.next (aj hS) 1 (F1+c * 8192) rfl (by decide) e1;refine⟨9,by decide,rfl,?_⟩;exact ao h1.drew
    case measure=>decide
   ·have iy:∀ w,(Instr.index 23 (.agg (kc l')) (.int .i64 9)).run Tryz.prog w=.ok (.int .u8 c) w:=ix;have r1:IntKind.u64.wrap (c * 2097152)=c * 2097152:=aC _ (by omega) (by omega);have r2:IntKind.u64.wrap (F1+c * 2097152)=F1+c * 2097152:=aC _ (by omega) (by omega);clear b0 b1 b2 b3 b4 hby ix;go_wp2_with fail
    go_region
    go_wp2_with fail;go_roundw
    case rel =>
     have e1:F1+c * 2097152=fs l' 1 9+l'.getD 9 0 * 2 ^ (8 * 9 % 51):=by rw[g1,hc]; simp
     have h1:FL w (wr.setCell ⟨w.heap.size+1+1,1,none⟩ (.int .u64 (F1+c * 2097152))) l' (9+1):=FL.next (aj hS) 1 (F1+c * 2097152) rfl (by decide) e1;refine⟨10,by decide,rfl,?_⟩;exact ao h1.drew
    case measure=>decide
   ·have iy:∀ w,(Instr.index 23 (.agg (kc l')) (.int .i64 10)).run Tryz.prog w=.ok (.int .u8 c) w:=ix;have r1:IntKind.u64.wrap (c * 536870912)=c * 536870912:=aC _ (by omega) (by omega);have r2:IntKind.u64.wrap (F1+c * 536870912)=F1+c * 536870912:=aC _ (by omega) (by omega);clear b0 b1 b2 b3 b4 hby ix;go_wp2_with fail
    go_region
    go_wp2_with fail;go_roundw
    case rel =>
     have e1:F1+c * 536870912=fs l' 1 10+l'.getD 10 0 * 2 ^ (8 * 10 % 51):=by rw[g1,hc]; simp
     have h1:FL w (wr.setCell ⟨w.heap.size+1+1,1,none⟩ (.int .u64 (F1+c * 536870912))) l' (10+1):=FL.next (aj hS) 1 (F1+c * 536870912) rfl (by decide) e1;refine⟨11,by decide,rfl,?_⟩;exact ao h1.drew
    case measure=>decide
   ·have iy:∀ w,(Instr.index 23 (.agg (kc l')) (.int .i64 11)).run Tryz.prog w=.ok (.int .u8 c) w:=ix;have r1:IntKind.u64.wrap (c * 137438953472)=c * 137438953472:=aC _ (by omega) (by omega);have r2:IntKind.u64.wrap (F1+c * 137438953472)=F1+c * 137438953472:=aC _ (by omega) (by omega);clear b0 b1 b2 b3 b4 hby ix;go_wp2_with fail
    go_region
    go_wp2_with fail;go_roundw
    case rel =>
     have e1:F1+c * 137438953472=fs l' 1 11+l'.getD 11 0 * 2 ^ (8 * 11 % 51):=by rw[g1,hc]; simp
     have h1:FL w (wr.setCell ⟨w.heap.size+1+1,1,none⟩ (.int .u64 (F1+c * 137438953472))) l' (11+1):=FL.next (aj hS) 1 (F1+c * 137438953472) rfl (by decide) e1;refine⟨12,by decide,rfl,?_⟩;exact ao h1.drew
    case measure=>decide
   ·have iy:∀ w,(Instr.index 23 (.agg (kc l')) (.int .i64 12)).run Tryz.prog w=.ok (.int .u8 c) w:=ix;have r1:IntKind.u64.wrap (c * 35184372088832)=c * 35184372088832:=aC _ (by omega) (by omega);have r2:IntKind.u64.wrap (F1+c * 35184372088832)=F1+c * 35184372088832:=aC _ (by omega) (by omega);clear b0 b1 b2 b3 b4 hby ix;go_wp2_with fail
    go_region
    go_wp2_with fail;go_roundw
    case rel =>
     have e1:F1+c * 35184372088832=fs l' 1 12+l'.getD 12 0 * 2 ^ (8 * 12 % 51):=by rw[g1,hc]; simp
     have h1:FL w (wr.setCell ⟨w.heap.size+1+1,1,none⟩ (.int .u64 (F1+c * 35184372088832))) l' (12+1):=FL.next (aj hS) 1 (F1+c * 35184372088832) rfl (by decide) e1;refine⟨13,by decide,rfl,?_⟩;exact ao h1.drew
    case measure=>decide
   ·have iy:∀ w,(Instr.index 23 (.agg (kc l')) (.int .i64 13)).run Tryz.prog w=.ok (.int .u8 c) w:=ix;have r1:IntKind.u64.wrap (c * 4)=c * 4:=aC _ (by omega) (by omega);have r2:IntKind.u64.wrap (F2+c * 4)=F2+c * 4:=aC _ (by omega) (by omega);clear b0 b1 b2 b3 b4 hby ix;go_wp2_with fail
    go_region
    go_wp2_with fail;go_roundw
    case rel =>
     have e1:F2+c * 4=fs l' 2 13+l'.getD 13 0 * 2 ^ (8 * 13 % 51):=by rw[g2,hc]; simp
     have h1:FL w (wr.setCell ⟨w.heap.size+1+1,2,none⟩ (.int .u64 (F2+c * 4))) l' (13+1):=FL.next (aj hS) 2 (F2+c * 4) rfl (by decide) e1;refine⟨14,by decide,rfl,?_⟩;exact ao h1.drew
    case measure=>decide
   ·have iy:∀ w,(Instr.index 23 (.agg (kc l')) (.int .i64 14)).run Tryz.prog w=.ok (.int .u8 c) w:=ix;have r1:IntKind.u64.wrap (c * 1024)=c * 1024:=aC _ (by omega) (by omega);have r2:IntKind.u64.wrap (F2+c * 1024)=F2+c * 1024:=aC _ (by omega) (by omega);clear b0 b1 b2 b3 b4 hby ix;go_wp2_with fail
    go_region
    go_wp2_with fail;go_roundw
    case rel =>
     have e1:F2+c * 1024=fs l' 2 14+l'.getD 14 0 * 2 ^ (8 * 14 % 51):=by rw[g2,hc]; simp
     have h1:FL w (wr.setCell ⟨w.heap.size+1+1,2,none⟩ (.int .u64 (F2+c * 1024))) l' (14+1):=FL.next (aj hS) 2 (F2+c * 1024) rfl (by decide) e1;refine⟨15,by decide,rfl,?_⟩;exact ao h1.drew
    case measure=>decide
   ·have iy:∀ w,(Instr.index 23 (.agg (kc l')) (.int .i64 15)).run Tryz.prog w=.ok (.int .u8 c) w:=ix;have r1:IntKind.u64.wrap (c * 262144)=c * 262144:=aC _ (by omega) (by omega);have r2:IntKind.u64.wrap (F2+c * 262144)=F2+c * 262144:=aC _ (by omega) (by omega);clear b0 b1 b2 b3 b4 hby ix;go_wp2_with fail
    go_region
    go_wp2_with fail;go_roundw
    case rel =>
     have e1:F2+c * 262144=fs l' 2 15+l'.getD 15 0 * 2 ^ (8 * 15 % 51):=by rw[g2,hc]; simp
     have h1:FL w (wr.setCell ⟨w.heap.size+1+1,2,none⟩ (.int .u64 (F2+c * 262144))) l' (15+1):=FL.next (aj hS) 2 (F2+c * 262144) rfl (by decide) e1;refine⟨16,by decide,rfl,?_⟩;exact ao h1.drew
    case measure=>decide
   ·have iy:∀ w,(Instr.index 23 (.agg (kc l')) (.int .i64 16)).run Tryz.prog w=.ok (.int .u8 c) w:=ix;have r1:IntKind.u64.wrap (c * 67108864)=c * 67108864:=aC _ (by omega) (by omega);have r2:IntKind.u64.wrap (F2+c * 67108864)=F2+c * 67108864:=aC _ (by omega) (by omega);clear b0 b1 b2 b3 b4 hby ix;go_wp2_with fail
    go_region
    go_wp2_with fail;go_roundw
    case rel =>
     have e1:F2+c * 67108864=fs l' 2 16+l'.getD 16 0 * 2 ^ (8 * 16 % 51):=by rw[g2,hc]; simp
     have h1:FL w (wr.setCell ⟨w.heap.size+1+1,2,none⟩ (.int .u64 (F2+c * 67108864))) l' (16+1):=FL.next (aj hS) 2 (F2+c * 67108864) rfl (by decide) e1;refine⟨17,by decide,rfl,?_⟩;exact ao h1.drew
    case measure=>decide
   ·have iy:∀ w,(Instr.index 23 (.agg (kc l')) (.int .i64 17)).run Tryz.prog w=.ok (.int .u8 c) w:=ix;have r1:IntKind.u64.wrap (c * 17179869184)=c * 17179869184:=aC _ (by omega) (by omega);have r2:IntKind.u64.wrap (F2+c * 17179869184)=F2+c * 17179869184:=aC _ (by omega) (by omega);clear b0 b1 b2 b3 b4 hby ix;go_wp2_with fail
    go_region
    go_wp2_with fail;go_roundw
    case rel =>
     have e1:F2+c * 17179869184=fs l' 2 17+l'.getD 17 0 * 2 ^ (8 * 17 % 51):=by rw[g2,hc]; simp
     have h1:FL w (wr.setCell ⟨w.heap.size+1+1,2,none⟩ (.int .u64 (F2+c * 17179869184))) l' (17+1):=FL.next (aj hS) 2 (F2+c * 17179869184) rfl (by decide) e1;refine⟨18,by decide,rfl,?_⟩;exact ao h1.drew
    case measure=>decide
   ·have iy:∀ w,(Instr.index 23 (.agg (kc l')) (.int .i64 18)).run Tryz.prog w=.ok (.int .u8 c) w:=ix;have r1:IntKind.u64.wrap (c * 4398046511104)=c * 4398046511104:=aC _ (by omega) (by omega);have r2:IntKind.u64.wrap (F2+c * 4398046511104)=F2+c * 4398046511104:=aC _ (by omega) (by omega);clear b0 b1 b2 b3 b4 hby ix;go_wp2_with fail
    go_region
    go_wp2_with fail;go_roundw
    case rel =>
     have e1:F2+c * 4398046511104=fs l' 2 18+l'.getD 18 0 * 2 ^ (8 * 18 % 51):=by rw[g2,hc]; simp
     have h1:FL w (wr.setCell ⟨w.heap.size+1+1,2,none⟩ (.int .u64 (F2+c * 4398046511104))) l' (18+1):=FL.next (aj hS) 2 (F2+c * 4398046511104) rfl (by decide) e1;refine⟨19,by decide,rfl,?_⟩;exact ao h1.drew
    case measure=>decide
   ·have iy:∀ w,(Instr.index 23 (.agg (kc l')) (.int .i64 19)).run Tryz.prog w=.ok (.int .u8 c) w:=ix;have r1:IntKind.u64.wrap (c * 1125899906842624)=c * 1125899906842624:=aC _ (by omega) (by omega);have r2:IntKind.u64.wrap (F2+c * 1125899906842624)=F2+c * 1125899906842624:=aC _ (by omega) (by omega);clear b0 b1 b2 b3 b4 hby ix;go_wp2_with fail
    go_region
    go_wp2_with fail;go_roundw
    case rel =>
     have e1:F2+c * 1125899906842624=fs l' 2 19+l'.getD 19 0 * 2 ^ (8 * 19 % 51):=by rw[g2,hc]; simp
     have h1:FL w (wr.setCell ⟨w.heap.size+1+1,2,none⟩ (.int .u64 (F2+c * 1125899906842624))) l' (19+1):=FL.next (aj hS) 2 (F2+c * 1125899906842624) rfl (by decide) e1;refine⟨20,by decide,rfl,?_⟩;exact ao h1.drew
    case measure=>decide
   ·have iy:∀ w,(Instr.index 23 (.agg (kc l')) (.int .i64 20)).run Tryz.prog w=.ok (.int .u8 c) w:=ix;have r1:IntKind.u64.wrap (c * 128)=c * 128:=aC _ (by omega) (by omega);have r2:IntKind.u64.wrap (F3+c * 128)=F3+c * 128:=aC _ (by omega) (by omega);clear b0 b1 b2 b3 b4 hby ix;go_wp2_with fail
    go_region
    go_wp2_with fail;go_roundw
    case rel =>
     have e1:F3+c * 128=fs l' 3 20+l'.getD 20 0 * 2 ^ (8 * 20 % 51):=by rw[g3,hc]; simp
     have h1:FL w (wr.setCell ⟨w.heap.size+1+1,3,none⟩ (.int .u64 (F3+c * 128))) l' (20+1):=FL.next (aj hS) 3 (F3+c * 128) rfl (by decide) e1;refine⟨21,by decide,rfl,?_⟩;exact ao h1.drew
    case measure=>decide
   ·have iy:∀ w,(Instr.index 23 (.agg (kc l')) (.int .i64 21)).run Tryz.prog w=.ok (.int .u8 c) w:=ix;have r1:IntKind.u64.wrap (c * 32768)=c * 32768:=aC _ (by omega) (by omega);have r2:IntKind.u64.wrap (F3+c * 32768)=F3+c * 32768:=aC _ (by omega) (by omega);clear b0 b1 b2 b3 b4 hby ix;go_wp2_with fail
    go_region
    go_wp2_with fail;go_roundw
    case rel =>
     have e1:F3+c * 32768=fs l' 3 21+l'.getD 21 0 * 2 ^ (8 * 21 % 51):=by rw[g3,hc]; simp
     have h1:FL w (wr.setCell ⟨w.heap.size+1+1,3,none⟩ (.int .u64 (F3+c * 32768))) l' (21+1):=FL.next (aj hS) 3 (F3+c * 32768) rfl (by decide) e1;refine⟨22,by decide,rfl,?_⟩;exact ao h1.drew
    case measure=>decide
   ·have iy:∀ w,(Instr.index 23 (.agg (kc l')) (.int .i64 22)).run Tryz.prog w=.ok (.int .u8 c) w:=ix;have r1:IntKind.u64.wrap (c * 8388608)=c * 8388608:=aC _ (by omega) (by omega);have r2:IntKind.u64.wrap (F3+c * 8388608)=F3+c * 8388608:=aC _ (by omega) (by omega);clear b0 b1 b2 b3 b4 hby ix;go_wp2_with fail
    go_region
    go_wp2_with fail;go_roundw
    case rel =>
     have e1:F3+c * 8388608=fs l' 3 22+l'.getD 22 0 * 2 ^ (8 * 22 % 51):=by rw[g3,hc]; simp
     have h1:FL w (wr.setCell ⟨w.heap.size+1+1,3,none⟩ (.int .u64 (F3+c * 8388608))) l' (22+1):=FL.next (aj hS) 3 (F3+c * 8388608) rfl (by decide) e1;refine⟨23,by decide,rfl,?_⟩;exact ao h1.drew
    case measure=>decide
   ·have iy:∀ w,(Instr.index 23 (.agg (kc l')) (.int .i64 23)).run Tryz.prog w=.ok (.int .u8 c) w:=ix;have r1:IntKind.u64.wrap (c * 2147483648)=c * 2147483648:=aC _ (by omega) (by omega);have r2:IntKind.u64.wrap (F3+c * 2147483648)=F3+c * 2147483648:=aC _ (by omega) (by omega);clear b0 b1 b2 b3 b4 hby ix;go_wp2_with fail
    go_region
    go_wp2_with fail;go_roundw
    case rel =>
     have e1:F3+c * 2147483648=fs l' 3 23+l'.getD 23 0 * 2 ^ (8 * 23 % 51):=by rw[g3,hc]; simp
     have h1:FL w (wr.setCell ⟨w.heap.size+1+1,3,none⟩ (.int .u64 (F3+c * 2147483648))) l' (23+1):=FL.next (aj hS) 3 (F3+c * 2147483648) rfl (by decide) e1;refine⟨24,by decide,rfl,?_⟩;exact ao h1.drew
    case measure=>decide
   ·have iy:∀ w,(Instr.index 23 (.agg (kc l')) (.int .i64 24)).run Tryz.prog w=.ok (.int .u8 c) w:=ix;have r1:IntKind.u64.wrap (c * 549755813888)=c * 549755813888:=aC _ (by omega) (by omega);have r2:IntKind.u64.wrap (F3+c * 549755813888)=F3+c * 549755813888:=aC _ (by omega) (by omega);clear b0 b1 b2 b3 b4 hby ix;go_wp2_with fail
    go_region
    go_wp2_with fail;go_roundw
    case rel =>
     have e1:F3+c * 549755813888=fs l' 3 24+l'.getD 24 0 * 2 ^ (8 * 24 % 51):=by rw[g3,hc]; simp
     have h1:FL w (wr.setCell ⟨w.heap.size+1+1,3,none⟩ (.int .u64 (F3+c * 549755813888))) l' (24+1):=FL.next (aj hS) 3 (F3+c * 549755813888) rfl (by decide) e1;refine⟨25,by decide,rfl,?_⟩;exact ao h1.drew
    case measure=>decide
   ·have iy:∀ w,(Instr.index 23 (.agg (kc l')) (.int .i64 25)).run Tryz.prog w=.ok (.int .u8 c) w:=ix;have r1:IntKind.u64.wrap (c * 140737488355328)=c * 140737488355328:=aC _ (by omega) (by omega);have r2:IntKind.u64.wrap (F3+c * 140737488355328)=F3+c * 140737488355328:=aC _ (by omega) (by omega);clear b0 b1 b2 b3 b4 hby ix;go_wp2_with fail
    go_region
    go_wp2_with fail;go_roundw
    case rel =>
     have e1:F3+c * 140737488355328=fs l' 3 25+l'.getD 25 0 * 2 ^ (8 * 25 % 51):=by rw[g3,hc]; simp
     have h1:FL w (wr.setCell ⟨w.heap.size+1+1,3,none⟩ (.int .u64 (F3+c * 140737488355328))) l' (25+1):=FL.next (aj hS) 3 (F3+c * 140737488355328) rfl (by decide) e1;refine⟨26,by decide,rfl,?_⟩;exact ao h1.drew
    case measure=>decide
   ·have iy:∀ w,(Instr.index 23 (.agg (kc l')) (.int .i64 26)).run Tryz.prog w=.ok (.int .u8 c) w:=ix;have r1:IntKind.u64.wrap (c * 16)=c * 16:=aC _ (by omega) (by omega);have r2:IntKind.u64.wrap (F4+c * 16)=F4+c * 16:=aC _ (by omega) (by omega);clear b0 b1 b2 b3 b4 hby ix;go_wp2_with fail
    go_region
    go_wp2_with fail;go_roundw
    case rel =>
     have e1:F4+c * 16=fs l' 4 26+l'.getD 26 0 * 2 ^ (8 * 26 % 51):=by rw[g4,hc]; simp
     have h1:FL w (wr.setCell ⟨w.heap.size+1+1,4,none⟩ (.int .u64 (F4+c * 16))) l' (26+1):=FL.next (aj hS) 4 (F4+c * 16) rfl (by decide) e1;refine⟨27,by decide,rfl,?_⟩;exact ao h1.drew
    case measure=>decide
   ·have iy:∀ w,(Instr.index 23 (.agg (kc l')) (.int .i64 27)).run Tryz.prog w=.ok (.int .u8 c) w:=ix;have r1:IntKind.u64.wrap (c * 4096)=c * 4096:=aC _ (by omega) (by omega);have r2:IntKind.u64.wrap (F4+c * 4096)=F4+c * 4096:=aC _ (by omega) (by omega);clear b0 b1 b2 b3 b4 hby ix;go_wp2_with fail
    go_region
    go_wp2_with fail;go_roundw
    case rel =>
     have e1:F4+c * 4096=fs l' 4 27+l'.getD 27 0 * 2 ^ (8 * 27 % 51):=by rw[g4,hc]; simp
     have h1:FL w (wr.setCell ⟨w.heap.size+1+1,4,none⟩ (.int .u64 (F4+c * 4096))) l' (27+1):=FL.next (aj hS) 4 (F4+c * 4096) rfl (by decide) e1;refine⟨28,by decide,rfl,?_⟩;exact ao h1.drew
    case measure=>decide
   ·have iy:∀ w,(Instr.index 23 (.agg (kc l')) (.int .i64 28)).run Tryz.prog w=.ok (.int .u8 c) w:=ix;have r1:IntKind.u64.wrap (c * 1048576)=c * 1048576:=aC _ (by omega) (by omega);have r2:IntKind.u64.wrap (F4+c * 1048576)=F4+c * 1048576:=aC _ (by omega) (by omega);clear b0 b1 b2 b3 b4 hby ix;go_wp2_with fail
    go_region
    go_wp2_with fail;go_roundw
    case rel =>
     have e1:F4+c * 1048576=fs l' 4 28+l'.getD 28 0 * 2 ^ (8 * 28 % 51):=by rw[g4,hc]; simp
     have h1:FL w (wr.setCell ⟨w.heap.size+1+1,4,none⟩ (.int .u64 (F4+c * 1048576))) l' (28+1):=FL.next (aj hS) 4 (F4+c * 1048576) rfl (by decide) e1;refine⟨29,by decide,rfl,?_⟩;exact ao h1.drew
    case measure=>decide
   ·have iy:∀ w,(Instr.index 23 (.agg (kc l')) (.int .i64 29)).run Tryz.prog w=.ok (.int .u8 c) w:=ix;have r1:IntKind.u64.wrap (c * 268435456)=c * 268435456:=aC _ (by omega) (by omega);have r2:IntKind.u64.wrap (F4+c * 268435456)=F4+c * 268435456:=aC _ (by omega) (by omega);clear b0 b1 b2 b3 b4 hby ix;go_wp2_with fail
    go_region
    go_wp2_with fail;go_roundw
    case rel =>
     have e1:F4+c * 268435456=fs l' 4 29+l'.getD 29 0 * 2 ^ (8 * 29 % 51):=by rw[g4,hc]; simp
     have h1:FL w (wr.setCell ⟨w.heap.size+1+1,4,none⟩ (.int .u64 (F4+c * 268435456))) l' (29+1):=FL.next (aj hS) 4 (F4+c * 268435456) rfl (by decide) e1;refine⟨30,by decide,rfl,?_⟩;exact ao h1.drew
    case measure=>decide
   ·have iy:∀ w,(Instr.index 23 (.agg (kc l')) (.int .i64 30)).run Tryz.prog w=.ok (.int .u8 c) w:=ix;have r1:IntKind.u64.wrap (c * 68719476736)=c * 68719476736:=aC _ (by omega) (by omega);have r2:IntKind.u64.wrap (F4+c * 68719476736)=F4+c * 68719476736:=aC _ (by omega) (by omega);clear b0 b1 b2 b3 b4 hby ix;go_wp2_with fail
    go_region
    go_wp2_with fail;go_roundw
    case rel =>
     have e1:F4+c * 68719476736=fs l' 4 30+l'.getD 30 0 * 2 ^ (8 * 30 % 51):=by rw[g4,hc]; simp
     have h1:FL w (wr.setCell ⟨w.heap.size+1+1,4,none⟩ (.int .u64 (F4+c * 68719476736))) l' (30+1):=FL.next (aj hS) 4 (F4+c * 68719476736) rfl (by decide) e1;refine⟨31,by decide,rfl,?_⟩;exact ao h1.drew
    case measure=>decide
   ·have iy:∀ w,(Instr.index 23 (.agg (kc l')) (.int .i64 31)).run Tryz.prog w=.ok (.int .u8 c) w:=ix;have r1:IntKind.u64.wrap (c * 17592186044416)=c * 17592186044416:=aC _ (by omega) (by omega);have r2:IntKind.u64.wrap (F4+c * 17592186044416)=F4+c * 17592186044416:=aC _ (by omega) (by omega);clear b0 b1 b2 b3 b4 hby ix;go_wp2_with fail
    go_region
    go_wp2_with fail;go_roundw
    case rel =>
     have e1:F4+c * 17592186044416=fs l' 4 31+l'.getD 31 0 * 2 ^ (8 * 31 % 51):=by rw[g4,hc]; simp
     have h1:FL w (wr.setCell ⟨w.heap.size+1+1,4,none⟩ (.int .u64 (F4+c * 17592186044416))) l' (31+1):=FL.next (aj hS) 4 (F4+c * 17592186044416) rfl (by decide) e1;refine⟨32,by decide,rfl,?_⟩;exact ao h1.drew
    case measure=>decide
theorem cX (n:Int) (k:Nat) (h:k<32):(digs n 32).getD k 0=n / 256 ^ k % 256:=by
 simp[digs,List.getD,h]
theorem digs_by (n:Int) (k:Nat):∀ x ∈ digs n k,0≤x∧x<256:=by
 intro x hx;simp only[digs,List.mem_map] at hx;obtain⟨j,_,rfl⟩:=hx;split <;> omega
theorem ds_of (l:List Int) (n:Int) (hn:0≤n):∀ k,(∀ i,i<k→l.getD i 0=n / 256 ^ i % 256)→ds l k=n % 256 ^ k:=by
 obtain⟨m,rfl⟩:=Int.eq_ofNat_of_zero_le hn;intro k
 induction k with
 | zero=>intro _; simp[ds,Int.emod_one]
 | succ k ih =>
  intro h;simp only[ds];rw[ih (fun i hi=>h i (by omega)),h k (by omega)];have e:=Nat.mod_mul (x:=m) (a:=256 ^ k) (b:=256);have e2:((m % (256 ^ k * 256):Nat):Int)=((m % 256 ^ k+256 ^ k * (m / 256 ^ k % 256):Nat):Int):=by rw[e]
  simp only[Int.natCast_add,Int.natCast_mul,Int.natCast_emod,Int.natCast_ediv,Int.natCast_pow] at e2;rw[Int.pow_succ];have e3:((256:Nat):Int)=256:=rfl;rw[e3] at e2;rw[e2,Int.mul_comm (256 ^ k)]
theorem ds_set (l:List Int) (x:Int) (j:Nat):∀ k,k≤j→ds (l.set j x) k=ds l k:=by
 intro k
 induction k with
 | zero=>intro _; rfl
 | succ k ih =>
  intro h;simp only[ds];rw[ih (by omega)];have:(l.set j x).getD k 0=l.getD k 0:=by
   simp only[List.getD_eq_getElem?_getD,List.getElem?_set];rw[if_neg (by omega)]
  rw[this]
theorem from_num (n:Int) (hn:0≤n):ds ((digs n 32).set 31 ((digs n 32).getD 31 0 % 128)) 32=n % 57896044618658097711785492504343953926634992332820282019728792003956564819968:=by
 have h1:ds ((digs n 32).set 31 ((digs n 32).getD 31 0 % 128)) 32=ds ((digs n 32).set 31 ((digs n 32).getD 31 0 % 128)) 31+((digs n 32).set 31 ((digs n 32).getD 31 0 % 128)).getD 31 0 * 256 ^ 31:=rfl;have h2:((digs n 32).set 31 ((digs n 32).getD 31 0 % 128)).getD 31 0=(digs n 32).getD 31 0 % 128:=by
  rw[List.getD_eq_getElem?_getD,List.getElem?_set];simp[digs_len]
 rw[h1,h2,ds_set _ _ 31 31 (by omega),cX n 31 (by omega),ds_of _ n hn 31 (fun i hi=>cX n i (by omega))];have e:(256:Int) ^ 31=452312848583266388373324160190187140051835877600158453279131187530910662656:=by decide
 rw[e];omega
theorem from_key (n:Int) (hn:0≤n) (w:World):Calls Tryz.prog 77 #[keyV n] w (Reck (n % 57896044618658097711785492504343953926634992332820282019728792003956564819968) w):=by
 have h:=from_any (digs n 32) (digs_len n 32) (digs_by n 32) w;rw[from_num n hn] at h;exact h
theorem key_num (l:List Int) (hl:l.length=32) (hb:∀ x ∈ l,0≤x∧x<256):∃ n,(0≤n∧n<115792089237316195423570985008687907853269984665640564039457584007913129639936)∧l=digs n 32:=by
 have key:∀ k,k≤32→(0≤ds l k∧ds l k<256 ^ k)∧∀ i,i<k→ds l k / 256 ^ i % 256=l.getD i 0:=by
  intro k
  induction k with
  | zero=>intro _; exact⟨⟨by simp[ds],by simp[ds]⟩,fun i hi=>by omega⟩
  | succ k ih =>
   intro hk;obtain⟨⟨h0,h1⟩,h2⟩:=ih (by omega);have hg:=getD_by l hb k;have hp:(0:Int)<256 ^ k:=Int.pow_pos (by omega);simp only[ds];generalize hx:l.getD k 0=x at *;refine⟨⟨?_,?_⟩,?_⟩
   ·exact Int.add_nonneg h0 (Int.mul_nonneg hg.1 (Int.le_of_lt hp))
   ·rw[Int.pow_succ];have:x * 256 ^ k≤255 * 256 ^ k:=Int.mul_le_mul_of_nonneg_right (by omega) (Int.le_of_lt hp);omega
   ·intro i hi;by_cases e:i=k
    ·subst e;rw[Int.add_mul_ediv_right _ _ (by omega),Int.ediv_eq_zero_of_lt h0 h1,hx];omega
    ·have e2:x * 256 ^ k=x * 256 ^ (k - 1 - i) * 256 * 256 ^ i:=by
      have:(256:Int) ^ k=256 ^ (k - 1 - i) * 256 * 256 ^ i:=by
       rw[← Int.pow_succ,← Int.pow_add]; congr 1; omega
      rw[this,← Int.mul_assoc,← Int.mul_assoc]
     have hpi:(0:Int)<256 ^ i:=Int.pow_pos (by omega);rw[e2,Int.add_mul_ediv_right _ _ (by omega),Int.add_mul_emod_self_right];exact h2 i (by omega)
 obtain⟨⟨h0,h1⟩,h2⟩:=key 32 (by omega);have e:(256:Int) ^ 32=115792089237316195423570985008687907853269984665640564039457584007913129639936:=by decide
 rw[e] at h1;refine⟨ds l 32,⟨h0,h1⟩,?_⟩;apply List.ext_getElem
 ·rw[hl,digs_len]
 ·intro i h3 h4;have:=h2 i (by omega);simp only[digs,List.getElem_map,List.getElem_range];rw[if_pos (by omega),this,List.getD_eq_getElem?_getD,List.getElem?_eq_getElem h3];rfl
theorem digs_inj (n m:Int) (hn:0≤n∧n<115792089237316195423570985008687907853269984665640564039457584007913129639936) (hm:0≤m∧m<115792089237316195423570985008687907853269984665640564039457584007913129639936) (h:digs n 32=digs m 32):n=m:=by
 have e:(256:Int) ^ 32=115792089237316195423570985008687907853269984665640564039457584007913129639936:=by decide
 have h1:=ds_of (digs n 32) n hn.1 32 (fun i hi=>cX n i hi);have h2:=ds_of (digs m 32) m hm.1 32 (fun i hi=>cX m i hi);rw[h,h2,e] at h1;omega
theorem of_at (n:Int) (h:0≤n∧n<18446744073709551616) (w:World):Calls Tryz.prog 147 #[.int .u64 n] w (fun r w'=>∃ a b c d e,r=.returned (.agg #[.int .u64 a,.int .u64 b,.int .u64 c,.int .u64 d,.int .u64 e])∧Hid (Rep n a b c d e)∧Gr w w'):=of_ok n h w
theorem two_at {F:FuncId} {m n k a0 a1 a2 a3 a4 b0 b1 b2 b3 b4:Int} (f:Rep m a0 a1 a2 a3 a4→Rep n b0 b1 b2 b3 b4→∀ w,Calls Tryz.prog F #[five a0 a1 a2 a3 a4,five b0 b1 b2 b3 b4] w (Reck k w)) (h:Hid (Rep m a0 a1 a2 a3 a4)) (h':Hid (Rep n b0 b1 b2 b3 b4)) (w:World) :
  Calls Tryz.prog F #[.agg #[.int .u64 a0,.int .u64 a1,.int .u64 a2,.int .u64 a3,.int .u64 a4],.agg #[.int .u64 b0,.int .u64 b1,.int .u64 b2,.int .u64 b3,.int .u64 b4]] w (fun r w'=>∃ a b c d e,r=.returned (.agg #[.int .u64 a,.int .u64 b,.int .u64 c,.int .u64 d,.int .u64 e])∧Hid (Rep k a b c d e)∧Gr w w'):=f h h' w
theorem mul_at (m n a0 a1 a2 a3 a4 b0 b1 b2 b3 b4:Int) (h:Hid (Rep m a0 a1 a2 a3 a4)) (h':Hid (Rep n b0 b1 b2 b3 b4)) (w:World) :
  Calls Tryz.prog 125 #[.agg #[.int .u64 a0,.int .u64 a1,.int .u64 a2,.int .u64 a3,.int .u64 a4],.agg #[.int .u64 b0,.int .u64 b1,.int .u64 b2,.int .u64 b3,.int .u64 b4]] w (fun r w'=>∃ a b c d e,r=.returned (.agg #[.int .u64 a,.int .u64 b,.int .u64 c,.int .u64 d,.int .u64 e])∧Hid (Rep (m * n) a b c d e)∧Gr w w'):=two_at (mul_ok m n a0 a1 a2 a3 a4 b0 b1 b2 b3 b4) h h' w
theorem bytes_at (n a0 a1 a2 a3 a4:Int) (h:Hid (Rep n a0 a1 a2 a3 a4)) (w:World) :
  Calls Tryz.prog 78 #[.agg #[.int .u64 a0,.int .u64 a1,.int .u64 a2,.int .u64 a3,.int .u64 a4]] w (fun r w'=>r=.returned (.agg (kc (digs (n % pp) 32)))∧Gr w w'):=bytes_ok n a0 a1 a2 a3 a4 h w
theorem from_at (n:Int) (hn:Hid (0≤n)) (w:World):Calls Tryz.prog 77 #[.agg (kc (digs n 32))] w (fun r w'=>∃ a b c d e,r=.returned (.agg #[.int .u64 a,.int .u64 b,.int .u64 c,.int .u64 d,.int .u64 e])∧Hid (Rep (n % 57896044618658097711785492504343953926634992332820282019728792003956564819968) a b c d e)∧Gr w w'):=from_key n (aj hn) w
theorem neg_at (n a0 a1 a2 a3 a4:Int) (h:Hid (Rep n a0 a1 a2 a3 a4)) (w:World) :
  Calls Tryz.prog 153 #[.agg #[.int .u64 a0,.int .u64 a1,.int .u64 a2,.int .u64 a3,.int .u64 a4]] w (fun r w'=>∃ a b c d e,r=.returned (.agg #[.int .u64 a,.int .u64 b,.int .u64 c,.int .u64 d,.int .u64 e])∧Hid (Rep (0 - n) a b c d e)∧Gr w w'):=neg_ok n a0 a1 a2 a3 a4 h w
def EC (n:Int) (c:Array Value):Prop:=∃ a0 a1 a2 a3 a4,c=#[.int .u64 a0,.int .u64 a1,.int .u64 a2,.int .u64 a3,.int .u64 a4]∧Hid (Rep n a0 a1 a2 a3 a4)
theorem EC.size {n:Int} (c:Array Value) (h:EC n c):c.size=5:=by
 obtain⟨_,_,_,_,_,rfl,_⟩:=h; rfl
theorem EC.one {n:Int} (c:Array Value) (h:EC n c):c.all (·.oneCell')=true:=by
 obtain⟨_,_,_,_,_,rfl,_⟩:=h; simp[Value.oneCell']
theorem Tryz.infoElem:(Tryz.prog.info? 140).map (·.size)=some 5:=by kernel_rfl
theorem square_ok (n a b c d e:Int) (hf:Rep n a b c d e) (w:World) :
  Calls Tryz.prog 184 #[five a b c d e] w (Reck (n * n) w):=by
 have hl:=ao (mul_ok n n a b c d e a b c d e hf hf);clear hf;unfold five at *;go_enter Tryz.func184,Tryz.ntmps184;go_wp2_with (go_at_call 125; refine(aj hl _).mono ?_; rintro r w9 ⟨y0,y1,y2,y3,y4,rfl,hR,hg⟩; unfold five; replace hR:=ao hR; have hE:=ao (res22 hg rfl); obtain⟨q0,q1,q2,q3,q4,hq0,hq1,hq2,hq3,hq4,z0,z1,z2,z3,z4⟩:=(aj hE).five);refine bodyPost_ret (v:=five y0 y1 y2 y3 y4) ?_ rfl ?_
 ·simp[results,Tryz.results184,go_sem,five,hq0,hq1,hq2,hq3,hq4]
 ·exact⟨_,_,_,_,_,rfl,aj hR,((aj hE).set5 _ _ _ _ _).1⟩
theorem square_at (n a0 a1 a2 a3 a4:Int) (h:Hid (Rep n a0 a1 a2 a3 a4)) (w:World) :
  Calls Tryz.prog 184 #[.agg #[.int .u64 a0,.int .u64 a1,.int .u64 a2,.int .u64 a3,.int .u64 a4]] w (fun r w'=>∃ a b c d e,r=.returned (.agg #[.int .u64 a,.int .u64 b,.int .u64 c,.int .u64 d,.int .u64 e])∧Hid (Rep (n * n) a b c d e)∧Gr w w'):=square_ok n a0 a1 a2 a3 a4 h w
def PL (w wr:World) (bo:Nat) (n:Int) (M:Nat) (a0 a1 a2 a3 a4:Int) (j:Nat):Prop :=
 wr.heap[w.heap.size]?=some (.cells #[.int .u64 a0,.int .u64 a1,.int .u64 a2,.int .u64 a3,.int .u64 a4] 140 (0,0))∧KB wr (w.heap.size+1) (digs (M:Int) 32)∧Res w (w.heap.size+1+1) 5 140 wr∧w.heap.size+1+1<bo ∧
  ∃ y0 y1 y2 y3 y4,wr.heap[bo]?=some (.cells #[.int .u64 y0,.int .u64 y1,.int .u64 y2,.int .u64 y3,.int .u64 y4] 140 (0,0))∧Rep (n ^ (M / 2 ^ j)) y0 y1 y2 y3 y4
theorem three3 (w:World) (o0 o1 o2:Obj):(((w.alloc o0).alloc o1).alloc o2).heap[w.heap.size]?=some o0∧(((w.alloc o0).alloc o1).alloc o2).heap[w.heap.size+1]?=some o1∧(((w.alloc o0).alloc o1).alloc o2).heap[w.heap.size+1+1]?=some o2:=by
 refine⟨?_,?_,?_⟩ <;> (simp only[bT,aB]; repeat (first | rw[if_pos trivial] | rw[if_pos (by omega)] | rw[if_neg (by omega)]))
theorem blk5 {v:World} {b:Nat} {t:TypeId} {x0 x1 x2 x3 x4:Value} (h:v.heap[b]?=some (.cells #[x0,x1,x2,x3,x4] t (0,0))):∃ q0 q1 q2 q3 q4,v.cell? ⟨b,0,none⟩=some q0∧v.cell? ⟨b,1,none⟩=some q1∧v.cell? ⟨b,2,none⟩=some q2∧v.cell? ⟨b,3,none⟩=some q3∧v.cell? ⟨b,4,none⟩=some q4 ∧
  v.frozen? ⟨b,0,none⟩=false∧v.frozen? ⟨b,1,none⟩=false∧v.frozen? ⟨b,2,none⟩=false∧v.frozen? ⟨b,3,none⟩=false∧v.frozen? ⟨b,4,none⟩=false :=
 ⟨x0,x1,x2,x3,x4,aw h rfl,aw h rfl,aw h rfl,aw h rfl,aw h rfl,aO h,aO h,aO h,aO h,aO h⟩
theorem key_cell {v:World} {b:Nat} {n:Int} (h:KB v b (digs n 32)) (k:Nat) (hk:k<32):v.cell? ⟨b,k,none⟩=some (.int .u8 (n / 256 ^ k % 256)):=by
 have:=h.cell k (by rw[digs_len]; omega)
 rwa [cX n k hk] at this
theorem put5 {v:World} {b:Nat} {t:TypeId} {c0 c1 c2 c3 c4:Value} (h:v.heap[b]?=some (.cells #[c0,c1,c2,c3,c4] t (0,0))) (x0 x1 x2 x3 x4:Value) :
  (((((v.setCell ⟨b,0,none⟩ x0).setCell ⟨b,1,none⟩ x1).setCell ⟨b,2,none⟩ x2).setCell ⟨b,3,none⟩ x3).setCell ⟨b,4,none⟩ x4).heap[b]?=some (.cells #[x0,x1,x2,x3,x4] t (0,0)):=by
 have e0:=heap_setCell_same v b 0 _ _ x0 h;have e1:=heap_setCell_same _ b 1 _ _ x1 e0;have e2:=heap_setCell_same _ b 2 _ _ x2 e1;have e3:=heap_setCell_same _ b 3 _ _ x3 e2;have e4:=heap_setCell_same _ b 4 _ _ x4 e3;refine e4.trans ?_;simp only[List.setIfInBounds_toArray,ab]
theorem far5 (v:World) (b i:Nat) (hi:i≠b) (x0 x1 x2 x3 x4:Value):(((((v.setCell ⟨b,0,none⟩ x0).setCell ⟨b,1,none⟩ x1).setCell ⟨b,2,none⟩ x2).setCell ⟨b,3,none⟩ x3).setCell ⟨b,4,none⟩ x4).heap[i]?=v.heap[i]?:=by
 refine(Below.heap_setCell _ ⟨b,4,none⟩ x4 i hi).trans ?_;refine(Below.heap_setCell _ ⟨b,3,none⟩ x3 i hi).trans ?_;refine(Below.heap_setCell _ ⟨b,2,none⟩ x2 i hi).trans ?_;refine(Below.heap_setCell _ ⟨b,1,none⟩ x1 i hi).trans ?_;exact Below.heap_setCell _ ⟨b,0,none⟩ x0 i hi
theorem _root_.Go.Proofs.YtbkkibhhfmgojaaGreatDoor.Gr.set5 {a v:World} {b:Nat} (h:Gr a v) (hb:a.heap.size≤b) (x0 x1 x2 x3 x4:Value):Gr a (((((v.setCell ⟨b,0,none⟩ x0).setCell ⟨b,1,none⟩ x1).setCell ⟨b,2,none⟩ x2).setCell ⟨b,3,none⟩ x3).setCell ⟨b,4,none⟩ x4) :=
 ((((h.setCell hb _).setCell hb _).setCell hb _).setCell hb _).setCell hb _
theorem key_bit (M t b s:Nat) (hb:b=t / 8) (hs:s=t % 8):(M:Int) / 256 ^ b % 256 / 2 ^ s % 2=((M / 2 ^ t % 2:Nat):Int):=by
 have e:t=8 * b+s:=by omega
 have h8:s<8:=by omega
 have e1:((M / 2 ^ t % 2:Nat):Int)=((M / 256 ^ b % 256 / 2 ^ s % 2:Nat):Int):=by
  congr 1
  rw[e,Nat.pow_add,Nat.pow_mul,← Nat.div_div_eq_div_mul];have:(2:Nat) ^ 8=256:=rfl;rw[this];generalize M / 256 ^ b=x
  match s,h8 with
  | 0,_=>omega
  | 1,_=>omega
  | 2,_=>omega
  | 3,_=>omega
  | 4,_=>omega
  | 5,_=>omega
  | 6,_=>omega
  | 7,_=>omega
 rw[e1];simp
theorem pow_half (n:Int) (M t:Nat):n ^ (M / 2 ^ t)=n ^ (M / 2 ^ (t+1)) * n ^ (M / 2 ^ (t+1)) * (if M / 2 ^ t % 2=1 then n else 1):=by
 have e:M / 2 ^ t=M / 2 ^ (t+1)+M / 2 ^ (t+1)+M / 2 ^ t % 2:=by
  rw[Nat.pow_succ,← Nat.div_div_eq_div_mul]; omega
 have h:M / 2 ^ t % 2=0∨M / 2 ^ t % 2=1:=by omega
 rcases h with h | h
 ·rw[h] at e ⊢;rw[if_neg (by omega),Int.mul_one,← Int.pow_add];exact congrArg _ e
 ·rw[h] at e ⊢;rw[if_pos rfl,← Int.pow_add,← Int.pow_succ];exact congrArg _ e
theorem low_bit (kb:Int) (s:Nat) (h:0≤kb∧kb<256):bits .and .u8 (kb / 2 ^ s) 1=kb / 2 ^ s % 2:=by
 obtain⟨k,rfl⟩:=Int.eq_ofNat_of_zero_le h.1;have e:((k:Int) / 2 ^ s)=((k / 2 ^ s:Nat):Int):=by simp
 rw[e];have h2:k / 2 ^ s<256:=Nat.lt_of_le_of_lt (Nat.div_le_self _ _) (by omega);generalize k / 2 ^ s=x at h2;have:∀ n:Fin 256,bits .and .u8 (n.val:Int) 1=(n.val:Int) % 2:=by decide +kernel
 exact this ⟨x,h2⟩
def PN (w wr:World) (bo:Nat) (M:Nat) (a0 a1 a2 a3 a4:Int):Prop :=
 wr.heap[w.heap.size]?=some (.cells #[.int .u64 a0,.int .u64 a1,.int .u64 a2,.int .u64 a3,.int .u64 a4] 140 (0,0))∧KB wr (w.heap.size+1) (digs (M:Int) 32)∧Res w (w.heap.size+1+1) 5 140 wr∧w.heap.size+1+1<bo
theorem PN.gr {w u v:World} {bo M:Nat} {a0 a1 a2 a3 a4:Int} (h:PN w u bo M a0 a1 a2 a3 a4) (g:Gr u v):PN w v bo M a0 a1 a2 a3 a4:=⟨g.blk h.1,h.2.1.gr g,h.2.2.1.gr g,h.2.2.2⟩
theorem PN.set5 {w v:World} {bo M:Nat} {a0 a1 a2 a3 a4:Int} (h:PN w v bo M a0 a1 a2 a3 a4) (x0 x1 x2 x3 x4:Value) :
  PN w (((((v.setCell ⟨bo,0,none⟩ x0).setCell ⟨bo,1,none⟩ x1).setCell ⟨bo,2,none⟩ x2).setCell ⟨bo,3,none⟩ x3).setCell ⟨bo,4,none⟩ x4) bo M a0 a1 a2 a3 a4:=by
 obtain⟨h1,h2,⟨h3,h4,cs,h5,h6⟩,h7⟩:=h;refine⟨(far5 v bo _ (by omega) _ _ _ _ _).trans h1,(far5 v bo _ (by omega) _ _ _ _ _).trans h2,⟨h3.set5 (by omega) _ _ _ _ _,h4,cs,h5,(far5 v bo _ (by omega) _ _ _ _ _).trans h6⟩,h7⟩
theorem power_ok (n a0 a1 a2 a3 a4:Int) (M:Nat) (hM:M<2 ^ 256) (hf:Rep n a0 a1 a2 a3 a4) (w:World) :
  Calls Tryz.prog 152 #[five a0 a1 a2 a3 a4,.agg (kc (digs (M:Int) 32))] w (Reck (n ^ M) w):=by
 have hA:=ao hf;have HM:=ao hM;clear hf hM;have hA2:(kc (digs (M:Int) 32)).size=32:=by rw[au,digs_len]
 unfold five;go_enter Tryz.func152,Tryz.ntmps152;go_wp2_with fail
 go_step3
 go_wp2_with (go_at_call 147; refine(of_at _ (by omega) _).mono ?_; rintro r w1 ⟨o0,o1,o2,o3,o4,rfl,hO,hg⟩; have T0:=ao (hg.blk (three3 w _ _ _).1); have T1:=ao (hg.blk (three3 w _ _ _).2.1); have T2:=ao (hg.blk (three3 w _ _ _).2.2); have hG:=Gr.trans ((((Gr.refl w).alloc _).alloc _).alloc _) hg)
 go_step3
 go_wp2_with fail;have hlt:=lt_of_block (aj T2);have hS:Hid (PL w (w1.alloc (.cells #[.int .u64 o0,.int .u64 o1,.int .u64 o2,.int .u64 o3,.int .u64 o4] 140 (0,0))) w1.heap.size n M a0 a1 a2 a3 a4 256):=by
  have g:=(Gr.refl w1).alloc (.cells #[.int .u64 o0,.int .u64 o1,.int .u64 o2,.int .u64 o3,.int .u64 o4] 140 (0,0));refine ao ⟨g.blk (aj T0),g.blk (aj T1),⟨hG.trans g,by omega,_,rfl,g.blk (aj T2)⟩,hlt,o0,o1,o2,o3,o4,aS _ _,?_⟩;have e:M / 2 ^ 256=0:=Nat.div_eq_of_lt (aj HM);rw[e,Int.pow_zero];exact aj hO
 clear T0 T1 T2 hG hg hlt hO;generalize World.alloc _ _=u at *;generalize w1.heap.size=bo at *
 go_loopw [6] (fun i wr=>∃ j:Nat,j≤256∧i=.int .i64 ((j:Int) - 1)∧Hid (PL w wr bo n M a0 a1 a2 a3 a4 j)) (fun i _=>(intOf i+1).toNat)
 case atStart=>exact⟨256,by omega,rfl,hS⟩
 case round =>
  clear hS;obtain⟨j,hj,rfl,hS⟩:=hrel;by_cases h0:j=0
  ·subst h0;have e0:((0:Nat):Int) - 1 = -1:=by omega
   rw[e0];obtain⟨h1,h2,h3,h4,y0,y1,y2,y3,y4,h5,h6⟩:=aj hS;rw[Nat.pow_zero,Nat.div_one] at h6;have c0:=aw (i:=0) h5 rfl;have c1:=aw (i:=1) h5 rfl;have c2:=aw (i:=2) h5 rfl;have c3:=aw (i:=3) h5 rfl;have c4:=aw (i:=4) h5 rfl;obtain⟨q0,q1,q2,q3,q4,hq0,hq1,hq2,hq3,hq4,z0,z1,z2,z3,z4⟩:=h3.five;replace h3:=ao h3; replace h6:=ao h6;clear h1 h2 h4 h5 hS HM hA hA2 hj;go_wp2_with fail;refine bodyPost_ret (v:=five y0 y1 y2 y3 y4) ?_ rfl ?_
   ·simp[results,Tryz.results152,go_sem,five,hq0,hq1,hq2,hq3,hq4]
   ·exact⟨_,_,_,_,_,rfl,aj h6,((aj h3).set5 _ _ _ _ _).1⟩
  ·obtain⟨t,rfl⟩:∃ t,j=t+1:=⟨j - 1,by omega⟩;have ej:((t+1:Nat):Int) - 1=(t:Int):=by omega
   rw[ej];obtain⟨h1,h2,h3,h4,y0,y1,y2,y3,y4,h5,h6⟩:=aj hS;have c0:=aw (i:=0) h5 rfl;have c1:=aw (i:=1) h5 rfl;have c2:=aw (i:=2) h5 rfl;have c3:=aw (i:=3) h5 rfl;have c4:=aw (i:=4) h5 rfl;obtain⟨P,hP⟩:∃ P,P=n ^ (M / 2 ^ (t+1)):=⟨_,rfl⟩;rw[← hP] at h6;replace hP:=ao hP;clear HM hA2 hS;replace h6:=ao h6; replace h5:=ao h5; replace h1:=ao h1; replace h2:=ao h2; replace h3:=ao h3; replace h4:=ao h4;go_upto_region 6 with (go_at_call 184; refine(square_at _ _ _ _ _ _ (by assumption) _).mono ?_; rintro r w2 ⟨v0,v1,v2,v3,v4,rfl,hV,hg⟩; have hB:=ao (hg.blk (aj h5)); obtain⟨q0,q1,q2,q3,q4,hq0,hq1,hq2,hq3,hq4,z0,z1,z2,z3,z4⟩:=blk5 (aj hB));have hN:Hid (PN w w2 bo M a0 a1 a2 a3 a4):=ao ⟨hg.blk (aj h1),(aj h2).gr hg,(aj h3).gr hg,aj h4⟩;have hU:=put5 (aj hB) (.int .u64 v0) (.int .u64 v1) (.int .u64 v2) (.int .u64 v3) (.int .u64 v4)
   have hN2:=ao ((aj hN).set5 (.int .u64 v0) (.int .u64 v1) (.int .u64 v2) (.int .u64 v3) (.int .u64 v4));clear hN hB hq0 hq1 hq2 hq3 hq4 z0 z1 z2 z3 z4 h1 h2 h3 h5 hg h6;generalize World.setCell _ _ _=v at *;obtain⟨b,hb⟩:∃ b,b=t / 8:=⟨_,rfl⟩;obtain⟨s,hs⟩:∃ s,s=t % 8:=⟨_,rfl⟩;have e1:(t:Int) / 8=(b:Int):=by omega
   have e2:(t:Int) % 8=(s:Int):=by omega
   have e3:(t:Int).tdiv 8=(b:Int):=by rw[Int.tdiv_eq_ediv_of_nonneg (by omega)]; exact e1
   have e4:(t:Int).tmod 8=(s:Int):=by rw[Int.tmod_eq_emod_of_nonneg (by omega)]; exact e2
   have hb2:b<32:=by omega
   have hs2:s<8:=by omega
   have hbit:=ao (key_bit M t b s hb hs);replace hb:=ao hb; replace hs:=ao hs;have hk:=key_cell (aj hN2).2.1 b hb2;have hkb:0≤(M:Int) / 256 ^ b % 256∧(M:Int) / 256 ^ b % 256<256:=by omega
   generalize (M:Int) / 256 ^ b % 256=kb at hk hbit hkb;have c0:=aw (i:=0) hU rfl;have c1:=aw (i:=1) hU rfl;have c2:=aw (i:=2) hU rfl;have c3:=aw (i:=3) hU rfl;have c4:=aw (i:=4) hU rfl
   go_upto_if 22 with fail
   have hz:=low_bit kb s hkb;rw[aj hbit] at hz;have hP2:=pow_half n M t;rw[← aj hP] at hP2;clear hbit hkb hP;rcases(show M / 2 ^ t % 2=0∨M / 2 ^ t % 2=1 by omega) with hbt | hbt
   ·rw[hbt] at hz hP2;rw[if_neg (by omega),Int.mul_one] at hP2;have hR:Hid (PL w v bo n M a0 a1 a2 a3 a4 t):=ao ⟨(aj hN2).1,(aj hN2).2.1,(aj hN2).2.2.1,(aj hN2).2.2.2,v0,v1,v2,v3,v4,hU,by rw[hP2]; exact aj hV⟩;have hq:(bits BinOp.and IntKind.u8 (kb / 2 ^ s) 1 == 0)=true:=by rw[hz]; rfl
    rw[hq];clear hz hU hN2 hV hP2 hbt c0 c1 c2 c3 c4 hk;go_wp2_with fail;go_roundw
    case rel=>exact⟨t,by omega,rfl,hR⟩
    case measure=>simp[intOf]
   ·rw[hbt] at hz hP2;rw[if_pos rfl] at hP2;have hq:(bits BinOp.and IntKind.u8 (kb / 2 ^ s) 1 == 0)=false:=by rw[hz]; rfl
    rw[hq];clear hz hk;have hP3:=ao hP2;clear hP2;have d0:=aw (i:=0) (aj hN2).1 rfl;have d1:=aw (i:=1) (aj hN2).1 rfl;have d2:=aw (i:=2) (aj hN2).1 rfl;have d3:=aw (i:=3) (aj hN2).1 rfl;have d4:=aw (i:=4) (aj hN2).1 rfl;replace hU:=ao hU;go_upto_region 4 with (go_at_call 125; refine(mul_at _ _ _ _ _ _ _ _ _ _ _ _ (by assumption) (by assumption) _).mono ?_; rintro r w3 ⟨x0,x1,x2,x3,x4,rfl,hX,hg⟩; have hB:=ao (hg.blk (aj hU)); obtain⟨q0,q1,q2,q3,q4,hq0,hq1,hq2,hq3,hq4,z0,z1,z2,z3,z4⟩:=blk5 (aj hB));have hU2:=put5 (aj hB) (.int .u64 x0) (.int .u64 x1) (.int .u64 x2) (.int .u64 x3) (.int .u64 x4);have hN3:=((aj hN2).gr hg).set5 (.int .u64 x0) (.int .u64 x1) (.int .u64 x2) (.int .u64 x3) (.int .u64 x4);have hR:Hid (PL w _ bo n M a0 a1 a2 a3 a4 t):=ao ⟨hN3.1,hN3.2.1,hN3.2.2.1,hN3.2.2.2,x0,x1,x2,x3,x4,hU2,by rw[aj hP3]; exact aj hX⟩
    clear hU hU2 hN2 hN3 hV hX hP3 hbt c0 c1 c2 c3 c4 d0 d1 d2 d3 d4 hq0 hq1 hq2 hq3 hq4 z0 z1 z2 z3 z4 hB hg;generalize World.setCell _ _ _=v' at *;go_wp2_with fail;go_roundw
    case rel=>exact⟨t,by omega,rfl,hR⟩
    case measure=>simp[intOf]
theorem power_at (n a0 a1 a2 a3 a4:Int) (M:Nat) (hM:Hid (M<2 ^ 256)) (h:Hid (Rep n a0 a1 a2 a3 a4)) (w:World) :
  Calls Tryz.prog 152 #[.agg #[.int .u64 a0,.int .u64 a1,.int .u64 a2,.int .u64 a3,.int .u64 a4],.agg (kc (digs (M:Int) 32))] w (fun r w'=>∃ a b c d e,r=.returned (.agg #[.int .u64 a,.int .u64 b,.int .u64 c,.int .u64 d,.int .u64 e])∧Hid (Rep (n ^ M) a b c d e)∧Gr w w'):=power_ok n a0 a1 a2 a3 a4 M hM h w
end Go.Proofs.YtbkkibhhfmgojaaGreatDoor.Cv
