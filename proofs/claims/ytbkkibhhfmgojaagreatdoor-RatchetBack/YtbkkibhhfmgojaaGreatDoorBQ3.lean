/-
  What the proof leans on.
-/
import Derived.ChangeMaps5
import Derived.Laws.IdiomStrings
import Derived.OwnWalk
import Derived.Deep.DeepAppendWide
import Derived.Deep.LoopGhost
import Derived.Test.YtbkkibhhfmgojaaGreatDoorBQ2
set_option linter.unusedSimpArgs false
set_option linter.unusedVariables false
set_option maxRecDepth 100000
set_option maxHeartbeats 40000000
namespace Go.Proofs.YtbkkibhhfmgojaaGreatDoor
open Go.RowKit
def Pq (w:World) (p o:Nat) (ps:List (List Int)):Prop:=∀ j,j<ps.length→∃ a n c,w.cell? ⟨p,o+j,none⟩=some (.slice a n c)∧(ps.getD j []).length=n∧IsB (ps.getD j [])∧Sl w a (ps.getD j [])∧n≤c∧c<9223372036854775808
theorem Pq.gr {w v:World} {p o:Nat} {ps:List (List Int)} (h:Pq w p o ps) (k:Gr w v):Pq v p o ps:=by
 intro j hj;obtain⟨a,n,c,h1,h2,h3,h4,h5⟩:=h j hj;exact⟨a,n,c,k.cell h1,h2,h3,h4.gr k,h5⟩
def Pr (w:World) (a:Option Addr) (ps:List (List Int)):Prop:=ps=[]∨∃ p o,a=some ⟨p,o,none⟩∧Pq w p o ps
theorem Pr.gr {w v:World} {a:Option Addr} {ps:List (List Int)} (h:Pr w a ps) (k:Gr w v):Pr v a ps:=by
 rcases h with h | ⟨p,o,h1,h2⟩
 ·exact .inl h
 ·exact .inr ⟨p,o,h1,h2.gr k⟩
def PqX (g:Nat) (w:World) (p o:Nat) (ps:List (List Int)):Prop:=∀ j,j<ps.length→∃ a n c,w.cell? ⟨p,o+j,none⟩=some (.slice a n c)∧p≠g∧(ps.getD j []).length=n∧IsB (ps.getD j [])∧SlX g w a (ps.getD j [])∧n≤c∧c<9223372036854775808
theorem PqX.bt {g:Nat} {w v:World} {p o:Nat} {ps:List (List Int)} (h:PqX g w p o ps) (k:Bt g w v):PqX g v p o ps:=by
 intro j hj;obtain⟨a,n,c,h1,h2,h3,h4,h5,h6⟩:=h j hj;exact⟨a,n,c,k.cell h1 h2,h2,h3,h4,h5.bt k,h6⟩
def PrX (g:Nat) (w:World) (a:Option Addr) (ps:List (List Int)):Prop:=ps=[]∨∃ p o,a=some ⟨p,o,none⟩∧PqX g w p o ps
theorem Pr.far {w v:World} {a:Option Addr} {ps:List (List Int)} (h:Pr w a ps) (k:Gr w v) {g:Nat} (hg:w.heap.size≤g):PrX g v a ps:=by
 rcases h with h | ⟨p,o,h1,h2⟩
 ·exact .inl h
 ·refine .inr ⟨p,o,h1,fun j hj=>?_⟩;obtain⟨a,n,c,h3,h4,h5,h6,h7⟩:=h2 j hj;exact⟨a,n,c,k.cell h3,(by have:=dE h3; omega),h4,h5,h6.far k hg,h7⟩
def wrf (g:Nat):Value:=.func (.func 121) #[.pointer (some ⟨g,0,none⟩)] #[]
theorem flat_next (ps:List (List Int)) (k:Nat) (h:k<ps.length):(ps.take (k+1)).flatten=(ps.take k).flatten++ps.getD k []:=by
 rw[List.take_add_one,List.getElem?_eq_getElem h,List.flatten_append];simp[h]
theorem flat_le (ps:List (List Int)) (k:Nat):(ps.take k).flatten.length≤ps.flatten.length:=by
 have h:ps.flatten=(ps.take k).flatten++(ps.drop k).flatten:=by rw[← List.flatten_append,List.take_append_drop]
 rw[h,List.length_append];omega
theorem feed_ok (g:Nat) (L:List Int) (ps:List (List Int)) (a:Option Addr) (m cap:Nat) (hm:ps.length=m) (hmb:m<4611686018427387904) (hbig:L.length+ps.flatten.length<1152921504606846000) (w:World) (hH:H g L w) (hP:PrX g w a ps) :
  Calls Tryz.prog 120 #[wrf g,.slice a m cap] w (fun r w'=>∃ v,r=.returned v∧H g (L++ps.flatten) w'∧Bt g w w'):=by
 obtain⟨W,hW⟩:∃ W,W=wrf g:=⟨_,rfl⟩;rw[← hW];obtain⟨T,hT⟩:∃ T,T=(fun (r:Ending) (w':World)=>∃ v,r=.returned v∧H g (L++ps.flatten) w'∧Bt g w w'):=⟨_,rfl⟩;rw[← hT];replace hT:=ao hT;replace hW:=ao hW;replace hP:=ao hP;have hH0:H g (L++(ps.take 0).flatten) w:=by simpa using hH
 replace hH:=ao hH0;clear hH0;go_enter Tryz.func120,Tryz.ntmps120;go_wp2_with fail
 go_loopw [8] (fun i wr=>∃ k:Nat,k≤m∧i=.int .i64 k∧Hid (H g (L++(ps.take k).flatten) wr)∧Hid (Bt g w wr)) (fun i _=>m - (intOf i).toNat)
 case atStart=>exact⟨0,by omega,rfl,hH,Bt.refl g w⟩
 case round =>
 clear hH;obtain⟨k,hk,rfl,hH,hB⟩:=hrel;by_cases hl:k<m
 ·have kI:(k:Int)<(m:Int):=by omega
  obtain⟨p,o,rfl,hq⟩:∃ p o,a=some ⟨p,o,none⟩∧PqX g wr p o ps:=by
   rcases(aj hP) with h | ⟨p,o,h1,h2⟩
   ·rw[h] at hm; simp at hm; omega
   ·exact⟨p,o,h1,h2.bt (aj hB)⟩
  obtain⟨aP,nP,cP,cc,_,hPl,hPb,hPs,hPc,hPm⟩:=hq k (by omega);clear hq;have hnx:=ao (flat_next ps k (by omega));have hle:=flat_le ps (k+1);rw[aj hnx,List.length_append] at hle;generalize ps.getD k []=P at *;have kw:IntKind.i64.wrap ((k:Int)+1)=(k:Int)+1:=by rw[IntKind.wrap_i64]; omega
  replace hPs:=ao hPs;replace hPb:=ao hPb;replace hle:=ao hle;go_upto_region 3 with fail;refine ag ?_;iterate 2 (refine af fun K hK=>?_;go_simp;refine aj hK _ _ ?_;clear hK K)
  rw[aj hW];refine av 121 #[.pointer (some ⟨g,0,none⟩),.slice aP nP cP] aa aa ((write_ok g (L++(ps.take k).flatten) P (aj hPb) (by have:=aj hle; rw[List.length_append]; omega) aP nP cP hPl hPc hPm _ (aj hH) (aj hPs)).mono ?_);rintro r v1 ⟨rfl,hH2,hbt⟩;refine⟨_,rfl,?_⟩;rw[← aj hW];replace hB:=ao ((aj hB).trans hbt);have hH3:Hid (H g (L++(ps.take (k+1)).flatten) v1):=by rw[aj hnx,← List.append_assoc]; exact hH2
  clear hH hbt hH2 hnx;simp only[aq];refine ai ?_;go_wp2_with fail;go_roundw
  case rel=>exact⟨k+1,by omega,by go_num,hH3,hB⟩
  case measure=>simp[intOf]; omega
 ·have e:k=m:=by omega
  subst e;have hH3:Hid (H g (L++ps.flatten) wr):=by
   have:=aj hH;rw[List.take_of_length_le (by omega)] at this;exact this
  clear hH;go_wp2_with fail;refine bodyPost_end (v:=.tuple #[]) ?_ rfl ?_
  ·simp[results,Tryz.results120,go_sem]
  ·rw[aj hT];exact⟨_,rfl,aj hH3,aj hB⟩
def kxb (a x:Int):Int:=bits .xor .u8 a x
theorem kxb_rng (a x:Int):0≤kxb a x∧kxb a x<256:=by
 have:=bounds_u8 (wf_bits .xor .u8 a x);unfold kxb;omega
def XK (K:List Int) (x:Int):Nat→List Int
 | 0=>K
 | n+1=>(XK K x n).set n (kxb ((XK K x n).getD n 0) x)
theorem XK_len (K:List Int) (x:Int):∀ n,(XK K x n).length=K.length
 | 0=>rfl
 | n+1=>by rw[XK,List.length_set,XK_len K x n]
theorem XK_get (K:List Int) (x:Int) (j:Nat):∀ n,n≤K.length→(XK K x n).getD j 0=if j<n then kxb (K.getD j 0) x else K.getD j 0
 | 0,_=>by simp[XK]
 | n+1,h=>by
  rw[XK,getD_set _ _ _ _ (by rw[XK_len]; omega),XK_get K x n n (by omega),if_neg (Nat.lt_irrefl n)];by_cases e:j=n
  ·subst e;rw[if_pos rfl,if_pos (by omega)]
  ·rw[if_neg e,XK_get K x j n (by omega)];by_cases h2:j<n
   ·rw[if_pos h2,if_pos (by omega)]
   ·rw[if_neg h2,if_neg (by omega)]
def k6 (B:List Int):List Int:=if 64<B.length then sumL B else B
def dt (B:List Int) (x:Int):List Int:=(List.range 64).map fun i=>kxb ((k6 B).getD i 0) x
theorem cB (B:List Int) (x:Int):(dt B x).length=64:=by unfold dt; simp
theorem padK_isB (B:List Int) (x:Int):IsB (dt B x):=by
 intro y hy;unfold dt at hy;obtain⟨i,_,rfl⟩:=List.mem_map.1 hy;exact kxb_rng _ _
def z6 (B:List Int):List Int:=k6 B++List.replicate (64 - (k6 B).length) 0
theorem k6_len (B:List Int):(k6 B).length≤64:=by
 unfold k6;split
 ·rw[sumL_len]; omega
 ·omega
theorem z6_len (B:List Int):(z6 B).length=64:=by
 have:=k6_len B;unfold z6;rw[List.length_append,List.length_replicate];omega
theorem z6_get (B:List Int) (j:Nat):(z6 B).getD j 0=(k6 B).getD j 0:=by
 unfold z6;simp only[List.getD_eq_getElem?_getD,List.getElem?_append];split
 ·rfl
 ·rename_i h
  rw[List.getElem?_eq_none (by omega:(k6 B).length≤j)];simp only[List.getElem?_replicate];split <;> rfl
theorem pad_all (B:List Int) (x:Int):XK (z6 B) x 64=dt B x:=by
 apply List.ext_getElem (by rw[XK_len,z6_len,cB]);intro i h1 h2;have h3:=XK_get (z6 B) x i 64 (by rw[z6_len]; omega);have hi:i<64:=by rw[cB] at h2; exact h2
 rw[if_pos hi,z6_get] at h3;rw[List.getD_eq_getElem?_getD,List.getElem?_eq_getElem h1] at h3;simp only[Option.getD_some] at h3;rw[h3];unfold dt;simp
theorem Tryz.infoL:(Tryz.prog.info? 194).map (·.size)=some 64:=by kernel_rfl
def Z6:List Int:=List.replicate 64 0
def Padd (K:List Int) (x:Int) (w:World) (r:Ending) (w':World):Prop:=∃ g,r=.returned (.slice (some ⟨g,0,none⟩) 64 64)∧w.heap.size≤g∧w'.heap[g]?=some (.cells (kc (XK K x 64)) 194 (0,0))∧Gr w w'
theorem pads1_ok (K:List Int) (hK:K.length=64) (x:Int) (gk:Nat) (w:World) (hk:w.heap[gk]?=some (.cells (kc K) 194 (0,0))):Calls Tryz.prog 143 #[.int .u8 x,.pointer (some ⟨gk,0,none⟩)] w (Padd K x w):=by
 obtain⟨T,hT⟩:∃ T,T=Padd K x w:=⟨_,rfl⟩;rw[← hT];replace hT:=ao hT;replace hk:=ao hk;go_enter Tryz.func143,Tryz.ntmps143;go_upto_region 1 with fail;refine ag ?_;refine ak (.agg (kc K)) aa (ax _ 194 (.tmp 1) rfl gk aa (kc K) 194 _ (aj hk) Tryz.underlying194 rfl (by rw[Tryz.infoL,au,hK])) ?_;simp only[aq];iterate 1 (refine af fun K hK=>?_;go_simp;refine aj hK _ _ ?_;clear hK K)
 have hB:=(Bl.nil w).new #[.int .u8 0,.int .u8 0,.int .u8 0,.int .u8 0,.int .u8 0,.int .u8 0,.int .u8 0,.int .u8 0,.int .u8 0,.int .u8 0,.int .u8 0,.int .u8 0,.int .u8 0,.int .u8 0,.int .u8 0,.int .u8 0,.int .u8 0,.int .u8 0,.int .u8 0,.int .u8 0,.int .u8 0,.int .u8 0,.int .u8 0,.int .u8 0,.int .u8 0,.int .u8 0,.int .u8 0,.int .u8 0,.int .u8 0,.int .u8 0,.int .u8 0,.int .u8 0,.int .u8 0,.int .u8 0,.int .u8 0,.int .u8 0,.int .u8 0,.int .u8 0,.int .u8 0,.int .u8 0,.int .u8 0,.int .u8 0,.int .u8 0,.int .u8 0,.int .u8 0,.int .u8 0,.int .u8 0,.int .u8 0,.int .u8 0,.int .u8 0,.int .u8 0,.int .u8 0,.int .u8 0,.int .u8 0,.int .u8 0,.int .u8 0,.int .u8 0,.int .u8 0,.int .u8 0,.int .u8 0,.int .u8 0,.int .u8 0,.int .u8 0,.int .u8 0] 194;simp only[List.nil_append] at hB;generalize World.alloc _ _=u at *;replace hB:Bl w [⟨w.heap.size,kc Z6,194⟩] u:=hB
 refine aA 194 (.tmp 4) (.tmp 6) w.heap.size (kc K) 194 (kc Z6) aa rfl aa aa (hB.get 0 (x:=⟨w.heap.size,kc Z6,194⟩) rfl) (by rw[Tryz.infoL,au,hK]) ((show (kc Z6).size=64 from rfl).trans ((au _).trans hK).symm) (aL _) ?_;replace hB:=hB.set 0 (x:=⟨w.heap.size,kc Z6,194⟩) rfl (kc K);simp only[ab] at hB;generalize World.setRow _ _ _=u1 at *;simp only[aq];refine ai ?_;replace hB:Hid (Bl w [⟨w.heap.size,kc (XK K x 0),194⟩] u1):=hB;go_wp2_with fail
 go_loopw [7] (fun i wr=>∃ (n:Nat) (m:List Int),n≤64∧i=.int .i64 n∧Hid (m=XK K x n)∧Hid (Bl w [⟨w.heap.size,kc m,194⟩] wr)) (fun i _=>64 - (intOf i).toNat)
 case atStart=>exact⟨0,XK K x 0,by omega,rfl,rfl,hB⟩
 case round =>
 clear hB;obtain⟨n,m,hn,rfl,hm,hB⟩:=hrel;have hml:m.length=64:=by rw[aj hm,XK_len,hK]
 by_cases hl:n<64
 ·have nI:(n:Int)<64:=by omega
  have nJ:0≤(n:Int)∧(n:Int)<64:=by omega
  have hg:=(aj hB).get 0 (x:=⟨w.heap.size,kc m,194⟩) rfl;have cs:=bJ hg n (by omega);have fs:=aO (i:=n) hg;clear hg;have hm2:Hid (m.set n (kxb (m.getD n 0) x)=XK K x (n+1)):=by rw[aj hm]; exact rfl
  have hB2:=(aj hB).cell 0 (x:=⟨w.heap.size,kc m,194⟩) rfl n (.int .u8 (kxb (m.getD n 0) x));simp only[ab,cD] at hB2;generalize m.getD n 0=y at *;replace hB2:Hid (Bl w [⟨w.heap.size,kc (m.set n (bits .xor .u8 y x)),194⟩] (wr.setCell ⟨w.heap.size,n,none⟩ (.int .u8 (bits .xor .u8 y x)))):=hB2;replace hm2:Hid (m.set n (bits .xor .u8 y x)=XK K x (n+1)):=hm2;go_wp2_with fail;go_roundw
  case rel=>exact⟨n+1,_,by omega,by go_num,hm2,hB2⟩
  case measure=>simp[intOf]; omega
 ·have e:n=64:=by omega
  subst e;have hP:Hid (Padd K x w (.returned (.slice (some ⟨w.heap.size,0,none⟩) 64 64)) wr):=⟨_,rfl,Nat.le_refl _,(by rw[← aj hm]; exact(aj hB).get 0 (x:=⟨w.heap.size,kc m,194⟩) rfl),(aj hB).gr⟩;clear hl hm hB;go_wp2_with fail;rw[aj hT];exact aj hP
def padf (gk:Nat):Value:=.func (.func 143) #[] #[.pointer (some ⟨gk,0,none⟩)]
def Padf (B:List Int) (w:World) (r:Ending) (w':World):Prop:=∃ g,r=.returned (padf g)∧w.heap.size≤g∧w'.heap[g]?=some (.cells (kc (z6 B)) 194 (0,0))∧Gr w w'
theorem sp_kc (L Z:List Int) (h:L.length≤Z.length):sp (Z.map (Value.int .u8)) 0 (L.map (Value.int .u8))=(L++Z.drop L.length).map (Value.int .u8):=by
 have h1:=sp_mid (L.map (Value.int .u8)) [] ((Z.take L.length).map (Value.int .u8)) ((Z.drop L.length).map (Value.int .u8)) (by simp; omega);simp only[List.nil_append,List.length_nil,← List.map_append,List.take_append_drop] at h1;exact h1
theorem pads_ok (B:List Int) (hb:IsB B) (n:Nat) (hn:B.length=n) (hbig:n<1152921504606846000) (a:Option Addr) (cap:Nat) (hcap:n≤cap) (hcb:cap<9223372036854775808) (w:World) (hF:Fst w) (hA:Sl w a B) :
  Calls Tryz.prog 118 #[.slice a n cap] w (Padf B w):=by
 obtain⟨T,hT⟩:∃ T,T=Padf B w:=⟨_,rfl⟩;rw[← hT];replace hT:=ao hT;replace hF:=ao hF;replace hA:=ao hA;replace hb:=ao hb;replace hn:=ao hn;have tail:∀ (L:List Int) (a':Option Addr) (m c:Nat) (v:World),L=k6 B→L.length=m→Sl v a' L→v.heap[w.heap.size]?=some (.cells (kc Z6) 194 (0,0))→Gr w v→L.length≤64∧(v.setCells w.heap.size 0 (L.map (Value.int .u8))).heap[w.heap.size]?=some (.cells (kc (z6 B)) 194 (0,0))∧Gr w (v.setCells w.heap.size 0 (L.map (Value.int .u8))):=by
  intro L a' m c v hL hm hs hv hg;have hlen:L.length≤64:=by rw[hL]; exact k6_len B
  refine⟨hlen,?_,(aM _ v w.heap.size 0).gr hg (Nat.le_refl _)⟩;rw[aZ _ v w.heap.size 0 (Z6.map (Value.int .u8)) 194 hv,sp_kc L Z6 hlen];have e:L++Z6.drop L.length=z6 B:=by
   rw[hL];unfold z6 Z6;rw[List.drop_replicate]
  rw[e];rfl
 replace tail:=ao tail;by_cases hl:64<n
 ·have lI:64<(n:Int):=by omega
  go_enter Tryz.func118,Tryz.ntmps118;go_upto_region 3 with fail;have hB:=(Bl.nil w).new #[.int .u8 0,.int .u8 0,.int .u8 0,.int .u8 0,.int .u8 0,.int .u8 0,.int .u8 0,.int .u8 0,.int .u8 0,.int .u8 0,.int .u8 0,.int .u8 0,.int .u8 0,.int .u8 0,.int .u8 0,.int .u8 0,.int .u8 0,.int .u8 0,.int .u8 0,.int .u8 0,.int .u8 0,.int .u8 0,.int .u8 0,.int .u8 0,.int .u8 0,.int .u8 0,.int .u8 0,.int .u8 0,.int .u8 0,.int .u8 0,.int .u8 0,.int .u8 0,.int .u8 0,.int .u8 0,.int .u8 0,.int .u8 0,.int .u8 0,.int .u8 0,.int .u8 0,.int .u8 0,.int .u8 0,.int .u8 0,.int .u8 0,.int .u8 0,.int .u8 0,.int .u8 0,.int .u8 0,.int .u8 0,.int .u8 0,.int .u8 0,.int .u8 0,.int .u8 0,.int .u8 0,.int .u8 0,.int .u8 0,.int .u8 0,.int .u8 0,.int .u8 0,.int .u8 0,.int .u8 0,.int .u8 0,.int .u8 0,.int .u8 0,.int .u8 0] 194;simp only[List.nil_append] at hB;generalize World.alloc _ _=u at *
  replace hB:Bl w [⟨w.heap.size,kc Z6,194⟩] u:=hB;refine ag ?_;iterate 1 (refine af fun K hK=>?_;go_simp;refine aj hK _ _ ?_;clear hK K)
  refine av 142 #[.slice a n cap] aa aa ((sum_ok B (aj hb) n (aj hn) hbig a cap hcap hcb _ ((aj hF).gr hB.gr) ((aj hA).gr hB.gr)).mono ?_);rintro r u1 ⟨rfl,hg⟩;refine⟨_,rfl,?_⟩;replace hB:=hB.more hg;clear hg;simp only[aq];have hk6:k6 B=sumL B:=by unfold k6; rw[if_pos (by rw[aj hn]; exact hl)]
  obtain⟨M,hM⟩:∃ M,M=sumL B:=⟨_,rfl⟩;have hMl:M.length=32:=by rw[hM]; exact sumL_len B
  rw[← hM] at hk6;rw[← hM];clear hM;replace hk6:=ao hk6;iterate 1 (refine af fun K hK=>?_;go_simp;refine aj hK _ _ ?_;clear hK K)
  replace hB:=hB.new #[.int .u8 0,.int .u8 0,.int .u8 0,.int .u8 0,.int .u8 0,.int .u8 0,.int .u8 0,.int .u8 0,.int .u8 0,.int .u8 0,.int .u8 0,.int .u8 0,.int .u8 0,.int .u8 0,.int .u8 0,.int .u8 0,.int .u8 0,.int .u8 0,.int .u8 0,.int .u8 0,.int .u8 0,.int .u8 0,.int .u8 0,.int .u8 0,.int .u8 0,.int .u8 0,.int .u8 0,.int .u8 0,.int .u8 0,.int .u8 0,.int .u8 0,.int .u8 0] 23;simp only[List.cons_append,List.nil_append] at hB;generalize World.alloc _ _=u2 at *;generalize u1.heap.size=gs at *;replace hB:Bl w [⟨w.heap.size,kc Z6,194⟩,⟨gs,kc Z32,23⟩] u2:=hB;refine aA 23 (.tmp 4) (.tmp 9) gs (kc M) 23 (kc Z32) aa rfl aa aa (hB.get 1 (x:=⟨gs,kc Z32,23⟩) rfl) (by rw[Tryz.infoKey,au,hMl]) ((show (kc Z32).size=32 from rfl).trans ((au _).trans hMl).symm) (aL _) ?_;replace hB:=hB.set 1 (x:=⟨gs,kc Z32,23⟩) rfl (kc M);simp only[ab] at hB;generalize World.setRow _ _ _=u3 at *;simp only[aq]
  refine ai ?_;replace hB:=ao hB;go_upto_region 5 with fail;replace hB:=aj hB;refine ag ?_;iterate 2 (refine af fun K hK=>?_;go_simp;refine aj hK _ _ ?_;clear hK K)
  have hs:Sl u3 (some ⟨gs,0,none⟩) M:=.inr ⟨gs,0,rfl,bP (hB.get 1 (x:=⟨gs,kc M,23⟩) rfl)⟩;have ht:=(aj tail) M _ 32 0 u3 (aj hk6).symm hMl hs (hB.get 0 (x:=⟨w.heap.size,kc Z6,194⟩) rfl) hB.gr;refine wpList_plain rfl fun K hK=>?_;refine bu (.tmp 11) (.tmp 12) rfl w.heap.size 0 64 64 (some ⟨gs,0,none⟩) 32 32 aa aa (Z6.map (Value.int .u8)) 194 (hB.get 0 (x:=⟨w.heap.size,kc Z6,194⟩) rfl) M (by rw[hMl]; rfl) (.inr ⟨gs,0,rfl,bP (hB.get 1 (x:=⟨gs,kc M,23⟩) rfl)⟩) (by rw[hMl]; decide) ?_;refine hK _ _ ?_;clear hK K hB hs;simp only[aq];generalize World.setCells _ _ _ _=u4 at *;refine ai ?_;have hP:Hid (Padf B w (.returned (padf w.heap.size)) u4):=⟨_,rfl,Nat.le_refl _,ht.2.1,ht.2.2⟩;clear ht tail hk6;go_wp2_with fail;rw[aj hT];exact aj hP
 ·have lI:¬ 64<(n:Int):=by omega
  have hk6:Hid (B=k6 B):=by unfold k6; rw[if_neg (by rw[aj hn]; exact hl)]; exact rfl
  go_enter Tryz.func118,Tryz.ntmps118;go_upto_region 5 with fail;have hB:=(Bl.nil w).new #[.int .u8 0,.int .u8 0,.int .u8 0,.int .u8 0,.int .u8 0,.int .u8 0,.int .u8 0,.int .u8 0,.int .u8 0,.int .u8 0,.int .u8 0,.int .u8 0,.int .u8 0,.int .u8 0,.int .u8 0,.int .u8 0,.int .u8 0,.int .u8 0,.int .u8 0,.int .u8 0,.int .u8 0,.int .u8 0,.int .u8 0,.int .u8 0,.int .u8 0,.int .u8 0,.int .u8 0,.int .u8 0,.int .u8 0,.int .u8 0,.int .u8 0,.int .u8 0,.int .u8 0,.int .u8 0,.int .u8 0,.int .u8 0,.int .u8 0,.int .u8 0,.int .u8 0,.int .u8 0,.int .u8 0,.int .u8 0,.int .u8 0,.int .u8 0,.int .u8 0,.int .u8 0,.int .u8 0,.int .u8 0,.int .u8 0,.int .u8 0,.int .u8 0,.int .u8 0,.int .u8 0,.int .u8 0,.int .u8 0,.int .u8 0,.int .u8 0,.int .u8 0,.int .u8 0,.int .u8 0,.int .u8 0,.int .u8 0,.int .u8 0,.int .u8 0] 194;simp only[List.nil_append] at hB;generalize World.alloc _ _=u at *
  replace hB:Bl w [⟨w.heap.size,kc Z6,194⟩] u:=hB;refine ag ?_;iterate 2 (refine af fun K hK=>?_;go_simp;refine aj hK _ _ ?_;clear hK K)
  have hs:=(aj hA).gr hB.gr;have ht:=(aj tail) B a n 0 u (aj hk6) (aj hn) hs (hB.get 0 (x:=⟨w.heap.size,kc Z6,194⟩) rfl) hB.gr;refine wpList_plain rfl fun K hK=>?_;refine bu (.tmp 11) (.tmp 12) rfl w.heap.size 0 64 64 a n cap aa aa (Z6.map (Value.int .u8)) 194 (hB.get 0 (x:=⟨w.heap.size,kc Z6,194⟩) rfl) B (by rw[aj hn]; exact(Nat.min_eq_left (by omega)).symm) (by rcases hs with h | ⟨p,o,h1,h2⟩; exact .inl h; exact .inr ⟨p,o,h1,h2⟩) (by have:=ht.1; rw[List.length_map]; exact Nat.le_trans (by omega) (Nat.le_of_eq (show 64=Z6.length from rfl))) ?_;refine hK _ _ ?_;clear hK K hB hs;simp only[aq];generalize World.setCells _ _ _ _=u4 at *;refine ai ?_;have hP:Hid (Padf B w (.returned (padf w.heap.size)) u4):=⟨_,rfl,Nat.le_refl _,ht.2.1,ht.2.2⟩;clear ht tail hk6;go_wp2_with fail;rw[aj hT];exact aj hP
def bx (key text:List Int):List Int:=sumL (dt key 92++sumL (dt key 54++text))
theorem bA (key text:List Int):(bx key text).length=32:=sumL_len _
theorem sumL_isB (B:List Int):IsB (sumL B):=keyL_isB _
structure HI (w:World) (g4 gk g1 g2:Nat) (K L1 L2:List Int) (v:World):Prop where
 b4:v.heap[g4]?=some (.cells (kc Z32) 23 (0,0))
 bk:v.heap[gk]?=some (.cells (kc K) 194 (0,0))
 h1:H g1 L1 v
 h2:H g2 L2 v
 gr:Gr w v
 n4:w.heap.size≤g4
 nk:g4<gk
 n1:gk<g1
 n2:g1<g2
 n9:g2<v.heap.size
theorem HI.more {w:World} {g4 gk g1 g2:Nat} {K L1 L2:List Int} {u v:World} (h:HI w g4 gk g1 g2 K L1 L2 u) (k:Gr u v):HI w g4 gk g1 g2 K L1 L2 v :=
 ⟨k.blk h.b4,k.blk h.bk,h.h1.gr k,h.h2.gr k,h.gr.trans k,h.n4,h.nk,h.n1,h.n2,Nat.lt_of_lt_of_le h.n9 k.size⟩
theorem HI.one {w:World} {g4 gk g1 g2:Nat} {K L1 L2 M:List Int} {u v:World} (h:HI w g4 gk g1 g2 K L1 L2 u) (k:Bt g1 u v) (hm:H g1 M v):HI w g4 gk g1 g2 K M L2 v:=by
 have a1:=h.n4; have a2:=h.nk; have a3:=h.n1; have a4:=h.n2;exact⟨k.blk h.b4 (by omega),k.blk h.bk (by omega),hm,h.h2.bt k (by omega),k.gr h.gr (by omega),h.n4,h.nk,h.n1,h.n2,Nat.lt_of_lt_of_le h.n9 k.size⟩
theorem HI.two {w:World} {g4 gk g1 g2:Nat} {K L1 L2 M:List Int} {u v:World} (h:HI w g4 gk g1 g2 K L1 L2 u) (k:Bt g2 u v) (hm:H g2 M v):HI w g4 gk g1 g2 K L1 M v:=by
 have a1:=h.n4; have a2:=h.nk; have a3:=h.n1; have a4:=h.n2;exact⟨k.blk h.b4 (by omega),k.blk h.bk (by omega),h.h1.bt k (by omega),hm,k.gr h.gr (by omega),h.n4,h.nk,h.n1,h.n2,Nat.lt_of_lt_of_le h.n9 k.size⟩
theorem PrX.one {g:Nat} {w:World} {p:Nat} {a:Option Addr} {n c:Nat} {t:TypeId} {P:List Int} (h:w.heap[p]?=some (.cells #[.slice a n c] t (0,0))) (hp:p≠g) (hn:P.length=n) (hb:IsB P) (hs:SlX g w a P) (hc:n≤c) (hm:c<9223372036854775808):PrX g w (some ⟨p,0,none⟩) [P]:=by
 refine .inr ⟨p,0,rfl,fun j hj=>?_⟩;have hj0:j=0:=by simp at hj; exact hj
 subst hj0;exact⟨a,n,c,aw h rfl,hp,hn,hb,hs,hc,hm⟩
theorem PrX.pair {g:Nat} {w:World} {p:Nat} {a b:Option Addr} {n c m d:Nat} {t:TypeId} {P Q:List Int} (h:w.heap[p]?=some (.cells #[.slice a n c,.slice b m d] t (0,0))) (hp:p≠g) (hn:P.length=n) (hb:IsB P) (hs:SlX g w a P) (hc:n≤c) (hm:c<9223372036854775808)
  (hn2:Q.length=m) (hb2:IsB Q) (hs2:SlX g w b Q) (hc2:m≤d) (hm2:d<9223372036854775808):PrX g w (some ⟨p,0,none⟩) [P,Q]:=by
 refine .inr ⟨p,0,rfl,fun j hj=>?_⟩;have hj0:j=0∨j=1:=by simp at hj; omega
 rcases hj0 with rfl | rfl
 ·exact⟨a,n,c,aw h rfl,hp,hn,hb,hs,hc,hm⟩
 ·exact⟨b,m,d,aw h rfl,hp,hn2,hb2,hs2,hc2,hm2⟩
def Coded (key text:List Int) (w:World) (r:Ending) (w':World):Prop:=r=.returned (.agg (kc (bx key text)))∧Gr w w'
theorem hmac_ok (B:List Int) (hb:IsB B) (n:Nat) (hn:B.length=n) (hnb:n<1152921504606846000) (a:Option Addr) (cap:Nat) (hcap:n≤cap) (hcb:cap<9223372036854775808) (ps:List (List Int)) (ap:Option Addr) (m cp:Nat) (hm:ps.length=m) (hmb:m<4611686018427387904) (hbig:ps.flatten.length<1152921504606840000)
  (w:World) (hF:Fst w) (hA:Sl w a B) (hP:Pr w ap ps):Calls Tryz.prog 90 #[.slice a n cap,.slice ap m cp] w (Coded B ps.flatten w):=by
 obtain⟨T,hT⟩:∃ T,T=Coded B ps.flatten w:=⟨_,rfl⟩;rw[← hT];replace hT:=ao hT;replace hF:=ao hF;replace hA:=ao hA;replace hP:=ao hP;replace hb:=ao hb;replace hn:=ao hn;replace hm:=ao hm;replace hbig:=ao hbig;go_enter Tryz.func90,Tryz.ntmps90;go_upto_region 1 with fail;have hB:=(Bl.nil w).new #[.int .u8 0,.int .u8 0,.int .u8 0,.int .u8 0,.int .u8 0,.int .u8 0,.int .u8 0,.int .u8 0,.int .u8 0,.int .u8 0,.int .u8 0,.int .u8 0,.int .u8 0,.int .u8 0,.int .u8 0,.int .u8 0,.int .u8 0,.int .u8 0,.int .u8 0,.int .u8 0,.int .u8 0,.int .u8 0,.int .u8 0,.int .u8 0,.int .u8 0,.int .u8 0,.int .u8 0,.int .u8 0,.int .u8 0,.int .u8 0,.int .u8 0,.int .u8 0] 23;simp only[List.nil_append] at hB;generalize World.alloc _ _=u1 at *;replace hB:Bl w [⟨w.heap.size,kc Z32,23⟩] u1:=hB;refine ag ?_;iterate 1 (refine af fun K hK=>?_;go_simp;refine aj hK _ _ ?_;clear hK K)
 refine av 118 #[.slice a n cap] aa aa ((pads_ok B (aj hb) n (aj hn) hnb a cap hcap hcb _ ((aj hF).gr hB.gr) ((aj hA).gr hB.gr)).mono ?_);rintro r u2 ⟨gk,rfl,hgk,hk,hg⟩;refine⟨_,rfl,?_⟩;have n0:=lt_of_block (hB.get 0 (x:=⟨w.heap.size,kc Z32,23⟩) rfl);have nk:w.heap.size<gk:=by dsimp only at n0; omega
 have n1:=lt_of_block hk;replace hB:=hB.more hg;clear hg hgk n0;simp only[aq];replace hB:=ao hB;replace hk:=ao hk;obtain⟨PF,hPF⟩:∃ PF,PF=padf gk:=⟨_,rfl⟩;rw[← hPF];replace hPF:=ao hPF;iterate 1 (refine af fun K hK=>?_;go_simp;refine aj hK _ _ ?_;clear hK K)
 refine ai ?_;go_upto_region 2 with fail;replace hB:=aj hB;replace hk:=aj hk;refine ag ?_;refine av 119 #[] aa aa ((new_ok _ ((aj hF).gr hB.gr)).mono ?_);rintro r u3 ⟨g1,rfl,hg1,hH1,hg⟩;refine⟨_,rfl,?_⟩;have nk1:gk<g1:=by omega
 have m1:g1<u3.heap.size:=by obtain⟨l,_,_,h3,_⟩:=hH1; exact lt_of_block h3
 replace hB:=hB.more hg;replace hk:=hg.blk hk;clear hg hg1 n1;simp only[aq];refine av 119 #[] aa aa ((new_ok _ ((aj hF).gr hB.gr)).mono ?_);rintro r u4 ⟨g2,rfl,hg2,hH2,hg⟩;refine⟨_,rfl,?_⟩;have n12:g1<g2:=by omega
 have m2:g2<u4.heap.size:=by obtain⟨l,_,_,h3,_⟩:=hH2; exact lt_of_block h3
 replace hB:=hB.more hg;replace hk:=hg.blk hk;replace hH1:=hH1.gr hg;clear hg hg2 m1;simp only[aq];have hI:HI w w.heap.size gk g1 g2 (z6 B) [] [] u4:=⟨hB.get 0 (x:=⟨w.heap.size,kc Z32,23⟩) rfl,hk,hH1,hH2,hB.gr,Nat.le_refl _,nk,nk1,n12,m2⟩;clear hB hk hH1 hH2 m2;replace hI:=ao hI;iterate 2 (refine af fun K hK=>?_;go_simp;refine aj hK _ _ ?_;clear hK K)
 refine ai ?_;go_upto_region 3 with fail;refine ag ?_;iterate 1 (refine af fun K hK=>?_;go_simp;refine aj hK _ _ ?_;clear hK K)
 refine ak (wrf g1) aa aa ?_;simp only[aq];iterate 1 (refine af fun K hK=>?_;go_simp;refine aj hK _ _ ?_;clear hK K)
 rw[aj hPF];replace hI:=aj hI;refine av 143 #[.int .u8 54,.pointer (some ⟨gk,0,none⟩)] aa aa ((pads1_ok (z6 B) (z6_len B) 54 gk _ hI.bk).mono ?_);rintro r u5 ⟨gp,rfl,hgp,hp,hg⟩;refine⟨_,rfl,?_⟩;have npg:gp≠g1:=by have:=hI.n9; omega
 replace hI:=hI.more hg;clear hg hgp;rw[pad_all] at hp;rw[← aj hPF];simp only[aq];replace hI:=ao hI;replace hp:=ao hp;obtain⟨WF,hWF⟩:∃ WF,WF=wrf g1:=⟨_,rfl⟩;rw[← hWF];replace hWF:=ao hWF;iterate 1 (refine af fun K hK=>?_;go_simp;refine aj hK _ _ ?_;clear hK K)
 have hg:=(Gr.refl u5).alloc (.cells #[.slice (some ⟨gp,0,none⟩) 64 64] 55);have hnew:(u5.alloc (.cells #[.slice (some ⟨gp,0,none⟩) 64 64] 55)).heap[u5.heap.size]?=some (.cells #[.slice (some ⟨gp,0,none⟩) 64 64] 55 (0,0)):=aS _ _;have hng:u5.heap.size≠g1:=by have:=(aj hI).n9; omega
 replace hI:=(aj hI).more hg;replace hp:=hg.blk (aj hp);generalize World.alloc _ _=u6 at *;generalize u5.heap.size=gb at *;clear hg;rw[aj hWF];refine av 120 #[wrf g1,.slice (some ⟨gb,0,none⟩) 1 1] aa aa ((feed_ok g1 [] [dt B 54] (some ⟨gb,0,none⟩) 1 1 rfl (by omega) (by simp[cB]) _ hI.h1 (PrX.one hnew hng (cB B 54) (padK_isB B 54) (.inr ⟨gp,0,rfl,bP hp,npg⟩) (by omega) (by omega))).mono ?_);rintro r u7 ⟨vr,rfl,hH,hbt⟩;refine⟨_,rfl,?_⟩;replace hI:=hI.one hbt hH;rw[show ([]:List Int)++[dt B 54].flatten=dt B 54 by simp] at hI;clear hbt hH hp hnew hng npg hWF;simp only[aq];refine ai ?_;replace hI:=ao hI;go_upto_region 4 with fail;refine ag ?_;iterate 1 (refine af fun K hK=>?_;go_simp;refine aj hK _ _ ?_;clear hK K)
 refine ak (wrf g1) aa aa ?_;simp only[aq];replace hI:=aj hI;refine ak (.slice ap m cp) aa aa ?_;simp only[aq];refine av 120 #[wrf g1,.slice ap m cp] aa aa ((feed_ok g1 (dt B 54) ps ap m cp (aj hm) hmb (by rw[cB]; have:=aj hbig; omega) _ hI.h1 ((aj hP).far hI.gr (by have a2:=hI.nk; have a3:=hI.n1; omega))).mono ?_);rintro r u8 ⟨vr2,rfl,hH,hbt⟩;refine⟨_,rfl,?_⟩;replace hI:=hI.one hbt hH;clear hbt hH;simp only[aq];refine ai ?_;replace hI:=ao hI;go_upto_region 5 with fail;refine ag ?_;iterate 1 (refine af fun K hK=>?_;go_simp;refine aj hK _ _ ?_;clear hK K)
 replace hI:=aj hI;refine av 122 #[.pointer (some ⟨g1,0,none⟩)] aa aa ((hsum_ok g1 (dt B 54++ps.flatten) (by rw[List.length_append,cB]; have:=aj hbig; omega) _ hI.h1).mono ?_);rintro r u9 ⟨rfl,hg⟩;refine⟨_,rfl,?_⟩;replace hI:=hI.more hg;clear hg;simp only[aq];have hSum:Hid (sumL (dt B 92++sumL (dt B 54++ps.flatten))=bx B ps.flatten):=rfl;obtain⟨M,hM⟩:∃ M,M=sumL (dt B 54++ps.flatten):=⟨_,rfl⟩;have hMl:M.length=32:=by rw[hM]; exact sumL_len _
 have hMb:IsB M:=by rw[hM]; exact sumL_isB _
 rw[← hM] at hSum;rw[← hM];clear hM;replace hI:=ao hI;replace hMb:=ao hMb;iterate 1 (refine af fun K hK=>?_;go_simp;refine aj hK _ _ ?_;clear hK K)
 have hL:=(Bl.nil u9).new #[.int .u8 0,.int .u8 0,.int .u8 0,.int .u8 0,.int .u8 0,.int .u8 0,.int .u8 0,.int .u8 0,.int .u8 0,.int .u8 0,.int .u8 0,.int .u8 0,.int .u8 0,.int .u8 0,.int .u8 0,.int .u8 0,.int .u8 0,.int .u8 0,.int .u8 0,.int .u8 0,.int .u8 0,.int .u8 0,.int .u8 0,.int .u8 0,.int .u8 0,.int .u8 0,.int .u8 0,.int .u8 0,.int .u8 0,.int .u8 0,.int .u8 0,.int .u8 0] 23;simp only[List.nil_append] at hL;generalize World.alloc _ _=u10 at *;replace hL:Bl u9 [⟨u9.heap.size,kc Z32,23⟩] u10:=hL;refine aA 23 (.tmp 8) (.tmp 24) u9.heap.size (kc M) 23 (kc Z32) aa rfl aa aa (hL.get 0 (x:=⟨u9.heap.size,kc Z32,23⟩) rfl) (by rw[Tryz.infoKey,au,hMl]) ((show (kc Z32).size=32 from rfl).trans ((au _).trans hMl).symm) (aL _) ?_;replace hL:=hL.set 0 (x:=⟨u9.heap.size,kc Z32,23⟩) rfl (kc M);simp only[ab] at hL;generalize World.setRow _ _ _=u11 at *;simp only[aq];refine ai ?_
 have hks:=hL.get 0 (x:=⟨u9.heap.size,kc M,23⟩) rfl;dsimp only at hks;have nsg:u9.heap.size≠g2:=by have:=(aj hI).n9; omega
 replace hI:=(aj hI).more hL.gr;generalize u9.heap.size=gs at *;clear hL;replace hI:=ao hI;replace hks:=ao hks;go_upto_region 6 with fail;replace hI:=aj hI;replace hks:=aj hks;refine aE (S:=fun _=>True) aa ?_;have hg:=(Gr.refl u11).drew;generalize World.drew _=u11b at *;replace hI:=hI.more hg;replace hks:=hg.blk hks;clear hg;rw[aj hPF];simp only[ae,Array.replicate,List.replicate];refine ar (i:=0) (v:=(.pointer (some ⟨g2,0,none⟩))) #[false,false,false,false,false,false,false] rfl aa aa aa aa (fun _ _ _ h=>h) (.inl ⟨by kernel_rfl,fun x_ hu=>by kernel_rfl⟩) trivial ?_;simp only[aq];refine ar (i:=1) (v:=(wrf g2)) #[true,false,false,false,false,false,false] rfl aa aa aa aa (fun _ _ _ h=>h) (.inl ⟨by kernel_rfl,fun x_ hu=>by kernel_rfl⟩) trivial ?_;simp only[aq]
 refine ar (i:=2) (v:=(padf gk)) #[true,true,false,false,false,false,false] rfl aa aa aa aa (fun _ _ _ h=>h) (.inl ⟨by kernel_rfl,fun x_ hu=>by kernel_rfl⟩) trivial ?_;simp only[aq];refine ar (i:=4) (v:=(.slice (some ⟨gs,0,none⟩) 32 32)) #[true,true,true,false,false,false,false] rfl aa aa aa aa (fun _ _ _ h=>h) (.inl ⟨by kernel_rfl,fun x_ hu=>by go_simp⟩) trivial ?_;simp only[aq];refine ay (i:=3) aa rfl (fun K hK=>?_);refine az aa 143 #[.int .u8 92,.pointer (some ⟨gk,0,none⟩)] aa ((pads1_ok (z6 B) (z6_len B) 92 gk _ hI.bk).mono ?_);rintro r u12 ⟨gq,rfl,hgq,hq,hg⟩;refine⟨_,rfl,?_⟩;have nqg:gq≠g2:=by have:=hI.n9; omega
 replace hI:=hI.more hg;replace hks:=hg.blk hks;clear hg hgq;rw[pad_all] at hq;refine hK.out _ _ trivial (fun _=>?_);clear hK K;simp only[aq];refine ay (i:=5) aa rfl (fun K hK=>?_);replace hI:=ao hI;replace hq:=ao hq;replace hks:=ao hks;obtain⟨WG,hWG⟩:∃ WG,WG=wrf g2:=⟨_,rfl⟩;rw[← hWG];replace hWG:=ao hWG;replace hK:=ao hK;go_simp;refine(aj hK).out _ _ trivial (fun _=>?_);clear hK K;have hg:=(Gr.refl u12).alloc (.cells #[.slice (some ⟨gq,0,none⟩) 64 64,.slice (some ⟨gs,0,none⟩) 32 32] 55);have hnew:(u12.alloc (.cells #[.slice (some ⟨gq,0,none⟩) 64 64,.slice (some ⟨gs,0,none⟩) 32 32] 55)).heap[u12.heap.size]?=some (.cells #[.slice (some ⟨gq,0,none⟩) 64 64,.slice (some ⟨gs,0,none⟩) 32 32] 55 (0,0)):=aS _ _;have hng:u12.heap.size≠g2:=by have:=(aj hI).n9; omega
 replace hI:=(aj hI).more hg;replace hq:=hg.blk (aj hq);replace hks:=hg.blk (aj hks);generalize World.alloc _ _=u13 at *;generalize u12.heap.size=gc at *;clear hg;rw[aj hWG];clear hWG;refine ay (i:=6) aa rfl (fun K hK=>?_);refine az aa 120 #[wrf g2,.slice (some ⟨gc,0,none⟩) 2 2] aa ((feed_ok g2 [] [dt B 92,M] (some ⟨gc,0,none⟩) 2 2 rfl (by omega) (by simp[cB,hMl]) _ hI.h2 (PrX.pair hnew hng (cB B 92) (padK_isB B 92) (.inr ⟨gq,0,rfl,bP hq,nqg⟩) (by omega) (by omega) hMl (aj hMb) (.inr ⟨gs,0,rfl,bP hks,nsg⟩) (by omega) (by omega))).mono ?_);rintro r u14 ⟨vr3,rfl,hH,hbt⟩;refine⟨_,rfl,?_⟩;replace hI:=hI.two hbt hH;clear hbt hH hnew hng hq hks;refine hK.out _ _ trivial (fun _=>?_);clear hK K;simp only[aq];refine aF aa ?_
 try simp only[aq]
 rw[show ([]:List Int)++[dt B 92,M].flatten=dt B 92++M by simp] at hI;replace hI:=ao hI;go_upto_region 7 with fail;refine ag ?_;iterate 1 (refine af fun K hK=>?_;go_simp;refine aj hK _ _ ?_;clear hK K)
 replace hI:=aj hI;refine av 122 #[.pointer (some ⟨g2,0,none⟩)] aa aa ((hsum_ok g2 (dt B 92++M) (by rw[List.length_append,cB,hMl]; omega) _ hI.h2).mono ?_);rintro r u15 ⟨rfl,hg⟩;refine⟨_,rfl,?_⟩;replace hI:=hI.more hg;clear hg;rw[aj hSum];simp only[aq];have hRl:(bx B ps.flatten).length=32:=bA _ _;obtain⟨R,hR⟩:∃ R,R=bx B ps.flatten:=⟨_,rfl⟩;rw[← hR] at hRl;rw[← hR];refine aA 23 (.tmp 4) (.tmp 33) w.heap.size (kc R) 23 (kc Z32) aa rfl aa aa hI.b4 (by rw[Tryz.infoKey,au,hRl]) ((show (kc Z32).size=32 from rfl).trans ((au _).trans hRl).symm) (aL _) ?_;have hb4:=setRow_heap u15 w.heap.size _ (kc R) _ _ hI.b4;have hgr:=hI.gr.row w.heap.size (Nat.le_refl _) (kc R);generalize World.setRow _ _ _=u16 at *;clear hI;simp only[aq];refine ai ?_;go_wp2_with fail;rw[aj hT]
 exact bodyPost_ret (v:=.agg (kc R)) (results_cell_row Tryz.results90 _ _ w.heap.size 23 (kc R) (0,0) _ rfl hb4 Tryz.underlying23 rfl (by rw[Tryz.infoKey,au,hRl])) rfl ⟨by rw[hR],hgr⟩
theorem Lb.nil (w:World):Lb w none 0 0 []:=⟨rfl,(by intro x hx; cases hx),.inl rfl,by omega,by omega⟩
theorem Pr.one {w:World} {p:Nat} {a:Option Addr} {n c:Nat} {t:TypeId} {P:List Int} (h:w.heap[p]?=some (.cells #[.slice a n c] t (0,0))) (hp:Lb w a n c P):Pr w (some ⟨p,0,none⟩) [P]:=by
 refine .inr ⟨p,0,rfl,fun j hj=>?_⟩;have hj0:j=0:=by simp at hj; exact hj
 subst hj0;exact⟨a,n,c,aw h rfl,hp.len,hp.isB,hp.sl,hp.cap,hp.max⟩
theorem Pr.three {w:World} {p:Nat} {a b e:Option Addr} {n c m d k f:Nat} {t:TypeId} {P Q R:List Int} (h:w.heap[p]?=some (.cells #[.slice a n c,.slice b m d,.slice e k f] t (0,0))) (hp:Lb w a n c P) (hq:Lb w b m d Q) (hr:Lb w e k f R):Pr w (some ⟨p,0,none⟩) [P,Q,R]:=by
 refine .inr ⟨p,0,rfl,fun j hj=>?_⟩;have hj0:j=0∨j=1∨j=2:=by simp at hj; omega
 rcases hj0 with rfl | rfl | rfl
 ·exact⟨a,n,c,aw h rfl,hp.len,hp.isB,hp.sl,hp.cap,hp.max⟩
 ·exact⟨b,m,d,aw h rfl,hq.len,hq.isB,hq.sl,hq.cap,hq.max⟩
 ·exact⟨e,k,f,aw h rfl,hr.len,hr.isB,hr.sl,hr.cap,hr.max⟩
theorem Sl.cutl {w:World} {a:Option Addr} {n c:Nat} {B:List Int} (h:Lb w a n c B) (k:Nat) (hk:k≤n):Lb w a k c (B.take k):=by
 refine⟨by rw[List.length_take,h.len]; omega,db h.isB k,?_,by have:=h.cap; omega,h.max⟩;rcases h.sl with h1 | ⟨p,o,h1,h2⟩
 ·left; rw[h1]; simp
 ·exact .inr ⟨p,o,h1,h2.take k⟩
theorem Sl.cutr {w:World} {a:Option Addr} {n c:Nat} {B:List Int} (h:Lb w a n c B) (k:Nat) (hk:k≤n):Lb w (if c=k then a else Option.map (fun x=>x.add k) a) (n - k) (c - k) (B.drop k):=by
 refine⟨by rw[List.length_drop,h.len],dw h.isB k,?_,by have:=h.cap; omega,by have:=h.max; omega⟩;rcases h.sl with h1 | ⟨p,o,h1,h2⟩
 ·left; rw[h1]; simp
 ·split
  ·left;have:=h.cap;have h3:=h.len;exact List.drop_eq_nil_of_le (by omega)
  ·exact .inr ⟨p,o+k,by rw[h1]; simp[Addr.add_mid],h2.drop k⟩
def cM (K I:List Int):Nat→List Int
 | 0=>[]
 | i+1=>bx K (cM K I i++(I++[(((i+1) % 256:Nat):Int)]))
def outT (K I:List Int):Nat→List Int
 | 0=>[]
 | i+1=>outT K I i++cM K I (i+1)
theorem da (K I:List Int):∀ i,(outT K I i).length=32 * i
 | 0=>rfl
 | i+1=>by
  rw[outT,List.length_append,da K I i,cM,bA];omega
theorem outT_add (K I:List Int) (m:Nat):∀ d,∃ r,outT K I (m+d)=outT K I m++r
 | 0=>⟨[],by simp⟩
 | d+1=>by
  obtain⟨r,hr⟩:=outT_add K I m d;refine⟨r++cM K I (m+d+1),?_⟩;rw[← Nat.add_assoc,outT,hr,List.append_assoc]
def spL (K I:List Int) (n:Nat):List Int:=(outT K I ((n+31) / 32)).take n
theorem bH (K I:List Int) (n:Nat):(spL K I n).length=n:=by
 unfold spL;rw[List.length_take,da];omega
theorem spL_of (K I:List Int) (n m:Nat) (h:n≤32 * m):(outT K I m).take n=spL K I n:=by
 obtain⟨d,hd⟩:∃ d,m=(n+31) / 32+d:=⟨m - (n+31) / 32,by omega⟩;obtain⟨r,hr⟩:=outT_add K I ((n+31) / 32) d;unfold spL;rw[hd,hr,List.take_append_of_le_length (by rw[da]; omega)]
theorem lastT_isB (K I:List Int):∀ i,IsB (cM K I i)
 | 0=>by intro x hx; cases hx
 | i+1=>by rw[cM]; exact sumL_isB _
theorem outT_isB (K I:List Int):∀ i,IsB (outT K I i)
 | 0=>by intro x hx; cases hx
 | i+1=>by rw[outT]; exact bi (outT_isB K I i) (lastT_isB K I (i+1))
theorem dA (K I:List Int) (n:Nat):IsB (spL K I n):=db (outT_isB _ _ _) n
theorem lastT_len (K I:List Int) (i:Nat):(cM K I (i+1)).length=32:=by rw[cM]; exact bA _ _
def Spr (K I:List Int) (n:Nat) (w:World) (r:Ending) (w':World):Prop:=∃ a,r=.returned (.slice a n n)∧Lb w' a n n (spL K I n)∧(∀ x,a=some x→w.heap.size≤x.block)∧Gr w w'
structure SI (w:World) (b gk:Nat) (K I:List Int) (i:Nat) (v7:Value) (a8:Option Addr) (n8 c8:Nat) (v:World):Prop where
 ob:Ob b v v7 (outT K I i)
 la:Lb v a8 n8 c8 (cM K I i)
 bk:v.heap[gk]?=some (.cells (kc K) 23 (0,0))
 gr:Gr w v
 sz:b≤v.heap.size
theorem SI.more {w:World} {b gk:Nat} {K I:List Int} {i:Nat} {v7:Value} {a8:Option Addr} {n8 c8:Nat} {u v:World} (h:SI w b gk K I i v7 a8 n8 c8 u) (k:Gr u v):SI w b gk K I i v7 a8 n8 c8 v :=
 ⟨h.ob.gr k,h.la.gr k,k.blk h.bk,h.gr.trans k,Nat.le_trans h.sz k.size⟩
theorem spread_ok (K:List Int) (hKl:K.length=32) (hKb:IsB K) (I:List Int) (a:Option Addr) (ni ci:Nat) (n:Nat) (hn:n≤8160) (hni:ni≤1152921504606830000) (w:World) (hF:Fst w) (hI:Lb w a ni ci I) :
  Calls Tryz.prog 79 #[.agg (kc K),.slice a ni ci,.int .i64 n] w (Spr K I n w):=by
 obtain⟨T,hT⟩:∃ T,T=Spr K I n w:=⟨_,rfl⟩;rw[← hT];obtain⟨KK,hKK⟩:∃ KK,KK=kc K:=⟨_,rfl⟩;rw[← hKK];have hKs:KK.size=32:=by rw[hKK,au,hKl]
 replace hT:=ao hT;replace hF:=ao hF;replace hI:=ao hI;replace hKK:=ao hKK;replace hKb:=ao hKb;have w1:IntKind.i64.wrap ((n:Int)+32)=(n:Int)+32:=by rw[IntKind.wrap_i64]; omega
 have w2:(0:Int)≤(n:Int)+32:=by omega
 go_enter Tryz.func79,Tryz.ntmps79;go_upto_region 1 with fail;have hB:=(Bl.nil w).new KK 23;simp only[List.nil_append] at hB;generalize World.alloc _ _=u1 at *;refine ag ?_;iterate 2 (refine af fun K hK=>?_;go_simp;refine aj hK _ _ ?_;clear hK K)
 refine bF u1 rfl (.const (.int .i64 0)) (.tmp 12) rfl 0 ((n:Int)+32) 0 (n+32) aa aa (by omega) (by omega) (by omega) (by omega) ?_;have hO:Ob u1.heap.size (u1.alloc (.cells (kc (List.replicate (n+32) 0)) 5 (0,0))) (.slice (some ⟨u1.heap.size,0,none⟩) 0 (n+32)) [] :=
  ⟨rfl,.inr ⟨u1.heap.size,n+32,_,rfl,Nat.le_refl _,aS _ _,by simp,by unfold maxLen; omega,by rw[au]; simp,by simp⟩⟩
 have hg:=(Gr.refl u1).alloc (.cells (kc (List.replicate (n+32) 0)) 5 (0,0));have hgk:w.heap.size<u1.heap.size:=by have:=lt_of_block (hB.get 0 (x:=⟨w.heap.size,KK,23⟩) rfl); exact this
 replace hB:=hB.more hg;have hbs:=hg.size;generalize World.alloc _ _=u2 at *;generalize u1.heap.size=b at *;clear hg;simp only[aq];have hS:SI w b w.heap.size K I 0 (.slice (some ⟨b,0,none⟩) 0 (n+32)) none 0 0 u2:=⟨hO,Lb.nil _,(by rw[← aj hKK]; exact hB.get 0 (x:=⟨w.heap.size,KK,23⟩) rfl),hB.gr,hbs⟩;clear hO hB hbs;replace hS:=ao hS;iterate 1 (refine af fun K hK=>?_;go_simp;refine aj hK _ _ ?_;clear hK K)
 refine ai ?_;go_wp2_with fail
 go_loopw [7,8,9] (fun x y z wr=>∃ (i:Nat) (a7:Option Addr) (c7:Nat) (a8:Option Addr) (n8 c8:Nat),i≤(n+31) / 32∧x=.slice a7 (32 * i) c7∧y=.slice a8 n8 c8∧z=.int .i64 ((i+1:Nat):Int)∧Hid (SI w b w.heap.size K I i (.slice a7 (32 * i) c7) a8 n8 c8 wr)) (fun x _ _ _=>n+32 - slenV x)
 case atStart=>exact⟨0,_,n+32,none,0,0,by omega,rfl,rfl,rfl,hS⟩
 case round =>
 clear hS;obtain⟨i,a7,c7,a8,n8,c8,hi,rfl,rfl,rfl,hS⟩:=hrel;by_cases hl:32 * i<n
 ·have lI:32 * (i:Int)<(n:Int):=by omega
  have e1:IntKind.i64.wrap ((i:Int)+1+1)=(i:Int)+1+1:=by rw[IntKind.wrap_i64]; omega
  obtain⟨y,hy⟩:∃ y:Int,y=(((i+1) % 256:Nat):Int):=⟨_,rfl⟩;have e2:IntKind.u8.wrap ((i:Int)+1)=y:=by rw[IntKind.wrap_u8',hy]; omega
  have hyb:0≤y∧y<256:=by omega
  have hnx:Hid (bx K ([cM K I i,I,[y]]:List (List Int)).flatten=cM K I (i+1)):=by
   have e:([cM K I i,I,[y]]:List (List Int)).flatten=cM K I i++(I++[y]):=by simp
   rw[e,hy];exact rfl
  replace hy:=ao hy;go_upto_region 6 with fail;refine ag ?_;iterate 5 (refine af fun K hK=>?_;go_simp;refine aj hK _ _ ?_;clear hK K)
  refine aH (.slice (some ⟨wr.heap.size,0,none⟩) 1 1) (wr.alloc (.cells (kc [y]) 5 (0,0))) aa aa ?_;simp only[aq];have hg:=(Gr.refl wr).alloc (.cells (kc [y]) 5 (0,0));have l3:Lb (wr.alloc (.cells (kc [y]) 5 (0,0))) (some ⟨wr.heap.size,0,none⟩) 1 1 [y]:=⟨rfl,(by intro x hx; simp at hx; subst hx; exact hyb),.inr ⟨_,0,rfl,bP (aS _ _)⟩,by omega,by omega⟩;replace hS:=(aj hS).more hg;generalize World.alloc _ _=v1 at *;generalize wr.heap.size=g1 at *;clear hg;refine aH (.slice (some ⟨v1.heap.size,0,none⟩) 3 3) (v1.alloc (.cells #[.slice a8 n8 c8,.slice a ni ci,.slice (some ⟨g1,0,none⟩) 1 1] 55 (0,0))) aa aa ?_;simp only[aq];have hg:=(Gr.refl v1).alloc (.cells #[.slice a8 n8 c8,.slice a ni ci,.slice (some ⟨g1,0,none⟩) 1 1] 55 (0,0));have hnew:=aS v1 (.cells #[.slice a8 n8 c8,.slice a ni ci,.slice (some ⟨g1,0,none⟩) 1 1] 55 (0,0));replace hS:=hS.more hg;replace l3:=l3.gr hg
  generalize World.alloc _ _=v2 at *;generalize v1.heap.size=g2 at *;clear hg;have hP:=Pr.three hnew hS.la ((aj hI).gr hS.gr) l3;refine av 90 #[.slice (some ⟨w.heap.size,0,none⟩) 32 32,.slice (some ⟨g2,0,none⟩) 3 3] aa aa ((hmac_ok K (aj hKb) 32 hKl (by omega) _ 32 (by omega) (by omega) [cM K I i,I,[y]] _ 3 3 rfl (by omega) (by have h1:(cM K I i).length≤32:=(by cases i with | zero=>simp[cM] | succ j=>rw[lastT_len]; omega); have h2:=(aj hI).len; simp only[List.flatten_cons,List.flatten_nil,List.length_append,List.length_nil,List.length_cons]; omega) _ ((aj hF).gr hS.gr) (.inr ⟨_,0,rfl,bP hS.bk⟩) hP).mono ?_);rintro r v3 ⟨rfl,hg⟩;refine⟨_,rfl,?_⟩;replace hS:=hS.more hg;clear hg hP hnew l3;rw[aj hnx];simp only[aq];obtain⟨M,hM⟩:∃ M,M=cM K I (i+1):=⟨_,rfl⟩;have hMl:M.length=32:=by rw[hM]; exact lastT_len _ _ _
  have hMb:IsB M:=by rw[hM]; exact lastT_isB _ _ _
  rw[← hM];replace hM:=ao hM;replace hS:=ao hS;replace hMb:=ao hMb;iterate 1 (refine af fun K hK=>?_;go_simp;refine aj hK _ _ ?_;clear hK K)
  have hL:=(Bl.nil v3).new #[.int .u8 0,.int .u8 0,.int .u8 0,.int .u8 0,.int .u8 0,.int .u8 0,.int .u8 0,.int .u8 0,.int .u8 0,.int .u8 0,.int .u8 0,.int .u8 0,.int .u8 0,.int .u8 0,.int .u8 0,.int .u8 0,.int .u8 0,.int .u8 0,.int .u8 0,.int .u8 0,.int .u8 0,.int .u8 0,.int .u8 0,.int .u8 0,.int .u8 0,.int .u8 0,.int .u8 0,.int .u8 0,.int .u8 0,.int .u8 0,.int .u8 0,.int .u8 0] 23;simp only[List.nil_append] at hL;generalize World.alloc _ _=v4 at *;replace hL:Bl v3 [⟨v3.heap.size,kc Z32,23⟩] v4:=hL;refine aA 23 (.tmp 10) (.tmp 27) v3.heap.size (kc M) 23 (kc Z32) aa rfl aa aa (hL.get 0 (x:=⟨v3.heap.size,kc Z32,23⟩) rfl) (by rw[Tryz.infoKey,au,hMl]) ((show (kc Z32).size=32 from rfl).trans ((au _).trans hMl).symm) (aL _) ?_;replace hL:=hL.set 0 (x:=⟨v3.heap.size,kc Z32,23⟩) rfl (kc M);simp only[ab] at hL;generalize World.setRow _ _ _=v5 at *;simp only[aq];refine ai ?_
  have hks:=hL.get 0 (x:=⟨v3.heap.size,kc M,23⟩) rfl;dsimp only at hks;have hobl:∀ q,(Value.slice a7 (32 * i) c7).ownBlock=some q→q≠v3.heap.size:=fun q hq=>by have:=(World.ownsRow.lt (aj hS).ob q hq).2; omega
  replace hS:=ao ((aj hS).more hL.gr);generalize v3.heap.size=gc at *;clear hL;replace hobl:=ao hobl;replace hks:=ao hks;go_upto_region 8 with fail;replace hS:=aj hS;replace hks:=aj hks;replace hobl:=aj hobl;refine ag ?_;iterate 2 (refine af fun K hK=>?_;go_simp;refine aj hK _ _ ?_;clear hK K)
  refine dJ aa (.tmp 29) (.tmp 30) rfl b (.slice a7 (32 * i) c7) (outT K I i) aa hS.ob (some ⟨gc,0,none⟩) 32 32 M aa hMl (.inr ⟨gc,0,rfl,bP hks⟩) (by rw[da]; omega) hS.sz ?_;intro x5 v6 hO2 hgb;have hks2:v6.heap[gc]?=some (.cells (kc M) 23 (0,0)):=by rw[hgb.block gc (lt_of_block hks) (fun e=>hobl gc e.symm rfl)]; exact hks
  have hbk2:v6.heap[w.heap.size]?=some (.cells (kc K) 23 (0,0)):=by
   rw[hgb.block w.heap.size (lt_of_block hS.bk) (fun e=>by have:=(World.ownsRow.lt hS.ob _ e.symm).1; omega)]; exact hS.bk
  have hG2:=hS.ob.grown (by omega) hS.gr hgb;have hsz2:=Nat.le_trans hS.sz hgb.size;obtain⟨a5,c5,rfl,_,_,_⟩:=hO2.slice;have hO3:Ob b v6 (.slice a5 (32 * (i+1)) c5) (outT K I (i+1)):=by
   have e:outT K I (i+1)=outT K I i++M:=by rw[outT,aj hM]
   rw[← e] at hO2;rw[da] at hO2;exact hO2
  have hlen:(outT K I i++M).length=32 * (i+1):=by rw[List.length_append,da,hMl]; omega
  rw[hlen];have hS2:SI w b w.heap.size K I (i+1) (.slice a5 (32 * (i+1)) c5) (some ⟨gc,0,none⟩) 32 32 v6:=⟨hO3,⟨lastT_len _ _ _,lastT_isB _ _ _,.inr ⟨gc,0,rfl,by rw[← aj hM]; exact bP hks2⟩,by omega,by omega⟩,hbk2,hG2,hsz2⟩;clear hS hO2 hO3 hgb hks hks2 hbk2 hG2 hsz2 hobl hlen;simp only[aq];replace hS2:=ao hS2;iterate 1 (refine af fun K hK=>?_;go_simp;refine aj hK _ _ ?_;clear hK K)
  refine ai ?_;go_wp2_with fail;refine⟨⟨i+1,a5,c5,some ⟨gc,0,none⟩,32,32,by omega,rfl,rfl,by congr 1,hS2⟩,?_⟩;show n+32 - 32 * (i+1)<n+32 - 32 * i;omega
 ·have lI:¬ 32 * (i:Int)<(n:Int):=by omega
  obtain⟨a6,c6,e6,hc6,hm6,hs6⟩:=(aj hS).ob.slice;rw[da] at e6 hc6;obtain⟨rfl,_,rfl⟩:=(Value.slice.injEq _ _ _ _ _ _).mp e6;have n1:(n:Int)≤(c7:Int):=by omega
  have n2:n≤c7:=by omega
  have hP:Hid (Spr K I n w (.returned (.slice a7 n n)) wr):=by
   refine⟨a7,rfl,⟨bH _ _ _,dA _ _ _,?_,Nat.le_refl _,by omega⟩,(fun x hx=>by have:=(World.ownsRow.lt (aj hS).ob x.block (by rw[hx]; rfl)).1; omega),(aj hS).gr⟩;rw[← spL_of K I n i (by omega)];rcases hs6 with h | ⟨p,o,h1,h2⟩
   ·left; rw[h]; simp
   ·exact .inr ⟨p,o,h1,h2.take n⟩
  clear hs6 hm6 hc6 e6 hS;go_wp2_with fail;rw[aj hT];exact aj hP
def lw (X:Nat):Nat→List Int
 | 0=>[]
 | k+1=>lw X k++[((X / 256 ^ k % 256:Nat):Int)]
theorem di (X:Nat):∀ k,(lw X k).length=k
 | 0=>rfl
 | k+1=>by rw[lw,List.length_append,di X k]; rfl
theorem lw_isB (X:Nat):∀ k,IsB (lw X k)
 | 0=>by intro x hx; cases hx
 | k+1=>by
  intro x hx;rw[lw] at hx;rcases List.mem_append.1 hx with h | h
  ·exact lw_isB X k x h
  ·have:x=((X / 256 ^ k % 256:Nat):Int):=by simpa using h
   omega
def lwz (B:List Int) (X k:Nat):List Int:=B++(lw X k++List.replicate (4 - k) 0)
theorem lwz_len (B:List Int) (X k:Nat) (hk:k≤4):(lwz B X k).length=B.length+4:=by
 unfold lwz;rw[List.length_append,List.length_append,di,List.length_replicate];omega
theorem lwz_next (B:List Int) (X k:Nat) (hk:k<4):(lwz B X k).set (B.length+k) ((X / 256 ^ k % 256:Nat):Int)=lwz B X (k+1):=by
 obtain⟨m,hm⟩:∃ m,4 - k=m+1:=⟨3 - k,by omega⟩;have hm2:4 - (k+1)=m:=by omega
 unfold lwz;rw[hm,hm2,List.set_append_right _ _ (by omega),Nat.add_sub_cancel_left,List.set_append_right _ _ (by rw[di]; omega),di,Nat.sub_self,List.replicate_succ,List.set_cons_zero,lw,List.append_assoc];rfl
theorem lwz_zero (B:List Int) (X:Nat):lwz B X 0=B++List.replicate 4 0:=rfl
theorem lwz_all (B:List Int) (X:Nat):lwz B X 4=B++lw X 4:=by unfold lwz; simp
def Putd (B:List Int) (X:Nat) (n:Nat) (w:World) (r:Ending) (w':World):Prop:=∃ g,r=.returned (.slice (some ⟨g,0,none⟩) (n+4) (n+4))∧w.heap.size≤g∧w'.heap[g]?=some (.cells (kc (B++lw X 4)) 5 (0,0))∧Gr w w'
theorem put_ok (B:List Int) (a:Option Addr) (n c:Nat) (X:Nat) (hX:X<4294967296) (hn:n≤140737488351232) (w:World) (hB:Lb w a n c B):Calls Tryz.prog 109 #[.slice a n c,.int .u64 X,.int .i64 4] w (Putd B X n w):=by
 obtain⟨T,hT⟩:∃ T,T=Putd B X n w:=⟨_,rfl⟩;rw[← hT];replace hT:=ao hT;have hl:=hB.len;replace hB:=ao hB;have w1:IntKind.i64.wrap ((n:Int)+4)=(n:Int)+4:=by rw[IntKind.wrap_i64]; omega
 have w2:(0:Int)≤(n:Int)+4:=by omega
 replace hl:=ao hl;go_enter Tryz.func109,Tryz.ntmps109;go_upto_region 1 with fail;refine ag ?_;iterate 4 (refine af fun K hK=>?_;go_simp;refine aj hK _ _ ?_;clear hK K)
 refine bF w rfl (.tmp 12) (.tmp 12) rfl ((n:Int)+4) ((n:Int)+4) (n+4) (n+4) aa aa (by omega) (by omega) (by omega) (by omega) ?_;have hv:=aS w (.cells (kc (List.replicate (n+4) 0)) 5 (0,0));have hg:=(Gr.refl w).alloc (.cells (kc (List.replicate (n+4) 0)) 5 (0,0));generalize World.alloc _ _=u1 at *;simp only[aq];replace hv:=ao hv;replace hg:=ao hg;iterate 1 (refine af fun K hK=>?_;go_simp;refine aj hK _ _ ?_;clear hK K)
 refine ai ?_;go_upto_region 2 with fail;refine ag ?_;iterate 2 (refine af fun K hK=>?_;go_simp;refine aj hK _ _ ?_;clear hK K)
 refine wpList_plain rfl fun K hK=>?_;refine bu (.tmp 14) (.tmp 15) rfl w.heap.size 0 (n+4) (n+4) a n c aa aa ((List.replicate (n+4) (0:Int)).map (Value.int .u8)) 5 (aj hv) B (by rw[aj hl]; exact(Nat.min_eq_left (by omega)).symm) (by rcases((aj hB).gr (aj hg)).sl with h | ⟨p,o,h1,h2⟩; exact .inl h; exact .inr ⟨p,o,h1,h2⟩) (by rw[List.length_map,List.length_replicate,aj hl]; omega) ?_;have hv2:=aZ (B.map (Value.int .u8)) u1 w.heap.size 0 _ _ (aj hv);rw[sp_kc B _ (by rw[List.length_replicate,aj hl]; omega)] at hv2;have e0:B++(List.replicate (n+4) (0:Int)).drop B.length=lwz B X 0:=by
  rw[lwz_zero,List.drop_replicate,aj hl]
  congr 2
  omega
 rw[e0] at hv2;have hg2:=(aM (B.map (Value.int .u8)) u1 w.heap.size 0).gr (aj hg) (Nat.le_refl _);refine hK _ _ ?_;clear hK K hv hg e0;simp only[aq];generalize World.setCells _ _ _ _=u2 at *;rw[aj hl];replace hv2:Hid (u2.heap[w.heap.size]?=some (.cells (kc (lwz B X 0)) 5 (0,0))):=hv2;replace hg2:=ao hg2;iterate 1 (refine af fun K hK=>?_;go_simp;refine aj hK _ _ ?_;clear hK K)
 refine ai ?_;go_wp2_with fail
 go_loopw [8,1] (fun i x wr=>∃ k:Nat,k≤4∧i=.int .i64 ((n+k:Nat):Int)∧x=.int .u64 ((X / 256 ^ k:Nat):Int)∧Hid (wr.heap[w.heap.size]?=some (.cells (kc (lwz B X k)) 5 (0,0)))∧Hid (Gr w wr)) (fun i _ _=>n+4 - (intOf i).toNat)
 case atStart=>exact⟨0,by omega,rfl,by simp,hv2,hg2⟩
 case round =>
 clear hv2 hg2;obtain⟨k,hk,rfl,rfl,hv,hg⟩:=hrel;by_cases hlt:k<4
 ·obtain⟨q,hq⟩:∃ q,q=n+k:=⟨_,rfl⟩;obtain⟨Y,hY⟩:∃ Y,Y=X / 256 ^ k:=⟨_,rfl⟩;obtain⟨y,hy⟩:∃ y:Int,y=((Y % 256:Nat):Int):=⟨_,rfl⟩;have q1:(q:Int)<(n:Int)+4:=by omega
  have q2:q<n+4:=by omega
  have q3:0≤(q:Int)∧(q:Int)<((n+4:Nat):Int):=by omega
  have q4:IntKind.i64.wrap ((q:Int)+1)=(q:Int)+1:=by rw[IntKind.wrap_i64]; omega
  have e1:IntKind.u8.wrap (Y:Int)=y:=by rw[IntKind.wrap_u8',hy]; omega
  obtain⟨Z,hZ⟩:∃ Z,Z=X / 256 ^ (k+1):=⟨_,rfl⟩;have e2:(Y:Int) / 256=(Z:Int):=by rw[hZ,hY,Nat.pow_succ,← Nat.div_div_eq_div_mul]; omega
  have cs:=bJ (aj hv) q (by rw[lwz_len _ _ _ (by omega),aj hl]; omega);have fs:=aO (i:=q) (aj hv);have hv2:=heap_setCell_same wr w.heap.size q _ _ (.int .u8 y) (aj hv);rw[cD] at hv2;have hnx:(lwz B X k).set q y=lwz B X (k+1):=by
   rw[hq,hy,hY,← aj hl];exact lwz_next B X k hlt
  rw[hnx] at hv2;have hg2:=(aM [.int .u8 y] wr w.heap.size q).gr (aj hg) (Nat.le_refl _);replace hg2:Hid (Gr w (wr.setCell ⟨w.heap.size,q,none⟩ (.int .u8 y))):=hg2;replace hv2:=ao hv2;rw[← hq,← hY];generalize (lwz B X k).getD q 0=old at cs;clear hnx;replace hq:=ao hq;replace hY:=ao hY;replace hy:=ao hy;replace hZ:=ao hZ;go_wp2_with fail;have h1:=aj hq;refine⟨⟨k+1,by omega,by congr 1; omega,by rw[aj hZ],hv2,hg2⟩,?_⟩;show n+4 - ((q:Int)+1).toNat<n+4 - (q:Int).toNat;omega
 ·have e:k=4:=by omega
  subst e;have hP:Hid (Putd B X n w (.returned (.slice (some ⟨w.heap.size,0,none⟩) (n+4) (n+4))) wr):=⟨_,rfl,Nat.le_refl _,by rw[← lwz_all]; exact aj hv,aj hg⟩;clear hlt hv hg;go_wp2_with fail;rw[aj hT];exact aj hP
theorem put32_ok (B:List Int) (a:Option Addr) (n c:Nat) (X:Nat) (hX:X<4294967296) (hn:n≤140737488351232) (w:World) (hB:Lb w a n c B):Calls Tryz.prog 64 #[.slice a n c,.int .u32 X] w (Putd B X n w):=by
 obtain⟨T,hT⟩:∃ T,T=Putd B X n w:=⟨_,rfl⟩;rw[← hT];replace hT:=ao hT;replace hB:=ao hB;go_enter Tryz.func64,Tryz.ntmps64;go_wp2_with (go_at_call 109; refine(put_ok B a n c X hX hn _ (aj hB)).mono ?_; rintro e u1 ⟨g,rfl,h1,h2,h3⟩);rw[aj hT];exact⟨g,rfl,h1,h2,h3⟩
theorem length_ok (X:Nat) (hX:X<4294967296) (w:World):Calls Tryz.prog 116 #[.int .i64 X] w (Putd [] X 0 w):=by
 obtain⟨T,hT⟩:∃ T,T=Putd [] X 0 w:=⟨_,rfl⟩;rw[← hT];replace hT:=ao hT;have e1:IntKind.u32.wrap (X:Int)=(X:Int):=by rw[IntKind.wrap_u32]; omega
 go_enter Tryz.func116,Tryz.ntmps116;go_wp2_with (go_at_call 64; refine(put32_ok [] none 0 0 X hX (by omega) _ (Lb.nil _)).mono ?_; rintro e u1 ⟨g,rfl,h1,h2,h3⟩);rw[aj hT];exact⟨g,rfl,h1,h2,h3⟩
def tb (s:ByteArray):List Int:=s.data.toList.map fun x=>((x.toNat:Nat):Int)
theorem tb_len (s:ByteArray):(tb s).length=s.size:=by unfold tb; simp
theorem tb_isB (s:ByteArray):IsB (tb s):=by
 intro x hx;obtain⟨y,_,rfl⟩:=List.mem_map.1 hx;have:=y.toNat_lt;omega
theorem tb_cells (s:ByteArray):Lib.strCells s=(tb s).map (Value.int .u8):=by unfold Lib.strCells tb; simp
theorem app_str {w:World} {ops:Array Oper} {rest:List Oper} {o:Oper} {a:Act} {Q:Exit→Act→World→Prop} (hgd:o.guard=none) (s x:Operand)
  (ho:o.op=.call { callee:=.builtin .append,args:=#[s,x],argTypes:=#[55,9] }) (b:Nat) (v:Value) (L:List Int) (hs:a.eval s=v) (hown:Ob b w v L)
  (t:ByteArray) (hx:a.eval x=.string t) (hbig:L.length+t.size≤140737488355328) (hB:b≤w.heap.size)
  (h:∀ v' w',Ob b w' v' (L++tb t)→w.grownBy w' v.ownBlock→wpList Tryz.prog ops Q rest (a.put o.dst v') w') :
  wpList Tryz.prog ops Q (o::rest) a w:=by
 obtain⟨i0,hi,hz0,hz1,hz2⟩:=info_parts Tryz.info5;refine Lib.wpList_append_own_string w hgd s x 55 9 ho b 5 i0 Tryz.underlying55 Tryz.underlying9 hi hz0 hz1 hz2 v L.length _ hs hown t hx (by unfold maxLen; omega) hbig hB ?_;intro v' w' h1 h2 _;refine h v' w' ?_ h2;unfold Ob;rw[List.length_append,List.map_append,tb_len,← tb_cells];exact h1
theorem Putd.ob {w w':World} {B:List Int} {X n g:Nat} (hn:B.length=n) (hg:w.heap.size≤g) (h:w'.heap[g]?=some (.cells (kc (B++lw X 4)) 5 (0,0))) (hb:n≤281474976710656):Ob w.heap.size w' (.slice (some ⟨g,0,none⟩) (n+4) (n+4)) (B++lw X 4):=by
 have hl:(B++lw X 4).length=n+4:=by rw[List.length_append,di,hn]
 refine⟨by simp,.inr ⟨g,n+4,kc (B++lw X 4),by rw[hl],hg,h,by omega,by unfold maxLen; omega,by rw[au,hl]; omega,?_⟩⟩;unfold kc;rw[Nat.mul_one];exact List.take_of_length_le (by simp)
theorem Ob.lb {b:Nat} {w:World} {v:Value} {L:List Int} (h:Ob b w v L) (hb:IsB L):∃ a c,v=.slice a L.length c∧Lb w a L.length c L:=by
 obtain⟨a,c,h1,h2,h3,h4⟩:=h.slice;exact⟨a,c,h1,rfl,hb,h4,h2,by unfold maxLen at h3; omega⟩
def tpart (p:List Int):List Int:=lw p.length 4++p
theorem tpart_isB {p:List Int} (h:IsB p):IsB (tpart p):=bi (lw_isB _ _) h
def infL (l:List Int) (ps:List (List Int)) (k:Nat):List Int:=tpart l++((ps.take k).map tpart).flatten
theorem infL_next (l:List Int) (ps:List (List Int)) (k:Nat) (h:k<ps.length):infL l ps (k+1)=infL l ps k++tpart (ps.getD k []):=by
 unfold infL;rw[List.take_add_one,List.getElem?_eq_getElem h,List.map_append,List.flatten_append,← List.append_assoc];simp[h]
def infoL (l:List Int) (ps:List (List Int)):List Int:=infL l ps ps.length
def small4 (ps:List (List Int)):Prop:=ps.length≤100∧∀ p ∈ ps,p.length≤4096
theorem infL_len (l:List Int) (ps:List (List Int)) (hl:l.length≤1000) (hp:small4 ps):∀ k,k≤ps.length→(infL l ps k).length≤1004+4100 * k
 | 0,_=>by unfold infL tpart; simp[di]; omega
 | k+1,h=>by
  rw[infL_next l ps k (by omega),List.length_append];have h1:=infL_len l ps hl hp k (by omega);have h2:(tpart (ps.getD k [])).length≤4100:=by
   have h3:(ps.getD k []) ∈ ps:=by rw[List.getD_eq_getElem?_getD,List.getElem?_eq_getElem (by omega)]; exact List.getElem_mem _
   have:=hp.2 _ h3;unfold tpart;rw[List.length_append,di];omega
  omega
def Infd (L:List Int) (w:World) (r:Ending) (w':World):Prop:=∃ v,r=.returned v∧Ob w.heap.size w' v L∧Gr w w'
theorem infoOf_ok (t:ByteArray) (ht:t.size≤1000) (ps:List (List Int)) (ap:Option Addr) (m cp:Nat) (hm:ps.length=m) (hp:small4 ps) (w:World) (hP:Pr w ap ps):Calls Tryz.prog 80 #[.string t,.slice ap m cp] w (Infd (infoL (tb t) ps) w):=by
 obtain⟨T,hT⟩:∃ T,T=Infd (infoL (tb t) ps) w:=⟨_,rfl⟩;rw[← hT];have hmb:m≤100:=by rw[← hm]; exact hp.1
 have htl:(tb t).length≤1000:=by rw[tb_len]; exact ht
 replace hT:=ao hT;replace hP:=ao hP;replace hp:=ao hp;replace hm:=ao hm;replace htl:=ao htl;go_enter Tryz.func80,Tryz.ntmps80;go_upto_region 1 with fail;refine ag ?_;iterate 2 (refine af fun K hK=>?_;go_simp;refine aj hK _ _ ?_;clear hK K)
 refine av 116 #[.int .i64 t.size] aa aa ((length_ok t.size (by omega) _).mono ?_);rintro r u1 ⟨g,rfl,h1,h2,hg⟩;refine⟨_,rfl,?_⟩;have hO:=Putd.ob (B:=[]) (n:=0) rfl h1 h2 (by omega);rw[List.nil_append] at hO;clear h1 h2;simp only[aq];replace hO:=ao hO;replace hg:=ao hg;iterate 1 (refine af fun K hK=>?_;go_simp;refine aj hK _ _ ?_;clear hK K)
 refine app_str rfl (.tmp 10) (.tmp 11) rfl w.heap.size _ (lw t.size 4) aa (aj hO) t aa (by rw[di]; omega) (aj hg).size ?_;intro v2 u2 hO2 hgb;have hG:=(aj hO).grown (Nat.le_refl _) (aj hg) hgb;clear hgb hO hg;have hO3:Ob w.heap.size u2 v2 (infL (tb t) ps 0):=by
  have e:infL (tb t) ps 0=lw t.size 4++tb t:=by unfold infL tpart; rw[tb_len]; simp
  rw[e]; exact hO2
 clear hO2;obtain⟨a2,c2,rfl,_,_,_⟩:=hO3.slice;simp only[aq];replace hO3:=ao hO3;replace hG:=ao hG;obtain⟨n2,hn2⟩:∃ n2,n2=(infL (tb t) ps 0).length:=⟨_,rfl⟩;rw[← hn2] at hO3;rw[← hn2];replace hn2:=ao hn2;iterate 1 (refine af fun K hK=>?_;go_simp;refine aj hK _ _ ?_;clear hK K)
 refine ai ?_;go_wp2_with fail
 go_loopw [5,15] (fun x i wr=>∃ (k n:Nat) (a:Option Addr) (c:Nat),k≤m∧i=.int .i64 k∧x=.slice a n c∧Hid (n=(infL (tb t) ps k).length)∧Hid (Ob w.heap.size wr (.slice a n c) (infL (tb t) ps k))∧Hid (Gr w wr)) (fun _ i _=>m - (intOf i).toNat)
 case atStart=>exact⟨0,n2,a2,c2,by omega,rfl,rfl,hn2,hO3,hG⟩
 case round =>
 clear hO3 hG hn2;obtain⟨k,n,a,c,hk,rfl,rfl,hn,hO,hG⟩:=hrel;by_cases hl:k<m
 ·have kI:(k:Int)<(m:Int):=by omega
  obtain⟨p,o,rfl,hq⟩:∃ p o,ap=some ⟨p,o,none⟩∧Pq w p o ps:=by
   rcases(aj hP) with h | ⟨p,o,h1,h2⟩
   ·have:=aj hm; rw[h] at this; simp at this; omega
   ·exact⟨p,o,h1,h2⟩
  obtain⟨aP,nP,cP,cc,hPl,hPb,hPs,hPc,hPm⟩:=hq k (by rw[aj hm]; exact hl);replace cc:=(aj hG).cell cc;clear hq;have hnx:=ao (infL_next (tb t) ps k (by rw[aj hm]; exact hl));have hPs4:(ps.getD k []).length≤4096:=(aj hp).2 _ (by rw[List.getD_eq_getElem?_getD,List.getElem?_eq_getElem (by rw[aj hm]; exact hl)]; exact List.getElem_mem _);have hlen:=infL_len (tb t) ps (aj htl) (aj hp) k (by rw[aj hm]; omega);generalize ps.getD k []=P at *;have hPI:nP≤4096:=by omega
  replace hPs:=ao hPs;replace hPb:=ao hPb;replace hPl:=ao hPl;replace hPs4:=ao hPs4;replace hlen:=ao hlen;go_upto_region 5 with fail;refine ag ?_;iterate 3 (refine af fun K hK=>?_;go_simp;refine aj hK _ _ ?_;clear hK K)
  refine av 116 #[.int .i64 nP] aa aa ((length_ok nP (by omega) _).mono ?_);rintro r v1 ⟨g1,rfl,h1,h2,hg⟩;refine⟨_,rfl,?_⟩;replace hO:=(aj hO).gr hg;replace hG:=(aj hG).trans hg;have hs1:Sl v1 (some ⟨g1,0,none⟩) (lw nP 4):=.inr ⟨g1,0,rfl,by rw[List.nil_append] at h2; exact bP h2⟩;clear hg h1 h2;simp only[aq];refine dJ aa (.tmp 19) (.tmp 22) rfl w.heap.size (.slice a n c) (infL (tb t) ps k) aa hO (some ⟨g1,0,none⟩) 4 4 (lw nP 4) aa (di _ _) hs1 (by have:=aj hlen; omega) hG.size ?_;intro x2 v2 hO2 hgb;replace hG:=hO.grown (Nat.le_refl _) hG hgb;clear hgb hO hs1;simp only[aq];replace hO2:=ao hO2;replace hG:=ao hG;iterate 1 (refine af fun K hK=>?_;go_simp;refine aj hK _ _ ?_;clear hK K)
  replace hO2:=aj hO2;replace hG:=aj hG;refine dJ aa (.tmp 23) (.tmp 24) rfl w.heap.size x2 (infL (tb t) ps k++lw nP 4) aa hO2 aP nP cP P aa (aj hPl) ((aj hPs).gr hG) (by rw[List.length_append,di]; have:=aj hlen; omega) hG.size ?_;intro x3 v3 hO3 hgb;replace hG:=hO2.grown (Nat.le_refl _) hG hgb;clear hgb hO2;have hO4:Ob w.heap.size v3 x3 (infL (tb t) ps (k+1)):=by
   rw[aj hnx];unfold tpart;rw[aj hPl,← List.append_assoc];exact hO3
  obtain⟨a5,c5,rfl,_,_,_⟩:=hO4.slice;clear hO3;obtain⟨n5,hn5⟩:∃ n5,n5=(infL (tb t) ps (k+1)).length:=⟨_,rfl⟩;rw[← hn5] at hO4;rw[← hn5];replace hn5:=ao hn5;simp only[aq];replace hO4:=ao hO4;replace hG:=ao hG;iterate 1 (refine af fun K hK=>?_;go_simp;refine aj hK _ _ ?_;clear hK K)
  refine ai ?_;go_wp2_with fail;go_roundw
  case rel=>exact⟨k+1,n5,a5,c5,by omega,by go_num,rfl,hn5,hO4,hG⟩
  case measure=>simp[intOf]; omega
 ·have e:k=m:=by omega
  subst e;have hPd:Hid (Infd (infoL (tb t) ps) w (.returned (.slice a n c)) wr):=⟨_,rfl,by unfold infoL; rw[aj hm]; exact aj hO,aj hG⟩;clear hO hG hn;go_wp2_with fail;rw[aj hT];exact aj hPd
def hx (n:Int):Int:=if n<10 then 48+n else 87+n
def ltL:List Int→List Int→Bool
 | a::x,b::y=>if a=b then ltL x y else decide (a<b)
 | _,_=>false
theorem list_of_getD {l m:List Int} (hl:l.length=m.length) (h:∀ j,j<l.length→l.getD j 0=m.getD j 0):l=m:=by
 refine List.ext_getElem hl fun i h1 h2=>?_;have:=h i h1;simpa [h1,h2] using this
theorem ltL_irr:∀ A:List Int,ltL A A=false
 | []=>rfl
 | a::x=>by simp only[ltL,if_pos,ltL_irr x]
theorem ltL_at:∀ (A B:List Int) (i:Nat),(∀ j,j<i→A.getD j 0=B.getD j 0)→i<A.length→i<B.length→A.getD i 0≠B.getD i 0→ltL A B=decide (A.getD i 0<B.getD i 0)
 | [],_,i,_,h,_,_=>by simp at h
 | _::_,[],i,_,_,h,_=>by simp at h
 | a::x,b::y,0,_,_,_,h=>by
  have h:a≠b:=h;simp only[ltL,if_neg h];rfl
 | a::x,b::y,i+1,h1,h2,h3,h4=>by
  have h0:a=b:=h1 0 (by omega);simp only[ltL,if_pos h0];exact ltL_at x y i (fun j hj=>h1 (j+1) (by omega)) (by simpa using h2) (by simpa using h3) h4
theorem dv {w:World} {g:Nat} {X:List Int} {t:TypeId} {n:Nat} (h:w.heap[g]?=some (.cells (kc X) t (0,0))) (hn:X.length=n) (hX:IsB X) (hb:n<9223372036854775808):Lb w (some ⟨g,0,none⟩) n n X:=⟨hn,hX,.inr ⟨g,0,rfl,bP h⟩,Nat.le_refl _,hb⟩
theorem make_op {w:World} {o:Oper} {a:Act} {K:Act→World→Prop} {Q:Exit→Act→World→Prop} (l c:Operand) (hop:o.op=Op.makeSlice 55 l c) (n m:Nat) (hl:a.eval l=.int .i64 n) (hc:a.eval c=.int .i64 m) (hnm:n≤m) (hn:m≤281474976710656)
  (h:K (a.put o.dst (.slice (some ⟨w.heap.size,0,none⟩) n m)) (w.alloc (.cells (kc (List.replicate m 0)) 5 (0,0)))):o.wp Tryz.prog a w K Q:=by
 obtain⟨i,h2,h3,h4,h5⟩:=info_parts Tryz.info5;have hrun:=run_make (P:=Tryz.prog) w 55 5 i (.int .u8 0) Tryz.underlying55 h2 h3 .i64 .i64 (n:Int) (m:Int) (by omega) (by omega) (by rw[h5]; omega) (by omega);rw[h4] at hrun;have e:madeCells (Value.int .u8 0).cells m=kc (List.replicate m 0):=by
  apply Array.ext
  ·simp[size_madeCells,kc]
  ·intro i h1 h2;have:i % 1=0:=Nat.mod_one i;simp[madeCells,Value.cells,this,kc]
 simp only[Int.toNat_natCast,Nat.mul_one,e] at hrun;unfold Oper.wp;simp[execOp,hop,hl,hc,hrun,Result.andThen];exact h
theorem list_ext {A B:List Int} (hl:A.length=B.length) (h:∀ i,i<A.length→A.getD i 0=B.getD i 0):A=B:=by
 apply List.ext_getElem hl;intro i h1 h2;have:=h i h1;simpa [List.getD_eq_getElem?_getD,List.getElem?_eq_getElem h1,List.getElem?_eq_getElem h2] using this
theorem Tryz.cells_b:Tryz.prog.cellsOf 5=1:=by kernel_rfl
theorem Tryz.info_b:(Tryz.prog.info? 5).map (fun i=>(i.zero,i.size,i.bytes))=some (some (.int .u8 0),1,1):=by kernel_rfl
theorem Tryz.plain_b:Tryz.prog.plainKey 5=true:=by kernel_rfl
theorem eqs_b (k m:List Int) (hl:k.length=m.length) (d:Nat) (is:List Nat) (h:∀ i ∈ is,i<k.length) (w:World):(Op.eqItems (d+1) 5 1 (kc k) (kc m) is).run Tryz.prog w=.ok (decide (∀ i ∈ is,k.getD i 0=m.getD i 0)) w:=by
 induction is with
 | nil=>simp[Op.eqItems]
 | cons i is ih =>
  have hi:i<k.length:=h i (by simp);have hp:∀ m:List Int,i<m.length→(part 5 (kc m) (i * 1)).run Tryz.prog w=.ok (.int .u8 (m.getD i 0)) w:=by
   intro m hm;refine run_part_plain w Tryz.plain_b ?_;simp[kc,List.getD,List.getElem?_eq_getElem hm]
  have he:=run_equalIn_int (P:=Tryz.prog) w d 5 .u8 .u8 (k.getD i 0) (m.getD i 0) Tryz.underlying5;simp only[Op.eqItems,Sem.run_bind,hp k hi,hp m (by omega),he,Result.andThen_ok];have ih:=ih (fun j hj=>h j (List.mem_cons_of_mem _ hj));by_cases hq:k.getD i 0=m.getD i 0
  ·simp only[hq,beq_self_eq_true,if_true,List.mem_cons,forall_eq_or_imp,true_and];exact ih
  ·have hq2:(k.getD i 0 == m.getD i 0)=false:=by simpa using hq
   simp only[hq2,List.mem_cons,forall_eq_or_imp,hq,false_and,decide_false];rfl
theorem exec_u8 {op:Oper} {a:Act} (w:World) (x:Operand) (ho:op.op=.load 5 x) (g i:Nat) (hx:a.eval x=.pointer (some ⟨g,i,none⟩)) (v:Int) (hc:w.cell? ⟨g,i,none⟩=some (.int .u8 v)):(execOp a.eval op).run Tryz.prog w=.ok (.value (.int .u8 v)) w:=by
 unfold execOp;simp only[ho,hx,Instr.loadAt,Instr.sureAddr,Sem.run_bind,Sem.run_pure,Result.andThen_ok];go_simp
def IsK (l:List Int):Prop:=l.length=32∧IsB l
theorem eq_K (k m:List Int) (hk:k.length=32) (hm:m.length=32) (w:World):Sem.run Tryz.prog (Op.equalIn 10000 23 (.agg (kc k)) (.agg (kc m))) w=.ok (decide (k=m)) w:=by
 obtain⟨i0,hi0,_⟩:=info_parts Tryz.info_b;rw[run_equalIn_array (P:=Tryz.prog) w 9999 (kc k) (kc m) Tryz.underlying23 hi0,Tryz.cells_b];refine(eqs_b k m (by omega) 9998 _ (by intro i hi; simp at hi; omega) w).trans ?_
 congr 1
 rw[decide_eq_decide];constructor
 ·intro h;exact list_ext (by omega) fun i hi=>h i (by simp; omega)
 ·rintro rfl i _;rfl
theorem exec_eq_k {a:Act} {o:Oper} (w:World) (x y:Operand) (ho:o.op=.binOp .eql 23 x y 23) (k m:List Int) (hk:k.length=32) (hm:m.length=32) (hx:a.eval x=.agg (kc k)) (hy:a.eval y=.agg (kc m)) (hg:(eqGuard .eql 23 x y (.agg (kc k)) (.agg (kc m))).run Tryz.prog w=.ok () w) (b:Bool) (hb:decide (k=m)=b):(execOp a.eval o).run Tryz.prog w=.ok (.value (.bool b)) w:=by
 have hu:=Tryz.underlying23;have he:=eq_K k m hk hm w;rw[hb] at he;unfold execOp;simp only[ho,hx,hy];go_simp
theorem results_two {P:Program} {fn:Func} {p q:Tmp} {ty:TypeId} (h:fn.results=#[.cell p ty,.cell q ty]) (tmps:Array Value) (w:World) (g g2:Nat) (t t2:TypeId) (cs cs2:Array Value) (fr fr2:Nat × Nat) (d:TypeDesc)
  (hp:tmps.getD p undef=.pointer (some ⟨g,0,none⟩)) (hq:tmps.getD q undef=.pointer (some ⟨g2,0,none⟩)) (hg:w.heap[g]?=some (.cells cs t fr)) (hg2:w.heap[g2]?=some (.cells cs2 t2 fr2))
  (hu:P.underlying ty=some d) (hd:(match d with | .struct _ | .array _ _=>true | _=>false)=true) (hi:(P.info? ty).map (·.size)=some cs.size) (hi2:(P.info? ty).map (·.size)=some cs2.size) :
  (results fn tmps).run P w=.ok (.tuple #[.agg cs,.agg cs2]) w:=by
 have hp':tmps[p]?.getD undef=.pointer (some ⟨g,0,none⟩):=by simpa using hp
 have hq':tmps[q]?.getD undef=.pointer (some ⟨g2,0,none⟩):=by simpa using hq
 simp[results,h,hp',hq',asAddr,run_loadVar_row w g t ty cs fr d hg hu hd hi,run_loadVar_row w g2 t2 ty cs2 fr2 d hg2 hu hd hi2]
theorem infoL_isB {l:List Int} {ps:List (List Int)} (hl:IsB l) (hp:∀ p ∈ ps,IsB p):IsB (infoL l ps):=by
 unfold infoL infL;refine bi (tpart_isB hl) ?_;intro x hx;obtain⟨q,hq,hx⟩:=List.mem_flatten.1 hx;obtain⟨p,hp2,rfl⟩:=List.mem_map.1 hq;exact tpart_isB (hp p (List.mem_of_mem_take hp2)) x hx
theorem Pr.isB {w:World} {a:Option Addr} {ps:List (List Int)} (h:Pr w a ps):∀ p ∈ ps,IsB p:=by
 intro p hp;rcases h with h | ⟨q,o,_,h2⟩
 ·rw[h] at hp; cases hp
 ·obtain⟨j,hj⟩:=List.getElem?_of_mem hp;have hj2:=(List.getElem?_eq_some_iff.1 hj).1;obtain⟨_,_,_,_,_,h3,_⟩:=h2 j hj2;have e:ps.getD j []=p:=by rw[List.getD_eq_getElem?_getD,hj]; rfl
  rw[e] at h3;exact h3
theorem Bl.copy {w v:World} {L:List Blk} (h:Bl w L v) (k:Nat) {g:Nat} {Z D:List Int} (hk:L[k]?=some ⟨g,kc Z,23⟩) (hZ:Z.length=32) (hD:D.length=32):Bl w (L.set k ⟨g,kc D,23⟩) (v.setCells g 0 (D.map (Value.int .u8))):=by
 have hv:=aZ (D.map (Value.int .u8)) v g 0 (Z.map (Value.int .u8)) 23 (h.get k hk);rw[sp_kc D Z (by omega),List.drop_eq_nil_of_le (by omega),List.append_nil] at hv;exact h.but (aM (D.map (Value.int .u8)) v g 0) k hk rfl hv
theorem add_block (x:Addr) (k:Nat):(x.add k).block=x.block:=by
 unfold Addr.add;split <;> rfl
theorem Sl.later {v:World} {a:Option Addr} {D:List Int} {g:Nat} (vs:List Value) (h:Sl v a D) (hf:∀ x,a=some x→g<x.block):Sl (v.setCells g 0 vs) a D:=by
 rcases h with h | ⟨p,o,h1,h2⟩
 ·exact .inl h
 ·have hp:=hf _ h1;exact .inr ⟨p,o,h1,fun j hj=>(aM vs v g 0).cell (h2 j hj) (by dsimp only at hp; omega)⟩
def Derd (D:List Int) (w:World) (r:Ending) (w':World):Prop:=r=.returned (.agg (kc D))∧Gr w w'
def Twod (D E:List Int) (w:World) (r:Ending) (w':World):Prop:=r=.returned (.tuple #[.agg (kc D),.agg (kc E)])∧Gr w w'
theorem derive_ok (Ky:List Int) (hKl:Ky.length=32) (hKb:IsB Ky) (t:ByteArray) (ht:t.size≤1000) (ps:List (List Int)) (ap:Option Addr) (m cp:Nat) (hm:ps.length=m) (hp:small4 ps) (w:World) (hF:Fst w) (hP:Pr w ap ps) :
  Calls Tryz.prog 33 #[.agg (kc Ky),.string t,.slice ap m cp] w (Derd (spL Ky (infoL (tb t) ps) 32) w):=by
 obtain⟨T,hT⟩:∃ T,T=Derd (spL Ky (infoL (tb t) ps) 32) w:=⟨_,rfl⟩;rw[← hT];obtain⟨KK,hKK⟩:∃ KK,KK=kc Ky:=⟨_,rfl⟩;rw[← hKK];have hKs:KK.size=32:=by rw[hKK,au,hKl]
 have hIb:IsB (infoL (tb t) ps):=infoL_isB (tb_isB t) hP.isB;have hIl:(infoL (tb t) ps).length≤1004+4100 * ps.length:=infL_len (tb t) ps (by rw[tb_len]; exact ht) hp ps.length (Nat.le_refl _);have hm100:=hp.1;replace hT:=ao hT;replace hF:=ao hF;replace hP:=ao hP;replace hp:=ao hp;replace hm:=ao hm;replace hKK:=ao hKK;replace hKb:=ao hKb;replace hIb:=ao hIb;go_enter Tryz.func33,Tryz.ntmps33;go_upto_region 2 with fail
 have hB:=(((Bl.nil w).new KK 23).new #[.int .u8 0,.int .u8 0,.int .u8 0,.int .u8 0,.int .u8 0,.int .u8 0,.int .u8 0,.int .u8 0,.int .u8 0,.int .u8 0,.int .u8 0,.int .u8 0,.int .u8 0,.int .u8 0,.int .u8 0,.int .u8 0,.int .u8 0,.int .u8 0,.int .u8 0,.int .u8 0,.int .u8 0,.int .u8 0,.int .u8 0,.int .u8 0,.int .u8 0,.int .u8 0,.int .u8 0,.int .u8 0,.int .u8 0,.int .u8 0,.int .u8 0,.int .u8 0] 23).new #[.int .u8 0,.int .u8 0,.int .u8 0,.int .u8 0,.int .u8 0,.int .u8 0,.int .u8 0,.int .u8 0,.int .u8 0,.int .u8 0,.int .u8 0,.int .u8 0,.int .u8 0,.int .u8 0,.int .u8 0,.int .u8 0,.int .u8 0,.int .u8 0,.int .u8 0,.int .u8 0,.int .u8 0,.int .u8 0,.int .u8 0,.int .u8 0,.int .u8 0,.int .u8 0,.int .u8 0,.int .u8 0,.int .u8 0,.int .u8 0,.int .u8 0,.int .u8 0] 23;simp only[ac,aB] at hB;generalize World.alloc _ _=u1 at *
 replace hB:Bl w [⟨w.heap.size,KK,23⟩,⟨w.heap.size+1,kc Z32,23⟩,⟨w.heap.size+1+1,kc Z32,23⟩] u1:=hB;refine aE (S:=fun v=>v.heap[w.heap.size]?=some (.cells KK 23 (0,0))) aa ?_;replace hB:=hB.drew;generalize World.drew _=u2 at *;simp only[ae,Array.replicate,List.replicate];refine ar (i:=0) (v:=(.slice (some ⟨w.heap.size+1+1,0,none⟩) 32 32)) #[false,false,false,false,false,false,false] rfl aa aa aa aa (fun _ _ _ h=>h) (.inl ⟨by kernel_rfl,fun x_ hu=>by go_simp⟩) (hB.get 0 (x:=⟨w.heap.size,KK,23⟩) rfl) ?_;simp only[aq];refine ar (i:=1) (v:=(.agg KK)) #[true,false,false,false,false,false,false] rfl aa aa aa aa (fun _ _ _ h=>h) (.inl ⟨by kernel_rfl,fun x_ hu=>ax x_ 23 (.tmp 3) rfl w.heap.size aa KK 23 _ hu Tryz.underlying23 rfl (by rw[Tryz.infoKey,hKs])⟩) (hB.get 0 (x:=⟨w.heap.size,KK,23⟩) rfl) ?_;simp only[aq]
 refine ar (i:=2) (v:=(.string t)) #[true,true,false,false,false,false,false] rfl aa aa aa aa (fun _ _ _ h=>h) (.inl ⟨by kernel_rfl,fun x_ hu=>by kernel_rfl⟩) (hB.get 0 (x:=⟨w.heap.size,KK,23⟩) rfl) ?_;simp only[aq];refine ar (i:=3) (v:=(.slice ap m cp)) #[true,true,true,false,false,false,false] rfl aa aa aa aa (fun _ _ _ h=>h) (.inl ⟨by kernel_rfl,fun x_ hu=>by kernel_rfl⟩) (hB.get 0 (x:=⟨w.heap.size,KK,23⟩) rfl) ?_;simp only[aq];refine ay (i:=4) aa rfl (fun K hK=>?_);refine az aa 80 #[.string t,.slice ap m cp] aa ((infoOf_ok t ht ps ap m cp (aj hm) (aj hp) _ ((aj hP).gr hB.gr)).mono ?_);rintro r y1 ⟨v1,rfl,hO,hg⟩;refine⟨_,rfl,?_⟩;obtain⟨a1,c1,rfl,l1⟩:=hO.lb (aj hIb);clear hO;obtain⟨n1,hn1⟩:∃ n1,n1=(infoL (tb t) ps).length:=⟨_,rfl⟩;rw[← hn1] at hIl l1;rw[← hn1];replace hn1:=ao hn1;replace hB:=hB.more hg;clear hg;refine hK.out _ _ (hB.get 0 (x:=⟨w.heap.size,KK,23⟩) rfl) (fun _=>?_)
 clear hK K;simp only[aq];refine ay (i:=5) aa rfl (fun K hK=>?_);rw[aj hKK];refine az aa 79 #[.agg (kc Ky),.slice a1 n1 c1,.int .i64 32] aa ((spread_ok Ky hKl (aj hKb) (infoL (tb t) ps) a1 n1 c1 32 (by omega) (by omega) _ ((aj hF).gr hB.gr) l1).mono ?_);rintro r y2 ⟨a2,rfl,l2,hfr,hg⟩;refine⟨_,rfl,?_⟩;rw[← aj hKK];replace hB:=hB.more hg;clear hg l1;refine hK.out _ _ (hB.get 0 (x:=⟨w.heap.size,KK,23⟩) rfl) (fun _=>?_);clear hK K;simp only[aq];refine ay (i:=6) aa rfl (fun K hK=>?_);obtain⟨D,hD⟩:∃ D,D=spL Ky (infoL (tb t) ps) 32:=⟨_,rfl⟩;have hDl:D.length=32:=by rw[hD]; exact bH _ _ _
 rw[← hD] at l2;replace hD:=ao hD;rw[if_pos aa];refine bu (.tmp 8) (.tmp 13) rfl (w.heap.size+1+1) 0 32 32 a2 32 32 aa aa (Z32.map (Value.int .u8)) 23 (hB.get 2 (x:=⟨w.heap.size+1+1,kc Z32,23⟩) rfl) D (by rw[hDl]; rfl) (by rcases l2.sl with h | ⟨p,o,h1,h2⟩; exact .inl h; exact .inr ⟨p,o,h1,h2⟩) (by rw[hDl]; decide) ?_;replace hB:=hB.copy 2 (Z:=Z32) (D:=D) rfl rfl hDl;simp only[ab] at hB;refine hK.out _ _ (hB.get 0 (x:=⟨w.heap.size,KK,23⟩) rfl) (fun _=>?_);clear hK K l2;generalize World.setCells _ _ _ _=y3 at *
 try simp only[aq]
 refine aF aa ?_;replace hB:=ao hB;go_upto_region 3 with fail;replace hB:=aj hB;refine ag ?_;refine ak (.agg (kc D)) aa (ax _ 23 (.tmp 7) rfl (w.heap.size+1+1) aa (kc D) 23 _ (hB.get 2 (x:=⟨w.heap.size+1+1,kc D,23⟩) rfl) Tryz.underlying23 rfl (by rw[Tryz.infoKey,au,hDl])) ?_;simp only[aq];refine aA 23 (.tmp 6) (.tmp 15) (w.heap.size+1) (kc D) 23 (kc Z32) aa rfl aa aa (hB.get 1 (x:=⟨w.heap.size+1,kc Z32,23⟩) rfl) (by rw[Tryz.infoKey,au,hDl]) ((show (kc Z32).size=32 from rfl).trans ((au _).trans hDl).symm) (aL _) ?_;replace hB:=hB.set 1 (x:=⟨w.heap.size+1,kc Z32,23⟩) rfl (kc D);simp only[ab] at hB;generalize World.setRow _ _ _=y4 at *;simp only[aq];refine ai ?_;go_wp2_with fail;rw[aj hT]
 exact bodyPost_ret (v:=.agg (kc D)) (results_cell_row Tryz.results33 _ _ (w.heap.size+1) 23 (kc D) (0,0) _ rfl (hB.get 1 (x:=⟨w.heap.size+1,kc D,23⟩) rfl) Tryz.underlying23 rfl (by rw[Tryz.infoKey,au,hDl])) rfl ⟨by rw[aj hD],hB.gr⟩
theorem two_ok (Ky:List Int) (hKl:Ky.length=32) (hKb:IsB Ky) (t:ByteArray) (ht:t.size≤1000) (ps:List (List Int)) (ap:Option Addr) (m cp:Nat) (hm:ps.length=m) (hp:small4 ps) (w:World) (hF:Fst w) (hP:Pr w ap ps) :
  Calls Tryz.prog 32 #[.agg (kc Ky),.string t,.slice ap m cp] w (Twod ((spL Ky (infoL (tb t) ps) 64).take 32) ((spL Ky (infoL (tb t) ps) 64).drop 32) w):=by
 obtain⟨T,hT⟩:∃ T,T=Twod ((spL Ky (infoL (tb t) ps) 64).take 32) ((spL Ky (infoL (tb t) ps) 64).drop 32) w:=⟨_,rfl⟩;rw[← hT];obtain⟨KK,hKK⟩:∃ KK,KK=kc Ky:=⟨_,rfl⟩;rw[← hKK];have hKs:KK.size=32:=by rw[hKK,au,hKl]
 have hIb:IsB (infoL (tb t) ps):=infoL_isB (tb_isB t) hP.isB;have hIl:(infoL (tb t) ps).length≤1004+4100 * ps.length:=infL_len (tb t) ps (by rw[tb_len]; exact ht) hp ps.length (Nat.le_refl _);have hm100:=hp.1;replace hT:=ao hT;replace hF:=ao hF;replace hP:=ao hP;replace hp:=ao hp;replace hm:=ao hm;replace hKK:=ao hKK;replace hKb:=ao hKb;replace hIb:=ao hIb;go_enter Tryz.func32,Tryz.ntmps32;go_upto_region 2 with fail
 have hB:=(((((Bl.nil w).new KK 23).new #[.int .u8 0,.int .u8 0,.int .u8 0,.int .u8 0,.int .u8 0,.int .u8 0,.int .u8 0,.int .u8 0,.int .u8 0,.int .u8 0,.int .u8 0,.int .u8 0,.int .u8 0,.int .u8 0,.int .u8 0,.int .u8 0,.int .u8 0,.int .u8 0,.int .u8 0,.int .u8 0,.int .u8 0,.int .u8 0,.int .u8 0,.int .u8 0,.int .u8 0,.int .u8 0,.int .u8 0,.int .u8 0,.int .u8 0,.int .u8 0,.int .u8 0,.int .u8 0] 23).new #[.int .u8 0,.int .u8 0,.int .u8 0,.int .u8 0,.int .u8 0,.int .u8 0,.int .u8 0,.int .u8 0,.int .u8 0,.int .u8 0,.int .u8 0,.int .u8 0,.int .u8 0,.int .u8 0,.int .u8 0,.int .u8 0,.int .u8 0,.int .u8 0,.int .u8 0,.int .u8 0,.int .u8 0,.int .u8 0,.int .u8 0,.int .u8 0,.int .u8 0,.int .u8 0,.int .u8 0,.int .u8 0,.int .u8 0,.int .u8 0,.int .u8 0,.int .u8 0] 23).new #[.int .u8 0,.int .u8 0,.int .u8 0,.int .u8 0,.int .u8 0,.int .u8 0,.int .u8 0,.int .u8 0,.int .u8 0,.int .u8 0,.int .u8 0,.int .u8 0,.int .u8 0,.int .u8 0,.int .u8 0,.int .u8 0,.int .u8 0,.int .u8 0,.int .u8 0,.int .u8 0,.int .u8 0,.int .u8 0,.int .u8 0,.int .u8 0,.int .u8 0,.int .u8 0,.int .u8 0,.int .u8 0,.int .u8 0,.int .u8 0,.int .u8 0,.int .u8 0] 23).new #[.int .u8 0,.int .u8 0,.int .u8 0,.int .u8 0,.int .u8 0,.int .u8 0,.int .u8 0,.int .u8 0,.int .u8 0,.int .u8 0,.int .u8 0,.int .u8 0,.int .u8 0,.int .u8 0,.int .u8 0,.int .u8 0,.int .u8 0,.int .u8 0,.int .u8 0,.int .u8 0,.int .u8 0,.int .u8 0,.int .u8 0,.int .u8 0,.int .u8 0,.int .u8 0,.int .u8 0,.int .u8 0,.int .u8 0,.int .u8 0,.int .u8 0,.int .u8 0] 23
 simp only[ac,aB] at hB;generalize World.alloc _ _=u1 at *;replace hB:Bl w [⟨w.heap.size,KK,23⟩,⟨w.heap.size+1,kc Z32,23⟩,⟨w.heap.size+1+1,kc Z32,23⟩,⟨w.heap.size+1+1+1,kc Z32,23⟩,⟨w.heap.size+1+1+1+1,kc Z32,23⟩] u1:=hB;refine aE (S:=fun v=>v.heap[w.heap.size]?=some (.cells KK 23 (0,0))) aa ?_;replace hB:=hB.drew;generalize World.drew _=u2 at *;simp only[ae,Array.replicate,List.replicate];refine ar (i:=0) (v:=(.agg KK)) #[false,false,false,false,false,false] rfl aa aa aa aa (fun _ _ _ h=>h) (.inl ⟨by kernel_rfl,fun x_ hu=>ax x_ 23 (.tmp 3) rfl w.heap.size aa KK 23 _ hu Tryz.underlying23 rfl (by rw[Tryz.infoKey,hKs])⟩) (hB.get 0 (x:=⟨w.heap.size,KK,23⟩) rfl) ?_;simp only[aq];refine ar (i:=1) (v:=(.string t)) #[true,false,false,false,false,false] rfl aa aa aa aa (fun _ _ _ h=>h) (.inl ⟨by kernel_rfl,fun x_ hu=>by kernel_rfl⟩) (hB.get 0 (x:=⟨w.heap.size,KK,23⟩) rfl) ?_;simp only[aq]
 refine ar (i:=2) (v:=(.slice ap m cp)) #[true,true,false,false,false,false] rfl aa aa aa aa (fun _ _ _ h=>h) (.inl ⟨by kernel_rfl,fun x_ hu=>by kernel_rfl⟩) (hB.get 0 (x:=⟨w.heap.size,KK,23⟩) rfl) ?_;simp only[aq];refine ay (i:=3) aa rfl (fun K hK=>?_);refine az aa 80 #[.string t,.slice ap m cp] aa ((infoOf_ok t ht ps ap m cp (aj hm) (aj hp) _ ((aj hP).gr hB.gr)).mono ?_);rintro r y1 ⟨v1,rfl,hO,hg⟩;refine⟨_,rfl,?_⟩;obtain⟨a1,c1,rfl,l1⟩:=hO.lb (aj hIb);clear hO;obtain⟨n1,hn1⟩:∃ n1,n1=(infoL (tb t) ps).length:=⟨_,rfl⟩;rw[← hn1] at hIl l1;rw[← hn1];replace hn1:=ao hn1;replace hB:=hB.more hg;clear hg;refine hK.out _ _ (hB.get 0 (x:=⟨w.heap.size,KK,23⟩) rfl) (fun _=>?_);clear hK K;simp only[aq];refine ay (i:=4) aa rfl (fun K hK=>?_);rw[aj hKK]
 refine az aa 79 #[.agg (kc Ky),.slice a1 n1 c1,.int .i64 64] aa ((spread_ok Ky hKl (aj hKb) (infoL (tb t) ps) a1 n1 c1 64 (by omega) (by omega) _ ((aj hF).gr hB.gr) l1).mono ?_);rintro r y2 ⟨a2,rfl,l2,hfr,hg⟩;refine⟨_,rfl,?_⟩;rw[← aj hKK];have hlt:=lt_of_block (hB.get 4 (x:=⟨w.heap.size+1+1+1+1,kc Z32,23⟩) rfl);dsimp only at hlt;have hfr2:∀ x,a2=some x→w.heap.size+1+1+1+1<x.block:=fun x hx=>by have:=hfr x hx; omega
 clear hlt hfr;replace hB:=hB.more hg;clear hg l1;refine hK.out _ _ (hB.get 0 (x:=⟨w.heap.size,KK,23⟩) rfl) (fun _=>?_);clear hK K;simp only[aq];refine ay (i:=5) aa rfl (fun K hK=>?_);replace hK:=ao hK;go_simp;refine(aj hK).out _ _ (hB.get 0 (x:=⟨w.heap.size,KK,23⟩) rfl) (fun _=>?_);clear hK K;refine aF aa ?_;obtain⟨E,hE⟩:∃ E,E=spL Ky (infoL (tb t) ps) 64:=⟨_,rfl⟩;have hEl:E.length=64:=by rw[hE]; exact bH _ _ _
 rw[← hE] at l2 hT;clear hE;have lD:=Sl.cutl l2 32 (by omega);have lE:=Sl.cutr l2 32 (by omega);obtain⟨D1,hD1⟩:∃ D,D=E.take 32:=⟨_,rfl⟩;obtain⟨D2,hD2⟩:∃ D,D=E.drop 32:=⟨_,rfl⟩;have hDl1:D1.length=32:=by rw[hD1,List.length_take,hEl]; rfl
 have hDl2:D2.length=32:=by rw[hD2,List.length_drop,hEl]
 rw[← hD1] at lD hT;rw[← hD2] at lE hT;have lD2:Sl y2 a2 D1:=lD.sl;obtain⟨a3,ha3⟩:∃ a3,a3=Option.map (fun x=>x.add 32) a2:=⟨_,rfl⟩;have lE2:Sl y2 a3 D2:=by
  have:=lE.sl;rw[if_neg (by omega)] at this;rw[ha3];exact this
 have hfr3:∀ x,a3=some x→w.heap.size+1+1+1+1<x.block:=by
  intro x hx;rw[ha3] at hx;cases ha2:a2 with
  | none=>rw[ha2] at hx; cases hx
  | some y =>
   rw[ha2] at hx;have h5:y.add 32=x:=by simpa using hx
   rw[← h5,add_block];exact hfr2 y ha2
 clear hD1 hD2 l2 lD lE;replace ha3:=ao ha3;replace lD2:=ao lD2;replace lE2:=ao lE2;replace hfr2:=ao hfr2;replace hfr3:=ao hfr3;replace hB:=ao hB;go_upto_region 3 with fail;replace hB:=aj hB;replace lD2:=aj lD2;replace lE2:=aj lE2;refine aE (S:=fun _=>True) aa ?_;replace hB:=hB.drew;replace lD2:=lD2.gr (Gr.refl _).drew;replace lE2:=lE2.gr (Gr.refl _).drew;generalize World.drew _=y2b at *;simp only[ae,Array.replicate,List.replicate];refine ar (i:=0) (v:=(.slice (some ⟨w.heap.size+1+1+1+1,0,none⟩) 32 32)) #[false,false,false,false,false,false,false] rfl aa aa aa aa (fun _ _ _ h=>h) (.inl ⟨by kernel_rfl,fun x_ hu=>by go_simp⟩) trivial ?_;simp only[aq];refine ar (i:=1) (v:=(.slice a2 64 64)) #[true,false,false,false,false,false,false] rfl aa aa aa aa (fun _ _ _ h=>h) (.inl ⟨by kernel_rfl,fun x_ hu=>by kernel_rfl⟩) trivial ?_;simp only[aq]
 refine ar (i:=2) (v:=(.slice (some ⟨w.heap.size+1+1+1,0,none⟩) 32 32)) #[true,true,false,false,false,false,false] rfl aa aa aa aa (fun _ _ _ h=>h) (.inl ⟨by kernel_rfl,fun x_ hu=>by go_simp⟩) trivial ?_;simp only[aq];refine ar (i:=3) (v:=(.slice a2 64 64)) #[true,true,true,false,false,false,false] rfl aa aa aa aa (fun _ _ _ h=>h) (.inl ⟨by kernel_rfl,fun x_ hu=>by kernel_rfl⟩) trivial ?_;simp only[aq];refine ay (i:=4) aa rfl (fun K hK=>?_);rw[if_pos aa];refine bu (.tmp 18) (.tmp 19) rfl (w.heap.size+1+1+1) 0 32 32 a2 64 64 aa aa (Z32.map (Value.int .u8)) 23 (hB.get 3 (x:=⟨w.heap.size+1+1+1,kc Z32,23⟩) rfl) D1 (by rw[hDl1]; rfl) (by rcases lD2 with h | ⟨p,o,h1,h2⟩; exact .inl h; exact .inr ⟨p,o,h1,h2⟩) (by rw[hDl1]; decide) ?_;replace lE2:=lE2.later (g:=w.heap.size+1+1+1) (D1.map (Value.int .u8)) (fun x hx=>by have:=(aj hfr3) x hx; omega)
 replace hB:=hB.copy 3 (Z:=Z32) (D:=D1) rfl rfl hDl1;simp only[ab] at hB;rw[hDl1];refine hK.out _ _ trivial (fun _=>?_);clear hK K lD2;generalize World.setCells _ _ _ _=y3 at *
 try simp only[aq]
 refine ar (i:=5) (v:=(.slice a3 32 32)) #[true,true,true,true,true,false,false] rfl aa aa aa aa (fun _ _ _ h=>h) (.inl ⟨by kernel_rfl,fun x_ hu=>by rw[aj ha3]; go_simp⟩) trivial ?_;simp only[aq];refine ay (i:=6) aa rfl (fun K hK=>?_);rw[if_pos aa];refine bu (.tmp 16) (.tmp 21) rfl (w.heap.size+1+1+1+1) 0 32 32 a3 32 32 aa aa (Z32.map (Value.int .u8)) 23 (hB.get 4 (x:=⟨w.heap.size+1+1+1+1,kc Z32,23⟩) rfl) D2 (by rw[hDl2]; rfl) (by rcases lE2 with h | ⟨p,o,h1,h2⟩; exact .inl h; exact .inr ⟨p,o,h1,h2⟩) (by rw[hDl2]; decide) ?_;replace hB:=hB.copy 4 (Z:=Z32) (D:=D2) rfl rfl hDl2;simp only[ab] at hB;refine hK.out _ _ trivial (fun _=>?_);clear hK K lE2;generalize World.setCells _ _ _ _=y4 at *
 try simp only[aq]
 refine aF aa ?_;replace hB:=ao hB;go_upto_region 4 with fail;replace hB:=aj hB;refine aE (S:=fun v=>v.heap[w.heap.size+1+1+1]?=some (.cells (kc D1) 23 (0,0))∧v.heap[w.heap.size+1+1+1+1]?=some (.cells (kc D2) 23 (0,0))) aa ?_;replace hB:=hB.drew;generalize World.drew _=y5 at *;simp only[ae,Array.replicate,List.replicate];refine ar (i:=0) (v:=(.agg (kc D1))) #[false,false,false,false] rfl aa aa aa aa (fun _ _ _ h=>h) (.inl ⟨by kernel_rfl,fun x_ hu=>ax x_ 23 (.tmp 8) rfl (w.heap.size+1+1+1) aa (kc D1) 23 _ hu.1 Tryz.underlying23 rfl (by rw[Tryz.infoKey,au,hDl1])⟩) ⟨hB.get 3 (x:=⟨w.heap.size+1+1+1,kc D1,23⟩) rfl,hB.get 4 (x:=⟨w.heap.size+1+1+1+1,kc D2,23⟩) rfl⟩ ?_;simp only[aq]
 refine ar (i:=1) (v:=(.agg (kc D2))) #[true,false,false,false] rfl aa aa aa aa (fun _ _ _ h=>h) (.inl ⟨by kernel_rfl,fun x_ hu=>ax x_ 23 (.tmp 9) rfl (w.heap.size+1+1+1+1) aa (kc D2) 23 _ hu.2 Tryz.underlying23 rfl (by rw[Tryz.infoKey,au,hDl2])⟩) ⟨hB.get 3 (x:=⟨w.heap.size+1+1+1,kc D1,23⟩) rfl,hB.get 4 (x:=⟨w.heap.size+1+1+1+1,kc D2,23⟩) rfl⟩ ?_;simp only[aq];refine ay (i:=2) aa rfl (fun K hK=>?_);rw[if_pos aa];refine wp_store_row 23 (.tmp 6) (.tmp 23) rfl (w.heap.size+1) (kc D1) aa aa 23 (kc Z32) (hB.get 1 (x:=⟨w.heap.size+1,kc Z32,23⟩) rfl) (by rw[Tryz.infoKey,au,hDl1]) ((show (kc Z32).size=32 from rfl).trans ((au _).trans hDl1).symm) (aL _) ?_;replace hB:=hB.set 1 (x:=⟨w.heap.size+1,kc Z32,23⟩) rfl (kc D1);simp only[ab] at hB;refine hK.out _ _ ⟨hB.get 3 (x:=⟨w.heap.size+1+1+1,kc D1,23⟩) rfl,hB.get 4 (x:=⟨w.heap.size+1+1+1+1,kc D2,23⟩) rfl⟩ (fun _=>?_);clear hK K
 generalize World.setRow _ _ _=z1 at *
 try simp only[aq]
 refine ay (i:=3) aa rfl (fun K hK=>?_);rw[if_pos aa];refine wp_store_row 23 (.tmp 7) (.tmp 24) rfl (w.heap.size+1+1) (kc D2) aa aa 23 (kc Z32) (hB.get 2 (x:=⟨w.heap.size+1+1,kc Z32,23⟩) rfl) (by rw[Tryz.infoKey,au,hDl2]) ((show (kc Z32).size=32 from rfl).trans ((au _).trans hDl2).symm) (aL _) ?_;replace hB:=hB.set 2 (x:=⟨w.heap.size+1+1,kc Z32,23⟩) rfl (kc D2);simp only[ab] at hB;refine hK.out _ _ ⟨hB.get 3 (x:=⟨w.heap.size+1+1+1,kc D1,23⟩) rfl,hB.get 4 (x:=⟨w.heap.size+1+1+1+1,kc D2,23⟩) rfl⟩ (fun _=>?_);clear hK K;generalize World.setRow _ _ _=z2 at *
 try simp only[aq]
 refine aF aa ?_;go_wp2_with fail;rw[aj hT];exact bodyPost_ret (v:=.tuple #[.agg (kc D1),.agg (kc D2)]) (results_two Tryz.results32 _ _ (w.heap.size+1) (w.heap.size+1+1) 23 23 (kc D1) (kc D2) (0,0) (0,0) _ rfl rfl (hB.get 1 (x:=⟨w.heap.size+1,kc D1,23⟩) rfl) (hB.get 2 (x:=⟨w.heap.size+1+1,kc D2,23⟩) rfl) Tryz.underlying23 rfl (by rw[Tryz.infoKey,au,hDl1]) (by rw[Tryz.infoKey,au,hDl2])) rfl ⟨rfl,hB.gr⟩
end Go.Proofs.YtbkkibhhfmgojaaGreatDoor
namespace Go.Proofs.YtbkkibhhfmgojaaGreatDoor
open Go.ChangeShapes Go.WideShapes Go.ChangeAt Go.RowKit
theorem Tryz.cellsK:Tryz.prog.cellsOf 23=32:=by kernel_rfl
end Go.Proofs.YtbkkibhhfmgojaaGreatDoor
namespace Go.Proofs.YtbkkibhhfmgojaaGreatDoor
open Go.RowKit
theorem Lb.cellAt {w:World} {a:Option Addr} {n c:Nat} {B:List Int} (h:Lb w a n c B) {k:Nat} (hk:k<n):∃ p o,a=some ⟨p,o,none⟩∧w.cell? ⟨p,o+k,none⟩=some (.int .u8 (B.getD k 0)):=by
 have hl:=h.len;rcases h.sl with h1 | ⟨p,o,h1,h2⟩
 ·rw[h1] at hl; simp at hl; omega
 ·exact⟨p,o,h1,h2 k (by omega)⟩
def Ov (b:Nat) (w:World) (v:Value) (xs:List Value):Prop:=w.ownsRow b 55 1 v xs.length xs

end Go.Proofs.YtbkkibhhfmgojaaGreatDoor
/-
 The document's labelled pair.
-/
namespace Go.Proofs.YtbkkibhhfmgojaaGreatDoor
open Go.RowKit

end Go.Proofs.YtbkkibhhfmgojaaGreatDoor
/-
 The steps of a chain.
-/
namespace Go.Proofs.YtbkkibhhfmgojaaGreatDoor
open Go.RowKit
theorem step_ok (Ky:List Int) (hKl:Ky.length=32) (hKb:IsB Ky) (w:World) (hF:Fst w) :
  Calls Tryz.prog 45 #[.agg (kc Ky)] w (Twod (bx Ky [2]) (bx Ky [1]) w):=by
 obtain⟨T,hT⟩:∃ T,T=Twod (bx Ky [2]) (bx Ky [1]) w:=⟨_,rfl⟩;rw[← hT];obtain⟨KK,hKK⟩:∃ KK,KK=kc Ky:=⟨_,rfl⟩;rw[← hKK];have hKs:KK.size=32:=by rw[hKK,au,hKl]
 replace hKK:=ao hKK;replace hKb:=ao hKb;replace hF:=ao hF;obtain⟨D1,hD1⟩:∃ D,D=bx Ky [2]:=⟨_,rfl⟩;obtain⟨D2,hD2⟩:∃ D,D=bx Ky [1]:=⟨_,rfl⟩;have hDl1:D1.length=32:=by rw[hD1]; exact bA _ _
 have hDl2:D2.length=32:=by rw[hD2]; exact bA _ _
 rw[← hD1,← hD2] at hT;replace hT:=ao hT;replace hD1:Hid (bx Ky ([[2]]:List (List Int)).flatten=D1):=hD1.symm;replace hD2:Hid (bx Ky ([[1]]:List (List Int)).flatten=D2):=hD2.symm;go_enter Tryz.func45,Tryz.ntmps45;go_upto_region 1 with fail
 have hB:=(((Bl.nil w).new KK 23).new #[.int .u8 0,.int .u8 0,.int .u8 0,.int .u8 0,.int .u8 0,.int .u8 0,.int .u8 0,.int .u8 0,.int .u8 0,.int .u8 0,.int .u8 0,.int .u8 0,.int .u8 0,.int .u8 0,.int .u8 0,.int .u8 0,.int .u8 0,.int .u8 0,.int .u8 0,.int .u8 0,.int .u8 0,.int .u8 0,.int .u8 0,.int .u8 0,.int .u8 0,.int .u8 0,.int .u8 0,.int .u8 0,.int .u8 0,.int .u8 0,.int .u8 0,.int .u8 0] 23).new #[.int .u8 0,.int .u8 0,.int .u8 0,.int .u8 0,.int .u8 0,.int .u8 0,.int .u8 0,.int .u8 0,.int .u8 0,.int .u8 0,.int .u8 0,.int .u8 0,.int .u8 0,.int .u8 0,.int .u8 0,.int .u8 0,.int .u8 0,.int .u8 0,.int .u8 0,.int .u8 0,.int .u8 0,.int .u8 0,.int .u8 0,.int .u8 0,.int .u8 0,.int .u8 0,.int .u8 0,.int .u8 0,.int .u8 0,.int .u8 0,.int .u8 0,.int .u8 0] 23;simp only[ac,aB] at hB;generalize World.alloc _ _=u1 at *
 replace hB:Bl w [⟨w.heap.size,KK,23⟩,⟨w.heap.size+1,kc Z32,23⟩,⟨w.heap.size+1+1,kc Z32,23⟩] u1:=hB;replace hB:=ao hB;refine ag ?_;iterate 1 (refine af fun K hK=>?_;go_simp;refine aj hK _ _ ?_;clear hK K)
 replace hB:=aj hB;refine aH (.slice (some ⟨u1.heap.size,0,none⟩) 1 1) (u1.alloc (.cells (kc [1]) 5 (0,0))) aa aa ?_;simp only[aq];have hg:=(Gr.refl u1).alloc (.cells (kc [1]) 5 (0,0));have l3:Lb (u1.alloc (.cells (kc [1]) 5 (0,0))) (some ⟨u1.heap.size,0,none⟩) 1 1 [1]:=⟨rfl,(by intro x hx; simp at hx; subst hx; omega),.inr ⟨_,0,rfl,bP (aS _ _)⟩,by omega,by omega⟩;replace hB:=hB.more hg;generalize World.alloc _ _=u1p at *;generalize u1.heap.size=g1 at *;clear hg;refine aH (.slice (some ⟨u1p.heap.size,0,none⟩) 1 1) (u1p.alloc (.cells #[.slice (some ⟨g1,0,none⟩) 1 1] 55 (0,0))) aa aa ?_;simp only[aq];have hg:=(Gr.refl u1p).alloc (.cells #[.slice (some ⟨g1,0,none⟩) 1 1] 55 (0,0));have hnew:=aS u1p (.cells #[.slice (some ⟨g1,0,none⟩) 1 1] 55 (0,0));replace hB:=hB.more hg;replace l3:=l3.gr hg;generalize World.alloc _ _=u1q at *;generalize u1p.heap.size=g2 at *;clear hg
 have hbk:u1q.heap[w.heap.size]?=some (.cells (kc Ky) 23 (0,0)):=by rw[← aj hKK]; exact hB.get 0 (x:=⟨w.heap.size,KK,23⟩) rfl
 refine av 90 #[.slice (some ⟨w.heap.size,0,none⟩) 32 32,.slice (some ⟨g2,0,none⟩) 1 1] aa aa ((hmac_ok Ky (aj hKb) 32 hKl (by omega) _ 32 (by omega) (by omega) [[1]] _ 1 1 rfl (by omega) (by simp) _ ((aj hF).gr hB.gr) (.inr ⟨_,0,rfl,bP hbk⟩) (Pr.one hnew l3)).mono ?_);rintro r u1r ⟨rfl,hg⟩;refine⟨_,rfl,?_⟩;rw[aj hD2];replace hB:=hB.more hg;clear hg hnew l3 hbk;simp only[aq];replace hB:=ao hB;iterate 1 (refine af fun K hK=>?_;go_simp;refine aj hK _ _ ?_;clear hK K)
 replace hB:=(aj hB).new #[.int .u8 0,.int .u8 0,.int .u8 0,.int .u8 0,.int .u8 0,.int .u8 0,.int .u8 0,.int .u8 0,.int .u8 0,.int .u8 0,.int .u8 0,.int .u8 0,.int .u8 0,.int .u8 0,.int .u8 0,.int .u8 0,.int .u8 0,.int .u8 0,.int .u8 0,.int .u8 0,.int .u8 0,.int .u8 0,.int .u8 0,.int .u8 0,.int .u8 0,.int .u8 0,.int .u8 0,.int .u8 0,.int .u8 0,.int .u8 0,.int .u8 0,.int .u8 0] 23;simp only[ac] at hB;generalize World.alloc _ _=u1s at *;generalize u1r.heap.size=h4 at *;replace hB:Bl w [⟨w.heap.size,KK,23⟩,⟨w.heap.size+1,kc Z32,23⟩,⟨w.heap.size+1+1,kc Z32,23⟩,⟨h4,kc Z32,23⟩] u1s:=hB;refine aA 23 (.tmp 4) (.tmp 9) h4 (kc D2) 23 (kc Z32) aa rfl aa aa (hB.get 3 (x:=⟨h4,kc Z32,23⟩) rfl) (by rw[Tryz.infoKey,au,hDl2]) ((show (kc Z32).size=32 from rfl).trans ((au _).trans hDl2).symm) (aL _) ?_;replace hB:=hB.set 3 (x:=⟨h4,kc Z32,23⟩) rfl (kc D2);simp only[ab] at hB
 generalize World.setRow _ _ _=u1t at *;simp only[aq];refine ai ?_;replace hB:=ao hB;go_upto_region 2 with fail;replace hB:=aj hB;replace hB:=ao hB;refine ag ?_;iterate 1 (refine af fun K hK=>?_;go_simp;refine aj hK _ _ ?_;clear hK K)
 replace hB:=aj hB;refine aH (.slice (some ⟨u1t.heap.size,0,none⟩) 1 1) (u1t.alloc (.cells (kc [2]) 5 (0,0))) aa aa ?_;simp only[aq];have hg:=(Gr.refl u1t).alloc (.cells (kc [2]) 5 (0,0));have l3:Lb (u1t.alloc (.cells (kc [2]) 5 (0,0))) (some ⟨u1t.heap.size,0,none⟩) 1 1 [2]:=⟨rfl,(by intro x hx; simp at hx; subst hx; omega),.inr ⟨_,0,rfl,bP (aS _ _)⟩,by omega,by omega⟩;replace hB:=hB.more hg;generalize World.alloc _ _=u1tp at *;generalize u1t.heap.size=g1 at *;clear hg;refine aH (.slice (some ⟨u1tp.heap.size,0,none⟩) 1 1) (u1tp.alloc (.cells #[.slice (some ⟨g1,0,none⟩) 1 1] 55 (0,0))) aa aa ?_;simp only[aq];have hg:=(Gr.refl u1tp).alloc (.cells #[.slice (some ⟨g1,0,none⟩) 1 1] 55 (0,0));have hnew:=aS u1tp (.cells #[.slice (some ⟨g1,0,none⟩) 1 1] 55 (0,0));replace hB:=hB.more hg;replace l3:=l3.gr hg;generalize World.alloc _ _=u1tq at *;generalize u1tp.heap.size=g2 at *;clear hg
 have hbk:u1tq.heap[w.heap.size]?=some (.cells (kc Ky) 23 (0,0)):=by rw[← aj hKK]; exact hB.get 0 (x:=⟨w.heap.size,KK,23⟩) rfl
 refine av 90 #[.slice (some ⟨w.heap.size,0,none⟩) 32 32,.slice (some ⟨g2,0,none⟩) 1 1] aa aa ((hmac_ok Ky (aj hKb) 32 hKl (by omega) _ 32 (by omega) (by omega) [[2]] _ 1 1 rfl (by omega) (by simp) _ ((aj hF).gr hB.gr) (.inr ⟨_,0,rfl,bP hbk⟩) (Pr.one hnew l3)).mono ?_);rintro r u1tr ⟨rfl,hg⟩;refine⟨_,rfl,?_⟩;rw[aj hD1];replace hB:=hB.more hg;clear hg hnew l3 hbk;simp only[aq];replace hB:=ao hB;iterate 1 (refine af fun K hK=>?_;go_simp;refine aj hK _ _ ?_;clear hK K)
 replace hB:=(aj hB).new #[.int .u8 0,.int .u8 0,.int .u8 0,.int .u8 0,.int .u8 0,.int .u8 0,.int .u8 0,.int .u8 0,.int .u8 0,.int .u8 0,.int .u8 0,.int .u8 0,.int .u8 0,.int .u8 0,.int .u8 0,.int .u8 0,.int .u8 0,.int .u8 0,.int .u8 0,.int .u8 0,.int .u8 0,.int .u8 0,.int .u8 0,.int .u8 0,.int .u8 0,.int .u8 0,.int .u8 0,.int .u8 0,.int .u8 0,.int .u8 0,.int .u8 0,.int .u8 0] 23;simp only[ac] at hB;generalize World.alloc _ _=u1ts at *;generalize u1tr.heap.size=h5 at *;replace hB:Bl w [⟨w.heap.size,KK,23⟩,⟨w.heap.size+1,kc Z32,23⟩,⟨w.heap.size+1+1,kc Z32,23⟩,⟨h4,kc D2,23⟩,⟨h5,kc Z32,23⟩] u1ts:=hB;refine aA 23 (.tmp 5) (.tmp 13) h5 (kc D1) 23 (kc Z32) aa rfl aa aa (hB.get 4 (x:=⟨h5,kc Z32,23⟩) rfl) (by rw[Tryz.infoKey,au,hDl1]) ((show (kc Z32).size=32 from rfl).trans ((au _).trans hDl1).symm) (aL _) ?_;replace hB:=hB.set 4 (x:=⟨h5,kc Z32,23⟩) rfl (kc D1);simp only[ab] at hB
 generalize World.setRow _ _ _=u1tt at *;simp only[aq];refine ai ?_;replace hB:=ao hB;go_upto_region 3 with fail;replace hB:=aj hB;refine aE (S:=fun v=>v.heap[h5]?=some (.cells (kc D1) 23 (0,0))∧v.heap[h4]?=some (.cells (kc D2) 23 (0,0))) aa ?_;replace hB:=hB.drew;generalize World.drew _=y5 at *;simp only[ae,Array.replicate,List.replicate];refine ar (i:=0) (v:=(.agg (kc D1))) #[false,false,false,false] rfl aa aa aa aa (fun _ _ _ h=>h) (.inl ⟨by kernel_rfl,fun x_ hu=>ax x_ 23 (.tmp 5) rfl (h5) aa (kc D1) 23 _ hu.1 Tryz.underlying23 rfl (by rw[Tryz.infoKey,au,hDl1])⟩) ⟨hB.get 4 (x:=⟨h5,kc D1,23⟩) rfl,hB.get 3 (x:=⟨h4,kc D2,23⟩) rfl⟩ ?_;simp only[aq]
 refine ar (i:=1) (v:=(.agg (kc D2))) #[true,false,false,false] rfl aa aa aa aa (fun _ _ _ h=>h) (.inl ⟨by kernel_rfl,fun x_ hu=>ax x_ 23 (.tmp 4) rfl (h4) aa (kc D2) 23 _ hu.2 Tryz.underlying23 rfl (by rw[Tryz.infoKey,au,hDl2])⟩) ⟨hB.get 4 (x:=⟨h5,kc D1,23⟩) rfl,hB.get 3 (x:=⟨h4,kc D2,23⟩) rfl⟩ ?_;simp only[aq];refine ay (i:=2) aa rfl (fun K hK=>?_);rw[if_pos aa];refine wp_store_row 23 (.tmp 2) (.tmp 14) rfl (w.heap.size+1) (kc D1) aa aa 23 (kc Z32) (hB.get 1 (x:=⟨w.heap.size+1,kc Z32,23⟩) rfl) (by rw[Tryz.infoKey,au,hDl1]) ((show (kc Z32).size=32 from rfl).trans ((au _).trans hDl1).symm) (aL _) ?_;replace hB:=hB.set 1 (x:=⟨w.heap.size+1,kc Z32,23⟩) rfl (kc D1);simp only[ab] at hB;refine hK.out _ _ ⟨hB.get 4 (x:=⟨h5,kc D1,23⟩) rfl,hB.get 3 (x:=⟨h4,kc D2,23⟩) rfl⟩ (fun _=>?_);clear hK K;generalize World.setRow _ _ _=z1 at *
 try simp only[aq]
 refine ay (i:=3) aa rfl (fun K hK=>?_);rw[if_pos aa];refine wp_store_row 23 (.tmp 3) (.tmp 15) rfl (w.heap.size+1+1) (kc D2) aa aa 23 (kc Z32) (hB.get 2 (x:=⟨w.heap.size+1+1,kc Z32,23⟩) rfl) (by rw[Tryz.infoKey,au,hDl2]) ((show (kc Z32).size=32 from rfl).trans ((au _).trans hDl2).symm) (aL _) ?_;replace hB:=hB.set 2 (x:=⟨w.heap.size+1+1,kc Z32,23⟩) rfl (kc D2);simp only[ab] at hB;refine hK.out _ _ ⟨hB.get 4 (x:=⟨h5,kc D1,23⟩) rfl,hB.get 3 (x:=⟨h4,kc D2,23⟩) rfl⟩ (fun _=>?_);clear hK K;generalize World.setRow _ _ _=z2 at *
 try simp only[aq]
 refine aF aa ?_;go_wp2_with fail;rw[aj hT];exact bodyPost_ret (v:=.tuple #[.agg (kc D1),.agg (kc D2)]) (results_two Tryz.results45 _ _ (w.heap.size+1) (w.heap.size+1+1) 23 23 (kc D1) (kc D2) (0,0) (0,0) _ rfl rfl (hB.get 1 (x:=⟨w.heap.size+1,kc D1,23⟩) rfl) (hB.get 2 (x:=⟨w.heap.size+1+1,kc D2,23⟩) rfl) Tryz.underlying23 rfl (by rw[Tryz.infoKey,au,hDl1]) (by rw[Tryz.infoKey,au,hDl2])) rfl ⟨rfl,hB.gr⟩
end Go.Proofs.YtbkkibhhfmgojaaGreatDoor
/-
 Two keys that are made while a region's chain goes on: they stay two.
-/
namespace Go.Proofs.YtbkkibhhfmgojaaGreatDoor
open Go.RowKit
section
variable {P:Program} {md:Region.Mode} {ops:Array Oper} {Q:Exit→Act→World→Prop} {S:World→Prop}
end
end Go.Proofs.YtbkkibhhfmgojaaGreatDoor
namespace Go.Proofs.YtbkkibhhfmgojaaGreatDoor
open Go.RowKit
theorem add_zero (p o:Nat):(⟨p,o,none⟩:Addr).add 0=⟨p,o,none⟩:=rfl
theorem add_some (p o k:Nat):(⟨p,o,none⟩:Addr).add k=⟨p,o+k,none⟩:=by
 rcases Nat.eq_zero_or_pos k with h0 | h0
 ·subst h0; rfl
 ·simp[Addr.add]; omega
theorem IsB.take {B:List Int} (h:IsB B) (n:Nat):IsB (B.take n):=fun x hx=>h x (List.mem_of_mem_take hx)
theorem IsB.drop {B:List Int} (h:IsB B) (n:Nat):IsB (B.drop n):=fun x hx=>h x (List.mem_of_mem_drop hx)
theorem Lb.upto {v:World} {s:Option Addr} {len cap:Nat} {B:List Int} (h:Lb v s len cap B) (n:Nat) (hn:n≤len):Lb v (if cap=0 then s else s.map (·.add 0)) n cap (B.take n):=by
 refine⟨by rw[List.length_take,h.len]; omega,h.isB.take n,?_,Nat.le_trans hn h.cap,h.max⟩;rcases h.sl with rfl | ⟨p,o,rfl,hat⟩
 ·exact .inl (by simp)
 ·refine .inr ⟨p,o,?_,fun j hj=>?_⟩
  ·split
   ·rfl
   ·rfl
  ·rw[List.length_take] at hj;rw[hat j (by omega)]
   congr 2
   rw[List.getD_eq_getElem?_getD,List.getD_eq_getElem?_getD,List.getElem?_take,if_pos (by omega)]
theorem Lb.rest {v:World} {s:Option Addr} {len cap:Nat} {B:List Int} (h:Lb v s len cap B) (n:Nat) (hn:n≤len):Lb v (if cap=n then s else s.map (·.add n)) (len - n) (cap - n) (B.drop n):=by
 have hc:=h.cap;have hl:=h.len;refine⟨by rw[List.length_drop,h.len],h.isB.drop n,?_,by omega,by have:=h.max; omega⟩;rcases h.sl with rfl | ⟨p,o,rfl,hat⟩
 ·exact .inl (by simp)
 ·by_cases hcn:cap=n
  ·exact .inl (List.drop_eq_nil_of_le (by omega))
  ·refine .inr ⟨p,o+n,by rw[if_neg hcn,Option.map_some,add_some],fun j hj=>?_⟩;rw[List.length_drop] at hj;rw[Nat.add_assoc,hat (n+j) (by omega)]
   congr 2
   rw[List.getD_eq_getElem?_getD,List.getD_eq_getElem?_getD,List.getElem?_drop]
theorem ob_of {w:World} {b g n:Nat} {X:List Int} (h:w.heap[g]?=some (.cells (kc X) 5 (0,0))) (hn:X.length=n) (hg:b≤g) (hb:n≤140737488351232):Ob b w (.slice (some ⟨g,0,none⟩) n n) X:=by
 subst hn;exact⟨by simp,.inr ⟨g,X.length,kc X,rfl,hg,h,Nat.le_refl _,by unfold maxLen; omega,by rw[au,Nat.mul_one],by unfold kc; rw[Nat.mul_one]; exact List.take_of_length_le (by simp)⟩⟩
theorem exec_upto {a:Act} {o:Oper} (w:World) (x y:Operand) (ho:o.op=.slice 55 x none (some y) none) (s:Option Addr) (len cap n:Nat) (hx:a.eval x=.slice s len cap) (hy:a.eval y=.int .i64 n) (hc:len≤cap) (hn:n≤len) :
  (execOp a.eval o).run Tryz.prog w=.ok (.value (.slice (if cap=0 then s else s.map (·.add 0)) n cap)) w:=by
 have h1:(0:Int)≤n:=by omega
 have h2:(n:Int)≤cap:=by omega
 have hu:Tryz.prog.underlying 55=some (.slice (Tryz.prog.elem 55)):=by kernel_rfl
 have hz:(sizeOf (Tryz.prog.elem 55)).run Tryz.prog w=.ok 1 w:=by kernel_rfl
 simp[execOp,ho,hx,hy,run_sliceAt_slice _ _ _ _ _ _ hu,run_slice_h _ _ _ _ _ hu _ _ h1 h2,hz,sliced]
theorem exec_from {a:Act} {o:Oper} (w:World) (x y:Operand) (ho:o.op=.slice 55 x (some y) none none) (s:Option Addr) (len cap n:Nat) (hx:a.eval x=.slice s len cap) (hy:a.eval y=.int .i64 n) (hc:len≤cap) (hn:n≤len) :
  (execOp a.eval o).run Tryz.prog w=.ok (.value (.slice (if cap=n then s else s.map (·.add n)) (len - n) (cap - n))) w:=by
 have h1:(0:Int)≤n:=by omega
 have h2:(n:Int)≤len:=by omega
 have hu:Tryz.prog.underlying 55=some (.slice (Tryz.prog.elem 55)):=by kernel_rfl
 have hz:(sizeOf (Tryz.prog.elem 55)).run Tryz.prog w=.ok 1 w:=by kernel_rfl
 simp[execOp,ho,hx,hy,run_sliceAt_slice _ _ _ _ _ _ hu,run_slice_l _ _ _ _ _ hu _ _ h1 h2,hz,sliced]
def nc (l:List Nat):List Value:=l.map (fun x:Nat=>Value.int .i64 (x:Int))
def V:List Nat→Nat
 | []=>0
 | x::l=>x+256 * V l
theorem V_append:∀ (a b:List Nat),V (a++b)=V a+256 ^ a.length * V b
 | [],b=>by simp[V]
 | x::a,b=>by
  rw[List.cons_append,V,V,V_append a b,List.length_cons,Nat.pow_succ,Nat.mul_add,← Nat.mul_assoc,Nat.mul_comm 256 (256 ^ a.length)];omega
theorem V_snoc (a:List Nat) (x:Nat):V (a++[x])=V a+256 ^ a.length * x:=by rw[V_append]; simp[V]
def nb (B:List Int):List Nat:=B.map Int.toNat
theorem nb_len (B:List Int):(nb B).length=B.length:=by simp[nb]
def P5:Nat:=2 ^ 130 - 5
theorem P5_eq:P5=1361129467683753853853498429727072845819:=by decide
theorem Tryz.infoT:(Tryz.prog.info? 159).map (·.size)=some 16:=by kernel_rfl
def cl (i:Nat) (x:Int):Int:=if i=3∨i=7∨i=11∨i=15 then x % 16 else if i=4∨i=8∨i=12 then x / 4 * 4 else x
def clf (K:List Int) (i:Nat):Int:=cl i (K.getD i 0)
def clL (K:List Int):List Int:=(List.range 16).map (clf K)
def ZT:List Int:=List.replicate 16 0
theorem clL_len (K:List Int):(clL K).length=16:=by simp[clL]
theorem cl_rng (i:Nat) (x:Int) (h:0≤x∧x<256):0≤cl i x∧cl i x<256:=by
 unfold cl;split
 ·omega
 ·split <;> omega
theorem clL_isB (K:List Int) (h:IsB K):IsB (clL K):=fun x hx=>by
 unfold clL at hx;obtain⟨i,_,rfl⟩:=List.mem_map.1 hx;exact cl_rng _ _ (h.at_ i)
def Tg (L:List Int) (w:World) (r:Ending) (w':World):Prop:=r=.returned (.agg (kc L))∧Gr w w'
def bN (B:List Int) (k:Nat):Nat:=V (nb ((B.drop (16 * k)).take 16)++[1])
def acN (r:Nat) (B:List Int):Nat→Nat
 | 0=>0
 | k+1=>(acN r B k+bN B k) * r % P5
def nk (n:Nat):Nat:=(n+15) / 16
def mcN (K B:List Int):Nat:=acN (V (nb (clL K))) B (nk B.length)+V (nb (K.drop 16))
def tgf (n i:Nat):Int:=((n / 256 ^ i % 256:Nat):Int)
def tgL (n:Nat):List Int:=(List.range 16).map (tgf n)
theorem tgL_len (n:Nat):(tgL n).length=16:=by simp[tgL]
def mcL (K B:List Int):List Int:=tgL (mcN K B)
def v5 (a b c d e:Int):Int:=a+b * 67108864+c * 4503599627370496+d * 302231454903657293676544+e * 20282409603651670423947251286016
def Dg (x:Int):Prop:=0≤x∧x<67108864
theorem dD (a:Int) (h:0≤a) (h2:a<18446744073709551616):bits .and .u64 a 67108863=a % 67108864:=by
 obtain⟨n,rfl⟩:=Int.eq_ofNat_of_zero_le h;have h3:=bits_and_u64_nat n 67108863 (by omega) (by omega);have e:n &&& 67108863=n % 67108864:=Nat.and_two_pow_sub_one_eq_mod n 26;rw[e] at h3;simpa using h3
theorem passed_val (a b c d e o o1 o2 o3 o4 o5:Int) (e1:(o+a) / 67108864=o1) (e2:(o1+b) / 67108864=o2) (e3:(o2+c) / 67108864=o3) (e4:(o3+d) / 67108864=o4) (e5:(o4+e) / 67108864=o5) :
  v5 ((o+a) % 67108864) ((o1+b) % 67108864) ((o2+c) % 67108864) ((o3+d) % 67108864) ((o4+e) % 67108864)+1361129467683753853853498429727072845824 * o5=v5 a b c d e+o:=by
 unfold v5;omega
def Psd (a b c d e o:Int) (w:World) (r:Ending) (w':World):Prop:=∃ y0 y1 y2 y3 y4 q,r=.returned (.tuple #[five y0 y1 y2 y3 y4,.int .u64 q])∧Dg y0∧Dg y1∧Dg y2∧Dg y3∧Dg y4∧0≤q∧v5 y0 y1 y2 y3 y4+1361129467683753853853498429727072845824 * q=v5 a b c d e+o∧Gr w w'
def Sm (x:Int):Prop:=0≤x∧x<4611686018427387904
theorem dr (a b c d e o:Int) (ha:Sm a) (hb:Sm b) (hc:Sm c) (hd:Sm d) (he:Sm e) (ho:Sm o) (w:World):Calls Tryz.prog 192 #[five a b c d e,.int .u64 o] w (Psd a b c d e o w):=by
 unfold Sm at ha hb hc hd he ho;have w1:=aC (o+a) (by omega) (by omega);have m1:=dD (o+a) (by omega) (by omega);generalize e1:(o+a) / 67108864=o1 at *;have w2:=aC (o1+b) (by omega) (by omega);have m2:=dD (o1+b) (by omega) (by omega);generalize e2:(o1+b) / 67108864=o2 at *;have w3:=aC (o2+c) (by omega) (by omega);have m3:=dD (o2+c) (by omega) (by omega);generalize e3:(o2+c) / 67108864=o3 at *;have w4:=aC (o3+d) (by omega) (by omega);have m4:=dD (o3+d) (by omega) (by omega);generalize e4:(o3+d) / 67108864=o4 at *;have w5:=aC (o4+e) (by omega) (by omega);have m5:=dD (o4+e) (by omega) (by omega);generalize e5:(o4+e) / 67108864=o5 at *;have fin:=passed_val a b c d e o o1 o2 o3 o4 o5 e1 e2 e3 e4 e5;have hq:0≤o5:=by omega
 replace fin:=ao fin;replace hq:=ao hq;replace ha:=ao ha; replace hb:=ao hb; replace hc:=ao hc; replace hd:=ao hd; replace he:=ao he; replace ho:=ao ho;obtain⟨T,hT⟩:∃ T,T=Psd a b c d e o w:=⟨_,rfl⟩;rw[← hT];replace hT:=ao hT;unfold five at *;go_enter Tryz.func192,Tryz.ntmps192;go_wp2_with fail;refine wp_loop_rounds 6 ?_;rw[rounds_succ];go_wp2_with fail;rw[rounds_succ];go_wp2_with fail;rw[rounds_succ];go_wp2_with fail;rw[rounds_succ];go_wp2_with fail;rw[rounds_succ];go_wp2_with fail;rw[rounds_succ];go_wp2_with fail;rw[aj hT];exact bodyPost_ret (v:=.tuple #[five ((o+a) % 67108864) ((o1+b) % 67108864) ((o2+c) % 67108864) ((o3+d) % 67108864) ((o4+e) % 67108864),.int .u64 o5]) (by simp[results,Tryz.results192,go_sem,five]) rfl
  ⟨_,_,_,_,_,_,rfl,by unfold Dg; omega,by unfold Dg; omega,by unfold Dg; omega,by unfold Dg; omega,by unfold Dg; omega,aj hq,aj fin,((Gr.refl w).alloc _).alloc _⟩
def Pls (a b c d e f g h i j:Int) (w:World) (r:Ending) (w':World):Prop:=r=.returned (five (a+f) (b+g) (c+h) (d+i) (e+j))∧Gr w w'
theorem plus_ok (a b c d e f g h i j:Int) (ha:Sm a) (hb:Sm b) (hc:Sm c) (hd:Sm d) (he:Sm e) (hf:Sm f) (hg:Sm g) (hh:Sm h) (hi:Sm i) (hj:Sm j) (w:World):Calls Tryz.prog 163 #[five a b c d e,five f g h i j] w (Pls a b c d e f g h i j w):=by
 unfold Sm at *;have w1:=aC (a+f) (by omega) (by omega);have w2:=aC (b+g) (by omega) (by omega);have w3:=aC (c+h) (by omega) (by omega);have w4:=aC (d+i) (by omega) (by omega);have w5:=aC (e+j) (by omega) (by omega);clear ha hb hc hd he hf hg hh hi hj;have i0:∀ w,(Instr.index 225 (five f g h i j) (.int .i64 0)).run Tryz.prog w=.ok (.int .u64 f) w:=fun _=>by kernel_rfl
 have i1:∀ w,(Instr.index 225 (five f g h i j) (.int .i64 1)).run Tryz.prog w=.ok (.int .u64 g) w:=fun _=>by kernel_rfl
 have i2:∀ w,(Instr.index 225 (five f g h i j) (.int .i64 2)).run Tryz.prog w=.ok (.int .u64 h) w:=fun _=>by kernel_rfl
 have i3:∀ w,(Instr.index 225 (five f g h i j) (.int .i64 3)).run Tryz.prog w=.ok (.int .u64 i) w:=fun _=>by kernel_rfl
 have i4:∀ w,(Instr.index 225 (five f g h i j) (.int .i64 4)).run Tryz.prog w=.ok (.int .u64 j) w:=fun _=>by kernel_rfl
 obtain⟨T,hT⟩:∃ T,T=Pls a b c d e f g h i j w:=⟨_,rfl⟩;rw[← hT];replace hT:=ao hT;unfold five at *;go_enter Tryz.func163,Tryz.ntmps163;go_wp2_with fail;refine wp_loop_rounds 6 ?_;rw[rounds_succ];go_wp2_with fail;rw[rounds_succ];go_wp2_with fail;rw[rounds_succ];go_wp2_with fail;rw[rounds_succ];go_wp2_with fail;rw[rounds_succ];go_wp2_with fail;rw[rounds_succ];go_wp2_with fail;rw[aj hT];exact bodyPost_ret (v:=five (a+f) (b+g) (c+h) (d+i) (e+j)) (by simp[results,Tryz.results163,go_sem,five]) rfl ⟨rfl,(((Gr.refl w).alloc _).alloc _).alloc _⟩
theorem Tryz.infoPL:(Tryz.prog.info? 225).map (·.size)=some 5:=by kernel_rfl
def fc (a b c d e:Int):Array Value:=#[.int .u64 a,.int .u64 b,.int .u64 c,.int .u64 d,.int .u64 e]
theorem cJ (a b c d e:Int):(fc a b c d e).all (·.oneCell')=true:=by unfold fc; simp[Value.oneCell']
theorem fc_set0 (a b c d e x:Int):(fc a b c d e).setIfInBounds 0 (.int .u64 x)=fc x b c d e:=rfl
theorem fc_set4 (a b c d e x:Int):(fc a b c d e).setIfInBounds 4 (.int .u64 x)=fc a b c d x:=rfl
def Car (n a b c d e:Int):Prop:=(0≤a∧a<67108869)∧Dg b∧Dg c∧Dg d∧Dg e∧v5 a b c d e<1361129467683753853853498429727072845824∧v5 a b c d e % 1361129467683753853853498429727072845819=n
def Crd (n:Int) (w:World) (r:Ending) (w':World):Prop:=∃ a b c d e,r=.returned (.agg (fc a b c d e))∧Car n a b c d e∧Gr w w'
def Mid (x:Int):Prop:=0≤x∧x<1152921504606846976
theorem carried_val (a b c d e y0 y1 y2 y3 y4 z0 z1 z2 z3 z4 o1 o2:Int) (ha:Mid a) (hb:Mid b) (hc:Mid c) (hd:Mid d) (he:Mid e) (hy0:Dg y0) (hy1:Dg y1) (hy2:Dg y2) (hy3:Dg y3) (hy4:Dg y4) (hz0:Dg z0) (hz1:Dg z1) (hz2:Dg z2) (hz3:Dg z3) (hz4:Dg z4)
  (h1:v5 y0 y1 y2 y3 y4+1361129467683753853853498429727072845824 * o1=v5 a b c d e+0) (h2:v5 z0 z1 z2 z3 z4+1361129467683753853853498429727072845824 * o2=v5 y0 y1 y2 y3 y4+o1 * 5) (ho1:0≤o1) (ho2:0≤o2) :
  Car (v5 a b c d e % 1361129467683753853853498429727072845819) (z0+o2 * 5) z1 z2 z3 z4∧o2≤1:=by
 unfold Dg at *;unfold Mid at *;have hv:v5 (z0+o2 * 5) z1 z2 z3 z4=v5 z0 z1 z2 z3 z4+o2 * 5:=by unfold v5; omega
 have b1:0≤v5 y0 y1 y2 y3 y4∧v5 y0 y1 y2 y3 y4<1361129467683753853853498429727072845824:=by unfold v5; omega
 have b2:0≤v5 z0 z1 z2 z3 z4∧v5 z0 z1 z2 z3 z4<1361129467683753853853498429727072845824:=by unfold v5; omega
 have b3:v5 a b c d e<1361129467683753853853498429727072845824 * 34359738368:=by unfold v5; omega
 have k1:o1<34359738369:=by omega
 have k2:o2≤1:=by omega
 refine⟨⟨by omega,hz1,hz2,hz3,hz4,?_,?_⟩,k2⟩
 ·rw[hv];omega
 ·rw[hv];omega
theorem carried_ok (a b c d e:Int) (ha:Mid a) (hb:Mid b) (hc:Mid c) (hd:Mid d) (he:Mid e) (w:World):Calls Tryz.prog 199 #[.agg (fc a b c d e)] w (Crd (v5 a b c d e % 1361129467683753853853498429727072845819) w):=by
 obtain⟨T,hT⟩:∃ T,T=Crd (v5 a b c d e % 1361129467683753853853498429727072845819) w:=⟨_,rfl⟩;rw[← hT];replace hT:=ao hT;obtain⟨SK,hSK⟩:∃ S,S=fc a b c d e:=⟨_,rfl⟩;rw[← hSK];replace hSK:=ao hSK;replace ha:=ao ha; replace hb:=ao hb; replace hc:=ao hc; replace hd:=ao hd; replace he:=ao he;go_enter Tryz.func199,Tryz.ntmps199;go_upto_region 1 with fail;have hB:=((Bl.nil w).new SK 225).new #[.int .u64 0,.int .u64 0,.int .u64 0,.int .u64 0,.int .u64 0] 225;simp only[aB,ac] at hB;generalize World.alloc _ _=u at *;rw[aj hSK] at hB;replace hB:Bl w [⟨w.heap.size,fc a b c d e,225⟩,⟨w.heap.size+1,fc 0 0 0 0 0,225⟩] u:=hB;refine ag ?_;refine ak (.agg (fc a b c d e)) aa (ax _ 225 (.tmp 1) rfl (w.heap.size) aa (fc a b c d e) 225 _ (hB.get 0 (x:=⟨w.heap.size,fc a b c d e,225⟩) rfl) Tryz.underlying225 rfl Tryz.infoPL) ?_;simp only[aq]
 refine av 192 #[.agg (fc a b c d e),.int .u64 0] aa aa ((dr a b c d e 0 (by have:=aj ha; unfold Mid at this; unfold Sm; omega) (by have:=aj hb; unfold Mid at this; unfold Sm; omega) (by have:=aj hc; unfold Mid at this; unfold Sm; omega) (by have:=aj hd; unfold Mid at this; unfold Sm; omega) (by have:=aj he; unfold Mid at this; unfold Sm; omega) (by unfold Sm; omega) _).mono ?_);rintro r u1 ⟨y0,y1,y2,y3,y4,o1,rfl,hy0,hy1,hy2,hy3,hy4,ho1,hv1,hg⟩;refine⟨_,rfl,?_⟩;replace hB:=hB.more hg;clear hg;simp only[aq];refine ak (.tuple #[.agg (fc y0 y1 y2 y3 y4),.int .u64 o1]) aa aa ?_;simp only[aq];refine ak (.agg (fc y0 y1 y2 y3 y4)) aa aa ?_;simp only[aq];refine ak (.int .u64 o1) aa aa ?_;simp only[aq];refine aA 225 (.tmp 1) (.tmp 7) (w.heap.size) (fc y0 y1 y2 y3 y4) 225 (fc a b c d e) aa rfl aa aa (hB.get 0 (x:=⟨w.heap.size,fc a b c d e,225⟩) rfl) Tryz.infoPL rfl (cJ _ _ _ _ _) ?_
 replace hB:=hB.set 0 (x:=⟨w.heap.size,fc a b c d e,225⟩) rfl (fc y0 y1 y2 y3 y4);simp only[ab] at hB;generalize World.setRow _ _ _=u2 at *;simp only[aq]
 (refine af fun K hK=>?_;go_simp;refine aj hK _ _ ?_;clear hK K)
 refine ai ?_;have k1:o1<34359738369:=by
  have b0:=aj ha; have b1:=aj hb; have b2:=aj hc; have b3:=aj hd; have b4:=aj he;unfold Mid at b0 b1 b2 b3 b4;unfold Dg at hy0 hy1 hy2 hy3 hy4;unfold v5 at hv1;omega
 have wr1:=aC (o1 * 5) (by omega) (by omega);replace hB:=ao hB; replace hv1:=ao hv1;replace ho1:=ao ho1; replace k1:=ao k1;go_upto_region 2 with fail;replace hB:=aj hB; replace hv1:=aj hv1;replace ho1:=aj ho1; replace k1:=aj k1;refine ag ?_;refine ak (.agg (fc y0 y1 y2 y3 y4)) aa (ax _ 225 (.tmp 1) rfl (w.heap.size) aa (fc y0 y1 y2 y3 y4) 225 _ (hB.get 0 (x:=⟨w.heap.size,fc y0 y1 y2 y3 y4,225⟩) rfl) Tryz.underlying225 rfl Tryz.infoPL) ?_;simp only[aq];refine ak (.int .u64 o1) aa aa ?_;simp only[aq];refine ak (.int .u64 (o1 * 5)) aa (by go_simp) ?_;simp only[aq]
 refine av 192 #[.agg (fc y0 y1 y2 y3 y4),.int .u64 (o1 * 5)] aa aa ((dr y0 y1 y2 y3 y4 (o1 * 5) (by have:=hy0; unfold Dg at this; unfold Sm; omega) (by have:=hy1; unfold Dg at this; unfold Sm; omega) (by have:=hy2; unfold Dg at this; unfold Sm; omega) (by have:=hy3; unfold Dg at this; unfold Sm; omega) (by have:=hy4; unfold Dg at this; unfold Sm; omega) (by unfold Sm; omega) _).mono ?_);rintro r u3 ⟨z0,z1,z2,z3,z4,o2,rfl,hz0,hz1,hz2,hz3,hz4,ho2,hv2,hg⟩;refine⟨_,rfl,?_⟩;replace hB:=hB.more hg;clear hg;simp only[aq];refine ak (.tuple #[.agg (fc z0 z1 z2 z3 z4),.int .u64 o2]) aa aa ?_;simp only[aq];refine ak (.agg (fc z0 z1 z2 z3 z4)) aa aa ?_;simp only[aq];refine ak (.int .u64 o2) aa aa ?_;simp only[aq]
 refine aA 225 (.tmp 1) (.tmp 14) (w.heap.size) (fc z0 z1 z2 z3 z4) 225 (fc y0 y1 y2 y3 y4) aa rfl aa aa (hB.get 0 (x:=⟨w.heap.size,fc y0 y1 y2 y3 y4,225⟩) rfl) Tryz.infoPL rfl (cJ _ _ _ _ _) ?_;replace hB:=hB.set 0 (x:=⟨w.heap.size,fc y0 y1 y2 y3 y4,225⟩) rfl (fc z0 z1 z2 z3 z4);simp only[ab] at hB;generalize World.setRow _ _ _=u4 at *;simp only[aq]
 (refine af fun K hK=>?_;go_simp;refine aj hK _ _ ?_;clear hK K)
 refine ai ?_;obtain⟨hcar,k2⟩:=carried_val a b c d e y0 y1 y2 y3 y4 z0 z1 z2 z3 z4 o1 o2 (aj ha) (aj hb) (aj hc) (aj hd) (aj he) hy0 hy1 hy2 hy3 hy4 hz0 hz1 hz2 hz3 hz4 hv1 hv2 ho1 ho2;have wr2:=aC (o2 * 5) (by omega) (by omega);have wr3:=aC (z0+o2 * 5) (by unfold Dg at hz0; omega) (by unfold Dg at hz0; omega);replace hB:=ao hB; replace hcar:=ao hcar;clear hv1 hv2 ho1 ho2 k1 k2 hy0 hy1 hy2 hy3 hy4 hz0 hz1 hz2 hz3 hz4 wr1;go_upto_region 3 with fail;replace hB:=aj hB;refine ag ?_;refine ak (.pointer (some ⟨w.heap.size,0,none⟩)) aa aa ?_;simp only[aq];refine ak (.int .u64 z0) aa (by have hc:World.cell? _ ⟨w.heap.size,0,none⟩=some (.int .u64 z0):=aw (hB.get 0 (x:=⟨w.heap.size,fc z0 z1 z2 z3 z4,225⟩) rfl) rfl; go_simp) ?_;simp only[aq];refine ak (.int .u64 o2) aa aa ?_;simp only[aq];refine ak (.int .u64 (o2 * 5)) aa (by go_simp) ?_;simp only[aq]
 refine ak (.int .u64 (z0+o2 * 5)) aa (by go_simp) ?_;simp only[aq];refine ak (.pointer (some ⟨w.heap.size,0,none⟩)) aa aa ?_;simp only[aq];have c4:World.cell? _ ⟨w.heap.size,0,none⟩=some (.int .u64 z0):=aw (hB.get 0 (x:=⟨w.heap.size,fc z0 z1 z2 z3 z4,225⟩) rfl) rfl;have fz:=aO (i:=0) (hB.get 0 (x:=⟨w.heap.size,fc z0 z1 z2 z3 z4,225⟩) rfl);have hB2:=hB.cell 0 (x:=⟨w.heap.size,fc z0 z1 z2 z3 z4,225⟩) rfl 0 (.int .u64 (z0+o2 * 5));simp only[ab,fc_set0] at hB2;clear hB;replace hB2:=ao hB2
 (refine af fun K hK=>?_;go_simp;refine aj hK _ _ ?_;clear hK K)
 clear c4 fz;refine ai ?_;generalize World.setCell _ _ _=u5 at *;go_upto_region 4 with fail;have hB:=aj hB2;clear hB2;refine ag ?_;refine ak (.agg (fc (z0+o2 * 5) z1 z2 z3 z4)) aa (ax _ 225 (.tmp 1) rfl (w.heap.size) aa (fc (z0+o2 * 5) z1 z2 z3 z4) 225 _ (hB.get 0 (x:=⟨w.heap.size,fc (z0+o2 * 5) z1 z2 z3 z4,225⟩) rfl) Tryz.underlying225 rfl Tryz.infoPL) ?_;simp only[aq];refine aA 225 (.tmp 2) (.tmp 22) (w.heap.size+1) (fc (z0+o2 * 5) z1 z2 z3 z4) 225 (fc 0 0 0 0 0) aa rfl aa aa (hB.get 1 (x:=⟨w.heap.size+1,fc 0 0 0 0 0,225⟩) rfl) Tryz.infoPL rfl (cJ _ _ _ _ _) ?_;replace hB:=hB.set 1 (x:=⟨w.heap.size+1,fc 0 0 0 0 0,225⟩) rfl (fc (z0+o2 * 5) z1 z2 z3 z4);simp only[ab] at hB;generalize World.setRow _ _ _=u6 at *;simp only[aq];refine ai ?_;replace hB:=ao hB;go_wp2_with fail;replace hB:=aj hB;rw[aj hT]
 exact bodyPost_ret (v:=.agg (fc (z0+o2 * 5) z1 z2 z3 z4)) (results_cell_row Tryz.results199 _ _ (w.heap.size+1) 225 (fc (z0+o2 * 5) z1 z2 z3 z4) (0,0) _ rfl (hB.get 1 (x:=⟨w.heap.size+1,fc (z0+o2 * 5) z1 z2 z3 z4,225⟩) rfl) Tryz.underlying225 rfl Tryz.infoPL) rfl (⟨_,_,_,_,_,rfl,aj hcar,hB.gr⟩)
def Lsd (n:Int) (w:World) (r:Ending) (w':World):Prop:=∃ a b c d e,r=.returned (.agg (fc a b c d e))∧Dg a∧Dg b∧Dg c∧Dg d∧Dg e∧v5 a b c d e=n∧Gr w w'
theorem least_num (n a b c d e y0 y1 y2 y3 y4 z0 z1 z2 z3 z4 o1 o2:Int) (hc:Car n a b c d e) (hy0:Dg y0) (hy1:Dg y1) (hy2:Dg y2) (hy3:Dg y3) (hy4:Dg y4) (hz0:Dg z0) (hz1:Dg z1) (hz2:Dg z2) (hz3:Dg z3) (hz4:Dg z4)
  (h1:v5 y0 y1 y2 y3 y4+1361129467683753853853498429727072845824 * o1=v5 a b c d e+5) (h2:v5 z0 z1 z2 z3 z4+1361129467683753853853498429727072845824 * o2=v5 a b c d e+o1 * 5) (ho1:0≤o1) (ho2:0≤o2):v5 z0 z1 z2 z3 z4=n:=by
 obtain⟨h3,h4,h5,h6,h7,h8,h9⟩:=hc;unfold Dg at *;have b0:0≤v5 a b c d e:=by unfold v5; omega
 have b1:0≤v5 y0 y1 y2 y3 y4∧v5 y0 y1 y2 y3 y4<1361129467683753853853498429727072845824:=by unfold v5; omega
 have b2:0≤v5 z0 z1 z2 z3 z4∧v5 z0 z1 z2 z3 z4<1361129467683753853853498429727072845824:=by unfold v5; omega
 generalize v5 a b c d e=x at *;generalize v5 y0 y1 y2 y3 y4=y at *;generalize v5 z0 z1 z2 z3 z4=z at *;have k1:o1=0∨o1=1:=by omega
 have k2:o2=0∨o2=1:=by omega
 clear hy0 hy1 hy2 hy3 hy4 hz0 hz1 hz2 hz3 hz4 h3 h4 h5 h6 h7;rcases k1 with rfl | rfl <;> rcases k2 with rfl | rfl <;> omega
theorem least_ok (n a b c d e:Int) (hn:Car n a b c d e) (w:World):Calls Tryz.prog 162 #[.agg (fc a b c d e)] w (Lsd n w):=by
 obtain⟨T,hT⟩:∃ T,T=Lsd n w:=⟨_,rfl⟩;rw[← hT];replace hT:=ao hT;obtain⟨SK,hSK⟩:∃ S,S=fc a b c d e:=⟨_,rfl⟩;rw[← hSK];replace hSK:=ao hSK;have hn2:=hn;obtain⟨ha,hb,hc,hd,he,-,-⟩:=hn2;replace hn:=ao hn;replace ha:=ao ha; replace hb:=ao hb; replace hc:=ao hc; replace hd:=ao hd; replace he:=ao he;go_enter Tryz.func162,Tryz.ntmps162;go_upto_region 1 with fail;have hB:=((Bl.nil w).new SK 225).new #[.int .u64 0,.int .u64 0,.int .u64 0,.int .u64 0,.int .u64 0] 225;simp only[aB,ac] at hB;generalize World.alloc _ _=u at *;rw[aj hSK] at hB;replace hB:Bl w [⟨w.heap.size,fc a b c d e,225⟩,⟨w.heap.size+1,fc 0 0 0 0 0,225⟩] u:=hB;refine ag ?_;refine ak (.agg (fc a b c d e)) aa (ax _ 225 (.tmp 1) rfl (w.heap.size) aa (fc a b c d e) 225 _ (hB.get 0 (x:=⟨w.heap.size,fc a b c d e,225⟩) rfl) Tryz.underlying225 rfl Tryz.infoPL) ?_;simp only[aq]
 refine av 192 #[.agg (fc a b c d e),.int .u64 5] aa aa ((dr a b c d e 5 (by have:=aj ha; unfold Sm; omega) (by have:=aj hb; unfold Dg at this; unfold Sm; omega) (by have:=aj hc; unfold Dg at this; unfold Sm; omega) (by have:=aj hd; unfold Dg at this; unfold Sm; omega) (by have:=aj he; unfold Dg at this; unfold Sm; omega) (by unfold Sm; omega) _).mono ?_);rintro r u1 ⟨y0,y1,y2,y3,y4,o1,rfl,hy0,hy1,hy2,hy3,hy4,ho1,hv1,hg⟩;refine⟨_,rfl,?_⟩;replace hB:=hB.more hg;clear hg;simp only[aq];refine ak (.tuple #[.agg (fc y0 y1 y2 y3 y4),.int .u64 o1]) aa aa ?_;simp only[aq];refine ak (.agg (fc y0 y1 y2 y3 y4)) aa aa ?_;simp only[aq];refine ak (.int .u64 o1) aa aa ?_;simp only[aq];replace hB:=ao hB
 (refine af fun K hK=>?_;go_simp;refine aj hK _ _ ?_;clear hK K)
 replace hB:=(aj hB).new #[.int .u64 0,.int .u64 0,.int .u64 0,.int .u64 0,.int .u64 0] 225;simp only[ac] at hB;generalize World.alloc _ _=u2 at *;generalize u1.heap.size=h5 at *;replace hB:Bl w [⟨w.heap.size,fc a b c d e,225⟩,⟨w.heap.size+1,fc 0 0 0 0 0,225⟩,⟨h5,fc 0 0 0 0 0,225⟩] u2:=hB;refine aA 225 (.tmp 3) (.tmp 8) (h5) (fc y0 y1 y2 y3 y4) 225 (fc 0 0 0 0 0) aa rfl aa aa (hB.get 2 (x:=⟨h5,fc 0 0 0 0 0,225⟩) rfl) Tryz.infoPL rfl (cJ _ _ _ _ _) ?_;replace hB:=hB.set 2 (x:=⟨h5,fc 0 0 0 0 0,225⟩) rfl (fc y0 y1 y2 y3 y4);simp only[ab] at hB;generalize World.setRow _ _ _=u3 at *;simp only[aq]
 (refine af fun K hK=>?_;go_simp;refine aj hK _ _ ?_;clear hK K)
 refine ai ?_;have k1:o1<3:=by
  have b0:=aj ha; have b1:=aj hb; have b2:=aj hc; have b3:=aj hd; have b4:=aj he;unfold Dg at hy0 hy1 hy2 hy3 hy4 b1 b2 b3 b4;unfold v5 at hv1;omega
 have wr1:=aC (o1 * 5) (by omega) (by omega);replace hB:=ao hB; replace hv1:=ao hv1;replace ho1:=ao ho1; replace k1:=ao k1;go_upto_region 2 with fail;replace hB:=aj hB; replace hv1:=aj hv1;replace ho1:=aj ho1; replace k1:=aj k1;refine ag ?_;refine ak (.agg (fc a b c d e)) aa (ax _ 225 (.tmp 1) rfl (w.heap.size) aa (fc a b c d e) 225 _ (hB.get 0 (x:=⟨w.heap.size,fc a b c d e,225⟩) rfl) Tryz.underlying225 rfl Tryz.infoPL) ?_;simp only[aq];refine ak (.int .u64 o1) aa aa ?_;simp only[aq];refine ak (.int .u64 (o1 * 5)) aa (by go_simp) ?_;simp only[aq]
 refine av 192 #[.agg (fc a b c d e),.int .u64 (o1 * 5)] aa aa ((dr a b c d e (o1 * 5) (by have:=aj ha; unfold Sm; omega) (by have:=aj hb; unfold Dg at this; unfold Sm; omega) (by have:=aj hc; unfold Dg at this; unfold Sm; omega) (by have:=aj hd; unfold Dg at this; unfold Sm; omega) (by have:=aj he; unfold Dg at this; unfold Sm; omega) (by unfold Sm; omega) _).mono ?_);rintro r u4 ⟨z0,z1,z2,z3,z4,o2,rfl,hz0,hz1,hz2,hz3,hz4,ho2,hv2,hg⟩;refine⟨_,rfl,?_⟩;replace hB:=hB.more hg;clear hg;simp only[aq];refine ak (.tuple #[.agg (fc z0 z1 z2 z3 z4),.int .u64 o2]) aa aa ?_;simp only[aq];refine ak (.agg (fc z0 z1 z2 z3 z4)) aa aa ?_;simp only[aq];refine ak (.int .u64 o2) aa aa ?_;simp only[aq];refine aA 225 (.tmp 1) (.tmp 15) (w.heap.size) (fc z0 z1 z2 z3 z4) 225 (fc a b c d e) aa rfl aa aa (hB.get 0 (x:=⟨w.heap.size,fc a b c d e,225⟩) rfl) Tryz.infoPL rfl (cJ _ _ _ _ _) ?_
 replace hB:=hB.set 0 (x:=⟨w.heap.size,fc a b c d e,225⟩) rfl (fc z0 z1 z2 z3 z4);simp only[ab] at hB;generalize World.setRow _ _ _=u5 at *;simp only[aq];refine ai ?_;have hfin:=ao (least_num n a b c d e y0 y1 y2 y3 y4 z0 z1 z2 z3 z4 o1 o2 (aj hn) hy0 hy1 hy2 hy3 hy4 hz0 hz1 hz2 hz3 hz4 hv1 hv2 ho1 ho2);replace hB:=ao hB;clear hv1 hv2 ho1 ho2 k1 wr1;go_upto_region 3 with fail;replace hB:=aj hB;refine ag ?_;refine ak (.agg (fc z0 z1 z2 z3 z4)) aa (ax _ 225 (.tmp 1) rfl (w.heap.size) aa (fc z0 z1 z2 z3 z4) 225 _ (hB.get 0 (x:=⟨w.heap.size,fc z0 z1 z2 z3 z4,225⟩) rfl) Tryz.underlying225 rfl Tryz.infoPL) ?_;simp only[aq];refine aA 225 (.tmp 2) (.tmp 17) (w.heap.size+1) (fc z0 z1 z2 z3 z4) 225 (fc 0 0 0 0 0) aa rfl aa aa (hB.get 1 (x:=⟨w.heap.size+1,fc 0 0 0 0 0,225⟩) rfl) Tryz.infoPL rfl (cJ _ _ _ _ _) ?_;replace hB:=hB.set 1 (x:=⟨w.heap.size+1,fc 0 0 0 0 0,225⟩) rfl (fc z0 z1 z2 z3 z4)
 simp only[ab] at hB;generalize World.setRow _ _ _=u6 at *;simp only[aq];refine ai ?_;replace hB:=ao hB;go_wp2_with fail;replace hB:=aj hB;rw[aj hT];exact bodyPost_ret (v:=.agg (fc z0 z1 z2 z3 z4)) (results_cell_row Tryz.results162 _ _ (w.heap.size+1) 225 (fc z0 z1 z2 z3 z4) (0,0) _ rfl (hB.get 1 (x:=⟨w.heap.size+1,fc z0 z1 z2 z3 z4,225⟩) rfl) Tryz.underlying225 rfl Tryz.infoPL) rfl (⟨_,_,_,_,_,rfl,hz0,hz1,hz2,hz3,hz4,aj hfin,hB.gr⟩)
end Go.Proofs.YtbkkibhhfmgojaaGreatDoor
