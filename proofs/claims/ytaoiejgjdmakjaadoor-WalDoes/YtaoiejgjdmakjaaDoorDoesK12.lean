/-
  Of layer 12: what the proof leans on.
-/
import Derived.ChangeSame
import Derived.Test.YtaoiejgjdmakjaaDoorDoesK11
namespace Go.Proofs.YtaoiejgjdmakjaaDoor
open Go.RowKit
set_option maxRecDepth 100000
set_option linter.unusedSimpArgs false
set_option linter.unusedVariables false
theorem Lg.parts9 {H : List Nat} {l gs : Nat} {L : List Int} {X : List (List Int)} {bk : Bool} {v : World} (k : Lg H l gs L X bk v) : ∃ sa sn sc xa xc, v.heap[l]? = some (.cells (lgv gs sa sn sc xa X.length xc bk) 69 (0, 0)) ∧ Lb v sa sn sc L ∧ sn ≤ 100000 ∧ Lq v xa X.length xc X := by
  obtain ⟨sa, sn, sc, xa, xc, vs, q⟩ := k.st
  have hl := q.lb k.li.1
  exact ⟨sa, sn, sc, xa, xc, q.cel, hl, by rw [← hl.len]; exact k.li.2, q.lq k.xi⟩
theorem lq_back2 {b : Nat} {w : World} {a : Option Addr} {n c : Nat} {X : List (List Int)} (h : Ox b w (.slice a n c) X) : Lq w a n c X := by
  obtain ⟨a9, c9, e9, h9⟩ := h.lq
  injection e9 with e1 e2 e3
  subst e1 e2 e3
  exact h9
noncomputable def rndC : Code := ((Tryd.f20.body).bind (fromReg 6)).getD .skip
set_option maxHeartbeats 4000000 in
theorem round12_ok {H : List Nat} {l gs : Nat} {L : List Int} {X : List (List Int)} {bk : Bool} (b : World) (k : Lg H l gs L X bk b) (h512 : X.length ≤ 512) (Q : Exit → Act → World → Prop) (d : List Deferred) (Bq : Nat) (ta : Option Addr) (xn tc : Nat) (hxn : xn = X.length) (ht : Lq b ta xn tc X) (hbq : b.heap[Bq]? = some (.cells #[.slice ta xn tc] 33 (0, 0))) (k1 k2 k3 k4 k6 k7 k8 k9 k10 k11 k12 k13 k14 k15 k16 k17 k18 k19 k20 k21 k22 k23 k24 k25 k26 k27 k28 k29 k30 k31 k32 k33 k34 k35 k36 k37 k38 k39 k40 k41 k42 k43 k44 k45 k46 k47 k48 k49 k50 k51 k52 k53 k54 k55 k56 k57 k58 k59 k60 k61 k62 k63 k64 k65 k66 k67 k68 k69 k70 k71 k72 k73 k74 k75 k76 k77 k78 k79 k80 k81 k82 k83 k84 k85 k86 k87 k88 k89 k90 k91 : Value) (hQ : ∀ (u8 u10 u11 u12 u13 u36 u37 u38 u39 u40 u41 u42 u43 u44 u45 u46 u47 u48 u49 u50 u51 u52 u53 u54 u55 u56 u57 u58 u59 u60 u61 u62 u85 u88 u89 u90 u91 : Value) (D1 D2 : Nat) (W : World), b.heap.size ≤ D1 → b.heap.size ≤ D2 → D1 ≠ D2 → W.heap[D1]? = some (.deferred (some [])) → W.heap[D2]? = some (.deferred (some [])) → Gr b W → Q .normal ⟨#[P0 l, k1, k2, k3, k4, P0 Bq, k6, k7, u8, k9, u10, u11, u12, u13, k14, k15, k16, k17, k18, k19, k20, k21, k22, k23, k24, k25, k26, k27, k28, k29, k30, k31, k32, k33, k34, k35, u36, u37, u38, u39, u40, u41, u42, u43, u44, u45, u46, u47, u48, u49, u50, u51, u52, u53, u54, u55, u56, u57, u58, u59, u60, u61, u62, k63, k64, k65, k66, k67, k68, k69, k70, k71, k72, k73, k74, k75, k76, k77, k78, k79, k80, k81, k82, k83, k84, u85, k86, k87, u88, u89, u90, u91], { target := .collected D2, args := #[] } :: { target := .collected D1, args := #[] } :: d⟩ W) : Code.wp Tryd.prog rndC Q ⟨#[P0 l, k1, k2, k3, k4, P0 Bq, k6, k7, k8, k9, k10, k11, k12, k13, k14, k15, k16, k17, k18, k19, k20, k21, k22, k23, k24, k25, k26, k27, k28, k29, k30, k31, k32, k33, k34, k35, k36, k37, k38, k39, k40, k41, k42, k43, k44, k45, k46, k47, k48, k49, k50, k51, k52, k53, k54, k55, k56, k57, k58, k59, k60, k61, k62, k63, k64, k65, k66, k67, k68, k69, k70, k71, k72, k73, k74, k75, k76, k77, k78, k79, k80, k81, k82, k83, k84, k85, k86, k87, k88, k89, k90, k91], d⟩ b := by
  conv => arg 2; whnf
  dsimp only
  have hXl : ∀ x ∈ X, x.length ≤ 100000 := fun x hx => (k.xi x hx).2
  obtain ⟨sa, sn, sc, xa, xc, hlc, -, -, hq⟩ := k.parts9
  rw [← hxn] at hlc hq h512
  replace hQ := hide hQ; replace ht := hide ht; replace hbq := hide hbq; replace hXl := hide hXl; replace hlc := hide hlc; replace hq := hide hq; replace hxn := hide hxn
  clear k
  go_upto_region 6 with fail
  refine wp_region_lit ?_
  refine list_val (.pointer (some ⟨l, 0, none⟩)) (by kernel_rfl) (by kernel_rfl) ?_
  simp only [nrm]
  refine list_call 28 #[P0 l] (by kernel_rfl) (by kernel_rfl) ((txs_ok l gs sa sn sc xa xn xc bk b (unhide hlc) X (unhide hXl) (by omega) (unhide hq)).mono ?_)
  rintro r w1 ⟨vx, rfl, hox, hG⟩
  obtain ⟨ga, gc, rfl, -⟩ := hox.lq
  rw [← unhide hxn] at hox ⊢
  replace hox := hide hox; replace hG := hide hG
  refine ⟨_, rfl, ?_⟩
  simp only [nrm]
  (refine wpList_step fun K hK => ?_; replace hK := hide hK; go_simp; refine unhide hK _ _ ?_; clear hK K)
  refine wpList_nil ?_
  go_upto_region 7 with fail
  rename_i K1_ hK1_ K0_ hK0_
  refine wp_region_lit ?_
  refine list_val (.slice ga xn gc) (by kernel_rfl) (by kernel_rfl) ?_
  simp only [nrm]
  refine list_val (.slice ta xn tc) (by kernel_rfl) (exec_sx _ (.tmp 5) rfl Bq 0 (by kernel_rfl) ta xn tc (cell_of ((unhide hG).blk (unhide hbq)) (i := 0) rfl)) ?_
  simp only [nrm]
  refine list_call 38 #[.slice ga xn gc, .slice ta xn tc] (by kernel_rfl) (by kernel_rfl) ((lists_ok X X ga ta xn gc xn tc w1 (lq_back2 (unhide hox)) ((unhide ht).gr (unhide hG)) (by omega)).mono ?_)
  rintro r w2 ⟨rfl, hg⟩
  refine ⟨_, rfl, ?_⟩
  rw [decide_eq_true rfl]
  replace hox := hide ((unhide hox).gr hg); replace hG := hide ((unhide hG).trans hg)
  clear hg
  simp only [nrm]
  refine list_val (.bool false) (by kernel_rfl) (by kernel_rfl) ?_
  simp only [nrm]
  refine wpList_nil ?_
  refine hK0_ _ _ ?_
  refine wp_cond_false rfl ?_
  refine wp_skip ?_
  show K1_ _ _
  refine hK1_ _ _ ?_
  clear hK1_ hK0_ K1_ K0_
  refine wp_seq ?_
  refine wp_code_eq (c := eeC) (by kernel_rfl) ?_
  refine ee_ok b _ d ga xn gc w2 (unhide hG) (unhide hox).gt (by omega) _ _ _ _ _ _ _ _ _ _ _ _ _ _ _ _ _ _ _ _ _ _ _ _ _ _ _ _ _ _ _ _ _ _ _ _ _ _ _ _ _ _ _ _ _ _ _ _ _ _ _ _ _ _ _ _ _ _ _ _ _ _ _ _ _ _ _ _ _ _ _ _ _ _ _ _ _ _ _ _ _ _ _ _ _ _ _ _ _ _ _ ?_
  clear hG hox
  intro e10 e11 e42 e43 e44 e45 e46 e47 e48 e49 e50 e51 e52 e53 e54 e55 e56 e57 w3 hG
  replace hG := hide hG
  show Code.wp _ _ _ _ _
  go_upto_region 18 with fail
  refine wp_region_lit ?_
  refine list_val (.pointer (some ⟨l, 0, none⟩)) (by kernel_rfl) (by kernel_rfl) ?_
  simp only [nrm]
  refine list_call 26 #[P0 l] (by kernel_rfl) (by kernel_rfl) ((lall_ok l gs sa sn sc xa xn xc bk w3 ((unhide hG).blk (unhide hlc))).mono ?_)
  rintro r w4 ⟨Bx, rfl, hb1⟩
  replace hG := hide ((unhide hG).trans hb1.gr)
  have hbx := hide (hb1.get 0 (x := ⟨Bx, #[.slice xa xn xc], 33⟩) rfl)
  clear hb1
  refine ⟨_, rfl, ?_⟩
  simp only [nrm]
  (refine wpList_step fun K hK => ?_; replace hK := hide hK; go_simp; refine unhide hK _ _ ?_; clear hK K)
  refine wpList_nil ?_
  go_upto_region 19 with fail
  refine wp_region_lit ?_
  refine list_val (.func (.func 47) #[] #[.pointer (some ⟨Bx, 0, none⟩)]) (by kernel_rfl) (by kernel_rfl) ?_
  simp only [nrm]
  refine list_val (.bool false) (by kernel_rfl) (by kernel_rfl) ?_
  simp only [nrm]
  refine wpList_nil ?_
  go_upto_region 21 with fail
  rename_i K0_ hK0_
  have hB := Bl.nil w4
  refine wp_region_lit ?_
  refine list_valw (.pointer (some ⟨w4.heap.size, 0, none⟩)) (w4.alloc (.cells (#[.int .i64 0]) 3 (0, 0))) (by kernel_rfl) (by kernel_rfl) ?_
  replace hB := hB.new (#[.int .i64 0]) 3
  simp only [List.nil_append, List.cons_append] at hB
  generalize World.alloc _ _ = w5 at *
  generalize w4.heap.size = gn at *
  replace hB : Bl w4 [⟨gn, #[.int .i64 0], 3⟩] w5 := hB
  simp only [nrm]
  have hbn := hB.get 0 (x := ⟨gn, #[.int .i64 0], 3⟩) rfl
  have hgn := hB.own 0 (x := ⟨gn, #[.int .i64 0], 3⟩) rfl
  have hgr := hB.gr
  clear hB
  have c4 := cell_of hbn (i := 0) rfl
  have fz := froz_of (i := 0) hbn
  have hbn6 := hide (own_cell (v' := .int .i64 0) hbn)
  have hbt := Bt.setCell (g := gn) w5 0 (.int .i64 0)
  have hg4 : Gr w4 _ := hbt.gr hgr hgn
  have hsz4 := (unhide hG).size
  replace hbx := hide (hg4.blk (unhide hbx)); replace hG := hide ((unhide hG).trans hg4)
  clear hbn hbt hgr hg4
  (refine wpList_step fun K hK => ?_; replace hK := hide hK; go_simp; refine unhide hK _ _ ?_; clear hK K)
  clear c4 fz
  generalize World.setCell _ _ _ = w6 at *
  have hgn2 : b.heap.size ≤ gn := Nat.le_trans hsz4 hgn
  clear hgn
  refine wpList_nil ?_
  refine hK0_ _ _ ?_
  clear hK0_ K0_
  refine wp_seq ?_
  refine wp_code_eq (c := rg1C) (by kernel_rfl) ?_
  refine rg1_ok b _ d Bx gn Bq xa ta xn xc tc X (unhide hXl) (by omega) w6 (unhide hG) (unhide hq) (unhide ht) (unhide hbq) (unhide hbx) (unhide hbn6) hgn2 _ _ _ _ _ _ _ _ _ _ _ _ _ _ _ _ _ _ _ _ _ _ _ _ _ _ _ _ _ _ _ _ _ _ _ _ _ _ _ _ _ _ _ _ _ _ _ _ _ _ _ _ _ _ _ _ _ _ _ _ _ _ _ _ _ _ _ _ _ _ _ _ _ _ _ _ _ _ _ _ _ _ _ _ _ _ _ _ _ ?_
  clear hG hbx hbn6
  intro e62 D1 w7 hD1 hd1 hG hbx hbn
  replace hG := hide hG; replace hbn := hide hbn; replace hd1 := hide hd1
  show Code.wp _ _ _ _ _
  refine wp_seq ?_
  refine wp_code_eq (c := rg2C) (by kernel_rfl) ?_
  refine rg2_ok w7 _ _ Bx xa xn xc X (unhide hXl) (by omega) ((unhide hq).gr (unhide hG)) hbx _ _ _ _ _ _ _ _ _ _ _ _ _ _ _ _ _ _ _ _ _ _ _ _ _ _ _ _ _ _ _ _ _ _ _ _ _ _ _ _ _ _ _ _ _ _ _ _ _ _ _ _ _ _ _ _ _ _ _ _ _ _ _ _ _ _ _ _ _ _ _ _ _ _ _ _ _ _ _ _ _ _ _ _ _ _ _ _ _ _ _ ?_
  intro e85 D2 w8 hD2 hd2 hg8
  have hne : D1 ≠ D2 := fun e => by have := lt_of_block (unhide hd1); omega
  have hD2b : b.heap.size ≤ D2 := Nat.le_trans (unhide hG).size hD2
  replace hd1 := hide (hg8.blk (unhide hd1)); replace hbn := hide (hg8.blk (unhide hbn)); replace hG := hide ((unhide hG).trans hg8); replace hd2 := hide hd2
  clear hg8 hbx hD2
  show Code.wp _ _ _ _ _
  go_upto_region 29 with fail
  rename_i K0_ hK0_
  refine wp_region_lit ?_
  refine list_val (.int .i64 (xn : Int)) (by kernel_rfl) (exec_i64c _ (.tmp 13) rfl gn 0 (by kernel_rfl) (xn : Int) (cell_of (unhide hbn) (i := 0) rfl)) ?_
  simp only [nrm]
  refine list_val (.slice ta xn tc) (by kernel_rfl) (exec_sx _ (.tmp 5) rfl Bq 0 (by kernel_rfl) ta xn tc (cell_of ((unhide hG).blk (unhide hbq)) (i := 0) rfl)) ?_
  simp only [nrm]
  refine list_val (.int .i64 xn) (by kernel_rfl) (by kernel_rfl) ?_
  simp only [nrm]
  refine list_val (.bool false) (by kernel_rfl) (by go_simp) ?_
  simp only [nrm]
  refine wpList_nil ?_
  refine hK0_ _ _ ?_
  refine wp_cond_false rfl ?_
  refine wp_skip ?_
  exact unhide hQ _ _ _ _ _ _ _ _ _ _ _ _ _ _ _ _ _ _ _ _ _ _ _ _ _ _ _ _ _ _ _ _ _ _ _ _ _ D1 D2 _ hD1 hD2b hne (unhide hd1) (unhide hd2) (unhide hG)
theorem results_cellb9 {fn : Func} {p : Tmp} (h : fn.results = #[.cell p 4]) (tm : Array Value) (w : World) (g : Nat) (v : Bool) (hp : tm.getD p undef = .pointer (some ⟨g, 0, none⟩)) (hc : w.cell? ⟨g, 0, none⟩ = some (.bool v)) : (results fn tm).run Tryd.prog w = .ok (.bool v) w := by
  have hp2 : tm[p]?.getD undef = .pointer (some ⟨g, 0, none⟩) := by rw [← Array.getD_eq_getD_getElem?]; exact hp
  simp only [results, h]
  go_simp
theorem postM_ret4 {P : Program} {fn : Func} {R : Ending → World → Prop} {tm : Array Value} {W : World} {v : Value} {A B C D : Nat} (hA : W.heap[A]? = some (.deferred (some []))) (hB : W.heap[B]? = some (.deferred (some []))) (hC : W.heap[C]? = some (.deferred (some []))) (hD : W.heap[D]? = some (.deferred (some []))) (n1 : C ≠ D) (n2 : B ≠ D) (n3 : A ≠ D) (n4 : B ≠ C) (n5 : A ≠ C) (n6 : A ≠ B)
    (hR : ∀ W', W' = (((W.putObj D (.deferred none)).putObj C (.deferred none)).putObj B (.deferred none)).putObj A (.deferred none) → (results fn tm).run P W' = .ok v W' ∧ R (.returned v) W') : npost (bodyPostM Fence.wide 9 P fn R) .ret { tmps := tm, defers := [{ target := .collected D, args := #[] }, { target := .collected C, args := #[] }, { target := .collected B, args := #[] }, { target := .collected A, args := #[] }] } W := by
  have q1 : (W.putObj D (.deferred none)).heap[C]? = some (.deferred (some [])) := by rw [(put_bt W D _).block C (lt_of_block hC) n1]; exact hC
  have q2 : (W.putObj D (.deferred none)).heap[B]? = some (.deferred (some [])) := by rw [(put_bt W D _).block B (lt_of_block hB) n2]; exact hB
  have q3 : (W.putObj D (.deferred none)).heap[A]? = some (.deferred (some [])) := by rw [(put_bt W D _).block A (lt_of_block hA) n3]; exact hA
  have q4 : ((W.putObj D (.deferred none)).putObj C (.deferred none)).heap[B]? = some (.deferred (some [])) := by rw [(put_bt _ C _).block B (lt_of_block q2) n4]; exact q2
  have q5 : ((W.putObj D (.deferred none)).putObj C (.deferred none)).heap[A]? = some (.deferred (some [])) := by rw [(put_bt _ C _).block A (lt_of_block q3) n5]; exact q3
  have q6 : (((W.putObj D (.deferred none)).putObj C (.deferred none)).putObj B (.deferred none)).heap[A]? = some (.deferred (some [])) := by rw [(put_bt _ B _).block A (lt_of_block q5) n6]; exact q5
  obtain ⟨r1, r2⟩ := hR _ rfl
  exact ⟨by simp, .inl ⟨D, _, rfl, run_takeDeferred hD, by simp, .inl ⟨C, _, rfl, run_takeDeferred q1, by simp, .inl ⟨B, _, rfl, run_takeDeferred q4, by simp, .inl ⟨A, _, rfl, run_takeDeferred q6, v, r1, r2⟩⟩⟩⟩⟩
theorem snap9 {H : List Nat} {l gs : Nat} {L : List Int} {X : List (List Int)} {bk : Bool} {v : World} (k : Lg H l gs L X bk v) : Calls Tryd.prog 27 #[P0 l] v (Infd L v) := by
  obtain ⟨sa, sn, sc, xa, xc, h1, h2, h3, h4⟩ := k.parts9
  exact lsnap_ok l gs sa sn sc xa X.length xc bk v h1 L h2 h3
theorem used9 {H : List Nat} {l gs : Nat} {L : List Int} {X : List (List Int)} {bk : Bool} {v : World} (k : Lg H l gs L X bk v) (h512 : X.length ≤ 512) (hus : usd X ≤ 512) : Calls Tryd.prog 24 #[P0 l] v (Vl (.int .i64 ((usd X : Nat) : Int)) v) := by
  obtain ⟨sa, sn, sc, xa, xc, h1, h2, h3, h4⟩ := k.parts9
  exact lused_ok l gs sa sn sc xa X.length xc bk v h1 X h4 (by omega) (by omega)
set_option maxHeartbeats 4000000 in
theorem tells12_ok {H : List Nat} {l gs : Nat} {L : List Int} {X : List (List Int)} {bk : Bool} (w : World) (k : Lg H l gs L X bk w) (h512 : X.length ≤ 512) (hus : usd X ≤ 512) (sa ta : Option Addr) (sn sc xn tc : Nat) (hs : Lb w sa sn sc L) (ht : Lq w ta xn tc X) : Calls Tryd.prog 20 #[P0 l, .slice sa sn sc, .slice ta xn tc] w (Vl (.bool true) w) := by
  obtain ⟨T, hT⟩ : ∃ T, T = Vl (.bool true) w := ⟨_, rfl⟩
  rw [← hT]
  replace hT := hide hT
  have hxn : xn = X.length := ht.len.symm
  have hLb := k.li.1
  obtain ⟨ux, hux⟩ : ∃ n, n = usd X := ⟨_, rfl⟩
  have hX := hide k
  replace hs := hide hs; replace ht := hide ht; replace hxn := hide hxn; replace hLb := hide hLb; replace hux := hide hux
  clear k
  refine calls_range Tryd.func20 rfl ?_
  simp only [Tryd.ntmps20, List.size_toArray, List.length_cons, List.length_nil, Nat.reduceAdd, Nat.reduceSub, Array.replicate_succ, Array.replicate_zero, List.push_toArray, List.append_toArray, List.nil_append, List.cons_append]
  go_upto_region 1 with fail
  have hB := (((Bl.nil w).new #[.slice ta xn tc] 33).new #[.bool false] 4)
  simp only [size_alloc, List.nil_append, List.cons_append] at hB
  generalize World.alloc _ _ = u at *
  replace hB : Bl w [⟨w.heap.size, #[.slice ta xn tc], 33⟩, ⟨w.heap.size + 1, #[.bool false], 4⟩] u := hB
  replace hX := hide ((unhide hX).gr hB.gr)
  replace hs := hide ((unhide hs).gr hB.gr)
  have ht1 := hide ((unhide ht).gr hB.gr)
  rename_i K1_ hK1_ K0_ hK0_
  refine any_start (S := fun (v : World) => v.heap[w.heap.size]? = some (.cells #[.slice ta xn tc] 33 (0, 0))) (by kernel_rfl) ?_
  replace hX := hide ((unhide hX).gr (Gr.refl _).drew); replace hs := hide ((unhide hs).gr (Gr.refl _).drew); replace ht1 := hide ((unhide ht1).gr (Gr.refl _).drew); replace hB := hB.more (Gr.refl _).drew
  have hS : (fun (v : World) => v.heap[w.heap.size]? = some (.cells #[.slice ta xn tc] 33 (0, 0))) (World.drew _) := (hB.get 0 (x := ⟨w.heap.size, #[.slice ta xn tc], 33⟩) rfl)
  generalize World.drew _ = x1 at *
  simp only [List.size_toArray, List.length_cons, List.length_nil, Array.replicate, List.replicate]
  refine any_take (i := 0) (v := (.pointer (some ⟨l, 0, none⟩))) #[false, false, false, false, false, false, false, false, false, false, false, false, false, false, false, false] rfl (by kernel_rfl) (by kernel_rfl) (by kernel_rfl) (by kernel_rfl) (fun _ _ _ h => h) (.inl ⟨by kernel_rfl, fun x_ hu => by kernel_rfl⟩) hS ?_
  simp only [nrm]
  refine any_take (i := 1) (v := (.bool false)) #[true, false, false, false, false, false, false, false, false, false, false, false, false, false, false, false] rfl (by kernel_rfl) (by kernel_rfl) (by kernel_rfl) (by kernel_rfl) (fun _ _ _ h => h) (.inl ⟨by kernel_rfl, fun x_ hu => by kernel_rfl⟩) hS ?_
  simp only [nrm]
  refine any_take (i := 2) (v := (.bool false)) #[true, true, false, false, false, false, false, false, false, false, false, false, false, false, false, false] rfl (by kernel_rfl) (by kernel_rfl) (by kernel_rfl) (by kernel_rfl) (fun _ _ _ h => h) (.inl ⟨by kernel_rfl, fun x_ hu => by kernel_rfl⟩) hS ?_
  simp only [nrm]
  refine any_take (i := 3) (v := (.pointer (some ⟨l, 0, none⟩))) #[true, true, true, false, false, false, false, false, false, false, false, false, false, false, false, false] rfl (by kernel_rfl) (by kernel_rfl) (by kernel_rfl) (by kernel_rfl) (fun _ _ _ h => h) (.inl ⟨by kernel_rfl, fun x_ hu => by kernel_rfl⟩) hS ?_
  simp only [nrm]
  refine any_take (i := 5) (v := (.slice sa sn sc)) #[true, true, true, true, false, false, false, false, false, false, false, false, false, false, false, false] rfl (by kernel_rfl) (by kernel_rfl) (by kernel_rfl) (by kernel_rfl) (fun _ _ _ h => h) (.inl ⟨by kernel_rfl, fun x_ hu => by kernel_rfl⟩) hS ?_
  simp only [nrm]
  refine any_one (i := 4) (by kernel_rfl) rfl (fun K_ hQ => ?_)
  refine step_callw (by kernel_rfl) 27 #[P0 l] (by kernel_rfl) ((snap9 (unhide hX)).mono ?_)
  rintro r u1 ⟨vr, rfl, hob, hg⟩
  refine ⟨_, rfl, ?_⟩
  obtain ⟨ra, rc, rfl, hl1⟩ := hob.lb (unhide hLb)
  obtain ⟨rn, hrn⟩ : ∃ n, n = L.length := ⟨_, rfl⟩
  rw [← hrn] at hl1 ⊢
  have hl1 := hide hl1
  replace hX := hide ((unhide hX).gr hg); replace hs := hide ((unhide hs).gr hg); replace ht1 := hide ((unhide ht1).gr hg); replace hB := hB.more hg
  replace hS : (fun (v : World) => v.heap[w.heap.size]? = some (.cells #[.slice ta xn tc] 33 (0, 0))) u1 := (hB.get 0 (x := ⟨w.heap.size, #[.slice ta xn tc], 33⟩) rfl)
  clear hg hob hrn
  refine hQ.out _ _ hS (fun _ => ?_)
  clear hQ K_
  simp only [nrm]
  refine any_one (i := 6) (by kernel_rfl) rfl (fun K_ hQ => ?_)
  refine step_callw (by kernel_rfl) 37 #[.slice ra rn rc, .slice sa sn sc] (by kernel_rfl) ((beq_ok L L ra sa rn sn rc sc u1 (unhide hl1) (unhide hs)).mono ?_)
  rintro r u2 ⟨rfl, hg⟩
  refine ⟨_, rfl, ?_⟩
  rw [decide_eq_true rfl]
  replace hX := hide ((unhide hX).gr hg); replace hs := hide ((unhide hs).gr hg); replace ht1 := hide ((unhide ht1).gr hg); replace hB := hB.more hg
  replace hS : (fun (v : World) => v.heap[w.heap.size]? = some (.cells #[.slice ta xn tc] 33 (0, 0))) u2 := (hB.get 0 (x := ⟨w.heap.size, #[.slice ta xn tc], 33⟩) rfl)
  clear hg hl1
  refine hQ.out _ _ hS (fun _ => ?_)
  clear hQ K_
  simp only [nrm]
  refine any_take (i := 7) (v := (.bool false)) #[true, true, true, true, true, true, true, false, false, false, false, false, false, false, false, false] rfl (by kernel_rfl) (by kernel_rfl) (by kernel_rfl) (by kernel_rfl) (fun _ _ _ h => h) (.inl ⟨by kernel_rfl, fun x_ hu => by kernel_rfl⟩) hS ?_
  simp only [nrm]
  refine any_take (i := 8) (v := (.bool false)) #[true, true, true, true, true, true, true, true, false, false, false, false, false, false, false, false] rfl (by kernel_rfl) (by kernel_rfl) (by kernel_rfl) (by kernel_rfl) (fun _ _ _ h => h) (.inl ⟨by kernel_rfl, fun x_ hu => by kernel_rfl⟩) hS ?_
  simp only [nrm]
  refine any_take (i := 9) (v := (.bool false)) #[true, true, true, true, true, true, true, true, true, false, false, false, false, false, false, false] rfl (by kernel_rfl) (by kernel_rfl) (by kernel_rfl) (by kernel_rfl) (fun _ _ _ h => h) (.inl ⟨by kernel_rfl, fun x_ hu => by kernel_rfl⟩) hS ?_
  simp only [nrm]
  refine any_take (i := 10) (v := (.pointer (some ⟨l, 0, none⟩))) #[true, true, true, true, true, true, true, true, true, true, false, false, false, false, false, false] rfl (by kernel_rfl) (by kernel_rfl) (by kernel_rfl) (by kernel_rfl) (fun _ _ _ h => h) (.inl ⟨by kernel_rfl, fun x_ hu => by kernel_rfl⟩) hS ?_
  simp only [nrm]
  refine any_take (i := 12) (v := (.slice ta xn tc)) #[true, true, true, true, true, true, true, true, true, true, true, false, false, false, false, false] rfl (by kernel_rfl) (by kernel_rfl) (by kernel_rfl) (by kernel_rfl) (fun _ _ _ h => h) (.inl ⟨by kernel_rfl, fun x_ hu => exec_sx _ (.tmp 5) rfl (w.heap.size) 0 (by kernel_rfl) ta xn tc (cell_of hu (i := 0) rfl)⟩) hS ?_
  simp only [nrm]
  refine any_one (i := 11) (by kernel_rfl) rfl (fun K_ hQ => ?_)
  refine step_callw (by kernel_rfl) 24 #[P0 l] (by kernel_rfl) ((used9 (unhide hX) h512 hus).mono ?_)
  rintro r u3 ⟨rfl, hg⟩
  refine ⟨_, rfl, ?_⟩
  rw [← unhide hux]
  replace hX := hide ((unhide hX).gr hg); replace hs := hide ((unhide hs).gr hg); replace ht1 := hide ((unhide ht1).gr hg); replace hB := hB.more hg
  replace hS : (fun (v : World) => v.heap[w.heap.size]? = some (.cells #[.slice ta xn tc] 33 (0, 0))) u3 := (hB.get 0 (x := ⟨w.heap.size, #[.slice ta xn tc], 33⟩) rfl)
  clear hg
  refine hQ.out _ _ hS (fun _ => ?_)
  clear hQ K_
  simp only [nrm]
  refine any_one (i := 13) (by kernel_rfl) rfl (fun K_ hQ => ?_)
  refine step_callw (by kernel_rfl) 13 #[.slice ta xn tc] (by kernel_rfl) ((used12_ok X ta xn tc u3 (unhide ht1) (by rw [unhide hxn]; omega) (by omega)).mono ?_)
  rintro r u4 ⟨rfl, hg⟩
  refine ⟨_, rfl, ?_⟩
  rw [← unhide hux]
  replace hX := hide ((unhide hX).gr hg); replace hs := hide ((unhide hs).gr hg); replace ht1 := hide ((unhide ht1).gr hg); replace hB := hB.more hg
  replace hS : (fun (v : World) => v.heap[w.heap.size]? = some (.cells #[.slice ta xn tc] 33 (0, 0))) u4 := (hB.get 0 (x := ⟨w.heap.size, #[.slice ta xn tc], 33⟩) rfl)
  clear hg
  refine hQ.out _ _ hS (fun _ => ?_)
  clear hQ K_
  simp only [nrm]
  refine any_take (i := 14) (v := (.bool false)) #[true, true, true, true, true, true, true, true, true, true, true, true, true, true, false, false] rfl (by kernel_rfl) (by kernel_rfl) (by kernel_rfl) (by kernel_rfl) (fun _ _ _ h => h) (.inl ⟨by kernel_rfl, fun x_ hu => by go_simp⟩) hS ?_
  simp only [nrm]
  refine any_take (i := 15) (v := (.bool false)) #[true, true, true, true, true, true, true, true, true, true, true, true, true, true, true, false] rfl (by kernel_rfl) (by kernel_rfl) (by kernel_rfl) (by kernel_rfl) (fun _ _ _ h => h) (.inl ⟨by kernel_rfl, fun x_ hu => by kernel_rfl⟩) hS ?_
  simp only [nrm]
  refine any_done (by kernel_rfl) ?_
  clear hS
  have hbq := hide (hB.get 0 (x := ⟨w.heap.size, #[.slice ta xn tc], 33⟩) rfl)
  have hbo := hide (hB.get 1 (x := ⟨w.heap.size + 1, #[.bool false], 4⟩) rfl)
  have hG := hide hB.gr
  have hw4 := (unhide hG).size
  have hw5 := lt_of_block (unhide hbo)
  clear hB hs
  refine hK0_ _ _ ?_
  refine wp_cond_false rfl ?_
  refine wp_skip ?_
  show K1_ _ _
  refine hK1_ _ _ ?_
  clear hK0_ hK1_ K0_ K1_
  refine wp_seq ?_
  refine wp_seq ?_
  refine wp_region_lit ?_
  (refine wpList_step fun K hK => ?_; replace hK := hide hK; go_simp; refine unhide hK _ _ ?_; clear hK K)
  refine wpList_nil ?_
  show Code.wp _ _ _ _ _
  refine wp_block ?_
  refine wp_loop_rounds 3 ?_
  rw [rounds_succ]
  refine wp_seq ?_
  refine wp_seq ?_
  refine wp_region_lit ?_
  refine list_val (.int .i64 0) (by kernel_rfl) (by kernel_rfl) ?_
  simp only [nrm]
  refine list_val (.bool true) (by kernel_rfl) (by kernel_rfl) ?_
  simp only [nrm]
  refine wpList_nil ?_
  show Code.wp _ _ _ _ _
  refine wp_cond_true rfl ?_
  refine wp_skip ?_
  show Code.wp _ _ _ _ _
  refine wp_seq ?_
  refine wp_block ?_
  refine wp_code_eq (c := rndC) (by kernel_rfl) ?_
  refine round12_ok u4 (unhide hX) h512 _ _ _ ta xn tc (unhide hxn) (unhide ht1) (unhide hbq) _ _ _ _ _ _ _ _ _ _ _ _ _ _ _ _ _ _ _ _ _ _ _ _ _ _ _ _ _ _ _ _ _ _ _ _ _ _ _ _ _ _ _ _ _ _ _ _ _ _ _ _ _ _ _ _ _ _ _ _ _ _ _ _ _ _ _ _ _ _ _ _ _ _ _ _ _ _ _ _ _ _ _ _ _ _ _ _ _ _ ?_
  intro _ _ _ _ _ _ _ _ _ _ _ _ _ _ _ _ _ _ _ _ _ _ _ _ _ _ _ _ _ _ _ _ _ _ _ _ _ D1 D2 z1 sD1 sD2 nD1 hD1 hD2 hg
  replace hX := hide ((unhide hX).gr hg); replace ht1 := hide ((unhide ht1).gr hg); replace hbq := hide (hg.blk (unhide hbq)); replace hbo := hide (hg.blk (unhide hbo)); replace hG := hide ((unhide hG).trans hg)
  replace hD1 := hide hD1; replace hD2 := hide hD2
  have hw1 := (unhide hG).size
  have l1 := lt_of_block (unhide hD1)
  have l2 := lt_of_block (unhide hD2)
  clear hg
  show Code.wp _ _ _ _ _
  refine wp_region_lit ?_
  refine list_val (.int .i64 0) (by kernel_rfl) (by kernel_rfl) ?_
  simp only [nrm]
  refine list_val (.int .i64 1) (by kernel_rfl) (by kernel_rfl) ?_
  simp only [nrm]
  (refine wpList_step fun K hK => ?_; replace hK := hide hK; go_simp; refine unhide hK _ _ ?_; clear hK K)
  refine wpList_nil ?_
  show Code.rounds _ _ _ _ _ _
  rw [rounds_succ]
  refine wp_seq ?_
  refine wp_seq ?_
  refine wp_region_lit ?_
  refine list_val (.int .i64 1) (by kernel_rfl) (by kernel_rfl) ?_
  simp only [nrm]
  refine list_val (.bool true) (by kernel_rfl) (by kernel_rfl) ?_
  simp only [nrm]
  refine wpList_nil ?_
  show Code.wp _ _ _ _ _
  refine wp_cond_true rfl ?_
  refine wp_skip ?_
  show Code.wp _ _ _ _ _
  refine wp_seq ?_
  refine wp_block ?_
  refine wp_code_eq (c := rndC) (by kernel_rfl) ?_
  refine round12_ok z1 (unhide hX) h512 _ _ _ ta xn tc (unhide hxn) (unhide ht1) (unhide hbq) _ _ _ _ _ _ _ _ _ _ _ _ _ _ _ _ _ _ _ _ _ _ _ _ _ _ _ _ _ _ _ _ _ _ _ _ _ _ _ _ _ _ _ _ _ _ _ _ _ _ _ _ _ _ _ _ _ _ _ _ _ _ _ _ _ _ _ _ _ _ _ _ _ _ _ _ _ _ _ _ _ _ _ _ _ _ _ _ _ _ ?_
  intro _ _ _ _ _ _ _ _ _ _ _ _ _ _ _ _ _ _ _ _ _ _ _ _ _ _ _ _ _ _ _ _ _ _ _ _ _ D3 D4 z2 sD3 sD4 nD3 hD3 hD4 hg
  replace hX := hide ((unhide hX).gr hg); replace ht1 := hide ((unhide ht1).gr hg); replace hbq := hide (hg.blk (unhide hbq)); replace hbo := hide (hg.blk (unhide hbo)); replace hG := hide ((unhide hG).trans hg)
  replace hD3 := hide hD3; replace hD4 := hide hD4
  replace hD1 := hide (hg.blk (unhide hD1)); replace hD2 := hide (hg.blk (unhide hD2))
  clear hg
  show Code.wp _ _ _ _ _
  refine wp_region_lit ?_
  refine list_val (.int .i64 1) (by kernel_rfl) (by kernel_rfl) ?_
  simp only [nrm]
  refine list_val (.int .i64 2) (by kernel_rfl) (by kernel_rfl) ?_
  simp only [nrm]
  (refine wpList_step fun K hK => ?_; replace hK := hide hK; go_simp; refine unhide hK _ _ ?_; clear hK K)
  refine wpList_nil ?_
  show Code.rounds _ _ _ _ _ _
  rw [rounds_succ]
  refine wp_seq ?_
  refine wp_seq ?_
  refine wp_region_lit ?_
  refine list_val (.int .i64 2) (by kernel_rfl) (by kernel_rfl) ?_
  simp only [nrm]
  refine list_val (.bool false) (by kernel_rfl) (by kernel_rfl) ?_
  simp only [nrm]
  refine wpList_nil ?_
  show Code.wp _ _ _ _ _
  refine wp_cond_false rfl ?_
  refine wp_exit ?_
  show Code.wp _ _ _ _ _
  go_upto_region 31 with fail
  refine wp_region_lit ?_
  have hbn := unhide hbo
  have c4 := cell_of hbn (i := 0) rfl
  have fz := froz_of (i := 0) hbn
  have hbn6 := hide (own_cell (v' := .bool true) hbn)
  have hbt := hide (Bt.setCell (g := w.heap.size + 1) z2 0 (.bool true))
  clear hbn
  (refine wpList_step fun K hK => ?_; replace hK := hide hK; go_simp; refine unhide hK _ _ ?_; clear hK K)
  clear c4 fz
  generalize World.setCell _ _ _ = z3 at *
  refine wpList_nil ?_
  go_wp2_with fail
  have hbo3 : w.heap.size ≤ w.heap.size + 1 := by omega
  have hG3 := (unhide hbt).gr (unhide hG) hbo3
  have nb : ∀ {x : Nat}, z2.heap[x]? = some (.deferred (some [])) → z3.heap[x]? = some (.deferred (some [])) := fun {x} hx => (unhide hbt).blk hx (fun e => by rw [e, unhide hbo] at hx; cases hx)
  refine postM_ret4 (v := .bool true) (nb (unhide hD1)) (nb (unhide hD2)) (nb (unhide hD3)) (nb (unhide hD4)) nD3 (by omega) (by omega) (by omega) (by omega) nD1 ?_
  intro W' hW'
  have hgW : Gr w W' := by rw [hW']; exact gr_put (gr_put (gr_put (gr_put hG3 (by omega) _) (by omega) _) (by omega) _) (by omega) _
  have hcW : W'.heap[w.heap.size + 1]? = some (.cells #[.bool true] 4 (0, 0)) := by
    rw [hW']
    exact (put_bt _ _ _).blk ((put_bt _ _ _).blk ((put_bt _ _ _).blk ((put_bt _ _ _).blk (unhide hbn6) (by omega)) (by omega)) (by omega)) (by omega)
  refine ⟨results_cellb9 Tryd.results20 _ W' _ true rfl (cell_of hcW (i := 0) rfl), ?_⟩
  rw [unhide hT]
  exact ⟨rfl, hgW⟩
end Go.Proofs.YtaoiejgjdmakjaaDoor

namespace Go.Proofs.YtaoiejgjdmakjaaDoor
open Go.ChangeShapes Go.WideShapes Go.ChangeAt Go.RowKit
set_option maxRecDepth 100000
set_option linter.unusedVariables false
set_option linter.unusedSimpArgs false
theorem Tryd.cellsOp12 : Tryd.prog.cellsOf 36 = 2 := by kernel_rfl
theorem open_opc {H : Type} {enc : TypeId × Value → H} {W : World} {fuel : Nat} {cs : List Value} {x : DataW H × List MemPlace} (h : DataW.trod enc Tryd.prog W 0 (fun _ => true) true fuel 36 cs = some x) (hw : ∀ n ∈ x.1.weights Tryd.prog 36, n ≤ reachBytes) :
    ∃ z ai ni ci S, cs = [.int .i64 z, .slice ai ni ci] ∧ (-9223372036854775808 ≤ z ∧ z < 9223372036854775808) ∧ Lb W ai ni ci S ∧ ci ≤ 140737488351232 := by
  obtain ⟨y0, y1, n, hx, hl, h0, h1⟩ := trod_struct2 Tryd.underlying36 h
  rw [Tryd.cellsOp12] at hl
  match cs, hl with
  | [c0, c1], _ =>
    simp only [Tryd.cellsIn, Tryd.cellsBy] at h0 h1
    have hxd : x.1 = .agg [y0.1, y1.1] := by rw [hx]
    have hsw : ∀ e2 s2, y1.1 = .slice e2 s2 → (e2.length + s2.length) * Tryd.prog.bytesOf 5 ≤ reachBytes := by
      intro e2 s2 he
      refine hw _ ?_
      rw [hxd, DataW.weights, Tryd.underlying36]
      show _ ∈ DataW.weightsEach Tryd.prog [3, 32] [y0.1, y1.1]
      rw [DataW.weightsEach, DataW.weightsEach]
      refine List.mem_append_right _ (List.mem_append_left _ ?_)
      rw [he, DataW.weights, Tryd.underlying32]
      exact List.mem_cons_self
    obtain ⟨z0, e0, _, w0⟩ := DataW.trod_int Tryd.underlying3 h0
    have hby : ∃ sa sn sc S, c1 = .slice sa sn sc ∧ Lb W sa sn sc S ∧ sc ≤ 140737488351232 := by
      simp only [List.drop_succ_cons, List.drop_zero, List.take_succ_cons, List.take_zero] at h1
      rcases DataW.trod_slice Tryd.underlying32 h1 with ⟨e2, _⟩ | ⟨ad', l', c', _, _, _, _, e2, _⟩
      · have e4 : c1 = .slice none 0 0 := by simpa using e2
        subst e4
        obtain ⟨li, k1, k2, k3, k4, k5⟩ := open_bytes (a := none) (len := 0) (cap := 0) (d := y1.1) (p := y1.2) ⟨n, h1⟩ hsw
        exact ⟨none, 0, 0, li, rfl, ⟨k2, k1, k3, k4, by omega⟩, k5⟩
      · have e4 : c1 = .slice (some ad') l' c' := by simpa using e2
        subst e4
        obtain ⟨li, k1, k2, k3, k4, k5⟩ := open_bytes (a := some ad') (len := l') (cap := c') (d := y1.1) (p := y1.2) ⟨n, h1⟩ hsw
        exact ⟨some ad', l', c', li, rfl, ⟨k2, k1, k3, k4, by omega⟩, k5⟩
    obtain ⟨sa, sn, sc, S, e1, hS, hsc⟩ := hby
    simp at e0
    subst e0 e1
    exact ⟨z0, sa, sn, sc, S, rfl, wf_b64 w0, hS, hsc⟩
structure Lo (W : World) (a : Option Addr) (n c : Nat) (os : List (Int × List Int)) : Prop where
  len : os.length = n
  sl : n = 0 ∨ ∃ p o, a = some ⟨p, o, none⟩ ∧ ∀ i, i < n → ∃ ai ni ci, W.cell? ⟨p, o + 2 * i, none⟩ = some (.int .i64 (os.getD i (0, [])).1) ∧ W.cell? ⟨p, o + 2 * i + 1, none⟩ = some (.slice ai ni ci) ∧ Lb W ai ni ci (os.getD i (0, [])).2 ∧ (-9223372036854775808 ≤ (os.getD i (0, [])).1 ∧ (os.getD i (0, [])).1 < 9223372036854775808)
  cap : n ≤ c
  max : c < 9223372036854775808
theorem Lo.gr {w v : World} {a : Option Addr} {n c : Nat} {os : List (Int × List Int)} (h : Lo w a n c os) (g : Gr w v) : Lo v a n c os := by
  refine ⟨h.len, ?_, h.cap, h.max⟩
  rcases h.sl with h | ⟨p, o, h1, h2⟩
  · exact .inl h
  · refine .inr ⟨p, o, h1, fun i hi => ?_⟩
    obtain ⟨ai, ni, ci, h3, h4, h5, h6⟩ := h2 i hi
    exact ⟨ai, ni, ci, g.cell h3, g.cell h4, h5.gr g, h6⟩
theorem Lo.at_ {w : World} {a : Option Addr} {n c : Nat} {os : List (Int × List Int)} (h : Lo w a n c os) (i : Nat) (hi : i < n) : ∃ p o z ai ni ci S, a = some ⟨p, o, none⟩ ∧ os.getD i (0, []) = (z, S) ∧ w.cell? ⟨p, o + 2 * i, none⟩ = some (.int .i64 z) ∧ w.cell? ⟨p, o + 2 * i + 1, none⟩ = some (.slice ai ni ci) ∧ Lb w ai ni ci S ∧ (-9223372036854775808 ≤ z ∧ z < 9223372036854775808) := by
  rcases h.sl with h0 | ⟨p, o, h1, h2⟩
  · omega
  · obtain ⟨ai, ni, ci, h3, h4, h5, h6⟩ := h2 i hi
    exact ⟨p, o, _, ai, ni, ci, _, h1, rfl, h3, h4, h5, h6⟩
theorem open_ops12 {H : Type} {enc : TypeId × Value → H} {W : World} {a : Option Addr} {len cap : Nat} {d : DataW H} {p : List MemPlace}
    (h : DataW.Trod enc Tryd.prog W 0 (fun _ => true) true 22 (.slice a len cap) d p) (hw : ∀ n ∈ d.weights Tryd.prog 22, n ≤ reachBytes) : ∃ os, Lo W a len cap os := by
  obtain ⟨fuel, hf⟩ := h
  rcases DataW.trod_slice Tryd.underlying22 hf with ⟨hcs, _⟩ | ⟨ad, l, c, elems, rest, n, _, hcs, hx, hb, hl, hm, hlen, hel, hsp, hns⟩
  · simp [Value.cells] at hcs
    obtain ⟨rfl, rfl, rfl⟩ := hcs
    exact ⟨[], rfl, .inl rfl, by omega, by omega⟩
  · simp [Value.cells] at hcs
    obtain ⟨rfl, rfl, rfl⟩ := hcs
    simp only [Prod.mk.injEq] at hx
    have hwd : d.weights Tryd.prog 22 = ((elems.map (·.1)).length + (rest.map (·.1)).length) * Tryd.prog.bytesOf 36 :: (DataW.weightsAll Tryd.prog 36 (elems.map (·.1)) ++ DataW.weightsAll Tryd.prog 36 (rest.map (·.1))) := by
      rw [hx.1, DataW.weights, Tryd.underlying22]
    have each : ∀ i, ∃ li : Int × List Int, i < len → ∃ ai ni ci, W.cell? (ad.add (i * 2 + 0)) = some (.int .i64 li.1) ∧ W.cell? (ad.add (i * 2 + 1)) = some (.slice ai ni ci) ∧ Lb W ai ni ci li.2 ∧ (-9223372036854775808 ≤ li.1 ∧ li.1 < 9223372036854775808) := by
      intro i
      by_cases hi : i < len
      · have hy : elems[i]? = some (elems[i]'(by omega)) := List.getElem?_eq_getElem (by omega)
        have h1 := hel i hi
        rw [hy, Tryd.cellsOp12, Option.bind_eq_some_iff] at h1
        obtain ⟨cs', hcs', hy'⟩ := h1
        have hmem : (elems[i]'(by omega)).1 ∈ elems.map (·.1) := List.mem_map.2 ⟨_, List.getElem_mem _, rfl⟩
        obtain ⟨z, ai, ni, ci, S, e, k1, k2, k3⟩ := open_opc hy' (fun n hn => hw n (by rw [hwd]; exact List.mem_cons_of_mem _ (List.mem_append_left _ (weights_all hmem hn))))
        obtain ⟨_, hl4, hc4⟩ := World.cells?_some hcs'
        have c0 := hc4 0 (by omega)
        have c1 := hc4 1 (by omega)
        rw [Deep.add_add] at c0 c1
        rw [e] at c0 c1
        exact ⟨(z, S), fun _ => ⟨ai, ni, ci, c0, c1, k2, k1⟩⟩
      · exact ⟨(0, []), fun h => absurd h hi⟩
    obtain ⟨f, hf2⟩ := Classical.axiomOfChoice each
    refine ⟨(List.range len).map f, by simp, ?_, hl, by unfold maxLen at hm; omega⟩
    rcases Nat.eq_zero_or_pos len with h0 | h0
    · exact .inl h0
    · right
      obtain ⟨b, off, spot⟩ := ad
      obtain ⟨a0, n0, c0, h1, _⟩ := hf2 0 h0
      have hspot : spot = none := by simpa [Addr.add] using World.cell?_spot h1
      subst hspot
      refine ⟨b, off, rfl, fun j hj => ?_⟩
      obtain ⟨ai, ni, ci, h2, h3, h4, h5⟩ := hf2 j hj
      have e : ((List.range len).map f).getD j (0, []) = f j := by simp [hj]
      rw [e]
      rw [Addr.add_mid] at h2 h3
      rw [Nat.mul_comm 2 j, Nat.add_assoc]
      exact ⟨ai, ni, ci, h2, h3, h4, h5⟩
end Go.Proofs.YtaoiejgjdmakjaaDoor

namespace Go.Proofs.YtaoiejgjdmakjaaDoor
open Go.RowKit
set_option maxRecDepth 100000
set_option linter.unusedSimpArgs false
set_option linter.unusedVariables false
theorem own_lt9 {b : Nat} {e : TypeId} {k n : Nat} {W : World} {v : Value} {xs : List Value} (h : W.ownsRow b e k v n xs) {p : Nat} (hp : v.ownBlock = some p) : b ≤ p ∧ p < W.heap.size := by
  have := World.ownsRow.lt h p hp
  omega
theorem own_up9 {b : Nat} {e : TypeId} {k n : Nat} {W : World} {v : Value} {xs : List Value} (h : W.ownsRow 0 e k v n xs) (hb : ∀ p, v.ownBlock = some p → b ≤ p) : W.ownsRow b e k v n xs := by
  refine ⟨h.1, ?_⟩
  rcases h.2 with h | ⟨p, cap, cur, h1, h2, h3⟩
  · exact .inl h
  · exact .inr ⟨p, cap, cur, h1, hb p (by rw [h1]; rfl), h3⟩
theorem Xl.keep9 {w : World} {F G H : List Nat} {l gs gd : Nat} {D : Dk} {m : Nat} {s : Sup} {L : List Int} {X : List (List Int)} {v u : World} (h : Xl w F G H l gs gd D m s L X v) (hg : Gr w u) (hs : v.heap.size ≤ u.heap.size) (hb : ∀ i, i ∈ F ∨ i ∈ G ∨ i ∈ H → u.heap[i]? = v.heap[i]?) : Xl w F G H l gs gd D m s L X u :=
  ⟨⟨hg, h.xs.ls.keep hs (fun i hi => hb i (.inl hi)), h.xs.st.keep hs (fun i hi => hb i (.inr (.inl hi))), h.xs.oF, h.xs.oG, h.xs.ap⟩, h.lg.keep hs (fun i hi => hb i (.inr (.inr hi))), h.oH, h.fh, h.gh, h.wd⟩
def Apt (v0 : World) (F G H : List Nat) (g : Nat) : Prop := g ∉ F ∧ g ∉ G ∧ g ∉ H ∧ v0.heap.size ≤ g
structure Tv (v0 : World) (tx : Value) (Y : List (List Int)) (w : World) (vs : List Value) : Prop where
  row : Or_ 1 32 0 w tx (vs.map fun s => [s])
  len : vs.length = Y.length
  at_ : ∀ i, i < Y.length → ∃ ai ni ci, vs.getD i undef = .slice ai ni ci ∧ Lb v0 ai ni ci (Y.getD i []) ∧ ni ≤ 140737488351232
def Dt (v0 : World) (G : List Nat) (gs gd zz j l : Nat) (xs : List Nat) (L : List Int) (X : List (List Int)) (tx : Value) (Y : List (List Int)) (w : World) : Prop :=
  ∃ F H D m s vs, Xl v0 F G H l gs gd D m s L X w ∧ D.safe.length = zz ∧ m ≤ 3 + 60 * j ∧ s.turn ≤ j ∧ (∀ g ∈ xs, Apt v0 F G H g ∧ g < w.heap.size) ∧ (∀ p, tx.ownBlock = some p → Apt v0 F G H p) ∧ Tv v0 tx Y w vs
section
variable {v0 w u : World} {G : List Nat} {gs gd zz j l : Nat} {xs : List Nat} {L : List Int} {X Y : List (List Int)} {tx : Value}
theorem Tv.keep {vs : List Value} (h : Tv v0 tx Y w vs) (k : ∀ p, tx.ownBlock = some p → u.heap[p]? = w.heap[p]?) : Tv v0 tx Y u vs := ⟨⟨h.row.1, owns_keep h.row.2 (fun p e => k p e)⟩, h.len, h.at_⟩
theorem Dt.gr (h : Dt v0 G gs gd zz j l xs L X tx Y w) (k : Gr w u) : Dt v0 G gs gd zz j l xs L X tx Y u := by
  obtain ⟨F, H, D, m, s, vs, h1, h2, h3, h4, h5, h6, h7⟩ := h
  exact ⟨F, H, D, m, s, vs, h1.more k, h2, h3, h4, fun g hg => ⟨(h5 g hg).1, Nat.lt_of_lt_of_le (h5 g hg).2 k.size⟩, h6, h7.keep (fun p e => k.block p (own_lt9 h7.row.2 e).2)⟩
theorem Dt.up (h : Dt v0 G gs gd zz j l xs L X tx Y w) : Dt v0 G gs gd zz (j + 1) l xs L X tx Y w := by
  obtain ⟨F, H, D, m, s, vs, h1, h2, h3, h4, h5, h6, h7⟩ := h
  exact ⟨F, H, D, m, s, vs, h1, h2, by omega, by omega, h5, h6, h7⟩
theorem Dt.less (h : Dt v0 G gs gd zz j l xs L X tx Y w) : Dt v0 G gs gd zz j l [] L X tx Y w := by
  obtain ⟨F, H, D, m, s, vs, h1, h2, h3, h4, h5, h6, h7⟩ := h
  exact ⟨F, H, D, m, s, vs, h1, h2, h3, h4, (fun g hg => by cases hg), h6, h7⟩
theorem Dt.grw (h : Dt v0 G gs gd zz j l xs L X tx Y w) : Gr v0 w := by
  obtain ⟨F, H, D, m, s, vs, h1, h2, h3, h4, h5, h6, h7⟩ := h
  exact h1.xs.gr
theorem Dt.add (h : Dt v0 G gs gd zz j l [] L X tx Y w) (k : Gr w u) (g : Nat) (hg : w.heap.size ≤ g) (hu : g < u.heap.size) : Dt v0 G gs gd zz j l [g] L X tx Y u := by
  obtain ⟨F, H, D, m, s, vs, h1, h2, h3, h4, h5, h6, h7⟩ := h
  refine ⟨F, H, D, m, s, vs, h1.more k, h2, h3, h4, fun q hq => ?_, h6, h7.keep (fun p e => k.block p (own_lt9 h7.row.2 e).2)⟩
  rw [List.mem_singleton] at hq
  subst hq
  refine ⟨⟨fun e => ?_, fun e => ?_, fun e => ?_, Nat.le_trans h1.xs.gr.size hg⟩, hu⟩
  · have := h1.xs.ls.lt _ e; omega
  · have := h1.xs.st.lt _ e; omega
  · have := h1.lg.lt _ e; omega
theorem Dt.bt (h : Dt v0 G gs gd zz j l xs L X tx Y w) {g : Nat} (hg : g ∈ xs) {c : Array Value} (hc : w.heap[g]? = some (.cells c 5 (0, 0))) (k : Bt g w u) : Dt v0 G gs gd zz j l xs L X tx Y u := by
  obtain ⟨F, H, D, m, s, vs, h1, h2, h3, h4, h5, h6, h7⟩ := h
  have ha := (h5 g hg).1
  refine ⟨F, H, D, m, s, vs, h1.keep9 (k.gr h1.xs.gr ha.2.2.2) k.size ?_, h2, h3, h4, fun q hq => ⟨(h5 q hq).1, Nat.lt_of_lt_of_le (h5 q hq).2 k.size⟩, h6, h7.keep (fun p e => ?_)⟩
  · rintro i (hi | hi | hi)
    · exact k.block i (h1.xs.ls.lt i hi) (fun e => ha.1 (e ▸ hi))
    · exact k.block i (h1.xs.st.lt i hi) (fun e => ha.2.1 (e ▸ hi))
    · exact k.block i (h1.lg.lt i hi) (fun e => ha.2.2.1 (e ▸ hi))
  · refine k.block p (own_lt9 h7.row.2 e).2 (fun e2 => ?_)
    subst e2
    rcases h7.row.2.2 with ⟨rfl, _⟩ | ⟨q, cap2, cur2, rfl, _, h8, _⟩
    · cases e
    · have e3 : q = p := by simpa [Value.ownBlock] using e
      subst e3
      rw [hc] at h8
      injection h8 with h8
      injection h8 with _ h9
      exact absurd h9 (by decide)
theorem Dt.lq (h : Dt v0 G gs gd zz j l xs L X tx Y w) : ∃ a c, tx = .slice a Y.length c ∧ Lq w a Y.length c Y := by
  obtain ⟨F, H, D, m, s, vs, h1, h2, h3, h4, h5, h6, h7⟩ := h
  obtain ⟨a, c, e, hl⟩ := h7.row.ls
  rw [List.length_map, h7.len] at e hl
  refine ⟨a, c, e, rfl, ?_, hl.cap, hl.max⟩
  rcases Nat.eq_zero_or_pos Y.length with h0 | h0
  · exact .inl h0
  · right
    obtain ⟨p, o, e1, -⟩ := hl.at_ 0 h0
    refine ⟨p, o, e1, fun i hi => ?_⟩
    obtain ⟨p2, o2, e2, hr⟩ := hl.at_ i hi
    rw [e1] at e2
    injection e2 with e2
    injection e2 with e3 e4
    subst e3 e4
    obtain ⟨ai, ni, ci, e5, l5, l6⟩ := h7.at_ i hi
    refine ⟨ai, ni, ci, ?_, l5.gr h1.xs.gr, l6⟩
    have hv : (vs.map fun s => [s]).getD i [] = [vs.getD i undef] := by
      have hiv : i < vs.length := by rw [h7.len]; exact hi
      simp [List.getD_eq_getElem?_getD, hiv]
    rw [hv, e5] at hr
    have h6 := hr 0 _ rfl
    rw [Nat.one_mul, Nat.add_zero] at h6
    exact h6
theorem Dt.bnd (h : Dt v0 G gs gd zz j l xs L X tx Y w) : X.length ≤ 512 ∧ usd X ≤ 512 ∧ usd X ≤ zz - lgo zz := by
  obtain ⟨F, H, D, m, s, vs, h1, h2, h3, h4, h5, h6, h7⟩ := h
  have a1 := usd_ge X; have a2 := h1.wd.wl.le; have a3 := h1.wd.fd.ok.hi1
  rw [h2] at a2 a3
  omega
theorem Dt.lg (h : Dt v0 G gs gd zz j l xs L X tx Y w) : ∃ H, Lg H l gs L X false w := by
  obtain ⟨F, H, D, m, s, vs, h1, h2, h3, h4, h5, h6, h7⟩ := h
  exact ⟨H, h1.lg⟩
theorem chg_apt {F H F' H' : List Nat} {g : Nat} (k : Chg (F ++ H) (F' ++ H') w u) (h : Apt v0 F G H g) (hl : g < w.heap.size) : Apt v0 F' G H' g ∧ u.heap[g]? = w.heap[g]? := by
  have hn : g ∉ F ++ H := fun e => (List.mem_append.1 e).elim h.1 h.2.2.1
  have h2 : ∀ i, i ∈ F' ++ H' → i ≠ g := fun i hi e => by
    subst e
    rcases k.new i hi with h3 | h3
    · exact hn h3
    · omega
  exact ⟨⟨fun e => h2 g (List.mem_append_left _ e) rfl, h.2.1, fun e => h2 g (List.mem_append_right _ e) rfl, h.2.2.2⟩, k.block g hl hn⟩
theorem dt_app (h : Dt v0 G gs gd zz j l xs L X tx Y w) (hj : j ≤ 30) (hf : Fst v0) (g : Nat) (hg : g ∈ xs) (n c : Nat) (x : List Int) (hM : Lb w (some ⟨g, 0, none⟩) n c x) (hn : n ≤ 2500) (hfit : usd X + ned n ≤ zz - lgo zz) : Calls Tryd.prog 17 #[P0 l, .slice (some ⟨g, 0, none⟩) n c] w (fun r u => r = .returned (.int .i64 0) ∧ Dt v0 G gs gd zz (j + 1) l xs L (X ++ [x]) tx Y u ∧ ∀ q ∈ xs, u.heap[q]? = w.heap[q]?) := by
  obtain ⟨F, H, D, m, s, vs, h1, h2, h3, h4, h5, h6, h7⟩ := h
  have hl := hM.len
  refine (x_append h1 (by omega) hf x _ n c hM (.inr (fun i hi e => ?_)) (by rw [h2, hl]; exact hfit)).mono ?_
  · have e2 : g = i := Option.some.inj e
    subst e2
    have ha := (h5 g hg).1
    exact hi.elim ha.1 (fun h => h.elim ha.2.1 ha.2.2.1)
  · rintro r u ⟨F', H', E, rfl, k1, k2, k3, -⟩
    refine ⟨rfl, ⟨F', H', E, _, s, vs, k1, k2.trans h2, by rw [hl]; omega, by omega, fun q hq => ⟨(chg_apt k3 (h5 q hq).1 (h5 q hq).2).1, Nat.lt_of_lt_of_le (h5 q hq).2 k3.size⟩, fun p e => (chg_apt k3 (h6 p e) (own_lt9 h7.row.2 e).2).1, h7.keep (fun p e => (chg_apt k3 (h6 p e) (own_lt9 h7.row.2 e).2).2)⟩, fun q hq => (chg_apt k3 (h5 q hq).1 (h5 q hq).2).2⟩
theorem dt_full (h : Dt v0 G gs gd zz j l xs L X tx Y w) (a : Option Addr) (n c : Nat) (hn : n ≤ 2500) (hno : ¬ usd X + ned n ≤ zz - lgo zz) : Calls Tryd.prog 17 #[P0 l, .slice a n c] w (Vl (.int .i64 6) w) := by
  obtain ⟨F, H, D, m, s, vs, h1, h2, h3, h4, h5, h6, h7⟩ := h
  exact x_full h1 a n c (by omega) (by rw [h2]; exact hno)
theorem dt_chk (h : Dt v0 G gs gd zz j l xs L X tx Y w) (hj : j ≤ 30) (hf : Fst v0) (g : Nat) (hg : g ∈ xs) (n c : Nat) (x : List Int) (hM : Lb w (some ⟨g, 0, none⟩) n c x) (hn : n ≤ 2500) (hfit : n ≤ 64 * ((zz - 2) / 4)) : Calls Tryd.prog 18 #[P0 l, .slice (some ⟨g, 0, none⟩) n c] w (fun r u => r = .returned (.int .i64 0) ∧ Dt v0 G gs gd zz (j + 1) l xs x [] tx Y u ∧ ∀ q ∈ xs, u.heap[q]? = w.heap[q]?) := by
  obtain ⟨F, H, D, m, s, vs, h1, h2, h3, h4, h5, h6, h7⟩ := h
  have hl := hM.len
  refine (x_check h1 (by omega) hf (by omega) x _ n c hM (.inr (fun i hi e => ?_)) (by rw [h2]; exact hfit)).mono ?_
  · have e2 : g = i := Option.some.inj e
    subst e2
    have ha := (h5 g hg).1
    exact hi.elim ha.1 (fun h => h.elim ha.2.1 ha.2.2.1)
  · rintro r u ⟨F', H', E, rfl, k1, k2, k3, -⟩
    refine ⟨rfl, ⟨F', H', E, _, _, vs, k1, k2.trans h2, by rw [hl]; omega, by rw [(s.next_is x).1]; omega, fun q hq => ⟨(chg_apt k3 (h5 q hq).1 (h5 q hq).2).1, Nat.lt_of_lt_of_le (h5 q hq).2 k3.size⟩, fun p e => (chg_apt k3 (h6 p e) (own_lt9 h7.row.2 e).2).1, h7.keep (fun p e => (chg_apt k3 (h6 p e) (own_lt9 h7.row.2 e).2).2)⟩, fun q hq => (chg_apt k3 (h5 q hq).1 (h5 q hq).2).2⟩
theorem dt_long (h : Dt v0 G gs gd zz j l xs L X tx Y w) (hj : j ≤ 30) (a : Option Addr) (n c : Nat) (hn : n ≤ 2500) (hno : ¬ n ≤ 64 * ((zz - 2) / 4)) : Calls Tryd.prog 18 #[P0 l, .slice a n c] w (fun r u => r = .returned (.int .i64 3) ∧ Dt v0 G gs gd zz j l xs L X tx Y u ∧ ∀ q ∈ xs, u.heap[q]? = w.heap[q]?) := by
  obtain ⟨F, H, D, m, s, vs, h1, h2, h3, h4, h5, h6, h7⟩ := h
  refine (x_long h1 (by omega) a n c (by omega) (by rw [h2]; omega)).mono ?_
  rintro r u ⟨rfl, k1, k3⟩
  exact ⟨rfl, ⟨F, H, D, m, s, vs, k1, h2, h3, h4, fun q hq => ⟨(h5 q hq).1, Nat.lt_of_lt_of_le (h5 q hq).2 k3.size⟩, h6, h7.keep (fun p e => k3.block p (own_lt9 h7.row.2 e).2 (h6 p e).2.2.1)⟩, fun q hq => k3.block q (h5 q hq).2 (h5 q hq).1.2.2.1⟩
theorem dt_open (h : Dt v0 G gs gd zz j l xs L X tx Y w) (hj : j ≤ 30) (hf : Fst v0) : Calls Tryd.prog 9 #[P0 gs] w (fun r u => ∃ l', r = .returned (.tuple #[P0 l', .int .i64 0]) ∧ Dt v0 G gs gd zz j l' xs L X tx Y u ∧ Gr w u) := by
  obtain ⟨F, H, D, m, s, vs, h1, h2, h3, h4, h5, h6, h7⟩ := h
  refine (x_open h1.xs h1.wd (by omega) hf).mono ?_
  rintro r u ⟨l', H', rfl, k1, k2, k3⟩
  refine ⟨l', rfl, ⟨F, H', D, m, s, vs, k1, h2, h3, h4, fun q hq => ⟨⟨(h5 q hq).1.1, (h5 q hq).1.2.1, fun e => by have := k2 q e; have := (h5 q hq).2; omega, (h5 q hq).1.2.2.2⟩, Nat.lt_of_lt_of_le (h5 q hq).2 k3.size⟩, fun p e => ⟨(h6 p e).1, (h6 p e).2.1, fun e2 => by have := k2 p e2; have := (own_lt9 h7.row.2 e).2; omega, (h6 p e).2.2.2⟩, h7.keep (fun p e => k3.block p (own_lt9 h7.row.2 e).2)⟩, k3⟩
theorem dt_room (h : Dt v0 G gs gd zz j l xs L X tx Y w) (n : Int) (h1 : -9223372036854775808 ≤ n) (h2 : n < 9223372036854775808) : Calls Tryd.prog 16 #[P0 l, .int .i64 n] w (Vl (.bool (decide (0 ≤ n ∧ nedI n ≤ ((zz - lgo zz - usd X : Nat) : Int)))) w) := by
  obtain ⟨F, H, D, m, s, vs, k1, k2, k3, k4, k5, k6, k7⟩ := h
  have := x_room k1 n h1 h2
  rw [k2] at this
  exact this
theorem dt_slots (h : Dt v0 G gs gd zz j l xs L X tx Y w) : Calls Tryd.prog 15 #[P0 gs] w (Vl (.int .i64 ((zz - lgo zz : Nat) : Int)) w) := by
  obtain ⟨F, H, D, m, s, vs, k1, k2, k3, k4, k5, k6, k7⟩ := h
  have := slots_ok G gs gd D.safe.length s (by have := k1.wd.fd.ok.hi1; omega) w k1.xs.st
  rw [k2, ← lgo_slots] at this
  exact this
theorem dt_sroom (h : Dt v0 G gs gd zz j l xs L X tx Y w) : Calls Tryd.prog 19 #[P0 gs] w (Vl (.int .i64 ((64 * ((zz - 2) / 4) : Nat) : Int)) w) := by
  obtain ⟨F, H, D, m, s, vs, k1, k2, k3, k4, k5, k6, k7⟩ := h
  have := room_ok G gs gd D.safe.length s (by have := k1.wd.fd.ok.hi1; omega) w k1.xs.st
  rw [k2] at this
  exact this
end
def fromIf (r : Nat) : Code → Option Code
  | .seq (.seq (.region i ops d) b) c => if i = r then some (.seq (.seq (.region i ops d) b) c) else (fromIf r b).orElse fun _ => fromIf r c
  | .seq a b => (fromIf r a).orElse fun _ => fromIf r b
  | .cond _ a b => (fromIf r a).orElse fun _ => fromIf r b
  | .loop c => fromIf r c
  | .block _ c => fromIf r c
  | .scope c => fromIf r c
  | _ => none
theorem frz_drew {w : World} {a : Addr} {b : Bool} (h : w.frozen? a = b) : w.drew.frozen? a = b := h
noncomputable def tailD : Code := ((Tryd.f3.body).bind (fromIf 34)).getD .skip
def Owc (go : Nat) (x : List Int) (i : Nat) (w : World) : Prop := ∃ cur, w.heap[go]? = some (.cells cur 5 (0, 0)) ∧ (∀ q, i ≤ q → q < x.length → cur[q]? = some (.int .u8 (x.getD q 0))) ∧ cur[x.length]? = some (.int .u8 7)
theorem Owc.sto {go : Nat} {x : List Int} {i : Nat} {w : World} (h : Owc go x i w) (hi : i < x.length) : Owc go x (i + 1) (w.setCell ⟨go, i, none⟩ (.int .u8 238)) := by
  obtain ⟨cur, h1, h2, h3⟩ := h
  refine ⟨_, set_cells h1 _, fun q hq hq2 => ?_, ?_⟩
  · rw [Array.getElem?_setIfInBounds, if_neg (by omega)]
    exact h2 q (by omega) hq2
  · rw [Array.getElem?_setIfInBounds, if_neg (by omega)]
    exact h3
theorem Owc.same {go : Nat} {x : List Int} {i : Nat} {w u : World} (h : Owc go x i w) (k : u.heap[go]? = w.heap[go]?) : Owc go x i u := by
  obtain ⟨cur, h1, h2⟩ := h
  exact ⟨cur, k.trans h1, h2⟩
set_option maxHeartbeats 4000000 in
theorem does_tail (v0 : World) (Q : Exit → Act → World → Prop) (hpan : ∀ c t t' d w, Q (.panic c) ⟨t, d⟩ w → Q (.panic c) ⟨t', d⟩ w) (G : List Nat) (gs gd zz j l go : Nat) (L x : List Int) (X : List (List Int)) (tx : Value) (w : World) (hD : Dt v0 G gs gd zz j l [go] L X tx X w) (sa : Option Addr) (sn sc : Nat) (hs : Lb v0 sa sn sc L) (ai : Option Addr) (nx ci nw cw : Nat) (hx : Lb v0 ai nx ci x) (hnw : nw = nx + 1) (hn25 : nx ≤ 2500) (ho : Owc go x 0 w) (k0 k1 k2 k3 k4 k5 k6 k8 k11 k12 k15 k16 k17 k18 k19 k20 k21 k22 k23 k24 k25 k26 k27 k28 k29 k30 k31 k32 k33 k34 k35 k36 k37 k38 k39 k40 k41 k42 k43 k44 k45 k46 k47 k48 k49 k50 k51 k52 k53 k54 k55 k56 k57 k58 k59 k60 k61 k62 k63 k64 k65 k66 k67 k68 k69 k70 k71 k72 k73 k74 k75 k76 k77 k78 k79 k80 k81 k82 k83 k84 k85 k86 k87 k88 k89 k90 k91 k92 k93 k94 k95 k96 k97 k98 k99 k100 k101 k102 k103 k104 k105 k106 k107 k108 k109 k110 k111 k112 k113 k114 k115 k116 k117 k118 k119 k120 k121 k122 k123 k124 k125 k126 k127 k128 k129 k130 k131 k132 k133 k134 k135 k136 k137 k138 k139 k140 k141 k142 k143 k144 k145 k146 k147 k148 k149 k150 k151 k152 k153 k154 k155 k156 k157 k158 k159 k160 k161 k162 k163 k164 : Value) (hQ : ∀ (u4 u19 u133 u134 u135 u136 u137 u138 u139 u140 u141 u142 u143 u144 u145 u146 u147 u148 u149 u150 u151 u152 u153 u154 u155 u156 u157 u158 u159 u160 u161 u162 u163 : Value) (w' : World), Dt v0 G gs gd zz j l [] L X tx X w' → Q .normal ⟨#[k0, k1, k2, k3, u4, k5, k6, P0 l, k8, .slice sa sn sc, tx, k11, k12, .slice ai nx ci, .slice (some ⟨go, 0, none⟩) nw cw, k15, k16, k17, k18, u19, k20, k21, k22, k23, k24, k25, k26, k27, k28, k29, k30, k31, k32, k33, k34, k35, k36, k37, k38, k39, k40, k41, k42, k43, k44, k45, k46, k47, k48, k49, k50, k51, k52, k53, k54, k55, k56, k57, k58, k59, k60, k61, k62, k63, k64, k65, k66, k67, k68, k69, k70, k71, k72, k73, k74, k75, k76, k77, k78, k79, k80, k81, k82, k83, k84, k85, k86, k87, k88, k89, k90, k91, k92, k93, k94, k95, k96, k97, k98, k99, k100, k101, k102, k103, k104, k105, k106, k107, k108, k109, k110, k111, k112, k113, k114, k115, k116, k117, k118, k119, k120, k121, k122, k123, k124, k125, k126, k127, k128, k129, k130, k131, k132, u133, u134, u135, u136, u137, u138, u139, u140, u141, u142, u143, u144, u145, u146, u147, u148, u149, u150, u151, u152, u153, u154, u155, u156, u157, u158, u159, u160, u161, u162, u163, k164], []⟩ w') : Code.wp Tryd.prog tailD Q ⟨#[k0, k1, k2, k3, k4, k5, k6, P0 l, k8, .slice sa sn sc, tx, k11, k12, .slice ai nx ci, .slice (some ⟨go, 0, none⟩) nw cw, k15, k16, k17, k18, k19, k20, k21, k22, k23, k24, k25, k26, k27, k28, k29, k30, k31, k32, k33, k34, k35, k36, k37, k38, k39, k40, k41, k42, k43, k44, k45, k46, k47, k48, k49, k50, k51, k52, k53, k54, k55, k56, k57, k58, k59, k60, k61, k62, k63, k64, k65, k66, k67, k68, k69, k70, k71, k72, k73, k74, k75, k76, k77, k78, k79, k80, k81, k82, k83, k84, k85, k86, k87, k88, k89, k90, k91, k92, k93, k94, k95, k96, k97, k98, k99, k100, k101, k102, k103, k104, k105, k106, k107, k108, k109, k110, k111, k112, k113, k114, k115, k116, k117, k118, k119, k120, k121, k122, k123, k124, k125, k126, k127, k128, k129, k130, k131, k132, k133, k134, k135, k136, k137, k138, k139, k140, k141, k142, k143, k144, k145, k146, k147, k148, k149, k150, k151, k152, k153, k154, k155, k156, k157, k158, k159, k160, k161, k162, k163, k164], []⟩ w := by
  conv => arg 2; whnf
  dsimp only
  have hxl := hx.len
  have hxb := hx.isB
  have hnl : nx < nw := by omega
  replace hnw := hide hnw
  replace hQ := hide hQ; replace hpan := hide hpan; replace hD := hide hD; replace hs := hide hs; replace hx := hide hx; replace ho := hide ho; replace hxl := hide hxl; replace hxb := hide hxb
  go_upto_region 34 with fail
  refine wp_region_lit ?_
  refine list_val (.slice ai nx ci) (by kernel_rfl) (by kernel_rfl) ?_
  simp only [nrm]
  refine list_val (.int .i64 (nx : Int)) (by kernel_rfl) (by kernel_rfl) ?_
  simp only [nrm]
  refine list_val (.int .i64 0) (by kernel_rfl) (by kernel_rfl) ?_
  simp only [nrm]
  refine wpList_nil ?_
  go_wp2_with fail
  go_loopw [135] (fun i wr => ∃ q : Nat, q ≤ nx ∧ i = .int .i64 (q : Int) ∧ Hid (Dt v0 G gs gd zz j l [go] L X tx X wr) ∧ Hid (Owc go x q wr)) (fun i _ => nx - (intOf i).toNat)
  case atStart => exact ⟨0, by omega, rfl, hD, ho⟩
  case round =>
  clear hD ho
  obtain ⟨q, hq, rfl, hD, ho⟩ := hrel
  by_cases hlt : q < nx
  · skip
    have qI : (q : Int) < (nx : Int) := by omega
    have qW : (q : Int) < (nw : Int) := by omega
    have eq : IntKind.i64.wrap ((q : Int) + 1) = ((q + 1 : Nat) : Int) := by rw [IntKind.wrap_i64]; omega
    obtain ⟨p, o, rfl, hbc⟩ : ∃ p o, ai = some ⟨p, o, none⟩ ∧ v0.cell? ⟨p, o + q, none⟩ = some (.int .u8 (x.getD q 0)) := by
      rcases (unhide hx).sl with e | ⟨p, o, e, h2⟩
      · have := unhide hxl; rw [e] at this; simp at this; omega
      · refine ⟨p, o, e, ?_⟩
        exact h2 q (by rw [unhide hxl]; exact hlt)
    obtain ⟨cur, k1, k2, k3⟩ := unhide ho
    have hoc := cell_of k1 (k2 q (Nat.le_refl _) (by rw [unhide hxl]; exact hlt))
    have hbc2 := (unhide hD).grw.cell hbc
    have fz := hide (froz_of (i := q) k1)
    have hD2 := hide ((unhide hD).bt (List.mem_singleton.2 rfl) k1 (Bt.setCell (g := go) wr q (.int .u8 238)))
    have ho2 := hide ((unhide ho).sto (by rw [unhide hxl]; exact hlt))
    clear k1 k2 k3 hbc hD ho cur
    generalize x.getD q 0 = y at *
    replace hoc := hide hoc; replace hbc2 := hide hbc2
    go_upto_region 36 with fail
    refine wp_region_lit ?_
    refine list_val (.int .i64 (q : Int)) (by kernel_rfl) (by kernel_rfl) ?_
    simp only [nrm]
    (refine wpList_step fun K hK => ?_; replace hK := hide hK; go_simp; refine unhide hK _ _ ?_; clear hK K)
    refine wpList_nil ?_
    go_upto_region 37 with fail
    rename_i K1_ hK1_ K0_ hK0_
    refine any_start (S := fun (v : World) => v.cell? ⟨go, 0 + q, none⟩ = some (.int .u8 y) ∧ v.cell? ⟨p, o + q, none⟩ = some (.int .u8 y)) (by kernel_rfl) ?_
    have hS : (fun (v : World) => v.cell? ⟨go, 0 + q, none⟩ = some (.int .u8 y) ∧ v.cell? ⟨p, o + q, none⟩ = some (.int .u8 y)) (World.drew _) := ⟨by rw [Nat.zero_add]; exact (Gr.refl _).drew.cell (unhide hoc), (Gr.refl _).drew.cell (unhide hbc2)⟩
    simp only [List.size_toArray, List.length_cons, List.length_nil, Array.replicate, List.replicate]
    refine any_take (i := 0) (v := (.slice (some ⟨go, 0, none⟩) nw cw)) #[false, false, false, false, false, false, false, false, false] rfl (by kernel_rfl) (by kernel_rfl) (by kernel_rfl) (by kernel_rfl) (fun _ _ _ h => (unhide hpan) _ _ _ _ _ h) (.inl ⟨by kernel_rfl, fun x_ hu => by kernel_rfl⟩) hS ?_
    simp only [nrm]
    refine any_take (i := 1) (v := (.int .i64 (q : Int))) #[true, false, false, false, false, false, false, false, false] rfl (by kernel_rfl) (by kernel_rfl) (by kernel_rfl) (by kernel_rfl) (fun _ _ _ h => (unhide hpan) _ _ _ _ _ h) (.inl ⟨by kernel_rfl, fun x_ hu => by kernel_rfl⟩) hS ?_
    simp only [nrm]
    refine any_take (i := 2) (v := (.pointer (some ⟨go, 0 + q, none⟩))) #[true, true, false, false, false, false, false, false, false] rfl (by kernel_rfl) (by kernel_rfl) (by kernel_rfl) (by kernel_rfl) (fun _ _ _ h => (unhide hpan) _ _ _ _ _ h) (.inl ⟨by kernel_rfl, fun x_ hu => exec_iby _ (.tmp 138) (.tmp 139) rfl go 0 nw cw q (by kernel_rfl) (by kernel_rfl) (by omega)⟩) hS ?_
    simp only [nrm]
    refine any_take (i := 3) (v := (.int .u8 y)) #[true, true, true, false, false, false, false, false, false] rfl (by kernel_rfl) (by kernel_rfl) (by kernel_rfl) (by kernel_rfl) (fun _ _ _ h => (unhide hpan) _ _ _ _ _ h) (.inl ⟨by kernel_rfl, fun x_ hu => exec_b _ (.tmp 140) rfl go (0 + q) (by kernel_rfl) y hu.1⟩) hS ?_
    simp only [nrm]
    refine any_take (i := 4) (v := (.slice (some ⟨p, o, none⟩) nx ci)) #[true, true, true, true, false, false, false, false, false] rfl (by kernel_rfl) (by kernel_rfl) (by kernel_rfl) (by kernel_rfl) (fun _ _ _ h => (unhide hpan) _ _ _ _ _ h) (.inl ⟨by kernel_rfl, fun x_ hu => by kernel_rfl⟩) hS ?_
    simp only [nrm]
    refine any_take (i := 5) (v := (.int .i64 (q : Int))) #[true, true, true, true, true, false, false, false, false] rfl (by kernel_rfl) (by kernel_rfl) (by kernel_rfl) (by kernel_rfl) (fun _ _ _ h => (unhide hpan) _ _ _ _ _ h) (.inl ⟨by kernel_rfl, fun x_ hu => by kernel_rfl⟩) hS ?_
    simp only [nrm]
    refine any_take (i := 6) (v := (.pointer (some ⟨p, o + q, none⟩))) #[true, true, true, true, true, true, false, false, false] rfl (by kernel_rfl) (by kernel_rfl) (by kernel_rfl) (by kernel_rfl) (fun _ _ _ h => (unhide hpan) _ _ _ _ _ h) (.inl ⟨by kernel_rfl, fun x_ hu => exec_iby _ (.tmp 142) (.tmp 143) rfl p o nx ci q (by kernel_rfl) (by kernel_rfl) hlt⟩) hS ?_
    simp only [nrm]
    refine any_take (i := 7) (v := (.int .u8 y)) #[true, true, true, true, true, true, true, false, false] rfl (by kernel_rfl) (by kernel_rfl) (by kernel_rfl) (by kernel_rfl) (fun _ _ _ h => (unhide hpan) _ _ _ _ _ h) (.inl ⟨by kernel_rfl, fun x_ hu => exec_b _ (.tmp 144) rfl p (o + q) (by kernel_rfl) y hu.2⟩) hS ?_
    simp only [nrm]
    refine any_take (i := 8) (v := (.bool false)) #[true, true, true, true, true, true, true, true, false] rfl (by kernel_rfl) (by kernel_rfl) (by kernel_rfl) (by kernel_rfl) (fun _ _ _ h => (unhide hpan) _ _ _ _ _ h) (.inl ⟨by kernel_rfl, fun x_ hu => by go_simp⟩) hS ?_
    simp only [nrm]
    refine any_done (by kernel_rfl) ?_
    refine hK0_ _ _ ?_
    refine wp_cond_false rfl ?_
    refine wp_skip ?_
    show K1_ _ _
    refine hK1_ _ _ ?_
    clear hK0_ hK1_ K0_ K1_ hS
    go_upto_region 39 with fail
    refine wp_region_lit ?_
    refine list_val (.slice (some ⟨go, 0, none⟩) nw cw) (by kernel_rfl) (by kernel_rfl) ?_
    simp only [nrm]
    refine list_val (.int .i64 (q : Int)) (by kernel_rfl) (by kernel_rfl) ?_
    simp only [nrm]
    refine list_val (.pointer (some ⟨go, 0 + q, none⟩)) (by kernel_rfl) (exec_iby _ (.tmp 147) (.tmp 148) rfl go 0 nw cw q (by kernel_rfl) (by kernel_rfl) (by omega)) ?_
    simp only [nrm]
    have c4 := (Gr.refl wr).drew.cell (unhide hoc)
    have fz2 := frz_drew (unhide fz)
    (refine wpList_step fun K hK => ?_; replace hK := hide hK; go_simp; refine unhide hK _ _ ?_; clear hK K)
    clear c4 fz2
    replace hD2 := hide ((unhide hD2).gr (Gr.refl _).drew)
    replace ho2 := hide (Owc.same (u := (wr.setCell ⟨go, q, none⟩ (.int .u8 238)).drew) (unhide ho2) rfl)
    generalize World.drew _ = z6 at *
    refine wpList_nil ?_
    go_wp2_with fail
    go_roundw
    case rel => exact ⟨q + 1, by omega, by go_num, hD2, ho2⟩
    case measure => simp [intOf]; omega
  have qI : ¬ (q : Int) < (nx : Int) := by omega
  obtain rfl : q = nx := by omega
  obtain ⟨cur, k1, k2, k3⟩ := unhide ho
  have hoc := hide (cell_of k1 k3)
  obtain ⟨xa, xc, rfl, hlq⟩ := (unhide hD).lq
  obtain ⟨xn, hxn⟩ : ∃ k, k = X.length := ⟨_, rfl⟩
  rw [← hxn] at hlq ⊢
  obtain ⟨b1, b2, b3⟩ := (unhide hD).bnd
  obtain ⟨H, hlg⟩ := (unhide hD).lg
  have hs2 := hide ((unhide hs).gr (unhide hD).grw)
  replace hlq := hide hlq; replace hlg := hide hlg; replace hxn := hide hxn
  have qW : (q : Int) < (nw : Int) := by omega
  clear k1 k2 k3 ho
  go_upto_region 41 with fail
  rename_i K0_ hK0_
  refine wp_region_lit ?_
  refine list_val (.slice (some ⟨go, 0, none⟩) nw cw) (by kernel_rfl) (by kernel_rfl) ?_
  simp only [nrm]
  refine list_val (.slice ai q ci) (by kernel_rfl) (by kernel_rfl) ?_
  simp only [nrm]
  refine list_val (.int .i64 q) (by kernel_rfl) (by kernel_rfl) ?_
  simp only [nrm]
  refine list_val (.pointer (some ⟨go, 0 + q, none⟩)) (by kernel_rfl) (exec_iby _ (.tmp 151) (.tmp 153) rfl go 0 nw cw q (by kernel_rfl) (by kernel_rfl) (by omega)) ?_
  simp only [nrm]
  refine list_val (.int .u8 7) (by kernel_rfl) (exec_b _ (.tmp 154) rfl go (0 + q) (by kernel_rfl) 7 (by rw [Nat.zero_add, ← unhide hxl]; exact unhide hoc)) ?_
  simp only [nrm]
  refine list_val (.bool false) (by kernel_rfl) (by kernel_rfl) ?_
  simp only [nrm]
  refine list_val (.bool false) (by kernel_rfl) (by kernel_rfl) ?_
  simp only [nrm]
  refine list_val (.pointer (some ⟨l, 0, none⟩)) (by kernel_rfl) (by kernel_rfl) ?_
  simp only [nrm]
  refine list_val (.slice sa sn sc) (by kernel_rfl) (by kernel_rfl) ?_
  simp only [nrm]
  refine list_val (.slice xa xn xc) (by kernel_rfl) (by kernel_rfl) ?_
  simp only [nrm]
  refine list_call 20 #[.pointer (some ⟨l, 0, none⟩), .slice sa sn sc, .slice xa xn xc] (by kernel_rfl) (by kernel_rfl) ((tells12_ok _ (unhide hlg) b1 b2 sa xa sn sc xn xc (unhide hs2) (unhide hlq)).mono ?_)
  rintro r w9 ⟨rfl, hg⟩
  refine ⟨_, rfl, ?_⟩
  replace hD := hide ((unhide hD).gr hg)
  clear hg
  simp only [nrm]
  refine list_val (.bool false) (by kernel_rfl) (by kernel_rfl) ?_
  simp only [nrm]
  refine list_val (.bool false) (by kernel_rfl) (by kernel_rfl) ?_
  simp only [nrm]
  refine wpList_nil ?_
  refine hK0_ _ _ ?_
  refine wp_cond_false rfl ?_
  refine wp_skip ?_
  obtain rfl := unhide hxn
  exact unhide hQ _ _ _ _ _ _ _ _ _ _ _ _ _ _ _ _ _ _ _ _ _ _ _ _ _ _ _ _ _ _ _ _ _ _ (unhide hD).less
end Go.Proofs.YtaoiejgjdmakjaaDoor
