/-
  What is opened is the plain text, if it was sealed so, else nothing: the walk.
-/
import Derived.Test.YtdekjbdkpchbjaaAeO
namespace Go.Proofs.Ytdekjbdkpchbjaa
open Go.RowKit
set_option maxRecDepth 100000
set_option linter.unusedSimpArgs false
set_option linter.unusedVariables false
/-- an empty list of one's own -/
def Oe (b : Nat) (u : World) (q : Value) : Prop := Ob b u q [] ∧ ∃ g, q = .slice (some ⟨g, 0, none⟩) 0 0
theorem Oe.gr {b : Nat} {u v : World} {q : Value} (h : Oe b u q) (k : Gr u v) : Oe b v q := ⟨h.1.gr k, h.2⟩
theorem apart0 {b g go : Nat} {u : World} {X : List Int} (h : Ob b u (.slice (some ⟨g, 0, none⟩) 0 0) []) (hat : At u go 0 (X ++ [7])) : some go ≠ (Value.slice (some ⟨g, 0, none⟩) 0 0).ownBlock := by
  intro e
  have e2 : go = g := by simpa [Value.ownBlock] using e
  rcases h.2 with ⟨h1, _⟩ | ⟨g1, cap, cur, h1, _, h3, _, _, h6, _⟩
  · cases h1
  · cases h1
    have c0 := hat 0 (by simp)
    rw [e2] at c0
    have hz : cur.size = 0 := by simpa using h6
    have : cur[0]? = none := Array.getElem?_eq_none (by omega)
    simp [World.cell?, h3, this] at c0
set_option maxHeartbeats 4000000 in
theorem opens_yes (K N : List Int) (hu : Us K N) (A0 : List Int) (s : Option Addr) (len cap : Nat) (B : List Int) (s2 : Option Addr) (len2 cap2 : Nat) (w : World) (la0 : Lb w s len cap A0) (lB : Lb w s2 len2 cap2 B) (Q : List Int) (hQb : IsB Q) (hZ : B.take (min len2 3000) = sealL K N (A0.take (min len 3000)) Q) : Calls Try.prog 4 #[.agg (usd K N s len cap), .slice s2 len2 cap2] w (Woke w) := by
  obtain ⟨T, hT⟩ : ∃ T, T = Woke w := ⟨_, rfl⟩
  rw [← hT]
  replace hT := hide hT
  replace hu := hide hu; replace la0 := hide la0
  replace lB := hide lB
  replace hQb := hide hQb; replace hZ := hide hZ
  obtain ⟨SU, hSU⟩ : ∃ S, S = usd K N s len cap := ⟨_, rfl⟩
  rw [← hSU]
  replace hSU := hide hSU
  go_enter Try.func4, Try.ntmps4
  go_upto_region 1 with fail
  have hB := ((Bl.nil w).new SU 28)
  simp only [size_alloc, List.nil_append, List.cons_append] at hB
  generalize World.alloc _ _ = u at *
  rw [unhide hSU] at hB
  replace hB : Bl w [⟨w.heap.size, usd K N s len cap, 28⟩] u := hB
  refine wp_region_lit ?_
  refine list_call 9 #[] (by kernel_rfl) (by kernel_rfl) ((wakes_ok _).mono ?_)
  rintro r v ⟨rfl, hg⟩
  refine ⟨_, rfl, ?_⟩
  replace hB := hB.more hg
  clear hg
  simp only [Act.put, List.setIfInBounds_toArray, List.set_cons_zero, List.set_cons_succ, List.getElem_toArray, List.getElem_cons_zero, List.getElem_cons_succ]
  refine list_val (.bool false) (by kernel_rfl) (by kernel_rfl) ?_
  simp only [Act.put, List.setIfInBounds_toArray, List.set_cons_zero, List.set_cons_succ, List.getElem_toArray, List.getElem_cons_zero, List.getElem_cons_succ]
  refine wpList_nil ?_
  replace hB := hide hB
  go_upto_region 3 with fail
  replace hB := unhide hB
  refine wp_region_lit ?_
  refine list_val (.agg (usd K N s len cap)) (by kernel_rfl) (exec_arr _ 28 (.tmp 2) rfl (w.heap.size) (by kernel_rfl) (usd K N s len cap) 28 _ (hB.get 0 (x := ⟨w.heap.size, usd K N s len cap, 28⟩) rfl) Try.underlying28 rfl (by rw [Try.infoU8, usd_size (unhide hu)])) ?_
  simp only [Act.put, List.setIfInBounds_toArray, List.set_cons_zero, List.set_cons_succ, List.getElem_toArray, List.getElem_cons_zero, List.getElem_cons_succ]
  have hlt0 := lt_of_block (hB.get 0 (x := ⟨w.heap.size, usd K N s len cap, 28⟩) rfl)
  dsimp only at hlt0
  refine list_call 10 #[.agg (usd K N s len cap)] (by kernel_rfl) (by kernel_rfl) ((short_ok K N (unhide hu) A0 s len cap _ ((unhide la0).gr hB.gr)).mono ?_)
  rintro r v2 ⟨gq, c5, rfl, hc5, hmx, hgq, hat, hg⟩
  refine ⟨_, rfl, ?_⟩
  have hne0 : w.heap.size < gq := by omega
  replace hB := hB.more hg
  have hAb : IsB (A0.take (min len 3000)) := (unhide la0).isB.take _
  have hAl : (A0.take (min len 3000)).length ≤ 3000 := by rw [List.length_take]; omega
  generalize A0.take (min len 3000) = A at *
  obtain ⟨n, hn⟩ : ∃ n, A.length = n := ⟨_, rfl⟩
  rw [hn] at hc5 hAl ⊢
  clear hg hgq hlt0
  simp only [Act.put, List.setIfInBounds_toArray, List.set_cons_zero, List.set_cons_succ, List.getElem_toArray, List.getElem_cons_zero, List.getElem_cons_succ]
  refine list_val (.slice s2 len2 cap2) (by kernel_rfl) (by kernel_rfl) ?_
  simp only [Act.put, List.setIfInBounds_toArray, List.set_cons_zero, List.set_cons_succ, List.getElem_toArray, List.getElem_cons_zero, List.getElem_cons_succ]
  refine list_call 11 #[.slice s2 len2 cap2] (by kernel_rfl) (by kernel_rfl) ((cut_ok B s2 len2 cap2 _ ((unhide lB).gr hB.gr)).mono ?_)
  rintro r v2_ ⟨s3, rfl, hcut, hw2⟩
  refine ⟨_, rfl, ?_⟩
  replace hw2 := hw2.symm
  subst hw2
  have lZ := hcut _ (unhide lB)
  have hmb : min len2 3000 ≤ 3000 := Nat.min_le_right _ _
  generalize B.take (min len2 3000) = Z at *
  generalize min len2 3000 = m at *
  clear hcut
  simp only [Act.put, List.setIfInBounds_toArray, List.set_cons_zero, List.set_cons_succ, List.getElem_toArray, List.getElem_cons_zero, List.getElem_cons_succ]
  have hat3 : At (World.setRow v2 w.heap.size (usd K N (some ⟨gq, 0, none⟩) n c5)) gq 0 (A ++ [7]) := fun j hj => by
    rw [cell_heap (setRow_other v2 w.heap.size gq _ (by omega))]
    exact hat j hj
  refine list_store 28 (.tmp 2) (.tmp 16) w.heap.size (usd K N (some ⟨gq, 0, none⟩) n c5) 28 (usd K N s len cap) (by kernel_rfl) rfl (by kernel_rfl) (by kernel_rfl) (hB.get 0 (x := ⟨w.heap.size, usd K N s len cap, 28⟩) rfl) (by rw [Try.infoU8, usd_size (unhide hu)]) ((usd_size (unhide hu) _ _ _).trans (usd_size (unhide hu) _ _ _).symm) (usd_one _ _ _) ?_
  replace hB := hB.set 0 (x := ⟨w.heap.size, usd K N s len cap, 28⟩) rfl (usd K N (some ⟨gq, 0, none⟩) n c5)
  simp only [List.set_cons_zero, List.set_cons_succ] at hB
  clear hat
  generalize World.setRow _ _ _ = v3 at *
  simp only [Act.put, List.setIfInBounds_toArray, List.set_cons_zero, List.set_cons_succ, List.getElem_toArray, List.getElem_cons_zero, List.getElem_cons_succ]
  (refine wpList_step fun K hK => ?_; replace hK := hide hK; go_simp; refine unhide hK _ _ ?_; clear hK K)
  refine wpList_nil ?_
  have hU := hide (hB.get 0 (x := ⟨w.heap.size, usd K N (some ⟨gq, 0, none⟩) n c5, 28⟩) rfl)
  dsimp only at hU
  have hGw := hide hB.gr
  replace lZ : Hid (Lb v3 s3 m cap2 Z) := lZ.gr hB.gr
  have hc50 : 0 < c5 := by omega
  have lA : Hid (Lb v3 (some ⟨gq, 0, none⟩) n c5 A) := ⟨hn, hAb, .inr ⟨gq, 0, rfl, by
    have h := hat3.take n
    rw [take_snoc A n hn] at h
    exact h⟩, by omega, hmx⟩
  have a7 : Hid (v3.cell? ⟨gq, n, none⟩ = some (.int .u8 7)) := by
    have h := hat3 n (by rw [List.length_append, hn]; simp)
    rw [get_snoc A n hn, Nat.zero_add] at h
    exact h
  have hG : Gr v3 v3 := Gr.refl v3
  clear hB hat3 hAb
  replace hn := hide hn
  replace hG := hide hG
  go_upto_region 4 with fail
  replace hG := unhide hG
  refine any_start (S := fun v => Gr v3 v) (by kernel_rfl) ?_
  have hus := hu
  clear hu
  replace hG := hG.drew
  generalize World.drew _ = x0 at *
  simp only [List.size_toArray, List.length_cons, List.length_nil, Array.replicate, List.replicate]
  refine any_take (i := 0) (v := (.slice s3 m cap2)) #[false, false, false, false, false, false, false, false] rfl (by kernel_rfl) (by kernel_rfl) (by kernel_rfl) (by kernel_rfl) (fun _ _ _ h => h) (.inl ⟨by kernel_rfl, fun x_ hu => by kernel_rfl⟩) hG ?_
  simp only [Act.put, List.setIfInBounds_toArray, List.set_cons_zero, List.set_cons_succ, List.getElem_toArray, List.getElem_cons_zero, List.getElem_cons_succ]
  refine any_take (i := 3) (v := (.pointer (some ⟨w.heap.size, 44, none⟩))) #[true, false, false, false, false, false, false, false] rfl (by kernel_rfl) (by kernel_rfl) (by kernel_rfl) (by kernel_rfl) (fun _ _ _ h => h) (.inl ⟨by kernel_rfl, fun x_ hu => by kernel_rfl⟩) hG ?_
  simp only [Act.put, List.setIfInBounds_toArray, List.set_cons_zero, List.set_cons_succ, List.getElem_toArray, List.getElem_cons_zero, List.getElem_cons_succ]
  refine any_take (i := 4) (v := (.slice (some ⟨gq, 0, none⟩) n c5)) #[true, false, false, true, false, false, false, false] rfl (by kernel_rfl) (by kernel_rfl) (by kernel_rfl) (by kernel_rfl) (fun _ _ _ h => h) (.inl ⟨by kernel_rfl, fun x_ hu => exec_ad _ (.tmp 22) rfl w.heap.size (by kernel_rfl) K N (some ⟨gq, 0, none⟩) n c5 (unhide hus) (hu.blk (unhide hU))⟩) hG ?_
  simp only [Act.put, List.setIfInBounds_toArray, List.set_cons_zero, List.set_cons_succ, List.getElem_toArray, List.getElem_cons_zero, List.getElem_cons_succ]
  refine float_first (fun q u => Oe v3.heap.size u q) 21 (fun b_ => #[true, false, b_, true, true, false, false, false]) 2 1 false rfl rfl (fun _ g_ => hG.trans g_) (by kernel_rfl) (fun b_ => by cases b_ <;> rfl) ?_ ?_
  all_goals simp only [fw1, Act.put, List.setIfInBounds_toArray, List.set_cons_zero, List.set_cons_succ, List.getElem_toArray, List.getElem_cons_zero, List.getElem_cons_succ]
  · intro q_ x_ hgx K_ hQ
    refine wpOp_step (o := _) rfl (fun K' hK' => ?_)
    replace hK' := hide hK'
    replace hQ := hide hQ
    refine step_val (.slice (some ⟨x_.heap.size, 0, none⟩) 0 0) (x_.alloc (.cells (kc []) 5 (0, 0))) (by kernel_rfl) (by kernel_rfl) ?_
    exact unhide hK' _ _ (unhide hQ _ _ ((Gr.refl _).alloc _) (⟨ob_of (blk_new _ _) rfl (Nat.le_trans hG.size hgx.size) (by omega), _, rfl⟩))
  intro b1_1 q1_1 x1_1 hg hTq hall
  replace hG := hG.trans hg
  first | replace hat := hat.gr hg | skip
  clear hall
  refine wpOp_step (o := _) rfl (fun K_ hQ => ?_)
  replace hQ := hide hQ
  refine step_callw (by kernel_rfl) 12 #[.slice s3 m cap2] (by kernel_rfl) ((room_ok Z s3 m cap2 hmb _ ((unhide lZ).gr hG)).mono ?_)
  rintro r x4 ⟨go, co, rfl, hco, hcx, _, hat, hg⟩
  refine ⟨_, rfl, ?_⟩
  replace hTq := fun e => Oe.gr (hTq e) hg
  replace hG := hG.trans hg
  have hPl := (unhide lZ).len
  rw [hPl] at hco ⊢
  clear hg
  refine unhide hQ _ _ ⟨hG, ?_⟩
  clear hQ K_
  simp only [Act.put, List.setIfInBounds_toArray, List.set_cons_zero, List.set_cons_succ, List.getElem_toArray, List.getElem_cons_zero, List.getElem_cons_succ]
  refine float_again (fun q u => Oe v3.heap.size u q) 21 (fun b_ => #[true, true, b_, true, true, false, false, false]) 2 5 true (b := b1_1) (q := q1_1) rfl rfl hTq (fun _ g_ => hG.trans g_) (by kernel_rfl) (fun b_ => by cases b_ <;> rfl) ?_ ?_
  all_goals simp only [fw1, Act.put, List.setIfInBounds_toArray, List.set_cons_zero, List.set_cons_succ, List.getElem_toArray, List.getElem_cons_zero, List.getElem_cons_succ]
  · intro q_ x_ hgx K_ hQ
    refine wpOp_step (o := _) rfl (fun K' hK' => ?_)
    replace hK' := hide hK'
    replace hQ := hide hQ
    refine step_val (.slice (some ⟨x_.heap.size, 0, none⟩) 0 0) (x_.alloc (.cells (kc []) 5 (0, 0))) (by kernel_rfl) (by kernel_rfl) ?_
    exact unhide hK' _ _ (unhide hQ _ _ ((Gr.refl _).alloc _) (⟨ob_of (blk_new _ _) rfl (Nat.le_trans hG.size hgx.size) (by omega), _, rfl⟩))
  clear hTq
  intro b1_5 q1_5 x1_5 hg hTq hall
  replace hG := hG.trans hg
  first | replace hat := hat.gr hg | skip
  obtain rfl : b1_5 = true := hall (by trivial)
  replace hTq := hTq rfl
  clear hall
  obtain ⟨hTq, gz, rfl⟩ := hTq
  refine wpOp_step (o := _) rfl (fun K_ hQ => ?_)
  replace hQ := hide hQ
  rw [if_pos (by kernel_rfl)]
  refine app_op (.tmp 21) (.tmp 23) rfl v3.heap.size _ [] rfl hTq (some ⟨gq, 0, none⟩) n c5 A rfl (unhide hn) ((unhide lA).gr hG).sl (by simp; omega) hG.size ?_
  intro v6_ x6 ob6 hgr
  have hat6 : At x6 go 0 (Z ++ [7]) := fun j hj => by
    rw [cell_heap (hgr.block go (lt_of_cell (hat 0 (by simp))) (apart0 hTq hat))]
    exact hat j hj
  replace hG := Ob.grown hTq (Nat.le_refl _) hG hgr
  rw [List.nil_append] at ob6
  obtain ⟨a6, c6, rfl, lD⟩ := ob6.lb (unhide lA).isB
  rw [unhide hn] at lD ⊢
  clear hgr hTq ob6 hat
  refine unhide hQ _ _ ⟨hG, ?_⟩
  clear hQ K_
  simp only [Act.put, List.setIfInBounds_toArray, List.set_cons_zero, List.set_cons_succ, List.getElem_toArray, List.getElem_cons_zero, List.getElem_cons_succ]
  refine any_one (i := 6) (by kernel_rfl) rfl (fun K_ hQ => ?_)
  replace hQ := hide hQ
  go_simp
  refine (unhide hQ).out _ _ hG (fun _ => ?_)
  clear hQ K_
  refine any_one (i := 7) (by kernel_rfl) rfl (fun K_ hQ => ?_)
  replace hQ := hide hQ
  go_simp
  refine (unhide hQ).out _ _ hG (fun _ => ?_)
  clear hQ K_
  refine any_done (by kernel_rfl) ?_
  have hu := hus
  clear hus
  have lo : Hid (Lb x6 (some ⟨go, 0, none⟩) m co Z) := ⟨hPl, (unhide lZ).isB, .inr ⟨go, 0, rfl, by
    have h := hat6.take m
    rw [take_snoc Z m hPl] at h
    exact h⟩, by omega, hcx⟩
  have o7 : Hid (x6.cell? ⟨go, m, none⟩ = some (.int .u8 7)) := by
    have h := hat6 m (by rw [List.length_append, hPl]; simp)
    rw [get_snoc Z m hPl, Nat.zero_add] at h
    exact h
  replace lD := hide lD
  replace hPl := hide hPl
  clear hat6
  replace lA := hide ((unhide lA).gr hG)
  replace lZ := hide ((unhide lZ).gr hG)
  replace hU := hide (hG.blk (unhide hU))
  replace a7 := hide (hG.cell (unhide a7))
  replace hGw := hide ((unhide hGw).trans hG)
  clear hG
  have hG := Gr.refl x6
  replace hG := hide hG
  go_upto_region 5 with fail
  replace hG := unhide hG
  have hZ2 := unhide hZ
  clear hZ
  subst hZ2
  have hQl : Q.length + 16 = m := by rw [← sealL_len K N A Q]; exact unhide hPl
  obtain ⟨nb, hnb⟩ : ∃ x, x = Q.length := ⟨_, rfl⟩
  rw [← hnb] at hQl
  replace hnb := hide hnb
  refine wp_region_lit ?_
  refine list_val (.pointer (some ⟨w.heap.size, 0, none⟩)) (by kernel_rfl) (by kernel_rfl) ?_
  simp only [Act.put, List.setIfInBounds_toArray, List.set_cons_zero, List.set_cons_succ, List.getElem_toArray, List.getElem_cons_zero, List.getElem_cons_succ]
  refine list_val (.agg (kc K)) (by kernel_rfl) (exec_key _ (.tmp 26) rfl w.heap.size (by kernel_rfl) K N (some ⟨gq, 0, none⟩) n c5 (unhide hu) (hG.blk (unhide hU))) ?_
  simp only [Act.put, List.setIfInBounds_toArray, List.set_cons_zero, List.set_cons_succ, List.getElem_toArray, List.getElem_cons_zero, List.getElem_cons_succ]
  refine list_val (.pointer (some ⟨w.heap.size, 32, none⟩)) (by kernel_rfl) (by kernel_rfl) ?_
  simp only [Act.put, List.setIfInBounds_toArray, List.set_cons_zero, List.set_cons_succ, List.getElem_toArray, List.getElem_cons_zero, List.getElem_cons_succ]
  refine list_val (.agg (kc N)) (by kernel_rfl) (exec_nonce _ (.tmp 28) rfl w.heap.size (by kernel_rfl) K N (some ⟨gq, 0, none⟩) n c5 (unhide hu) (hG.blk (unhide hU))) ?_
  simp only [Act.put, List.setIfInBounds_toArray, List.set_cons_zero, List.set_cons_succ, List.getElem_toArray, List.getElem_cons_zero, List.getElem_cons_succ]
  refine list_val (.slice a6 n c6) (by kernel_rfl) (by kernel_rfl) ?_
  simp only [Act.put, List.setIfInBounds_toArray, List.set_cons_zero, List.set_cons_succ, List.getElem_toArray, List.getElem_cons_zero, List.getElem_cons_succ]
  refine list_val (.slice s3 m cap2) (by kernel_rfl) (by kernel_rfl) ?_
  simp only [Act.put, List.setIfInBounds_toArray, List.set_cons_zero, List.set_cons_succ, List.getElem_toArray, List.getElem_cons_zero, List.getElem_cons_succ]
  refine list_call 16 #[.agg (kc K), .agg (kc N), .slice a6 n c6, .slice s3 m cap2] (by kernel_rfl) (by kernel_rfl) ((ropen_yes K N (unhide hu).kl (unhide hu).nl (unhide hu).kb (unhide hu).nb A Q (unhide hQb) a6 s3 n m c6 cap2 (by omega) (by omega) _ ((unhide lD).gr hG) ((unhide lZ).gr hG)).mono ?_)
  rintro r v5 ⟨v5_, rfl, ob5, hg⟩
  refine ⟨_, rfl, ?_⟩
  replace hG := hG.trans hg
  obtain ⟨sw, cw, rfl, lw⟩ := ob5.lb (unhide hQb)
  rw [← unhide hnb] at lw ⊢
  replace lw := hide lw
  clear hg ob5
  simp only [Act.put, List.setIfInBounds_toArray, List.set_cons_zero, List.set_cons_succ, List.getElem_toArray, List.getElem_cons_zero, List.getElem_cons_succ]
  refine list_val (.tuple #[.slice sw nb cw, .bool true]) (by kernel_rfl) (by kernel_rfl) ?_
  simp only [Act.put, List.setIfInBounds_toArray, List.set_cons_zero, List.set_cons_succ, List.getElem_toArray, List.getElem_cons_zero, List.getElem_cons_succ]
  refine list_val (.slice sw nb cw) (by kernel_rfl) (by kernel_rfl) ?_
  simp only [Act.put, List.setIfInBounds_toArray, List.set_cons_zero, List.set_cons_succ, List.getElem_toArray, List.getElem_cons_zero, List.getElem_cons_succ]
  refine list_val (.bool true) (by kernel_rfl) (by kernel_rfl) ?_
  simp only [Act.put, List.setIfInBounds_toArray, List.set_cons_zero, List.set_cons_succ, List.getElem_toArray, List.getElem_cons_zero, List.getElem_cons_succ]
  (refine wpList_step fun K hK => ?_; replace hK := hide hK; go_simp; refine unhide hK _ _ ?_; clear hK K)
  (refine wpList_step fun K hK => ?_; replace hK := hide hK; go_simp; refine unhide hK _ _ ?_; clear hK K)
  refine wpList_nil ?_
  replace lA := hide ((unhide lA).gr hG)
  replace lZ := hide ((unhide lZ).gr hG)
  replace lo := hide ((unhide lo).gr hG)
  replace lD := hide ((unhide lD).gr hG)
  replace hU := hide (hG.blk (unhide hU))
  replace a7 := hide (hG.cell (unhide a7))
  replace o7 := hide (hG.cell (unhide o7))
  replace hGw := hide ((unhide hGw).trans hG)
  clear hG
  have hG := Gr.refl v5
  replace hG := hide hG
  go_wp2_with fail
  go_loopw [9] (fun i wr => ∃ r : Nat, r ≤ 2 ∧ i = .int .i64 r ∧ Hid (Gr v5 wr)) (fun i _ => 2 - (intOf i).toNat)
  case atStart => exact ⟨0, by omega, rfl, hG⟩
  case round =>
  clear hG
  obtain ⟨r, hr, rfl, hG⟩ := hrel
  by_cases hrl : r < 2
  · have rI : (r : Int) < 2 := by omega
    go_upto_region 9 with fail
    replace hG := unhide hG
    refine wp_region_lit ?_
    refine list_val (.pointer (some ⟨w.heap.size, 0, none⟩)) (by kernel_rfl) (by kernel_rfl) ?_
    simp only [Act.put, List.setIfInBounds_toArray, List.set_cons_zero, List.set_cons_succ, List.getElem_toArray, List.getElem_cons_zero, List.getElem_cons_succ]
    refine list_val (.agg (kc K)) (by kernel_rfl) (exec_key _ (.tmp 40) rfl w.heap.size (by kernel_rfl) K N (some ⟨gq, 0, none⟩) n c5 (unhide hu) (hG.blk (unhide hU))) ?_
    simp only [Act.put, List.setIfInBounds_toArray, List.set_cons_zero, List.set_cons_succ, List.getElem_toArray, List.getElem_cons_zero, List.getElem_cons_succ]
    refine list_val (.pointer (some ⟨w.heap.size, 32, none⟩)) (by kernel_rfl) (by kernel_rfl) ?_
    simp only [Act.put, List.setIfInBounds_toArray, List.set_cons_zero, List.set_cons_succ, List.getElem_toArray, List.getElem_cons_zero, List.getElem_cons_succ]
    refine list_val (.agg (kc N)) (by kernel_rfl) (exec_nonce _ (.tmp 42) rfl w.heap.size (by kernel_rfl) K N (some ⟨gq, 0, none⟩) n c5 (unhide hu) (hG.blk (unhide hU))) ?_
    simp only [Act.put, List.setIfInBounds_toArray, List.set_cons_zero, List.set_cons_succ, List.getElem_toArray, List.getElem_cons_zero, List.getElem_cons_succ]
    refine list_val (.pointer (some ⟨w.heap.size, 44, none⟩)) (by kernel_rfl) (by kernel_rfl) ?_
    simp only [Act.put, List.setIfInBounds_toArray, List.set_cons_zero, List.set_cons_succ, List.getElem_toArray, List.getElem_cons_zero, List.getElem_cons_succ]
    refine list_val (.slice (some ⟨gq, 0, none⟩) n c5) (by kernel_rfl) (exec_ad _ (.tmp 44) rfl w.heap.size (by kernel_rfl) K N (some ⟨gq, 0, none⟩) n c5 (unhide hu) (hG.blk (unhide hU))) ?_
    simp only [Act.put, List.setIfInBounds_toArray, List.set_cons_zero, List.set_cons_succ, List.getElem_toArray, List.getElem_cons_zero, List.getElem_cons_succ]
    refine list_val (.slice (some ⟨go, 0, none⟩) m co) (by kernel_rfl) (by kernel_rfl) ?_
    simp only [Act.put, List.setIfInBounds_toArray, List.set_cons_zero, List.set_cons_succ, List.getElem_toArray, List.getElem_cons_zero, List.getElem_cons_succ]
    have hgw := hG.size
    refine list_call 17 #[.agg (kc K), .agg (kc N), .slice (some ⟨gq, 0, none⟩) n c5, .slice (some ⟨go, 0, none⟩) m co] (by kernel_rfl) (by kernel_rfl) ((open_yes K N (unhide hu).kl (unhide hu).nl (unhide hu).kb (unhide hu).nb A Q (unhide hQb) _ _ n m c5 co (by omega) _ ((unhide lA).gr hG) ((unhide lo).gr hG)).mono ?_)
    rintro r v8 ⟨g8, rfl, hg8, hcur, hg⟩
    refine ⟨_, rfl, ?_⟩
    replace hG := hG.trans hg
    replace hg8 := Nat.le_trans hgw hg8
    rw [← unhide hnb]
    have hat8 := hide (kc_at hcur)
    have hczn : nb ≤ (kc Q).size := by rw [kc_size, unhide hnb]; exact Nat.le_refl _
    generalize hcq : kc Q = cur at hcur hczn
    clear hcq
    replace hcur := hide hcur
    clear hg hgw
    simp only [Act.put, List.setIfInBounds_toArray, List.set_cons_zero, List.set_cons_succ, List.getElem_toArray, List.getElem_cons_zero, List.getElem_cons_succ]
    refine list_val (.tuple #[.slice (some ⟨g8, 0, none⟩) nb nb, .int .i64 0]) (by kernel_rfl) (by kernel_rfl) ?_
    simp only [Act.put, List.setIfInBounds_toArray, List.set_cons_zero, List.set_cons_succ, List.getElem_toArray, List.getElem_cons_zero, List.getElem_cons_succ]
    refine list_val (.slice (some ⟨g8, 0, none⟩) nb nb) (by kernel_rfl) (by kernel_rfl) ?_
    simp only [Act.put, List.setIfInBounds_toArray, List.set_cons_zero, List.set_cons_succ, List.getElem_toArray, List.getElem_cons_zero, List.getElem_cons_succ]
    refine list_val (.int .i64 0) (by kernel_rfl) (by kernel_rfl) ?_
    simp only [Act.put, List.setIfInBounds_toArray, List.set_cons_zero, List.set_cons_succ, List.getElem_toArray, List.getElem_cons_zero, List.getElem_cons_succ]
    (refine wpList_step fun K hK => ?_; replace hK := hide hK; go_simp; refine unhide hK _ _ ?_; clear hK K)
    (refine wpList_step fun K hK => ?_; replace hK := hide hK; go_simp; refine unhide hK _ _ ?_; clear hK K)
    refine wpList_nil ?_
    replace hG := hide hG
    go_upto_region 10 with fail
    replace hG := unhide hG
    refine wp_region_lit ?_
    refine list_val (.int .i64 0) (by kernel_rfl) (by kernel_rfl) ?_
    simp only [Act.put, List.setIfInBounds_toArray, List.set_cons_zero, List.set_cons_succ, List.getElem_toArray, List.getElem_cons_zero, List.getElem_cons_succ]
    refine list_val (.bool true) (by kernel_rfl) (by kernel_rfl) ?_
    simp only [Act.put, List.setIfInBounds_toArray, List.set_cons_zero, List.set_cons_succ, List.getElem_toArray, List.getElem_cons_zero, List.getElem_cons_succ]
    refine list_val (.bool true) (by kernel_rfl) (by kernel_rfl) ?_
    simp only [Act.put, List.setIfInBounds_toArray, List.set_cons_zero, List.set_cons_succ, List.getElem_toArray, List.getElem_cons_zero, List.getElem_cons_succ]
    refine list_val (.bool false) (by kernel_rfl) (by kernel_rfl) ?_
    simp only [Act.put, List.setIfInBounds_toArray, List.set_cons_zero, List.set_cons_succ, List.getElem_toArray, List.getElem_cons_zero, List.getElem_cons_succ]
    refine list_val (.bool false) (by kernel_rfl) (by kernel_rfl) ?_
    simp only [Act.put, List.setIfInBounds_toArray, List.set_cons_zero, List.set_cons_succ, List.getElem_toArray, List.getElem_cons_zero, List.getElem_cons_succ]
    refine list_val (.bool true) (by kernel_rfl) (by kernel_rfl) ?_
    simp only [Act.put, List.setIfInBounds_toArray, List.set_cons_zero, List.set_cons_succ, List.getElem_toArray, List.getElem_cons_zero, List.getElem_cons_succ]
    refine list_val (.bool false) (by kernel_rfl) (by kernel_rfl) ?_
    simp only [Act.put, List.setIfInBounds_toArray, List.set_cons_zero, List.set_cons_succ, List.getElem_toArray, List.getElem_cons_zero, List.getElem_cons_succ]
    refine list_val (.bool false) (by kernel_rfl) (by kernel_rfl) ?_
    simp only [Act.put, List.setIfInBounds_toArray, List.set_cons_zero, List.set_cons_succ, List.getElem_toArray, List.getElem_cons_zero, List.getElem_cons_succ]
    refine wpList_step fun K hK => ?_
    rw [if_neg (ne_true_of_eq_false (by kernel_rfl))]
    refine hK _ _ ?_
    clear hK K
    simp only [Act.put, List.setIfInBounds_toArray, List.set_cons_zero, List.set_cons_succ, List.getElem_toArray, List.getElem_cons_zero, List.getElem_cons_succ]
    refine wpList_step fun K hK => ?_
    rw [if_neg (ne_true_of_eq_false (by kernel_rfl))]
    refine hK _ _ ?_
    clear hK K
    simp only [Act.put, List.setIfInBounds_toArray, List.set_cons_zero, List.set_cons_succ, List.getElem_toArray, List.getElem_cons_zero, List.getElem_cons_succ]
    refine list_val (.bool false) (by kernel_rfl) (by kernel_rfl) ?_
    simp only [Act.put, List.setIfInBounds_toArray, List.set_cons_zero, List.set_cons_succ, List.getElem_toArray, List.getElem_cons_zero, List.getElem_cons_succ]
    refine list_val (.bool false) (by kernel_rfl) (by kernel_rfl) ?_
    simp only [Act.put, List.setIfInBounds_toArray, List.set_cons_zero, List.set_cons_succ, List.getElem_toArray, List.getElem_cons_zero, List.getElem_cons_succ]
    refine list_val (.bool false) (by kernel_rfl) (by kernel_rfl) ?_
    simp only [Act.put, List.setIfInBounds_toArray, List.set_cons_zero, List.set_cons_succ, List.getElem_toArray, List.getElem_cons_zero, List.getElem_cons_succ]
    refine list_val (.slice (some ⟨g8, 0, none⟩) nb nb) (by kernel_rfl) (by kernel_rfl) ?_
    simp only [Act.put, List.setIfInBounds_toArray, List.set_cons_zero, List.set_cons_succ, List.getElem_toArray, List.getElem_cons_zero, List.getElem_cons_succ]
    refine list_val (.slice sw nb cw) (by kernel_rfl) (by kernel_rfl) ?_
    simp only [Act.put, List.setIfInBounds_toArray, List.set_cons_zero, List.set_cons_succ, List.getElem_toArray, List.getElem_cons_zero, List.getElem_cons_succ]
    refine list_call 15 #[.slice (some ⟨g8, 0, none⟩) nb nb, .slice sw nb cw] (by kernel_rfl) (by kernel_rfl) ((equal_same Q _ _ nb nb cw (unhide hnb).symm _ (.inr ⟨g8, 0, rfl, unhide hat8⟩) ((unhide lw).gr hG).sl).mono ?_)
    rintro r vq ⟨rfl, rfl⟩
    refine ⟨_, rfl, ?_⟩
    simp only [Act.put, List.setIfInBounds_toArray, List.set_cons_zero, List.set_cons_succ, List.getElem_toArray, List.getElem_cons_zero, List.getElem_cons_succ]
    refine list_val (.bool false) (by kernel_rfl) (by kernel_rfl) ?_
    simp only [Act.put, List.setIfInBounds_toArray, List.set_cons_zero, List.set_cons_succ, List.getElem_toArray, List.getElem_cons_zero, List.getElem_cons_succ]
    refine list_val (.bool false) (by kernel_rfl) (by kernel_rfl) ?_
    simp only [Act.put, List.setIfInBounds_toArray, List.set_cons_zero, List.set_cons_succ, List.getElem_toArray, List.getElem_cons_zero, List.getElem_cons_succ]
    refine list_val (.bool false) (by kernel_rfl) (by kernel_rfl) ?_
    simp only [Act.put, List.setIfInBounds_toArray, List.set_cons_zero, List.set_cons_succ, List.getElem_toArray, List.getElem_cons_zero, List.getElem_cons_succ]
    refine list_val (.slice (some ⟨go, 0, none⟩) m co) (by kernel_rfl) (by kernel_rfl) ?_
    simp only [Act.put, List.setIfInBounds_toArray, List.set_cons_zero, List.set_cons_succ, List.getElem_toArray, List.getElem_cons_zero, List.getElem_cons_succ]
    refine list_val (.slice s3 m cap2) (by kernel_rfl) (by kernel_rfl) ?_
    simp only [Act.put, List.setIfInBounds_toArray, List.set_cons_zero, List.set_cons_succ, List.getElem_toArray, List.getElem_cons_zero, List.getElem_cons_succ]
    refine list_call 15 #[.slice (some ⟨go, 0, none⟩) m co, .slice s3 m cap2] (by kernel_rfl) (by kernel_rfl) ((equal_same (sealL K N A Q) _ _ m co cap2 (unhide hPl) _ ((unhide lo).gr hG).sl ((unhide lZ).gr hG).sl).mono ?_)
    rintro r vq ⟨rfl, rfl⟩
    refine ⟨_, rfl, ?_⟩
    simp only [Act.put, List.setIfInBounds_toArray, List.set_cons_zero, List.set_cons_succ, List.getElem_toArray, List.getElem_cons_zero, List.getElem_cons_succ]
    refine list_val (.bool false) (by kernel_rfl) (by kernel_rfl) ?_
    simp only [Act.put, List.setIfInBounds_toArray, List.set_cons_zero, List.set_cons_succ, List.getElem_toArray, List.getElem_cons_zero, List.getElem_cons_succ]
    refine list_val (.bool false) (by kernel_rfl) (by kernel_rfl) ?_
    simp only [Act.put, List.setIfInBounds_toArray, List.set_cons_zero, List.set_cons_succ, List.getElem_toArray, List.getElem_cons_zero, List.getElem_cons_succ]
    refine list_val (.bool false) (by kernel_rfl) (by kernel_rfl) ?_
    simp only [Act.put, List.setIfInBounds_toArray, List.set_cons_zero, List.set_cons_succ, List.getElem_toArray, List.getElem_cons_zero, List.getElem_cons_succ]
    refine list_val (.pointer (some ⟨w.heap.size, 44, none⟩)) (by kernel_rfl) (by kernel_rfl) ?_
    simp only [Act.put, List.setIfInBounds_toArray, List.set_cons_zero, List.set_cons_succ, List.getElem_toArray, List.getElem_cons_zero, List.getElem_cons_succ]
    refine list_val (.slice (some ⟨gq, 0, none⟩) n c5) (by kernel_rfl) (exec_ad _ (.tmp 75) rfl w.heap.size (by kernel_rfl) K N (some ⟨gq, 0, none⟩) n c5 (unhide hu) (hG.blk (unhide hU))) ?_
    simp only [Act.put, List.setIfInBounds_toArray, List.set_cons_zero, List.set_cons_succ, List.getElem_toArray, List.getElem_cons_zero, List.getElem_cons_succ]
    refine list_val (.slice a6 n c6) (by kernel_rfl) (by kernel_rfl) ?_
    simp only [Act.put, List.setIfInBounds_toArray, List.set_cons_zero, List.set_cons_succ, List.getElem_toArray, List.getElem_cons_zero, List.getElem_cons_succ]
    refine list_call 15 #[.slice (some ⟨gq, 0, none⟩) n c5, .slice a6 n c6] (by kernel_rfl) (by kernel_rfl) ((equal_same A _ _ n c5 c6 (unhide hn) _ ((unhide lA).gr hG).sl ((unhide lD).gr hG).sl).mono ?_)
    rintro r vq ⟨rfl, rfl⟩
    refine ⟨_, rfl, ?_⟩
    simp only [Act.put, List.setIfInBounds_toArray, List.set_cons_zero, List.set_cons_succ, List.getElem_toArray, List.getElem_cons_zero, List.getElem_cons_succ]
    refine list_val (.bool false) (by kernel_rfl) (by kernel_rfl) ?_
    simp only [Act.put, List.setIfInBounds_toArray, List.set_cons_zero, List.set_cons_succ, List.getElem_toArray, List.getElem_cons_zero, List.getElem_cons_succ]
    refine list_val (.bool false) (by kernel_rfl) (by kernel_rfl) ?_
    simp only [Act.put, List.setIfInBounds_toArray, List.set_cons_zero, List.set_cons_succ, List.getElem_toArray, List.getElem_cons_zero, List.getElem_cons_succ]
    refine wpList_nil ?_
    have hB8 : Hid (Bl v5 [⟨g8, cur, 5⟩] _) := (Bl.nil v5).join hG [⟨g8, cur, 5⟩] (by intro x hx; rw [List.mem_singleton] at hx; subst hx; exact ⟨unhide hcur, hg8⟩) (List.pairwise_singleton _ _)
    clear hcur hat8 hG
    go_wp2_with fail
    go_loopw [83] (fun i wr => ∃ j : Nat, ∃ cc : Array Value, j ≤ nb ∧ i = .int .i64 j ∧ nb ≤ cc.size ∧ Hid (Bl v5 [⟨g8, cc, 5⟩] wr)) (fun i _ => nb - (intOf i).toNat)
    case atStart => exact ⟨0, cur, by omega, rfl, hczn, hB8⟩
    case round =>
    clear hB8
    obtain ⟨j, cc, hj, rfl, hcc, hB8⟩ := hrel
    by_cases hjl : j < nb
    · have c0 := cell_of (i := j) ((unhide hB8).get 0 (x := ⟨g8, cc, 5⟩) rfl) (Array.getElem?_eq_getElem (by dsimp only; omega))
      generalize cc[j]'_ = z at c0
      have fz := froz_of (i := j) ((unhide hB8).get 0 (x := ⟨g8, cc, 5⟩) rfl)
      have hB9 := (unhide hB8).cell 0 (x := ⟨g8, cc, 5⟩) rfl j (.int .u8 238)
      simp only [List.set_cons_zero] at hB9
      have hcc2 : nb ≤ (cc.setIfInBounds j (.int .u8 238)).size := by rw [Array.size_setIfInBounds]; exact hcc
      replace hB9 := hide hB9
      have jI : (j : Int) < (nb : Int) := by omega
      dsimp only at c0 fz
      go_wp2_with fail
      go_roundw
      case rel => exact ⟨j + 1, _, by omega, by go_num, hcc2, hB9⟩
      case measure => simp [intOf]; omega
    have jI : ¬ (j : Int) < (nb : Int) := by omega
    have hG : Hid (Gr v5 wr) := (unhide hB8).gr
    clear hB8
    go_wp2_with fail
    go_roundw
    case rel => exact ⟨r + 1, by omega, by go_num, hG⟩
    case measure => simp [intOf]; omega
  have rI : ¬ (r : Int) < 2 := by omega
  have hF : Hid (Gr w wr) := (unhide hGw).trans (unhide hG)
  clear hU hG
  go_wp2_with fail
  rw [unhide hT]
  exact ⟨rfl, unhide hF⟩
set_option maxHeartbeats 4000000 in
theorem opens_no (K N : List Int) (hu : Us K N) (A0 : List Int) (s : Option Addr) (len cap : Nat) (B : List Int) (s2 : Option Addr) (len2 cap2 : Nat) (w : World) (la0 : Lb w s len cap A0) (lB : Lb w s2 len2 cap2 B) (hno : ∀ Q, IsB Q → B.take (min len2 3000) ≠ sealL K N (A0.take (min len 3000)) Q) : Calls Try.prog 4 #[.agg (usd K N s len cap), .slice s2 len2 cap2] w (Woke w) := by
  obtain ⟨T, hT⟩ : ∃ T, T = Woke w := ⟨_, rfl⟩
  rw [← hT]
  replace hT := hide hT
  replace hu := hide hu; replace la0 := hide la0
  replace lB := hide lB
  replace hno := hide hno
  obtain ⟨SU, hSU⟩ : ∃ S, S = usd K N s len cap := ⟨_, rfl⟩
  rw [← hSU]
  replace hSU := hide hSU
  go_enter Try.func4, Try.ntmps4
  go_upto_region 1 with fail
  have hB := ((Bl.nil w).new SU 28)
  simp only [size_alloc, List.nil_append, List.cons_append] at hB
  generalize World.alloc _ _ = u at *
  rw [unhide hSU] at hB
  replace hB : Bl w [⟨w.heap.size, usd K N s len cap, 28⟩] u := hB
  refine wp_region_lit ?_
  refine list_call 9 #[] (by kernel_rfl) (by kernel_rfl) ((wakes_ok _).mono ?_)
  rintro r v ⟨rfl, hg⟩
  refine ⟨_, rfl, ?_⟩
  replace hB := hB.more hg
  clear hg
  simp only [Act.put, List.setIfInBounds_toArray, List.set_cons_zero, List.set_cons_succ, List.getElem_toArray, List.getElem_cons_zero, List.getElem_cons_succ]
  refine list_val (.bool false) (by kernel_rfl) (by kernel_rfl) ?_
  simp only [Act.put, List.setIfInBounds_toArray, List.set_cons_zero, List.set_cons_succ, List.getElem_toArray, List.getElem_cons_zero, List.getElem_cons_succ]
  refine wpList_nil ?_
  replace hB := hide hB
  go_upto_region 3 with fail
  replace hB := unhide hB
  refine wp_region_lit ?_
  refine list_val (.agg (usd K N s len cap)) (by kernel_rfl) (exec_arr _ 28 (.tmp 2) rfl (w.heap.size) (by kernel_rfl) (usd K N s len cap) 28 _ (hB.get 0 (x := ⟨w.heap.size, usd K N s len cap, 28⟩) rfl) Try.underlying28 rfl (by rw [Try.infoU8, usd_size (unhide hu)])) ?_
  simp only [Act.put, List.setIfInBounds_toArray, List.set_cons_zero, List.set_cons_succ, List.getElem_toArray, List.getElem_cons_zero, List.getElem_cons_succ]
  have hlt0 := lt_of_block (hB.get 0 (x := ⟨w.heap.size, usd K N s len cap, 28⟩) rfl)
  dsimp only at hlt0
  refine list_call 10 #[.agg (usd K N s len cap)] (by kernel_rfl) (by kernel_rfl) ((short_ok K N (unhide hu) A0 s len cap _ ((unhide la0).gr hB.gr)).mono ?_)
  rintro r v2 ⟨gq, c5, rfl, hc5, hmx, hgq, hat, hg⟩
  refine ⟨_, rfl, ?_⟩
  have hne0 : w.heap.size < gq := by omega
  replace hB := hB.more hg
  have hAb : IsB (A0.take (min len 3000)) := (unhide la0).isB.take _
  have hAl : (A0.take (min len 3000)).length ≤ 3000 := by rw [List.length_take]; omega
  generalize A0.take (min len 3000) = A at *
  obtain ⟨n, hn⟩ : ∃ n, A.length = n := ⟨_, rfl⟩
  rw [hn] at hc5 hAl ⊢
  clear hg hgq hlt0
  simp only [Act.put, List.setIfInBounds_toArray, List.set_cons_zero, List.set_cons_succ, List.getElem_toArray, List.getElem_cons_zero, List.getElem_cons_succ]
  refine list_val (.slice s2 len2 cap2) (by kernel_rfl) (by kernel_rfl) ?_
  simp only [Act.put, List.setIfInBounds_toArray, List.set_cons_zero, List.set_cons_succ, List.getElem_toArray, List.getElem_cons_zero, List.getElem_cons_succ]
  refine list_call 11 #[.slice s2 len2 cap2] (by kernel_rfl) (by kernel_rfl) ((cut_ok B s2 len2 cap2 _ ((unhide lB).gr hB.gr)).mono ?_)
  rintro r v2_ ⟨s3, rfl, hcut, hw2⟩
  refine ⟨_, rfl, ?_⟩
  replace hw2 := hw2.symm
  subst hw2
  have lZ := hcut _ (unhide lB)
  have hmb : min len2 3000 ≤ 3000 := Nat.min_le_right _ _
  generalize B.take (min len2 3000) = Z at *
  generalize min len2 3000 = m at *
  clear hcut
  simp only [Act.put, List.setIfInBounds_toArray, List.set_cons_zero, List.set_cons_succ, List.getElem_toArray, List.getElem_cons_zero, List.getElem_cons_succ]
  have hat3 : At (World.setRow v2 w.heap.size (usd K N (some ⟨gq, 0, none⟩) n c5)) gq 0 (A ++ [7]) := fun j hj => by
    rw [cell_heap (setRow_other v2 w.heap.size gq _ (by omega))]
    exact hat j hj
  refine list_store 28 (.tmp 2) (.tmp 16) w.heap.size (usd K N (some ⟨gq, 0, none⟩) n c5) 28 (usd K N s len cap) (by kernel_rfl) rfl (by kernel_rfl) (by kernel_rfl) (hB.get 0 (x := ⟨w.heap.size, usd K N s len cap, 28⟩) rfl) (by rw [Try.infoU8, usd_size (unhide hu)]) ((usd_size (unhide hu) _ _ _).trans (usd_size (unhide hu) _ _ _).symm) (usd_one _ _ _) ?_
  replace hB := hB.set 0 (x := ⟨w.heap.size, usd K N s len cap, 28⟩) rfl (usd K N (some ⟨gq, 0, none⟩) n c5)
  simp only [List.set_cons_zero, List.set_cons_succ] at hB
  clear hat
  generalize World.setRow _ _ _ = v3 at *
  simp only [Act.put, List.setIfInBounds_toArray, List.set_cons_zero, List.set_cons_succ, List.getElem_toArray, List.getElem_cons_zero, List.getElem_cons_succ]
  (refine wpList_step fun K hK => ?_; replace hK := hide hK; go_simp; refine unhide hK _ _ ?_; clear hK K)
  refine wpList_nil ?_
  have hU := hide (hB.get 0 (x := ⟨w.heap.size, usd K N (some ⟨gq, 0, none⟩) n c5, 28⟩) rfl)
  dsimp only at hU
  have hGw := hide hB.gr
  replace lZ : Hid (Lb v3 s3 m cap2 Z) := lZ.gr hB.gr
  have hc50 : 0 < c5 := by omega
  have lA : Hid (Lb v3 (some ⟨gq, 0, none⟩) n c5 A) := ⟨hn, hAb, .inr ⟨gq, 0, rfl, by
    have h := hat3.take n
    rw [take_snoc A n hn] at h
    exact h⟩, by omega, hmx⟩
  have a7 : Hid (v3.cell? ⟨gq, n, none⟩ = some (.int .u8 7)) := by
    have h := hat3 n (by rw [List.length_append, hn]; simp)
    rw [get_snoc A n hn, Nat.zero_add] at h
    exact h
  have hG : Gr v3 v3 := Gr.refl v3
  clear hB hat3 hAb
  replace hn := hide hn
  replace hG := hide hG
  go_upto_region 4 with fail
  replace hG := unhide hG
  refine any_start (S := fun v => Gr v3 v) (by kernel_rfl) ?_
  have hus := hu
  clear hu
  replace hG := hG.drew
  generalize World.drew _ = x0 at *
  simp only [List.size_toArray, List.length_cons, List.length_nil, Array.replicate, List.replicate]
  refine any_take (i := 0) (v := (.slice s3 m cap2)) #[false, false, false, false, false, false, false, false] rfl (by kernel_rfl) (by kernel_rfl) (by kernel_rfl) (by kernel_rfl) (fun _ _ _ h => h) (.inl ⟨by kernel_rfl, fun x_ hu => by kernel_rfl⟩) hG ?_
  simp only [Act.put, List.setIfInBounds_toArray, List.set_cons_zero, List.set_cons_succ, List.getElem_toArray, List.getElem_cons_zero, List.getElem_cons_succ]
  refine any_take (i := 3) (v := (.pointer (some ⟨w.heap.size, 44, none⟩))) #[true, false, false, false, false, false, false, false] rfl (by kernel_rfl) (by kernel_rfl) (by kernel_rfl) (by kernel_rfl) (fun _ _ _ h => h) (.inl ⟨by kernel_rfl, fun x_ hu => by kernel_rfl⟩) hG ?_
  simp only [Act.put, List.setIfInBounds_toArray, List.set_cons_zero, List.set_cons_succ, List.getElem_toArray, List.getElem_cons_zero, List.getElem_cons_succ]
  refine any_take (i := 4) (v := (.slice (some ⟨gq, 0, none⟩) n c5)) #[true, false, false, true, false, false, false, false] rfl (by kernel_rfl) (by kernel_rfl) (by kernel_rfl) (by kernel_rfl) (fun _ _ _ h => h) (.inl ⟨by kernel_rfl, fun x_ hu => exec_ad _ (.tmp 22) rfl w.heap.size (by kernel_rfl) K N (some ⟨gq, 0, none⟩) n c5 (unhide hus) (hu.blk (unhide hU))⟩) hG ?_
  simp only [Act.put, List.setIfInBounds_toArray, List.set_cons_zero, List.set_cons_succ, List.getElem_toArray, List.getElem_cons_zero, List.getElem_cons_succ]
  refine float_first (fun q u => Oe v3.heap.size u q) 21 (fun b_ => #[true, false, b_, true, true, false, false, false]) 2 1 false rfl rfl (fun _ g_ => hG.trans g_) (by kernel_rfl) (fun b_ => by cases b_ <;> rfl) ?_ ?_
  all_goals simp only [fw1, Act.put, List.setIfInBounds_toArray, List.set_cons_zero, List.set_cons_succ, List.getElem_toArray, List.getElem_cons_zero, List.getElem_cons_succ]
  · intro q_ x_ hgx K_ hQ
    refine wpOp_step (o := _) rfl (fun K' hK' => ?_)
    replace hK' := hide hK'
    replace hQ := hide hQ
    refine step_val (.slice (some ⟨x_.heap.size, 0, none⟩) 0 0) (x_.alloc (.cells (kc []) 5 (0, 0))) (by kernel_rfl) (by kernel_rfl) ?_
    exact unhide hK' _ _ (unhide hQ _ _ ((Gr.refl _).alloc _) (⟨ob_of (blk_new _ _) rfl (Nat.le_trans hG.size hgx.size) (by omega), _, rfl⟩))
  intro b1_1 q1_1 x1_1 hg hTq hall
  replace hG := hG.trans hg
  first | replace hat := hat.gr hg | skip
  clear hall
  refine wpOp_step (o := _) rfl (fun K_ hQ => ?_)
  replace hQ := hide hQ
  refine step_callw (by kernel_rfl) 12 #[.slice s3 m cap2] (by kernel_rfl) ((room_ok Z s3 m cap2 hmb _ ((unhide lZ).gr hG)).mono ?_)
  rintro r x4 ⟨go, co, rfl, hco, hcx, _, hat, hg⟩
  refine ⟨_, rfl, ?_⟩
  replace hTq := fun e => Oe.gr (hTq e) hg
  replace hG := hG.trans hg
  have hPl := (unhide lZ).len
  rw [hPl] at hco ⊢
  clear hg
  refine unhide hQ _ _ ⟨hG, ?_⟩
  clear hQ K_
  simp only [Act.put, List.setIfInBounds_toArray, List.set_cons_zero, List.set_cons_succ, List.getElem_toArray, List.getElem_cons_zero, List.getElem_cons_succ]
  refine float_again (fun q u => Oe v3.heap.size u q) 21 (fun b_ => #[true, true, b_, true, true, false, false, false]) 2 5 true (b := b1_1) (q := q1_1) rfl rfl hTq (fun _ g_ => hG.trans g_) (by kernel_rfl) (fun b_ => by cases b_ <;> rfl) ?_ ?_
  all_goals simp only [fw1, Act.put, List.setIfInBounds_toArray, List.set_cons_zero, List.set_cons_succ, List.getElem_toArray, List.getElem_cons_zero, List.getElem_cons_succ]
  · intro q_ x_ hgx K_ hQ
    refine wpOp_step (o := _) rfl (fun K' hK' => ?_)
    replace hK' := hide hK'
    replace hQ := hide hQ
    refine step_val (.slice (some ⟨x_.heap.size, 0, none⟩) 0 0) (x_.alloc (.cells (kc []) 5 (0, 0))) (by kernel_rfl) (by kernel_rfl) ?_
    exact unhide hK' _ _ (unhide hQ _ _ ((Gr.refl _).alloc _) (⟨ob_of (blk_new _ _) rfl (Nat.le_trans hG.size hgx.size) (by omega), _, rfl⟩))
  clear hTq
  intro b1_5 q1_5 x1_5 hg hTq hall
  replace hG := hG.trans hg
  first | replace hat := hat.gr hg | skip
  obtain rfl : b1_5 = true := hall (by trivial)
  replace hTq := hTq rfl
  clear hall
  obtain ⟨hTq, gz, rfl⟩ := hTq
  refine wpOp_step (o := _) rfl (fun K_ hQ => ?_)
  replace hQ := hide hQ
  rw [if_pos (by kernel_rfl)]
  refine app_op (.tmp 21) (.tmp 23) rfl v3.heap.size _ [] rfl hTq (some ⟨gq, 0, none⟩) n c5 A rfl (unhide hn) ((unhide lA).gr hG).sl (by simp; omega) hG.size ?_
  intro v6_ x6 ob6 hgr
  have hat6 : At x6 go 0 (Z ++ [7]) := fun j hj => by
    rw [cell_heap (hgr.block go (lt_of_cell (hat 0 (by simp))) (apart0 hTq hat))]
    exact hat j hj
  replace hG := Ob.grown hTq (Nat.le_refl _) hG hgr
  rw [List.nil_append] at ob6
  obtain ⟨a6, c6, rfl, lD⟩ := ob6.lb (unhide lA).isB
  rw [unhide hn] at lD ⊢
  clear hgr hTq ob6 hat
  refine unhide hQ _ _ ⟨hG, ?_⟩
  clear hQ K_
  simp only [Act.put, List.setIfInBounds_toArray, List.set_cons_zero, List.set_cons_succ, List.getElem_toArray, List.getElem_cons_zero, List.getElem_cons_succ]
  refine any_one (i := 6) (by kernel_rfl) rfl (fun K_ hQ => ?_)
  replace hQ := hide hQ
  go_simp
  refine (unhide hQ).out _ _ hG (fun _ => ?_)
  clear hQ K_
  refine any_one (i := 7) (by kernel_rfl) rfl (fun K_ hQ => ?_)
  replace hQ := hide hQ
  go_simp
  refine (unhide hQ).out _ _ hG (fun _ => ?_)
  clear hQ K_
  refine any_done (by kernel_rfl) ?_
  have hu := hus
  clear hus
  have lo : Hid (Lb x6 (some ⟨go, 0, none⟩) m co Z) := ⟨hPl, (unhide lZ).isB, .inr ⟨go, 0, rfl, by
    have h := hat6.take m
    rw [take_snoc Z m hPl] at h
    exact h⟩, by omega, hcx⟩
  have o7 : Hid (x6.cell? ⟨go, m, none⟩ = some (.int .u8 7)) := by
    have h := hat6 m (by rw [List.length_append, hPl]; simp)
    rw [get_snoc Z m hPl, Nat.zero_add] at h
    exact h
  replace lD := hide lD
  replace hPl := hide hPl
  clear hat6
  replace lA := hide ((unhide lA).gr hG)
  replace lZ := hide ((unhide lZ).gr hG)
  replace hU := hide (hG.blk (unhide hU))
  replace a7 := hide (hG.cell (unhide a7))
  replace hGw := hide ((unhide hGw).trans hG)
  clear hG
  have hG := Gr.refl x6
  replace hG := hide hG
  go_upto_region 5 with fail
  replace hG := unhide hG
  refine wp_region_lit ?_
  refine list_val (.pointer (some ⟨w.heap.size, 0, none⟩)) (by kernel_rfl) (by kernel_rfl) ?_
  simp only [Act.put, List.setIfInBounds_toArray, List.set_cons_zero, List.set_cons_succ, List.getElem_toArray, List.getElem_cons_zero, List.getElem_cons_succ]
  refine list_val (.agg (kc K)) (by kernel_rfl) (exec_key _ (.tmp 26) rfl w.heap.size (by kernel_rfl) K N (some ⟨gq, 0, none⟩) n c5 (unhide hu) (hG.blk (unhide hU))) ?_
  simp only [Act.put, List.setIfInBounds_toArray, List.set_cons_zero, List.set_cons_succ, List.getElem_toArray, List.getElem_cons_zero, List.getElem_cons_succ]
  refine list_val (.pointer (some ⟨w.heap.size, 32, none⟩)) (by kernel_rfl) (by kernel_rfl) ?_
  simp only [Act.put, List.setIfInBounds_toArray, List.set_cons_zero, List.set_cons_succ, List.getElem_toArray, List.getElem_cons_zero, List.getElem_cons_succ]
  refine list_val (.agg (kc N)) (by kernel_rfl) (exec_nonce _ (.tmp 28) rfl w.heap.size (by kernel_rfl) K N (some ⟨gq, 0, none⟩) n c5 (unhide hu) (hG.blk (unhide hU))) ?_
  simp only [Act.put, List.setIfInBounds_toArray, List.set_cons_zero, List.set_cons_succ, List.getElem_toArray, List.getElem_cons_zero, List.getElem_cons_succ]
  refine list_val (.slice a6 n c6) (by kernel_rfl) (by kernel_rfl) ?_
  simp only [Act.put, List.setIfInBounds_toArray, List.set_cons_zero, List.set_cons_succ, List.getElem_toArray, List.getElem_cons_zero, List.getElem_cons_succ]
  refine list_val (.slice s3 m cap2) (by kernel_rfl) (by kernel_rfl) ?_
  simp only [Act.put, List.setIfInBounds_toArray, List.set_cons_zero, List.set_cons_succ, List.getElem_toArray, List.getElem_cons_zero, List.getElem_cons_succ]
  refine list_call 16 #[.agg (kc K), .agg (kc N), .slice a6 n c6, .slice s3 m cap2] (by kernel_rfl) (by kernel_rfl) ((ropen_no K N (unhide hu).kl (unhide hu).nl (unhide hu).kb (unhide hu).nb A Z a6 s3 n m c6 cap2 (by omega) (by omega) _ ((unhide lD).gr hG) ((unhide lZ).gr hG) (unhide hno)).mono ?_)
  rintro r v5 ⟨rfl, hg⟩
  refine ⟨_, rfl, ?_⟩
  replace hG := hG.trans hg
  clear hg
  simp only [Act.put, List.setIfInBounds_toArray, List.set_cons_zero, List.set_cons_succ, List.getElem_toArray, List.getElem_cons_zero, List.getElem_cons_succ]
  refine list_val (.tuple #[.slice none 0 0, .bool false]) (by kernel_rfl) (by kernel_rfl) ?_
  simp only [Act.put, List.setIfInBounds_toArray, List.set_cons_zero, List.set_cons_succ, List.getElem_toArray, List.getElem_cons_zero, List.getElem_cons_succ]
  refine list_val (.slice none 0 0) (by kernel_rfl) (by kernel_rfl) ?_
  simp only [Act.put, List.setIfInBounds_toArray, List.set_cons_zero, List.set_cons_succ, List.getElem_toArray, List.getElem_cons_zero, List.getElem_cons_succ]
  refine list_val (.bool false) (by kernel_rfl) (by kernel_rfl) ?_
  simp only [Act.put, List.setIfInBounds_toArray, List.set_cons_zero, List.set_cons_succ, List.getElem_toArray, List.getElem_cons_zero, List.getElem_cons_succ]
  (refine wpList_step fun K hK => ?_; replace hK := hide hK; go_simp; refine unhide hK _ _ ?_; clear hK K)
  (refine wpList_step fun K hK => ?_; replace hK := hide hK; go_simp; refine unhide hK _ _ ?_; clear hK K)
  refine wpList_nil ?_
  replace lA := hide ((unhide lA).gr hG)
  replace lZ := hide ((unhide lZ).gr hG)
  replace lo := hide ((unhide lo).gr hG)
  replace lD := hide ((unhide lD).gr hG)
  replace hU := hide (hG.blk (unhide hU))
  replace a7 := hide (hG.cell (unhide a7))
  replace o7 := hide (hG.cell (unhide o7))
  replace hGw := hide ((unhide hGw).trans hG)
  clear hG
  have hG := Gr.refl v5
  replace hG := hide hG
  go_wp2_with fail
  go_loopw [9] (fun i wr => ∃ r : Nat, r ≤ 2 ∧ i = .int .i64 r ∧ Hid (Gr v5 wr)) (fun i _ => 2 - (intOf i).toNat)
  case atStart => exact ⟨0, by omega, rfl, hG⟩
  case round =>
  clear hG
  obtain ⟨r, hr, rfl, hG⟩ := hrel
  by_cases hrl : r < 2
  · have rI : (r : Int) < 2 := by omega
    go_upto_region 9 with fail
    replace hG := unhide hG
    refine wp_region_lit ?_
    refine list_val (.pointer (some ⟨w.heap.size, 0, none⟩)) (by kernel_rfl) (by kernel_rfl) ?_
    simp only [Act.put, List.setIfInBounds_toArray, List.set_cons_zero, List.set_cons_succ, List.getElem_toArray, List.getElem_cons_zero, List.getElem_cons_succ]
    refine list_val (.agg (kc K)) (by kernel_rfl) (exec_key _ (.tmp 40) rfl w.heap.size (by kernel_rfl) K N (some ⟨gq, 0, none⟩) n c5 (unhide hu) (hG.blk (unhide hU))) ?_
    simp only [Act.put, List.setIfInBounds_toArray, List.set_cons_zero, List.set_cons_succ, List.getElem_toArray, List.getElem_cons_zero, List.getElem_cons_succ]
    refine list_val (.pointer (some ⟨w.heap.size, 32, none⟩)) (by kernel_rfl) (by kernel_rfl) ?_
    simp only [Act.put, List.setIfInBounds_toArray, List.set_cons_zero, List.set_cons_succ, List.getElem_toArray, List.getElem_cons_zero, List.getElem_cons_succ]
    refine list_val (.agg (kc N)) (by kernel_rfl) (exec_nonce _ (.tmp 42) rfl w.heap.size (by kernel_rfl) K N (some ⟨gq, 0, none⟩) n c5 (unhide hu) (hG.blk (unhide hU))) ?_
    simp only [Act.put, List.setIfInBounds_toArray, List.set_cons_zero, List.set_cons_succ, List.getElem_toArray, List.getElem_cons_zero, List.getElem_cons_succ]
    refine list_val (.pointer (some ⟨w.heap.size, 44, none⟩)) (by kernel_rfl) (by kernel_rfl) ?_
    simp only [Act.put, List.setIfInBounds_toArray, List.set_cons_zero, List.set_cons_succ, List.getElem_toArray, List.getElem_cons_zero, List.getElem_cons_succ]
    refine list_val (.slice (some ⟨gq, 0, none⟩) n c5) (by kernel_rfl) (exec_ad _ (.tmp 44) rfl w.heap.size (by kernel_rfl) K N (some ⟨gq, 0, none⟩) n c5 (unhide hu) (hG.blk (unhide hU))) ?_
    simp only [Act.put, List.setIfInBounds_toArray, List.set_cons_zero, List.set_cons_succ, List.getElem_toArray, List.getElem_cons_zero, List.getElem_cons_succ]
    refine list_val (.slice (some ⟨go, 0, none⟩) m co) (by kernel_rfl) (by kernel_rfl) ?_
    simp only [Act.put, List.setIfInBounds_toArray, List.set_cons_zero, List.set_cons_succ, List.getElem_toArray, List.getElem_cons_zero, List.getElem_cons_succ]
    refine list_call 17 #[.agg (kc K), .agg (kc N), .slice (some ⟨gq, 0, none⟩) n c5, .slice (some ⟨go, 0, none⟩) m co] (by kernel_rfl) (by kernel_rfl) ((open_no K N (unhide hu).kl (unhide hu).nl (unhide hu).kb (unhide hu).nb A Z _ _ n m c5 co (by omega) _ ((unhide lA).gr hG) ((unhide lo).gr hG) (unhide hno)).mono ?_)
    rintro r v8 ⟨rfl, hg⟩
    refine ⟨_, rfl, ?_⟩
    replace hG := hG.trans hg
    clear hg
    simp only [Act.put, List.setIfInBounds_toArray, List.set_cons_zero, List.set_cons_succ, List.getElem_toArray, List.getElem_cons_zero, List.getElem_cons_succ]
    refine list_val (.tuple #[.slice none 0 0, .int .i64 180]) (by kernel_rfl) (by kernel_rfl) ?_
    simp only [Act.put, List.setIfInBounds_toArray, List.set_cons_zero, List.set_cons_succ, List.getElem_toArray, List.getElem_cons_zero, List.getElem_cons_succ]
    refine list_val (.slice none 0 0) (by kernel_rfl) (by kernel_rfl) ?_
    simp only [Act.put, List.setIfInBounds_toArray, List.set_cons_zero, List.set_cons_succ, List.getElem_toArray, List.getElem_cons_zero, List.getElem_cons_succ]
    refine list_val (.int .i64 180) (by kernel_rfl) (by kernel_rfl) ?_
    simp only [Act.put, List.setIfInBounds_toArray, List.set_cons_zero, List.set_cons_succ, List.getElem_toArray, List.getElem_cons_zero, List.getElem_cons_succ]
    (refine wpList_step fun K hK => ?_; replace hK := hide hK; go_simp; refine unhide hK _ _ ?_; clear hK K)
    (refine wpList_step fun K hK => ?_; replace hK := hide hK; go_simp; refine unhide hK _ _ ?_; clear hK K)
    refine wpList_nil ?_
    replace hG := hide hG
    go_upto_region 10 with fail
    replace hG := unhide hG
    refine wp_region_lit ?_
    refine list_val (.int .i64 180) (by kernel_rfl) (by kernel_rfl) ?_
    simp only [Act.put, List.setIfInBounds_toArray, List.set_cons_zero, List.set_cons_succ, List.getElem_toArray, List.getElem_cons_zero, List.getElem_cons_succ]
    refine list_val (.bool false) (by kernel_rfl) (by kernel_rfl) ?_
    simp only [Act.put, List.setIfInBounds_toArray, List.set_cons_zero, List.set_cons_succ, List.getElem_toArray, List.getElem_cons_zero, List.getElem_cons_succ]
    refine list_val (.bool false) (by kernel_rfl) (by kernel_rfl) ?_
    simp only [Act.put, List.setIfInBounds_toArray, List.set_cons_zero, List.set_cons_succ, List.getElem_toArray, List.getElem_cons_zero, List.getElem_cons_succ]
    refine list_val (.bool false) (by kernel_rfl) (by kernel_rfl) ?_
    simp only [Act.put, List.setIfInBounds_toArray, List.set_cons_zero, List.set_cons_succ, List.getElem_toArray, List.getElem_cons_zero, List.getElem_cons_succ]
    refine list_val (.bool false) (by kernel_rfl) (by kernel_rfl) ?_
    simp only [Act.put, List.setIfInBounds_toArray, List.set_cons_zero, List.set_cons_succ, List.getElem_toArray, List.getElem_cons_zero, List.getElem_cons_succ]
    refine list_val (.bool false) (by kernel_rfl) (by kernel_rfl) ?_
    simp only [Act.put, List.setIfInBounds_toArray, List.set_cons_zero, List.set_cons_succ, List.getElem_toArray, List.getElem_cons_zero, List.getElem_cons_succ]
    refine list_val (.bool true) (by kernel_rfl) (by kernel_rfl) ?_
    simp only [Act.put, List.setIfInBounds_toArray, List.set_cons_zero, List.set_cons_succ, List.getElem_toArray, List.getElem_cons_zero, List.getElem_cons_succ]
    refine list_val (.bool true) (by kernel_rfl) (by kernel_rfl) ?_
    simp only [Act.put, List.setIfInBounds_toArray, List.set_cons_zero, List.set_cons_succ, List.getElem_toArray, List.getElem_cons_zero, List.getElem_cons_succ]
    refine list_val (.int .i64 180) (by kernel_rfl) (by kernel_rfl) ?_
    simp only [Act.put, List.setIfInBounds_toArray, List.set_cons_zero, List.set_cons_succ, List.getElem_toArray, List.getElem_cons_zero, List.getElem_cons_succ]
    refine list_val (.bool false) (by kernel_rfl) (by kernel_rfl) ?_
    simp only [Act.put, List.setIfInBounds_toArray, List.set_cons_zero, List.set_cons_succ, List.getElem_toArray, List.getElem_cons_zero, List.getElem_cons_succ]
    refine list_val (.bool false) (by kernel_rfl) (by kernel_rfl) ?_
    simp only [Act.put, List.setIfInBounds_toArray, List.set_cons_zero, List.set_cons_succ, List.getElem_toArray, List.getElem_cons_zero, List.getElem_cons_succ]
    refine list_val (.bool false) (by kernel_rfl) (by kernel_rfl) ?_
    simp only [Act.put, List.setIfInBounds_toArray, List.set_cons_zero, List.set_cons_succ, List.getElem_toArray, List.getElem_cons_zero, List.getElem_cons_succ]
    refine list_val (.bool false) (by kernel_rfl) (by kernel_rfl) ?_
    simp only [Act.put, List.setIfInBounds_toArray, List.set_cons_zero, List.set_cons_succ, List.getElem_toArray, List.getElem_cons_zero, List.getElem_cons_succ]
    refine list_val (.slice none 0 0) (by kernel_rfl) (by kernel_rfl) ?_
    simp only [Act.put, List.setIfInBounds_toArray, List.set_cons_zero, List.set_cons_succ, List.getElem_toArray, List.getElem_cons_zero, List.getElem_cons_succ]
    refine list_val (.slice none 0 0) (by kernel_rfl) (by kernel_rfl) ?_
    simp only [Act.put, List.setIfInBounds_toArray, List.set_cons_zero, List.set_cons_succ, List.getElem_toArray, List.getElem_cons_zero, List.getElem_cons_succ]
    refine list_call 15 #[.slice none 0 0, .slice none 0 0] (by kernel_rfl) (by kernel_rfl) ((equal_same [] _ _ 0 0 0 rfl _ (.inl rfl) (.inl rfl)).mono ?_)
    rintro r vq ⟨rfl, rfl⟩
    refine ⟨_, rfl, ?_⟩
    simp only [Act.put, List.setIfInBounds_toArray, List.set_cons_zero, List.set_cons_succ, List.getElem_toArray, List.getElem_cons_zero, List.getElem_cons_succ]
    refine list_val (.bool false) (by kernel_rfl) (by kernel_rfl) ?_
    simp only [Act.put, List.setIfInBounds_toArray, List.set_cons_zero, List.set_cons_succ, List.getElem_toArray, List.getElem_cons_zero, List.getElem_cons_succ]
    refine list_val (.bool false) (by kernel_rfl) (by kernel_rfl) ?_
    simp only [Act.put, List.setIfInBounds_toArray, List.set_cons_zero, List.set_cons_succ, List.getElem_toArray, List.getElem_cons_zero, List.getElem_cons_succ]
    refine list_val (.bool false) (by kernel_rfl) (by kernel_rfl) ?_
    simp only [Act.put, List.setIfInBounds_toArray, List.set_cons_zero, List.set_cons_succ, List.getElem_toArray, List.getElem_cons_zero, List.getElem_cons_succ]
    refine list_val (.slice (some ⟨go, 0, none⟩) m co) (by kernel_rfl) (by kernel_rfl) ?_
    simp only [Act.put, List.setIfInBounds_toArray, List.set_cons_zero, List.set_cons_succ, List.getElem_toArray, List.getElem_cons_zero, List.getElem_cons_succ]
    refine list_val (.slice s3 m cap2) (by kernel_rfl) (by kernel_rfl) ?_
    simp only [Act.put, List.setIfInBounds_toArray, List.set_cons_zero, List.set_cons_succ, List.getElem_toArray, List.getElem_cons_zero, List.getElem_cons_succ]
    refine list_call 15 #[.slice (some ⟨go, 0, none⟩) m co, .slice s3 m cap2] (by kernel_rfl) (by kernel_rfl) ((equal_same Z _ _ m co cap2 (unhide hPl) _ ((unhide lo).gr hG).sl ((unhide lZ).gr hG).sl).mono ?_)
    rintro r vq ⟨rfl, rfl⟩
    refine ⟨_, rfl, ?_⟩
    simp only [Act.put, List.setIfInBounds_toArray, List.set_cons_zero, List.set_cons_succ, List.getElem_toArray, List.getElem_cons_zero, List.getElem_cons_succ]
    refine list_val (.bool false) (by kernel_rfl) (by kernel_rfl) ?_
    simp only [Act.put, List.setIfInBounds_toArray, List.set_cons_zero, List.set_cons_succ, List.getElem_toArray, List.getElem_cons_zero, List.getElem_cons_succ]
    refine list_val (.bool false) (by kernel_rfl) (by kernel_rfl) ?_
    simp only [Act.put, List.setIfInBounds_toArray, List.set_cons_zero, List.set_cons_succ, List.getElem_toArray, List.getElem_cons_zero, List.getElem_cons_succ]
    refine list_val (.bool false) (by kernel_rfl) (by kernel_rfl) ?_
    simp only [Act.put, List.setIfInBounds_toArray, List.set_cons_zero, List.set_cons_succ, List.getElem_toArray, List.getElem_cons_zero, List.getElem_cons_succ]
    refine list_val (.pointer (some ⟨w.heap.size, 44, none⟩)) (by kernel_rfl) (by kernel_rfl) ?_
    simp only [Act.put, List.setIfInBounds_toArray, List.set_cons_zero, List.set_cons_succ, List.getElem_toArray, List.getElem_cons_zero, List.getElem_cons_succ]
    refine list_val (.slice (some ⟨gq, 0, none⟩) n c5) (by kernel_rfl) (exec_ad _ (.tmp 75) rfl w.heap.size (by kernel_rfl) K N (some ⟨gq, 0, none⟩) n c5 (unhide hu) (hG.blk (unhide hU))) ?_
    simp only [Act.put, List.setIfInBounds_toArray, List.set_cons_zero, List.set_cons_succ, List.getElem_toArray, List.getElem_cons_zero, List.getElem_cons_succ]
    refine list_val (.slice a6 n c6) (by kernel_rfl) (by kernel_rfl) ?_
    simp only [Act.put, List.setIfInBounds_toArray, List.set_cons_zero, List.set_cons_succ, List.getElem_toArray, List.getElem_cons_zero, List.getElem_cons_succ]
    refine list_call 15 #[.slice (some ⟨gq, 0, none⟩) n c5, .slice a6 n c6] (by kernel_rfl) (by kernel_rfl) ((equal_same A _ _ n c5 c6 (unhide hn) _ ((unhide lA).gr hG).sl ((unhide lD).gr hG).sl).mono ?_)
    rintro r vq ⟨rfl, rfl⟩
    refine ⟨_, rfl, ?_⟩
    simp only [Act.put, List.setIfInBounds_toArray, List.set_cons_zero, List.set_cons_succ, List.getElem_toArray, List.getElem_cons_zero, List.getElem_cons_succ]
    refine list_val (.bool false) (by kernel_rfl) (by kernel_rfl) ?_
    simp only [Act.put, List.setIfInBounds_toArray, List.set_cons_zero, List.set_cons_succ, List.getElem_toArray, List.getElem_cons_zero, List.getElem_cons_succ]
    refine list_val (.bool false) (by kernel_rfl) (by kernel_rfl) ?_
    simp only [Act.put, List.setIfInBounds_toArray, List.set_cons_zero, List.set_cons_succ, List.getElem_toArray, List.getElem_cons_zero, List.getElem_cons_succ]
    refine wpList_nil ?_
    replace hG := hide hG
    go_wp2_with fail
    go_loopw [83] (fun i wr => i = .int .i64 0 ∧ Hid (Gr v5 wr)) (fun _ _ => 0)
    case atStart => exact ⟨rfl, hG⟩
    case round =>
    clear hG
    obtain ⟨rfl, hG⟩ := hrel
    go_wp2_with fail
    go_roundw
    case rel => exact ⟨r + 1, by omega, by go_num, hG⟩
    case measure => simp [intOf]; omega
  have rI : ¬ (r : Int) < 2 := by omega
  have hF : Hid (Gr w wr) := (unhide hGw).trans (unhide hG)
  clear hU hG
  go_wp2_with fail
  rw [unhide hT]
  exact ⟨rfl, unhide hF⟩
theorem opens_ok (K N : List Int) (hu : Us K N) (A0 : List Int) (s : Option Addr) (len cap : Nat) (B : List Int) (s2 : Option Addr) (len2 cap2 : Nat) (w : World) (la0 : Lb w s len cap A0) (lB : Lb w s2 len2 cap2 B) : Calls Try.prog 4 #[.agg (usd K N s len cap), .slice s2 len2 cap2] w (Woke w) := by
  by_cases h : ∃ Q, IsB Q ∧ B.take (min len2 3000) = sealL K N (A0.take (min len 3000)) Q
  · obtain ⟨Q, h1, h2⟩ := h
    exact opens_yes K N hu A0 s len cap B s2 len2 cap2 w la0 lB Q h1 h2
  · exact opens_no K N hu A0 s len cap B s2 len2 cap2 w la0 lB (fun Q h1 h2 => h ⟨Q, h1, h2⟩)
end Go.Proofs.Ytdekjbdkpchbjaa
