/-
  Layer 14: announcements are got.
-/
import Derived.Test.YtiejdpodffkdpaaFM
namespace Go.Proofs.Ytiejdpodffkdpaa
open Go.RowKit
set_option maxRecDepth 100000
set_option linter.unusedSimpArgs false
set_option linter.unusedVariables false
theorem grown_or {u v : World} {k : Option Nat} (h : u.grownBy v k) : (∃ i, k = some i ∧ Bt i u v) ∨ (k = none ∧ Gr u v) := by
  cases k with
  | none => exact .inr ⟨rfl, h.os, h.tape, h.output, h.size, fun i hi => h.block i hi (by simp)⟩
  | some i => exact .inl ⟨i, rfl, h.os, h.tape, h.output, h.size, fun j hj hne => h.block j hj (by simpa using hne)⟩
theorem own_blk {k : Nat} {e : TypeId} {b : Nat} {w : World} {v : Value} {R : List (List Value)} (h : Or_ k e b w v R) {i : Nat} (hi : v.ownBlock = some i) : b ≤ i ∧ ∃ cur, w.heap[i]? = some (.cells cur e (0, 0)) := by
  rcases h.2.2 with ⟨e2, _⟩ | ⟨q, cap, cur, e2, h2, h3, _⟩
  · rw [e2] at hi; cases hi
  · rw [e2] at hi
    injection hi with hi
    dsimp only at hi
    subst hi
    exact ⟨h2, cur, h3⟩
theorem Bc.grown {F : List Nat} {w u v : World} {L : List Blk} {k : Nat} {e : TypeId} {b : Nat} {x : Value} {R : List (List Value)} (h : Bc F w L u) (ho : Or_ k e b u x R) (hb : w.heap.size ≤ b) (g : u.grownBy v x.ownBlock) (ht : ∀ y ∈ L, y.t ≠ e) : Bc F w L v := by
  rcases grown_or g with ⟨i, hi, hbt⟩ | ⟨_, hg⟩
  · obtain ⟨h1, cur, h2⟩ := own_blk ho hi
    exact h.keep hbt (.inr (by omega)) (h.bl.apart h2 ht)
  · exact h.more hg
theorem RS.grown {g p c : Nat} {L : List Int} {j : Nat} {u v : World} {b : Nat} {x : Value} {R : List (List Value)} (h : RS g p c L j u) (ty : ∃ cur, u.heap[p]? = some (.cells cur 5 (0, 0))) (ho : Or_ 32 30 b u x R) (hg : u.grownBy v x.ownBlock) : RS g p c L j v ∧ ∃ cur, v.heap[p]? = some (.cells cur 5 (0, 0)) := by
  rcases grown_or hg with ⟨i, hi, hbt⟩ | ⟨_, hg⟩
  · obtain ⟨_, cur, h2⟩ := own_blk ho hi
    obtain ⟨C, hC⟩ := h.any
    obtain ⟨cp, hp⟩ := ty
    have n1 : g ≠ i := ty_ne hC h2 (by decide)
    have n2 : p ≠ i := ty_ne hp h2 (by decide)
    exact ⟨h.bt hbt n1 n2, cp, hbt.blk hp n2⟩
  · obtain ⟨cp, hp⟩ := ty
    exact ⟨h.gr hg, cp, hg.blk hp⟩
/-- what lies there behind j hops -/
structure AnS (g p c q6 : Nat) (w : World) (L : List Int) (r : Int) (j : Nat) (hv : Value) (v : World) : Prop where
  bc : Bc [g] w [⟨w.heap.size, #[.int .u64 0, .slice none 0 0], 25⟩, ⟨q6, #[.int .u64 r, hv], 25⟩] v
  rs : RS g p c L j v
  ty : ∃ cur, v.heap[p]? = some (.cells cur 5 (0, 0))
  rows : Or_ 32 30 w.heap.size v hv ((ksO L j).map bv)
/-- may it be? -/
def anN (L : List Int) : Nat := (L.getD 9 0).toNat
def anE (L : List Int) : Bool := (decide (L.getD 0 0 = 1) && anR (lowN ((L.drop 1).take 8)) (anN L)) && allZ (L.drop (10 + 32 * anN L))
def Aok (L : List Int) (w : World) (r : Ending) (w' : World) : Prop := ∃ a c', r = .returned (.tuple #[.agg #[.int .u64 (lowN ((L.drop 1).take 8)), .slice a (anN L) c'], .int .i64 0]) ∧ Or_ 32 30 w.heap.size w' (.slice a (anN L) c') ((ksO L (anN L)).map bv) ∧ Gr w w'
theorem an2_one (a b : Value) (ha : a.oneCell' = true) (hb : b.oneCell' = true) : (#[a, b] : Array Value).all (·.oneCell') = true := by simp [ha, hb]
set_option maxHeartbeats 4000000 in
theorem fgeta_no (a : Option Addr) (m c : Nat) (hm : ¬ m = 106) (w : World) : Calls Try.prog 11 #[.slice a m c] w (Rno #[.int .u64 0, .slice none 0 0] 240 w) := by
  obtain ⟨T, hT⟩ : ∃ T, T = Rno #[.int .u64 0, .slice none 0 0] 240 w := ⟨_, rfl⟩
  rw [← hT]
  replace hT := hide hT
  have hmI : ¬ (m : Int) = 106 := by omega
  clear hm
  go_enter Try.func11, Try.ntmps11
  go_upto_region 1 with fail
  have hB := ((Bl.nil w).new #[.int .u64 0, .slice none 0 0] 25)
  simp only [size_alloc, List.nil_append, List.cons_append] at hB
  generalize World.alloc _ _ = u at *
  replace hB : Bl w [⟨w.heap.size, #[.int .u64 0, .slice none 0 0], 25⟩] u := hB
  refine wp_region_lit ?_
  refine list_val (.slice a m c) (by kernel_rfl) (by kernel_rfl) ?_
  simp only [Act.put, List.setIfInBounds_toArray, List.set_cons_zero, List.set_cons_succ, List.getElem_toArray, List.getElem_cons_zero, List.getElem_cons_succ]
  refine list_val (.int .i64 m) (by kernel_rfl) (by kernel_rfl) ?_
  simp only [Act.put, List.setIfInBounds_toArray, List.set_cons_zero, List.set_cons_succ, List.getElem_toArray, List.getElem_cons_zero, List.getElem_cons_succ]
  refine list_val (.bool true) (by kernel_rfl) (by go_simp) ?_
  simp only [Act.put, List.setIfInBounds_toArray, List.set_cons_zero, List.set_cons_succ, List.getElem_toArray, List.getElem_cons_zero, List.getElem_cons_succ]
  refine wpList_nil ?_
  replace hB := hide hB
  go_upto_region 2 with fail
  replace hB := unhide hB
  refine wp_region_lit ?_
  refine list_val (.agg #[.int .u64 0, .slice none 0 0]) (by kernel_rfl) (by kernel_rfl) ?_
  simp only [Act.put, List.setIfInBounds_toArray, List.set_cons_zero, List.set_cons_succ, List.getElem_toArray, List.getElem_cons_zero, List.getElem_cons_succ]
  refine list_store 25 (.tmp 2) (.tmp 10) (w.heap.size) #[.int .u64 0, .slice none 0 0] 25 #[.int .u64 0, .slice none 0 0] (by kernel_rfl) rfl (by kernel_rfl) (by kernel_rfl) (hB.get 0 (x := ⟨w.heap.size, #[.int .u64 0, .slice none 0 0], 25⟩) rfl) (by rw [Try.infoA]; rfl) rfl (by simp [Value.oneCell']) ?_
  replace hB := hB.set 0 (x := ⟨w.heap.size, #[.int .u64 0, .slice none 0 0], 25⟩) rfl #[.int .u64 0, .slice none 0 0]
  simp only [List.set_cons_zero, List.set_cons_succ] at hB
  generalize World.setRow _ _ _ = u2 at *
  replace hB : Bl w [⟨w.heap.size, #[.int .u64 0, .slice none 0 0], 25⟩] u2 := hB
  simp only [Act.put, List.setIfInBounds_toArray, List.set_cons_zero, List.set_cons_succ, List.getElem_toArray, List.getElem_cons_zero, List.getElem_cons_succ]
  (refine wpList_step fun K hK => ?_; replace hK := hide hK; go_simp; refine unhide hK _ _ ?_; clear hK K)
  refine wpList_nil ?_
  replace hB := hide hB
  go_wp2_with fail
  replace hB := unhide hB
  rw [unhide hT]
  exact bodyPost_ret (v := .tuple #[.agg #[.int .u64 0, .slice none 0 0], .int .i64 240]) (results_cell_tmp Try.results11 _ _ (w.heap.size) 25 #[.int .u64 0, .slice none 0 0] (0, 0) _ rfl (.int .i64 240) rfl (hB.get 0 (x := ⟨w.heap.size, #[.int .u64 0, .slice none 0 0], 25⟩) rfl) Try.underlying25 rfl (by rw [Try.infoA]; rfl)) rfl ⟨rfl, hB.gr⟩
set_option maxHeartbeats 4000000 in
theorem fgeta_ok (L : List Int) (a : Option Addr) (c0 : Nat) (w : World) (hB0 : Lb w a 106 c0 L) (hE : anE L = true) : Calls Try.prog 11 #[.slice a 106 c0] w (Aok L w) := by
  obtain ⟨T, hT⟩ : ∃ T, T = Aok L w := ⟨_, rfl⟩
  rw [← hT]
  replace hT := hide hT
  obtain ⟨p0, q0, rfl, hB0⟩ := hB0.some (by omega)
  have hL := hB0.len
  have hLb := hide hB0.isB
  replace hB0 := hide hB0
  replace hE := hide hE
  go_enter Try.func11, Try.ntmps11
  go_upto_region 1 with fail
  have hB := ((Bl.nil w).new #[.int .u64 0, .slice none 0 0] 25)
  simp only [size_alloc, List.nil_append, List.cons_append] at hB
  generalize World.alloc _ _ = u at *
  replace hB : Bl w [⟨w.heap.size, #[.int .u64 0, .slice none 0 0], 25⟩] u := hB
  refine wp_region_lit ?_
  refine list_val (.slice (some ⟨p0, q0, none⟩) 106 c0) (by kernel_rfl) (by kernel_rfl) ?_
  simp only [Act.put, List.setIfInBounds_toArray, List.set_cons_zero, List.set_cons_succ, List.getElem_toArray, List.getElem_cons_zero, List.getElem_cons_succ]
  refine list_val (.int .i64 106) (by kernel_rfl) (by kernel_rfl) ?_
  simp only [Act.put, List.setIfInBounds_toArray, List.set_cons_zero, List.set_cons_succ, List.getElem_toArray, List.getElem_cons_zero, List.getElem_cons_succ]
  refine list_val (.bool false) (by kernel_rfl) (by kernel_rfl) ?_
  simp only [Act.put, List.setIfInBounds_toArray, List.set_cons_zero, List.set_cons_succ, List.getElem_toArray, List.getElem_cons_zero, List.getElem_cons_succ]
  refine wpList_nil ?_
  replace hB := hide hB
  go_upto_region 3 with fail
  replace hB := unhide hB
  refine wp_region_lit ?_
  refine list_val (.slice (some ⟨p0, q0, none⟩) 106 c0) (by kernel_rfl) (by kernel_rfl) ?_
  simp only [Act.put, List.setIfInBounds_toArray, List.set_cons_zero, List.set_cons_succ, List.getElem_toArray, List.getElem_cons_zero, List.getElem_cons_succ]
  refine list_call 21 #[.slice (some ⟨p0, q0, none⟩) 106 c0] (by kernel_rfl) (by kernel_rfl) ((oreadt_ok L p0 q0 106 c0 u ((unhide hB0).gr hB.gr) (by omega) (by omega)).mono ?_)
  rintro r u1 ⟨g, p, c, rfl, hgg, hpp, hrd, hty, hgr⟩
  rw [hL] at hrd
  have hG : Gt g w [⟨w.heap.size, #[.int .u64 0, .slice none 0 0], 25⟩] p 106 c 0 L u1 := hB.gt hgr hgg hpp hrd hty (by intro y hy; rw [List.mem_singleton.1 hy]; exact ⟨(by decide : (25 : TypeId) ≠ 70), (by decide : (25 : TypeId) ≠ 5)⟩)
  have hwg : w.heap.size ≤ g := Nat.le_trans hB.gr.size hgg
  clear hB hgr hgg hpp hrd hty
  refine ⟨_, rfl, ?_⟩
  simp only [Act.put, List.setIfInBounds_toArray, List.set_cons_zero, List.set_cons_succ, List.getElem_toArray, List.getElem_cons_zero, List.getElem_cons_succ]
  (refine wpList_step fun K hK => ?_; replace hK := hide hK; go_simp; refine unhide hK _ _ ?_; clear hK K)
  refine wpList_nil ?_
  replace hG := hide hG
  go_upto_region 4 with fail
  replace hG := unhide hG
  refine wp_region_lit ?_
  refine list_val (.pointer (some ⟨g, 0, none⟩)) (by kernel_rfl) (by kernel_rfl) ?_
  simp only [Act.put, List.setIfInBounds_toArray, List.set_cons_zero, List.set_cons_succ, List.getElem_toArray, List.getElem_cons_zero, List.getElem_cons_succ]
  refine list_call 22 #[P0 g] (by kernel_rfl) (by kernel_rfl) ((fone_ok g p 106 c 0 L u1 hG.rd (by omega) (by omega)).mono ?_)
  rintro r_ u2 ⟨rfl, hR1, hb1⟩
  replace hG := hG.read hR1 hb1
  clear hR1 hb1
  obtain ⟨f1, hf10⟩ : ∃ x, x = L.getD 0 0 := ⟨_, rfl⟩
  rw [← hf10]
  refine ⟨_, rfl, ?_⟩
  replace hf10 := hide hf10
  simp only [Act.put, List.setIfInBounds_toArray, List.set_cons_zero, List.set_cons_succ, List.getElem_toArray, List.getElem_cons_zero, List.getElem_cons_succ]
  (refine wpList_step fun K hK => ?_; replace hK := hide hK; go_simp; refine unhide hK _ _ ?_; clear hK K)
  refine wpList_nil ?_
  replace hG := hide hG
  go_upto_region 5 with fail
  replace hG := unhide hG
  refine wp_region_lit ?_
  refine list_val (.pointer (some ⟨g, 0, none⟩)) (by kernel_rfl) (by kernel_rfl) ?_
  simp only [Act.put, List.setIfInBounds_toArray, List.set_cons_zero, List.set_cons_succ, List.getElem_toArray, List.getElem_cons_zero, List.getElem_cons_succ]
  refine list_call 23 #[P0 g] (by kernel_rfl) (by kernel_rfl) ((ru64_ok g p 106 c 1 L u2 hG.rd (by omega) (by omega)).mono ?_)
  rintro r_ u3 ⟨rfl, hR1, hb1⟩
  replace hG := hG.read hR1 hb1
  clear hR1 hb1
  obtain ⟨r, hr0⟩ : ∃ x, x = lowN ((L.drop 1).take 8) := ⟨_, rfl⟩
  rw [← hr0]
  refine ⟨_, rfl, ?_⟩
  replace hr0 := hide hr0
  simp only [Act.put, List.setIfInBounds_toArray, List.set_cons_zero, List.set_cons_succ, List.getElem_toArray, List.getElem_cons_zero, List.getElem_cons_succ]
  refine list_val (.agg #[.int .u64 r, .slice none 0 0]) (by kernel_rfl) (by kernel_rfl) ?_
  simp only [Act.put, List.setIfInBounds_toArray, List.set_cons_zero, List.set_cons_succ, List.getElem_toArray, List.getElem_cons_zero, List.getElem_cons_succ]
  refine list_valw (.pointer (some ⟨u3.heap.size, 0, none⟩)) (u3.alloc (.cells #[.int .u64 0, .slice none 0 0] 25 (0, 0))) (by kernel_rfl) (by kernel_rfl) ?_
  replace hG := hG.new #[.int .u64 0, .slice none 0 0] 25 ⟨by decide, by decide⟩
  simp only [List.nil_append, List.cons_append] at hG
  generalize World.alloc _ _ = u4 at *
  generalize u3.heap.size = q6 at *
  replace hG : Gt g w [⟨w.heap.size, #[.int .u64 0, .slice none 0 0], 25⟩, ⟨q6, #[.int .u64 0, .slice none 0 0], 25⟩] p 106 c (1 + 8) L u4 := hG
  simp only [Act.put, List.setIfInBounds_toArray, List.set_cons_zero, List.set_cons_succ, List.getElem_toArray, List.getElem_cons_zero, List.getElem_cons_succ]
  refine list_store 25 (.tmp 6) (.tmp 17) q6 #[.int .u64 r, .slice none 0 0] 25 #[.int .u64 0, .slice none 0 0] (by kernel_rfl) rfl (by kernel_rfl) (by kernel_rfl) (hG.get 1 (x := ⟨q6, #[.int .u64 0, .slice none 0 0], 25⟩) rfl) (by rw [Try.infoA]; rfl) rfl (by simp [Value.oneCell']) ?_
  replace hG := hG.set 1 (x := ⟨q6, #[.int .u64 0, .slice none 0 0], 25⟩) rfl #[.int .u64 r, .slice none 0 0]
  simp only [List.set_cons_zero, List.set_cons_succ] at hG
  generalize World.setRow _ _ _ = u5 at *
  replace hG : Gt g w [⟨w.heap.size, #[.int .u64 0, .slice none 0 0], 25⟩, ⟨q6, #[.int .u64 r, .slice none 0 0], 25⟩] p 106 c (9) L u5 := hG
  simp only [Act.put, List.setIfInBounds_toArray, List.set_cons_zero, List.set_cons_succ, List.getElem_toArray, List.getElem_cons_zero, List.getElem_cons_succ]
  refine wpList_nil ?_
  replace hG := hide hG
  go_upto_region 6 with fail
  replace hG := unhide hG
  refine wp_region_lit ?_
  refine list_val (.pointer (some ⟨g, 0, none⟩)) (by kernel_rfl) (by kernel_rfl) ?_
  simp only [Act.put, List.setIfInBounds_toArray, List.set_cons_zero, List.set_cons_succ, List.getElem_toArray, List.getElem_cons_zero, List.getElem_cons_succ]
  refine list_call 22 #[P0 g] (by kernel_rfl) (by kernel_rfl) ((fone_ok g p 106 c 9 L u5 hG.rd (by omega) (by omega)).mono ?_)
  rintro r_ u6 ⟨rfl, hR1, hb1⟩
  replace hG := hG.read hR1 hb1
  clear hR1 hb1
  obtain ⟨n1, hn10⟩ : ∃ x, x = L.getD 9 0 := ⟨_, rfl⟩
  rw [← hn10]
  refine ⟨_, rfl, ?_⟩
  replace hn10 := hide hn10
  simp only [Act.put, List.setIfInBounds_toArray, List.set_cons_zero, List.set_cons_succ, List.getElem_toArray, List.getElem_cons_zero, List.getElem_cons_succ]
  refine list_val (.int .i64 0) (by kernel_rfl) (by kernel_rfl) ?_
  simp only [Act.put, List.setIfInBounds_toArray, List.set_cons_zero, List.set_cons_succ, List.getElem_toArray, List.getElem_cons_zero, List.getElem_cons_succ]
  refine wpList_nil ?_
  have hn1 := (unhide hLb).at_ 9
  rw [← unhide hn10] at hn1
  obtain ⟨n, rfl⟩ := Int.eq_ofNat_of_zero_le hn1.1
  have hn255 : n < 256 := by omega
  have hnN : Hid (anN L = n) := by show anN L = n; unfold anN; rw [← unhide hn10]; rfl
  clear hn1 hn10
  have hI0 : Hid (AnS g p c q6 w L r 0 (.slice none 0 0) u6) := ⟨hG.bc, ⟨fun _ => hG.rd, fun h => absurd h (by omega), _, hG.rd.cel⟩, hG.ty, (fun x hx => by cases hx), rfl, .inl ⟨rfl, rfl⟩⟩
  clear hG
  go_wp2_with fail
  go_loopw [20] (fun i wr => ∃ (j : Nat) (hv : Value), j ≤ n ∧ i = .int .i64 (j : Int) ∧ Hid (AnS g p c q6 w L r j hv wr)) (fun i _ => n - (intOf i).toNat)
  case atStart => exact ⟨0, _, by omega, rfl, hI0⟩
  case round =>
  clear hI0
  obtain ⟨j, hv, hj, rfl, hA⟩ := hrel
  obtain ⟨hbc, hrs, hty, hor⟩ := unhide hA
  clear hA
  obtain ⟨ah, ch, rfl, -⟩ := hor.ls
  rw [List.length_map, ksO_len] at hbc hor
  by_cases hlt : j < n
  · skip
    have jI : (j : Int) < (n : Int) := by omega
    have hq6 : wr.heap[q6]? = some (.cells #[.int .u64 r, .slice ah j ch] 25 (0, 0)) := hbc.get 1 (x := ⟨q6, #[.int .u64 r, .slice ah j ch], 25⟩) rfl
    replace hbc := hide hbc; replace hrs := hide hrs; replace hty := hide hty; replace hor := hide hor
    go_upto_region 8 with fail
    refine anyC_start 7 (fun (v : World) => v.heap[q6]? = some (.cells #[.int .u64 r, .slice ah j ch] 25 (0, 0))) (by kernel_rfl) ?_
    have hdr := (Gr.refl wr).drew
    replace hor := hide ((unhide hor).gr hdr)
    replace hbc := hide ((unhide hbc).more hdr)
    replace hrs := hide ((unhide hrs).gr hdr)
    obtain ⟨cp0, hp0⟩ := unhide hty
    replace hty := hide (show ∃ cur, wr.drew.heap[p]? = some (.cells cur 5 (0, 0)) from ⟨cp0, hdr.blk hp0⟩)
    have hS : (fun (v : World) => v.heap[q6]? = some (.cells #[.int .u64 r, .slice ah j ch] 25 (0, 0))) wr.drew := hdr.blk hq6
    clear hdr hp0 hq6
    generalize World.drew _ = x0 at *
    simp only [List.size_toArray, List.length_cons, List.length_nil, Array.replicate, List.replicate]
    refine anyC_take (i := 0) (v := (.pointer (some ⟨q6, 1, none⟩))) (fun (v : World) => v.heap[q6]? = some (.cells #[.int .u64 r, .slice ah j ch] 25 (0, 0))) (fun _ h_ => h_) (.inr (by kernel_rfl)) rfl (by kernel_rfl) (by kernel_rfl) (by kernel_rfl) (by decide) (by kernel_rfl) (by decide) (fun _ _ _ h => h) (.inl ⟨by kernel_rfl, fun x_ hu => by kernel_rfl⟩) hS ?_
    simp only [Act.put, List.setIfInBounds_toArray, List.set_cons_zero, List.set_cons_succ, List.getElem_toArray, List.getElem_cons_zero, List.getElem_cons_succ]
    refine anyC_take (i := 1) (v := (.slice ah j ch)) (fun (v : World) => v.heap[q6]? = some (.cells #[.int .u64 r, .slice ah j ch] 25 (0, 0))) (fun _ h_ => h_) (.inr (by kernel_rfl)) rfl (by kernel_rfl) (by kernel_rfl) (by kernel_rfl) (by decide) (by kernel_rfl) (by decide) (fun _ _ _ h => h) (.inl ⟨by kernel_rfl, fun x_ hu => exec_sks _ (.tmp 22) rfl q6 1 (by kernel_rfl) ah j ch (cell_of hu (i := 1) rfl)⟩) hS ?_
    simp only [Act.put, List.setIfInBounds_toArray, List.set_cons_zero, List.set_cons_succ, List.getElem_toArray, List.getElem_cons_zero, List.getElem_cons_succ]
    refine anyC_take (i := 2) (v := (.pointer (some ⟨g, 0, none⟩))) (fun (v : World) => v.heap[q6]? = some (.cells #[.int .u64 r, .slice ah j ch] 25 (0, 0))) (fun _ h_ => h_) (.inr (by kernel_rfl)) rfl (by kernel_rfl) (by kernel_rfl) (by kernel_rfl) (by decide) (by kernel_rfl) (by decide) (fun _ _ _ h => h) (.inl ⟨by kernel_rfl, fun x_ hu => by kernel_rfl⟩) hS ?_
    simp only [Act.put, List.setIfInBounds_toArray, List.set_cons_zero, List.set_cons_succ, List.getElem_toArray, List.getElem_cons_zero, List.getElem_cons_succ]
    refine anyC_one (i := 3) (by kernel_rfl) rfl (fun K_ hQ => ?_)
    refine step_callw (by kernel_rfl) 24 #[P0 g] (by kernel_rfl) ((rkey_step g p c j L x0 (unhide hrs)).mono ?_)
    rintro r x1 ⟨rfl, hrs1, hb1⟩
    refine ⟨_, rfl, ?_⟩
    obtain ⟨C0, hC0⟩ := (unhide hrs).any
    obtain ⟨cp0, hp0⟩ := unhide hty
    have hpg : p ≠ g := ty_ne hp0 hC0 (by decide)
    replace hty := hide (show ∃ cur, x1.heap[p]? = some (.cells cur 5 (0, 0)) from ⟨cp0, hb1.blk hp0 hpg⟩)
    replace hor := hide (or_bt2 (unhide hor) hC0 (by decide) hb1)
    have hap := (unhide hbc).bl.apart hC0 (by intro y hy; simp only [List.mem_cons, List.not_mem_nil, or_false] at hy; rcases hy with rfl | rfl <;> exact (by decide : (25 : TypeId) ≠ 70))
    have hq6g : q6 ≠ g := hap ⟨q6, #[.int .u64 r, .slice ah j ch], 25⟩ (by simp)
    replace hbc := hide ((unhide hbc).keep hb1 (.inl (by simp)) hap)
    have hS : (fun (v : World) => v.heap[q6]? = some (.cells #[.int .u64 r, .slice ah j ch] 25 (0, 0))) x1 := hb1.blk hS hq6g
    clear hC0 hp0 hpg hap hq6g hb1
    replace hrs := hide hrs1
    clear hrs1
    have hky := kyO_ok hL (unhide hLb) j
    have hks : Hid (ksO L (j + 1) = ksO L j ++ [kyO L j]) := ksO_succ L j
    generalize kyO L j = KJ at *
    obtain ⟨hkl, hkb⟩ := hky
    refine hQ.out _ _ hS (fun _ => ?_)
    clear hQ K_
    simp only [Act.put, List.setIfInBounds_toArray, List.set_cons_zero, List.set_cons_succ, List.getElem_toArray, List.getElem_cons_zero, List.getElem_cons_succ]
    refine anyC_one (i := 4) (by kernel_rfl) rfl (fun K_ hQ => ?_)
    refine step_val (.slice (some ⟨x1.heap.size, 0, none⟩) 1 1) (x1.alloc (.cells (kc KJ) 30 (0, 0))) (by kernel_rfl) (exec_bk1 _ (.tmp 25) rfl KJ hkl (by kernel_rfl)) ?_
    have hg3 := (Gr.refl x1).alloc (.cells (kc KJ) 30 (0, 0))
    have hb3 : (x1.alloc (.cells (kc KJ) 30 (0, 0))).heap[x1.heap.size]? = some (.cells (kc KJ) 30 (0, 0)) := blk_new _ _
    generalize World.alloc _ _ = x3 at *
    generalize x1.heap.size = h2 at *
    have hS : (fun (v : World) => v.heap[q6]? = some (.cells #[.int .u64 r, .slice ah j ch] 25 (0, 0))) x3 := hg3.blk hS
    replace hor := hide ((unhide hor).gr hg3)
    replace hbc := hide ((unhide hbc).more hg3)
    replace hrs := hide ((unhide hrs).gr hg3)
    obtain ⟨cp0, hp0⟩ := unhide hty
    replace hty := hide (show ∃ cur, x3.heap[p]? = some (.cells cur 5 (0, 0)) from ⟨cp0, hg3.blk hp0⟩)
    have hls : Ls 32 x3 (some ⟨h2, 0, none⟩) 1 1 [bv KJ] := by
      refine ⟨rfl, ?_, .inr ⟨h2, 0, rfl, ?_⟩, Nat.le_refl _, by omega, fun p e => by have e3 := Option.some.inj e; rw [← e3]; exact lt_of_block hb3⟩
      · intro r hr
        rw [List.mem_singleton.1 hr, bv_len, hkl]
      · simp only [List.flatten_cons, List.flatten_nil, List.append_nil]
        exact range_row hb3
    replace hls := hide hls
    clear hg3 hb3 hp0
    refine hQ.out _ _ hS (fun _ => ?_)
    clear hQ K_
    simp only [Act.put, List.setIfInBounds_toArray, List.set_cons_zero, List.set_cons_succ, List.getElem_toArray, List.getElem_cons_zero, List.getElem_cons_succ]
    refine anyC_one (i := 5) (by kernel_rfl) rfl (fun K_ hQ => ?_)
    rw [if_pos (by kernel_rfl)]
    refine app_rows lt_k (.tmp 23) (.tmp 26) rfl w.heap.size _ ((ksO L j).map bv) (by kernel_rfl) (unhide hor) (some ⟨h2, 0, none⟩) 1 1 [bv KJ] (by kernel_rfl) (unhide hls) (by intro r hr; rw [List.mem_singleton.1 hr]; intro u hu; obtain ⟨z, _, rfl⟩ := List.mem_map.1 hu; rfl) (by rw [List.length_map, ksO_len]; omega) (unhide hbc).chg.size ?_
    intro v4 x4 hO4 hgr
    have hS : (fun (v : World) => v.heap[q6]? = some (.cells #[.int .u64 r, .slice ah j ch] 25 (0, 0))) x4 := by
      show x4.heap[q6]? = _
      rw [hgr.block q6 (lt_of_block hS) (or_ne (unhide hor) hS (by decide))]
      exact hS
    have hrs4 := (unhide hrs).grown (unhide hty) (unhide hor) hgr
    have hbc4 := (unhide hbc).grown (unhide hor) (Nat.le_refl _) hgr (by intro y hy; simp only [List.mem_cons, List.not_mem_nil, or_false] at hy; rcases hy with rfl | rfl <;> exact (by decide : (25 : TypeId) ≠ 30))
    have hor4 : Or_ 32 30 w.heap.size x4 v4 ((ksO L (j + 1)).map bv) := by
      rw [unhide hks, List.map_append]
      exact hO4
    obtain ⟨a4, c4_, rfl, -⟩ := hor4.ls
    rw [List.length_map, ksO_len] at hor4 ⊢
    replace hor := hide hor4
    replace hbc := hide hbc4
    replace hrs := hide hrs4.1
    replace hty := hide hrs4.2
    clear hrs4 hbc4 hO4 hgr hor4 hls hkl hkb
    refine hQ.out _ _ hS (fun _ => ?_)
    clear hQ K_
    simp only [Act.put, List.setIfInBounds_toArray, List.set_cons_zero, List.set_cons_succ, List.getElem_toArray, List.getElem_cons_zero, List.getElem_cons_succ]
    refine anyC_take (i := 6) (v := (.pointer (some ⟨q6, 1, none⟩))) (fun (v : World) => v.heap[q6]? = some (.cells #[.int .u64 r, .slice ah j ch] 25 (0, 0))) (fun _ h_ => h_) (.inr (by kernel_rfl)) rfl (by kernel_rfl) (by kernel_rfl) (by kernel_rfl) (by decide) (by kernel_rfl) (by decide) (fun _ _ _ h => h) (.inl ⟨by kernel_rfl, fun x_ hu => by kernel_rfl⟩) hS ?_
    simp only [Act.put, List.setIfInBounds_toArray, List.set_cons_zero, List.set_cons_succ, List.getElem_toArray, List.getElem_cons_zero, List.getElem_cons_succ]
    refine anyC_last (by kernel_rfl) rfl (fun K_ hQ => ?_)
    have c4 := cell_of hS (i := 1) rfl
    have fz := froz_of (i := 1) hS
    have hcg : (x4.setCell ⟨q6, 1, none⟩ (.slice a4 (j + 1) c4_)).heap[q6]? = some (.cells #[.int .u64 r, .slice a4 (j + 1) c4_] 25 (0, 0)) := setCells_heap [(.slice a4 (j + 1) c4_)] x4 q6 1 [.int .u64 r, .slice ah j ch] 25 hS
    have hbt : Bt q6 x4 (x4.setCell ⟨q6, 1, none⟩ (.slice a4 (j + 1) c4_)) := setCell_bt x4 q6 1 (.slice a4 (j + 1) c4_)
    have hI2 : Hid (AnS g p c q6 w L r (j + 1) (.slice a4 (j + 1) c4_) (x4.setCell ⟨q6, 1, none⟩ (.slice a4 (j + 1) c4_))) := by
      obtain ⟨C0, hC0⟩ := (unhide hrs).any
      obtain ⟨cp0, hp0⟩ := unhide hty
      have n1 : g ≠ q6 := ty_ne hC0 hS (by decide)
      have n2 : p ≠ q6 := ty_ne hp0 hS (by decide)
      exact ⟨(unhide hbc).but hbt 1 (x := ⟨q6, #[.int .u64 r, .slice ah j ch], 25⟩) rfl rfl hcg, (unhide hrs).bt hbt n1 n2, ⟨cp0, hbt.blk hp0 n2⟩, or_bt2 (unhide hor) hS (by decide) hbt⟩
    clear hcg hbt
    replace hS := hide hS
    replace hQ := hide hQ
    go_simp
    refine (unhide hQ).out _ _ ?_
    clear hQ K_ c4 fz
    generalize World.setCell _ _ _ = x9 at *
    simp only [Act.put, List.setIfInBounds_toArray, List.set_cons_zero, List.set_cons_succ, List.getElem_toArray, List.getElem_cons_zero, List.getElem_cons_succ]
    refine any_done (by kernel_rfl) ?_
    have ej : IntKind.i64.wrap ((j : Int) + 1) = ((j + 1 : Nat) : Int) := by rw [IntKind.wrap_i64]; omega
    clear hor hbc hrs hty hS hks
    go_wp2_with fail
    go_roundw
    case rel => exact ⟨j + 1, _, by omega, by go_num, hI2⟩
    case measure => simp [intOf]; omega
  · skip
    obtain rfl : j = n := by omega
    have jI : ¬ (j : Int) < (j : Int) := by omega
    have hq6 : Hid (wr.heap[q6]? = some (.cells #[.int .u64 r, .slice ah j ch] 25 (0, 0))) := hbc.get 1 (x := ⟨q6, #[.int .u64 r, .slice ah j ch], 25⟩) rfl
    unfold anE at hE
    rw [← unhide hf10, ← unhide hr0, unhide hnN] at hE
    replace hbc := hide hbc; replace hrs := hide hrs; replace hty := hide hty; replace hor := hide hor
    have hE2 := unhide hE
    simp only [Bool.and_eq_true, decide_eq_true_iff] at hE2
    obtain ⟨⟨hf1, hAR⟩, hZZ⟩ := hE2
    subst hf1
    have hj3 : j ≤ 3 := by unfold anR at hAR; rw [decide_eq_true_iff] at hAR; omega
    go_upto_region 10 with fail
    refine wp_region_lit ?_
    refine list_val (.int .i64 1) (by kernel_rfl) (by kernel_rfl) ?_
    simp only [Act.put, List.setIfInBounds_toArray, List.set_cons_zero, List.set_cons_succ, List.getElem_toArray, List.getElem_cons_zero, List.getElem_cons_succ]
    refine list_val (.bool false) (by kernel_rfl) (by kernel_rfl) ?_
    simp only [Act.put, List.setIfInBounds_toArray, List.set_cons_zero, List.set_cons_succ, List.getElem_toArray, List.getElem_cons_zero, List.getElem_cons_succ]
    refine list_val (.bool false) (by kernel_rfl) (by kernel_rfl) ?_
    simp only [Act.put, List.setIfInBounds_toArray, List.set_cons_zero, List.set_cons_succ, List.getElem_toArray, List.getElem_cons_zero, List.getElem_cons_succ]
    refine list_val (.agg #[.int .u64 r, .slice ah j ch]) (by kernel_rfl) (exec_arr _ 25 (.tmp 6) rfl q6 (by kernel_rfl) #[.int .u64 r, .slice ah j ch] 25 _ (unhide hq6) Try.underlying25 rfl (by rw [Try.infoA]; rfl)) ?_
    simp only [Act.put, List.setIfInBounds_toArray, List.set_cons_zero, List.set_cons_succ, List.getElem_toArray, List.getElem_cons_zero, List.getElem_cons_succ]
    refine list_call 17 #[.agg #[.int .u64 r, .slice ah j ch]] (by kernel_rfl) (by kernel_rfl) ((fam_ok r ah j ch wr).mono ?_)
    rintro r_ y1 ⟨rfl, hg1⟩
    rw [hAR]
    replace hbc := hide ((unhide hbc).more hg1); replace hrs := hide ((unhide hrs).gr hg1); replace hor := hide ((unhide hor).gr hg1); replace hq6 := hide (hg1.blk (unhide hq6))
    clear hg1
    refine ⟨_, rfl, ?_⟩
    simp only [Act.put, List.setIfInBounds_toArray, List.set_cons_zero, List.set_cons_succ, List.getElem_toArray, List.getElem_cons_zero, List.getElem_cons_succ]
    refine list_val (.bool false) (by kernel_rfl) (by kernel_rfl) ?_
    simp only [Act.put, List.setIfInBounds_toArray, List.set_cons_zero, List.set_cons_succ, List.getElem_toArray, List.getElem_cons_zero, List.getElem_cons_succ]
    refine list_val (.bool false) (by kernel_rfl) (by kernel_rfl) ?_
    simp only [Act.put, List.setIfInBounds_toArray, List.set_cons_zero, List.set_cons_succ, List.getElem_toArray, List.getElem_cons_zero, List.getElem_cons_succ]
    refine list_val (.bool false) (by kernel_rfl) (by kernel_rfl) ?_
    simp only [Act.put, List.setIfInBounds_toArray, List.set_cons_zero, List.set_cons_succ, List.getElem_toArray, List.getElem_cons_zero, List.getElem_cons_succ]
    refine list_val (.pointer (some ⟨g, 0, none⟩)) (by kernel_rfl) (by kernel_rfl) ?_
    simp only [Act.put, List.setIfInBounds_toArray, List.set_cons_zero, List.set_cons_succ, List.getElem_toArray, List.getElem_cons_zero, List.getElem_cons_succ]
    refine list_val (.pointer (some ⟨g, 0, none⟩)) (by kernel_rfl) (by kernel_rfl) ?_
    simp only [Act.put, List.setIfInBounds_toArray, List.set_cons_zero, List.set_cons_succ, List.getElem_toArray, List.getElem_cons_zero, List.getElem_cons_succ]
    refine list_call 27 #[P0 g] (by kernel_rfl) (by kernel_rfl) ((rleft_ok g p 106 c (10 + 32 * j) (by omega) (by omega) y1 ((unhide hrs).few hj3).cel).mono ?_)
    rintro r_ y2 ⟨rfl, hg1⟩
    replace hbc := hide ((unhide hbc).more hg1); replace hrs := hide ((unhide hrs).gr hg1); replace hor := hide ((unhide hor).gr hg1); replace hq6 := hide (hg1.blk (unhide hq6))
    clear hg1
    obtain ⟨m, hm⟩ : ∃ m, m = 106 - (10 + 32 * j) := ⟨_, rfl⟩
    rw [← hm]
    have hm1 : 10 + 32 * j + m ≤ 106 := by omega
    have hm2 : 106 ≤ 10 + 32 * j + m := by omega
    clear hm
    refine ⟨_, rfl, ?_⟩
    simp only [Act.put, List.setIfInBounds_toArray, List.set_cons_zero, List.set_cons_succ, List.getElem_toArray, List.getElem_cons_zero, List.getElem_cons_succ]
    refine list_call 26 #[P0 g, .int .i64 (m : Int)] (by kernel_rfl) (by kernel_rfl) ((rrawn_ok g p 106 c (10 + 32 * j) m L y2 ((unhide hrs).few hj3) hm1 (by omega)).mono ?_)
    rintro r_ y3 ⟨v, rfl, hO, hR1, hb1⟩
    rw [show (L.drop (10 + 32 * j)).take m = L.drop (10 + 32 * j) from List.take_of_length_le (by rw [List.length_drop, hL]; omega)] at hO
    obtain ⟨va, vc, rfl, hlb⟩ := ob_lb hO (isB_drop (unhide hLb) _) (n := m) (by rw [List.length_drop, hL]; omega)
    obtain ⟨C0, hC0⟩ := (unhide hrs).any
    have hap := (unhide hbc).bl.apart hC0 (by intro y hy; simp only [List.mem_cons, List.not_mem_nil, or_false] at hy; rcases hy with rfl | rfl <;> exact (by decide : (25 : TypeId) ≠ 70))
    have hq6g : q6 ≠ g := hap ⟨q6, #[.int .u64 r, .slice ah j ch], 25⟩ (by simp)
    replace hq6 := hide (hb1.blk (unhide hq6) hq6g)
    replace hor := hide (or_bt2 (unhide hor) hC0 (by decide) hb1)
    replace hbc := hide ((unhide hbc).keep hb1 (.inl (by simp)) hap)
    replace hlb := hide hlb
    clear hO hR1 hb1 hC0 hap hq6g hrs hty
    refine ⟨_, rfl, ?_⟩
    simp only [Act.put, List.setIfInBounds_toArray, List.set_cons_zero, List.set_cons_succ, List.getElem_toArray, List.getElem_cons_zero, List.getElem_cons_succ]
    refine list_call 25 #[.slice va m vc] (by kernel_rfl) (by kernel_rfl) ((zero_ok (L.drop (10 + 32 * j)) va m vc (by omega) y3 (unhide hlb)).mono ?_)
    rintro r_ y4 ⟨rfl, rfl⟩
    rw [hZZ]
    refine ⟨_, rfl, ?_⟩
    simp only [Act.put, List.setIfInBounds_toArray, List.set_cons_zero, List.set_cons_succ, List.getElem_toArray, List.getElem_cons_zero, List.getElem_cons_succ]
    refine list_val (.bool false) (by kernel_rfl) (by kernel_rfl) ?_
    simp only [Act.put, List.setIfInBounds_toArray, List.set_cons_zero, List.set_cons_succ, List.getElem_toArray, List.getElem_cons_zero, List.getElem_cons_succ]
    refine list_val (.bool false) (by kernel_rfl) (by kernel_rfl) ?_
    simp only [Act.put, List.setIfInBounds_toArray, List.set_cons_zero, List.set_cons_succ, List.getElem_toArray, List.getElem_cons_zero, List.getElem_cons_succ]
    refine wpList_nil ?_
    replace hbc := unhide hbc
    replace hbc := hide hbc
    go_upto_region 12 with fail
    refine wp_region_lit ?_
    refine list_val (.agg #[.int .u64 r, .slice ah j ch]) (by kernel_rfl) (exec_arr _ 25 (.tmp 6) rfl q6 (by kernel_rfl) #[.int .u64 r, .slice ah j ch] 25 _ (unhide hq6) Try.underlying25 rfl (by rw [Try.infoA]; rfl)) ?_
    simp only [Act.put, List.setIfInBounds_toArray, List.set_cons_zero, List.set_cons_succ, List.getElem_toArray, List.getElem_cons_zero, List.getElem_cons_succ]
    refine list_store 25 (.tmp 2) (.tmp 46) (w.heap.size) #[.int .u64 r, .slice ah j ch] 25 #[.int .u64 0, .slice none 0 0] (by kernel_rfl) rfl (by kernel_rfl) (by kernel_rfl) ((unhide hbc).get 0 (x := ⟨w.heap.size, #[.int .u64 0, .slice none 0 0], 25⟩) rfl) (by rw [Try.infoA]; rfl) rfl (by simp [Value.oneCell']) ?_
    have hbt := setRow_bt y4 (w.heap.size) #[.int .u64 r, .slice ah j ch]
    have h00 := (unhide hbc).get 0 (x := ⟨w.heap.size, #[.int .u64 0, .slice none 0 0], 25⟩) rfl
    dsimp only at h00
    have hor9 := or_bt2 (unhide hor) h00 (by decide) hbt
    have hb9 := setRow_heap y4 (w.heap.size) _ #[.int .u64 r, .slice ah j ch] 25 (0, 0) h00
    have hg9 : Gr w (y4.setRow (w.heap.size) #[.int .u64 r, .slice ah j ch]) := Chg.own (Gr.refl w) ((unhide hbc).chg.bt2 hbt (.inr (Nat.le_refl _))) (by simpa using hwg)
    have hP : Hid (T (.returned (.tuple #[.agg #[.int .u64 r, .slice ah j ch], .int .i64 0])) (y4.setRow (w.heap.size) #[.int .u64 r, .slice ah j ch])) := by
      rw [unhide hT]
      exact ⟨ah, ch, by rw [unhide hnN, ← unhide hr0], by rw [unhide hnN]; exact hor9, hg9⟩
    clear hbt h00 hor9 hg9
    replace hb9 := hide hb9
    generalize World.setRow _ _ _ = y9 at *
    simp only [Act.put, List.setIfInBounds_toArray, List.set_cons_zero, List.set_cons_succ, List.getElem_toArray, List.getElem_cons_zero, List.getElem_cons_succ]
    (refine wpList_step fun K hK => ?_; replace hK := hide hK; go_simp; refine unhide hK _ _ ?_; clear hK K)
    refine wpList_nil ?_
    go_wp2_with fail
    exact bodyPost_ret (v := .tuple #[.agg #[.int .u64 r, .slice ah j ch], .int .i64 0]) (results_cell_tmp Try.results11 _ _ (w.heap.size) 25 #[.int .u64 r, .slice ah j ch] (0, 0) _ rfl (.int .i64 0) rfl (unhide hb9) Try.underlying25 rfl (by rw [Try.infoA]; rfl)) rfl (unhide hP)
set_option maxHeartbeats 4000000 in
theorem fgeta_bad (L : List Int) (a : Option Addr) (c0 : Nat) (w : World) (hB0 : Lb w a 106 c0 L) (hE : anE L = false) : Calls Try.prog 11 #[.slice a 106 c0] w (Rno #[.int .u64 0, .slice none 0 0] 241 w) := by
  obtain ⟨T, hT⟩ : ∃ T, T = Rno #[.int .u64 0, .slice none 0 0] 241 w := ⟨_, rfl⟩
  rw [← hT]
  replace hT := hide hT
  obtain ⟨p0, q0, rfl, hB0⟩ := hB0.some (by omega)
  have hL := hB0.len
  have hLb := hide hB0.isB
  replace hB0 := hide hB0
  replace hE := hide hE
  go_enter Try.func11, Try.ntmps11
  go_upto_region 1 with fail
  have hB := ((Bl.nil w).new #[.int .u64 0, .slice none 0 0] 25)
  simp only [size_alloc, List.nil_append, List.cons_append] at hB
  generalize World.alloc _ _ = u at *
  replace hB : Bl w [⟨w.heap.size, #[.int .u64 0, .slice none 0 0], 25⟩] u := hB
  refine wp_region_lit ?_
  refine list_val (.slice (some ⟨p0, q0, none⟩) 106 c0) (by kernel_rfl) (by kernel_rfl) ?_
  simp only [Act.put, List.setIfInBounds_toArray, List.set_cons_zero, List.set_cons_succ, List.getElem_toArray, List.getElem_cons_zero, List.getElem_cons_succ]
  refine list_val (.int .i64 106) (by kernel_rfl) (by kernel_rfl) ?_
  simp only [Act.put, List.setIfInBounds_toArray, List.set_cons_zero, List.set_cons_succ, List.getElem_toArray, List.getElem_cons_zero, List.getElem_cons_succ]
  refine list_val (.bool false) (by kernel_rfl) (by kernel_rfl) ?_
  simp only [Act.put, List.setIfInBounds_toArray, List.set_cons_zero, List.set_cons_succ, List.getElem_toArray, List.getElem_cons_zero, List.getElem_cons_succ]
  refine wpList_nil ?_
  replace hB := hide hB
  go_upto_region 3 with fail
  replace hB := unhide hB
  refine wp_region_lit ?_
  refine list_val (.slice (some ⟨p0, q0, none⟩) 106 c0) (by kernel_rfl) (by kernel_rfl) ?_
  simp only [Act.put, List.setIfInBounds_toArray, List.set_cons_zero, List.set_cons_succ, List.getElem_toArray, List.getElem_cons_zero, List.getElem_cons_succ]
  refine list_call 21 #[.slice (some ⟨p0, q0, none⟩) 106 c0] (by kernel_rfl) (by kernel_rfl) ((oreadt_ok L p0 q0 106 c0 u ((unhide hB0).gr hB.gr) (by omega) (by omega)).mono ?_)
  rintro r u1 ⟨g, p, c, rfl, hgg, hpp, hrd, hty, hgr⟩
  rw [hL] at hrd
  have hG : Gt g w [⟨w.heap.size, #[.int .u64 0, .slice none 0 0], 25⟩] p 106 c 0 L u1 := hB.gt hgr hgg hpp hrd hty (by intro y hy; rw [List.mem_singleton.1 hy]; exact ⟨(by decide : (25 : TypeId) ≠ 70), (by decide : (25 : TypeId) ≠ 5)⟩)
  have hwg : w.heap.size ≤ g := Nat.le_trans hB.gr.size hgg
  clear hB hgr hgg hpp hrd hty
  refine ⟨_, rfl, ?_⟩
  simp only [Act.put, List.setIfInBounds_toArray, List.set_cons_zero, List.set_cons_succ, List.getElem_toArray, List.getElem_cons_zero, List.getElem_cons_succ]
  (refine wpList_step fun K hK => ?_; replace hK := hide hK; go_simp; refine unhide hK _ _ ?_; clear hK K)
  refine wpList_nil ?_
  replace hG := hide hG
  go_upto_region 4 with fail
  replace hG := unhide hG
  refine wp_region_lit ?_
  refine list_val (.pointer (some ⟨g, 0, none⟩)) (by kernel_rfl) (by kernel_rfl) ?_
  simp only [Act.put, List.setIfInBounds_toArray, List.set_cons_zero, List.set_cons_succ, List.getElem_toArray, List.getElem_cons_zero, List.getElem_cons_succ]
  refine list_call 22 #[P0 g] (by kernel_rfl) (by kernel_rfl) ((fone_ok g p 106 c 0 L u1 hG.rd (by omega) (by omega)).mono ?_)
  rintro r_ u2 ⟨rfl, hR1, hb1⟩
  replace hG := hG.read hR1 hb1
  clear hR1 hb1
  obtain ⟨f1, hf10⟩ : ∃ x, x = L.getD 0 0 := ⟨_, rfl⟩
  rw [← hf10]
  refine ⟨_, rfl, ?_⟩
  replace hf10 := hide hf10
  simp only [Act.put, List.setIfInBounds_toArray, List.set_cons_zero, List.set_cons_succ, List.getElem_toArray, List.getElem_cons_zero, List.getElem_cons_succ]
  (refine wpList_step fun K hK => ?_; replace hK := hide hK; go_simp; refine unhide hK _ _ ?_; clear hK K)
  refine wpList_nil ?_
  replace hG := hide hG
  go_upto_region 5 with fail
  replace hG := unhide hG
  refine wp_region_lit ?_
  refine list_val (.pointer (some ⟨g, 0, none⟩)) (by kernel_rfl) (by kernel_rfl) ?_
  simp only [Act.put, List.setIfInBounds_toArray, List.set_cons_zero, List.set_cons_succ, List.getElem_toArray, List.getElem_cons_zero, List.getElem_cons_succ]
  refine list_call 23 #[P0 g] (by kernel_rfl) (by kernel_rfl) ((ru64_ok g p 106 c 1 L u2 hG.rd (by omega) (by omega)).mono ?_)
  rintro r_ u3 ⟨rfl, hR1, hb1⟩
  replace hG := hG.read hR1 hb1
  clear hR1 hb1
  obtain ⟨r, hr0⟩ : ∃ x, x = lowN ((L.drop 1).take 8) := ⟨_, rfl⟩
  rw [← hr0]
  refine ⟨_, rfl, ?_⟩
  replace hr0 := hide hr0
  simp only [Act.put, List.setIfInBounds_toArray, List.set_cons_zero, List.set_cons_succ, List.getElem_toArray, List.getElem_cons_zero, List.getElem_cons_succ]
  refine list_val (.agg #[.int .u64 r, .slice none 0 0]) (by kernel_rfl) (by kernel_rfl) ?_
  simp only [Act.put, List.setIfInBounds_toArray, List.set_cons_zero, List.set_cons_succ, List.getElem_toArray, List.getElem_cons_zero, List.getElem_cons_succ]
  refine list_valw (.pointer (some ⟨u3.heap.size, 0, none⟩)) (u3.alloc (.cells #[.int .u64 0, .slice none 0 0] 25 (0, 0))) (by kernel_rfl) (by kernel_rfl) ?_
  replace hG := hG.new #[.int .u64 0, .slice none 0 0] 25 ⟨by decide, by decide⟩
  simp only [List.nil_append, List.cons_append] at hG
  generalize World.alloc _ _ = u4 at *
  generalize u3.heap.size = q6 at *
  replace hG : Gt g w [⟨w.heap.size, #[.int .u64 0, .slice none 0 0], 25⟩, ⟨q6, #[.int .u64 0, .slice none 0 0], 25⟩] p 106 c (1 + 8) L u4 := hG
  simp only [Act.put, List.setIfInBounds_toArray, List.set_cons_zero, List.set_cons_succ, List.getElem_toArray, List.getElem_cons_zero, List.getElem_cons_succ]
  refine list_store 25 (.tmp 6) (.tmp 17) q6 #[.int .u64 r, .slice none 0 0] 25 #[.int .u64 0, .slice none 0 0] (by kernel_rfl) rfl (by kernel_rfl) (by kernel_rfl) (hG.get 1 (x := ⟨q6, #[.int .u64 0, .slice none 0 0], 25⟩) rfl) (by rw [Try.infoA]; rfl) rfl (by simp [Value.oneCell']) ?_
  replace hG := hG.set 1 (x := ⟨q6, #[.int .u64 0, .slice none 0 0], 25⟩) rfl #[.int .u64 r, .slice none 0 0]
  simp only [List.set_cons_zero, List.set_cons_succ] at hG
  generalize World.setRow _ _ _ = u5 at *
  replace hG : Gt g w [⟨w.heap.size, #[.int .u64 0, .slice none 0 0], 25⟩, ⟨q6, #[.int .u64 r, .slice none 0 0], 25⟩] p 106 c (9) L u5 := hG
  simp only [Act.put, List.setIfInBounds_toArray, List.set_cons_zero, List.set_cons_succ, List.getElem_toArray, List.getElem_cons_zero, List.getElem_cons_succ]
  refine wpList_nil ?_
  replace hG := hide hG
  go_upto_region 6 with fail
  replace hG := unhide hG
  refine wp_region_lit ?_
  refine list_val (.pointer (some ⟨g, 0, none⟩)) (by kernel_rfl) (by kernel_rfl) ?_
  simp only [Act.put, List.setIfInBounds_toArray, List.set_cons_zero, List.set_cons_succ, List.getElem_toArray, List.getElem_cons_zero, List.getElem_cons_succ]
  refine list_call 22 #[P0 g] (by kernel_rfl) (by kernel_rfl) ((fone_ok g p 106 c 9 L u5 hG.rd (by omega) (by omega)).mono ?_)
  rintro r_ u6 ⟨rfl, hR1, hb1⟩
  replace hG := hG.read hR1 hb1
  clear hR1 hb1
  obtain ⟨n1, hn10⟩ : ∃ x, x = L.getD 9 0 := ⟨_, rfl⟩
  rw [← hn10]
  refine ⟨_, rfl, ?_⟩
  replace hn10 := hide hn10
  simp only [Act.put, List.setIfInBounds_toArray, List.set_cons_zero, List.set_cons_succ, List.getElem_toArray, List.getElem_cons_zero, List.getElem_cons_succ]
  refine list_val (.int .i64 0) (by kernel_rfl) (by kernel_rfl) ?_
  simp only [Act.put, List.setIfInBounds_toArray, List.set_cons_zero, List.set_cons_succ, List.getElem_toArray, List.getElem_cons_zero, List.getElem_cons_succ]
  refine wpList_nil ?_
  have hn1 := (unhide hLb).at_ 9
  rw [← unhide hn10] at hn1
  obtain ⟨n, rfl⟩ := Int.eq_ofNat_of_zero_le hn1.1
  have hn255 : n < 256 := by omega
  have hnN : Hid (anN L = n) := by show anN L = n; unfold anN; rw [← unhide hn10]; rfl
  clear hn1 hn10
  have hI0 : Hid (AnS g p c q6 w L r 0 (.slice none 0 0) u6) := ⟨hG.bc, ⟨fun _ => hG.rd, fun h => absurd h (by omega), _, hG.rd.cel⟩, hG.ty, (fun x hx => by cases hx), rfl, .inl ⟨rfl, rfl⟩⟩
  clear hG
  go_wp2_with fail
  go_loopw [20] (fun i wr => ∃ (j : Nat) (hv : Value), j ≤ n ∧ i = .int .i64 (j : Int) ∧ Hid (AnS g p c q6 w L r j hv wr)) (fun i _ => n - (intOf i).toNat)
  case atStart => exact ⟨0, _, by omega, rfl, hI0⟩
  case round =>
  clear hI0
  obtain ⟨j, hv, hj, rfl, hA⟩ := hrel
  obtain ⟨hbc, hrs, hty, hor⟩ := unhide hA
  clear hA
  obtain ⟨ah, ch, rfl, -⟩ := hor.ls
  rw [List.length_map, ksO_len] at hbc hor
  by_cases hlt : j < n
  · skip
    have jI : (j : Int) < (n : Int) := by omega
    have hq6 : wr.heap[q6]? = some (.cells #[.int .u64 r, .slice ah j ch] 25 (0, 0)) := hbc.get 1 (x := ⟨q6, #[.int .u64 r, .slice ah j ch], 25⟩) rfl
    replace hbc := hide hbc; replace hrs := hide hrs; replace hty := hide hty; replace hor := hide hor
    go_upto_region 8 with fail
    refine anyC_start 7 (fun (v : World) => v.heap[q6]? = some (.cells #[.int .u64 r, .slice ah j ch] 25 (0, 0))) (by kernel_rfl) ?_
    have hdr := (Gr.refl wr).drew
    replace hor := hide ((unhide hor).gr hdr)
    replace hbc := hide ((unhide hbc).more hdr)
    replace hrs := hide ((unhide hrs).gr hdr)
    obtain ⟨cp0, hp0⟩ := unhide hty
    replace hty := hide (show ∃ cur, wr.drew.heap[p]? = some (.cells cur 5 (0, 0)) from ⟨cp0, hdr.blk hp0⟩)
    have hS : (fun (v : World) => v.heap[q6]? = some (.cells #[.int .u64 r, .slice ah j ch] 25 (0, 0))) wr.drew := hdr.blk hq6
    clear hdr hp0 hq6
    generalize World.drew _ = x0 at *
    simp only [List.size_toArray, List.length_cons, List.length_nil, Array.replicate, List.replicate]
    refine anyC_take (i := 0) (v := (.pointer (some ⟨q6, 1, none⟩))) (fun (v : World) => v.heap[q6]? = some (.cells #[.int .u64 r, .slice ah j ch] 25 (0, 0))) (fun _ h_ => h_) (.inr (by kernel_rfl)) rfl (by kernel_rfl) (by kernel_rfl) (by kernel_rfl) (by decide) (by kernel_rfl) (by decide) (fun _ _ _ h => h) (.inl ⟨by kernel_rfl, fun x_ hu => by kernel_rfl⟩) hS ?_
    simp only [Act.put, List.setIfInBounds_toArray, List.set_cons_zero, List.set_cons_succ, List.getElem_toArray, List.getElem_cons_zero, List.getElem_cons_succ]
    refine anyC_take (i := 1) (v := (.slice ah j ch)) (fun (v : World) => v.heap[q6]? = some (.cells #[.int .u64 r, .slice ah j ch] 25 (0, 0))) (fun _ h_ => h_) (.inr (by kernel_rfl)) rfl (by kernel_rfl) (by kernel_rfl) (by kernel_rfl) (by decide) (by kernel_rfl) (by decide) (fun _ _ _ h => h) (.inl ⟨by kernel_rfl, fun x_ hu => exec_sks _ (.tmp 22) rfl q6 1 (by kernel_rfl) ah j ch (cell_of hu (i := 1) rfl)⟩) hS ?_
    simp only [Act.put, List.setIfInBounds_toArray, List.set_cons_zero, List.set_cons_succ, List.getElem_toArray, List.getElem_cons_zero, List.getElem_cons_succ]
    refine anyC_take (i := 2) (v := (.pointer (some ⟨g, 0, none⟩))) (fun (v : World) => v.heap[q6]? = some (.cells #[.int .u64 r, .slice ah j ch] 25 (0, 0))) (fun _ h_ => h_) (.inr (by kernel_rfl)) rfl (by kernel_rfl) (by kernel_rfl) (by kernel_rfl) (by decide) (by kernel_rfl) (by decide) (fun _ _ _ h => h) (.inl ⟨by kernel_rfl, fun x_ hu => by kernel_rfl⟩) hS ?_
    simp only [Act.put, List.setIfInBounds_toArray, List.set_cons_zero, List.set_cons_succ, List.getElem_toArray, List.getElem_cons_zero, List.getElem_cons_succ]
    refine anyC_one (i := 3) (by kernel_rfl) rfl (fun K_ hQ => ?_)
    refine step_callw (by kernel_rfl) 24 #[P0 g] (by kernel_rfl) ((rkey_step g p c j L x0 (unhide hrs)).mono ?_)
    rintro r x1 ⟨rfl, hrs1, hb1⟩
    refine ⟨_, rfl, ?_⟩
    obtain ⟨C0, hC0⟩ := (unhide hrs).any
    obtain ⟨cp0, hp0⟩ := unhide hty
    have hpg : p ≠ g := ty_ne hp0 hC0 (by decide)
    replace hty := hide (show ∃ cur, x1.heap[p]? = some (.cells cur 5 (0, 0)) from ⟨cp0, hb1.blk hp0 hpg⟩)
    replace hor := hide (or_bt2 (unhide hor) hC0 (by decide) hb1)
    have hap := (unhide hbc).bl.apart hC0 (by intro y hy; simp only [List.mem_cons, List.not_mem_nil, or_false] at hy; rcases hy with rfl | rfl <;> exact (by decide : (25 : TypeId) ≠ 70))
    have hq6g : q6 ≠ g := hap ⟨q6, #[.int .u64 r, .slice ah j ch], 25⟩ (by simp)
    replace hbc := hide ((unhide hbc).keep hb1 (.inl (by simp)) hap)
    have hS : (fun (v : World) => v.heap[q6]? = some (.cells #[.int .u64 r, .slice ah j ch] 25 (0, 0))) x1 := hb1.blk hS hq6g
    clear hC0 hp0 hpg hap hq6g hb1
    replace hrs := hide hrs1
    clear hrs1
    have hky := kyO_ok hL (unhide hLb) j
    have hks : Hid (ksO L (j + 1) = ksO L j ++ [kyO L j]) := ksO_succ L j
    generalize kyO L j = KJ at *
    obtain ⟨hkl, hkb⟩ := hky
    refine hQ.out _ _ hS (fun _ => ?_)
    clear hQ K_
    simp only [Act.put, List.setIfInBounds_toArray, List.set_cons_zero, List.set_cons_succ, List.getElem_toArray, List.getElem_cons_zero, List.getElem_cons_succ]
    refine anyC_one (i := 4) (by kernel_rfl) rfl (fun K_ hQ => ?_)
    refine step_val (.slice (some ⟨x1.heap.size, 0, none⟩) 1 1) (x1.alloc (.cells (kc KJ) 30 (0, 0))) (by kernel_rfl) (exec_bk1 _ (.tmp 25) rfl KJ hkl (by kernel_rfl)) ?_
    have hg3 := (Gr.refl x1).alloc (.cells (kc KJ) 30 (0, 0))
    have hb3 : (x1.alloc (.cells (kc KJ) 30 (0, 0))).heap[x1.heap.size]? = some (.cells (kc KJ) 30 (0, 0)) := blk_new _ _
    generalize World.alloc _ _ = x3 at *
    generalize x1.heap.size = h2 at *
    have hS : (fun (v : World) => v.heap[q6]? = some (.cells #[.int .u64 r, .slice ah j ch] 25 (0, 0))) x3 := hg3.blk hS
    replace hor := hide ((unhide hor).gr hg3)
    replace hbc := hide ((unhide hbc).more hg3)
    replace hrs := hide ((unhide hrs).gr hg3)
    obtain ⟨cp0, hp0⟩ := unhide hty
    replace hty := hide (show ∃ cur, x3.heap[p]? = some (.cells cur 5 (0, 0)) from ⟨cp0, hg3.blk hp0⟩)
    have hls : Ls 32 x3 (some ⟨h2, 0, none⟩) 1 1 [bv KJ] := by
      refine ⟨rfl, ?_, .inr ⟨h2, 0, rfl, ?_⟩, Nat.le_refl _, by omega, fun p e => by have e3 := Option.some.inj e; rw [← e3]; exact lt_of_block hb3⟩
      · intro r hr
        rw [List.mem_singleton.1 hr, bv_len, hkl]
      · simp only [List.flatten_cons, List.flatten_nil, List.append_nil]
        exact range_row hb3
    replace hls := hide hls
    clear hg3 hb3 hp0
    refine hQ.out _ _ hS (fun _ => ?_)
    clear hQ K_
    simp only [Act.put, List.setIfInBounds_toArray, List.set_cons_zero, List.set_cons_succ, List.getElem_toArray, List.getElem_cons_zero, List.getElem_cons_succ]
    refine anyC_one (i := 5) (by kernel_rfl) rfl (fun K_ hQ => ?_)
    rw [if_pos (by kernel_rfl)]
    refine app_rows lt_k (.tmp 23) (.tmp 26) rfl w.heap.size _ ((ksO L j).map bv) (by kernel_rfl) (unhide hor) (some ⟨h2, 0, none⟩) 1 1 [bv KJ] (by kernel_rfl) (unhide hls) (by intro r hr; rw [List.mem_singleton.1 hr]; intro u hu; obtain ⟨z, _, rfl⟩ := List.mem_map.1 hu; rfl) (by rw [List.length_map, ksO_len]; omega) (unhide hbc).chg.size ?_
    intro v4 x4 hO4 hgr
    have hS : (fun (v : World) => v.heap[q6]? = some (.cells #[.int .u64 r, .slice ah j ch] 25 (0, 0))) x4 := by
      show x4.heap[q6]? = _
      rw [hgr.block q6 (lt_of_block hS) (or_ne (unhide hor) hS (by decide))]
      exact hS
    have hrs4 := (unhide hrs).grown (unhide hty) (unhide hor) hgr
    have hbc4 := (unhide hbc).grown (unhide hor) (Nat.le_refl _) hgr (by intro y hy; simp only [List.mem_cons, List.not_mem_nil, or_false] at hy; rcases hy with rfl | rfl <;> exact (by decide : (25 : TypeId) ≠ 30))
    have hor4 : Or_ 32 30 w.heap.size x4 v4 ((ksO L (j + 1)).map bv) := by
      rw [unhide hks, List.map_append]
      exact hO4
    obtain ⟨a4, c4_, rfl, -⟩ := hor4.ls
    rw [List.length_map, ksO_len] at hor4 ⊢
    replace hor := hide hor4
    replace hbc := hide hbc4
    replace hrs := hide hrs4.1
    replace hty := hide hrs4.2
    clear hrs4 hbc4 hO4 hgr hor4 hls hkl hkb
    refine hQ.out _ _ hS (fun _ => ?_)
    clear hQ K_
    simp only [Act.put, List.setIfInBounds_toArray, List.set_cons_zero, List.set_cons_succ, List.getElem_toArray, List.getElem_cons_zero, List.getElem_cons_succ]
    refine anyC_take (i := 6) (v := (.pointer (some ⟨q6, 1, none⟩))) (fun (v : World) => v.heap[q6]? = some (.cells #[.int .u64 r, .slice ah j ch] 25 (0, 0))) (fun _ h_ => h_) (.inr (by kernel_rfl)) rfl (by kernel_rfl) (by kernel_rfl) (by kernel_rfl) (by decide) (by kernel_rfl) (by decide) (fun _ _ _ h => h) (.inl ⟨by kernel_rfl, fun x_ hu => by kernel_rfl⟩) hS ?_
    simp only [Act.put, List.setIfInBounds_toArray, List.set_cons_zero, List.set_cons_succ, List.getElem_toArray, List.getElem_cons_zero, List.getElem_cons_succ]
    refine anyC_last (by kernel_rfl) rfl (fun K_ hQ => ?_)
    have c4 := cell_of hS (i := 1) rfl
    have fz := froz_of (i := 1) hS
    have hcg : (x4.setCell ⟨q6, 1, none⟩ (.slice a4 (j + 1) c4_)).heap[q6]? = some (.cells #[.int .u64 r, .slice a4 (j + 1) c4_] 25 (0, 0)) := setCells_heap [(.slice a4 (j + 1) c4_)] x4 q6 1 [.int .u64 r, .slice ah j ch] 25 hS
    have hbt : Bt q6 x4 (x4.setCell ⟨q6, 1, none⟩ (.slice a4 (j + 1) c4_)) := setCell_bt x4 q6 1 (.slice a4 (j + 1) c4_)
    have hI2 : Hid (AnS g p c q6 w L r (j + 1) (.slice a4 (j + 1) c4_) (x4.setCell ⟨q6, 1, none⟩ (.slice a4 (j + 1) c4_))) := by
      obtain ⟨C0, hC0⟩ := (unhide hrs).any
      obtain ⟨cp0, hp0⟩ := unhide hty
      have n1 : g ≠ q6 := ty_ne hC0 hS (by decide)
      have n2 : p ≠ q6 := ty_ne hp0 hS (by decide)
      exact ⟨(unhide hbc).but hbt 1 (x := ⟨q6, #[.int .u64 r, .slice ah j ch], 25⟩) rfl rfl hcg, (unhide hrs).bt hbt n1 n2, ⟨cp0, hbt.blk hp0 n2⟩, or_bt2 (unhide hor) hS (by decide) hbt⟩
    clear hcg hbt
    replace hS := hide hS
    replace hQ := hide hQ
    go_simp
    refine (unhide hQ).out _ _ ?_
    clear hQ K_ c4 fz
    generalize World.setCell _ _ _ = x9 at *
    simp only [Act.put, List.setIfInBounds_toArray, List.set_cons_zero, List.set_cons_succ, List.getElem_toArray, List.getElem_cons_zero, List.getElem_cons_succ]
    refine any_done (by kernel_rfl) ?_
    have ej : IntKind.i64.wrap ((j : Int) + 1) = ((j + 1 : Nat) : Int) := by rw [IntKind.wrap_i64]; omega
    clear hor hbc hrs hty hS hks
    go_wp2_with fail
    go_roundw
    case rel => exact ⟨j + 1, _, by omega, by go_num, hI2⟩
    case measure => simp [intOf]; omega
  · skip
    obtain rfl : j = n := by omega
    have jI : ¬ (j : Int) < (j : Int) := by omega
    have hq6 : Hid (wr.heap[q6]? = some (.cells #[.int .u64 r, .slice ah j ch] 25 (0, 0))) := hbc.get 1 (x := ⟨q6, #[.int .u64 r, .slice ah j ch], 25⟩) rfl
    unfold anE at hE
    rw [← unhide hf10, ← unhide hr0, unhide hnN] at hE
    replace hbc := hide hbc; replace hrs := hide hrs; replace hty := hide hty; replace hor := hide hor
    by_cases hf1 : f1 = 1
    · skip
      subst hf1
      cases hAR : anR r j
      · skip
        go_upto_region 10 with fail
        refine wp_region_lit ?_
        refine list_val (.int .i64 1) (by kernel_rfl) (by kernel_rfl) ?_
        simp only [Act.put, List.setIfInBounds_toArray, List.set_cons_zero, List.set_cons_succ, List.getElem_toArray, List.getElem_cons_zero, List.getElem_cons_succ]
        refine list_val (.bool false) (by kernel_rfl) (by kernel_rfl) ?_
        simp only [Act.put, List.setIfInBounds_toArray, List.set_cons_zero, List.set_cons_succ, List.getElem_toArray, List.getElem_cons_zero, List.getElem_cons_succ]
        refine list_val (.bool false) (by kernel_rfl) (by kernel_rfl) ?_
        simp only [Act.put, List.setIfInBounds_toArray, List.set_cons_zero, List.set_cons_succ, List.getElem_toArray, List.getElem_cons_zero, List.getElem_cons_succ]
        refine list_val (.agg #[.int .u64 r, .slice ah j ch]) (by kernel_rfl) (exec_arr _ 25 (.tmp 6) rfl q6 (by kernel_rfl) #[.int .u64 r, .slice ah j ch] 25 _ (unhide hq6) Try.underlying25 rfl (by rw [Try.infoA]; rfl)) ?_
        simp only [Act.put, List.setIfInBounds_toArray, List.set_cons_zero, List.set_cons_succ, List.getElem_toArray, List.getElem_cons_zero, List.getElem_cons_succ]
        refine list_call 17 #[.agg #[.int .u64 r, .slice ah j ch]] (by kernel_rfl) (by kernel_rfl) ((fam_ok r ah j ch wr).mono ?_)
        rintro r_ y1 ⟨rfl, hg1⟩
        rw [hAR]
        replace hbc := hide ((unhide hbc).more hg1); replace hrs := hide ((unhide hrs).gr hg1); replace hor := hide ((unhide hor).gr hg1); replace hq6 := hide (hg1.blk (unhide hq6))
        clear hg1
        refine ⟨_, rfl, ?_⟩
        simp only [Act.put, List.setIfInBounds_toArray, List.set_cons_zero, List.set_cons_succ, List.getElem_toArray, List.getElem_cons_zero, List.getElem_cons_succ]
        refine list_val (.bool true) (by kernel_rfl) (by kernel_rfl) ?_
        simp only [Act.put, List.setIfInBounds_toArray, List.set_cons_zero, List.set_cons_succ, List.getElem_toArray, List.getElem_cons_zero, List.getElem_cons_succ]
        refine list_val (.bool true) (by kernel_rfl) (by kernel_rfl) ?_
        simp only [Act.put, List.setIfInBounds_toArray, List.set_cons_zero, List.set_cons_succ, List.getElem_toArray, List.getElem_cons_zero, List.getElem_cons_succ]
        refine list_val (.bool true) (by kernel_rfl) (by kernel_rfl) ?_
        simp only [Act.put, List.setIfInBounds_toArray, List.set_cons_zero, List.set_cons_succ, List.getElem_toArray, List.getElem_cons_zero, List.getElem_cons_succ]
        refine wpList_step fun K hK => ?_
        rw [if_neg (ne_true_of_eq_false (by kernel_rfl))]
        refine hK _ _ ?_
        clear hK K
        simp only [Act.put, List.setIfInBounds_toArray, List.set_cons_zero, List.set_cons_succ, List.getElem_toArray, List.getElem_cons_zero, List.getElem_cons_succ]
        refine wpList_step fun K hK => ?_
        rw [if_neg (ne_true_of_eq_false (by kernel_rfl))]
        refine hK _ _ ?_
        clear hK K
        simp only [Act.put, List.setIfInBounds_toArray, List.set_cons_zero, List.set_cons_succ, List.getElem_toArray, List.getElem_cons_zero, List.getElem_cons_succ]
        refine wpList_step fun K hK => ?_
        rw [if_neg (ne_true_of_eq_false (by kernel_rfl))]
        refine hK _ _ ?_
        clear hK K
        simp only [Act.put, List.setIfInBounds_toArray, List.set_cons_zero, List.set_cons_succ, List.getElem_toArray, List.getElem_cons_zero, List.getElem_cons_succ]
        refine wpList_step fun K hK => ?_
        rw [if_neg (ne_true_of_eq_false (by kernel_rfl))]
        refine hK _ _ ?_
        clear hK K
        simp only [Act.put, List.setIfInBounds_toArray, List.set_cons_zero, List.set_cons_succ, List.getElem_toArray, List.getElem_cons_zero, List.getElem_cons_succ]
        refine wpList_step fun K hK => ?_
        rw [if_neg (ne_true_of_eq_false (by kernel_rfl))]
        refine hK _ _ ?_
        clear hK K
        simp only [Act.put, List.setIfInBounds_toArray, List.set_cons_zero, List.set_cons_succ, List.getElem_toArray, List.getElem_cons_zero, List.getElem_cons_succ]
        refine wpList_step fun K hK => ?_
        rw [if_neg (ne_true_of_eq_false (by kernel_rfl))]
        refine hK _ _ ?_
        clear hK K
        simp only [Act.put, List.setIfInBounds_toArray, List.set_cons_zero, List.set_cons_succ, List.getElem_toArray, List.getElem_cons_zero, List.getElem_cons_succ]
        refine list_val (.bool true) (by kernel_rfl) (by kernel_rfl) ?_
        simp only [Act.put, List.setIfInBounds_toArray, List.set_cons_zero, List.set_cons_succ, List.getElem_toArray, List.getElem_cons_zero, List.getElem_cons_succ]
        refine wpList_nil ?_
        replace hbc := unhide hbc
        replace hbc := hide hbc
        go_upto_region 11 with fail
        refine wp_region_lit ?_
        refine list_val (.agg #[.int .u64 0, .slice none 0 0]) (by kernel_rfl) (by kernel_rfl) ?_
        simp only [Act.put, List.setIfInBounds_toArray, List.set_cons_zero, List.set_cons_succ, List.getElem_toArray, List.getElem_cons_zero, List.getElem_cons_succ]
        refine list_store 25 (.tmp 2) (.tmp 45) (w.heap.size) #[.int .u64 0, .slice none 0 0] 25 #[.int .u64 0, .slice none 0 0] (by kernel_rfl) rfl (by kernel_rfl) (by kernel_rfl) ((unhide hbc).get 0 (x := ⟨w.heap.size, #[.int .u64 0, .slice none 0 0], 25⟩) rfl) (by rw [Try.infoA]; rfl) rfl (by simp [Value.oneCell']) ?_
        have hbt := setRow_bt y1 (w.heap.size) #[.int .u64 0, .slice none 0 0]
        have h00 := (unhide hbc).get 0 (x := ⟨w.heap.size, #[.int .u64 0, .slice none 0 0], 25⟩) rfl
        dsimp only at h00
        have hor9 := or_bt2 (unhide hor) h00 (by decide) hbt
        have hb9 := setRow_heap y1 (w.heap.size) _ #[.int .u64 0, .slice none 0 0] 25 (0, 0) h00
        have hg9 : Gr w (y1.setRow (w.heap.size) #[.int .u64 0, .slice none 0 0]) := Chg.own (Gr.refl w) ((unhide hbc).chg.bt2 hbt (.inr (Nat.le_refl _))) (by simpa using hwg)
        have hP : Hid (T (.returned (.tuple #[.agg #[.int .u64 0, .slice none 0 0], .int .i64 241])) (y1.setRow (w.heap.size) #[.int .u64 0, .slice none 0 0])) := by
          rw [unhide hT]
          exact ⟨rfl, hg9⟩
        clear hbt h00 hor9 hg9
        replace hb9 := hide hb9
        generalize World.setRow _ _ _ = y9 at *
        simp only [Act.put, List.setIfInBounds_toArray, List.set_cons_zero, List.set_cons_succ, List.getElem_toArray, List.getElem_cons_zero, List.getElem_cons_succ]
        (refine wpList_step fun K hK => ?_; replace hK := hide hK; go_simp; refine unhide hK _ _ ?_; clear hK K)
        refine wpList_nil ?_
        go_wp2_with fail
        exact bodyPost_ret (v := .tuple #[.agg #[.int .u64 0, .slice none 0 0], .int .i64 241]) (results_cell_tmp Try.results11 _ _ (w.heap.size) 25 #[.int .u64 0, .slice none 0 0] (0, 0) _ rfl (.int .i64 241) rfl (unhide hb9) Try.underlying25 rfl (by rw [Try.infoA]; rfl)) rfl (unhide hP)
      · skip
        have hZZ : allZ (L.drop (10 + 32 * j)) = false := by
          have hE2 := unhide hE
          rw [hAR] at hE2
          simpa using hE2
        have hj3 : j ≤ 3 := by unfold anR at hAR; rw [decide_eq_true_iff] at hAR; omega
        go_upto_region 10 with fail
        refine wp_region_lit ?_
        refine list_val (.int .i64 1) (by kernel_rfl) (by kernel_rfl) ?_
        simp only [Act.put, List.setIfInBounds_toArray, List.set_cons_zero, List.set_cons_succ, List.getElem_toArray, List.getElem_cons_zero, List.getElem_cons_succ]
        refine list_val (.bool false) (by kernel_rfl) (by kernel_rfl) ?_
        simp only [Act.put, List.setIfInBounds_toArray, List.set_cons_zero, List.set_cons_succ, List.getElem_toArray, List.getElem_cons_zero, List.getElem_cons_succ]
        refine list_val (.bool false) (by kernel_rfl) (by kernel_rfl) ?_
        simp only [Act.put, List.setIfInBounds_toArray, List.set_cons_zero, List.set_cons_succ, List.getElem_toArray, List.getElem_cons_zero, List.getElem_cons_succ]
        refine list_val (.agg #[.int .u64 r, .slice ah j ch]) (by kernel_rfl) (exec_arr _ 25 (.tmp 6) rfl q6 (by kernel_rfl) #[.int .u64 r, .slice ah j ch] 25 _ (unhide hq6) Try.underlying25 rfl (by rw [Try.infoA]; rfl)) ?_
        simp only [Act.put, List.setIfInBounds_toArray, List.set_cons_zero, List.set_cons_succ, List.getElem_toArray, List.getElem_cons_zero, List.getElem_cons_succ]
        refine list_call 17 #[.agg #[.int .u64 r, .slice ah j ch]] (by kernel_rfl) (by kernel_rfl) ((fam_ok r ah j ch wr).mono ?_)
        rintro r_ y1 ⟨rfl, hg1⟩
        rw [hAR]
        replace hbc := hide ((unhide hbc).more hg1); replace hrs := hide ((unhide hrs).gr hg1); replace hor := hide ((unhide hor).gr hg1); replace hq6 := hide (hg1.blk (unhide hq6))
        clear hg1
        refine ⟨_, rfl, ?_⟩
        simp only [Act.put, List.setIfInBounds_toArray, List.set_cons_zero, List.set_cons_succ, List.getElem_toArray, List.getElem_cons_zero, List.getElem_cons_succ]
        refine list_val (.bool false) (by kernel_rfl) (by kernel_rfl) ?_
        simp only [Act.put, List.setIfInBounds_toArray, List.set_cons_zero, List.set_cons_succ, List.getElem_toArray, List.getElem_cons_zero, List.getElem_cons_succ]
        refine list_val (.bool false) (by kernel_rfl) (by kernel_rfl) ?_
        simp only [Act.put, List.setIfInBounds_toArray, List.set_cons_zero, List.set_cons_succ, List.getElem_toArray, List.getElem_cons_zero, List.getElem_cons_succ]
        refine list_val (.bool false) (by kernel_rfl) (by kernel_rfl) ?_
        simp only [Act.put, List.setIfInBounds_toArray, List.set_cons_zero, List.set_cons_succ, List.getElem_toArray, List.getElem_cons_zero, List.getElem_cons_succ]
        refine list_val (.pointer (some ⟨g, 0, none⟩)) (by kernel_rfl) (by kernel_rfl) ?_
        simp only [Act.put, List.setIfInBounds_toArray, List.set_cons_zero, List.set_cons_succ, List.getElem_toArray, List.getElem_cons_zero, List.getElem_cons_succ]
        refine list_val (.pointer (some ⟨g, 0, none⟩)) (by kernel_rfl) (by kernel_rfl) ?_
        simp only [Act.put, List.setIfInBounds_toArray, List.set_cons_zero, List.set_cons_succ, List.getElem_toArray, List.getElem_cons_zero, List.getElem_cons_succ]
        refine list_call 27 #[P0 g] (by kernel_rfl) (by kernel_rfl) ((rleft_ok g p 106 c (10 + 32 * j) (by omega) (by omega) y1 ((unhide hrs).few hj3).cel).mono ?_)
        rintro r_ y2 ⟨rfl, hg1⟩
        replace hbc := hide ((unhide hbc).more hg1); replace hrs := hide ((unhide hrs).gr hg1); replace hor := hide ((unhide hor).gr hg1); replace hq6 := hide (hg1.blk (unhide hq6))
        clear hg1
        obtain ⟨m, hm⟩ : ∃ m, m = 106 - (10 + 32 * j) := ⟨_, rfl⟩
        rw [← hm]
        have hm1 : 10 + 32 * j + m ≤ 106 := by omega
        have hm2 : 106 ≤ 10 + 32 * j + m := by omega
        clear hm
        refine ⟨_, rfl, ?_⟩
        simp only [Act.put, List.setIfInBounds_toArray, List.set_cons_zero, List.set_cons_succ, List.getElem_toArray, List.getElem_cons_zero, List.getElem_cons_succ]
        refine list_call 26 #[P0 g, .int .i64 (m : Int)] (by kernel_rfl) (by kernel_rfl) ((rrawn_ok g p 106 c (10 + 32 * j) m L y2 ((unhide hrs).few hj3) hm1 (by omega)).mono ?_)
        rintro r_ y3 ⟨v, rfl, hO, hR1, hb1⟩
        rw [show (L.drop (10 + 32 * j)).take m = L.drop (10 + 32 * j) from List.take_of_length_le (by rw [List.length_drop, hL]; omega)] at hO
        obtain ⟨va, vc, rfl, hlb⟩ := ob_lb hO (isB_drop (unhide hLb) _) (n := m) (by rw [List.length_drop, hL]; omega)
        obtain ⟨C0, hC0⟩ := (unhide hrs).any
        have hap := (unhide hbc).bl.apart hC0 (by intro y hy; simp only [List.mem_cons, List.not_mem_nil, or_false] at hy; rcases hy with rfl | rfl <;> exact (by decide : (25 : TypeId) ≠ 70))
        have hq6g : q6 ≠ g := hap ⟨q6, #[.int .u64 r, .slice ah j ch], 25⟩ (by simp)
        replace hq6 := hide (hb1.blk (unhide hq6) hq6g)
        replace hor := hide (or_bt2 (unhide hor) hC0 (by decide) hb1)
        replace hbc := hide ((unhide hbc).keep hb1 (.inl (by simp)) hap)
        replace hlb := hide hlb
        clear hO hR1 hb1 hC0 hap hq6g hrs hty
        refine ⟨_, rfl, ?_⟩
        simp only [Act.put, List.setIfInBounds_toArray, List.set_cons_zero, List.set_cons_succ, List.getElem_toArray, List.getElem_cons_zero, List.getElem_cons_succ]
        refine list_call 25 #[.slice va m vc] (by kernel_rfl) (by kernel_rfl) ((zero_ok (L.drop (10 + 32 * j)) va m vc (by omega) y3 (unhide hlb)).mono ?_)
        rintro r_ y4 ⟨rfl, rfl⟩
        rw [hZZ]
        refine ⟨_, rfl, ?_⟩
        simp only [Act.put, List.setIfInBounds_toArray, List.set_cons_zero, List.set_cons_succ, List.getElem_toArray, List.getElem_cons_zero, List.getElem_cons_succ]
        refine list_val (.bool true) (by kernel_rfl) (by kernel_rfl) ?_
        simp only [Act.put, List.setIfInBounds_toArray, List.set_cons_zero, List.set_cons_succ, List.getElem_toArray, List.getElem_cons_zero, List.getElem_cons_succ]
        refine list_val (.bool true) (by kernel_rfl) (by kernel_rfl) ?_
        simp only [Act.put, List.setIfInBounds_toArray, List.set_cons_zero, List.set_cons_succ, List.getElem_toArray, List.getElem_cons_zero, List.getElem_cons_succ]
        refine wpList_nil ?_
        replace hbc := unhide hbc
        replace hbc := hide hbc
        go_upto_region 11 with fail
        refine wp_region_lit ?_
        refine list_val (.agg #[.int .u64 0, .slice none 0 0]) (by kernel_rfl) (by kernel_rfl) ?_
        simp only [Act.put, List.setIfInBounds_toArray, List.set_cons_zero, List.set_cons_succ, List.getElem_toArray, List.getElem_cons_zero, List.getElem_cons_succ]
        refine list_store 25 (.tmp 2) (.tmp 45) (w.heap.size) #[.int .u64 0, .slice none 0 0] 25 #[.int .u64 0, .slice none 0 0] (by kernel_rfl) rfl (by kernel_rfl) (by kernel_rfl) ((unhide hbc).get 0 (x := ⟨w.heap.size, #[.int .u64 0, .slice none 0 0], 25⟩) rfl) (by rw [Try.infoA]; rfl) rfl (by simp [Value.oneCell']) ?_
        have hbt := setRow_bt y4 (w.heap.size) #[.int .u64 0, .slice none 0 0]
        have h00 := (unhide hbc).get 0 (x := ⟨w.heap.size, #[.int .u64 0, .slice none 0 0], 25⟩) rfl
        dsimp only at h00
        have hor9 := or_bt2 (unhide hor) h00 (by decide) hbt
        have hb9 := setRow_heap y4 (w.heap.size) _ #[.int .u64 0, .slice none 0 0] 25 (0, 0) h00
        have hg9 : Gr w (y4.setRow (w.heap.size) #[.int .u64 0, .slice none 0 0]) := Chg.own (Gr.refl w) ((unhide hbc).chg.bt2 hbt (.inr (Nat.le_refl _))) (by simpa using hwg)
        have hP : Hid (T (.returned (.tuple #[.agg #[.int .u64 0, .slice none 0 0], .int .i64 241])) (y4.setRow (w.heap.size) #[.int .u64 0, .slice none 0 0])) := by
          rw [unhide hT]
          exact ⟨rfl, hg9⟩
        clear hbt h00 hor9 hg9
        replace hb9 := hide hb9
        generalize World.setRow _ _ _ = y9 at *
        simp only [Act.put, List.setIfInBounds_toArray, List.set_cons_zero, List.set_cons_succ, List.getElem_toArray, List.getElem_cons_zero, List.getElem_cons_succ]
        (refine wpList_step fun K hK => ?_; replace hK := hide hK; go_simp; refine unhide hK _ _ ?_; clear hK K)
        refine wpList_nil ?_
        go_wp2_with fail
        exact bodyPost_ret (v := .tuple #[.agg #[.int .u64 0, .slice none 0 0], .int .i64 241]) (results_cell_tmp Try.results11 _ _ (w.heap.size) 25 #[.int .u64 0, .slice none 0 0] (0, 0) _ rfl (.int .i64 241) rfl (unhide hb9) Try.underlying25 rfl (by rw [Try.infoA]; rfl)) rfl (unhide hP)
    · skip
      go_upto_region 10 with fail
      refine wp_region_lit ?_
      refine list_val (.int .i64 f1) (by kernel_rfl) (by kernel_rfl) ?_
      simp only [Act.put, List.setIfInBounds_toArray, List.set_cons_zero, List.set_cons_succ, List.getElem_toArray, List.getElem_cons_zero, List.getElem_cons_succ]
      refine list_val (.bool true) (by kernel_rfl) (by go_simp) ?_
      simp only [Act.put, List.setIfInBounds_toArray, List.set_cons_zero, List.set_cons_succ, List.getElem_toArray, List.getElem_cons_zero, List.getElem_cons_succ]
      refine list_val (.bool true) (by kernel_rfl) (by kernel_rfl) ?_
      simp only [Act.put, List.setIfInBounds_toArray, List.set_cons_zero, List.set_cons_succ, List.getElem_toArray, List.getElem_cons_zero, List.getElem_cons_succ]
      refine wpList_step fun K hK => ?_
      rw [if_neg (ne_true_of_eq_false (by kernel_rfl))]
      refine hK _ _ ?_
      clear hK K
      simp only [Act.put, List.setIfInBounds_toArray, List.set_cons_zero, List.set_cons_succ, List.getElem_toArray, List.getElem_cons_zero, List.getElem_cons_succ]
      refine wpList_step fun K hK => ?_
      rw [if_neg (ne_true_of_eq_false (by kernel_rfl))]
      refine hK _ _ ?_
      clear hK K
      simp only [Act.put, List.setIfInBounds_toArray, List.set_cons_zero, List.set_cons_succ, List.getElem_toArray, List.getElem_cons_zero, List.getElem_cons_succ]
      refine wpList_step fun K hK => ?_
      rw [if_neg (ne_true_of_eq_false (by kernel_rfl))]
      refine hK _ _ ?_
      clear hK K
      simp only [Act.put, List.setIfInBounds_toArray, List.set_cons_zero, List.set_cons_succ, List.getElem_toArray, List.getElem_cons_zero, List.getElem_cons_succ]
      refine list_val (.bool true) (by kernel_rfl) (by kernel_rfl) ?_
      simp only [Act.put, List.setIfInBounds_toArray, List.set_cons_zero, List.set_cons_succ, List.getElem_toArray, List.getElem_cons_zero, List.getElem_cons_succ]
      refine list_val (.bool true) (by kernel_rfl) (by kernel_rfl) ?_
      simp only [Act.put, List.setIfInBounds_toArray, List.set_cons_zero, List.set_cons_succ, List.getElem_toArray, List.getElem_cons_zero, List.getElem_cons_succ]
      refine wpList_step fun K hK => ?_
      rw [if_neg (ne_true_of_eq_false (by kernel_rfl))]
      refine hK _ _ ?_
      clear hK K
      simp only [Act.put, List.setIfInBounds_toArray, List.set_cons_zero, List.set_cons_succ, List.getElem_toArray, List.getElem_cons_zero, List.getElem_cons_succ]
      refine wpList_step fun K hK => ?_
      rw [if_neg (ne_true_of_eq_false (by kernel_rfl))]
      refine hK _ _ ?_
      clear hK K
      simp only [Act.put, List.setIfInBounds_toArray, List.set_cons_zero, List.set_cons_succ, List.getElem_toArray, List.getElem_cons_zero, List.getElem_cons_succ]
      refine wpList_step fun K hK => ?_
      rw [if_neg (ne_true_of_eq_false (by kernel_rfl))]
      refine hK _ _ ?_
      clear hK K
      simp only [Act.put, List.setIfInBounds_toArray, List.set_cons_zero, List.set_cons_succ, List.getElem_toArray, List.getElem_cons_zero, List.getElem_cons_succ]
      refine wpList_step fun K hK => ?_
      rw [if_neg (ne_true_of_eq_false (by kernel_rfl))]
      refine hK _ _ ?_
      clear hK K
      simp only [Act.put, List.setIfInBounds_toArray, List.set_cons_zero, List.set_cons_succ, List.getElem_toArray, List.getElem_cons_zero, List.getElem_cons_succ]
      refine wpList_step fun K hK => ?_
      rw [if_neg (ne_true_of_eq_false (by kernel_rfl))]
      refine hK _ _ ?_
      clear hK K
      simp only [Act.put, List.setIfInBounds_toArray, List.set_cons_zero, List.set_cons_succ, List.getElem_toArray, List.getElem_cons_zero, List.getElem_cons_succ]
      refine wpList_step fun K hK => ?_
      rw [if_neg (ne_true_of_eq_false (by kernel_rfl))]
      refine hK _ _ ?_
      clear hK K
      simp only [Act.put, List.setIfInBounds_toArray, List.set_cons_zero, List.set_cons_succ, List.getElem_toArray, List.getElem_cons_zero, List.getElem_cons_succ]
      refine list_val (.bool true) (by kernel_rfl) (by kernel_rfl) ?_
      simp only [Act.put, List.setIfInBounds_toArray, List.set_cons_zero, List.set_cons_succ, List.getElem_toArray, List.getElem_cons_zero, List.getElem_cons_succ]
      refine wpList_nil ?_
      replace hbc := unhide hbc
      replace hbc := hide hbc
      go_upto_region 11 with fail
      refine wp_region_lit ?_
      refine list_val (.agg #[.int .u64 0, .slice none 0 0]) (by kernel_rfl) (by kernel_rfl) ?_
      simp only [Act.put, List.setIfInBounds_toArray, List.set_cons_zero, List.set_cons_succ, List.getElem_toArray, List.getElem_cons_zero, List.getElem_cons_succ]
      refine list_store 25 (.tmp 2) (.tmp 45) (w.heap.size) #[.int .u64 0, .slice none 0 0] 25 #[.int .u64 0, .slice none 0 0] (by kernel_rfl) rfl (by kernel_rfl) (by kernel_rfl) ((unhide hbc).get 0 (x := ⟨w.heap.size, #[.int .u64 0, .slice none 0 0], 25⟩) rfl) (by rw [Try.infoA]; rfl) rfl (by simp [Value.oneCell']) ?_
      have hbt := setRow_bt wr (w.heap.size) #[.int .u64 0, .slice none 0 0]
      have h00 := (unhide hbc).get 0 (x := ⟨w.heap.size, #[.int .u64 0, .slice none 0 0], 25⟩) rfl
      dsimp only at h00
      have hor9 := or_bt2 (unhide hor) h00 (by decide) hbt
      have hb9 := setRow_heap wr (w.heap.size) _ #[.int .u64 0, .slice none 0 0] 25 (0, 0) h00
      have hg9 : Gr w (wr.setRow (w.heap.size) #[.int .u64 0, .slice none 0 0]) := Chg.own (Gr.refl w) ((unhide hbc).chg.bt2 hbt (.inr (Nat.le_refl _))) (by simpa using hwg)
      have hP : Hid (T (.returned (.tuple #[.agg #[.int .u64 0, .slice none 0 0], .int .i64 241])) (wr.setRow (w.heap.size) #[.int .u64 0, .slice none 0 0])) := by
        rw [unhide hT]
        exact ⟨rfl, hg9⟩
      clear hbt h00 hor9 hg9
      replace hb9 := hide hb9
      generalize World.setRow _ _ _ = y9 at *
      simp only [Act.put, List.setIfInBounds_toArray, List.set_cons_zero, List.set_cons_succ, List.getElem_toArray, List.getElem_cons_zero, List.getElem_cons_succ]
      (refine wpList_step fun K hK => ?_; replace hK := hide hK; go_simp; refine unhide hK _ _ ?_; clear hK K)
      refine wpList_nil ?_
      go_wp2_with fail
      exact bodyPost_ret (v := .tuple #[.agg #[.int .u64 0, .slice none 0 0], .int .i64 241]) (results_cell_tmp Try.results11 _ _ (w.heap.size) 25 #[.int .u64 0, .slice none 0 0] (0, 0) _ rfl (.int .i64 241) rfl (unhide hb9) Try.underlying25 rfl (by rw [Try.infoA]; rfl)) rfl (unhide hP)
end Go.Proofs.Ytiejdpodffkdpaa
