/-
  A number in four bytes; a label and parts, told apart.
-/
import Derived.Test.YtpmgmpihmpifgaaDoorKdfE
import Derived.Lib.AppendStr
namespace Go.Proofs.YtpmgmpihmpifgaaDoor
open Go.RowKit
set_option maxRecDepth 100000
set_option linter.unusedSimpArgs false
set_option linter.unusedVariables false

/-- the lowest k bytes of a number -/
def lw (X : Nat) : Nat → List Int
  | 0 => []
  | k + 1 => lw X k ++ [((X / 256 ^ k % 256 : Nat) : Int)]
theorem lw_len (X : Nat) : ∀ k, (lw X k).length = k
  | 0 => rfl
  | k + 1 => by rw [lw, List.length_append, lw_len X k]; rfl
theorem lw_isB (X : Nat) : ∀ k, IsB (lw X k)
  | 0 => by intro x hx; cases hx
  | k + 1 => by
    intro x hx
    rw [lw] at hx
    rcases List.mem_append.1 hx with h | h
    · exact lw_isB X k x h
    · have : x = ((X / 256 ^ k % 256 : Nat) : Int) := by simpa using h
      omega
/-- the first k bytes are laid, the rest are noughts -/
def lwz (B : List Int) (X k : Nat) : List Int := B ++ (lw X k ++ List.replicate (4 - k) 0)
theorem lwz_len (B : List Int) (X k : Nat) (hk : k ≤ 4) : (lwz B X k).length = B.length + 4 := by
  unfold lwz
  rw [List.length_append, List.length_append, lw_len, List.length_replicate]
  omega
theorem lwz_next (B : List Int) (X k : Nat) (hk : k < 4) : (lwz B X k).set (B.length + k) ((X / 256 ^ k % 256 : Nat) : Int) = lwz B X (k + 1) := by
  obtain ⟨m, hm⟩ : ∃ m, 4 - k = m + 1 := ⟨3 - k, by omega⟩
  have hm2 : 4 - (k + 1) = m := by omega
  unfold lwz
  rw [hm, hm2, List.set_append_right _ _ (by omega), Nat.add_sub_cancel_left, List.set_append_right _ _ (by rw [lw_len]; omega), lw_len, Nat.sub_self, List.replicate_succ, List.set_cons_zero, lw, List.append_assoc]
  rfl
theorem lwz_zero (B : List Int) (X : Nat) : lwz B X 0 = B ++ List.replicate 4 0 := rfl
theorem lwz_all (B : List Int) (X : Nat) : lwz B X 4 = B ++ lw X 4 := by unfold lwz; simp
def Putd (B : List Int) (X : Nat) (n : Nat) (w : World) (r : Ending) (w' : World) : Prop := ∃ g, r = .returned (.slice (some ⟨g, 0, none⟩) (n + 4) (n + 4)) ∧ w.heap.size ≤ g ∧ w'.heap[g]? = some (.cells (kc (B ++ lw X 4)) 5 (0, 0)) ∧ Gr w w'
set_option maxHeartbeats 2000000 in
theorem put_ok (B : List Int) (a : Option Addr) (n c : Nat) (X : Nat) (hX : X < 4294967296) (hn : n ≤ 140737488351232) (w : World) (hB : Lb w a n c B) : Calls Tryd.prog 76 #[.slice a n c, .int .u64 X, .int .i64 4] w (Putd B X n w) := by
  obtain ⟨T, hT⟩ : ∃ T, T = Putd B X n w := ⟨_, rfl⟩
  rw [← hT]
  replace hT := hide hT
  have hl := hB.len
  replace hB := hide hB
  have w1 : IntKind.i64.wrap ((n : Int) + 4) = (n : Int) + 4 := by rw [IntKind.wrap_i64]; omega
  have w2 : (0 : Int) ≤ (n : Int) + 4 := by omega
  replace hl := hide hl
  go_enter Tryd.func76, Tryd.ntmps76
  go_upto_region 1 with fail
  refine wp_region_lit ?_
  iterate 4 (refine wpList_step fun K hK => ?_; replace hK := hide hK; go_simp; refine unhide hK _ _ ?_; clear hK K)
  refine wpList_make_room w rfl (.tmp 12) (.tmp 12) rfl ((n : Int) + 4) ((n : Int) + 4) (n + 4) (n + 4) (by kernel_rfl) (by kernel_rfl) (by omega) (by omega) (by omega) (by omega) ?_
  have hv := blk_new w (.cells (kc (List.replicate (n + 4) 0)) 5 (0, 0))
  have hg := (Gr.refl w).alloc (.cells (kc (List.replicate (n + 4) 0)) 5 (0, 0))
  generalize World.alloc _ _ = u1 at *
  simp only [Act.put, List.setIfInBounds_toArray, List.set_cons_zero, List.set_cons_succ, List.getElem_toArray, List.getElem_cons_zero, List.getElem_cons_succ]
  replace hv := hide hv
  replace hg := hide hg
  iterate 1 (refine wpList_step fun K hK => ?_; replace hK := hide hK; go_simp; refine unhide hK _ _ ?_; clear hK K)
  refine wpList_nil ?_
  go_upto_region 2 with fail
  refine wp_region_lit ?_
  iterate 2 (refine wpList_step fun K hK => ?_; replace hK := hide hK; go_simp; refine unhide hK _ _ ?_; clear hK K)
  refine wpList_plain rfl fun K hK => ?_
  refine copy_wp (.tmp 14) (.tmp 15) rfl w.heap.size 0 (n + 4) (n + 4) a n c (by kernel_rfl) (by kernel_rfl) ((List.replicate (n + 4) (0 : Int)).map (Value.int .u8)) 5 (unhide hv) B (by rw [unhide hl]; exact (Nat.min_eq_left (by omega)).symm) (by rcases ((unhide hB).gr (unhide hg)).sl with h | ⟨p, o, h1, h2⟩; exact .inl h; exact .inr ⟨p, o, h1, h2⟩) (by rw [List.length_map, List.length_replicate, unhide hl]; omega) ?_
  have hv2 := setCells_heap (B.map (Value.int .u8)) u1 w.heap.size 0 _ _ (unhide hv)
  rw [sp_kc B _ (by rw [List.length_replicate, unhide hl]; omega)] at hv2
  have e0 : B ++ (List.replicate (n + 4) (0 : Int)).drop B.length = lwz B X 0 := by
    rw [lwz_zero, List.drop_replicate, unhide hl]
    congr 2
    omega
  rw [e0] at hv2
  have hg2 := (setCells_bt (B.map (Value.int .u8)) u1 w.heap.size 0).gr (unhide hg) (Nat.le_refl _)
  refine hK _ _ ?_
  clear hK K hv hg e0
  simp only [Act.put, List.setIfInBounds_toArray, List.set_cons_zero, List.set_cons_succ, List.getElem_toArray, List.getElem_cons_zero, List.getElem_cons_succ]
  generalize World.setCells _ _ _ _ = u2 at *
  rw [unhide hl]
  replace hv2 : Hid (u2.heap[w.heap.size]? = some (.cells (kc (lwz B X 0)) 5 (0, 0))) := hv2
  replace hg2 := hide hg2
  iterate 1 (refine wpList_step fun K hK => ?_; replace hK := hide hK; go_simp; refine unhide hK _ _ ?_; clear hK K)
  refine wpList_nil ?_
  go_wp2_with fail
  go_loopw [8, 1] (fun i x wr => ∃ k : Nat, k ≤ 4 ∧ i = .int .i64 ((n + k : Nat) : Int) ∧ x = .int .u64 ((X / 256 ^ k : Nat) : Int) ∧ Hid (wr.heap[w.heap.size]? = some (.cells (kc (lwz B X k)) 5 (0, 0))) ∧ Hid (Gr w wr)) (fun i _ _ => n + 4 - (intOf i).toNat)
  case atStart => exact ⟨0, by omega, rfl, by simp, hv2, hg2⟩
  case round =>
  clear hv2 hg2
  obtain ⟨k, hk, rfl, rfl, hv, hg⟩ := hrel
  by_cases hlt : k < 4
  · obtain ⟨q, hq⟩ : ∃ q, q = n + k := ⟨_, rfl⟩
    obtain ⟨Y, hY⟩ : ∃ Y, Y = X / 256 ^ k := ⟨_, rfl⟩
    obtain ⟨y, hy⟩ : ∃ y : Int, y = ((Y % 256 : Nat) : Int) := ⟨_, rfl⟩
    have q1 : (q : Int) < (n : Int) + 4 := by omega
    have q2 : q < n + 4 := by omega
    have q3 : 0 ≤ (q : Int) ∧ (q : Int) < ((n + 4 : Nat) : Int) := by omega
    have q4 : IntKind.i64.wrap ((q : Int) + 1) = (q : Int) + 1 := by rw [IntKind.wrap_i64]; omega
    have e1 : IntKind.u8.wrap (Y : Int) = y := by rw [IntKind.wrap_u8', hy]; omega
    obtain ⟨Z, hZ⟩ : ∃ Z, Z = X / 256 ^ (k + 1) := ⟨_, rfl⟩
    have e2 : (Y : Int) / 256 = (Z : Int) := by rw [hZ, hY, Nat.pow_succ, ← Nat.div_div_eq_div_mul]; omega
    have cs := kc_cell (unhide hv) q (by rw [lwz_len _ _ _ (by omega), unhide hl]; omega)
    have fs := froz_of (i := q) (unhide hv)
    have hv2 := heap_setCell_same wr w.heap.size q _ _ (.int .u8 y) (unhide hv)
    rw [kc_set] at hv2
    have hnx : (lwz B X k).set q y = lwz B X (k + 1) := by
      rw [hq, hy, hY, ← unhide hl]
      exact lwz_next B X k hlt
    rw [hnx] at hv2
    have hg2 := (setCells_bt [.int .u8 y] wr w.heap.size q).gr (unhide hg) (Nat.le_refl _)
    replace hg2 : Hid (Gr w (wr.setCell ⟨w.heap.size, q, none⟩ (.int .u8 y))) := hg2
    replace hv2 := hide hv2
    rw [← hq, ← hY]
    generalize (lwz B X k).getD q 0 = old at cs
    clear hnx
    replace hq := hide hq
    replace hY := hide hY
    replace hy := hide hy
    replace hZ := hide hZ
    go_wp2_with fail
    have h1 := unhide hq
    refine ⟨⟨k + 1, by omega, by congr 1; omega, by rw [unhide hZ], hv2, hg2⟩, ?_⟩
    show n + 4 - ((q : Int) + 1).toNat < n + 4 - (q : Int).toNat
    omega
  · have e : k = 4 := by omega
    subst e
    have hP : Hid (Putd B X n w (.returned (.slice (some ⟨w.heap.size, 0, none⟩) (n + 4) (n + 4))) wr) := ⟨_, rfl, Nat.le_refl _, by rw [← lwz_all]; exact unhide hv, unhide hg⟩
    clear hlt hv hg
    go_wp2_with fail
    rw [unhide hT]
    exact unhide hP
theorem put32_ok (B : List Int) (a : Option Addr) (n c : Nat) (X : Nat) (hX : X < 4294967296) (hn : n ≤ 140737488351232) (w : World) (hB : Lb w a n c B) : Calls Tryd.prog 91 #[.slice a n c, .int .u32 X] w (Putd B X n w) := by
  obtain ⟨T, hT⟩ : ∃ T, T = Putd B X n w := ⟨_, rfl⟩
  rw [← hT]
  replace hT := hide hT
  replace hB := hide hB
  go_enter Tryd.func91, Tryd.ntmps91
  go_wp2_with (go_at_call 76; refine (put_ok B a n c X hX hn _ (unhide hB)).mono ?_; rintro e u1 ⟨g, rfl, h1, h2, h3⟩)
  rw [unhide hT]
  exact ⟨g, rfl, h1, h2, h3⟩
theorem length_ok (X : Nat) (hX : X < 4294967296) (w : World) : Calls Tryd.prog 71 #[.int .i64 X] w (Putd [] X 0 w) := by
  obtain ⟨T, hT⟩ : ∃ T, T = Putd [] X 0 w := ⟨_, rfl⟩
  rw [← hT]
  replace hT := hide hT
  have e1 : IntKind.u32.wrap (X : Int) = (X : Int) := by rw [IntKind.wrap_u32]; omega
  go_enter Tryd.func71, Tryd.ntmps71
  go_wp2_with (go_at_call 91; refine (put32_ok [] none 0 0 X hX (by omega) _ (Lb.nil _)).mono ?_; rintro e u1 ⟨g, rfl, h1, h2, h3⟩)
  rw [unhide hT]
  exact ⟨g, rfl, h1, h2, h3⟩
/-- the bytes of a text -/
def tb (s : ByteArray) : List Int := s.data.toList.map fun x => ((x.toNat : Nat) : Int)
theorem tb_len (s : ByteArray) : (tb s).length = s.size := by unfold tb; simp
theorem tb_isB (s : ByteArray) : IsB (tb s) := by
  intro x hx
  obtain ⟨y, _, rfl⟩ := List.mem_map.1 hx
  have := y.toNat_lt
  omega
theorem tb_cells (s : ByteArray) : Lib.strCells s = (tb s).map (Value.int .u8) := by unfold Lib.strCells tb; simp
/-- a text is put behind bytes of one's own -/
theorem app_str {w : World} {ops : Array Oper} {rest : List Oper} {o : Oper} {a : Act} {Q : Exit → Act → World → Prop} (hgd : o.guard = none) (s x : Operand)
    (ho : o.op = .call { callee := .builtin .append, args := #[s, x], argTypes := #[33, 9] }) (b : Nat) (v : Value) (L : List Int) (hs : a.eval s = v) (hown : Ob b w v L)
    (t : ByteArray) (hx : a.eval x = .string t) (hbig : L.length + t.size ≤ 140737488355328) (hB : b ≤ w.heap.size)
    (h : ∀ v' w', Ob b w' v' (L ++ tb t) → w.grownBy w' v.ownBlock → wpList Tryd.prog ops Q rest (a.put o.dst v') w') :
    wpList Tryd.prog ops Q (o :: rest) a w := by
  obtain ⟨i0, hi, hz0, hz1, hz2⟩ := info_parts Tryd.info5
  refine Lib.wpList_append_own_string w hgd s x 33 9 ho b 5 i0 Tryd.underlying33 Tryd.underlying9 hi hz0 hz1 hz2 v L.length _ hs hown t hx (by unfold maxLen; omega) hbig hB ?_
  intro v' w' h1 h2 _
  refine h v' w' ?_ h2
  unfold Ob
  rw [List.length_append, List.map_append, tb_len, ← tb_cells]
  exact h1
theorem Putd.ob {w w' : World} {B : List Int} {X n g : Nat} (hn : B.length = n) (hg : w.heap.size ≤ g) (h : w'.heap[g]? = some (.cells (kc (B ++ lw X 4)) 5 (0, 0))) (hb : n ≤ 281474976710656) : Ob w.heap.size w' (.slice (some ⟨g, 0, none⟩) (n + 4) (n + 4)) (B ++ lw X 4) := by
  have hl : (B ++ lw X 4).length = n + 4 := by rw [List.length_append, lw_len, hn]
  refine ⟨by simp, .inr ⟨g, n + 4, kc (B ++ lw X 4), by rw [hl], hg, h, by omega, by unfold maxLen; omega, by rw [kc_size, hl]; omega, ?_⟩⟩
  unfold kc
  rw [Nat.mul_one]
  exact List.take_of_length_le (by simp)
theorem Ob.up {b b' : Nat} {w : World} {v : Value} {L : List Int} (h : Ob b w v L) (k : b' ≤ b) : Ob b' w v L := by
  obtain ⟨h1, h2 | ⟨g, cap, cur, h2, h3, h4, h5⟩⟩ := h
  · exact ⟨h1, .inl h2⟩
  · exact ⟨h1, .inr ⟨g, cap, cur, h2, by omega, h4, h5⟩⟩
theorem Ob.lb {b : Nat} {w : World} {v : Value} {L : List Int} (h : Ob b w v L) (hb : IsB L) : ∃ a c, v = .slice a L.length c ∧ Lb w a L.length c L := by
  obtain ⟨a, c, h1, h2, h3, h4⟩ := h.slice
  exact ⟨a, c, h1, rfl, hb, h4, h2, by unfold maxLen at h3; omega⟩
/-- a part with its length ahead of it -/
def tpart (p : List Int) : List Int := lw p.length 4 ++ p
theorem tpart_isB {p : List Int} (h : IsB p) : IsB (tpart p) := isB_append (lw_isB _ _) h
/-- a label and k parts -/
def infL (l : List Int) (ps : List (List Int)) (k : Nat) : List Int := tpart l ++ ((ps.take k).map tpart).flatten
theorem infL_next (l : List Int) (ps : List (List Int)) (k : Nat) (h : k < ps.length) : infL l ps (k + 1) = infL l ps k ++ tpart (ps.getD k []) := by
  unfold infL
  rw [List.take_add_one, List.getElem?_eq_getElem h, List.map_append, List.flatten_append, ← List.append_assoc]
  simp [h]
/-- a label and parts, told apart -/
def infoL (l : List Int) (ps : List (List Int)) : List Int := infL l ps ps.length
def small4 (ps : List (List Int)) : Prop := ps.length ≤ 100 ∧ ∀ p ∈ ps, p.length ≤ 4096
theorem infL_len (l : List Int) (ps : List (List Int)) (hl : l.length ≤ 1000) (hp : small4 ps) : ∀ k, k ≤ ps.length → (infL l ps k).length ≤ 1004 + 4100 * k
  | 0, _ => by unfold infL tpart; simp [lw_len]; omega
  | k + 1, h => by
    rw [infL_next l ps k (by omega), List.length_append]
    have h1 := infL_len l ps hl hp k (by omega)
    have h2 : (tpart (ps.getD k [])).length ≤ 4100 := by
      have h3 : (ps.getD k []) ∈ ps := by rw [List.getD_eq_getElem?_getD, List.getElem?_eq_getElem (by omega)]; exact List.getElem_mem _
      have := hp.2 _ h3
      unfold tpart
      rw [List.length_append, lw_len]
      omega
    omega
def Infd (L : List Int) (w : World) (r : Ending) (w' : World) : Prop := ∃ v, r = .returned v ∧ Ob w.heap.size w' v L ∧ Gr w w'
set_option maxHeartbeats 2000000 in
theorem infoOf_ok (t : ByteArray) (ht : t.size ≤ 1000) (ps : List (List Int)) (ap : Option Addr) (m cp : Nat) (hm : ps.length = m) (hp : small4 ps) (w : World) (hP : Pr w ap ps) : Calls Tryd.prog 50 #[.string t, .slice ap m cp] w (Infd (infoL (tb t) ps) w) := by
  obtain ⟨T, hT⟩ : ∃ T, T = Infd (infoL (tb t) ps) w := ⟨_, rfl⟩
  rw [← hT]
  have hmb : m ≤ 100 := by rw [← hm]; exact hp.1
  have htl : (tb t).length ≤ 1000 := by rw [tb_len]; exact ht
  replace hT := hide hT
  replace hP := hide hP
  replace hp := hide hp
  replace hm := hide hm
  replace htl := hide htl
  go_enter Tryd.func50, Tryd.ntmps50
  go_upto_region 1 with fail
  refine wp_region_lit ?_
  iterate 2 (refine wpList_step fun K hK => ?_; replace hK := hide hK; go_simp; refine unhide hK _ _ ?_; clear hK K)
  refine list_call 71 #[.int .i64 t.size] (by kernel_rfl) (by kernel_rfl) ((length_ok t.size (by omega) _).mono ?_)
  rintro r u1 ⟨g, rfl, h1, h2, hg⟩
  refine ⟨_, rfl, ?_⟩
  have hO := Putd.ob (B := []) (n := 0) rfl h1 h2 (by omega)
  rw [List.nil_append] at hO
  clear h1 h2
  simp only [Act.put, List.setIfInBounds_toArray, List.set_cons_zero, List.set_cons_succ, List.getElem_toArray, List.getElem_cons_zero, List.getElem_cons_succ]
  replace hO := hide hO
  replace hg := hide hg
  iterate 1 (refine wpList_step fun K hK => ?_; replace hK := hide hK; go_simp; refine unhide hK _ _ ?_; clear hK K)
  refine app_str rfl (.tmp 10) (.tmp 11) rfl w.heap.size _ (lw t.size 4) (by kernel_rfl) (unhide hO) t (by kernel_rfl) (by rw [lw_len]; omega) (unhide hg).size ?_
  intro v2 u2 hO2 hgb
  have hG := (unhide hO).grown (Nat.le_refl _) (unhide hg) hgb
  clear hgb hO hg
  have hO3 : Ob w.heap.size u2 v2 (infL (tb t) ps 0) := by
    have e : infL (tb t) ps 0 = lw t.size 4 ++ tb t := by unfold infL tpart; rw [tb_len]; simp
    rw [e]; exact hO2
  clear hO2
  obtain ⟨a2, c2, rfl, _, _, _⟩ := hO3.slice
  simp only [Act.put, List.setIfInBounds_toArray, List.set_cons_zero, List.set_cons_succ, List.getElem_toArray, List.getElem_cons_zero, List.getElem_cons_succ]
  replace hO3 := hide hO3
  replace hG := hide hG
  obtain ⟨n2, hn2⟩ : ∃ n2, n2 = (infL (tb t) ps 0).length := ⟨_, rfl⟩
  rw [← hn2] at hO3
  rw [← hn2]
  replace hn2 := hide hn2
  iterate 1 (refine wpList_step fun K hK => ?_; replace hK := hide hK; go_simp; refine unhide hK _ _ ?_; clear hK K)
  refine wpList_nil ?_
  go_wp2_with fail
  go_loopw [5, 15] (fun x i wr => ∃ (k n : Nat) (a : Option Addr) (c : Nat), k ≤ m ∧ i = .int .i64 k ∧ x = .slice a n c ∧ Hid (n = (infL (tb t) ps k).length) ∧ Hid (Ob w.heap.size wr (.slice a n c) (infL (tb t) ps k)) ∧ Hid (Gr w wr)) (fun _ i _ => m - (intOf i).toNat)
  case atStart => exact ⟨0, n2, a2, c2, by omega, rfl, rfl, hn2, hO3, hG⟩
  case round =>
  clear hO3 hG hn2
  obtain ⟨k, n, a, c, hk, rfl, rfl, hn, hO, hG⟩ := hrel
  by_cases hl : k < m
  · have kI : (k : Int) < (m : Int) := by omega
    obtain ⟨p, o, rfl, hq⟩ : ∃ p o, ap = some ⟨p, o, none⟩ ∧ Pq w p o ps := by
      rcases (unhide hP) with h | ⟨p, o, h1, h2⟩
      · have := unhide hm; rw [h] at this; simp at this; omega
      · exact ⟨p, o, h1, h2⟩
    obtain ⟨aP, nP, cP, cc, hPl, hPb, hPs, hPc, hPm⟩ := hq k (by rw [unhide hm]; exact hl)
    replace cc := (unhide hG).cell cc
    clear hq
    have hnx := hide (infL_next (tb t) ps k (by rw [unhide hm]; exact hl))
    have hPs4 : (ps.getD k []).length ≤ 4096 := (unhide hp).2 _ (by rw [List.getD_eq_getElem?_getD, List.getElem?_eq_getElem (by rw [unhide hm]; exact hl)]; exact List.getElem_mem _)
    have hlen := infL_len (tb t) ps (unhide htl) (unhide hp) k (by rw [unhide hm]; omega)
    generalize ps.getD k [] = P at *
    have hPI : nP ≤ 4096 := by omega
    replace hPs := hide hPs
    replace hPb := hide hPb
    replace hPl := hide hPl
    replace hPs4 := hide hPs4
    replace hlen := hide hlen
    go_upto_region 5 with fail
    refine wp_region_lit ?_
    iterate 3 (refine wpList_step fun K hK => ?_; replace hK := hide hK; go_simp; refine unhide hK _ _ ?_; clear hK K)
    refine list_call 71 #[.int .i64 nP] (by kernel_rfl) (by kernel_rfl) ((length_ok nP (by omega) _).mono ?_)
    rintro r v1 ⟨g1, rfl, h1, h2, hg⟩
    refine ⟨_, rfl, ?_⟩
    replace hO := (unhide hO).gr hg
    replace hG := (unhide hG).trans hg
    have hs1 : Sl v1 (some ⟨g1, 0, none⟩) (lw nP 4) := .inr ⟨g1, 0, rfl, by rw [List.nil_append] at h2; exact kc_at h2⟩
    clear hg h1 h2
    simp only [Act.put, List.setIfInBounds_toArray, List.set_cons_zero, List.set_cons_succ, List.getElem_toArray, List.getElem_cons_zero, List.getElem_cons_succ]
    refine app_bs (by kernel_rfl) (.tmp 19) (.tmp 22) rfl w.heap.size (.slice a n c) (infL (tb t) ps k) (by kernel_rfl) hO (some ⟨g1, 0, none⟩) 4 4 (lw nP 4) (by kernel_rfl) (lw_len _ _) hs1 (by have := unhide hlen; omega) hG.size ?_
    intro x2 v2 hO2 hgb
    replace hG := hO.grown (Nat.le_refl _) hG hgb
    clear hgb hO hs1
    simp only [Act.put, List.setIfInBounds_toArray, List.set_cons_zero, List.set_cons_succ, List.getElem_toArray, List.getElem_cons_zero, List.getElem_cons_succ]
    replace hO2 := hide hO2
    replace hG := hide hG
    iterate 1 (refine wpList_step fun K hK => ?_; replace hK := hide hK; go_simp; refine unhide hK _ _ ?_; clear hK K)
    replace hO2 := unhide hO2
    replace hG := unhide hG
    refine app_bs (by kernel_rfl) (.tmp 23) (.tmp 24) rfl w.heap.size x2 (infL (tb t) ps k ++ lw nP 4) (by kernel_rfl) hO2 aP nP cP P (by kernel_rfl) (unhide hPl) ((unhide hPs).gr hG) (by rw [List.length_append, lw_len]; have := unhide hlen; omega) hG.size ?_
    intro x3 v3 hO3 hgb
    replace hG := hO2.grown (Nat.le_refl _) hG hgb
    clear hgb hO2
    have hO4 : Ob w.heap.size v3 x3 (infL (tb t) ps (k + 1)) := by
      rw [unhide hnx]
      unfold tpart
      rw [unhide hPl, ← List.append_assoc]
      exact hO3
    obtain ⟨a5, c5, rfl, _, _, _⟩ := hO4.slice
    clear hO3
    obtain ⟨n5, hn5⟩ : ∃ n5, n5 = (infL (tb t) ps (k + 1)).length := ⟨_, rfl⟩
    rw [← hn5] at hO4
    rw [← hn5]
    replace hn5 := hide hn5
    simp only [Act.put, List.setIfInBounds_toArray, List.set_cons_zero, List.set_cons_succ, List.getElem_toArray, List.getElem_cons_zero, List.getElem_cons_succ]
    replace hO4 := hide hO4
    replace hG := hide hG
    iterate 1 (refine wpList_step fun K hK => ?_; replace hK := hide hK; go_simp; refine unhide hK _ _ ?_; clear hK K)
    refine wpList_nil ?_
    go_wp2_with fail
    go_roundw
    case rel => exact ⟨k + 1, n5, a5, c5, by omega, by go_num, rfl, hn5, hO4, hG⟩
    case measure => simp [intOf]; omega
  · have e : k = m := by omega
    subst e
    have hPd : Hid (Infd (infoL (tb t) ps) w (.returned (.slice a n c)) wr) := ⟨_, rfl, by unfold infoL; rw [unhide hm]; exact unhide hO, unhide hG⟩
    clear hO hG hn
    go_wp2_with fail
    rw [unhide hT]
    exact unhide hPd
end Go.Proofs.YtpmgmpihmpifgaaDoor
