/-
  The reference's Bytes.
-/
import Derived.Test.YtpmgmpihmpifgaaDoorXK1
import Derived.Test.YtpmgmpihmpifgaaDoorURefInv
namespace Go.Proofs.YtpmgmpihmpifgaaDoor.Cv
open Go.RowKit
set_option maxRecDepth 100000
set_option linter.unusedSimpArgs false

theorem Bl.left {w v : World} {L M : List Blk} (h : Bl w (L ++ M) v) : Bl w L v := ⟨h.gr, fun x hx => h.at_ x (List.mem_append_left _ hx), (List.pairwise_append.1 h.ne).1⟩
def Pl : List Int := [65517, 65535, 65535, 65535, 65535, 65535, 65535, 65535, 65535, 65535, 65535, 65535, 65535, 65535, 65535, 32767]
theorem pl_sv : sv Pl = pp := by decide
/-- the prime's digits are taken away, as far as k -/
def SI (l m : List Int) (k : Nat) : Prop := m.length = 16 ∧ ∀ j, j < 16 → m.getD j 0 = l.getD j 0 - (if j < k then Pl.getD j 0 else 0)
theorem SI.start (l : List Int) (h : l.length = 16) : SI l l 0 := ⟨h, fun j _ => by rw [if_neg (by omega)]; omega⟩
theorem SI.step {l m : List Int} {k : Nat} (h : SI l m k) (hk : k < 16) : SI l (m.set k (m.getD k 0 - Pl.getD k 0)) (k + 1) ∧ m.getD k 0 = l.getD k 0 := by
  have e := h.2 k hk
  rw [if_neg (by omega)] at e
  refine ⟨⟨by simpa using h.1, fun j hj => ?_⟩, by omega⟩
  rw [getD_set m k j _ (by rw [h.1]; exact hk)]
  have hj2 := h.2 j hj
  by_cases q : j = k
  · subst q
    rw [if_pos rfl, if_pos (by omega)]
    omega
  · rw [if_neg q, hj2]
    by_cases q2 : j < k
    · rw [if_pos q2, if_pos (by omega)]
    · rw [if_neg q2, if_neg (by omega)]
theorem pl_mid (k : Nat) (h1 : 1 ≤ k) (h2 : k < 15) : Pl.getD k 0 = 65535 := by
  have : ∀ k : Fin 16, 1 ≤ k.val → k.val < 15 → Pl.getD k.val 0 = 65535 := by decide
  exact this ⟨k, by omega⟩ h1 h2
theorem pl_bd (k : Nat) (h : k < 16) : 0 ≤ Pl.getD k 0 ∧ Pl.getD k 0 ≤ 65535 := by
  have : ∀ k : Fin 16, 0 ≤ Pl.getD k.val 0 ∧ Pl.getD k.val 0 ≤ 65535 := by decide
  exact this ⟨k, h⟩
theorem SI.fin {l m : List Int} (h : SI l m 16) (hl : l.length = 16) (hd : D16 l) : sv m = sv l - pp ∧ ∀ j, j < 16 → -65535 ≤ m.getD j 0 ∧ m.getD j 0 ≤ 65535 := by
  have he : ∀ j, j < 16 → m.getD j 0 = l.getD j 0 - Pl.getD j 0 := by
    intro j hj
    have := h.2 j hj
    rw [if_pos hj] at this
    exact this
  constructor
  · have := sv_comb 1 (-1) m l Pl (by rw [hl, h.1]) (by rw [h.1]; rfl) (fun j hj => by rw [h.1] at hj; rw [he j hj]; omega)
    rw [this, pl_sv]
    omega
  · intro j hj
    have b1 := hd _ (getD_mem (l := l) (i := j) (by omega))
    have b2 := pl_bd j hj
    have := he j hj
    omega
/-- what is borrowed behind k digits -/
def BI (m0 m : List Int) (k : Nat) (c V : Int) : Prop := NI m k c V ∧ (c = 0 ∨ c = -1) ∧ (∀ j, k ≤ j → j < 16 → m.getD j 0 = m0.getD j 0)
theorem BI.start {m : List Int} (h : m.length = 16) (hb : ∀ j, j < 16 → -65535 ≤ m.getD j 0 ∧ m.getD j 0 ≤ 65535) : BI m m 0 0 (sv m) :=
  ⟨⟨h, by rw [Int.zero_mul, Int.add_zero], by omega, fun j hj => by omega, fun j hj => by have := hb j hj; omega⟩, .inl rfl, fun _ _ _ => rfl⟩
theorem BI.step {m0 m : List Int} {k : Nat} {c V : Int} (h : BI m0 m k c V) (hk : k < 16) (hb : -65535 ≤ m0.getD k 0 ∧ m0.getD k 0 ≤ 65535) :
    BI m0 (m.set k ((m.getD k 0 + c) % 65536)) (k + 1) ((m.getD k 0 + c) / 65536) V ∧ (-65535 ≤ m.getD k 0 ∧ m.getD k 0 ≤ 65535) := by
  have e := h.2.2 k (Nat.le_refl _) hk
  rw [← e] at hb
  refine ⟨⟨h.1.step hk, by have := h.2.1; omega, fun j hj hj2 => ?_⟩, hb⟩
  rw [getD_set m k j _ (by rw [h.1.1]; exact hk), if_neg (by omega)]
  exact h.2.2 j (by omega) hj2
theorem BI.fin {m0 m : List Int} {c V : Int} (h : BI m0 m 16 c V) : m.length = 16 ∧ D16 m ∧ ((c = 0 ∧ sv m = V) ∨ (c = -1 ∧ V < 0)) := by
  obtain ⟨⟨h1, h2, h3, h4, h5⟩, h6, _⟩ := h
  have hD := d16_of h1 h4
  have hb := sv_bd m hD
  rw [h1, p16] at hb
  rw [p16] at h2
  refine ⟨h1, hD, ?_⟩
  rcases h6 with e | e
  · subst e
    exact .inl ⟨rfl, by omega⟩
  · subst e
    exact .inr ⟨rfl, by omega⟩
/-- between the rounds -/
def RI (N : Int) (l : List Int) (r : Nat) : Prop := l.length = 16 ∧ D16 l ∧ sv l % pp = N % pp ∧ (sv l < pp ∨ (r < 2 ∧ sv l < (3 - (r : Int)) * pp))
theorem RI.start {N : Int} {l : List Int} (h1 : l.length = 16) (h2 : D16 l) (h3 : sv l % pp = N % pp) : RI N l 0 := by
  have hb := sv_bd l h2
  rw [h1, p16] at hb
  refine ⟨h1, h2, h3, .inr ⟨by omega, ?_⟩⟩
  unfold pp
  omega
theorem RI.next {N : Int} {l m0 m : List Int} {r : Nat} {c : Int} (h : RI N l r) (hb : BI m0 m 16 c (sv l - pp)) : (c = 0 ∧ RI N m (r + 1)) ∨ (c = -1 ∧ RI N l (r + 1)) := by
  obtain ⟨h1, h2, h3, h4⟩ := h
  obtain ⟨k1, k2, k3⟩ := hb.fin
  have hl := sv_bd l h2
  rcases k3 with ⟨e, k⟩ | ⟨e, k⟩
  · refine .inl ⟨e, k1, k2, by rw [k, Int.sub_emod_right, h3], ?_⟩
    have hm := sv_bd m k2
    rw [k] at hm ⊢
    rcases h4 with h4 | ⟨h4, h5⟩
    · exact .inl (by unfold pp at *; omega)
    · rcases (show r = 0 ∨ r = 1 by omega) with rfl | rfl
      · refine .inr ⟨by omega, ?_⟩
        unfold pp at *
        omega
      · refine .inl ?_
        unfold pp at *
        omega
  · exact .inr ⟨e, h1, h2, h3, .inl (by omega)⟩
theorem RI.fin {N : Int} {l : List Int} (h : RI N l 3) : sv l = N % pp := by
  obtain ⟨h1, h2, h3, h4⟩ := h
  have hl := sv_bd l h2
  rw [← h3]
  exact (Int.emod_eq_of_lt hl.1 (by omega)).symm
theorem kcs (l : List Int) (i : Nat) (x : Int) : (kc l).setIfInBounds i (.int .u8 x) = kc (l.set i x) := by
  unfold kc
  rw [List.setIfInBounds_toArray, List.map_set]
theorem kz (V : Int) : kc (digs V 0) = Z32 := by
  have : digs V 0 = List.replicate 32 0 := by
    unfold digs
    simp only [Nat.not_lt_zero, if_false]
    rfl
  rw [this]
  rfl
theorem byte_lo (V : Int) (k : Nat) (x : Int) (h : x = V / 65536 ^ k % 65536) : x % 256 = V / 256 ^ (2 * k) % 256 ∧ x / 256 = V / 256 ^ (2 * k + 1) % 256 := by
  have e1 : (256 : Int) ^ (2 * k) = 65536 ^ k := by
    rw [Int.pow_mul]
    rfl
  rw [Int.pow_succ, ← Int.ediv_ediv_of_nonneg (Int.pow_nonneg (by decide)), e1, h]
  omega

set_option maxHeartbeats 4000000 in
theorem nbytes_nc {n : Int} {a : Array Value} (ha : NC n a) (w : World) : Calls Tryd.prog 58 #[.agg a] w (fun r w' => r = .returned (.agg (kc (digs (n % pp) 32))) ∧ Gr w w') := by
  obtain ⟨l0, rfl, hl0⟩ := ha
  obtain ⟨V, hV⟩ : ∃ V, V = n % pp := ⟨_, rfl⟩
  rw [← hV]
  replace hV := hide hV
  go_enter Tryd.func58, Tryd.ntmps58
  go_upto_region 1 with fail
  have hB := ((Bl.nil w).new (nc l0) 80).new #[.int .u8 0, .int .u8 0, .int .u8 0, .int .u8 0, .int .u8 0, .int .u8 0, .int .u8 0, .int .u8 0, .int .u8 0, .int .u8 0, .int .u8 0, .int .u8 0, .int .u8 0, .int .u8 0, .int .u8 0, .int .u8 0, .int .u8 0, .int .u8 0, .int .u8 0, .int .u8 0, .int .u8 0, .int .u8 0, .int .u8 0, .int .u8 0, .int .u8 0, .int .u8 0, .int .u8 0, .int .u8 0, .int .u8 0, .int .u8 0, .int .u8 0, .int .u8 0] 25
  simp only [size_alloc, List.nil_append, List.cons_append] at hB
  generalize World.alloc _ _ = v1_ at *
  replace hB : Bl w [⟨w.heap.size, (nc l0), 80⟩, ⟨w.heap.size + 1, Z32, 25⟩] v1_ := hB
  refine wp_region_lit ?_
  refine list_val (.agg (nc l0)) (by kernel_rfl) (exec_arr _ 80 (.tmp 1) rfl w.heap.size (by kernel_rfl) (nc l0) 80 _ (hB.get 0 (x := ⟨w.heap.size, (nc l0), 80⟩) rfl) Tryd.underlying80 rfl (by rw [Tryd.infoNum, nc_size, (unhide hl0).1])) ?_
  simp only [nrm]
  refine list_call 72 #[.agg (nc l0)] (by kernel_rfl) (by kernel_rfl) ((carry_ok l0 (unhide hl0).1 (fun j hj => by have := (unhide hl0).2.1 _ (getD_mem (l := l0) (i := j) (by rw [(unhide hl0).1]; exact hj)); omega) _).mono ?_)
  rintro r v2_ ⟨c1, rfl, hc1, hg⟩
  refine ⟨_, rfl, ?_⟩
  replace hB := hB.more hg
  clear hg
  simp only [nrm]
  refine list_store 80 (.tmp 1) (.tmp 12) w.heap.size c1 80 (nc l0) (by kernel_rfl) rfl (by kernel_rfl) (by kernel_rfl) (hB.get 0 (x := ⟨w.heap.size, (nc l0), 80⟩) rfl) (by rw [Tryd.infoNum, NC.size _ hc1]) (((nc_size _).trans (unhide hl0).1).trans (NC.size _ hc1).symm) (NC.one _ hc1) ?_
  replace hB := hB.set 0 (x := ⟨w.heap.size, (nc l0), 80⟩) rfl c1
  simp only [List.set_cons_zero, List.set_cons_succ] at hB
  generalize World.setRow _ _ _ = v3_ at *
  simp only [nrm]
  refine wpList_nil ?_
  obtain ⟨l1, rfl, hl⟩ := hc1
  have hR : Hid (RI n l1 0) := hide (RI.start (unhide hl).1 (unhide hl).2.1 ((unhide hl).2.2.trans (unhide hl0).2.2))
  clear hl hl0
  replace hB := hide hB
  go_wp2_with fail
  go_loopw [3] (fun i wr => ∃ k : Nat, ∃ l : List Int, k ≤ 3 ∧ i = .int .i64 k ∧ Hid (RI n l k) ∧ Hid (Bl w [⟨w.heap.size, nc l, 80⟩, ⟨w.heap.size + 1, Z32, 25⟩] wr)) (fun i _ => 3 - (intOf i).toNat)
  case atStart => exact ⟨0, l1, by omega, rfl, hR, hB⟩
  case round =>
  clear hB hR
  obtain ⟨r, l, hr, rfl, hR, hB⟩ := hrel
  by_cases hrl : r < 3
  · go_upto_region 5 with fail
    replace hB := unhide hB
    have hz := (unhide hR).1
    refine wp_region_lit ?_
    refine list_val (.agg (nc l)) (by kernel_rfl) (exec_arr _ 80 (.tmp 1) rfl w.heap.size (by kernel_rfl) (nc l) 80 _ (hB.get 0 (x := ⟨w.heap.size, (nc l), 80⟩) rfl) Tryd.underlying80 rfl (by rw [Tryd.infoNum, nc_size, hz])) ?_
    simp only [nrm]
    refine wpList_step fun K hK => ?_
    replace hK := hide hK
    go_simp
    refine unhide hK _ _ ?_
    clear hK K
    replace hB := hB.new #[.int .i64 0, .int .i64 0, .int .i64 0, .int .i64 0, .int .i64 0, .int .i64 0, .int .i64 0, .int .i64 0, .int .i64 0, .int .i64 0, .int .i64 0, .int .i64 0, .int .i64 0, .int .i64 0, .int .i64 0, .int .i64 0] 80
    simp only [List.cons_append, List.nil_append] at hB
    generalize wr.heap.size = g5_1 at *
    generalize World.alloc _ _ = v4_ at *
    replace hB : Bl w [⟨w.heap.size, (nc l), 80⟩, ⟨w.heap.size + 1, Z32, 25⟩, ⟨g5_1, (nc Zl), 80⟩] v4_ := hB
    refine list_store 80 (.tmp 4) (.tmp 17) g5_1 (nc l) 80 (nc Zl) (by kernel_rfl) rfl (by kernel_rfl) (by kernel_rfl) (hB.get 2 (x := ⟨g5_1, (nc Zl), 80⟩) rfl) (by rw [Tryd.infoNum, nc_size, hz]) ((show (nc Zl).size = 16 from rfl).trans ((nc_size _).trans hz).symm) (nc_one _) ?_
    replace hB := hB.set 2 (x := ⟨g5_1, (nc Zl), 80⟩) rfl (nc l)
    simp only [List.set_cons_zero, List.set_cons_succ] at hB
    generalize World.setRow _ _ _ = v5_ at *
    simp only [nrm]
    refine wpList_nil ?_
    have hd := (unhide hR).2.1
    have hS := SI.start l hz
    obtain ⟨hS1, _⟩ := hS.step (show 0 < 16 by omega)
    have c0 := nc_cell (hB.get 2 (x := ⟨g5_1, nc l, 80⟩) rfl) 0 (by omega)
    have f0 := froz_of (i := 0) (hB.get 2 (x := ⟨g5_1, nc l, 80⟩) rfl)
    have b0 := hd _ (getD_mem (l := l) (i := 0) (by omega))
    have e0 : Pl.getD 0 0 = 65517 := by decide
    rw [e0] at hS1
    have hB2 := Bl.cell hB 2 (x := ⟨g5_1, nc l, 80⟩) rfl 0 (.int .i64 (l.getD 0 0 - 65517))
    simp only [List.set_cons_zero, List.set_cons_succ, nc_set] at hB2
    replace hB2 := hide hB2
    replace hS1 := hide hS1
    clear hS hB e0
    generalize l.getD 0 0 = x0 at *
    generalize l.set 0 (x0 - 65517) = m1 at *
    go_wp2_with fail
    clear c0 f0 b0
    go_loopw [5] (fun i wr => ∃ k : Nat, ∃ m : List Int, 1 ≤ k ∧ k ≤ 15 ∧ i = .int .i64 k ∧ Hid (SI l m k) ∧ Hid (Bl w [⟨w.heap.size, nc l, 80⟩, ⟨w.heap.size + 1, Z32, 25⟩, ⟨g5_1, nc m, 80⟩] wr)) (fun i _ => 15 - (intOf i).toNat)
    case atStart => exact ⟨1, m1, by omega, by omega, rfl, hS1, hB2⟩
    case round =>
    clear hB2 hS1
    obtain ⟨k, m, hk1, hk2, rfl, hS, hB⟩ := hrel
    by_cases hkl : k < 15
    · obtain ⟨hS2, ek⟩ := (unhide hS).step (show k < 16 by omega)
      have c1 := nc_cell (Bl.get (unhide hB) 2 (x := ⟨g5_1, nc m, 80⟩) rfl) k (by rw [(unhide hS).1]; omega)
      have f1 := froz_of (i := k) (Bl.get (unhide hB) 2 (x := ⟨g5_1, nc m, 80⟩) rfl)
      have b1 := hd _ (getD_mem (l := l) (i := k) (by omega))
      rw [pl_mid k hk1 hkl, ek] at hS2
      rw [ek] at c1
      have hB2 := Bl.cell (unhide hB) 2 (x := ⟨g5_1, nc m, 80⟩) rfl k (.int .i64 (l.getD k 0 - 65535))
      simp only [List.set_cons_zero, List.set_cons_succ, nc_set] at hB2
      replace hB2 := hide hB2
      replace hS2 := hide hS2
      clear ek
      generalize l.getD k 0 = x at *
      have k16 : (k : Int) < 16 := by omega
      go_wp2_with fail
      go_roundw
      case rel => exact ⟨k + 1, _, by omega, by omega, by go_num, hS2, hB2⟩
      case measure => simp [intOf]; omega
    · have e : k = 15 := by omega
      subst e
      obtain ⟨hS2, ek⟩ := (unhide hS).step (show 15 < 16 by omega)
      have c1 := nc_cell (Bl.get (unhide hB) 2 (x := ⟨g5_1, nc m, 80⟩) rfl) 15 (by rw [(unhide hS).1]; omega)
      have f1 := froz_of (i := 15) (Bl.get (unhide hB) 2 (x := ⟨g5_1, nc m, 80⟩) rfl)
      have b1 := hd _ (getD_mem (l := l) (i := 15) (by omega))
      have e15 : Pl.getD 15 0 = 32767 := by decide
      rw [e15, ek] at hS2
      rw [ek] at c1
      have hB2 := Bl.cell (unhide hB) 2 (x := ⟨g5_1, nc m, 80⟩) rfl 15 (.int .i64 (l.getD 15 0 - 32767))
      simp only [List.set_cons_zero, List.set_cons_succ, nc_set] at hB2
      replace hB2 := hide hB2
      obtain ⟨hv, hb⟩ := hS2.fin hz hd
      have hI := hide (BI.start hS2.1 hb)
      rw [hv] at hI
      clear ek e15 hS hS2 hB hv
      generalize l.getD 15 0 = x at *
      generalize m.set 15 (x - 32767) = m0 at *
      generalize hU : sv l - pp = U at hI
      replace hU := hide hU
      go_wp2_with fail
      clear c1 f1 b1
      go_loopw [6, 7] (fun c i wr => ∃ k : Nat, ∃ cv : Int, ∃ m : List Int, k ≤ 16 ∧ i = .int .i64 k ∧ c = .int .i64 cv ∧ Hid (BI m0 m k cv U) ∧ Hid (Bl w [⟨w.heap.size, nc l, 80⟩, ⟨w.heap.size + 1, Z32, 25⟩, ⟨g5_1, nc m, 80⟩] wr)) (fun _ i _ => 16 - (intOf i).toNat)
      case atStart => exact ⟨0, 0, m0, by omega, rfl, rfl, hI, hB2⟩
      case round =>
      clear hB2 hI
      obtain ⟨k, cv, m, hk, rfl, rfl, hI, hB⟩ := hrel
      by_cases hkl : k < 16
      · obtain ⟨hI2, b1⟩ := (unhide hI).step hkl (hb k hkl)
        have b2 := (unhide hI).2.1
        have c1 := nc_cell (Bl.get (unhide hB) 2 (x := ⟨g5_1, nc m, 80⟩) rfl) k (by rw [(unhide hI).1.1]; omega)
        have f1 := froz_of (i := k) (Bl.get (unhide hB) 2 (x := ⟨g5_1, nc m, 80⟩) rfl)
        have hB2 := Bl.cell (unhide hB) 2 (x := ⟨g5_1, nc m, 80⟩) rfl k (.int .i64 ((m.getD k 0 + cv) % 65536))
        simp only [List.set_cons_zero, List.set_cons_succ, nc_set] at hB2
        have k16 : (k : Int) < 16 := by omega
        have b3 : -1 ≤ cv ∧ cv ≤ 0 := by omega
        generalize hy : m.getD k 0 = y at *
        replace hy := hide hy
        by_cases hx : y + cv < 0
        · have x1 : (y + cv) % 65536 = y + cv + 65536 := by omega
          have x2 : (y + cv) / 65536 = -1 := by omega
          rw [x1] at hB2 hI2
          rw [x2] at hI2
          replace hB2 := hide hB2
          replace hI2 := hide hI2
          have x3 : ¬ y + cv + 65536 < 0 := by omega
          clear b2 x1 x2
          go_wp2_with fail
          refine wp_loop_rounds 2 ?_
          rw [rounds_succ]
          go_wp2_with fail
          rw [rounds_succ]
          go_wp2_with fail
          exact ⟨⟨k + 1, _, _, by omega, by go_num, rfl, hI2, hB2⟩, by simp [intOf]; omega⟩
        · have x1 : (y + cv) % 65536 = y + cv := by omega
          have x2 : (y + cv) / 65536 = 0 := by omega
          rw [x1] at hB2 hI2
          rw [x2] at hI2
          replace hB2 := hide hB2
          replace hI2 := hide hI2
          clear b2 x1 x2
          go_wp2_with fail
          refine wp_loop_rounds 1 ?_
          rw [rounds_succ]
          go_wp2_with fail
          exact ⟨⟨k + 1, _, _, by omega, by go_num, rfl, hI2, hB2⟩, by simp [intOf]; omega⟩
      · have e : k = 16 := by omega
        subst e
        replace hI := unhide hI
        rw [← unhide hU] at hI
        have hm := hI.1.1
        rcases (unhide hR).next hI with ⟨rfl, hR2⟩ | ⟨rfl, hR2⟩
        · replace hR2 := hide hR2
          go_upto_region 23 with fail
          replace hB := unhide hB
          refine wp_region_lit ?_
          refine list_val (.agg (nc m)) (by kernel_rfl) (exec_arr _ 80 (.tmp 4) rfl g5_1 (by kernel_rfl) (nc m) 80 _ (hB.get 2 (x := ⟨g5_1, (nc m), 80⟩) rfl) Tryd.underlying80 rfl (by rw [Tryd.infoNum, nc_size, hm])) ?_
          simp only [nrm]
          refine list_store 80 (.tmp 1) (.tmp 56) w.heap.size (nc m) 80 (nc l) (by kernel_rfl) rfl (by kernel_rfl) (by kernel_rfl) (hB.get 0 (x := ⟨w.heap.size, (nc l), 80⟩) rfl) (by rw [Tryd.infoNum, nc_size, hm]) (((nc_size _).trans hz).trans ((nc_size _).trans hm).symm) (nc_one _) ?_
          replace hB := hB.set 0 (x := ⟨w.heap.size, (nc l), 80⟩) rfl (nc m)
          simp only [List.set_cons_zero, List.set_cons_succ] at hB
          generalize World.setRow _ _ _ = v6_ at *
          simp only [nrm]
          refine wpList_nil ?_
          replace hB := hide (Bl.left (L := [⟨w.heap.size, nc m, 80⟩, ⟨w.heap.size + 1, Z32, 25⟩]) (M := [⟨g5_1, nc m, 80⟩]) hB)
          go_wp2_with fail
          go_roundw
          case rel => exact ⟨r + 1, m, by omega, by go_num, hR2, hB⟩
          case measure => simp [intOf]; omega
        · replace hR2 := hide hR2
          replace hB := hide (Bl.left (L := [⟨w.heap.size, nc l, 80⟩, ⟨w.heap.size + 1, Z32, 25⟩]) (M := [⟨g5_1, nc m, 80⟩]) (unhide hB))
          go_wp2_with fail
          go_roundw
          case rel => exact ⟨r + 1, l, by omega, by go_num, hR2, hB⟩
          case measure => simp [intOf]; omega
  · have e : r = 3 := by omega
    subst e
    have hv := (unhide hR).fin
    have hz := (unhide hR).1
    have hd := (unhide hR).2.1
    have hdig : Hid (∀ k, k < 16 → l.getD k 0 = V / 65536 ^ k % 65536) := hide (fun k _ => by rw [unhide hV, ← hv]; exact sv_digit l k hd)
    clear hR hv hV
    go_upto_region 25 with fail
    replace hB := (unhide hB).new #[.int .u8 0, .int .u8 0, .int .u8 0, .int .u8 0, .int .u8 0, .int .u8 0, .int .u8 0, .int .u8 0, .int .u8 0, .int .u8 0, .int .u8 0, .int .u8 0, .int .u8 0, .int .u8 0, .int .u8 0, .int .u8 0, .int .u8 0, .int .u8 0, .int .u8 0, .int .u8 0, .int .u8 0, .int .u8 0, .int .u8 0, .int .u8 0, .int .u8 0, .int .u8 0, .int .u8 0, .int .u8 0, .int .u8 0, .int .u8 0, .int .u8 0, .int .u8 0] 25
    simp only [List.cons_append, List.nil_append] at hB
    generalize wr.heap.size = gk at *
    generalize World.alloc _ _ = ub at *
    replace hB : Hid (Bl w [⟨w.heap.size, nc l, 80⟩, ⟨w.heap.size + 1, Z32, 25⟩, ⟨gk, kc (digs V (2 * 0)), 25⟩] ub) := by
      rw [Nat.mul_zero, kz]
      exact hide hB
    go_wp2_with fail
    go_loopw [10] (fun i wr => ∃ k : Nat, k ≤ 16 ∧ i = .int .i64 k ∧ Hid (Bl w [⟨w.heap.size, nc l, 80⟩, ⟨w.heap.size + 1, Z32, 25⟩, ⟨gk, kc (digs V (2 * k)), 25⟩] wr)) (fun i _ => 16 - (intOf i).toNat)
    case atStart => exact ⟨0, by omega, rfl, hB⟩
    case round =>
    clear hB
    obtain ⟨k, hk, rfl, hB⟩ := hrel
    by_cases hkl : k < 16
    · obtain ⟨q, hq⟩ : ∃ q, q = 2 * k := ⟨_, rfl⟩
      obtain ⟨s, hs⟩ : ∃ s, s = 2 * k + 1 := ⟨_, rfl⟩
      have hb := byte_lo V k _ (unhide hdig k hkl)
      have b1 := hd _ (getD_mem (l := l) (i := k) (by omega))
      rw [← hs, ← hq] at hb
      rw [← hq] at hB
      have c1 := nc_cell (Bl.get (unhide hB) 0 (x := ⟨w.heap.size, nc l, 80⟩) rfl) k (by omega)
      have c2 := KB.cell (KB.of (Bl.get (unhide hB) 2 (x := ⟨gk, kc (digs V q), 25⟩) rfl)) q (by rw [digs_len]; omega)
      have f2 := KB.froz (KB.of (Bl.get (unhide hB) 2 (x := ⟨gk, kc (digs V q), 25⟩) rfl)) q
      have hB2 := Bl.cell (unhide hB) 2 (x := ⟨gk, kc (digs V q), 25⟩) rfl q (.int .u8 (l.getD k 0 % 256))
      simp only [List.set_cons_zero, List.set_cons_succ, kcs] at hB2
      rw [digs_set V _ q hb.1] at hB2
      generalize (digs V q).getD q 0 = z at c2
      generalize hx_ : l.getD k 0 = x at *
      replace hx_ := hide hx_
      have e1 : 2 * (k : Int) = (q : Int) := by omega
      have e3 : IntKind.i64.wrap (q : Int) = (q : Int) := by rw [IntKind.wrap_i64]; omega
      have qI : (q : Int) < 32 := by omega
      have q3 : q < 32 := by omega
      have q0 : 0 ≤ (q : Int) := by omega
      have kI : (k : Int) < 16 := by omega
      have t1 : x.tmod 256 = x % 256 := Int.tmod_eq_emod_of_nonneg b1.1
      have w1 : IntKind.u8.wrap (x % 256) = x % 256 := by rw [IntKind.wrap_u8]; omega
      have w3 : x % 256 % 256 = x % 256 := by omega
      replace hq := hide hq
      replace hs := hide hs
      replace hb := hide hb
      replace hB2 := hide hB2
      go_upto_region 29 with fail
      generalize World.setCell _ _ _ = uc at *
      have es : q + 1 = s := by rw [unhide hs, unhide hq]
      rw [es] at hB2
      clear c1 c2 f2 hB t1 w1 w3
      have c1 := nc_cell (Bl.get (unhide hB2) 0 (x := ⟨w.heap.size, nc l, 80⟩) rfl) k (by omega)
      have c2 := KB.cell (KB.of (Bl.get (unhide hB2) 2 (x := ⟨gk, kc (digs V s), 25⟩) rfl)) s (by rw [digs_len]; have := unhide hs; omega)
      have f2 := KB.froz (KB.of (Bl.get (unhide hB2) 2 (x := ⟨gk, kc (digs V s), 25⟩) rfl)) s
      have hB3 := Bl.cell (unhide hB2) 2 (x := ⟨gk, kc (digs V s), 25⟩) rfl s (.int .u8 (x / 256))
      simp only [List.set_cons_zero, List.set_cons_succ, kcs] at hB3
      rw [digs_set V _ s (unhide hb).2, show s + 1 = 2 * (k + 1) from by rw [unhide hs]; omega] at hB3
      rw [unhide hx_] at c1
      generalize (digs V s).getD s 0 = z2 at c2
      have e2 : (q : Int) + 1 = (s : Int) := by omega
      have e4 : IntKind.i64.wrap (s : Int) = (s : Int) := by have := unhide hs; rw [IntKind.wrap_i64]; omega
      have sI : (s : Int) < 32 := by have := unhide hs; omega
      have s3 : s < 32 := by omega
      have s0 : 0 ≤ (s : Int) := by omega
      have t1 : x.tdiv 256 = x / 256 := Int.tdiv_eq_ediv_of_nonneg b1.1
      have w1 : IntKind.u8.wrap (x / 256) = x / 256 := by rw [IntKind.wrap_u8]; omega
      have w3 : x / 256 % 256 = x / 256 := by omega
      replace hB3 := hide hB3
      replace hB2 := hide (unhide hB2)
      go_wp2_with fail
      go_roundw
      case rel => exact ⟨k + 1, by omega, by go_num, hB3⟩
      case measure => simp [intOf]; omega
    · have e : k = 16 := by omega
      subst e
      go_upto_region 30 with fail
      replace hB := unhide hB
      replace hB : Bl w [⟨w.heap.size, nc l, 80⟩, ⟨w.heap.size + 1, Z32, 25⟩, ⟨gk, kc (digs V 32), 25⟩] _ := hB
      refine wp_region_lit ?_
      refine list_val (.agg (kc (digs V 32))) (by kernel_rfl) (exec_arr _ 25 (.tmp 9) rfl gk (by kernel_rfl) (kc (digs V 32)) 25 _ (hB.get 2 (x := ⟨gk, (kc (digs V 32)), 25⟩) rfl) Tryd.underlying25 rfl (by rw [Tryd.infoKey, kc32])) ?_
      simp only [nrm]
      refine list_store 25 (.tmp 2) (.tmp 78) (w.heap.size + 1) (kc (digs V 32)) 25 Z32 (by kernel_rfl) rfl (by kernel_rfl) (by kernel_rfl) (hB.get 1 (x := ⟨w.heap.size + 1, Z32, 25⟩) rfl) (by rw [Tryd.infoKey, kc32]) (Z32_size.trans (kc32 V 32).symm) (kc_one _) ?_
      replace hB := hB.set 1 (x := ⟨w.heap.size + 1, Z32, 25⟩) rfl (kc (digs V 32))
      simp only [List.set_cons_zero, List.set_cons_succ] at hB
      generalize World.setRow _ _ _ = v6_ at *
      simp only [nrm]
      refine wpList_nil ?_
      go_wp2_with fail
      exact bodyPost_ret (v := .agg (kc (digs V 32))) (results_cell_row Tryd.results58 _ _ (w.heap.size + 1) 25 (kc (digs V 32)) (0, 0) _ rfl (hB.get 1 (x := ⟨w.heap.size + 1, (kc (digs V 32)), 25⟩) rfl) Tryd.underlying25 rfl (by rw [Tryd.infoKey, kc32])) rfl ⟨rfl, hB.gr⟩
end Go.Proofs.YtpmgmpihmpifgaaDoor.Cv
