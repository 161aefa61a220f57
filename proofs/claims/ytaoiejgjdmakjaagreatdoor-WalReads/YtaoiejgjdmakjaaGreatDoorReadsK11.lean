/-
  Of layer 12: what the proof leans on.
-/
import Derived.Test.YtaoiejgjdmakjaaGreatDoorReadsK10
namespace Go.Proofs.YtaoiejgjdmakjaaGreatDoor
open Go.RowKit
set_option maxRecDepth 100000
set_option linter.unusedSimpArgs false
set_option linter.unusedVariables false
def Rtx (t : Nat) (B : List (List Int)) (N : Nat) (w : World) (r : Ending) (w' : World) : Prop := ∃ v X, r = .returned v ∧ Ox w.heap.size w' v X ∧ Tl (fun i => B.getD i []) N t X ∧ usd X ≤ N ∧ Gr w w'
structure TxI (t : Nat) (f : Nat → List Int) (N : Nat) (w : World) (v : Value) (X : List (List Int)) (u : Nat) (wr : World) : Prop where
  at_ : u = usd X
  lay : Lay f N t 0 0 X
  ox : Ox w.heap.size wr v X
  gr : Gr w wr
def Okk (ok : Bool) (P : Prop) : Prop := ok = true ↔ P
theorem TxI.more {t : Nat} {f : Nat → List Int} {N : Nat} {w : World} {v : Value} {X : List (List Int)} {u : Nat} {wr x : World} (h : TxI t f N w v X u wr) (g : Gr wr x) : TxI t f N w v X u x := ⟨h.at_, h.lay, h.ox.gr g, h.gr.trans g⟩
theorem exec_afromo {a : Act} {o : Oper} (w : World) (x y : Operand) (ho : o.op = .slice 36 x (some y) none none) (g r k : Nat) (hx : a.eval x = .pointer (some ⟨g, r, none⟩)) (hy : a.eval y = .int .i64 k) (hk : k < 64) :
    (execOp a.eval o).run Tryz.prog w = .ok (.value (.slice (some ⟨g, r + k, none⟩) (64 - k) (64 - k))) w := by
  have e1 : (0 : Int) ≤ k := by omega
  have hu : Tryz.prog.underlying 36 = some (.array (Tryz.prog.arrayLen 36) (Tryz.prog.elem 36)) := by kernel_rfl
  have hl : Tryz.prog.arrayLen 36 = 64 := by kernel_rfl
  have hs : (sizeOf (Tryz.prog.elem 36)).run Tryz.prog w = .ok 1 w := by kernel_rfl
  have e2 : (k : Int) ≤ Tryz.prog.arrayLen 36 := by rw [hl]; omega
  have hne : ¬ 64 = k := by omega
  simp [execOp, ho, hx, hy, run_sliceAt_array_l _ _ _ hu _ _ e1 e2, hs, slicedAt, hl, hne, Addr.add_mid]
theorem row_sl {w : World} {p r : Nat} {b : List Int} (h : w.rangeAt p r (bv b)) : Sl w (some ⟨p, r + 1, none⟩) (b.drop 1) := by
  refine .inr ⟨p, r + 1, rfl, fun j hj => ?_⟩
  rw [List.length_drop] at hj
  have h1 := h (j + 1) (.int .u8 (b.getD (j + 1) 0)) (by
    unfold bv
    rw [List.getElem?_map, List.getElem?_eq_getElem (by omega), List.getD_eq_getElem?_getD, List.getElem?_eq_getElem (by omega)]
    rfl)
  rw [show r + (j + 1) = r + 1 + j from by omega] at h1
  rw [h1, List.getD_eq_getElem?_getD, List.getD_eq_getElem?_getD, List.getElem?_drop, Nat.add_comm j 1]
theorem or_apart2 (x m s k : Nat) (h1 : x < 2 ^ k) (h2 : x + m * 2 ^ k < 9223372036854775808) (y : Nat) (hy : y = m * 2 ^ k) (hs : s = x + y) : bits .or .i64 (x : Int) (y : Int) = (s : Int) := by
  subst hy hs
  exact or_apart k x m h1 h2
set_option maxHeartbeats 4000000 in
theorem txs12_ok (t : Nat) (ht : t < 18446744073709551616) (B : List (List Int)) (hBb : ∀ b ∈ B, BB b) (a : Option Addr) (N c : Nat) (w : World) (hL : Ls 64 w a N c (B.map bv)) (hN : N ≤ 512) : Calls Tryz.prog 13 #[.int .u64 t, .slice a N c] w (Rtx t B N w) := by
  obtain ⟨T, hT⟩ : ∃ T, T = Rtx t B N w := ⟨_, rfl⟩
  rw [← hT]
  replace hT := hide hT
  obtain ⟨f, hf⟩ : ∃ f : Nat → List Int, f = fun i => B.getD i [] := ⟨_, rfl⟩
  have hBl : B.length = N := by have h := hL.len; rw [List.length_map] at h; exact h
  have hfb : ∀ i, i < N → BB (f i) := fun i hi => by rw [hf]; exact hBb _ (mem_of_getD (by rw [hBl]; exact hi))
  have hrow : ∀ i, i < N → ∃ p o, a = some ⟨p, o, none⟩ ∧ w.rangeAt p (o + 64 * i) (bv (f i)) := fun i hi => by
    obtain ⟨p, o, h1, h2⟩ := hL.at_ i hi
    refine ⟨p, o, h1, ?_⟩
    have e : (B.map bv).getD i [] = bv (f i) := by
      rw [hf]
      simp [List.getD_eq_getElem?_getD, List.getElem?_eq_getElem (show i < B.length by rw [hBl]; exact hi)]
    rw [e] at h2
    exact h2
  have hT2 : Hid (T = fun r w' => ∃ v X, r = .returned v ∧ Ox w.heap.size w' v X ∧ Tl f N t X ∧ usd X ≤ N ∧ Gr w w') := by show T = _; rw [unhide hT, hf]; rfl
  have hcap := hL.cap
  have hmax := hL.max
  replace hf := hide hf; replace hfb := hide hfb; replace hrow := hide hrow; replace hL := hide hL; replace hBl := hide hBl; replace hBb := hide hBb
  have hI0 : Hid (TxI t f N w (.slice none 0 0) [] 0 w) := ⟨rfl, trivial, Ox.nil _ w, Gr.refl w⟩
  go_enter Tryz.func13, Tryz.ntmps13
  go_wp2_with fail
  go_loopw [5, 6] (fun v i wr => ∃ (X : List (List Int)) (u : Nat), u ≤ N ∧ i = .int .i64 (u : Int) ∧ Hid (TxI t f N w v X u wr)) (fun _ i _ => N - (intOf i).toNat)
  case atStart => exact ⟨[], 0, by omega, rfl, hI0⟩
  case round =>
  clear hI0
  obtain ⟨X, u, hu, rfl, hJ⟩ := hrel
  obtain ⟨xa, xc, rfl, hlq⟩ := (unhide hJ).ox.lq
  replace hlq := hide hlq
  have hxu : X.length ≤ N := by have h1 := (unhide hJ).at_; have h2 := usd_ge X; omega
  by_cases hun : u < N
  · skip
    have uI : (u : Int) < (N : Int) := by omega
    obtain ⟨p, o, rfl, hr⟩ := (unhide hrow) u hun
    obtain ⟨b, hb⟩ : ∃ b, b = f u := ⟨_, rfl⟩
    have hbb := (unhide hfb) u hun
    rw [← hb] at hr hbb
    have hbl := hbb.1
    have hcn := cn4_is hbb
    have hby : ∀ i, i < 64 → ∃ c : Nat, b.getD i 0 = (c : Int) ∧ c < 256 := fun i hi => by
      have h := hbb.2 _ (mem_of_getD (d := 0) (i := i) (by rw [hbl]; exact hi))
      exact ⟨(b.getD i 0).toNat, by omega, by omega⟩
    obtain ⟨c0, hc0, hd0⟩ := hby 13 (by omega)
    obtain ⟨c1, hc1, hd1⟩ := hby 14 (by omega)
    obtain ⟨c2, hc2, hd2⟩ := hby 15 (by omega)
    obtain ⟨c3, hc3, hd3⟩ := hby 16 (by omega)
    rw [hc0, hc1, hc2, hc3] at hcn
    obtain ⟨m1, hm1⟩ : ∃ m, m = c1 * 2 ^ 8 := ⟨_, rfl⟩
    obtain ⟨m2, hm2⟩ : ∃ m, m = c2 * 2 ^ 16 := ⟨_, rfl⟩
    obtain ⟨m3, hm3⟩ : ∃ m, m = c3 * 2 ^ 24 := ⟨_, rfl⟩
    obtain ⟨s1, hs1⟩ : ∃ s, s = c0 + m1 := ⟨_, rfl⟩
    obtain ⟨s2, hs2⟩ : ∃ s, s = s1 + m2 := ⟨_, rfl⟩
    obtain ⟨n, hn⟩ : ∃ s, s = s2 + m3 := ⟨_, rfl⟩
    have hnb : n < 4294967296 := by omega
    have hnc : cn4 b = n := by omega
    have o1 : bits .or .i64 (c0 : Int) (m1 : Int) = (s1 : Int) := or_apart2 c0 c1 s1 8 (by omega) (by omega) m1 hm1 hs1
    have o2 : bits .or .i64 (s1 : Int) (m2 : Int) = (s2 : Int) := or_apart2 s1 c2 s2 16 (by omega) (by omega) m2 hm2 hs2
    have o3 : bits .or .i64 (s2 : Int) (m3 : Int) = (n : Int) := or_apart2 s2 c3 n 24 (by omega) (by omega) m3 hm3 hn
    have w0 : IntKind.i64.wrap (c0 : Int) = (c0 : Int) := by rw [IntKind.wrap_i64]; omega
    have w1 : IntKind.i64.wrap (c1 : Int) = (c1 : Int) := by rw [IntKind.wrap_i64]; omega
    have w2 : IntKind.i64.wrap (c2 : Int) = (c2 : Int) := by rw [IntKind.wrap_i64]; omega
    have w3 : IntKind.i64.wrap (c3 : Int) = (c3 : Int) := by rw [IntKind.wrap_i64]; omega
    have l1 : IntKind.i64.wrap ((c1 : Int) * 256) = (m1 : Int) := by rw [IntKind.wrap_i64]; omega
    have l2 : IntKind.i64.wrap ((c2 : Int) * 65536) = (m2 : Int) := by rw [IntKind.wrap_i64]; omega
    have l3 : IntKind.i64.wrap ((c3 : Int) * 16777216) = (m3 : Int) := by rw [IntKind.wrap_i64]; omega
    replace hr := hide hr; replace hb := hide hb; replace hbb := hide hbb; replace hcn := hide hcn; replace hc0 := hide hc0; replace hc1 := hide hc1; replace hc2 := hide hc2; replace hc3 := hide hc3; replace hnc := hide hnc; replace hm1 := hide hm1; replace hm2 := hide hm2; replace hm3 := hide hm3; replace hs1 := hide hs1; replace hs2 := hide hs2; replace hn := hide hn
    clear hby
    have hB := Bl.nil wr
    go_upto_region 4 with fail
    refine wp_region_lit ?_
    refine list_val (.slice (some ⟨p, o, none⟩) N c) (by kernel_rfl) (by kernel_rfl) ?_
    simp only [nrm]
    refine list_val (.int .i64 (u : Int)) (by kernel_rfl) (by kernel_rfl) ?_
    simp only [nrm]
    refine list_val (.pointer (some ⟨p, o + 64 * u, none⟩)) (by kernel_rfl) (exec_ib _ (.tmp 18) (.tmp 19) rfl p o N c u (by kernel_rfl) (by kernel_rfl) hun) ?_
    simp only [nrm]
    refine list_val (.agg (kc b)) (by kernel_rfl) (exec_row _ 36 (.tmp 20) rfl p (o + 64 * u) (by kernel_rfl) (bv b) _ (range_gr (unhide hr) ((unhide hJ).gr.trans hB.gr)) Tryz.underlying36 rfl (by rw [Tryz.infoB, bv_len, hbl])) ?_
    simp only [nrm]
    refine list_valw (.pointer (some ⟨wr.heap.size, 0, none⟩)) (wr.alloc (.cells (kc ZB) 36 (0, 0))) (by kernel_rfl) (by kernel_rfl) ?_
    replace hB := hB.new (kc ZB) 36
    simp only [List.nil_append, List.cons_append] at hB
    generalize World.alloc _ _ = y1 at *
    generalize wr.heap.size = gb at *
    replace hB : Bl wr [⟨gb, kc ZB, 36⟩] y1 := hB
    simp only [nrm]
    refine list_store 36 (.tmp 7) (.tmp 21) (gb) (kc b) 36 (kc ZB) (by kernel_rfl) rfl (by kernel_rfl) (by kernel_rfl) (hB.get 0 (x := ⟨gb, kc ZB, 36⟩) rfl) (by rw [Tryz.infoB, kc_size, hbl]) ((show (kc ZB).size = 64 from rfl).trans ((kc_size _).trans hbl).symm) (kc_one _) ?_
    replace hB := hB.set 0 (x := ⟨gb, kc ZB, 36⟩) rfl (kc b)
    simp only [List.set_cons_zero, List.set_cons_succ] at hB
    generalize World.setRow _ _ _ = y2 at *
    replace hB : Bl wr [⟨gb, kc b, 36⟩] y2 := hB
    simp only [nrm]
    refine wpList_nil ?_
    replace hB := hide hB
    go_upto_region 5 with fail
    replace hB := unhide hB
    refine wp_region_lit ?_
    refine list_val (.pointer (some ⟨gb, 13, none⟩)) (by kernel_rfl) (by go_simp) ?_
    simp only [nrm]
    refine list_val (.int .u8 (c0 : Int)) (by kernel_rfl) (exec_b _ (.tmp 22) rfl gb 13 (by kernel_rfl) _ (by rw [← unhide hc0]; exact kc_cell (hB.get 0 (x := ⟨gb, kc b, 36⟩) rfl) 13 (by omega))) ?_
    simp only [nrm]
    refine list_val (.int .i64 (c0 : Int)) (by kernel_rfl) (by go_simp) ?_
    simp only [nrm]
    refine list_val (.pointer (some ⟨gb, 14, none⟩)) (by kernel_rfl) (by go_simp) ?_
    simp only [nrm]
    refine list_val (.int .u8 (c1 : Int)) (by kernel_rfl) (exec_b _ (.tmp 25) rfl gb 14 (by kernel_rfl) _ (by rw [← unhide hc1]; exact kc_cell (hB.get 0 (x := ⟨gb, kc b, 36⟩) rfl) 14 (by omega))) ?_
    simp only [nrm]
    refine list_val (.int .i64 (c1 : Int)) (by kernel_rfl) (by go_simp) ?_
    simp only [nrm]
    refine list_val (.int .i64 (m1 : Int)) (by kernel_rfl) (by go_simp) ?_
    simp only [nrm]
    refine list_val (.int .i64 (s1 : Int)) (by kernel_rfl) (by go_simp) ?_
    simp only [nrm]
    refine list_val (.pointer (some ⟨gb, 15, none⟩)) (by kernel_rfl) (by go_simp) ?_
    simp only [nrm]
    refine list_val (.int .u8 (c2 : Int)) (by kernel_rfl) (exec_b _ (.tmp 30) rfl gb 15 (by kernel_rfl) _ (by rw [← unhide hc2]; exact kc_cell (hB.get 0 (x := ⟨gb, kc b, 36⟩) rfl) 15 (by omega))) ?_
    simp only [nrm]
    refine list_val (.int .i64 (c2 : Int)) (by kernel_rfl) (by go_simp) ?_
    simp only [nrm]
    refine list_val (.int .i64 (m2 : Int)) (by kernel_rfl) (by go_simp) ?_
    simp only [nrm]
    refine list_val (.int .i64 (s2 : Int)) (by kernel_rfl) (by go_simp) ?_
    simp only [nrm]
    refine list_val (.pointer (some ⟨gb, 16, none⟩)) (by kernel_rfl) (by go_simp) ?_
    simp only [nrm]
    refine list_val (.int .u8 (c3 : Int)) (by kernel_rfl) (exec_b _ (.tmp 35) rfl gb 16 (by kernel_rfl) _ (by rw [← unhide hc3]; exact kc_cell (hB.get 0 (x := ⟨gb, kc b, 36⟩) rfl) 16 (by omega))) ?_
    simp only [nrm]
    refine list_val (.int .i64 (c3 : Int)) (by kernel_rfl) (by go_simp) ?_
    simp only [nrm]
    refine list_val (.int .i64 (m3 : Int)) (by kernel_rfl) (by go_simp) ?_
    simp only [nrm]
    refine list_val (.int .i64 (n : Int)) (by kernel_rfl) (by go_simp) ?_
    simp only [nrm]
    (refine wpList_step fun K hK => ?_; replace hK := hide hK; go_simp; refine unhide hK _ _ ?_; clear hK K)
    refine wpList_nil ?_
    obtain ⟨K, hK⟩ : ∃ K, K = (n + 62) / 63 := ⟨_, rfl⟩
    have hnK : ned n = K + 1 := by unfold ned; omega
    have hKb : K < 100000000 := by omega
    have hnK2 : n ≤ 63 * K ∧ 63 * K < n + 63 := by omega
    obtain ⟨e, he⟩ : ∃ e, e = u + (K + 1) := ⟨_, rfl⟩
    have ewe : IntKind.i64.wrap ((u : Int) + ((K : Int) + 1)) = (e : Int) := by rw [IntKind.wrap_i64]; omega
    replace hJ := hide ((unhide hJ).more hB.gr); replace hlq := hide ((unhide hlq).gr hB.gr)
    replace hK := hide hK; replace hnK := hide hnK; replace he := hide he
    clear hB o1 o2 o3 w0 w1 w2 w3 l1 l2 l3 hlq
    have hB := Bl.nil y2
    by_cases hfit : e ≤ N
    · skip
      have eI : ¬ (N : Int) < (e : Int) := by omega
      replace hB := hide hB
      go_upto_region 6 with fail
      replace hB := unhide hB
      refine wp_region_lit ?_
      refine list_val (.int .i64 (u : Int)) (by kernel_rfl) (by kernel_rfl) ?_
      simp only [nrm]
      refine list_val (.int .i64 (n : Int)) (by kernel_rfl) (by kernel_rfl) ?_
      simp only [nrm]
      refine list_call 46 #[.int .i64 (n : Int)] (by kernel_rfl) (by kernel_rfl) ((rneed_ok (n : Int) (by omega) (by omega) _).mono ?_)
      rintro r y3 ⟨rfl, hg⟩
      refine ⟨_, rfl, ?_⟩
      rw [nedI_nat, unhide hnK]
      replace hB := hB.more hg
      clear hg
      simp only [nrm]
      refine list_val (.int .i64 (e : Int)) (by kernel_rfl) (by go_simp) ?_
      simp only [nrm]
      refine list_val (.slice (some ⟨p, o, none⟩) N c) (by kernel_rfl) (by kernel_rfl) ?_
      simp only [nrm]
      refine list_val (.int .i64 (N : Int)) (by kernel_rfl) (by kernel_rfl) ?_
      simp only [nrm]
      refine list_val (.bool false) (by kernel_rfl) (by go_simp) ?_
      simp only [nrm]
      refine wpList_nil ?_
      replace hJ := hide ((unhide hJ).more hB.gr)
      clear hB
      have hO0 : Hid (Ob y3.heap.size y3 (.slice none 0 0) (bod f (u + 1) 0)) := Ob.nil _ y3
      have hg0 : Hid (Gr y3 y3) := Gr.refl y3
      obtain ⟨q0, hq0⟩ : ∃ q, q = u + 1 := ⟨_, rfl⟩
      have eq0 : IntKind.i64.wrap ((u : Int) + 1) = (q0 : Int) := by rw [IntKind.wrap_i64]; omega
      replace hq0 := hide hq0
      go_wp2_with fail
      go_loopw [9, 10] (fun v i wr => ∃ (j q : Nat), j ≤ K ∧ i = .int .i64 (q : Int) ∧ Hid (q = u + 1 + j ∧ Ob y3.heap.size wr v (bod f (u + 1) j) ∧ Gr y3 wr)) (fun _ i _ => e - (intOf i).toNat)
      case atStart => exact ⟨0, q0, by omega, rfl, ⟨by rw [unhide hq0], unhide hO0, unhide hg0⟩⟩
      case round =>
      clear hO0 hg0 hq0
      obtain ⟨j, q, hj, rfl, hA⟩ := hrel
      obtain ⟨hq, hO, hG⟩ := unhide hA
      clear hA
      have hlb : ∀ i, i < j → BB (f (u + 1 + i)) := fun i hi => (unhide hfb) _ (by have := unhide he; omega)
      obtain ⟨hbd1, hbd2⟩ := bod_len (B := f) (o := u + 1) j hlb
      obtain ⟨ta, tc, rfl, tl⟩ := ob_lb hO hbd2 (n := 63 * j) hbd1
      have htc := tl.cap
      clear tl
      replace hO := hide hO; replace hG := hide hG; replace hbd1 := hide hbd1; replace hbd2 := hide hbd2; replace hq := hide hq
      clear hlb
      have hB := Bl.nil wr
      by_cases hjK : j < K
      · skip
        have qI : (q : Int) < (e : Int) := by have h1 := unhide hq; have h2 := unhide he; omega
        replace hB := hide hB
        go_upto_region 9 with fail
        replace hB := unhide hB
        refine wp_region_lit ?_
        refine list_val (.int .i64 (q : Int)) (by kernel_rfl) (by kernel_rfl) ?_
        simp only [nrm]
        refine list_val (.int .i64 (u : Int)) (by kernel_rfl) (by kernel_rfl) ?_
        simp only [nrm]
        refine list_val (.int .i64 (n : Int)) (by kernel_rfl) (by kernel_rfl) ?_
        simp only [nrm]
        refine list_call 46 #[.int .i64 (n : Int)] (by kernel_rfl) (by kernel_rfl) ((rneed_ok (n : Int) (by omega) (by omega) _).mono ?_)
        rintro r y4 ⟨rfl, hg⟩
        refine ⟨_, rfl, ?_⟩
        rw [nedI_nat, unhide hnK]
        replace hB := hB.more hg
        clear hg
        simp only [nrm]
        refine list_val (.int .i64 (e : Int)) (by kernel_rfl) (by go_simp) ?_
        simp only [nrm]
        refine list_val (.bool true) (by kernel_rfl) (by go_simp) ?_
        simp only [nrm]
        refine wpList_nil ?_
        replace hO := hide ((unhide hO).gr hB.gr); replace hG := hide ((unhide hG).trans hB.gr)
        clear hB
        have hqN : q < N := by have h1 := unhide hq; have h2 := unhide he; omega
        obtain ⟨p9, o9, e9, hrq⟩ := (unhide hrow) q hqN
        injection e9 with e9
        injection e9 with e91 e92
        subst e91 e92
        have hsl := (row_sl hrq).gr ((unhide hJ).gr.trans (unhide hG))
        have hfl := ((unhide hfb) q hqN).1
        have hsu : Hid (bod f (u + 1) (j + 1) = bod f (u + 1) j ++ (f q).drop 1) := by show _ = _; rw [bod, unhide hq]
        replace hsl := hide hsl; replace hrq := hide hrq
        go_upto_region 11 with fail
        refine wp_region_lit ?_
        refine list_val (.slice ta (63 * j) tc) (by kernel_rfl) (by kernel_rfl) ?_
        simp only [nrm]
        refine list_val (.slice (some ⟨p, o, none⟩) N c) (by kernel_rfl) (by kernel_rfl) ?_
        simp only [nrm]
        refine list_val (.int .i64 (q : Int)) (by kernel_rfl) (by kernel_rfl) ?_
        simp only [nrm]
        refine list_val (.pointer (some ⟨p, o + 64 * q, none⟩)) (by kernel_rfl) (exec_ib _ (.tmp 58) (.tmp 59) rfl p o N c q (by kernel_rfl) (by kernel_rfl) hqN) ?_
        simp only [nrm]
        refine list_val (.slice (some ⟨p, o + 64 * q + 1, none⟩) 63 63) (by kernel_rfl) (exec_afromo _ (.tmp 60) (.const (.int .i64 1)) rfl p (o + 64 * q) 1 (by kernel_rfl) (by kernel_rfl) (by omega)) ?_
        simp only [nrm]
        refine app_bs (by kernel_rfl) (.tmp 57) (.tmp 61) rfl y3.heap.size _ _ rfl (unhide hO) (some ⟨p, o + 64 * q + 1, none⟩) 63 63 ((f q).drop 1) rfl (by rw [List.length_drop, hfl]) (unhide hsl) (by rw [unhide hbd1]; omega) (unhide hG).size ?_
        intro v2 y5 hO3 hgr
        have hG3 : Hid (Gr y3 y5) := (unhide hO).grown (Nat.le_refl _) (unhide hG) hgr
        have hO4 : Hid (Ob y3.heap.size y5 v2 (bod f (u + 1) (j + 1))) := by
          show Ob _ _ _ _
          rw [unhide hsu]
          exact hO3
        clear hO hO3 hgr hsl hG
        simp only [nrm]
        (refine wpList_step fun K hK => ?_; replace hK := hide hK; go_simp; refine unhide hK _ _ ?_; clear hK K)
        refine wpList_nil ?_
        have eq1 : IntKind.i64.wrap ((q : Int) + 1) = ((q + 1 : Nat) : Int) := by rw [IntKind.wrap_i64]; omega
        go_wp2_with fail
        go_roundw
        case rel => exact ⟨j + 1, q + 1, by omega, by go_num, ⟨by have := unhide hq; omega, unhide hO4, unhide hG3⟩⟩
        case measure => have h1 := unhide hq; have h2 := unhide he; simp [intOf]; omega
      have qI : ¬ (q : Int) < (e : Int) := by have h1 := unhide hq; have h2 := unhide he; omega
      replace hB := hide hB
      go_upto_region 9 with fail
      replace hB := unhide hB
      refine wp_region_lit ?_
      refine list_val (.int .i64 (q : Int)) (by kernel_rfl) (by kernel_rfl) ?_
      simp only [nrm]
      refine list_val (.int .i64 (u : Int)) (by kernel_rfl) (by kernel_rfl) ?_
      simp only [nrm]
      refine list_val (.int .i64 (n : Int)) (by kernel_rfl) (by kernel_rfl) ?_
      simp only [nrm]
      refine list_call 46 #[.int .i64 (n : Int)] (by kernel_rfl) (by kernel_rfl) ((rneed_ok (n : Int) (by omega) (by omega) _).mono ?_)
      rintro r y4 ⟨rfl, hg⟩
      refine ⟨_, rfl, ?_⟩
      rw [nedI_nat, unhide hnK]
      replace hB := hB.more hg
      clear hg
      simp only [nrm]
      refine list_val (.int .i64 (e : Int)) (by kernel_rfl) (by go_simp) ?_
      simp only [nrm]
      refine list_val (.bool false) (by kernel_rfl) (by go_simp) ?_
      simp only [nrm]
      refine wpList_nil ?_
      replace hO := hide ((unhide hO).gr hB.gr); replace hG := hide ((unhide hG).trans hB.gr)
      clear hB
      obtain rfl : K = j := by omega
      have hKN : K + 1 ≤ N := by have h2 := unhide he; omega
      obtain ⟨x, hx⟩ : ∃ x, x = (bod f (u + 1) K).take n := ⟨_, rfl⟩
      have hxl : x.length = n := by rw [hx, List.length_take, unhide hbd1]; omega
      have hxb : IsB x := fun z hz => (unhide hbd2) z (by rw [hx] at hz; exact List.mem_of_mem_take hz)
      have hOx : Ob y3.heap.size y4 (.slice ta n tc) x := by rw [hx]; exact ob_take (unhide hO) (by rw [unhide hbd1]; omega)
      obtain ⟨ta2, tc2, e7, hLx⟩ := ob_lb hOx hxb hxl
      injection e7 with e71 e72 e73
      subst e71 e73
      replace hx := hide hx; replace hxb := hide hxb; replace hOx := hide hOx; replace hLx := hide hLx; replace hxl := hide hxl
      clear hO
      go_upto_region 12 with fail
      refine wp_region_lit ?_
      refine list_val (.slice ta (63 * K) tc) (by kernel_rfl) (by kernel_rfl) ?_
      simp only [nrm]
      refine list_val (.int .i64 (n : Int)) (by kernel_rfl) (by kernel_rfl) ?_
      simp only [nrm]
      refine list_val (.slice ta n tc) (by kernel_rfl) (exec_upto2 _ (.tmp 63) (.tmp 64) rfl ta (63 * K) tc n (by kernel_rfl) (by kernel_rfl) htc (by omega)) ?_
      simp only [nrm]
      (refine wpList_step fun K hK => ?_; replace hK := hide hK; go_simp; refine unhide hK _ _ ?_; clear hK K)
      refine wpList_nil ?_
      go_upto_region 14 with fail
      refine wp_region_lit ?_
      refine list_val (.int .u64 t) (by kernel_rfl) (by kernel_rfl) ?_
      simp only [nrm]
      refine list_val (.slice xa X.length xc) (by kernel_rfl) (by kernel_rfl) ?_
      simp only [nrm]
      refine list_val (.int .i64 (X.length : Int)) (by kernel_rfl) (by kernel_rfl) ?_
      simp only [nrm]
      refine list_val (.slice ta n tc) (by kernel_rfl) (by kernel_rfl) ?_
      simp only [nrm]
      refine list_call 47 #[.int .u64 t, .int .i64 (X.length : Int), .slice ta n tc] (by kernel_rfl) (by kernel_rfl) ((sectors12_ok t X.length ht (by omega) x ta n tc _ (unhide hLx) (by omega)).mono ?_)
      rintro r y5 ⟨vv, rfl, hor, hg⟩
      obtain ⟨sa, sc, hv9, hls⟩ := hor.ls
      have hsl9 : ((secs t X.length x).map bv).length = K + 1 := by
        rw [List.length_map]
        unfold secs
        rw [secN_len, unhide hxl, ← unhide hK]
      rw [hsl9] at hv9 hls
      subst hv9
      have hsb : ∀ i, i < K + 1 → ((secs t X.length x).map bv).getD i [] = bv ((secs t X.length x).getD i []) ∧ ((secs t X.length x).getD i []).length = 64 := fun i hi => by
        have hi2 : i < (secs t X.length x).length := by rw [List.length_map] at hsl9; omega
        refine ⟨by simp [List.getD_eq_getElem?_getD, List.getElem?_eq_getElem hi2], ?_⟩
        have h9 := hls.row (bv ((secs t X.length x).getD i [])) (List.mem_map.2 ⟨_, mem_of_getD hi2, rfl⟩)
        rw [bv_len] at h9
        exact h9
      obtain ⟨SS, hSS⟩ : ∃ S, S = secs t X.length x := ⟨_, rfl⟩
      rw [← hSS] at hls hsb
      replace hSS := hide hSS; replace hls := hide hls; replace hsb := hide hsb
      have hGy := hide ((unhide hG).trans hg)
      replace hOx := hide ((unhide hOx).gr hg)
      clear hor hg hG hLx hsl9
      refine ⟨_, rfl, ?_⟩
      simp only [nrm]
      refine list_val (.int .i64 ((K + 1 : Nat) : Int)) (by kernel_rfl) (by kernel_rfl) ?_
      simp only [nrm]
      refine list_val (.int .i64 0) (by kernel_rfl) (by kernel_rfl) ?_
      simp only [nrm]
      refine wpList_nil ?_
      have hC0 : Hid (Okk true (∀ i, i < 0 → f (u + i) = SS.getD i []) ∧ Gr y5 y5) := ⟨⟨fun _ i hi => absurd hi (Nat.not_lt_zero i), fun _ => rfl⟩, Gr.refl y5⟩
      go_wp2_with fail
      go_loopw [72, 11] (fun i s wr => ∃ (j : Nat) (ok : Bool), j ≤ K + 1 ∧ i = .int .i64 (j : Int) ∧ s = .bool ok ∧ Hid (Okk ok (∀ i, i < j → f (u + i) = SS.getD i []) ∧ Gr y5 wr)) (fun i _ _ => K + 1 - (intOf i).toNat)
      case atStart => exact ⟨0, true, by omega, rfl, rfl, hC0⟩
      case round =>
      clear hC0
      obtain ⟨j, ok, hj, rfl, rfl, hC⟩ := hrel
      obtain ⟨hok, hG⟩ := unhide hC
      clear hC
      replace hok := hide hok
      by_cases hjK : j < K + 1
      · skip
        have jI : (j : Int) < (K : Int) + 1 := by omega
        obtain ⟨sp, so, rfl, hrs⟩ := (unhide hls).at_ j hjK
        rw [((unhide hsb) j hjK).1] at hrs
        have hsj := ((unhide hsb) j hjK).2
        obtain ⟨sj, hsj2⟩ : ∃ s, s = SS.getD j [] := ⟨_, rfl⟩
        rw [← hsj2] at hrs hsj
        obtain ⟨g9, hg9⟩ : ∃ g, g = u + j := ⟨_, rfl⟩
        have hgN : g9 < N := by have := unhide he; omega
        have egw : IntKind.i64.wrap ((u : Int) + (j : Int)) = (g9 : Int) := by rw [IntKind.wrap_i64]; omega
        obtain ⟨p9, o9, e9, hrq⟩ := (unhide hrow) g9 hgN
        injection e9 with e9
        injection e9 with e91 e92
        subst e91 e92
        have hfl := ((unhide hfb) g9 hgN).1
        have hdec : (∀ i, i < j + 1 → f (u + i) = SS.getD i []) ↔ (ok = true ∧ f g9 = sj) := by
          have hok9 := unhide hok
          unfold Okk at hok9
          rw [hok9, hg9, hsj2]
          constructor
          · exact fun h => ⟨fun i hi => h i (by omega), h j (by omega)⟩
          · rintro ⟨h1, h2⟩ i hi
            rcases Nat.lt_or_eq_of_le (Nat.le_of_lt_succ hi) with h3 | h3
            · exact h1 i h3
            · rw [h3]; exact h2
        generalize hff : f g9 = fg at *
        replace hff := hide hff; replace hrs := hide hrs; replace hsj2 := hide hsj2; replace hg9 := hide hg9; replace hrq := hide hrq; replace hdec := hide hdec
        have hB := Bl.nil wr
        replace hG := hide hG
        go_upto_region 16 with fail
        refine wp_region_lit ?_
        refine list_val (.int .i64 (j : Int)) (by kernel_rfl) (by kernel_rfl) ?_
        simp only [nrm]
        refine list_val (.pointer (some ⟨sp, so + 64 * j, none⟩)) (by kernel_rfl) (exec_ib _ (.tmp 70) (.tmp 72) rfl sp so (K + 1) sc j (by kernel_rfl) (by kernel_rfl) hjK) ?_
        simp only [nrm]
        refine list_val (.agg (kc sj)) (by kernel_rfl) (exec_row _ 36 (.tmp 75) rfl sp (so + 64 * j) (by kernel_rfl) (bv sj) _ (range_gr (unhide hrs) ((unhide hG).trans hB.gr)) Tryz.underlying36 rfl (by rw [Tryz.infoB, bv_len, hsj])) ?_
        simp only [nrm]
        refine list_valw (.pointer (some ⟨wr.heap.size, 0, none⟩)) (wr.alloc (.cells (kc ZB) 36 (0, 0))) (by kernel_rfl) (by kernel_rfl) ?_
        replace hB := hB.new (kc ZB) 36
        simp only [List.nil_append, List.cons_append] at hB
        generalize World.alloc _ _ = z1 at *
        generalize wr.heap.size = gx at *
        replace hB : Bl wr [⟨gx, kc ZB, 36⟩] z1 := hB
        simp only [nrm]
        (refine wpList_step fun K hK => ?_; replace hK := hide hK; go_simp; refine unhide hK _ _ ?_; clear hK K)
        refine list_store 36 (.tmp 13) (.tmp 76) (gx) (kc sj) 36 (kc ZB) (by kernel_rfl) rfl (by kernel_rfl) (by kernel_rfl) (hB.get 0 (x := ⟨gx, kc ZB, 36⟩) rfl) (by rw [Tryz.infoB, kc_size, hsj]) ((show (kc ZB).size = 64 from rfl).trans ((kc_size _).trans hsj).symm) (kc_one _) ?_
        replace hB := hB.set 0 (x := ⟨gx, kc ZB, 36⟩) rfl (kc sj)
        simp only [List.set_cons_zero, List.set_cons_succ] at hB
        generalize World.setRow _ _ _ = z2 at *
        replace hB : Bl wr [⟨gx, kc sj, 36⟩] z2 := hB
        simp only [nrm]
        refine wpList_nil ?_
        have hgx : Hid (z2.heap[gx]? = some (.cells (kc sj) 36 (0, 0))) := (hB.get 0 (x := ⟨gx, kc sj, 36⟩) rfl)
        have hG2 := hide ((unhide hG).trans hB.gr)
        clear hB hG
        cases ok
        · skip
          go_upto_region 17 with fail
          refine any_start (S := fun (v : World) => Gr z2 v) (by kernel_rfl) ?_
          have hG9 := (Gr.refl z2).drew
          generalize World.drew _ = x2 at *
          simp only [List.size_toArray, List.length_cons, List.length_nil, Array.replicate, List.replicate]
          refine any_take (i := 0) (v := (.bool false)) #[false, false, false, false, false, false, false, false, false, false, false, false] rfl (by kernel_rfl) (by kernel_rfl) (by kernel_rfl) (by kernel_rfl) (fun _ _ _ h => h) (.inl ⟨by kernel_rfl, fun x_ hu => by kernel_rfl⟩) hG9 ?_
          simp only [nrm]
          refine any_take (i := 1) (v := (.bool false)) #[true, false, false, false, false, false, false, false, false, false, false, false] rfl (by kernel_rfl) (by kernel_rfl) (by kernel_rfl) (by kernel_rfl) (fun _ _ _ h => h) (.inl ⟨by kernel_rfl, fun x_ hu => by kernel_rfl⟩) hG9 ?_
          simp only [nrm]
          refine any_take (i := 2) (v := undef) #[true, true, false, false, false, false, false, false, false, false, false, false] rfl (by kernel_rfl) (by kernel_rfl) (by kernel_rfl) (by kernel_rfl) (fun _ _ _ h => h) (.inr ⟨by kernel_rfl, rfl⟩) hG9 ?_
          simp only [nrm]
          refine any_take (i := 3) (v := undef) #[true, true, true, false, false, false, false, false, false, false, false, false] rfl (by kernel_rfl) (by kernel_rfl) (by kernel_rfl) (by kernel_rfl) (fun _ _ _ h => h) (.inr ⟨by kernel_rfl, rfl⟩) hG9 ?_
          simp only [nrm]
          refine any_take (i := 4) (v := undef) #[true, true, true, true, false, false, false, false, false, false, false, false] rfl (by kernel_rfl) (by kernel_rfl) (by kernel_rfl) (by kernel_rfl) (fun _ _ _ h => h) (.inr ⟨by kernel_rfl, rfl⟩) hG9 ?_
          simp only [nrm]
          refine any_take (i := 5) (v := undef) #[true, true, true, true, true, false, false, false, false, false, false, false] rfl (by kernel_rfl) (by kernel_rfl) (by kernel_rfl) (by kernel_rfl) (fun _ _ _ h => h) (.inr ⟨by kernel_rfl, rfl⟩) hG9 ?_
          simp only [nrm]
          refine any_take (i := 6) (v := undef) #[true, true, true, true, true, true, false, false, false, false, false, false] rfl (by kernel_rfl) (by kernel_rfl) (by kernel_rfl) (by kernel_rfl) (fun _ _ _ h => h) (.inr ⟨by kernel_rfl, rfl⟩) hG9 ?_
          simp only [nrm]
          refine any_take (i := 7) (v := undef) #[true, true, true, true, true, true, true, false, false, false, false, false] rfl (by kernel_rfl) (by kernel_rfl) (by kernel_rfl) (by kernel_rfl) (fun _ _ _ h => h) (.inr ⟨by kernel_rfl, rfl⟩) hG9 ?_
          simp only [nrm]
          refine any_take (i := 8) (v := undef) #[true, true, true, true, true, true, true, true, false, false, false, false] rfl (by kernel_rfl) (by kernel_rfl) (by kernel_rfl) (by kernel_rfl) (fun _ _ _ h => h) (.inr ⟨by kernel_rfl, rfl⟩) hG9 ?_
          simp only [nrm]
          refine any_take (i := 9) (v := undef) #[true, true, true, true, true, true, true, true, true, false, false, false] rfl (by kernel_rfl) (by kernel_rfl) (by kernel_rfl) (by kernel_rfl) (fun _ _ _ h => h) (.inr ⟨by kernel_rfl, rfl⟩) hG9 ?_
          simp only [nrm]
          refine any_take (i := 10) (v := (.bool false)) #[true, true, true, true, true, true, true, true, true, true, false, false] rfl (by kernel_rfl) (by kernel_rfl) (by kernel_rfl) (by kernel_rfl) (fun _ _ _ h => h) (.inl ⟨by kernel_rfl, fun x_ hu => by go_simp⟩) hG9 ?_
          simp only [nrm]
          refine any_one (i := 11) (by kernel_rfl) rfl (fun K_ hQ => ?_)
          replace hQ := hide hQ
          go_simp
          refine (unhide hQ).out _ _ hG9 (fun _ => ?_)
          clear hQ K_
          refine any_done (by kernel_rfl) ?_
          have hC2 : Hid (Okk false (∀ i, i < j + 1 → f (u + i) = SS.getD i []) ∧ Gr y5 x2) := by
            refine ⟨?_, (unhide hG2).trans hG9⟩
            unfold Okk
            rw [unhide hdec]
            exact ⟨fun h => absurd h (by decide), fun h => h.1⟩
          clear hG2 hG9
          go_wp2_with fail
          go_roundw
          case rel => exact ⟨j + 1, false, by omega, by go_num, rfl, hC2⟩
          case measure => simp [intOf]; omega
        obtain ⟨ok2, hok2⟩ : ∃ b, b = decide (fg = sj) := ⟨_, rfl⟩
        replace hok2 := hide hok2
        go_upto_region 17 with fail
        refine any_start (S := fun (v : World) => Gr z2 v) (by kernel_rfl) ?_
        have hG9 := (Gr.refl z2).drew
        generalize World.drew _ = x2 at *
        simp only [List.size_toArray, List.length_cons, List.length_nil, Array.replicate, List.replicate]
        refine any_take (i := 0) (v := (.bool true)) #[false, false, false, false, false, false, false, false, false, false, false, false] rfl (by kernel_rfl) (by kernel_rfl) (by kernel_rfl) (by kernel_rfl) (fun _ _ _ h => h) (.inl ⟨by kernel_rfl, fun x_ hu => by kernel_rfl⟩) hG9 ?_
        simp only [nrm]
        refine any_take (i := 1) (v := (.bool true)) #[true, false, false, false, false, false, false, false, false, false, false, false] rfl (by kernel_rfl) (by kernel_rfl) (by kernel_rfl) (by kernel_rfl) (fun _ _ _ h => h) (.inl ⟨by kernel_rfl, fun x_ hu => by kernel_rfl⟩) hG9 ?_
        simp only [nrm]
        refine any_take (i := 2) (v := (.slice (some ⟨p, o, none⟩) N c)) #[true, true, false, false, false, false, false, false, false, false, false, false] rfl (by kernel_rfl) (by kernel_rfl) (by kernel_rfl) (by kernel_rfl) (fun _ _ _ h => h) (.inl ⟨by kernel_rfl, fun x_ hu => by kernel_rfl⟩) hG9 ?_
        simp only [nrm]
        refine any_take (i := 3) (v := (.int .i64 (u : Int))) #[true, true, true, false, false, false, false, false, false, false, false, false] rfl (by kernel_rfl) (by kernel_rfl) (by kernel_rfl) (by kernel_rfl) (fun _ _ _ h => h) (.inl ⟨by kernel_rfl, fun x_ hu => by kernel_rfl⟩) hG9 ?_
        simp only [nrm]
        refine any_take (i := 4) (v := (.int .i64 (j : Int))) #[true, true, true, true, false, false, false, false, false, false, false, false] rfl (by kernel_rfl) (by kernel_rfl) (by kernel_rfl) (by kernel_rfl) (fun _ _ _ h => h) (.inl ⟨by kernel_rfl, fun x_ hu => by kernel_rfl⟩) hG9 ?_
        simp only [nrm]
        refine any_take (i := 5) (v := (.int .i64 (g9 : Int))) #[true, true, true, true, true, false, false, false, false, false, false, false] rfl (by kernel_rfl) (by kernel_rfl) (by kernel_rfl) (by kernel_rfl) (fun _ _ _ h => h) (.inl ⟨by kernel_rfl, fun x_ hu => by go_simp⟩) hG9 ?_
        simp only [nrm]
        refine any_take (i := 6) (v := (.pointer (some ⟨p, o + 64 * g9, none⟩))) #[true, true, true, true, true, true, false, false, false, false, false, false] rfl (by kernel_rfl) (by kernel_rfl) (by kernel_rfl) (by kernel_rfl) (fun _ _ _ h => h) (.inl ⟨by kernel_rfl, fun x_ hu => exec_ib _ (.tmp 79) (.tmp 82) rfl p o N c g9 (by kernel_rfl) (by kernel_rfl) hgN⟩) hG9 ?_
        simp only [nrm]
        refine any_take (i := 7) (v := (.agg (kc fg))) #[true, true, true, true, true, true, true, false, false, false, false, false] rfl (by kernel_rfl) (by kernel_rfl) (by kernel_rfl) (by kernel_rfl) (fun _ _ _ h => h) (.inl ⟨by kernel_rfl, fun x_ hu => exec_row _ 36 (.tmp 83) rfl p (o + 64 * g9) (by kernel_rfl) (bv fg) _ (range_gr (unhide hrq) (((unhide hJ).gr.trans ((unhide hGy).trans (unhide hG2))).trans hu)) Tryz.underlying36 rfl (by rw [Tryz.infoB, bv_len, hfl])⟩) hG9 ?_
        simp only [nrm]
        refine any_take (i := 8) (v := (.agg (kc sj))) #[true, true, true, true, true, true, true, true, false, false, false, false] rfl (by kernel_rfl) (by kernel_rfl) (by kernel_rfl) (by kernel_rfl) (fun _ _ _ h => h) (.inl ⟨by kernel_rfl, fun x_ hu => exec_arr _ 36 (.tmp 13) rfl gx (by kernel_rfl) (kc sj) 36 _ (hu.blk (unhide hgx)) Tryz.underlying36 rfl (by rw [Tryz.infoB, kc_size, hsj])⟩) hG9 ?_
        simp only [nrm]
        refine any_take (i := 9) (v := (.bool ok2)) #[true, true, true, true, true, true, true, true, true, false, false, false] rfl (by kernel_rfl) (by kernel_rfl) (by kernel_rfl) (by kernel_rfl) (fun _ _ _ h => h) (.inl ⟨by kernel_rfl, fun x_ hu => exec_eqB _ (.tmp 84) (.tmp 85) rfl fg sj hfl hsj (by kernel_rfl) (by kernel_rfl) ok2 (unhide hok2)⟩) hG9 ?_
        simp only [nrm]
        refine any_take (i := 10) (v := (.bool ok2)) #[true, true, true, true, true, true, true, true, true, true, false, false] rfl (by kernel_rfl) (by kernel_rfl) (by kernel_rfl) (by kernel_rfl) (fun _ _ _ h => h) (.inl ⟨by kernel_rfl, fun x_ hu => by go_simp⟩) hG9 ?_
        simp only [nrm]
        refine any_one (i := 11) (by kernel_rfl) rfl (fun K_ hQ => ?_)
        replace hQ := hide hQ
        go_simp
        refine (unhide hQ).out _ _ hG9 (fun _ => ?_)
        clear hQ K_
        refine any_done (by kernel_rfl) ?_
        have hC2 : Hid (Okk ok2 (∀ i, i < j + 1 → f (u + i) = SS.getD i []) ∧ Gr y5 x2) := by
          refine ⟨?_, (unhide hG2).trans hG9⟩
          unfold Okk
          rw [unhide hdec, unhide hok2, decide_eq_true_eq]
          exact ⟨fun h => ⟨rfl, h⟩, fun h => h.2⟩
        clear hG2 hG9
        go_wp2_with fail
        go_roundw
        case rel => exact ⟨j + 1, ok2, by omega, by go_num, rfl, hC2⟩
        case measure => simp [intOf]; omega
      have jI : ¬ (j : Int) < (K : Int) + 1 := by omega
      obtain rfl : j = K + 1 := by omega
      replace hG := hide hG
      cases ok
      · skip
        have hZ : Hid (∃ v Y, (Ending.returned (.slice xa X.length xc)) = .returned v ∧ Ox w.heap.size wr v Y ∧ Tl f N t Y ∧ usd Y ≤ N ∧ Gr w wr) := by
          have hj := (unhide hJ).more ((unhide hGy).trans (unhide hG))
          refine ⟨_, X, rfl, hj.ox, ⟨hj.lay, fun y k => ?_⟩, by rw [← hj.at_]; exact hu, hj.gr⟩
          rw [← hj.at_] at k
          obtain ⟨h1, h2, h3⟩ := istx_to (by omega) k
          rw [← unhide hb, unhide hnc, unhide hnK] at h2
          rw [Nat.add_sub_cancel, ← unhide hx] at h2
          subst h2
          rw [unhide hxl, unhide hnK] at h3
          have h4 := (unhide hok).2 (by rw [unhide hSS]; exact h3)
          cases h4
        clear hJ hG hGy
        go_wp2_with fail
        rw [unhide hT2]
        exact unhide hZ
      have hall : ∀ i, i < K + 1 → f (u + i) = SS.getD i [] := (unhide hok).1 rfl
      have htx : IsTx f N t X.length u x := istx_of (by rw [unhide hxl, unhide hnK]; have := unhide he; omega) (fun i hi => by rw [unhide hxl, unhide hnK] at hi; rw [hall i hi, unhide hSS])
      have hj := (unhide hJ).more ((unhide hGy).trans (unhide hG))
      have hOb : Ob w.heap.size wr (.slice ta n tc) x := ob_base ((unhide hOx).gr (unhide hG)) (unhide hJ).gr.size
      obtain ⟨vs, v1, v2, v3⟩ := hj.ox.own
      have hisb := hj.ox.isB
      have hlay2 : Hid (e = usd (X ++ [x]) ∧ Lay f N t 0 0 (X ++ [x])) := by
        refine ⟨by rw [usd_app, usd_one, unhide hxl, unhide hnK, ← hj.at_]; exact unhide he, (Lay.app X [x]).2 ⟨hj.lay, ?_⟩⟩
        rw [Nat.zero_add, Nat.zero_add, ← hj.at_]
        exact ⟨htx, trivial⟩
      have hGw := hj.gr
      replace hj := hide hj; replace htx := hide htx; replace hOb := hide hOb; replace v1 := hide v1; replace v2 := hide v2; replace v3 := hide v3; replace hisb := hide hisb; replace hGw := hide hGw
      clear hall hJ hGy hG hok
      go_upto_region 20 with fail
      refine wp_region_lit ?_
      refine list_val (.slice xa X.length xc) (by kernel_rfl) (by kernel_rfl) ?_
      simp only [nrm]
      refine list_val (.slice ta n tc) (by kernel_rfl) (by kernel_rfl) ?_
      simp only [nrm]
      refine list_valw (.slice (some ⟨wr.heap.size, 0, none⟩) 1 1) (wr.alloc (.cells #[.slice ta n tc] 33 (0, 0))) (by kernel_rfl) (by kernel_rfl) ?_
      have hls1 : Ls 1 (wr.alloc (.cells #[.slice ta n tc] 33 (0, 0))) (some ⟨wr.heap.size, 0, none⟩) 1 1 [[.slice ta n tc]] := by
        have h9 : Or_ 1 33 wr.heap.size (wr.alloc (.cells #[.slice ta n tc] 33 (0, 0))) (.slice (some ⟨wr.heap.size, 0, none⟩) 1 1) [[.slice ta n tc]] := ⟨by intro r hr; rw [List.mem_singleton] at hr; rw [hr]; rfl, rfl, .inr ⟨wr.heap.size, 1, _, rfl, Nat.le_refl _, blk_new _ _, Nat.le_refl _, by decide, rfl, rfl⟩⟩
        obtain ⟨a9, c9, h8, h7⟩ := h9.ls
        injection h8 with e1 e2 e3
        subst e1
        subst e3
        exact h7
      have hg := (Gr.refl wr).alloc (.cells #[.slice ta n tc] 33 (0, 0))
      generalize World.alloc _ _ = z3 at *
      generalize wr.heap.size = gz at *
      simp only [nrm]
      refine wpList_step fun K_ hQ => ?_
      rw [if_pos (by kernel_rfl)]
      refine app_rows lt_s (.tmp 91) (.tmp 93) rfl w.heap.size _ (vs.map fun s => [s]) rfl ((unhide v1).gr hg) (some ⟨gz, 0, none⟩) 1 1 [[.slice ta n tc]] rfl hls1 (by intro r hr; rw [List.mem_singleton] at hr; subst hr; intro q hq; rw [List.mem_singleton] at hq; subst hq; rfl) (by rw [List.length_map, unhide v2]; omega) ((unhide hGw).trans hg).size ?_
      intro v5_ z4 hor5 hgr
      have hox2 : Ox w.heap.size z4 v5_ (X ++ [x]) := Ox.snoc ((unhide v1).gr hg) (unhide v2) (fun i hi => ((unhide v3) i hi).gr hg) (unhide hisb) ((unhide hOb).gr hg) ⟨unhide hxb, by rw [unhide hxl]; omega⟩ hgr hor5
      have hG5 : Gr w z4 := grown_owned ((unhide v1).gr hg).2 (Nat.le_refl _) ((unhide hGw).trans hg) hgr
      have hI2 : Hid (TxI t f N w v5_ (X ++ [x]) e z4) := ⟨(unhide hlay2).1, (unhide hlay2).2, hox2, hG5⟩
      clear hgr hls1 hor5 hox2 hG5 hg hGw hj v1 v3
      refine hQ _ _ ?_
      clear hQ K_
      simp only [nrm]
      (refine wpList_step fun K hK => ?_; replace hK := hide hK; go_simp; refine unhide hK _ _ ?_; clear hK K)
      refine wpList_nil ?_
      have hB := Bl.nil z4
      replace hB := hide hB
      go_upto_region 21 with fail
      replace hB := unhide hB
      refine wp_region_lit ?_
      refine list_val (.int .i64 (u : Int)) (by kernel_rfl) (by kernel_rfl) ?_
      simp only [nrm]
      refine list_val (.int .i64 (n : Int)) (by kernel_rfl) (by kernel_rfl) ?_
      simp only [nrm]
      refine list_call 46 #[.int .i64 (n : Int)] (by kernel_rfl) (by kernel_rfl) ((rneed_ok (n : Int) (by omega) (by omega) _).mono ?_)
      rintro r z5 ⟨rfl, hg⟩
      refine ⟨_, rfl, ?_⟩
      rw [nedI_nat, unhide hnK]
      replace hB := hB.more hg
      clear hg
      simp only [nrm]
      refine list_val (.int .i64 (e : Int)) (by kernel_rfl) (by go_simp) ?_
      simp only [nrm]
      (refine wpList_step fun K hK => ?_; replace hK := hide hK; go_simp; refine unhide hK _ _ ?_; clear hK K)
      refine wpList_nil ?_
      replace hI2 := hide ((unhide hI2).more hB.gr)
      clear hB
      go_wp2_with fail
      go_roundw
      case rel => exact ⟨X ++ [x], e, hfit, rfl, hI2⟩
      case measure => have h2 := unhide he; simp [intOf]; omega
    have eI : (N : Int) < (e : Int) := by omega
    replace hB := hide hB
    go_upto_region 6 with fail
    replace hB := unhide hB
    refine wp_region_lit ?_
    refine list_val (.int .i64 (u : Int)) (by kernel_rfl) (by kernel_rfl) ?_
    simp only [nrm]
    refine list_val (.int .i64 (n : Int)) (by kernel_rfl) (by kernel_rfl) ?_
    simp only [nrm]
    refine list_call 46 #[.int .i64 (n : Int)] (by kernel_rfl) (by kernel_rfl) ((rneed_ok (n : Int) (by omega) (by omega) _).mono ?_)
    rintro r y3 ⟨rfl, hg⟩
    refine ⟨_, rfl, ?_⟩
    rw [nedI_nat, unhide hnK]
    replace hB := hB.more hg
    clear hg
    simp only [nrm]
    refine list_val (.int .i64 (e : Int)) (by kernel_rfl) (by go_simp) ?_
    simp only [nrm]
    refine list_val (.slice (some ⟨p, o, none⟩) N c) (by kernel_rfl) (by kernel_rfl) ?_
    simp only [nrm]
    refine list_val (.int .i64 (N : Int)) (by kernel_rfl) (by kernel_rfl) ?_
    simp only [nrm]
    refine list_val (.bool true) (by kernel_rfl) (by go_simp) ?_
    simp only [nrm]
    refine wpList_nil ?_
    replace hJ := hide ((unhide hJ).more hB.gr)
    clear hB
    have hZ : Hid (∃ v Y, (Ending.returned (.slice xa X.length xc)) = .returned v ∧ Ox w.heap.size y3 v Y ∧ Tl f N t Y ∧ usd Y ≤ N ∧ Gr w y3) := by
      have hj := unhide hJ
      refine ⟨_, X, rfl, hj.ox, ⟨hj.lay, fun x k => ?_⟩, by rw [← hj.at_]; exact hu, hj.gr⟩
      rw [← hj.at_] at k
      have h1 := k.cnt (by omega)
      rw [← unhide hb, unhide hnc] at h1
      have h2 := k.fit
      rw [← h1, unhide hnK] at h2
      have h3 := unhide he
      omega
    clear hJ
    go_wp2_with fail
    rw [unhide hT2]
    exact unhide hZ
  have uI : ¬ (u : Int) < (N : Int) := by omega
  have hZ : Hid (∃ v Y, (Ending.returned (.slice xa X.length xc)) = .returned v ∧ Ox w.heap.size wr v Y ∧ Tl f N t Y ∧ usd Y ≤ N ∧ Gr w wr) := by
    have hj := unhide hJ
    refine ⟨_, X, rfl, hj.ox, ⟨hj.lay, fun x k => ?_⟩, by rw [← hj.at_]; exact hu, hj.gr⟩
    have h2 := k.fit
    have h3 := hj.at_
    unfold ned at h2
    omega
  clear hJ
  go_wp2_with fail
  rw [unhide hT2]
  exact unhide hZ
set_option maxHeartbeats 1000000 in
theorem wneed_ok (n : Int) (h1 : -9223372036854775808 ≤ n) (h2 : n < 9223372036854775808) (w : World) : Calls Tryz.prog 27 #[.int .i64 n] w (Vl (.int .i64 (nedI n)) w) := by
  obtain ⟨T, hT⟩ : ∃ T, T = Vl (.int .i64 (nedI n)) w := ⟨_, rfl⟩
  rw [← hT]
  by_cases h0 : n < 0
  · have e : nedI n = 0 := by unfold nedI; rw [if_pos h0]
    rw [e] at hT
    replace hT := hide hT
    clear e
    have hZ : Hid (Vl (.int .i64 0) w (.returned (.int .i64 0)) w) := ⟨rfl, Gr.refl w⟩
    go_enter Tryz.func27, Tryz.ntmps27
    go_wp2_with fail
    rw [unhide hT]
    exact unhide hZ
  · obtain ⟨q, hq⟩ : ∃ q : Int, q = n / 63 := ⟨_, rfl⟩
    obtain ⟨r, hr⟩ : ∃ r : Int, r = n % 63 := ⟨_, rfl⟩
    have e1 : n.tdiv 63 = q := by rw [Int.tdiv_eq_ediv_of_nonneg (by omega), hq]
    have e2 : n.tmod 63 = r := by rw [Int.tmod_eq_emod_of_nonneg (by omega), hr]
    have e3 : IntKind.i64.wrap q = q := by rw [IntKind.wrap_i64]; omega
    have e4 : IntKind.i64.wrap r = r := by rw [IntKind.wrap_i64]; omega
    have e5 : IntKind.i64.wrap (1 + q) = q + 1 := by rw [IntKind.wrap_i64]; omega
    by_cases hr0 : r < 1
    · have e : nedI n = q + 1 + 0 := by unfold nedI; rw [if_neg h0]; omega
      rw [e] at hT
      replace hT := hide hT
      obtain ⟨s, hs⟩ : ∃ s : Int, s = q + 1 + 0 := ⟨_, rfl⟩
      rw [← hs] at hT
      have e6 : IntKind.i64.wrap (q + 1 + 0) = s := by rw [IntKind.wrap_i64]; omega
      have e7 : IntKind.i64.wrap (q + 1) = s := by rw [IntKind.wrap_i64]; omega
      clear e5
      have e5 : IntKind.i64.wrap (1 + q) = s := by rw [IntKind.wrap_i64]; omega
      replace hs := hide hs
      replace hq := hide hq; replace hr := hide hr
      have hrz : r = 0 := by have := unhide hr; omega
      have e8 : IntKind.i64.wrap s = s := by have := unhide hs; have := unhide hq; rw [IntKind.wrap_i64]; omega
      subst hrz
      clear e
      have hZ : Hid (Vl (.int .i64 s) w (.returned (.int .i64 s)) w) := ⟨rfl, Gr.refl w⟩
      go_enter Tryz.func27, Tryz.ntmps27
      go_upto_region 3 with fail
      refine wp_region_lit ?_
      refine list_val (.int .i64 n) (by kernel_rfl) (by kernel_rfl) ?_
      simp only [nrm]
      refine list_val (.int .i64 q) (by kernel_rfl) (by go_simp) ?_
      simp only [nrm]
      refine list_val (.int .i64 s) (by kernel_rfl) (by go_simp) ?_
      simp only [nrm]
      refine list_val (.int .i64 n) (by kernel_rfl) (by kernel_rfl) ?_
      simp only [nrm]
      refine list_val (.int .i64 0) (by kernel_rfl) (by go_simp) ?_
      simp only [nrm]
      refine list_val (.int .i64 0) (by kernel_rfl) (by kernel_rfl) ?_
      simp only [nrm]
      refine list_val (.int .i64 s) (by kernel_rfl) (by go_simp) ?_
      simp only [nrm]
      (refine wpList_step fun K hK => ?_; replace hK := hide hK; go_simp; refine unhide hK _ _ ?_; clear hK K)
      refine wpList_nil ?_
      go_wp2_with fail
      rw [unhide hT]
      exact unhide hZ
    
    · have e : nedI n = q + 1 + 1 := by unfold nedI; rw [if_neg h0]; omega
      rw [e] at hT
      replace hT := hide hT
      obtain ⟨s, hs⟩ : ∃ s : Int, s = q + 1 + 1 := ⟨_, rfl⟩
      rw [← hs] at hT
      have e6 : IntKind.i64.wrap (q + 1 + 1) = s := by rw [IntKind.wrap_i64]; omega
      skip
      skip
      skip
      replace hs := hide hs
      replace hq := hide hq; replace hr := hide hr
      skip
      skip
      skip
      clear e
      have hZ : Hid (Vl (.int .i64 s) w (.returned (.int .i64 s)) w) := ⟨rfl, Gr.refl w⟩
      go_enter Tryz.func27, Tryz.ntmps27
      go_upto_region 3 with fail
      refine wp_region_lit ?_
      refine list_val (.int .i64 n) (by kernel_rfl) (by kernel_rfl) ?_
      simp only [nrm]
      refine list_val (.int .i64 q) (by kernel_rfl) (by go_simp) ?_
      simp only [nrm]
      refine list_val (.int .i64 (q + 1)) (by kernel_rfl) (by go_simp) ?_
      simp only [nrm]
      refine list_val (.int .i64 n) (by kernel_rfl) (by kernel_rfl) ?_
      simp only [nrm]
      refine list_val (.int .i64 r) (by kernel_rfl) (by go_simp) ?_
      simp only [nrm]
      refine list_val (.int .i64 1) (by kernel_rfl) (by go_simp; omega) ?_
      simp only [nrm]
      refine list_val (.int .i64 s) (by kernel_rfl) (by go_simp) ?_
      simp only [nrm]
      (refine wpList_step fun K hK => ?_; replace hK := hide hK; go_simp; refine unhide hK _ _ ?_; clear hK K)
      refine wpList_nil ?_
      go_wp2_with fail
      rw [unhide hT]
      exact unhide hZ
set_option maxHeartbeats 4000000 in
theorem wfits_ok (n k : Int) (h1 : -9223372036854775808 ≤ n) (h2 : n < 9223372036854775808) (w : World) : Calls Tryz.prog 55 #[.int .i64 n, .int .i64 k] w (Vl (.bool (decide (0 ≤ n ∧ nedI n ≤ k))) w) := by
  obtain ⟨T, hT⟩ : ∃ T, T = Vl (.bool (decide (0 ≤ n ∧ nedI n ≤ k))) w := ⟨_, rfl⟩
  rw [← hT]
  replace hT := hide hT
  by_cases h0 : 0 ≤ n
  · obtain ⟨rr, hrr⟩ : ∃ b, b = decide (nedI n ≤ k) := ⟨_, rfl⟩
    have e : decide (0 ≤ n ∧ nedI n ≤ k) = rr := by rw [hrr]; simp [h0]
    replace hrr := hide hrr
    rw [e] at hT
    clear e
    have hB := Bl.nil w
    go_enter Tryz.func55, Tryz.ntmps55
    go_upto_region 1 with fail
    refine wp_region_lit ?_
    refine list_val (.int .i64 n) (by kernel_rfl) (by kernel_rfl) ?_
    simp only [nrm]
    refine list_val (.bool true) (by kernel_rfl) (by go_simp) ?_
    simp only [nrm]
    refine list_val (.bool true) (by kernel_rfl) (by kernel_rfl) ?_
    simp only [nrm]
    refine list_val (.int .i64 n) (by kernel_rfl) (by kernel_rfl) ?_
    simp only [nrm]
    refine list_call 27 #[.int .i64 n] (by kernel_rfl) (by kernel_rfl) ((wneed_ok n h1 h2 _).mono ?_)
    rintro r u ⟨rfl, hg⟩
    refine ⟨_, rfl, ?_⟩
    replace hB := hB.more hg
    clear hg
    have hq : rr = decide (nedI n ≤ k) := unhide hrr
    clear hrr
    generalize nedI n = q at *
    replace hq := hide hq
    simp only [nrm]
    refine list_val (.int .i64 k) (by kernel_rfl) (by kernel_rfl) ?_
    simp only [nrm]
    refine list_val (.bool rr) (by kernel_rfl) (by rw [unhide hq]; kernel_rfl) ?_
    simp only [nrm]
    refine list_val (.bool rr) (by kernel_rfl) (by kernel_rfl) ?_
    simp only [nrm]
    (refine wpList_step fun K hK => ?_; replace hK := hide hK; go_simp; refine unhide hK _ _ ?_; clear hK K)
    refine wpList_nil ?_
    have hZ : Hid (Vl (.bool rr) w (.returned (.bool rr)) u) := ⟨by rfl, hB.gr⟩
    clear hB
    go_wp2_with fail
    rw [unhide hT]
    exact unhide hZ
  · obtain ⟨rr, hrr⟩ : ∃ b, b = false := ⟨_, rfl⟩
    have e : decide (0 ≤ n ∧ nedI n ≤ k) = rr := by rw [hrr]; simp [h0]
    rw [e] at hT
    clear e
    have hB := Bl.nil w
    go_enter Tryz.func55, Tryz.ntmps55
    go_upto_region 1 with fail
    refine wp_region_lit ?_
    refine list_val (.int .i64 n) (by kernel_rfl) (by kernel_rfl) ?_
    simp only [nrm]
    refine list_val (.bool false) (by kernel_rfl) (by go_simp) ?_
    simp only [nrm]
    refine list_val (.bool false) (by kernel_rfl) (by kernel_rfl) ?_
    simp only [nrm]
    refine wpList_step fun K hK => ?_
    rw [if_neg (ne_true_of_eq_false (by kernel_rfl))]
    refine hK _ _ ?_
    clear hK K
    simp only [nrm]
    refine wpList_step fun K hK => ?_
    rw [if_neg (ne_true_of_eq_false (by kernel_rfl))]
    refine hK _ _ ?_
    clear hK K
    simp only [nrm]
    refine wpList_step fun K hK => ?_
    rw [if_neg (ne_true_of_eq_false (by kernel_rfl))]
    refine hK _ _ ?_
    clear hK K
    simp only [nrm]
    refine wpList_step fun K hK => ?_
    rw [if_neg (ne_true_of_eq_false (by kernel_rfl))]
    refine hK _ _ ?_
    clear hK K
    simp only [nrm]
    refine list_val (.bool false) (by kernel_rfl) (by kernel_rfl) ?_
    simp only [nrm]
    (refine wpList_step fun K hK => ?_; replace hK := hide hK; go_simp; refine unhide hK _ _ ?_; clear hK K)
    refine wpList_nil ?_
    have hZ : Hid (Vl (.bool rr) w (.returned (.bool false)) w) := ⟨by rw [hrr], hB.gr⟩
    clear hB
    go_wp2_with fail
    rw [unhide hT]
    exact unhide hZ
set_option maxHeartbeats 4000000 in
theorem wsector_ok (S : List Int) (a : Option Addr) (n c : Nat) (w : World) (hS : Lb w a n c S) (hn : n ≤ 63) : Calls Tryz.prog 61 #[.slice a n c] w (Vl (.agg (kc (lay ZB 1 S))) w) := by
  obtain ⟨T, hT⟩ : ∃ T, T = Vl (.agg (kc (lay ZB 1 S))) w := ⟨_, rfl⟩
  rw [← hT]
  replace hT := hide hT
  have hSl := hS.len
  replace hS := hide hS
  go_enter Tryz.func61, Tryz.ntmps61
  go_upto_region 1 with fail
  have hB := ((Bl.nil w).new #[.int .u8 0, .int .u8 0, .int .u8 0, .int .u8 0, .int .u8 0, .int .u8 0, .int .u8 0, .int .u8 0, .int .u8 0, .int .u8 0, .int .u8 0, .int .u8 0, .int .u8 0, .int .u8 0, .int .u8 0, .int .u8 0, .int .u8 0, .int .u8 0, .int .u8 0, .int .u8 0, .int .u8 0, .int .u8 0, .int .u8 0, .int .u8 0, .int .u8 0, .int .u8 0, .int .u8 0, .int .u8 0, .int .u8 0, .int .u8 0, .int .u8 0, .int .u8 0, .int .u8 0, .int .u8 0, .int .u8 0, .int .u8 0, .int .u8 0, .int .u8 0, .int .u8 0, .int .u8 0, .int .u8 0, .int .u8 0, .int .u8 0, .int .u8 0, .int .u8 0, .int .u8 0, .int .u8 0, .int .u8 0, .int .u8 0, .int .u8 0, .int .u8 0, .int .u8 0, .int .u8 0, .int .u8 0, .int .u8 0, .int .u8 0, .int .u8 0, .int .u8 0, .int .u8 0, .int .u8 0, .int .u8 0, .int .u8 0, .int .u8 0, .int .u8 0] 36)
  simp only [size_alloc, List.nil_append, List.cons_append] at hB
  generalize World.alloc _ _ = u at *
  replace hB : Bl w [⟨w.heap.size, kc ZB, 36⟩] u := hB
  refine wp_region_lit ?_
  refine list_val (.agg (kc ZB)) (by kernel_rfl) (by kernel_rfl) ?_
  simp only [nrm]
  refine list_valw (.pointer (some ⟨u.heap.size, 0, none⟩)) (u.alloc (.cells (kc ZB) 36 (0, 0))) (by kernel_rfl) (by kernel_rfl) ?_
  replace hB := hB.new (kc ZB) 36
  simp only [List.nil_append, List.cons_append] at hB
  generalize World.alloc _ _ = u1 at *
  generalize u.heap.size = h1 at *
  replace hB : Bl w [⟨w.heap.size, kc ZB, 36⟩, ⟨h1, kc ZB, 36⟩] u1 := hB
  simp only [nrm]
  refine list_store 36 (.tmp 3) (.tmp 4) (h1) (kc ZB) 36 (kc ZB) (by kernel_rfl) rfl (by kernel_rfl) (by kernel_rfl) (hB.get 1 (x := ⟨h1, kc ZB, 36⟩) rfl) (by rw [Tryz.infoB, kc_size, (show ZB.length = 64 from rfl)]) ((show (kc ZB).size = 64 from rfl).trans ((kc_size _).trans (show ZB.length = 64 from rfl)).symm) (kc_one _) ?_
  replace hB := hB.set 1 (x := ⟨h1, kc ZB, 36⟩) rfl (kc ZB)
  simp only [List.set_cons_zero, List.set_cons_succ] at hB
  generalize World.setRow _ _ _ = u2 at *
  replace hB : Bl w [⟨w.heap.size, kc ZB, 36⟩, ⟨h1, kc ZB, 36⟩] u2 := hB
  simp only [nrm]
  refine wpList_nil ?_
  replace hB := hide hB
  go_upto_region 2 with fail
  replace hB := unhide hB
  refine wp_region_lit ?_
  refine list_val (.slice (some ⟨h1, 1, none⟩) 63 63) (by kernel_rfl) (exec_afrom _ (.tmp 3) (.const (.int .i64 1)) rfl h1 1 (by kernel_rfl) (by kernel_rfl) (by omega)) ?_
  simp only [nrm]
  refine list_val (.slice a n c) (by kernel_rfl) (by kernel_rfl) ?_
  simp only [nrm]
  refine wpList_step fun K_ hQ => ?_
  rw [if_pos (by kernel_rfl)]
  refine copy_wp (.tmp 5) (.tmp 6) rfl h1 1 63 63 a n c (by kernel_rfl) (by kernel_rfl) (ZB.map (Value.int .u8)) 36 (hB.get 1 (x := ⟨h1, kc ZB, 36⟩) rfl) S (by rw [hSl]; exact (Nat.min_eq_left hn).symm) ((unhide hS).gr hB.gr).sl (by rw [hSl, List.length_map]; show 1 + n ≤ 64; omega) ?_
  have hcell := laid (S := S) (o := 1) (hB.get 1 (x := ⟨h1, kc ZB, 36⟩) rfl) (by rw [hSl]; show 1 + n ≤ 64; omega)
  have hB2 := hB.but (setCells_bt (S.map (Value.int .u8)) u2 h1 1) 1 (x := ⟨h1, kc ZB, 36⟩) rfl rfl hcell
  simp only [List.set_cons_zero, List.set_cons_succ] at hB2
  generalize World.setCells _ _ _ _ = u3 at *
  rw [hSl]
  have hCl : (lay ZB 1 S).length = 64 := (lay_len _ _ _ (by rw [hSl]; show 1 + n ≤ 64; omega)).trans rfl
  generalize lay ZB 1 S = CL at *
  clear hcell hB
  have hB : Bl w [⟨w.heap.size, kc ZB, 36⟩, ⟨h1, kc CL, 36⟩] u3 := hB2
  clear hB2
  refine hQ _ _ ?_
  clear hQ K_
  simp only [nrm]
  refine wpList_nil ?_
  replace hB := hide hB
  go_upto_region 3 with fail
  replace hB := unhide hB
  refine wp_region_lit ?_
  refine list_val (.agg (kc CL)) (by kernel_rfl) (exec_arr _ 36 (.tmp 3) rfl (h1) (by kernel_rfl) (kc CL) 36 _ (hB.get 1 (x := ⟨h1, kc CL, 36⟩) rfl) Tryz.underlying36 rfl (by rw [Tryz.infoB, kc_size, hCl])) ?_
  simp only [nrm]
  refine list_store 36 (.tmp 2) (.tmp 8) (w.heap.size) (kc CL) 36 (kc ZB) (by kernel_rfl) rfl (by kernel_rfl) (by kernel_rfl) (hB.get 0 (x := ⟨w.heap.size, kc ZB, 36⟩) rfl) (by rw [Tryz.infoB, kc_size, hCl]) ((show (kc ZB).size = 64 from rfl).trans ((kc_size _).trans hCl).symm) (kc_one _) ?_
  replace hB := hB.set 0 (x := ⟨w.heap.size, kc ZB, 36⟩) rfl (kc CL)
  simp only [List.set_cons_zero, List.set_cons_succ] at hB
  generalize World.setRow _ _ _ = u4 at *
  replace hB : Bl w [⟨w.heap.size, kc CL, 36⟩, ⟨h1, kc CL, 36⟩] u4 := hB
  simp only [nrm]
  refine wpList_nil ?_
  replace hB := hide hB
  go_wp2_with fail
  replace hB := unhide hB
  rw [unhide hT]
  exact bodyPost_ret (v := .agg (kc CL)) (results_cell_row Tryz.results61 _ _ (w.heap.size) 36 (kc CL) (0, 0) _ rfl (hB.get 0 (x := ⟨w.heap.size, kc CL, 36⟩) rfl) Tryz.underlying36 rfl (by rw [Tryz.infoB, kc_size, hCl])) rfl (⟨rfl, hB.gr⟩)
theorem Tryz.infoBg : (Tryz.prog.info? 109).map (·.size) = some 16 := by kernel_rfl
theorem Tryz.infoMr : (Tryz.prog.info? 111).map (·.size) = some 19 := by kernel_rfl
set_option maxHeartbeats 4000000 in
theorem wdigest_ok (B : List Int) (a : Option Addr) (n c : Nat) (w : World) (hB0 : Lb w a n c B) (hn : n ≤ 100000000) (hf : Fst w) : Calls Tryz.prog 62 #[.slice a n c] w (Vl (.agg (kc (sh16 B))) w) := by
  obtain ⟨T, hT⟩ : ∃ T, T = Vl (.agg (kc (sh16 B))) w := ⟨_, rfl⟩
  rw [← hT]
  replace hT := hide hT
  replace hB0 := hide hB0; replace hf := hide hf
  go_enter Tryz.func62, Tryz.ntmps62
  go_upto_region 1 with fail
  have hB := ((Bl.nil w).new #[.int .u8 0, .int .u8 0, .int .u8 0, .int .u8 0, .int .u8 0, .int .u8 0, .int .u8 0, .int .u8 0, .int .u8 0, .int .u8 0, .int .u8 0, .int .u8 0, .int .u8 0, .int .u8 0, .int .u8 0, .int .u8 0] 109)
  simp only [size_alloc, List.nil_append, List.cons_append] at hB
  generalize World.alloc _ _ = u at *
  replace hB : Bl w [⟨w.heap.size, kc Z16, 109⟩] u := hB
  refine wp_region_lit ?_
  refine list_val (.slice a n c) (by kernel_rfl) (by kernel_rfl) ?_
  simp only [nrm]
  refine list_call 69 #[.slice a n c] (by kernel_rfl) (by kernel_rfl) ((sum_ok B (unhide hB0).isB n (unhide hB0).len (by omega) a c (unhide hB0).cap (unhide hB0).max u ((unhide hf).gr hB.gr) ((unhide hB0).gr hB.gr).sl).mono ?_)
  rintro r u1 ⟨rfl, hg⟩
  replace hB := hB.more hg
  have kl := sumL_len B
  have kT : Hid (sh16 B = (sumL B).take 16) := rfl
  generalize sumL B = K at *
  generalize hH : sh16 B = H at *
  have hHl : H.length = 16 := by rw [unhide kT, List.length_take, kl]; rfl
  clear hg hH
  refine ⟨_, rfl, ?_⟩
  simp only [nrm]
  refine list_valw (.pointer (some ⟨u1.heap.size, 0, none⟩)) (u1.alloc (.cells (kc (List.replicate 32 0)) 124 (0, 0))) (by kernel_rfl) (by kernel_rfl) ?_
  replace hB := hB.new (kc (List.replicate 32 0)) 124
  simp only [List.nil_append, List.cons_append] at hB
  generalize World.alloc _ _ = u2 at *
  generalize u1.heap.size = h1 at *
  replace hB : Bl w [⟨w.heap.size, kc Z16, 109⟩, ⟨h1, kc (List.replicate 32 0), 124⟩] u2 := hB
  simp only [nrm]
  refine list_store 124 (.tmp 3) (.tmp 5) (h1) (kc K) 124 (kc (List.replicate 32 0)) (by kernel_rfl) rfl (by kernel_rfl) (by kernel_rfl) (hB.get 1 (x := ⟨h1, kc (List.replicate 32 0), 124⟩) rfl) (by rw [Tryz.infoKy, kc_size, kl]) (by rw [kc_size, kc_size, kl, List.length_replicate]) (kc_one _) ?_
  replace hB := hB.set 1 (x := ⟨h1, kc (List.replicate 32 0), 124⟩) rfl (kc K)
  simp only [List.set_cons_zero, List.set_cons_succ] at hB
  generalize World.setRow _ _ _ = u3 at *
  replace hB : Bl w [⟨w.heap.size, kc Z16, 109⟩, ⟨h1, kc K, 124⟩] u3 := hB
  simp only [nrm]
  refine wpList_nil ?_
  replace hB := hide hB
  go_upto_region 2 with fail
  replace hB := unhide hB
  refine wp_region_lit ?_
  refine list_val (.slice (some ⟨h1, 0, none⟩) 16 32) (by kernel_rfl) (by kernel_rfl) ?_
  simp only [nrm]
  refine list_val (.pointer (some ⟨h1, 0, none⟩)) (by kernel_rfl) (by kernel_rfl) ?_
  simp only [nrm]
  refine list_val (.agg (kc H)) (by kernel_rfl) (exec_row _ 109 (.tmp 7) rfl h1 0 (by kernel_rfl) (bv H) _ (by have h := range_sub (hB.get 1 (x := ⟨h1, kc K, 124⟩) rfl) 0 16; rw [List.drop_zero, ← unhide kT] at h; exact h) Tryz.underlying109 rfl (by rw [Tryz.infoBg, bv_len, hHl])) ?_
  simp only [nrm]
  refine list_store 109 (.tmp 2) (.tmp 8) (w.heap.size) (kc H) 109 (kc Z16) (by kernel_rfl) rfl (by kernel_rfl) (by kernel_rfl) (hB.get 0 (x := ⟨w.heap.size, kc Z16, 109⟩) rfl) (by rw [Tryz.infoBg, kc_size, hHl]) (by rw [kc_size, kc_size, hHl]; rfl) (kc_one _) ?_
  replace hB := hB.set 0 (x := ⟨w.heap.size, kc Z16, 109⟩) rfl (kc H)
  simp only [List.set_cons_zero, List.set_cons_succ] at hB
  generalize World.setRow _ _ _ = u4 at *
  replace hB : Bl w [⟨w.heap.size, kc H, 109⟩, ⟨h1, kc K, 124⟩] u4 := hB
  simp only [nrm]
  refine wpList_nil ?_
  replace hB := hide hB
  go_wp2_with fail
  replace hB := unhide hB
  rw [unhide hT]
  exact bodyPost_ret (v := .agg (kc H)) (results_cell_row Tryz.results62 _ _ (w.heap.size) 109 (kc H) (0, 0) _ rfl (hB.get 0 (x := ⟨w.heap.size, kc H, 109⟩) rfl) Tryz.underlying109 rfl (by rw [Tryz.infoBg, kc_size, hHl])) rfl (⟨rfl, hB.gr⟩)
structure Mr where
  t : Nat
  k : Nat
  n : Nat
  h : List Int
structure Mr.Ok (m : Mr) : Prop where
  t : m.t < 18446744073709551616
  k : m.k < 4294967296
  n : m.n < 4294967296
  hl : m.h.length = 16
  hb : IsB m.h
def Mr.b48 (m : Mr) : List Int := 1 :: (lowL (m.t : Int) 8 ++ (lowL (m.k : Int) 4 ++ (lowL (m.n : Int) 4 ++ (m.h ++ List.replicate 15 0))))
def Mr.blk (m : Mr) : List Int := m.b48 ++ sh16 m.b48
theorem Mr.b48_len {m : Mr} (h : m.h.length = 16) : m.b48.length = 48 := by
  unfold Mr.b48
  simp only [List.length_cons, List.length_append, lowL_len, h, List.length_replicate]
theorem Mr.blk_bb {m : Mr} (h : m.Ok) : BB m.blk := by
  have h1 : IsB m.b48 := by
    unfold Mr.b48
    have h : IsB (lowL (m.t : Int) 8 ++ (lowL (m.k : Int) 4 ++ (lowL (m.n : Int) 4 ++ (m.h ++ List.replicate 15 0)))) := isB_app (lowL_isB _ _) (isB_app (lowL_isB _ _) (isB_app (lowL_isB _ _) (isB_app h.hb (isB_rep 15))))
    intro z hz
    rcases List.mem_cons.1 hz with e | e
    · omega
    · exact h z e
  refine ⟨?_, isB_app h1 (sh16_isB _ (sumL_isB _))⟩
  unfold Mr.blk
  rw [List.length_append, Mr.b48_len h.hl, sh16_len]
theorem mkL_mr (t k : Nat) (x : List Int) : mkL t k x = (Mr.mk t k x.length (sh16 x)).blk := by
  have e : mk48 t k x = (Mr.mk t k x.length (sh16 x)).b48 := by
    unfold mk48 Mr.b48
    generalize sh16 x = H
    dsimp only
  unfold mkL Mr.blk
  rw [e]
def mrl (m : Mr) : List Value := .int .u64 (m.t : Int) :: .int .u32 (m.k : Int) :: .int .u32 (m.n : Int) :: bv m.h
def mrv (m : Mr) : Array Value := (mrl m).toArray
def ZMr : Mr := ⟨0, 0, 0, Z16⟩
theorem mrl_len {m : Mr} (h : m.h.length = 16) : (mrl m).length = 19 := by unfold mrl bv; simp [h]
theorem mrv_size {m : Mr} (h : m.h.length = 16) : (mrv m).size = 19 := by unfold mrv mrl bv; simp [h]
theorem mrv_one (m : Mr) : (mrv m).all (·.oneCell') = true := by
  unfold mrv
  rw [List.all_toArray, List.all_eq_true]
  intro x hx
  unfold mrl at hx
  simp only [List.mem_cons] at hx
  rcases hx with rfl | rfl | rfl | hx
  · rfl
  · rfl
  · rfl
  · exact bv_one' _ x hx
theorem mrv_cells {w : World} {g : Nat} {m : Mr} {t : TypeId} (h : w.heap[g]? = some (.cells (mrv m) t (0, 0))) : w.cell? ⟨g, 0, none⟩ = some (.int .u64 (m.t : Int)) ∧ w.cell? ⟨g, 1, none⟩ = some (.int .u32 (m.k : Int)) ∧ w.cell? ⟨g, 2, none⟩ = some (.int .u32 (m.n : Int)) := ⟨cell_of h (i := 0) rfl, cell_of h (i := 1) rfl, cell_of h (i := 2) rfl⟩
theorem mrv_range {w : World} {g : Nat} {m : Mr} {t : TypeId} (h : w.heap[g]? = some (.cells (mrv m) t (0, 0))) : w.rangeAt g 3 (bv m.h) := fun j x hj => by
  refine cell_of h ?_
  unfold mrv mrl
  rw [List.getElem?_toArray, show 3 + j = j + 1 + 1 + 1 from by omega, List.getElem?_cons_succ, List.getElem?_cons_succ, List.getElem?_cons_succ]
  exact hj
theorem mrv_hash {w : World} {g : Nat} {m : Mr} {t : TypeId} (h : w.heap[g]? = some (.cells (mrv m) t (0, 0))) (hl : m.h.length = 16) (hb : IsB m.h) : Lb w (some ⟨g, 3, none⟩) 16 16 m.h := by
  refine ⟨hl, hb, .inr ⟨g, 3, rfl, fun j hj => mrv_range h j _ ?_⟩, Nat.le_refl _, by omega⟩
  unfold bv
  rw [List.getElem?_map, List.getElem?_eq_getElem hj]
  simp [List.getD_eq_getElem?_getD, hj]
theorem sp_mrl (m : Mr) (h : List Int) (hs : m.h.length = h.length) : sp (mrl m) 3 (h.map (Value.int .u8)) = mrl ⟨m.t, m.k, m.n, h⟩ := by
  have e := sp_mid (h.map (Value.int .u8)) [.int .u64 (m.t : Int), .int .u32 (m.k : Int), .int .u32 (m.n : Int)] (bv m.h) [] (by unfold bv; rw [List.length_map, List.length_map, hs])
  rw [List.append_nil, List.append_nil] at e
  exact e
theorem exec_bmr {a : Act} {o : Oper} (w : World) (x y z t : Operand) (ho : o.op = .build 111 #[(0, x), (1, y), (2, z), (3, t)]) (m : Mr) (hb : m.h.length = 16) (hx : a.eval x = .int .u64 (m.t : Int)) (hy : a.eval y = .int .u32 (m.k : Int)) (hz : a.eval z = .int .u32 (m.n : Int)) (ht : a.eval t = .agg (kc m.h)) :
    (execOp a.eval o).run Tryz.prog w = .ok (.value (.agg (mrv m))) w := by
  obtain ⟨pl, tu, sz, hh⟩ := m
  dsimp only at *
  obtain ⟨m0, m1, m2, m3, m4, m5, m6, m7, m8, m9, m10, m11, m12, m13, m14, m15, rfl⟩ := list16 hh hb
  have h := run_build (P := Tryz.prog) w 111 #[(0, .int .u64 (pl : Int)), (1, .int .u32 (tu : Int)), (2, .int .u32 (sz : Int)), (3, .agg (kc [m0, m1, m2, m3, m4, m5, m6, m7, m8, m9, m10, m11, m12, m13, m14, m15]))] (mrv ⟨pl, tu, sz, [m0, m1, m2, m3, m4, m5, m6, m7, m8, m9, m10, m11, m12, m13, m14, m15]⟩) (by kernel_rfl)
  unfold execOp
  simp only [ho, List.map_toArray, List.map_cons, List.map_nil, hx, hy, hz, ht, Sem.run_bind, h, Result.andThen_ok, Sem.run_pure]
set_option maxHeartbeats 4000000 in
theorem wdescribe_ok (t k : Nat) (ht : t < 18446744073709551616) (hk : k < 4294967296) (B : List Int) (a : Option Addr) (n c : Nat) (w : World) (hB0 : Lb w a n c B) (hn : n ≤ 100000000) (hf : Fst w) : Calls Tryz.prog 77 #[.int .u64 (t : Int), .int .i64 (k : Int), .slice a n c] w (Vl (.agg (mrv ⟨t, k, n, sh16 B⟩)) w) := by
  obtain ⟨T, hT⟩ : ∃ T, T = Vl (.agg (mrv ⟨t, k, n, sh16 B⟩)) w := ⟨_, rfl⟩
  rw [← hT]
  replace hT := hide hT
  have hHl := sh16_len B
  have hwn : IntKind.u32.wrap (n : Int) = (n : Int) := by rw [IntKind.wrap_u32]; omega
  have hwk : IntKind.u32.wrap (k : Int) = (k : Int) := by rw [IntKind.wrap_u32]; omega
  replace hB0 := hide hB0; replace hf := hide hf
  go_enter Tryz.func77, Tryz.ntmps77
  go_upto_region 1 with fail
  have hB := ((Bl.nil w).new #[.int .u64 0, .int .u32 0, .int .u32 0, .int .u8 0, .int .u8 0, .int .u8 0, .int .u8 0, .int .u8 0, .int .u8 0, .int .u8 0, .int .u8 0, .int .u8 0, .int .u8 0, .int .u8 0, .int .u8 0, .int .u8 0, .int .u8 0, .int .u8 0, .int .u8 0] 111)
  simp only [size_alloc, List.nil_append, List.cons_append] at hB
  generalize World.alloc _ _ = u at *
  replace hB : Bl w [⟨w.heap.size, mrv ZMr, 111⟩] u := hB
  refine wp_region_lit ?_
  refine list_val (.int .u64 (t : Int)) (by kernel_rfl) (by kernel_rfl) ?_
  simp only [nrm]
  refine list_val (.int .i64 (k : Int)) (by kernel_rfl) (by kernel_rfl) ?_
  simp only [nrm]
  refine list_val (.int .u32 (k : Int)) (by kernel_rfl) (by go_simp) ?_
  simp only [nrm]
  refine list_val (.slice a n c) (by kernel_rfl) (by kernel_rfl) ?_
  simp only [nrm]
  refine list_val (.int .i64 n) (by kernel_rfl) (by kernel_rfl) ?_
  simp only [nrm]
  refine list_val (.int .u32 (n : Int)) (by kernel_rfl) (by go_simp) ?_
  simp only [nrm]
  refine list_val (.slice a n c) (by kernel_rfl) (by kernel_rfl) ?_
  simp only [nrm]
  refine list_call 62 #[.slice a n c] (by kernel_rfl) (by kernel_rfl) ((wdigest_ok B a n c u ((unhide hB0).gr hB.gr) hn ((unhide hf).gr hB.gr)).mono ?_)
  rintro r u1 ⟨rfl, hg⟩
  replace hB := hB.more hg
  clear hg
  generalize sh16 B = H at *
  refine ⟨_, rfl, ?_⟩
  simp only [nrm]
  refine list_val (.agg (mrv ⟨t, k, n, H⟩)) (by kernel_rfl) (exec_bmr _ (.tmp 7) (.tmp 9) (.tmp 12) (.tmp 14) rfl ⟨t, k, n, H⟩ hHl (by kernel_rfl) (by kernel_rfl) (by kernel_rfl) (by kernel_rfl)) ?_
  simp only [nrm]
  refine list_store 111 (.tmp 6) (.tmp 15) (w.heap.size) (mrv ⟨t, k, n, H⟩) 111 (mrv ZMr) (by kernel_rfl) rfl (by kernel_rfl) (by kernel_rfl) (hB.get 0 (x := ⟨w.heap.size, mrv ZMr, 111⟩) rfl) (by rw [Tryz.infoMr, mrv_size hHl]) (by rw [mrv_size (m := ⟨t, k, n, H⟩) hHl]; rfl) (mrv_one _) ?_
  replace hB := hB.set 0 (x := ⟨w.heap.size, mrv ZMr, 111⟩) rfl (mrv ⟨t, k, n, H⟩)
  simp only [List.set_cons_zero, List.set_cons_succ] at hB
  generalize World.setRow _ _ _ = u4 at *
  replace hB : Bl w [⟨w.heap.size, mrv ⟨t, k, n, H⟩, 111⟩] u4 := hB
  simp only [nrm]
  refine wpList_nil ?_
  replace hB := hide hB
  go_wp2_with fail
  replace hB := unhide hB
  rw [unhide hT]
  exact bodyPost_ret (v := .agg (mrv ⟨t, k, n, H⟩)) (results_cell_row Tryz.results77 _ _ (w.heap.size) 111 (mrv ⟨t, k, n, H⟩) (0, 0) _ rfl (hB.get 0 (x := ⟨w.heap.size, mrv ⟨t, k, n, H⟩, 111⟩) rfl) Tryz.underlying111 rfl (by rw [Tryz.infoMr, mrv_size hHl])) rfl ⟨rfl, hB.gr⟩
set_option maxHeartbeats 4000000 in
theorem wput_ok (ga gb k : Nat) (C S : List Int) (hC : C.length = 64) (a : Option Addr) (n c : Nat) (w : World) (h1 : w.heap[ga]? = some (.cells #[.int .i64 (k : Int)] 3 (0, 0))) (h2 : w.heap[gb]? = some (.cells (kc C) 36 (0, 0))) (hS0 : Lb w a n c S) (hn : 0 < n) (hfit : k + n ≤ 64) : Calls Tryz.prog 95 #[.slice a n c, .pointer (some ⟨ga, 0, none⟩), .pointer (some ⟨gb, 0, none⟩)] w (fun r w' => r = .returned (.tuple #[]) ∧ w'.heap[ga]? = some (.cells #[.int .i64 ((k + n : Nat) : Int)] 3 (0, 0)) ∧ w'.heap[gb]? = some (.cells (kc (lay C k S)) 36 (0, 0)) ∧ Chg [ga, gb] [ga, gb] w w') := by
  obtain ⟨T, hT⟩ : ∃ T : Ending → World → Prop, T = fun r w' => r = .returned (.tuple #[]) ∧ w'.heap[ga]? = some (.cells #[.int .i64 ((k + n : Nat) : Int)] 3 (0, 0)) ∧ w'.heap[gb]? = some (.cells (kc (lay C k S)) 36 (0, 0)) ∧ Chg [ga, gb] [ga, gb] w w' := ⟨_, rfl⟩
  rw [← hT]
  replace hT := hide hT
  have hne : gb ≠ ga := ty_ne h2 h1 (by decide)
  obtain ⟨kn, hkn⟩ : ∃ x, x = k + n := ⟨_, rfl⟩
  have hw1 : IntKind.i64.wrap ((k : Int) + (n : Int)) = (kn : Int) := by rw [IntKind.wrap_i64]; omega
  have hB := ((Bc.nil [ga, gb] w).add ⟨ga, #[.int .i64 (k : Int)], 3⟩ h1 (.inl (by simp)) (fun y hy => by cases hy)).add ⟨gb, kc C, 36⟩ h2 (.inl (by simp)) (fun y hy => by simp at hy; subst hy; exact hne.symm)
  replace hB : Bc [ga, gb] w [⟨ga, #[.int .i64 (k : Int)], 3⟩, ⟨gb, kc C, 36⟩] w := hB
  clear h1 h2
  replace hS0 := hide hS0; replace hB := hide hB; replace hkn := hide hkn
  go_enter Tryz.func95, Tryz.ntmps95
  go_upto_region 0 with fail
  replace hB := unhide hB
  refine anyC_start 6 (fun (v : World) => v.heap[ga]? = some (.cells #[.int .i64 (k : Int)] 3 (0, 0))) (by kernel_rfl) ?_
  replace hB := hB.drew
  have hG := (Gr.refl w).drew
  generalize World.drew _ = x0 at *
  have hS : (fun (v : World) => v.heap[ga]? = some (.cells #[.int .i64 (k : Int)] 3 (0, 0))) x0 := (hB.get 0 (x := ⟨ga, #[.int .i64 (k : Int)], 3⟩) rfl)
  simp only [List.size_toArray, List.length_cons, List.length_nil, Array.replicate, List.replicate]
  refine anyC_take (i := 0) (v := (.int .i64 (k : Int))) (fun (v : World) => v.heap[ga]? = some (.cells #[.int .i64 (k : Int)] 3 (0, 0))) (fun _ h_ => h_) (.inr (by kernel_rfl)) rfl (by kernel_rfl) (by kernel_rfl) (by kernel_rfl) (by decide) (by kernel_rfl) (by decide) (fun _ _ _ h => h) (.inl ⟨by kernel_rfl, fun x_ hu => exec_i64 _ (.tmp 1) rfl ga 0 (by kernel_rfl) (k : Int) (cell_of hu (i := 0) rfl)⟩) hS ?_
  simp only [nrm]
  refine anyC_take (i := 1) (v := (.int .i64 (k : Int))) (fun (v : World) => v.heap[ga]? = some (.cells #[.int .i64 (k : Int)] 3 (0, 0))) (fun _ h_ => h_) (.inr (by kernel_rfl)) rfl (by kernel_rfl) (by kernel_rfl) (by kernel_rfl) (by decide) (by kernel_rfl) (by decide) (fun _ _ _ h => h) (.inl ⟨by kernel_rfl, fun x_ hu => exec_i64 _ (.tmp 1) rfl ga 0 (by kernel_rfl) (k : Int) (cell_of hu (i := 0) rfl)⟩) hS ?_
  simp only [nrm]
  refine anyC_take (i := 2) (v := (.slice (some ⟨gb, k, none⟩) (64 - k) (64 - k))) (fun (v : World) => v.heap[ga]? = some (.cells #[.int .i64 (k : Int)] 3 (0, 0))) (fun _ h_ => h_) (.inr (by kernel_rfl)) rfl (by kernel_rfl) (by kernel_rfl) (by kernel_rfl) (by decide) (by kernel_rfl) (by decide) (fun _ _ _ h => h) (.inl ⟨by kernel_rfl, fun x_ hu => exec_afrom _ (.tmp 2) (.tmp 5) rfl gb k (by kernel_rfl) (by kernel_rfl) (by omega)⟩) hS ?_
  simp only [nrm]
  refine anyC_take (i := 3) (v := (.slice a n c)) (fun (v : World) => v.heap[ga]? = some (.cells #[.int .i64 (k : Int)] 3 (0, 0))) (fun _ h_ => h_) (.inr (by kernel_rfl)) rfl (by kernel_rfl) (by kernel_rfl) (by kernel_rfl) (by decide) (by kernel_rfl) (by decide) (fun _ _ _ h => h) (.inl ⟨by kernel_rfl, fun x_ hu => by kernel_rfl⟩) hS ?_
  simp only [nrm]
  refine anyC_one (i := 4) (by kernel_rfl) rfl (fun K_ hQ => ?_)
  rw [if_pos (by kernel_rfl)]
  have hsl := (unhide hS0).len
  refine copy_wp (.tmp 6) (.tmp 7) rfl gb k (64 - k) (64 - k) a n c (by kernel_rfl) (by kernel_rfl) (C.map (Value.int .u8)) 36 (hB.get 1 (x := ⟨gb, kc C, 36⟩) rfl) S (by rw [hsl]; exact (Nat.min_eq_left (by omega)).symm) ((unhide hS0).gr hG).sl (by rw [hsl, List.length_map, hC]; omega) ?_
  have hcell := laid (S := S) (o := k) (hB.get 1 (x := ⟨gb, kc C, 36⟩) rfl) (by rw [hsl, hC]; omega)
  have hB2 := hB.but (setCells_bt (S.map (Value.int .u8)) x0 gb k) 1 (x := ⟨gb, kc C, 36⟩) rfl rfl hcell
  simp only [List.set_cons_zero, List.set_cons_succ] at hB2
  generalize World.setCells _ _ _ _ = x1 at *
  rw [hsl]
  clear hcell hB hS hG
  have hB : Bc [ga, gb] w [⟨ga, #[.int .i64 (k : Int)], 3⟩, ⟨gb, kc (lay C k S), 36⟩] x1 := hB2
  clear hB2
  generalize lay C k S = CL at *
  have hS : (fun (v : World) => v.heap[ga]? = some (.cells #[.int .i64 (k : Int)] 3 (0, 0))) x1 := (hB.get 0 (x := ⟨ga, #[.int .i64 (k : Int)], 3⟩) rfl)
  refine hQ.out _ _ hS (fun _ => ?_)
  clear hQ K_
  simp only [nrm]
  refine anyC_take (i := 5) (v := (.int .i64 (kn : Int))) (fun (v : World) => v.heap[ga]? = some (.cells #[.int .i64 (k : Int)] 3 (0, 0))) (fun _ h_ => h_) (.inr (by kernel_rfl)) rfl (by kernel_rfl) (by kernel_rfl) (by kernel_rfl) (by decide) (by kernel_rfl) (by decide) (fun _ _ _ h => h) (.inl ⟨by kernel_rfl, fun x_ hu => by go_simp⟩) hS ?_
  simp only [nrm]
  refine anyC_last (by kernel_rfl) rfl (fun K_ hQ => ?_)
  have c4 := cell_of (hB.get 0 (x := ⟨ga, #[.int .i64 (k : Int)], 3⟩) rfl) (i := 0) rfl
  have fz := froz_of (i := 0) (hB.get 0 (x := ⟨ga, #[.int .i64 (k : Int)], 3⟩) rfl)
  have hB2 := hB.cell 0 (x := ⟨ga, #[.int .i64 (k : Int)], 3⟩) rfl 0 (.int .i64 (kn : Int))
  simp only [List.set_cons_zero, List.set_cons_succ] at hB2
  replace hB2 : Bc [ga, gb] w [⟨ga, #[.int .i64 (kn : Int)], 3⟩, ⟨gb, kc CL, 36⟩] _ := hB2
  clear hB hS
  replace hB2 := hide hB2
  replace hQ := hide hQ
  dsimp only at c4 fz
  go_simp
  refine (unhide hQ).out _ _ ?_
  clear hQ K_ c4 fz
  have hB := unhide hB2
  clear hB2
  generalize World.setCell _ _ _ = x2 at *
  refine any_done (by kernel_rfl) ?_
  replace hB := hide hB
  go_wp2_with fail
  rw [unhide hT]
  exact bodyPost_end (results_none Tryz.results95 _ _ _) rfl ⟨rfl, by have h := (unhide hB).get 0 (x := ⟨ga, #[.int .i64 (kn : Int)], 3⟩) rfl; rw [← unhide hkn]; exact h, (unhide hB).get 1 (x := ⟨gb, kc CL, 36⟩) rfl, (unhide hB).chg⟩
theorem mr48_of (m : Mr) (h : m.h.length = 16) : (((([1] ++ lowL (m.t : Int) 8) ++ lowL (m.k : Int) 4) ++ lowL (m.n : Int) 4) ++ m.h) ++ List.replicate 31 0 = m.b48 ++ List.replicate 16 0 := by
  unfold Mr.b48
  rw [show (31 : Nat) = 15 + 16 from rfl, ← List.replicate_append_replicate]
  simp only [List.append_assoc, List.cons_append, List.nil_append]
set_option maxHeartbeats 4000000 in
theorem mblock_ok (m : Mr) (hm : m.Ok) (w : World) (hf : Fst w) : Calls Tryz.prog 78 #[.agg (mrv m)] w (Vl (.agg (kc m.blk)) w) := by
  obtain ⟨T, hT⟩ : ∃ T, T = Vl (.agg (kc m.blk)) w := ⟨_, rfl⟩
  rw [← hT]
  replace hT := hide hT
  obtain ⟨SK, hSK⟩ : ∃ X, X = mrv m := ⟨_, rfl⟩
  rw [← hSK]
  have ht := hm.t
  have hk := hm.k
  have hz := hm.n
  have hhl := hm.hl
  replace hSK := hide hSK; replace hm := hide hm; replace hf := hide hf
  go_enter Tryz.func78, Tryz.ntmps78
  go_upto_region 2 with fail
  have hB := ((((Bl.nil w).new SK 111).new #[.int .u8 0, .int .u8 0, .int .u8 0, .int .u8 0, .int .u8 0, .int .u8 0, .int .u8 0, .int .u8 0, .int .u8 0, .int .u8 0, .int .u8 0, .int .u8 0, .int .u8 0, .int .u8 0, .int .u8 0, .int .u8 0, .int .u8 0, .int .u8 0, .int .u8 0, .int .u8 0, .int .u8 0, .int .u8 0, .int .u8 0, .int .u8 0, .int .u8 0, .int .u8 0, .int .u8 0, .int .u8 0, .int .u8 0, .int .u8 0, .int .u8 0, .int .u8 0, .int .u8 0, .int .u8 0, .int .u8 0, .int .u8 0, .int .u8 0, .int .u8 0, .int .u8 0, .int .u8 0, .int .u8 0, .int .u8 0, .int .u8 0, .int .u8 0, .int .u8 0, .int .u8 0, .int .u8 0, .int .u8 0, .int .u8 0, .int .u8 0, .int .u8 0, .int .u8 0, .int .u8 0, .int .u8 0, .int .u8 0, .int .u8 0, .int .u8 0, .int .u8 0, .int .u8 0, .int .u8 0, .int .u8 0, .int .u8 0, .int .u8 0, .int .u8 0] 36).new #[.int .u8 0, .int .u8 0, .int .u8 0, .int .u8 0, .int .u8 0, .int .u8 0, .int .u8 0, .int .u8 0, .int .u8 0, .int .u8 0, .int .u8 0, .int .u8 0, .int .u8 0, .int .u8 0, .int .u8 0, .int .u8 0, .int .u8 0, .int .u8 0, .int .u8 0, .int .u8 0, .int .u8 0, .int .u8 0, .int .u8 0, .int .u8 0, .int .u8 0, .int .u8 0, .int .u8 0, .int .u8 0, .int .u8 0, .int .u8 0, .int .u8 0, .int .u8 0, .int .u8 0, .int .u8 0, .int .u8 0, .int .u8 0, .int .u8 0, .int .u8 0, .int .u8 0, .int .u8 0, .int .u8 0, .int .u8 0, .int .u8 0, .int .u8 0, .int .u8 0, .int .u8 0, .int .u8 0, .int .u8 0, .int .u8 0, .int .u8 0, .int .u8 0, .int .u8 0, .int .u8 0, .int .u8 0, .int .u8 0, .int .u8 0, .int .u8 0, .int .u8 0, .int .u8 0, .int .u8 0, .int .u8 0, .int .u8 0, .int .u8 0, .int .u8 0] 36)
  simp only [size_alloc, List.nil_append, List.cons_append] at hB
  generalize World.alloc _ _ = u at *
  rw [unhide hSK] at hB
  replace hB : Bl w [⟨w.heap.size, mrv m, 111⟩, ⟨w.heap.size + 1, kc ZB, 36⟩, ⟨w.heap.size + 1 + 1, kc ZB, 36⟩] u := hB
  refine wp_region_lit ?_
  refine list_valw (.pointer (some ⟨u.heap.size, 0, none⟩)) (u.alloc (.cells (#[.int .i64 0]) 3 (0, 0))) (by kernel_rfl) (by kernel_rfl) ?_
  replace hB := hB.new (#[.int .i64 0]) 3
  simp only [List.nil_append, List.cons_append] at hB
  generalize World.alloc _ _ = u1 at *
  generalize u.heap.size = ga at *
  replace hB : Bl w [⟨w.heap.size, mrv m, 111⟩, ⟨w.heap.size + 1, kc ZB, 36⟩, ⟨w.heap.size + 1 + 1, kc ZB, 36⟩, ⟨ga, #[.int .i64 0], 3⟩] u1 := hB
  simp only [nrm]
  have c4 := cell_of (hB.get 3 (x := ⟨ga, #[.int .i64 0], 3⟩) rfl) (i := 0) rfl
  have fz := froz_of (i := 0) (hB.get 3 (x := ⟨ga, #[.int .i64 0], 3⟩) rfl)
  have hB2 := hB.cell 3 (x := ⟨ga, #[.int .i64 0], 3⟩) rfl 0 (.int .i64 ((0 : Nat) : Int))
  simp only [List.set_cons_zero, List.set_cons_succ] at hB2
  replace hB2 : Bl w [⟨w.heap.size, mrv m, 111⟩, ⟨w.heap.size + 1, kc ZB, 36⟩, ⟨w.heap.size + 1 + 1, kc ZB, 36⟩, ⟨ga, #[.int .i64 ((0 : Nat) : Int)], 3⟩] _ := hB2
  clear hB
  replace hB2 := hide hB2
  dsimp only at c4 fz
  (refine wpList_step fun K hK => ?_; replace hK := hide hK; go_simp; refine unhide hK _ _ ?_; clear hK K)
  clear c4 fz
  have hB := unhide hB2
  clear hB2
  generalize World.setCell _ _ _ = u2 at *
  refine wpList_nil ?_
  replace hB := hide hB
  go_upto_region 3 with fail
  replace hB := unhide hB
  refine wp_region_lit ?_
  refine list_val (.func (.func 95) #[] #[.pointer (some ⟨ga, 0, none⟩), .pointer (some ⟨w.heap.size + 1 + 1, 0, none⟩)]) (by kernel_rfl) (by kernel_rfl) ?_
  simp only [nrm]
  (refine wpList_step fun K hK => ?_; replace hK := hide hK; go_simp; refine unhide hK _ _ ?_; clear hK K)
  refine wpList_nil ?_
  replace hB := hide hB
  go_upto_region 4 with fail
  replace hB := unhide hB
  have lC0 : ZB.length = 64 := rfl
  obtain ⟨C0, eC0⟩ : ∃ x, x = ZB := ⟨_, rfl⟩
  replace hB : Bl w [⟨w.heap.size, mrv m, 111⟩, ⟨w.heap.size + 1, kc ZB, 36⟩, ⟨w.heap.size + 1 + 1, kc C0, 36⟩, ⟨ga, #[.int .i64 ((0 : Nat) : Int)], 3⟩] u2 := by rw [eC0]; exact hB
  rw [← eC0] at lC0
  replace eC0 := hide eC0
  refine wp_region_lit ?_
  refine list_val (.func (.func 95) #[] #[.pointer (some ⟨ga, 0, none⟩), .pointer (some ⟨w.heap.size + 1 + 1, 0, none⟩)]) (by kernel_rfl) (by kernel_rfl) ?_
  simp only [nrm]
  refine list_valw (.slice (some ⟨u2.heap.size, 0, none⟩) 1 1) (u2.alloc (.cells (kc [1]) 5 (0, 0))) (by kernel_rfl) (by kernel_rfl) ?_
  have l2 : Lb (u2.alloc (.cells (kc [1]) 5 (0, 0))) (some ⟨u2.heap.size, 0, none⟩) 1 1 [1] := nw_lb (blk_new _ _) (by intro x hx; simp at hx; omega) rfl (by omega)
  have hg := (Gr.refl u2).alloc (.cells (kc [1]) 5 (0, 0))
  replace hB := hB.more hg
  clear hg
  generalize World.alloc _ _ = u3 at *
  generalize u2.heap.size = h1 at *
  simp only [nrm]
  refine list_call 95 #[.slice (some ⟨h1, 0, none⟩) 1 1, .pointer (some ⟨ga, 0, none⟩), .pointer (some ⟨w.heap.size + 1 + 1, 0, none⟩)] (by kernel_rfl) (by kernel_rfl) ((wput_ok ga (w.heap.size + 1 + 1) 0 C0 ([1]) lC0 (some ⟨h1, 0, none⟩) 1 1 u3 (hB.get 3 (x := ⟨ga, #[.int .i64 ((0 : Nat) : Int)], 3⟩) rfl) (hB.get 2 (x := ⟨w.heap.size + 1 + 1, kc C0, 36⟩) rfl) (l2) (by omega) (by omega)).mono ?_)
  rintro r u4 ⟨rfl, hc1, hc2, hch⟩
  have hB2 := hB.chg2 3 2 (by decide) (x := ⟨ga, #[.int .i64 ((0 : Nat) : Int)], 3⟩) (y := ⟨w.heap.size + 1 + 1, kc C0, 36⟩) rfl rfl hch hc1 hc2
  simp only [List.set_cons_zero, List.set_cons_succ] at hB2
  have lC1 : (lay C0 0 ([1])).length = 64 := (lay_len _ _ _ (by rw [(l2).len, lC0]; omega)).trans lC0
  have eC1 : Hid (lay C0 0 ([1]) = lay C0 0 ([1])) := rfl
  generalize hq_ : lay C0 0 ([1]) = C1 at *
  replace eC1 : Hid (C1 = lay C0 0 ([1])) := hq_.symm
  clear hB hc1 hc2 hch hq_
  replace hB2 : Bl w [⟨w.heap.size, mrv m, 111⟩, ⟨w.heap.size + 1, kc ZB, 36⟩, ⟨w.heap.size + 1 + 1, kc C1, 36⟩, ⟨ga, #[.int .i64 ((1 : Nat) : Int)], 3⟩] u4 := hB2
  have hB := hB2
  clear hB2
  refine ⟨_, rfl, ?_⟩
  simp only [nrm]
  refine wpList_nil ?_
  clear l2
  replace hB := hide hB
  go_upto_region 5 with fail
  replace hB := unhide hB
  refine wp_region_lit ?_
  refine list_val (.func (.func 95) #[] #[.pointer (some ⟨ga, 0, none⟩), .pointer (some ⟨w.heap.size + 1 + 1, 0, none⟩)]) (by kernel_rfl) (by kernel_rfl) ?_
  simp only [nrm]
  refine list_val (.pointer (some ⟨w.heap.size, 0, none⟩)) (by kernel_rfl) (by kernel_rfl) ?_
  simp only [nrm]
  refine list_val (.int .u64 (m.t : Int)) (by kernel_rfl) (exec_u64 _ (.tmp 12) rfl (w.heap.size) 0 (by kernel_rfl) _ (mrv_cells (hB.get 0 (x := ⟨w.heap.size, mrv m, 111⟩) rfl)).1) ?_
  simp only [nrm]
  refine list_call 82 #[.slice none 0 0, .int .u64 (m.t : Int)] (by kernel_rfl) (by kernel_rfl) ((put64_ok [] none 0 0 (m.t : Int) (by omega) (by omega) _ (Lb.nil0 _)).mono ?_)
  rintro r u7 ⟨h3, rfl, hg1, hg2, hg3⟩
  replace hB := hB.more hg3
  rw [List.nil_append] at hg2
  have l3 := kc_lb hg2 (lowL_len _ _) (lowL_isB _ _) (by omega)
  have hl3 := lowL_len (m.t : Int) 8
  clear hg1 hg2 hg3
  refine ⟨_, rfl, ?_⟩
  rw [List.nil_append]
  rw [hl3]
  obtain ⟨N8, eN8⟩ : ∃ x, x = lowL (m.t : Int) 8 := ⟨_, rfl⟩
  rw [← eN8] at l3
  replace eN8 := hide eN8
  simp only [nrm]
  refine list_call 95 #[.slice (some ⟨h3, 0, none⟩) 8 8, .pointer (some ⟨ga, 0, none⟩), .pointer (some ⟨w.heap.size + 1 + 1, 0, none⟩)] (by kernel_rfl) (by kernel_rfl) ((wput_ok ga (w.heap.size + 1 + 1) 1 C1 (N8) lC1 (some ⟨h3, 0, none⟩) 8 8 u7 (hB.get 3 (x := ⟨ga, #[.int .i64 ((1 : Nat) : Int)], 3⟩) rfl) (hB.get 2 (x := ⟨w.heap.size + 1 + 1, kc C1, 36⟩) rfl) (l3) (by omega) (by omega)).mono ?_)
  rintro r u8 ⟨rfl, hc1, hc2, hch⟩
  have hB2 := hB.chg2 3 2 (by decide) (x := ⟨ga, #[.int .i64 ((1 : Nat) : Int)], 3⟩) (y := ⟨w.heap.size + 1 + 1, kc C1, 36⟩) rfl rfl hch hc1 hc2
  simp only [List.set_cons_zero, List.set_cons_succ] at hB2
  have lC2 : (lay C1 1 (N8)).length = 64 := (lay_len _ _ _ (by rw [(l3).len, lC1]; omega)).trans lC1
  have eC2 : Hid (lay C1 1 (N8) = lay C1 1 (N8)) := rfl
  generalize hq_ : lay C1 1 (N8) = C2 at *
  replace eC2 : Hid (C2 = lay C1 1 (N8)) := hq_.symm
  clear hB hc1 hc2 hch hq_
  replace hB2 : Bl w [⟨w.heap.size, mrv m, 111⟩, ⟨w.heap.size + 1, kc ZB, 36⟩, ⟨w.heap.size + 1 + 1, kc C2, 36⟩, ⟨ga, #[.int .i64 ((9 : Nat) : Int)], 3⟩] u8 := hB2
  have hB := hB2
  clear hB2
  refine ⟨_, rfl, ?_⟩
  simp only [nrm]
  refine wpList_nil ?_
  clear l3 hl3
  replace hB := hide hB
  go_upto_region 6 with fail
  replace hB := unhide hB
  refine wp_region_lit ?_
  refine list_val (.func (.func 95) #[] #[.pointer (some ⟨ga, 0, none⟩), .pointer (some ⟨w.heap.size + 1 + 1, 0, none⟩)]) (by kernel_rfl) (by kernel_rfl) ?_
  simp only [nrm]
  refine list_val (.pointer (some ⟨w.heap.size, 1, none⟩)) (by kernel_rfl) (by kernel_rfl) ?_
  simp only [nrm]
  refine list_val (.int .u32 (m.k : Int)) (by kernel_rfl) (exec_w32 _ (.tmp 17) rfl (w.heap.size) 1 (by kernel_rfl) _ (mrv_cells (hB.get 0 (x := ⟨w.heap.size, mrv m, 111⟩) rfl)).2.1) ?_
  simp only [nrm]
  refine list_call 83 #[.slice none 0 0, .int .u32 (m.k : Int)] (by kernel_rfl) (by kernel_rfl) ((put32_ok (m.k : Int) ⟨by omega, by omega⟩ _).mono ?_)
  rintro r u9 ⟨h4, rfl, hg1, hg2, hg3⟩
  replace hB := hB.more hg3
  skip
  have l3 := kc_lb hg2 (lowL_len _ _) (lowL_isB _ _) (by omega)
  have hl3 := lowL_len (m.k : Int) 4
  clear hg1 hg2 hg3
  refine ⟨_, rfl, ?_⟩
  skip
  rw [hl3]
  obtain ⟨N4, eN4⟩ : ∃ x, x = lowL (m.k : Int) 4 := ⟨_, rfl⟩
  rw [← eN4] at l3
  replace eN4 := hide eN4
  simp only [nrm]
  refine list_call 95 #[.slice (some ⟨h4, 0, none⟩) 4 4, .pointer (some ⟨ga, 0, none⟩), .pointer (some ⟨w.heap.size + 1 + 1, 0, none⟩)] (by kernel_rfl) (by kernel_rfl) ((wput_ok ga (w.heap.size + 1 + 1) 9 C2 (N4) lC2 (some ⟨h4, 0, none⟩) 4 4 u9 (hB.get 3 (x := ⟨ga, #[.int .i64 ((9 : Nat) : Int)], 3⟩) rfl) (hB.get 2 (x := ⟨w.heap.size + 1 + 1, kc C2, 36⟩) rfl) (l3) (by omega) (by omega)).mono ?_)
  rintro r u10 ⟨rfl, hc1, hc2, hch⟩
  have hB2 := hB.chg2 3 2 (by decide) (x := ⟨ga, #[.int .i64 ((9 : Nat) : Int)], 3⟩) (y := ⟨w.heap.size + 1 + 1, kc C2, 36⟩) rfl rfl hch hc1 hc2
  simp only [List.set_cons_zero, List.set_cons_succ] at hB2
  have lC3 : (lay C2 9 (N4)).length = 64 := (lay_len _ _ _ (by rw [(l3).len, lC2]; omega)).trans lC2
  have eC3 : Hid (lay C2 9 (N4) = lay C2 9 (N4)) := rfl
  generalize hq_ : lay C2 9 (N4) = C3 at *
  replace eC3 : Hid (C3 = lay C2 9 (N4)) := hq_.symm
  clear hB hc1 hc2 hch hq_
  replace hB2 : Bl w [⟨w.heap.size, mrv m, 111⟩, ⟨w.heap.size + 1, kc ZB, 36⟩, ⟨w.heap.size + 1 + 1, kc C3, 36⟩, ⟨ga, #[.int .i64 ((13 : Nat) : Int)], 3⟩] u10 := hB2
  have hB := hB2
  clear hB2
  refine ⟨_, rfl, ?_⟩
  simp only [nrm]
  refine wpList_nil ?_
  clear l3 hl3
  replace hB := hide hB
  go_upto_region 7 with fail
  replace hB := unhide hB
  refine wp_region_lit ?_
  refine list_val (.func (.func 95) #[] #[.pointer (some ⟨ga, 0, none⟩), .pointer (some ⟨w.heap.size + 1 + 1, 0, none⟩)]) (by kernel_rfl) (by kernel_rfl) ?_
  simp only [nrm]
  refine list_val (.pointer (some ⟨w.heap.size, 2, none⟩)) (by kernel_rfl) (by kernel_rfl) ?_
  simp only [nrm]
  refine list_val (.int .u32 (m.n : Int)) (by kernel_rfl) (exec_w32 _ (.tmp 22) rfl (w.heap.size) 2 (by kernel_rfl) _ (mrv_cells (hB.get 0 (x := ⟨w.heap.size, mrv m, 111⟩) rfl)).2.2) ?_
  simp only [nrm]
  refine list_call 83 #[.slice none 0 0, .int .u32 (m.n : Int)] (by kernel_rfl) (by kernel_rfl) ((put32_ok (m.n : Int) ⟨by omega, by omega⟩ _).mono ?_)
  rintro r u11 ⟨h5, rfl, hg1, hg2, hg3⟩
  replace hB := hB.more hg3
  skip
  have l3 := kc_lb hg2 (lowL_len _ _) (lowL_isB _ _) (by omega)
  have hl3 := lowL_len (m.n : Int) 4
  clear hg1 hg2 hg3
  refine ⟨_, rfl, ?_⟩
  skip
  rw [hl3]
  obtain ⟨N5, eN5⟩ : ∃ x, x = lowL (m.n : Int) 4 := ⟨_, rfl⟩
  rw [← eN5] at l3
  replace eN5 := hide eN5
  simp only [nrm]
  refine list_call 95 #[.slice (some ⟨h5, 0, none⟩) 4 4, .pointer (some ⟨ga, 0, none⟩), .pointer (some ⟨w.heap.size + 1 + 1, 0, none⟩)] (by kernel_rfl) (by kernel_rfl) ((wput_ok ga (w.heap.size + 1 + 1) 13 C3 (N5) lC3 (some ⟨h5, 0, none⟩) 4 4 u11 (hB.get 3 (x := ⟨ga, #[.int .i64 ((13 : Nat) : Int)], 3⟩) rfl) (hB.get 2 (x := ⟨w.heap.size + 1 + 1, kc C3, 36⟩) rfl) (l3) (by omega) (by omega)).mono ?_)
  rintro r u12 ⟨rfl, hc1, hc2, hch⟩
  have hB2 := hB.chg2 3 2 (by decide) (x := ⟨ga, #[.int .i64 ((13 : Nat) : Int)], 3⟩) (y := ⟨w.heap.size + 1 + 1, kc C3, 36⟩) rfl rfl hch hc1 hc2
  simp only [List.set_cons_zero, List.set_cons_succ] at hB2
  have lC4 : (lay C3 13 (N5)).length = 64 := (lay_len _ _ _ (by rw [(l3).len, lC3]; omega)).trans lC3
  have eC4 : Hid (lay C3 13 (N5) = lay C3 13 (N5)) := rfl
  generalize hq_ : lay C3 13 (N5) = C4 at *
  replace eC4 : Hid (C4 = lay C3 13 (N5)) := hq_.symm
  clear hB hc1 hc2 hch hq_
  replace hB2 : Bl w [⟨w.heap.size, mrv m, 111⟩, ⟨w.heap.size + 1, kc ZB, 36⟩, ⟨w.heap.size + 1 + 1, kc C4, 36⟩, ⟨ga, #[.int .i64 ((17 : Nat) : Int)], 3⟩] u12 := hB2
  have hB := hB2
  clear hB2
  refine ⟨_, rfl, ?_⟩
  simp only [nrm]
  refine wpList_nil ?_
  clear l3 hl3
  replace hB := hide hB
  go_upto_region 8 with fail
  replace hB := unhide hB
  refine wp_region_lit ?_
  refine list_val (.func (.func 95) #[] #[.pointer (some ⟨ga, 0, none⟩), .pointer (some ⟨w.heap.size + 1 + 1, 0, none⟩)]) (by kernel_rfl) (by kernel_rfl) ?_
  simp only [nrm]
  refine list_val (.pointer (some ⟨w.heap.size, 3, none⟩)) (by kernel_rfl) (by kernel_rfl) ?_
  simp only [nrm]
  refine list_val (.slice (some ⟨w.heap.size, 3, none⟩) 16 16) (by kernel_rfl) (by kernel_rfl) ?_
  simp only [nrm]
  refine list_call 95 #[.slice (some ⟨w.heap.size, 3, none⟩) 16 16, .pointer (some ⟨ga, 0, none⟩), .pointer (some ⟨w.heap.size + 1 + 1, 0, none⟩)] (by kernel_rfl) (by kernel_rfl) ((wput_ok ga (w.heap.size + 1 + 1) 17 C4 (m.h) lC4 (some ⟨w.heap.size, 3, none⟩) 16 16 u12 (hB.get 3 (x := ⟨ga, #[.int .i64 ((17 : Nat) : Int)], 3⟩) rfl) (hB.get 2 (x := ⟨w.heap.size + 1 + 1, kc C4, 36⟩) rfl) (mrv_hash (hB.get 0 (x := ⟨w.heap.size, mrv m, 111⟩) rfl) hhl (unhide hm).hb) (by omega) (by omega)).mono ?_)
  rintro r u13 ⟨rfl, hc1, hc2, hch⟩
  have hB2 := hB.chg2 3 2 (by decide) (x := ⟨ga, #[.int .i64 ((17 : Nat) : Int)], 3⟩) (y := ⟨w.heap.size + 1 + 1, kc C4, 36⟩) rfl rfl hch hc1 hc2
  simp only [List.set_cons_zero, List.set_cons_succ] at hB2
  have lC5 : (lay C4 17 (m.h)).length = 64 := (lay_len _ _ _ (by rw [(mrv_hash (hB.get 0 (x := ⟨w.heap.size, mrv m, 111⟩) rfl) hhl (unhide hm).hb).len, lC4]; omega)).trans lC4
  have eC5 : Hid (lay C4 17 (m.h) = lay C4 17 (m.h)) := rfl
  generalize hq_ : lay C4 17 (m.h) = C5 at *
  replace eC5 : Hid (C5 = lay C4 17 (m.h)) := hq_.symm
  clear hB hc1 hc2 hch hq_
  replace hB2 : Bl w [⟨w.heap.size, mrv m, 111⟩, ⟨w.heap.size + 1, kc ZB, 36⟩, ⟨w.heap.size + 1 + 1, kc C5, 36⟩, ⟨ga, #[.int .i64 ((33 : Nat) : Int)], 3⟩] u13 := hB2
  have hB := hB2
  clear hB2
  refine ⟨_, rfl, ?_⟩
  simp only [nrm]
  refine wpList_nil ?_
  replace hB := hide hB
  go_upto_region 9 with fail
  replace hB := unhide hB
  refine wp_region_lit ?_
  have c4 := cell_of (hB.get 3 (x := ⟨ga, #[.int .i64 ((33 : Nat) : Int)], 3⟩) rfl) (i := 0) rfl
  have fz := froz_of (i := 0) (hB.get 3 (x := ⟨ga, #[.int .i64 ((33 : Nat) : Int)], 3⟩) rfl)
  have hB2 := hB.cell 3 (x := ⟨ga, #[.int .i64 ((33 : Nat) : Int)], 3⟩) rfl 0 (.int .i64 ((48 : Nat) : Int))
  simp only [List.set_cons_zero, List.set_cons_succ] at hB2
  replace hB2 : Bl w [⟨w.heap.size, mrv m, 111⟩, ⟨w.heap.size + 1, kc ZB, 36⟩, ⟨w.heap.size + 1 + 1, kc C5, 36⟩, ⟨ga, #[.int .i64 ((48 : Nat) : Int)], 3⟩] _ := hB2
  clear hB
  replace hB2 := hide hB2
  dsimp only at c4 fz
  (refine wpList_step fun K hK => ?_; replace hK := hide hK; go_simp; refine unhide hK _ _ ?_; clear hK K)
  clear c4 fz
  have hB := unhide hB2
  clear hB2
  generalize World.setCell _ _ _ = u14 at *
  refine wpList_nil ?_
  have eA : Hid (C5 = m.b48 ++ List.replicate 16 0) := by
    show C5 = _
    have z0 : C0 = [] ++ List.replicate 64 0 := unhide eC0
    have z1 : C1 = [1] ++ List.replicate 63 0 := by rw [unhide eC1, z0]; exact lay_zero [] [1] 64 (by decide)
    have z2 : C2 = ([1] ++ lowL (m.t : Int) 8) ++ List.replicate 55 0 := by
      have h := lay_zero [1] (lowL (m.t : Int) 8) 63 (by rw [lowL_len]; omega)
      rw [lowL_len] at h
      rw [unhide eC2, z1, unhide eN8]
      exact h
    have z3 : C3 = (([1] ++ lowL (m.t : Int) 8) ++ lowL (m.k : Int) 4) ++ List.replicate 51 0 := by
      have h := lay_zero ([1] ++ lowL (m.t : Int) 8) (lowL (m.k : Int) 4) 55 (by rw [lowL_len]; omega)
      rw [lowL_len, List.length_append, lowL_len] at h
      rw [unhide eC3, z2, unhide eN4]
      exact h
    have z4 : C4 = ((([1] ++ lowL (m.t : Int) 8) ++ lowL (m.k : Int) 4) ++ lowL (m.n : Int) 4) ++ List.replicate 47 0 := by
      have h := lay_zero (([1] ++ lowL (m.t : Int) 8) ++ lowL (m.k : Int) 4) (lowL (m.n : Int) 4) 51 (by rw [lowL_len]; omega)
      rw [lowL_len, List.length_append, lowL_len, List.length_append, lowL_len] at h
      rw [unhide eC4, z3, unhide eN5]
      exact h
    have h := lay_zero ((([1] ++ lowL (m.t : Int) 8) ++ lowL (m.k : Int) 4) ++ lowL (m.n : Int) 4) m.h 47 (by rw [hhl]; omega)
    rw [hhl, List.length_append, lowL_len, List.length_append, lowL_len, List.length_append, lowL_len] at h
    rw [unhide eC5, z4, ← mr48_of m hhl]
    exact h
  have hb48 : Hid (C5.take 48 = m.b48) := by show C5.take 48 = m.b48; rw [unhide eA]; exact take_app _ _ 48 (Mr.b48_len hhl)
  have hok := Mr.blk_bb (unhide hm)
  have hi48 : IsB m.b48 := fun x hx => hok.2 x (by unfold Mr.blk; exact List.mem_append_left _ hx)
  have hl48 := Mr.b48_len hhl
  have hbl : Hid (m.blk = m.b48 ++ sh16 m.b48) := rfl
  have hB4 : Hid (lay C5 48 (sh16 m.b48) = m.blk) := by
    show lay C5 48 (sh16 m.b48) = m.blk
    rw [unhide hbl]
    have h := lay_zero m.b48 (sh16 m.b48) 16 (by rw [sh16_len]; omega)
    rw [hl48, sh16_len] at h
    rw [unhide eA, h]
    exact List.append_nil _
  clear eC1 eC2 eC3 eC4 eC5 eC0 eA hok hbl
  generalize m.b48 = S48 at *
  replace hB := hide hB
  go_upto_region 10 with fail
  replace hB := unhide hB
  refine wp_region_lit ?_
  refine list_val (.int .i64 ((48 : Nat) : Int)) (by kernel_rfl) (exec_i64 _ (.tmp 4) rfl ga 0 (by kernel_rfl) _ (cell_of (hB.get 3 (x := ⟨ga, #[.int .i64 ((48 : Nat) : Int)], 3⟩) rfl) (i := 0) rfl)) ?_
  simp only [nrm]
  refine list_val (.slice (some ⟨w.heap.size + 1 + 1, 0, none⟩) 48 64) (by kernel_rfl) (by kernel_rfl) ?_
  simp only [nrm]
  have hlb : Lb u14 (some ⟨w.heap.size + 1 + 1, 0, none⟩) 48 64 S48 := by
    refine ⟨hl48, hi48, .inr ⟨_, 0, rfl, ?_⟩, by omega, by omega⟩
    have h2 := (kc_at (hB.get 2 (x := ⟨w.heap.size + 1 + 1, kc C5, 36⟩) rfl)).take 48
    rw [unhide hb48] at h2
    exact h2
  refine list_call 62 #[.slice (some ⟨w.heap.size + 1 + 1, 0, none⟩) 48 64] (by kernel_rfl) (by kernel_rfl) ((wdigest_ok S48 (some ⟨w.heap.size + 1 + 1, 0, none⟩) 48 64 u14 hlb (by omega) ((unhide hf).gr hB.gr)).mono ?_)
  rintro r u15 ⟨rfl, hg⟩
  replace hB := hB.more hg
  have hHl := sh16_len S48
  have hHb := sh16_isB S48 (sumL_isB S48)
  clear hg hlb
  generalize sh16 S48 = H at *
  refine ⟨_, rfl, ?_⟩
  simp only [nrm]
  refine list_valw (.pointer (some ⟨u15.heap.size, 0, none⟩)) (u15.alloc (.cells (kc Z16) 109 (0, 0))) (by kernel_rfl) (by kernel_rfl) ?_
  replace hB := hB.new (kc Z16) 109
  simp only [List.nil_append, List.cons_append] at hB
  generalize World.alloc _ _ = u16 at *
  generalize u15.heap.size = gm at *
  replace hB : Bl w [⟨w.heap.size, mrv m, 111⟩, ⟨w.heap.size + 1, kc ZB, 36⟩, ⟨w.heap.size + 1 + 1, kc C5, 36⟩, ⟨ga, #[.int .i64 ((48 : Nat) : Int)], 3⟩, ⟨gm, kc Z16, 109⟩] u16 := hB
  simp only [nrm]
  refine list_store 109 (.tmp 6) (.tmp 32) (gm) (kc H) 109 (kc Z16) (by kernel_rfl) rfl (by kernel_rfl) (by kernel_rfl) (hB.get 4 (x := ⟨gm, kc Z16, 109⟩) rfl) (by rw [Tryz.infoBg, kc_size, hHl]) (by rw [kc_size, kc_size, hHl]; rfl) (kc_one _) ?_
  replace hB := hB.set 4 (x := ⟨gm, kc Z16, 109⟩) rfl (kc H)
  simp only [List.set_cons_zero, List.set_cons_succ] at hB
  generalize World.setRow _ _ _ = u17 at *
  replace hB : Bl w [⟨w.heap.size, mrv m, 111⟩, ⟨w.heap.size + 1, kc ZB, 36⟩, ⟨w.heap.size + 1 + 1, kc C5, 36⟩, ⟨ga, #[.int .i64 ((48 : Nat) : Int)], 3⟩, ⟨gm, kc H, 109⟩] u17 := hB
  simp only [nrm]
  refine wpList_nil ?_
  replace hB := hide hB
  go_upto_region 11 with fail
  replace hB := unhide hB
  refine wp_region_lit ?_
  refine list_val (.func (.func 95) #[] #[.pointer (some ⟨ga, 0, none⟩), .pointer (some ⟨w.heap.size + 1 + 1, 0, none⟩)]) (by kernel_rfl) (by kernel_rfl) ?_
  simp only [nrm]
  refine list_val (.slice (some ⟨gm, 0, none⟩) 16 16) (by kernel_rfl) (by kernel_rfl) ?_
  simp only [nrm]
  refine list_call 95 #[.slice (some ⟨gm, 0, none⟩) 16 16, .pointer (some ⟨ga, 0, none⟩), .pointer (some ⟨w.heap.size + 1 + 1, 0, none⟩)] (by kernel_rfl) (by kernel_rfl) ((wput_ok ga (w.heap.size + 1 + 1) 48 C5 (H) lC5 (some ⟨gm, 0, none⟩) 16 16 u17 (hB.get 3 (x := ⟨ga, #[.int .i64 ((48 : Nat) : Int)], 3⟩) rfl) (hB.get 2 (x := ⟨w.heap.size + 1 + 1, kc C5, 36⟩) rfl) ((nw_lb0 (hB.get 4 (x := ⟨gm, kc H, 109⟩) rfl) hHb hHl (by omega))) (by omega) (by omega)).mono ?_)
  rintro r u18 ⟨rfl, hc1, hc2, hch⟩
  have hB2 := hB.chg2 3 2 (by decide) (x := ⟨ga, #[.int .i64 ((48 : Nat) : Int)], 3⟩) (y := ⟨w.heap.size + 1 + 1, kc C5, 36⟩) rfl rfl hch hc1 hc2
  simp only [List.set_cons_zero, List.set_cons_succ] at hB2
  have lC6 : (lay C5 48 (H)).length = 64 := (lay_len _ _ _ (by rw [((nw_lb0 (hB.get 4 (x := ⟨gm, kc H, 109⟩) rfl) hHb hHl (by omega))).len, lC5]; omega)).trans lC5
  have eC6 : Hid (lay C5 48 (H) = lay C5 48 (H)) := rfl
  generalize hq_ : lay C5 48 (H) = C6 at *
  replace eC6 : Hid (C6 = lay C5 48 (H)) := hq_.symm
  clear hB hc1 hc2 hch hq_
  replace hB2 : Bl w [⟨w.heap.size, mrv m, 111⟩, ⟨w.heap.size + 1, kc ZB, 36⟩, ⟨w.heap.size + 1 + 1, kc C6, 36⟩, ⟨ga, #[.int .i64 ((64 : Nat) : Int)], 3⟩, ⟨gm, kc H, 109⟩] u18 := hB2
  have hB := hB2
  clear hB2
  refine ⟨_, rfl, ?_⟩
  simp only [nrm]
  refine wpList_nil ?_
  replace hB := hide hB
  go_upto_region 12 with fail
  replace hB := unhide hB
  refine wp_region_lit ?_
  refine list_val (.agg (kc C6)) (by kernel_rfl) (exec_arr _ 36 (.tmp 3) rfl (w.heap.size + 1 + 1) (by kernel_rfl) (kc C6) 36 _ (hB.get 2 (x := ⟨w.heap.size + 1 + 1, kc C6, 36⟩) rfl) Tryz.underlying36 rfl (by rw [Tryz.infoB, kc_size, lC6])) ?_
  simp only [nrm]
  refine list_store 36 (.tmp 2) (.tmp 36) (w.heap.size + 1) (kc C6) 36 (kc ZB) (by kernel_rfl) rfl (by kernel_rfl) (by kernel_rfl) (hB.get 1 (x := ⟨w.heap.size + 1, kc ZB, 36⟩) rfl) (by rw [Tryz.infoB, kc_size, lC6]) ((show (kc ZB).size = 64 from rfl).trans ((kc_size _).trans lC6).symm) (kc_one _) ?_
  replace hB := hB.set 1 (x := ⟨w.heap.size + 1, kc ZB, 36⟩) rfl (kc C6)
  simp only [List.set_cons_zero, List.set_cons_succ] at hB
  generalize World.setRow _ _ _ = u19 at *
  replace hB : Bl w [⟨w.heap.size, mrv m, 111⟩, ⟨w.heap.size + 1, kc C6, 36⟩, ⟨w.heap.size + 1 + 1, kc C6, 36⟩, ⟨ga, #[.int .i64 ((64 : Nat) : Int)], 3⟩, ⟨gm, kc H, 109⟩] u19 := hB
  simp only [nrm]
  refine wpList_nil ?_
  have e9 : C6 = m.blk := unhide hB4
  replace e9 := hide e9
  clear eC6 hB4 hb48
  replace hB := hide hB
  go_wp2_with fail
  replace hB := unhide hB
  rw [unhide hT, ← unhide e9]
  exact bodyPost_ret (v := .agg (kc C6)) (results_cell_row Tryz.results78 _ _ (w.heap.size + 1) 36 (kc C6) (0, 0) _ rfl (hB.get 1 (x := ⟨w.heap.size + 1, kc C6, 36⟩) rfl) Tryz.underlying36 rfl (by rw [Tryz.infoB, kc_size, lC6])) rfl (⟨rfl, hB.gr⟩)
end Go.Proofs.YtaoiejgjdmakjaaGreatDoor
