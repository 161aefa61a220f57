/-
  Layer 14: the reference's bytes of an announcement.
-/
import Derived.Test.YtiejdpodffkdpaaGB
import Derived.Great.BuildSlice
namespace Go.Proofs.Ytiejdpodffkdpaa
open Go.RowKit
set_option maxRecDepth 100000
set_option linter.unusedSimpArgs false
set_option linter.unusedVariables false
theorem y1_f {a : Act} {o : Oper} (w : World) (g : Nat) (x : Operand) (k : Nat) (hk : k < 2) (ho : o.op = .fieldAddr 25 x k) (hx : a.eval x = .pointer (some ⟨g, 0, none⟩)) : (execOp a.eval o).run Try.prog w = .ok (.value (.pointer (some ⟨g, k, none⟩))) w := by
  unfold execOp
  simp only [ho, hx]
  rcases k with _ | _ | k
  · kernel_rfl
  · kernel_rfl
  · omega
theorem y1_b {a : Act} {o : Oper} (w : World) (x : Operand) (ho : o.op = .buildSlice 26 1 #[(0, x)]) (b : Int) (hx : a.eval x = .int .u8 b) : (execOp a.eval o).run Try.prog w = .ok (.value (.slice (some ⟨w.heap.size, 0, none⟩) 1 1)) (w.alloc (.cells (kc [b]) 5 (0, 0))) := by
  unfold execOp
  simp only [ho, List.map_toArray, List.map_cons, List.map_nil, hx]
  kernel_rfl
theorem y1_s {a : Act} {o : Oper} (w : World) (x y : Operand) (ho : o.op = .buildSlice 66 2 #[(0, x), (1, y)]) (u v : Option Addr) (m d m2 d2 : Nat) (hx : a.eval x = .slice u m d) (hy : a.eval y = .slice v m2 d2) : (execOp a.eval o).run Try.prog w = .ok (.value (.slice (some ⟨w.heap.size, 0, none⟩) 2 2)) (w.alloc (.cells #[.slice u m d, .slice v m2 d2] 26 (0, 0))) := by
  unfold execOp
  simp only [ho, List.map_toArray, List.map_cons, List.map_nil, hx, hy]
  kernel_rfl
theorem y1_l {a : Act} {o : Oper} (w : World) (x : Operand) (ho : o.op = .call { callee := .builtin .len, args := #[x], argTypes := #[23] }) (u : Option Addr) (m d : Nat) (hx : a.eval x = .slice u m d) : (execOp a.eval o).run Try.prog w = .ok (.value (.int .i64 (m : Int))) w := by
  simp only [execOp, ho, resolve, List.map_toArray, List.map_cons, List.map_nil, hx]
  kernel_rfl
theorem y1_c {a : Act} {o : Oper} (w : World) (x : Operand) (ho : o.op = .convert 3 5 x) (m : Nat) (hm : m ≤ 3) (hx : a.eval x = .int .i64 (m : Int)) : (execOp a.eval o).run Try.prog w = .ok (.value (.int .u8 (m : Int))) w := by
  have h : IntKind.u8.wrap (m : Int) = (m : Int) := by rw [IntKind.wrap_u8]; omega
  unfold execOp
  simp only [ho, hx]
  go_simp
theorem y1_w {a : Act} {o : Oper} (w : World) (x : Operand) (ho : o.op = .call { callee := .value (.func 20), args := #[x, .const (.int .i64 8)], argTypes := #[22, 3] }) (b : Int) (hx : a.eval x = .int .u64 b) : (execOp a.eval o).run Try.prog w = .ok (.enter 20 #[.int .u64 b, .int .i64 8]) w := by
  unfold execOp
  simp only [ho]
  unfold resolve
  simp only [List.map_toArray, List.map_cons, List.map_nil, hx]
  kernel_rfl
theorem y1_o {a : Act} {o : Oper} (w : World) (x y : Operand) (ho : o.op = .call { callee := .value (.func 19), args := #[x, y], argTypes := #[26, 66] }) (u v : Value) (hx : a.eval x = u) (hy : a.eval y = v) : (execOp a.eval o).run Try.prog w = .ok (.enter 19 #[u, v]) w := by
  unfold execOp
  simp only [ho]
  unfold resolve
  simp only [List.map_toArray, List.map_cons, List.map_nil, hx, hy]
  kernel_rfl
theorem y1_a {a : Act} {o : Oper} (w : World) (x : Operand) (ho : o.op = .assign x) (u : Value) (hx : a.eval x = u) : (execOp a.eval o).run Try.prog w = .ok (.value u) w := by
  unfold execOp
  simp only [ho, hx]
  kernel_rfl
theorem lq_two {w : World} {p : Nat} {a b : Option Addr} {n c m d : Nat} {P Q : List Int} (h : w.heap[p]? = some (.cells #[.slice a n c, .slice b m d] 26 (0, 0))) (hp : Lb w a n c P) (hq : Lb w b m d Q) (hn : n ≤ 1000) (hm : m ≤ 1000) : Lq w (some ⟨p, 0, none⟩) 2 2 [P, Q] := by
  refine ⟨rfl, .inr ⟨p, 0, rfl, fun i hi => ?_⟩, Nat.le_refl _, by omega⟩
  have hi2 : i = 0 ∨ i = 1 := by omega
  rcases hi2 with rfl | rfl
  · exact ⟨a, n, c, cell_of h rfl, hp, by omega⟩
  · exact ⟨b, m, d, cell_of h rfl, hq, by omega⟩
theorem isB_one {b : Int} (h : 0 ≤ b ∧ b < 256) : IsB [b] := fun x hx => by rw [List.mem_singleton.1 hx]; exact h
theorem Ob.low {b b2 : Nat} {w : World} {v : Value} {L : List Int} (h : Ob b2 w v L) (hb : b ≤ b2) : Ob b w v L := by
  refine ⟨h.1, ?_⟩
  rcases h.2 with h1 | ⟨g, cap, cur, h1, h2, h3⟩
  · exact .inl h1
  · exact .inr ⟨g, cap, cur, h1, Nat.le_trans hb h2, h3⟩
theorem ob_lbq {b : Nat} {w : World} {v : Value} {L : List Int} (h : Ob b w v L) (hL : IsB L) (n : Nat) (hn : L.length = n) : ∃ a c, v = .slice a n c ∧ Lb w a n c L := by
  obtain ⟨a, c, h1, h2, h3, h4⟩ := h.slice
  subst hn
  exact ⟨a, c, h1, rfl, hL, h4, h2, by unfold maxLen at h3; omega⟩
def lenV : Value → Nat
  | .slice _ n _ => n
  | _ => 0
set_option maxHeartbeats 8000000 in
theorem qann_ok (r : Int) (hr : 0 ≤ r) (p q n c : Nat) (hn : n ≤ 3) (ks : List (List Int)) (hks : KsOk ks) (w : World) (lk : Ls 32 w (some ⟨p, q, none⟩) n c (ks.map bv)) : Calls Try.prog 10 #[.agg (#[.int .u64 r, .slice (some ⟨p, q, none⟩) n c] : Array Value)] w (Infd (anB r ks) w) := by
  obtain ⟨T, hT⟩ : ∃ T, T = Infd (anB r ks) w := ⟨_, rfl⟩
  rw [← hT]
  replace hT := hide hT
  have hkn : ks.length = n := by have := lk.len; rwa [List.length_map] at this
  obtain ⟨SA, hSA⟩ : ∃ S, S = (#[.int .u64 r, .slice (some ⟨p, q, none⟩) n c] : Array Value) := ⟨_, rfl⟩
  rw [← hSA]
  replace hSA := hide hSA
  replace lk := hide lk
  replace hks := hide hks
  replace hkn := hide hkn
  go_enter Try.func10, Try.ntmps10
  go_upto_region 1 with fail
  have hB := (Bl.nil w).new SA 25
  simp only [List.nil_append] at hB
  generalize World.alloc _ _ = u at *
  rw [unhide hSA] at hB
  have hvb := hide (hB.get 0 (x := ⟨w.heap.size, (#[.int .u64 r, .slice (some ⟨p, q, none⟩) n c] : Array Value), 25⟩) rfl)
  have hGu := hide hB.gr
  dsimp only at hvb
  clear hB
  generalize hA0 : Act.mk _ _ = A0
  have ev1 : A0.eval (.tmp 1) = .pointer (some ⟨w.heap.size, 0, none⟩) := by rw [← hA0]; rfl
  have hs0 : A0.tmps.size = 35 := by rw [← hA0]; rfl
  obtain ⟨W0, hW0⟩ : ∃ W0, W0 = w := ⟨_, rfl⟩
  rw [← hW0] at ev1 hvb hGu
  have hGx := unhide hGu
  refine flow (J := fun l f w => Gr u w ∧ (l 0 = true → (∃ p, f 0 = .slice (some ⟨p, 0, none⟩) 1 1 ∧ w.heap[p]? = some (.cells (kc [1]) 5 (0, 0)))) ∧ (l 1 = true → f 1 = .pointer (some ⟨W0.heap.size, 0, none⟩)) ∧ (l 2 = true → f 2 = .int .u64 r) ∧ (l 3 = true → (∃ a c, f 3 = .slice a 8 c ∧ Lb w a 8 c (lowL r 8))) ∧ (l 4 = true → f 4 = .pointer (some ⟨W0.heap.size, 1, none⟩)) ∧ (l 5 = true → f 5 = .slice (some ⟨p, q, none⟩) n c) ∧ (l 6 = true → f 6 = .int .i64 (n : Int)) ∧ (l 7 = true → f 7 = .int .u8 (n : Int)) ∧ (l 8 = true → (∃ p, f 8 = .slice (some ⟨p, 0, none⟩) 1 1 ∧ w.heap[p]? = some (.cells (kc [(n : Int)]) 5 (0, 0)))) ∧ (l 9 = true → (∃ p, f 9 = .slice (some ⟨p, 0, none⟩) 2 2 ∧ Lq w (some ⟨p, 0, none⟩) 2 2 [lowL r 8, [(n : Int)]])) ∧ (l 10 = true → Ob W0.heap.size w (f 10) (anH r n)) ∧ (l 11 = true → f 11 = f 10)) (by kernel_rfl) (by kernel_rfl) (by kernel_rfl) ?_ ?_ ?_
  · exact ⟨(Gr.refl u).drew, (fun e => by cases e), (fun e => by cases e), (fun e => by cases e), (fun e => by cases e), (fun e => by cases e), (fun e => by cases e), (fun e => by cases e), (fun e => by cases e), (fun e => by cases e), (fun e => by cases e), (fun e => by cases e), (fun e => by cases e)⟩
  · intro i o l f w_ ho hl hp hcl hJ K hK
    obtain ⟨hG, t0, t1, t2, t3, t4, t5, t6, t7, t8, t9, t10, t11⟩ := hJ
    match i, ho with
    | 0, ho =>
      obtain rfl := Option.some.inj ho
      have hg := (Gr.refl w_).alloc (.cells (kc [1]) 5 (0, 0))
      have hG2 := hG.trans hg
      have hb9 : (w_.alloc (.cells (kc [1]) 5 (0, 0))).heap[w_.heap.size]? = some (.cells (kc [1]) 5 (0, 0)) := blk_new _ _
      exact op_val (.slice (some ⟨w_.heap.size, 0, none⟩) 1 1) rfl rfl (y1_b _ (.const (.int .u8 1)) rfl 1 rfl) (hK _ _ ⟨hG2, (fun _ => ⟨_, rfl, hb9⟩), t1, t2, (fun e => by obtain ⟨a, c, h1, h2⟩ := t3 e; exact ⟨a, c, h1, h2.gr hg⟩), t4, t5, t6, t7, (fun e => (t8 e).elim fun p h => ⟨p, h.1, hg.blk h.2⟩), (fun e => (t9 e).elim fun p h => ⟨p, h.1, h.2.gr hg⟩), (fun e => (t10 e).gr hg), t11⟩)
    | 1, ho =>
      obtain rfl := Option.some.inj ho
      exact op_val (.pointer (some ⟨W0.heap.size, 0, none⟩)) rfl rfl (y1_f _ W0.heap.size (.tmp 1) 0 (by decide) rfl ((ev_off 1 (by kernel_rfl)).trans ev1)) (hK _ _ ⟨hG, t0, (fun _ => rfl), t2, t3, t4, t5, t6, t7, t8, t9, t10, t11⟩)
    | 2, ho =>
      obtain rfl := Option.some.inj ho
      have p1 := pre_at hp 1 (by kernel_rfl)
      exact op_val (.int .u64 r) rfl rfl (exec_u64 _ (.tmp 7) rfl W0.heap.size 0 ((ev_at 1 7 _ (by kernel_rfl) rfl rfl p1 (by rw [hs0]; decide)).trans (t1 p1)) r (cell_of (hG.blk (unhide hvb)) (i := 0) rfl)) (hK _ _ ⟨hG, t0, t1, (fun _ => rfl), t3, t4, t5, t6, t7, t8, t9, t10, t11⟩)
    | 3, ho =>
      obtain rfl := Option.some.inj ho
      have p2 := pre_at hp 2 (by kernel_rfl)
      refine op_call 20 #[.int .u64 r, .int .i64 8] rfl rfl (y1_w _ (.tmp 8) rfl r ((ev_at 2 8 _ (by kernel_rfl) rfl rfl p2 (by rw [hs0]; decide)).trans (t2 p2))) ((qlow_ok r hr 8 (by omega) w_).mono ?_)
      rintro r_ w9 ⟨v9, rfl, ho9, hg⟩
      obtain ⟨a9, c9, e9, l9⟩ := ob_lbq ho9 (lowL_isB r 8) 8 (lowL_len r 8)
      have hG2 := hG.trans hg
      exact ⟨_, rfl, hK _ _ ⟨hG2, (fun e => (t0 e).elim fun p h => ⟨p, h.1, hg.blk h.2⟩), t1, t2, (fun _ => ⟨a9, c9, e9, l9⟩), t4, t5, t6, t7, (fun e => (t8 e).elim fun p h => ⟨p, h.1, hg.blk h.2⟩), (fun e => (t9 e).elim fun p h => ⟨p, h.1, h.2.gr hg⟩), (fun e => (t10 e).gr hg), t11⟩⟩
    | 4, ho =>
      obtain rfl := Option.some.inj ho
      exact op_val (.pointer (some ⟨W0.heap.size, 1, none⟩)) rfl rfl (y1_f _ W0.heap.size (.tmp 1) 1 (by decide) rfl ((ev_off 1 (by kernel_rfl)).trans ev1)) (hK _ _ ⟨hG, t0, t1, t2, t3, (fun _ => rfl), t5, t6, t7, t8, t9, t10, t11⟩)
    | 5, ho =>
      obtain rfl := Option.some.inj ho
      have p4 := pre_at hp 4 (by kernel_rfl)
      exact op_val (.slice (some ⟨p, q, none⟩) n c) rfl rfl (exec_sks _ (.tmp 10) rfl W0.heap.size 1 ((ev_at 4 10 _ (by kernel_rfl) rfl rfl p4 (by rw [hs0]; decide)).trans (t4 p4)) (some ⟨p, q, none⟩) n c (cell_of (hG.blk (unhide hvb)) (i := 1) rfl)) (hK _ _ ⟨hG, t0, t1, t2, t3, t4, (fun _ => rfl), t6, t7, t8, t9, t10, t11⟩)
    | 6, ho =>
      obtain rfl := Option.some.inj ho
      have p5 := pre_at hp 5 (by kernel_rfl)
      exact op_val (.int .i64 (n : Int)) rfl rfl (y1_l _ (.tmp 11) rfl (some ⟨p, q, none⟩) n c ((ev_at 5 11 _ (by kernel_rfl) rfl rfl p5 (by rw [hs0]; decide)).trans (t5 p5))) (hK _ _ ⟨hG, t0, t1, t2, t3, t4, t5, (fun _ => rfl), t7, t8, t9, t10, t11⟩)
    | 7, ho =>
      obtain rfl := Option.some.inj ho
      have p6 := pre_at hp 6 (by kernel_rfl)
      exact op_val (.int .u8 (n : Int)) rfl rfl (y1_c _ (.tmp 12) rfl n hn ((ev_at 6 12 _ (by kernel_rfl) rfl rfl p6 (by rw [hs0]; decide)).trans (t6 p6))) (hK _ _ ⟨hG, t0, t1, t2, t3, t4, t5, t6, (fun _ => rfl), t8, t9, t10, t11⟩)
    | 8, ho =>
      obtain rfl := Option.some.inj ho
      have p7 := pre_at hp 7 (by kernel_rfl)
      have hg := (Gr.refl w_).alloc (.cells (kc [(n : Int)]) 5 (0, 0))
      have hG2 := hG.trans hg
      have hb9 : (w_.alloc (.cells (kc [(n : Int)]) 5 (0, 0))).heap[w_.heap.size]? = some (.cells (kc [(n : Int)]) 5 (0, 0)) := blk_new _ _
      exact op_val (.slice (some ⟨w_.heap.size, 0, none⟩) 1 1) rfl rfl (y1_b _ (.tmp 13) rfl (n : Int) ((ev_at 7 13 _ (by kernel_rfl) rfl rfl p7 (by rw [hs0]; decide)).trans (t7 p7))) (hK _ _ ⟨hG2, (fun e => (t0 e).elim fun p h => ⟨p, h.1, hg.blk h.2⟩), t1, t2, (fun e => by obtain ⟨a, c, h1, h2⟩ := t3 e; exact ⟨a, c, h1, h2.gr hg⟩), t4, t5, t6, t7, (fun _ => ⟨_, rfl, hb9⟩), (fun e => (t9 e).elim fun p h => ⟨p, h.1, h.2.gr hg⟩), (fun e => (t10 e).gr hg), t11⟩)
    | 9, ho =>
      obtain rfl := Option.some.inj ho
      have p3 := pre_at hp 3 (by kernel_rfl)
      have p8 := pre_at hp 8 (by kernel_rfl)
      obtain ⟨a9, c9, e9, l9⟩ := t3 p3
      have q8 := p8
      obtain ⟨p8, e8, hb8⟩ := t8 p8
      have hg := (Gr.refl w_).alloc (.cells #[.slice a9 8 c9, .slice (some ⟨p8, 0, none⟩) 1 1] 26 (0, 0))
      have hG2 := hG.trans hg
      have hlq := lq_two (blk_new w_ (.cells #[.slice a9 8 c9, .slice (some ⟨p8, 0, none⟩) 1 1] 26 (0, 0))) (l9.gr hg) ((kc_lb (n := 1) hb8 rfl (isB_one (by omega)) (by omega)).gr hg) (by omega) (by omega)
      exact op_val (.slice (some ⟨w_.heap.size, 0, none⟩) 2 2) rfl rfl (y1_s _ (.tmp 9) (.tmp 14) rfl a9 (some ⟨p8, 0, none⟩) 8 c9 1 1 ((ev_at 3 9 _ (by kernel_rfl) rfl rfl p3 (by rw [hs0]; decide)).trans e9) ((ev_at 8 14 _ (by kernel_rfl) rfl rfl q8 (by rw [hs0]; decide)).trans e8)) (hK _ _ ⟨hG2, (fun e => (t0 e).elim fun p h => ⟨p, h.1, hg.blk h.2⟩), t1, t2, (fun e => by obtain ⟨a, c, h1, h2⟩ := t3 e; exact ⟨a, c, h1, h2.gr hg⟩), t4, t5, t6, t7, (fun e => (t8 e).elim fun p h => ⟨p, h.1, hg.blk h.2⟩), (fun _ => ⟨_, rfl, hlq⟩), (fun e => (t10 e).gr hg), t11⟩)
    | 10, ho =>
      obtain rfl := Option.some.inj ho
      have p0 := pre_at hp 0 (by kernel_rfl)
      have p3 := pre_at hp 3 (by kernel_rfl)
      have p9 := pre_at hp 9 (by kernel_rfl)
      obtain ⟨pa, e0, hb0⟩ := t0 p0
      obtain ⟨pb, e9, hl9⟩ := t9 p9
      refine op_call 19 #[.slice (some ⟨pa, 0, none⟩) 1 1, .slice (some ⟨pb, 0, none⟩) 2 2] rfl rfl (y1_o _ (.tmp 6) (.tmp 15) rfl _ _ ((ev_at 0 6 _ (by kernel_rfl) rfl rfl p0 (by rw [hs0]; decide)).trans e0) ((ev_at 9 15 _ (by kernel_rfl) rfl rfl p9 (by rw [hs0]; decide)).trans e9)) ((qboth_ok [1] (some ⟨pa, 0, none⟩) 1 1 [lowL r 8, [(n : Int)]] (some ⟨pb, 0, none⟩) 2 2 w_ (kc_lb (n := 1) hb0 rfl (isB_one (by omega)) (by omega)) hl9 (by simp [lowL_len])).mono ?_)
      rintro r_ w9 ⟨v9, rfl, ho9, hg⟩
      have hG2 := hG.trans hg
      have ho8 : Ob W0.heap.size w9 v9 (anH r n) := by
        have e : [1] ++ [lowL r 8, [(n : Int)]].flatten = anH r n := by unfold anH; simp
        rw [e] at ho9
        exact ho9.low (Nat.le_trans hGx.size hG.size)
      exact ⟨_, rfl, hK _ _ ⟨hG2, (fun e => (t0 e).elim fun p h => ⟨p, h.1, hg.blk h.2⟩), t1, t2, (fun e => by obtain ⟨a, c, h1, h2⟩ := t3 e; exact ⟨a, c, h1, h2.gr hg⟩), t4, t5, t6, t7, (fun e => (t8 e).elim fun p h => ⟨p, h.1, hg.blk h.2⟩), (fun e => (t9 e).elim fun p h => ⟨p, h.1, h.2.gr hg⟩), (fun _ => ho8), (fun e => absurd (pre_at (hcl 11 _ rfl e) 10 (by kernel_rfl)) (by rw [hl]; decide))⟩⟩
    | 11, ho =>
      obtain rfl := Option.some.inj ho
      have p0 := pre_at hp 0 (by kernel_rfl)
      have p1 := pre_at hp 1 (by kernel_rfl)
      have p2 := pre_at hp 2 (by kernel_rfl)
      have p3 := pre_at hp 3 (by kernel_rfl)
      have p4 := pre_at hp 4 (by kernel_rfl)
      have p5 := pre_at hp 5 (by kernel_rfl)
      have p6 := pre_at hp 6 (by kernel_rfl)
      have p7 := pre_at hp 7 (by kernel_rfl)
      have p8 := pre_at hp 8 (by kernel_rfl)
      have p9 := pre_at hp 9 (by kernel_rfl)
      have p10 := pre_at hp 10 (by kernel_rfl)
      exact op_val (f 10) rfl rfl (y1_a _ (.tmp 16) rfl _ (ev_at 10 16 _ (by kernel_rfl) rfl rfl p10 (by rw [hs0]; decide))) (hK _ _ ⟨hG, t0, t1, t2, t3, t4, t5, t6, t7, t8, t9, t10, (fun _ => rfl)⟩)
    | n + 12, ho => cases ho
  · intro l_ f_ v5 hall hJ
    obtain ⟨hG, t0, t1, t2, t3, t4, t5, t6, t7, t8, t9, t10, t11⟩ := hJ
    have o10 := t10 (hall 10 (by decide))
    have e11 := t11 (hall 11 (by decide))
    subst hA0
    simp only [putF, if_true]
    simp only [Act.put, List.setIfInBounds_toArray, List.set_cons_zero, List.set_cons_succ, List.getElem_toArray, List.getElem_cons_zero, List.getElem_cons_succ]
    rw [e11]
    have hvb5 := hide (hG.blk (unhide hvb))
    have hG5 := hide (hGx.trans hG)
    rw [hW0] at o10 hvb5 hG5
    replace o10 := hide o10
    clear t0 t1 t2 t3 t4 t5 t6 t7 t8 t9 t10 t11 e11 hall ev1 hs0 hGx hGu hvb hW0 hG
    generalize f_ 0 = y0; generalize f_ 1 = y1; generalize f_ 2 = y2; generalize f_ 3 = y3; generalize f_ 4 = y4; generalize f_ 5 = y5; generalize f_ 6 = y6; generalize f_ 7 = y7; generalize f_ 8 = y8; generalize f_ 9 = y9; generalize f_ 10 = y10 at *
    go_upto_region 2 with fail
    refine wp_region_lit ?_
    refine list_val (.pointer (some ⟨w.heap.size, 1, none⟩)) (by kernel_rfl) (by kernel_rfl) ?_
    simp only [Act.put, List.setIfInBounds_toArray, List.set_cons_zero, List.set_cons_succ, List.getElem_toArray, List.getElem_cons_zero, List.getElem_cons_succ]
    refine list_val (.slice (some ⟨p, q, none⟩) n c) (by kernel_rfl) (exec_sks _ (.tmp 17) rfl (w.heap.size) 1 (by kernel_rfl) (some ⟨p, q, none⟩) n c (cell_of (unhide hvb5) (i := 1) rfl)) ?_
    simp only [Act.put, List.setIfInBounds_toArray, List.set_cons_zero, List.set_cons_succ, List.getElem_toArray, List.getElem_cons_zero, List.getElem_cons_succ]
    refine list_val (.int .i64 (n : Int)) (by kernel_rfl) (by kernel_rfl) ?_
    simp only [Act.put, List.setIfInBounds_toArray, List.set_cons_zero, List.set_cons_succ, List.getElem_toArray, List.getElem_cons_zero, List.getElem_cons_succ]
    refine list_val (.int .i64 0) (by kernel_rfl) (by kernel_rfl) ?_
    simp only [Act.put, List.setIfInBounds_toArray, List.set_cons_zero, List.set_cons_succ, List.getElem_toArray, List.getElem_cons_zero, List.getElem_cons_succ]
    refine wpList_nil ?_
    have hI0 : Hid (Ob w.heap.size v5 y10 (anH r n ++ (ks.take 0).flatten) ∧ Gr w v5) := ⟨by simpa using unhide o10, unhide hG5⟩
    clear o10 hG5 hvb5
    go_wp2_with fail
    go_loopw [3, 20] (fun v i wr => ∃ (j : Nat) (v' : Value), j ≤ n ∧ v' = v ∧ i = .int .i64 (j : Int) ∧ Hid (Ob w.heap.size wr v' (anH r n ++ (ks.take j).flatten) ∧ Gr w wr)) (fun _ i _ => n - (intOf i).toNat)
    case atStart => exact ⟨0, _, by omega, rfl, rfl, hI0⟩
    case round =>
    clear hI0
    obtain ⟨j, v', hj, rfl, rfl, hA⟩ := hrel
    obtain ⟨hO, hG⟩ := unhide hA
    clear hA
    by_cases hlt : j < n
    · have jI : (j : Int) < (n : Int) := by omega
      have hjk : j < ks.length := by rw [unhide hkn]; exact hlt
      have hkj := (unhide hks).at_ j hjk
      have hrg : wr.rangeAt p (q + 32 * j) (bv (ks.getD j [])) := by
        obtain ⟨p', q', e, h⟩ := ((unhide lk).gr hG).at_ j hlt
        have e2 := Option.some.inj e
        injection e2 with e3 e4 _
        subst e3 e4
        rw [getD_map bv ks j [] [] hjk] at h
        exact h
      have hfl := take_flat ks j hjk
      have hbd : (anH r n ++ (ks.take j).flatten).length + 32 ≤ 180000000000000 := by
        have h1 := flat32 ((unhide hks).take j)
        have h2 : (ks.take j).length ≤ 3 := by rw [List.length_take]; omega
        have h3 : (anH r n).length = 10 := by unfold anH; simp [lowL_len]
        rw [List.length_append, h1, h3]
        omega
      obtain ⟨KJ, hKJ⟩ : ∃ K, K = ks.getD j [] := ⟨_, rfl⟩
      rw [← hKJ] at hkj hrg hfl
      clear hKJ
      obtain ⟨hkl, hkb⟩ := hkj
      replace hO := hide hO; replace hG := hide hG; replace hrg := hide hrg; replace hfl := hide hfl; replace hkb := hide hkb
      go_upto_region 4 with fail
      refine wp_region_lit ?_
      refine list_val (.pointer (some ⟨p, q + 32 * j, none⟩)) (by kernel_rfl) (exec_iks _ (.tmp 18) (.tmp 20) rfl p q n c j (by kernel_rfl) (by kernel_rfl) hlt) ?_
      simp only [Act.put, List.setIfInBounds_toArray, List.set_cons_zero, List.set_cons_succ, List.getElem_toArray, List.getElem_cons_zero, List.getElem_cons_succ]
      refine list_val (.agg (kc KJ)) (by kernel_rfl) (exec_row _ 30 (.tmp 22) rfl p (q + 32 * j) (by kernel_rfl) (bv KJ) _ (unhide hrg) Try.underlying30 rfl (by rw [Try.infoKy, bv_len, hkl])) ?_
      simp only [Act.put, List.setIfInBounds_toArray, List.set_cons_zero, List.set_cons_succ, List.getElem_toArray, List.getElem_cons_zero, List.getElem_cons_succ]
      refine list_valw (.pointer (some ⟨wr.heap.size, 0, none⟩)) (wr.alloc (.cells (kc Z32) 30 (0, 0))) (by kernel_rfl) (by kernel_rfl) ?_
      have hB := (Bl.nil wr).new (kc Z32) 30
      simp only [List.nil_append] at hB
      generalize World.alloc _ _ = w1 at *
      generalize wr.heap.size = gk at *
      replace hB : Bl wr [⟨gk, kc Z32, 30⟩] w1 := hB
      simp only [Act.put, List.setIfInBounds_toArray, List.set_cons_zero, List.set_cons_succ, List.getElem_toArray, List.getElem_cons_zero, List.getElem_cons_succ]
      refine list_store 30 (.tmp 5) (.tmp 23) gk (kc KJ) 30 (kc Z32) (by kernel_rfl) rfl (by kernel_rfl) (by kernel_rfl) (hB.get 0 (x := ⟨gk, kc Z32, 30⟩) rfl) (by rw [Try.infoKy, kc_size, hkl]) (by rw [kc_size, kc_size, hkl]; rfl) (kc_one _) ?_
      replace hB := hB.set 0 (x := ⟨gk, kc Z32, 30⟩) rfl (kc KJ)
      simp only [List.set_cons_zero] at hB
      generalize World.setRow _ _ _ = w2 at *
      replace hB : Bl wr [⟨gk, kc KJ, 30⟩] w2 := hB
      simp only [Act.put, List.setIfInBounds_toArray, List.set_cons_zero, List.set_cons_succ, List.getElem_toArray, List.getElem_cons_zero, List.getElem_cons_succ]
      refine wpList_nil ?_
      replace hB := hide hB
      go_upto_region 5 with fail
      replace hB := unhide hB
      refine wp_region_lit ?_
      refine list_val v' (by kernel_rfl) (by kernel_rfl) ?_
      simp only [Act.put, List.setIfInBounds_toArray, List.set_cons_zero, List.set_cons_succ, List.getElem_toArray, List.getElem_cons_zero, List.getElem_cons_succ]
      refine list_val (.slice (some ⟨gk, 0, none⟩) 32 32) (by kernel_rfl) (by kernel_rfl) ?_
      simp only [Act.put, List.setIfInBounds_toArray, List.set_cons_zero, List.set_cons_succ, List.getElem_toArray, List.getElem_cons_zero, List.getElem_cons_succ]
      refine app_bs (by kernel_rfl) (.tmp 24) (.tmp 25) rfl w.heap.size _ (anH r n ++ (ks.take j).flatten) rfl ((unhide hO).gr hB.gr) (some ⟨gk, 0, none⟩) 32 32 KJ (by kernel_rfl) hkl (.inr ⟨gk, 0, rfl, kc_at (hB.get 0 (x := ⟨gk, kc KJ, 30⟩) rfl)⟩) hbd ((unhide hG).trans hB.gr).size ?_
      intro v3 w3 hO3 hgr
      have hI2 : Hid (Ob w.heap.size w3 v3 (anH r n ++ (ks.take (j + 1)).flatten) ∧ Gr w w3) := by
        have hO1 := (unhide hO).gr hB.gr
        refine ⟨?_, hO1.grown (Nat.le_refl _) ((unhide hG).trans hB.gr) hgr⟩
        rw [unhide hfl, ← List.append_assoc]
        exact hO3
      clear hO3 hgr hB
      simp only [Act.put, List.setIfInBounds_toArray, List.set_cons_zero, List.set_cons_succ, List.getElem_toArray, List.getElem_cons_zero, List.getElem_cons_succ]
      (refine wpList_step fun K hK => ?_; replace hK := hide hK; go_simp; refine unhide hK _ _ ?_; clear hK K)
      refine wpList_nil ?_
      have ej : IntKind.i64.wrap ((j : Int) + 1) = ((j + 1 : Nat) : Int) := by rw [IntKind.wrap_i64]; omega
      go_wp2_with fail
      go_roundw
      case rel => exact ⟨j + 1, _, by omega, rfl, by go_num, hI2⟩
      case measure => simp [intOf]; omega
    · have e : j = n := by omega
      subst e
      have hfl2 : (anH r j ++ ks.flatten).length = 10 + 32 * j := by
        have h1 := flat32 (unhide hks)
        have h3 : (anH r j).length = 10 := by unfold anH; simp [lowL_len]
        rw [List.length_append, h1, h3, unhide hkn]
      have hI0 : Hid (Ob w.heap.size wr v' ((anH r j ++ ks.flatten) ++ List.replicate 0 0) ∧ Gr w wr) := ⟨by
        rw [List.take_of_length_le (by rw [unhide hkn]; exact Nat.le_refl _)] at hO
        simpa using hO, hG⟩
      have jI : ¬ (j : Int) < (j : Int) := by omega
      clear hO hG hlt
      replace hfl2 := hide hfl2
      generalize wr = w7 at *
      go_wp2_with fail
      go_loopw [3] (fun v wr => ∃ (k : Nat) (v' : Value), k ≤ 96 - 32 * j ∧ v' = v ∧ Hid (Ob w.heap.size wr v' ((anH r j ++ ks.flatten) ++ List.replicate k 0) ∧ Gr w wr)) (fun v _ => 106 - (lenV v))
      case atStart => exact ⟨0, _, by omega, rfl, hI0⟩
      case round =>
      clear hI0
      obtain ⟨k, v9, hk, rfl, hA⟩ := hrel
      obtain ⟨hO, hG⟩ := unhide hA
      clear hA
      obtain ⟨a9, c9, e9, _⟩ := hO.slice
      have hL9 : ((anH r j ++ ks.flatten) ++ List.replicate k 0).length = 10 + 32 * j + k := by rw [List.length_append, unhide hfl2, List.length_replicate]
      rw [hL9] at e9
      subst e9
      replace hO := hide hO; replace hG := hide hG; replace hL9 := hide hL9
      go_upto_region 7 with fail
      by_cases hlt : 10 + 32 * j + k < 106
      · have kI : ((10 + 32 * j + k : Nat) : Int) < 106 := by omega
        replace kI := hide kI
        refine wp_region_lit ?_
        refine list_val (.slice a9 (10 + 32 * j + k) c9) (by kernel_rfl) (by kernel_rfl) ?_
        simp only [Act.put, List.setIfInBounds_toArray, List.set_cons_zero, List.set_cons_succ, List.getElem_toArray, List.getElem_cons_zero, List.getElem_cons_succ]
        refine list_val (.int .i64 ((10 + 32 * j + k : Nat) : Int)) (by kernel_rfl) (by kernel_rfl) ?_
        simp only [Act.put, List.setIfInBounds_toArray, List.set_cons_zero, List.set_cons_succ, List.getElem_toArray, List.getElem_cons_zero, List.getElem_cons_succ]
        refine list_val (.bool true) (by kernel_rfl) (by have h := unhide kI; go_simp; omega) ?_
        simp only [Act.put, List.setIfInBounds_toArray, List.set_cons_zero, List.set_cons_succ, List.getElem_toArray, List.getElem_cons_zero, List.getElem_cons_succ]
        refine wpList_nil ?_
        go_upto_region 8 with fail
        refine wp_region_lit ?_
        refine list_val (.slice a9 (10 + 32 * j + k) c9) (by kernel_rfl) (by kernel_rfl) ?_
        simp only [Act.put, List.setIfInBounds_toArray, List.set_cons_zero, List.set_cons_succ, List.getElem_toArray, List.getElem_cons_zero, List.getElem_cons_succ]
        refine list_valw (.slice (some ⟨wr.heap.size, 0, none⟩) 1 1) (wr.alloc (.cells (kc [0]) 5 (0, 0))) (by kernel_rfl) (by kernel_rfl) ?_
        have hnz := kc_at (blk_new wr (.cells (kc [0]) 5 (0, 0)))
        have hgz := (Gr.refl wr).alloc (.cells (kc [0]) 5 (0, 0))
        generalize World.alloc _ _ = w1 at *
        generalize wr.heap.size = gz at *
        simp only [Act.put, List.setIfInBounds_toArray, List.set_cons_zero, List.set_cons_succ, List.getElem_toArray, List.getElem_cons_zero, List.getElem_cons_succ]
        refine app_bs (by kernel_rfl) (.tmp 31) (.tmp 32) rfl w.heap.size _ ((anH r j ++ ks.flatten) ++ List.replicate k 0) rfl ((unhide hO).gr hgz) (some ⟨gz, 0, none⟩) 1 1 [0] (by kernel_rfl) rfl (.inr ⟨gz, 0, rfl, hnz⟩) (by rw [unhide hL9]; omega) ((unhide hG).trans hgz).size ?_
        intro v3 w3 hO3 hgr
        have hO4 : Ob w.heap.size w3 v3 ((anH r j ++ ks.flatten) ++ List.replicate (k + 1) 0) := by
          rw [List.replicate_succ', ← List.append_assoc]
          exact hO3
        obtain ⟨a3, c3, e3, _⟩ := hO4.slice
        have hL3 : ((anH r j ++ ks.flatten) ++ List.replicate (k + 1) 0).length = 10 + 32 * j + (k + 1) := by rw [List.length_append, unhide hfl2, List.length_replicate]
        rw [hL3] at e3
        subst e3
        have hI2 : Hid (Ob w.heap.size w3 (.slice a3 (10 + 32 * j + (k + 1)) c3) ((anH r j ++ ks.flatten) ++ List.replicate (k + 1) 0) ∧ Gr w w3) := ⟨hO4, ((unhide hO).gr hgz).grown (Nat.le_refl _) ((unhide hG).trans hgz) hgr⟩
        clear hO3 hgr hO4 hL3 hgz hnz
        simp only [Act.put, List.setIfInBounds_toArray, List.set_cons_zero, List.set_cons_succ, List.getElem_toArray, List.getElem_cons_zero, List.getElem_cons_succ]
        (refine wpList_step fun K hK => ?_; replace hK := hide hK; go_simp; refine unhide hK _ _ ?_; clear hK K)
        refine wpList_nil ?_
        go_wp2_with fail
        go_roundw
        case rel => exact ⟨k + 1, _, by omega, rfl, hI2⟩
        case measure => simp [lenV]; omega
      · have kI : ¬ ((10 + 32 * j + k : Nat) : Int) < 106 := by omega
        replace kI := hide kI
        refine wp_region_lit ?_
        refine list_val (.slice a9 (10 + 32 * j + k) c9) (by kernel_rfl) (by kernel_rfl) ?_
        simp only [Act.put, List.setIfInBounds_toArray, List.set_cons_zero, List.set_cons_succ, List.getElem_toArray, List.getElem_cons_zero, List.getElem_cons_succ]
        refine list_val (.int .i64 ((10 + 32 * j + k : Nat) : Int)) (by kernel_rfl) (by kernel_rfl) ?_
        simp only [Act.put, List.setIfInBounds_toArray, List.set_cons_zero, List.set_cons_succ, List.getElem_toArray, List.getElem_cons_zero, List.getElem_cons_succ]
        refine list_val (.bool false) (by kernel_rfl) (by have h := unhide kI; go_simp; omega) ?_
        simp only [Act.put, List.setIfInBounds_toArray, List.set_cons_zero, List.set_cons_succ, List.getElem_toArray, List.getElem_cons_zero, List.getElem_cons_succ]
        refine wpList_nil ?_
        have hZ : Hid (T (.returned (.slice a9 (10 + 32 * j + k) c9)) wr) := by
          rw [unhide hT]
          refine ⟨_, rfl, ?_, unhide hG⟩
          have e : (anH r j ++ ks.flatten) ++ List.replicate k 0 = anB r ks := by
            unfold anB
            rw [unhide hkn, show k = 96 - 32 * j from by omega]
          rw [← e]
          exact unhide hO
        go_wp2_with fail
        exact unhide hZ
end Go.Proofs.Ytiejdpodffkdpaa
