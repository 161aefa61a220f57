/-
  The walk of OctetReads.
-/
import Derived.Test.YtcbdjijkliknoaaMid
namespace Go.Proofs.Ytcbdjijkliknoaa
open Go.RowKit
set_option linter.unusedVariables false

set_option maxRecDepth 100000 in
set_option maxHeartbeats 8000000 in
theorem reads_any (a a' : Option Addr) (n c c' : Nat) (l : List Int) (f g : Nat → Int) (w : World) (hB : Bs w a l.length l) (hl : l.length ≤ 140737488351232) (hA : Asks w a' n f g) (hn : n ≤ 140737488351232) :
    Calls Try.prog 5 #[.slice a l.length c, .slice a' n c'] w fun e w' => e = .returned (.bool true) ∧ Below w.heap.size w w' := by
  have C0 : Sees w w [(a, l)] := ⟨Below.refl _ _, by simpa using hB⟩
  have LN : Hid (l = l ++ []) := by show _ = _; simp
  have hl2 : l.length ≤ 140737488355328 := by omega
  go_enter Try.func5, Try.ntmps5
  go_wp2_with fail
  refine (wakes_any _).mono ?_
  rintro e w1 ⟨rfl, hb1⟩
  have C1 := C0.step hb1
  clear hB C0
  go_wp2_with fail
  refine (read_any _ _ _ l _ (C1.get a l (by simp)) hl2).mono ?_
  rintro e w2 ⟨p, v, rfl, hp, hrd, hsl, hb2⟩
  have C2 := C1.step hb2
  have R2 : Rdr w2 p v l 0 0 := ⟨by simp, hl2, hrd, hsl⟩
  clear C1 hrd hsl
  go_wp2_with fail
  refine (read_any _ _ _ l _ (C2.get a l (by simp)) hl2).mono ?_
  rintro e w3 ⟨q, v', rfl, hq, hrd, hsl, hb3⟩
  have C3 := C2.step hb3
  have R3 := R2.below hb3
  have S3 : Rdr w3 q v' l 0 0 := ⟨by simp, hl2, hrd, hsl⟩
  have hpq : p < q := Nat.lt_of_lt_of_le R2.lt hq
  clear C2 R2 hrd hsl
  go_wp2_with fail
  refine (puboth (s := []) _ _ l LN (C3.get a l (by simp)) (Bs.nil _ _) hl2 (by omega)).mono ?_
  rintro e w4 ⟨cc, rfl, hcc, hb4, hb5⟩
  have C4 := C3.step hb5
  have R4 := R3.below hb5
  have S4 := S3.below hb5
  have hq4 := S3.lt
  clear C3 R3 S3
  have hpw : w1.heap.size ≤ p := hp
  have hp3 : p < w3.heap.size := by omega
  have hp4 : p < w4.heap.size := R4.lt
  have hK1 : Hid (Keeps p w1 w4) := (Keeps.of_below hb2).trans ((Keeps.of_below hb3).trans (Keeps.of_below hb5))
  have hB4 : Hid (Bs w4 (some ⟨w3.heap.size, 0, none⟩) l.length l) := hb4
  have hA1 : Hid (Asks w1 a' n f g) := hA.below hb1
  have hw34 : w3.heap.size ≤ w4.heap.size := hb5.size
  have HR4 := hide R4
  have HSL : Hid (∃ va vc, v = .slice va l.length vc) := by obtain ⟨_, _, _, va, vc, h, _⟩ := R4; exact ⟨va, vc, h⟩
  have HS4 := hide S4
  clear hb2 hb3 hb5 hb4 hp hq R4 S4 hA
  go_wp2
  go_loopw [31] (fun t wr => ∃ (j i : Nat) (e : Int), j ≤ n ∧ t = .int .i64 j ∧ Hid (Inv w4 wr p v (.slice (some ⟨w3.heap.size, 0, none⟩) l.length cc) l i e)) (fun t _ => n - (intOf t).toNat)
  case atStart =>
    exact ⟨0, 0, 0, Nat.zero_le _, rfl, ⟨(unhide HR4).2.2.1.below (Below.new w4 _) (unhide HR4).lt, Keeps.of_below (Below.new w4 _), heap_alloc_new w4 (.cells #[.slice (some ⟨w3.heap.size, 0, none⟩) l.length cc, .int .i64 0, .int .i64 0] 41 (0, 0)), Nat.zero_le _⟩⟩
  case round =>
    obtain ⟨j, i, e, hj, rfl, hI⟩ := hrel
    by_cases hlt : j < n
    · obtain ⟨b, off, rfl, hc⟩ := unhide hA1 (by omega)
      have hk1 : ∀ o u, w1.cell? ⟨b, o, none⟩ = some u → wr.cell? ⟨b, o, none⟩ = some u := by
        intro o u hu
        have hbl := lt_of_cell hu
        exact ((unhide hK1).trans (unhide hI).keep).cell hu (by simp only at hbl; omega)
      have ha0 := hk1 _ _ (hc j hlt).1
      have ha1 := hk1 _ _ (hc j hlt).2
      have hm0 := (unhide hI).doc.c0
      have hm1 := (unhide hI).doc.c1
      have hm2 := (unhide hI).doc.c2
      have hMlt := (unhide hI).doc.lt
      have hji : (j : Int) < n := by omega
      generalize f j = kd at *
      generalize g j = N at *
      clear hc hk1
      have hBr : ∀ o, Bs (wr.alloc o) (some ⟨w3.heap.size, 0, none⟩) l.length l := fun o => ((unhide hI).bs (by omega) (unhide hB4)).below (Below.new wr o)
      have HBr := hide hBr
      have hRr : Hid (Rdr wr p v l i e) := (unhide hI).rdr (unhide HR4)
      obtain ⟨K, hK, hKk⟩ := kind_is kd
      clear hBr
      go_wp2_with fail
      clear hKk
      have hdo := do_any K hK w3.heap.size 0 cc l i e N (wr.alloc (.cells #[.int .i64 K, .int .i64 N] 43)) (unhide HBr _) (unhide hI).le hl2 hcc
      have hrl := takeM_le l i e (askN K N) (unhide hI).le
      have hlb := (unhide hB4).2.1
      have HLB := hide hlb
      have hTb := takeM_mem l i e (askN K N) hlb
      have hlo := fun k (hk : askN K N = (k : Nat)) => (show 0 ≤ lowN (takeM l i e (askN K N)).1 ∧ lowN (takeM l i e (askN K N)).1 < 256 ^ k by rw [hk]; exact low_bd l i e k hlb)
      obtain ⟨⟨T, i', e'⟩, hr⟩ : ∃ r, r = takeM l i e (askN K N) := ⟨_, rfl⟩
      rw [← hr] at hdo hrl hTb hlo
      have HTb := hide hTb
      have HLO := hide hlo
      have HRr := hide hr
      have HDO := hide hdo
      clear hdo hr hlb hTb hlo
      rcases (show K = 0 ∨ K = 1 ∨ K = 2 ∨ K = 3 ∨ K = 4 by omega) with rfl | rfl | rfl | rfl | rfl
      · refine (unhide HDO).mono ?_
        rintro x w5 ⟨a2, c2, rfl, hbs2, hb5, ha2⟩
        have hz5 : wr.heap.size < w5.heap.size := by have := hb5.size; simp at this; omega
        have hb5' : Below wr.heap.size wr w5 := (Below.new wr _).trans (hb5.mono (by simp))
        have hca : w5.cell? ⟨wr.heap.size, 0, none⟩ = some (.int .i64 0) := (hb5.cell (p := ⟨wr.heap.size, 0, none⟩) (by simp)).trans (by simp)
        have hcb : w5.cell? ⟨wr.heap.size, 1, none⟩ = some (.int .i64 N) := (hb5.cell (p := ⟨wr.heap.size, 1, none⟩) (by simp)).trans (by simp)
        have hca3 := fun x y z => cell3 x y z hca
        have hcb3 := fun x y z => cell3 x y z hcb
        have ha2p : ∀ y, a2 = some y → y.block ≠ p := by
          intro y hy
          rcases ha2 y hy with h | h
          · omega
          · simp at h; omega
        clear hb5 hca hcb ha2
        go_wp2_with fail
        refine (u16_any p v l i e _ ((unhide hRr).below (below3 hb5' (by omega) _ _ _)) (unhide HLB)).mono ?_
        rw [show takeM l i e 2 = (T, i', e') from (unhide HRr).symm]
        rintro x w6 ⟨rfl, hR6, hbut⟩
        have hM6 := hide (mid_of (unhide hI) hp4 hb5' hz5 hrl (Keeps.of_but hbut) hR6.2.2.1)
        have hg0 := (unhide hM6).got.c0
        have hgf := (unhide hM6).got.f 0
        have hx0 : 0 ≤ lowN T := (unhide HLO 2 rfl).1
        have hx1 : lowN T < 65536 := (unhide HLO 2 rfl).2
        have hbw6 : Hid (Bs w6 a2 (toldB 0 T).length (toldB 0 T)) := (hbs2.below (below3 (Below.refl _ _) (Nat.le_refl _) _ _ _)).but hbut ha2p
        have hT7 : Hid (Tail w4 (w6.setCell ⟨w5.heap.size + 1 + 1, 0, none⟩ (.int .u64 (lowN T))) p v (.slice (some ⟨w3.heap.size, 0, none⟩) l.length cc) l i e w5.heap.size (w5.heap.size + 1) (w5.heap.size + 1 + 1) i' e' (lowN T) none 0 0 a2 (toldB 0 T).length c2 (toldB 0 T)) :=
          ⟨(unhide hM6).set0 (lowN T), Bs.nil _ _, (unhide hbw6).tol (unhide hM6).got 0 _, by omega, unhide HSL, hl2⟩
        clear hca3 hcb3 hbs2 ha2p hbut hR6 hm0 hm1 hm2 hM6 hbw6 HDO HBr hRr HLB HTb HLO HRr ha0 ha1
        go_wp2
        clear hg0 hgf hx0 hx1
        generalize World.setCell w6 ⟨w5.heap.size + 1 + 1, 0, none⟩ (.int .u64 (lowN T)) = W7 at *
        generalize lowN T = xn at *
        generalize toldB 0 T = B at *
        have hwr1 : IntKind.i64.wrap ((l.length : Int) - (i' : Int)) = (l.length : Int) - i' := by rw [IntKind.wrap_i64]; omega
        have hwr2 : wrap64 ((l.length : Int) - (i' : Int)) = (l.length : Int) - i' := by unfold wrap64; omega
        have hst0 : Still W7 W7.drew := (Still.refl _).drew
        have hS0 := Tail.cells hT7 hst0
        go_region_held (fun W => W.cell? ⟨w5.heap.size + 1 + 1, 0, none⟩ = some (.int .u64 xn) ∧ W.cell? ⟨w5.heap.size + 1 + 1, 1, none⟩ = some (.slice none 0 0) ∧ W.cell? ⟨w5.heap.size + 1, 0, none⟩ = some (.int .u64 xn) ∧ W.cell? ⟨w5.heap.size + 1, 1, none⟩ = some (.slice a2 B.length c2) ∧ W.cell? ⟨w5.heap.size, 1, none⟩ = some (.int .i64 i') ∧ W.cell? ⟨w5.heap.size, 2, none⟩ = some (.int .i64 e')) (assumption) (first
          | (go_at_call 14; refine (rd_same hT7 (by assumption)).mono ?_; rintro z w9 ⟨rfl, hst9⟩; have hS9 := Tail.cells hT7 hst9)
          | (go_at_call 28; refine (rd_left hT7 (by assumption)).mono ?_; rintro z w10 ⟨rfl, hst10⟩; have hS10 := Tail.cells hT7 hst10)
          | (go_at_call 29; refine (rd_err hT7 (by assumption)).mono ?_; rintro z w11 ⟨rfl, hw11⟩; subst hw11))
        have hM9 := (unhide hT7).mid.still hst10
        have hn0 := hM9.next.c0
        have hn1 := hM9.next.c1
        have hn2 := hM9.next.c2
        have hd0 := hM9.doc.c0
        have hd1 := hM9.doc.c1
        have hd2 := hM9.doc.c2
        have hdf := fun o => hM9.doc.f o
        have hIe := hide hM9.done
        clear hM9 hS0 hS9 hS10 hst0 hst9 hst10 hT7
        go_wp2
        go_roundw
        case rel => exact ⟨j + 1, i', e', by omega, by go_num, hIe⟩
        case measure => simp [intOf]; omega
      · refine (unhide HDO).mono ?_
        rintro x w5 ⟨a2, c2, rfl, hbs2, hb5, ha2⟩
        have hz5 : wr.heap.size < w5.heap.size := by have := hb5.size; simp at this; omega
        have hb5' : Below wr.heap.size wr w5 := (Below.new wr _).trans (hb5.mono (by simp))
        have hca : w5.cell? ⟨wr.heap.size, 0, none⟩ = some (.int .i64 1) := (hb5.cell (p := ⟨wr.heap.size, 0, none⟩) (by simp)).trans (by simp)
        have hcb : w5.cell? ⟨wr.heap.size, 1, none⟩ = some (.int .i64 N) := (hb5.cell (p := ⟨wr.heap.size, 1, none⟩) (by simp)).trans (by simp)
        have hca3 := fun x y z => cell3 x y z hca
        have hcb3 := fun x y z => cell3 x y z hcb
        have ha2p : ∀ y, a2 = some y → y.block ≠ p := by
          intro y hy
          rcases ha2 y hy with h | h
          · omega
          · simp at h; omega
        clear hb5 hca hcb ha2
        go_wp2_with fail
        refine (u32_any p v l i e _ ((unhide hRr).below (below3 hb5' (by omega) _ _ _)) (unhide HLB)).mono ?_
        rw [show takeM l i e 4 = (T, i', e') from (unhide HRr).symm]
        rintro x w6 ⟨rfl, hR6, hbut⟩
        have hM6 := hide (mid_of (unhide hI) hp4 hb5' hz5 hrl (Keeps.of_but hbut) hR6.2.2.1)
        have hg0 := (unhide hM6).got.c0
        have hgf := (unhide hM6).got.f 0
        have hx0 : 0 ≤ lowN T := (unhide HLO 4 rfl).1
        have hx1 : lowN T < 4294967296 := (unhide HLO 4 rfl).2
        have hbw6 : Hid (Bs w6 a2 (toldB 1 T).length (toldB 1 T)) := (hbs2.below (below3 (Below.refl _ _) (Nat.le_refl _) _ _ _)).but hbut ha2p
        have hT7 : Hid (Tail w4 (w6.setCell ⟨w5.heap.size + 1 + 1, 0, none⟩ (.int .u64 (lowN T))) p v (.slice (some ⟨w3.heap.size, 0, none⟩) l.length cc) l i e w5.heap.size (w5.heap.size + 1) (w5.heap.size + 1 + 1) i' e' (lowN T) none 0 0 a2 (toldB 1 T).length c2 (toldB 1 T)) :=
          ⟨(unhide hM6).set0 (lowN T), Bs.nil _ _, (unhide hbw6).tol (unhide hM6).got 0 _, by omega, unhide HSL, hl2⟩
        clear hca3 hcb3 hbs2 ha2p hbut hR6 hm0 hm1 hm2 hM6 hbw6 HDO HBr hRr HLB HTb HLO HRr ha0 ha1
        go_wp2
        clear hg0 hgf hx0 hx1
        generalize World.setCell w6 ⟨w5.heap.size + 1 + 1, 0, none⟩ (.int .u64 (lowN T)) = W7 at *
        generalize lowN T = xn at *
        generalize toldB 1 T = B at *
        have hwr1 : IntKind.i64.wrap ((l.length : Int) - (i' : Int)) = (l.length : Int) - i' := by rw [IntKind.wrap_i64]; omega
        have hwr2 : wrap64 ((l.length : Int) - (i' : Int)) = (l.length : Int) - i' := by unfold wrap64; omega
        have hst0 : Still W7 W7.drew := (Still.refl _).drew
        have hS0 := Tail.cells hT7 hst0
        go_region_held (fun W => W.cell? ⟨w5.heap.size + 1 + 1, 0, none⟩ = some (.int .u64 xn) ∧ W.cell? ⟨w5.heap.size + 1 + 1, 1, none⟩ = some (.slice none 0 0) ∧ W.cell? ⟨w5.heap.size + 1, 0, none⟩ = some (.int .u64 xn) ∧ W.cell? ⟨w5.heap.size + 1, 1, none⟩ = some (.slice a2 B.length c2) ∧ W.cell? ⟨w5.heap.size, 1, none⟩ = some (.int .i64 i') ∧ W.cell? ⟨w5.heap.size, 2, none⟩ = some (.int .i64 e')) (assumption) (first
          | (go_at_call 14; refine (rd_same hT7 (by assumption)).mono ?_; rintro z w9 ⟨rfl, hst9⟩; have hS9 := Tail.cells hT7 hst9)
          | (go_at_call 28; refine (rd_left hT7 (by assumption)).mono ?_; rintro z w10 ⟨rfl, hst10⟩; have hS10 := Tail.cells hT7 hst10)
          | (go_at_call 29; refine (rd_err hT7 (by assumption)).mono ?_; rintro z w11 ⟨rfl, hw11⟩; subst hw11))
        have hM9 := (unhide hT7).mid.still hst10
        have hn0 := hM9.next.c0
        have hn1 := hM9.next.c1
        have hn2 := hM9.next.c2
        have hd0 := hM9.doc.c0
        have hd1 := hM9.doc.c1
        have hd2 := hM9.doc.c2
        have hdf := fun o => hM9.doc.f o
        have hIe := hide hM9.done
        clear hM9 hS0 hS9 hS10 hst0 hst9 hst10 hT7
        go_wp2
        go_roundw
        case rel => exact ⟨j + 1, i', e', by omega, by go_num, hIe⟩
        case measure => simp [intOf]; omega
      · refine (unhide HDO).mono ?_
        rintro x w5 ⟨a2, c2, rfl, hbs2, hb5, ha2⟩
        have hz5 : wr.heap.size < w5.heap.size := by have := hb5.size; simp at this; omega
        have hb5' : Below wr.heap.size wr w5 := (Below.new wr _).trans (hb5.mono (by simp))
        have hca : w5.cell? ⟨wr.heap.size, 0, none⟩ = some (.int .i64 2) := (hb5.cell (p := ⟨wr.heap.size, 0, none⟩) (by simp)).trans (by simp)
        have hcb : w5.cell? ⟨wr.heap.size, 1, none⟩ = some (.int .i64 N) := (hb5.cell (p := ⟨wr.heap.size, 1, none⟩) (by simp)).trans (by simp)
        have hca3 := fun x y z => cell3 x y z hca
        have hcb3 := fun x y z => cell3 x y z hcb
        have ha2p : ∀ y, a2 = some y → y.block ≠ p := by
          intro y hy
          rcases ha2 y hy with h | h
          · omega
          · simp at h; omega
        clear hb5 hca hcb ha2
        go_wp2_with fail
        refine (u64_any p v l i e _ ((unhide hRr).below (below3 hb5' (by omega) _ _ _))).mono ?_
        rw [show takeM l i e 8 = (T, i', e') from (unhide HRr).symm]
        rintro x w6 ⟨rfl, hR6, hbut⟩
        have hM6 := hide (mid_of (unhide hI) hp4 hb5' hz5 hrl (Keeps.of_but hbut) hR6.2.2.1)
        have hg0 := (unhide hM6).got.c0
        have hgf := (unhide hM6).got.f 0
        have hx0 : 0 ≤ lowN T := (unhide HLO 8 rfl).1
        have hx1 : lowN T < 18446744073709551616 := (unhide HLO 8 rfl).2
        have hbw6 : Hid (Bs w6 a2 (toldB 2 T).length (toldB 2 T)) := (hbs2.below (below3 (Below.refl _ _) (Nat.le_refl _) _ _ _)).but hbut ha2p
        have hT7 : Hid (Tail w4 (w6.setCell ⟨w5.heap.size + 1 + 1, 0, none⟩ (.int .u64 (lowN T))) p v (.slice (some ⟨w3.heap.size, 0, none⟩) l.length cc) l i e w5.heap.size (w5.heap.size + 1) (w5.heap.size + 1 + 1) i' e' (lowN T) none 0 0 a2 (toldB 2 T).length c2 (toldB 2 T)) :=
          ⟨(unhide hM6).set0 (lowN T), Bs.nil _ _, (unhide hbw6).tol (unhide hM6).got 0 _, by omega, unhide HSL, hl2⟩
        clear hca3 hcb3 hbs2 ha2p hbut hR6 hm0 hm1 hm2 hM6 hbw6 HDO HBr hRr HLB HTb HLO HRr ha0 ha1
        go_wp2
        clear hg0 hgf hx0 hx1
        generalize World.setCell w6 ⟨w5.heap.size + 1 + 1, 0, none⟩ (.int .u64 (lowN T)) = W7 at *
        generalize lowN T = xn at *
        generalize toldB 2 T = B at *
        have hwr1 : IntKind.i64.wrap ((l.length : Int) - (i' : Int)) = (l.length : Int) - i' := by rw [IntKind.wrap_i64]; omega
        have hwr2 : wrap64 ((l.length : Int) - (i' : Int)) = (l.length : Int) - i' := by unfold wrap64; omega
        have hst0 : Still W7 W7.drew := (Still.refl _).drew
        have hS0 := Tail.cells hT7 hst0
        go_region_held (fun W => W.cell? ⟨w5.heap.size + 1 + 1, 0, none⟩ = some (.int .u64 xn) ∧ W.cell? ⟨w5.heap.size + 1 + 1, 1, none⟩ = some (.slice none 0 0) ∧ W.cell? ⟨w5.heap.size + 1, 0, none⟩ = some (.int .u64 xn) ∧ W.cell? ⟨w5.heap.size + 1, 1, none⟩ = some (.slice a2 B.length c2) ∧ W.cell? ⟨w5.heap.size, 1, none⟩ = some (.int .i64 i') ∧ W.cell? ⟨w5.heap.size, 2, none⟩ = some (.int .i64 e')) (assumption) (first
          | (go_at_call 14; refine (rd_same hT7 (by assumption)).mono ?_; rintro z w9 ⟨rfl, hst9⟩; have hS9 := Tail.cells hT7 hst9)
          | (go_at_call 28; refine (rd_left hT7 (by assumption)).mono ?_; rintro z w10 ⟨rfl, hst10⟩; have hS10 := Tail.cells hT7 hst10)
          | (go_at_call 29; refine (rd_err hT7 (by assumption)).mono ?_; rintro z w11 ⟨rfl, hw11⟩; subst hw11))
        have hM9 := (unhide hT7).mid.still hst10
        have hn0 := hM9.next.c0
        have hn1 := hM9.next.c1
        have hn2 := hM9.next.c2
        have hd0 := hM9.doc.c0
        have hd1 := hM9.doc.c1
        have hd2 := hM9.doc.c2
        have hdf := fun o => hM9.doc.f o
        have hIe := hide hM9.done
        clear hM9 hS0 hS9 hS10 hst0 hst9 hst10 hT7
        go_wp2
        go_roundw
        case rel => exact ⟨j + 1, i', e', by omega, by go_num, hIe⟩
        case measure => simp [intOf]; omega
      · refine (unhide HDO).mono ?_
        rintro x w5 ⟨a2, c2, rfl, hbs2, hb5, ha2⟩
        have hz5 : wr.heap.size < w5.heap.size := by have := hb5.size; simp at this; omega
        have hb5' : Below wr.heap.size wr w5 := (Below.new wr _).trans (hb5.mono (by simp))
        have hca : w5.cell? ⟨wr.heap.size, 0, none⟩ = some (.int .i64 3) := (hb5.cell (p := ⟨wr.heap.size, 0, none⟩) (by simp)).trans (by simp)
        have hcb : w5.cell? ⟨wr.heap.size, 1, none⟩ = some (.int .i64 N) := (hb5.cell (p := ⟨wr.heap.size, 1, none⟩) (by simp)).trans (by simp)
        have hca3 := fun x y z => cell3 x y z hca
        have hcb3 := fun x y z => cell3 x y z hcb
        have ha2p : ∀ y, a2 = some y → y.block ≠ p := by
          intro y hy
          rcases ha2 y hy with h | h
          · omega
          · simp at h; omega
        clear hb5 hca hcb ha2
        go_wp2_with fail
        refine (raw_any p v l i e N _ ((unhide hRr).below (below3 hb5' (by omega) _ _ _)) (unhide HLB)).mono ?_
        rw [show takeM l i e N = (T, i', e') from (unhide HRr).symm]
        rintro x w6 ⟨a3, c3, rfl, hbg, hR6, hks, hb0⟩
        have hM6 := hide (mid_of (unhide hI) hp4 hb5' hz5 hrl ⟨hks, hb0⟩ hR6.2.2.1)
        have hg0 := (unhide hM6).got.c1
        have hgf := (unhide hM6).got.f 1
        have hTl : T.length ≤ 281474976710656 := by
          have := takeM_lel l i e N
          rw [show takeM l i e N = (T, i', e') from (unhide HRr).symm] at this
          simp only at this
          omega
        have hbw6 : Hid (Bs w6 a2 (toldB 3 T).length (toldB 3 T)) := (hbs2.below (below3 (Below.refl _ _) (Nat.le_refl _) _ _ _)).keeps ⟨hks, hb0⟩ ha2p
        have hT7 : Hid (Tail w4 (w6.setCell ⟨w5.heap.size + 1 + 1, 1, none⟩ (.slice a3 T.length c3)) p v (.slice (some ⟨w3.heap.size, 0, none⟩) l.length cc) l i e w5.heap.size (w5.heap.size + 1) (w5.heap.size + 1 + 1) i' e' 0 a3 T.length c3 a2 (toldB 3 T).length c2 T) :=
          ⟨(unhide hM6).set1 (.slice a3 T.length c3), hbg.tol (unhide hM6).got 1 _, (unhide hbw6).tol (unhide hM6).got 1 _, hTl, unhide HSL, hl2⟩
        clear hca3 hcb3 hbs2 ha2p hks hb0 hbg hR6 hm0 hm1 hm2 hM6 hbw6 HDO HBr hRr HLB HTb HLO HRr ha0 ha1
        go_wp2
        clear hg0 hgf
        generalize World.setCell w6 ⟨w5.heap.size + 1 + 1, 1, none⟩ (.slice a3 T.length c3) = W7 at *
        generalize toldB 3 T = B at *
        have hwr1 : IntKind.i64.wrap ((l.length : Int) - (i' : Int)) = (l.length : Int) - i' := by rw [IntKind.wrap_i64]; omega
        have hwr2 : wrap64 ((l.length : Int) - (i' : Int)) = (l.length : Int) - i' := by unfold wrap64; omega
        have hst0 : Still W7 W7.drew := (Still.refl _).drew
        have hS0 := Tail.cells hT7 hst0
        go_region_held (fun W => W.cell? ⟨w5.heap.size + 1 + 1, 0, none⟩ = some (.int .u64 0) ∧ W.cell? ⟨w5.heap.size + 1 + 1, 1, none⟩ = some (.slice a3 T.length c3) ∧ W.cell? ⟨w5.heap.size + 1, 0, none⟩ = some (.int .u64 0) ∧ W.cell? ⟨w5.heap.size + 1, 1, none⟩ = some (.slice a2 B.length c2) ∧ W.cell? ⟨w5.heap.size, 1, none⟩ = some (.int .i64 i') ∧ W.cell? ⟨w5.heap.size, 2, none⟩ = some (.int .i64 e')) (assumption) (first
          | (go_at_call 14; refine (rd_same hT7 (by assumption)).mono ?_; rintro z w9 ⟨rfl, hst9⟩; have hS9 := Tail.cells hT7 hst9)
          | (go_at_call 28; refine (rd_left hT7 (by assumption)).mono ?_; rintro z w10 ⟨rfl, hst10⟩; have hS10 := Tail.cells hT7 hst10)
          | (go_at_call 29; refine (rd_err hT7 (by assumption)).mono ?_; rintro z w11 ⟨rfl, hw11⟩; subst hw11))
        have hM9 := (unhide hT7).mid.still hst10
        have hn0 := hM9.next.c0
        have hn1 := hM9.next.c1
        have hn2 := hM9.next.c2
        have hd0 := hM9.doc.c0
        have hd1 := hM9.doc.c1
        have hd2 := hM9.doc.c2
        have hdf := fun o => hM9.doc.f o
        have hIe := hide hM9.done
        clear hM9 hS0 hS9 hS10 hst0 hst9 hst10 hT7
        go_wp2
        go_roundw
        case rel => exact ⟨j + 1, i', e', by omega, by go_num, hIe⟩
        case measure => simp [intOf]; omega
      · refine (unhide HDO).mono ?_
        rintro x w5 ⟨a2, c2, rfl, hbs2, hb5, ha2⟩
        have hz5 : wr.heap.size < w5.heap.size := by have := hb5.size; simp at this; omega
        have hb5' : Below wr.heap.size wr w5 := (Below.new wr _).trans (hb5.mono (by simp))
        have hca : w5.cell? ⟨wr.heap.size, 0, none⟩ = some (.int .i64 4) := (hb5.cell (p := ⟨wr.heap.size, 0, none⟩) (by simp)).trans (by simp)
        have hcb : w5.cell? ⟨wr.heap.size, 1, none⟩ = some (.int .i64 N) := (hb5.cell (p := ⟨wr.heap.size, 1, none⟩) (by simp)).trans (by simp)
        have hca3 := fun x y z => cell3 x y z hca
        have hcb3 := fun x y z => cell3 x y z hcb
        have ha2p : ∀ y, a2 = some y → y.block ≠ p := by
          intro y hy
          rcases ha2 y hy with h | h
          · omega
          · simp at h; omega
        clear hb5 hca hcb ha2
        go_wp2_with fail
        refine (key_any p v l i e _ ((unhide hRr).below (below3 hb5' (by omega) _ _ _))).mono ?_
        rw [show takeM l i e 32 = (T, i', e') from (unhide HRr).symm]
        rintro x w6 ⟨rfl, hR6, hkp⟩
        have hT32 : T.length ≤ 32 := by
          have := takeM_len l i e 32
          rw [show takeM l i e 32 = (T, i', e') from (unhide HRr).symm] at this
          simp only at this
          omega
        have hM6 := hide (mid_of (unhide hI) hp4 hb5' hz5 hrl (Keeps.of_kept hkp) hR6.2.2.1)
        have hbw6 : Hid (Bs w6 a2 (toldB 4 T).length (toldB 4 T)) := (hbs2.below (below3 (Below.refl _ _) (Nat.le_refl _) _ _ _)).keeps (Keeps.of_kept hkp) ha2p
        clear hca3 hcb3 hbs2 ha2p hkp hR6 hm0 hm1 hm2 HDO HBr hRr HLB HLO HRr ha0 ha1
        go_wp2_with (first | (refine wpList_store_key rfl (.tmp 13) (.tmp 51) rfl rfl w6.heap.size T hT32 rfl rfl _ (heap_alloc_new w6 _) (by rfl) ?_; intro W6 hk6 hb6; have hM6b := hide ((unhide hM6).step ((Below.new w6 _).trans hb6)); have hg0 := (unhide hM6b).got.c1; have hgf := (unhide hM6b).got.f 1))
        have hbg6 : Bs W6 (some ⟨w6.heap.size, 0, none⟩) 32 (toldB 4 T) := key_row_bs (unhide hk6) hT32 (unhide HTb)
        have hbw6b : Bs W6 a2 (toldB 4 T).length (toldB 4 T) := (unhide hbw6).below ((Below.new w6 _).trans hb6)
        have hT7 : Hid (Tail w4 (W6.setCell ⟨w5.heap.size + 1 + 1, 1, none⟩ (.slice (some ⟨w6.heap.size, 0, none⟩) 32 32)) p v (.slice (some ⟨w3.heap.size, 0, none⟩) l.length cc) l i e w5.heap.size (w5.heap.size + 1) (w5.heap.size + 1 + 1) i' e' 0 (some ⟨w6.heap.size, 0, none⟩) 32 32 a2 (toldB 4 T).length c2 (toldB 4 T)) :=
          ⟨(unhide hM6b).set1 (.slice (some ⟨w6.heap.size, 0, none⟩) 32 32), hbg6.tol (unhide hM6b).got 1 _, hbw6b.tol (unhide hM6b).got 1 _, by omega, unhide HSL, hl2⟩
        clear hg0 hgf hbg6 hbw6b hbw6 hM6 hM6b hk6 hb6
        generalize World.setCell W6 ⟨w5.heap.size + 1 + 1, 1, none⟩ (.slice (some ⟨w6.heap.size, 0, none⟩) 32 32) = W7 at *
        generalize w6.heap.size = K6 at *
        generalize toldB 4 T = B at *
        have hwr1 : IntKind.i64.wrap ((l.length : Int) - (i' : Int)) = (l.length : Int) - i' := by rw [IntKind.wrap_i64]; omega
        have hwr2 : wrap64 ((l.length : Int) - (i' : Int)) = (l.length : Int) - i' := by unfold wrap64; omega
        have hst0 : Still W7 W7.drew := (Still.refl _).drew
        have hS0 := Tail.cells hT7 hst0
        go_region_held (fun W => W.cell? ⟨w5.heap.size + 1 + 1, 0, none⟩ = some (.int .u64 0) ∧ W.cell? ⟨w5.heap.size + 1 + 1, 1, none⟩ = some (.slice (some ⟨K6, 0, none⟩) 32 32) ∧ W.cell? ⟨w5.heap.size + 1, 0, none⟩ = some (.int .u64 0) ∧ W.cell? ⟨w5.heap.size + 1, 1, none⟩ = some (.slice a2 B.length c2) ∧ W.cell? ⟨w5.heap.size, 1, none⟩ = some (.int .i64 i') ∧ W.cell? ⟨w5.heap.size, 2, none⟩ = some (.int .i64 e')) (assumption) (first
          | (go_at_call 14; refine (rd_same hT7 (by assumption)).mono ?_; rintro z w9 ⟨rfl, hst9⟩; have hS9 := Tail.cells hT7 hst9)
          | (go_at_call 28; refine (rd_left hT7 (by assumption)).mono ?_; rintro z w10 ⟨rfl, hst10⟩; have hS10 := Tail.cells hT7 hst10)
          | (go_at_call 29; refine (rd_err hT7 (by assumption)).mono ?_; rintro z w11 ⟨rfl, hw11⟩; subst hw11))
        have hM9 := (unhide hT7).mid.still hst10
        have hn0 := hM9.next.c0
        have hn1 := hM9.next.c1
        have hn2 := hM9.next.c2
        have hd0 := hM9.doc.c0
        have hd1 := hM9.doc.c1
        have hd2 := hM9.doc.c2
        have hdf := fun o => hM9.doc.f o
        have hIe := hide hM9.done
        clear hM9 hS0 hS9 hS10 hst0 hst9 hst10 hT7
        go_wp2
        go_roundw
        case rel => exact ⟨j + 1, i', e', by omega, by go_num, hIe⟩
        case measure => simp [intOf]; omega
    · obtain rfl : j = n := by omega
      have hqd : Rd wr q 0 0 v' := by
        have := (unhide HS4).2.2.1
        unfold Rd at *
        rw [(unhide hI).keep.1 q (by omega) (by omega)]
        exact this
      obtain ⟨va, vc, hv'⟩ : ∃ va vc, v' = .slice va l.length vc := by obtain ⟨_, _, _, va, vc, h, _⟩ := unhide HS4; exact ⟨va, vc, h⟩
      rw [hv'] at hqd
      have hbe : Hid (Below w.heap.size w wr) := by
        have k := (unhide hK1).trans (unhide hI).keep
        have hw1 := hb1.size
        exact hb1.trans ⟨k.2.os, k.2.tape, k.2.output, k.2.size, fun x hx => k.1 x (by omega) (by omega)⟩
      clear hv'
      go_wp2_with fail
      refine (left_any q 0 0 va l.length vc wr hqd (by omega) (by omega) hl2).mono ?_
      rintro z w7 ⟨rfl, hs7⟩
      have hqd7 := hqd.still hs7
      rw [Int.sub_zero]
      go_wp2_with fail
      refine (err_any q 0 0 _ _ hqd7).mono ?_
      rintro z w8 ⟨rfl, hw8⟩
      subst hw8
      go_wp2
      go_ret
      exact ⟨rfl, (unhide hbe).trans (hs7.below _)⟩
end Go.Proofs.Ytcbdjijkliknoaa
