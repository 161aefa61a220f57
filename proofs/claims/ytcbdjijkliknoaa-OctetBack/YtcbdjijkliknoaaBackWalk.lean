/-
  The walk of OctetBack.
-/
import Derived.Test.YtcbdjijkliknoaaBackMath
import Derived.Deep.RegionHeld
namespace Go.Proofs.Ytcbdjijkliknoaa
open Go.RowKit

/-- The list so far: these bytes, in memory of the call's own. -/
def Acc (w1 wr : World) (A : Option Addr) (C : Nat) (L : List Int) : Prop :=
  wr.ownsRow w1.heap.size 5 1 (.slice A L.length C) L.length (L.map (Value.int .u8)) ∧ Below w1.heap.size w1 wr ∧ ∀ x ∈ L, 0 ≤ x ∧ x < 256
/-- .. and the list behind one more form. -/
def AccTo (w1 : World) (L : List Int) (e : Ending) (w' : World) : Prop := ∃ A C, e = .returned (.slice A L.length C) ∧ Hid (Acc w1 w' A C L)

theorem acc_of {w1 wr w' : World} {A : Option Addr} {C : Nat} {L M : List Int} {e : Ending} (h : Acc w1 wr A C L) (m : Made M wr e w') (hM : ∀ x ∈ M, 0 ≤ x ∧ x < 256) (hl : M.length ≤ 140737488355328) : AccTo w1 M e w' := by
  obtain ⟨h1, h2, h3, _⟩ := m
  have := h.2.1.size
  refine ⟨_, _, h1, ?_⟩
  exact ⟨h2.owns this (by unfold maxLen; omega), h.2.1.trans (h3.mono this), hM⟩
theorem Acc.bs {w1 wr : World} {A : Option Addr} {C : Nat} {L : List Int} (h : Acc w1 wr A C L) : Bs wr A L.length L := owns_bs h.1 h.2.2 rfl

theorem back_put8 {w1 wr : World} {A : Option Addr} {C : Nat} {L M : List Int} (x : Int) (h : Hid (Acc w1 wr A C L)) (hM : Hid (M = L ++ lowL x 8)) (hl : M.length ≤ 140737488355328) (hx : 0 ≤ x) :
    Calls Try.prog 13 #[.slice A L.length C, .int .u64 x] wr (AccTo w1 M) := by
  have e := unhide hM
  refine (pu64 C x M hM (unhide h).bs (by rw [e, List.length_append] at hl; omega) hx).mono fun _ _ m => acc_of (unhide h) m ?_ hl
  rw [e]
  exact made_mem L x 8 (unhide h).2.2
theorem back_put4 {w1 wr : World} {A : Option Addr} {C : Nat} {L M : List Int} (x : Int) (h : Hid (Acc w1 wr A C L)) (hM : Hid (M = L ++ lowL x 4)) (hl : M.length ≤ 140737488355328) :
    Calls Try.prog 12 #[.slice A L.length C, .int .u32 (x % 4294967296)] wr (AccTo w1 M) := by
  have e := unhide hM
  refine (pu32 C x M hM (unhide h).bs (by rw [e, List.length_append] at hl; omega)).mono fun _ _ m => acc_of (unhide h) m ?_ hl
  rw [e]
  exact made_mem L x 4 (unhide h).2.2
theorem back_put2 {w1 wr : World} {A : Option Addr} {C : Nat} {L M : List Int} (x : Int) (h : Hid (Acc w1 wr A C L)) (hM : Hid (M = L ++ lowL x 2)) (hl : M.length ≤ 140737488355328) :
    Calls Try.prog 11 #[.slice A L.length C, .int .u16 (IntKind.u16.wrap x)] wr (AccTo w1 M) := by
  have e := unhide hM
  refine (pu16 C x M hM (unhide h).bs (by rw [e, List.length_append] at hl; omega)).mono fun _ _ m => acc_of (unhide h) m ?_ hl
  rw [e]
  exact made_mem L x 2 (unhide h).2.2

theorem key_bs {w : World} {g : Nat} {kl : List Int} {t : TypeId} (h : w.heap[g]? = some (.cells (keyC kl) t (0, 0))) (hk : kl.length = 32) (hb : ∀ x ∈ kl, 0 ≤ x ∧ x < 256) : Bs w (some ⟨g, 0, none⟩) 32 kl := by
  refine ⟨hk, hb, fun _ => ⟨g, 0, rfl, fun i hi => ?_⟩⟩
  have := map_u8 kl i (by omega)
  simpa [World.cell?, h, keyC] using this

/-- Where the reading is. -/
def At (w1 wr : World) (p : Nat) (v : Value) (T : List Int) (i : Nat) : Prop := Rdr wr p v T i 0 ∧ Below w1.heap.size w1 wr ∧ w1.heap.size ≤ p ∧ ∀ x ∈ T, 0 ≤ x ∧ x < 256
theorem At.num {w1 wr w' : World} {p : Nat} {v : Value} {T M : List Int} {i i' : Nat} {k : IntKind} {e : Ending} (h : At w1 wr p v T i) (m : Num k p v T (M, i', 0) wr e w') : e = .returned (.int k (lowN M)) ∧ At w1 w' p v T i' :=
  ⟨m.1, m.2.1, h.2.1.trans (m.2.2.below h.2.2.1), h.2.2.1, h.2.2.2⟩

theorem back_get8 {w1 wr : World} {p : Nat} {v : Value} {T : List Int} {f : Nat → Int} {n i : Nat} {kl : List Int} (hT : Hid (T = encTo f n ++ kl)) (h : Hid (At w1 wr p v T (encTo f i).length)) (hi : i < n) (h3 : Hid (i % 3 = 0)) (hx : 0 ≤ f i) (hx' : f i < 18446744073709551616) :
    Calls Try.prog 25 #[.pointer (some ⟨p, 0, none⟩)] wr fun e w' => e = .returned (.int .u64 (f i)) ∧ Hid (At w1 w' p v T (encTo f (i + 1)).length) := by
  have hm := back_take f i n kl hi 8 (by rw [encAt_0 _ _ (unhide h3), lowL_len]; rfl)
  rw [← unhide hT] at hm
  refine (u64_any p v T _ 0 wr (unhide h).1).mono ?_
  rw [hm, encAt_0 _ _ (unhide h3)]
  intro e w' m
  have := (unhide h).num m
  rw [lowN_8 _ hx hx'] at this
  exact this
theorem back_get4 {w1 wr : World} {p : Nat} {v : Value} {T : List Int} {f : Nat → Int} {n i : Nat} {kl : List Int} (hT : Hid (T = encTo f n ++ kl)) (h : Hid (At w1 wr p v T (encTo f i).length)) (hi : i < n) (h3 : Hid (i % 3 = 1)) :
    Calls Try.prog 24 #[.pointer (some ⟨p, 0, none⟩)] wr fun e w' => e = .returned (.int .u32 (f i % 4294967296)) ∧ Hid (At w1 w' p v T (encTo f (i + 1)).length) := by
  have hm := back_take f i n kl hi 4 (by rw [encAt_1 _ _ (unhide h3), lowL_len]; rfl)
  rw [← unhide hT] at hm
  refine (u32_any p v T _ 0 wr (unhide h).1 (unhide h).2.2.2).mono ?_
  rw [hm, encAt_1 _ _ (unhide h3)]
  intro e w' m
  have := (unhide h).num m
  rw [lowN_4] at this
  exact this
theorem back_get2 {w1 wr : World} {p : Nat} {v : Value} {T : List Int} {f : Nat → Int} {n i : Nat} {kl : List Int} (hT : Hid (T = encTo f n ++ kl)) (h : Hid (At w1 wr p v T (encTo f i).length)) (hi : i < n) (h3 : Hid (i % 3 = 2)) :
    Calls Try.prog 23 #[.pointer (some ⟨p, 0, none⟩)] wr fun e w' => e = .returned (.int .u16 (IntKind.u16.wrap (f i))) ∧ Hid (At w1 w' p v T (encTo f (i + 1)).length) := by
  have hm := back_take f i n kl hi 2 (by rw [encAt_2 _ _ (unhide h3), lowL_len]; rfl)
  rw [← unhide hT] at hm
  refine (u16_any p v T _ 0 wr (unhide h).1 (unhide h).2.2.2).mono ?_
  rw [hm, encAt_2 _ _ (unhide h3)]
  intro e w' m
  have := (unhide h).num m
  rw [lowN_2, ← IntKind.wrap_u16] at this
  exact this

theorem back_key {w1 W : World} {p : Nat} {v : Value} {T : List Int} {f : Nat → Int} {n : Nat} {kl : List Int} (hT : Hid (T = encTo f n ++ kl)) (hk : kl.length = 32) (h : Hid (At w1 W p v T (encTo f n).length)) :
    Calls Try.prog 27 #[.pointer (some ⟨p, 0, none⟩)] W fun e W' => e = .returned (.agg (keyC kl)) ∧ Hid (At w1 W' p v T T.length) := by
  have hm := back_last f n kl hk
  rw [← unhide hT] at hm
  refine (key_any p v T _ 0 W (unhide h).1).mono ?_
  rw [hm]
  rintro e W' ⟨h1, h2, h3⟩
  obtain ⟨hA1, hA2, hA3, hA4⟩ := unhide h
  have hsz := hA2.size
  refine ⟨by rw [h1, keyL_all kl hk], ⟨h2, ?_, hA3, hA4⟩⟩
  have := h3.2.2
  refine hA2.trans ⟨this.os, this.tape, this.output, this.size, fun k hk => h3.2.1 k (by omega) (by omega)⟩
theorem back_left {w1 W : World} {p : Nat} {v : Value} {T : List Int} (h : Hid (At w1 W p v T T.length)) :
    Calls Try.prog 28 #[.pointer (some ⟨p, 0, none⟩)] W fun e W' => e = .returned (.int .i64 0) ∧ Hid (At w1 W' p v T T.length) := by
  obtain ⟨hA1, hA2, hA3, hA4⟩ := unhide h
  refine (left_rdr p v T _ 0 W hA1).mono ?_
  rintro e W' ⟨h1, h2⟩
  rw [Int.sub_self] at h1
  exact ⟨h1, ⟨hA1.still h2, hA2.trans (h2.below _), hA3, hA4⟩⟩
theorem back_err {w1 W : World} {p : Nat} {v : Value} {T : List Int} (h : Hid (At w1 W p v T T.length)) :
    Calls Try.prog 29 #[.pointer (some ⟨p, 0, none⟩)] W fun e W' => e = .returned (.int .i64 0) ∧ W' = W :=
  err_rdr p v T _ 0 W (unhide h).1
theorem At.drew {w1 W : World} {p : Nat} {v : Value} {T : List Int} {i : Nat} (h : At w1 W p v T i) : At w1 W.drew p v T i :=
  ⟨h.1.still (Still.refl _).drew, h.2.1.drew, h.2.2.1, h.2.2.2⟩

set_option maxHeartbeats 2000000 in
theorem back_any (a : Option Addr) (n c : Nat) (l kl : List Int) (w : World) (hA : Us w a n l) (hn : n * 8 ≤ 140737488351232) (hk : kl.length = 32) (hkb : ∀ x ∈ kl, 0 ≤ x ∧ x < 256) :
    Calls Try.prog 7 #[.slice a n c, .agg (keyC kl)] w fun e w' => e = .returned (.bool true) ∧ Below w.heap.size w w' := by
  obtain ⟨f, hf⟩ : ∃ f : Nat → Int, f = fun i => l.getD i 0 := ⟨_, rfl⟩
  go_enter Try.func7, Try.ntmps7
  go_wp2_with (go_at_call 9; refine (wakes_any _).mono ?_; rintro e w1 ⟨rfl, hb1⟩)
  have hK : Hid (w1.heap[w.heap.size]? = some (.cells (keyC kl) 53 (0, 0))) := (hb1.block _ (by simp)).trans (heap_alloc_new w (.cells (keyC kl) 53 (0, 0)))
  have hbw : Below w.heap.size w w1 := (Below.new w _).trans (hb1.mono (by simp))
  have hU : Us w1 a n l := hA.below hbw
  have HA : Hid (0 < n → ∃ b off, a = some ⟨b, off, none⟩ ∧ ∀ i, i < n → w1.cell? ⟨b, off + i, none⟩ = some (.int .u64 (f i))) := by rw [hf]; exact hU.2.2
  have HF : Hid (∀ i, i < n → 0 ≤ f i ∧ f i < 18446744073709551616) := by
    rw [hf]
    intro i hi
    exact hU.2.1 _ (getD_mem l i (by have := hU.1; omega))
  have HKB := hide hkb
  have hwz : w.heap.size < w1.heap.size := by have := hb1.size; simp at this; omega
  clear hf hb1 hU hA hkb
  go_loopw [5, 15] (fun v i wr => ∃ (j : Nat) (A : Option Addr) (C : Nat), j ≤ n ∧ i = .int .i64 j ∧ v = .slice A (encTo f j).length C ∧ Hid (Acc w1 wr A C (encTo f j))) (fun _ i _ => n - (intOf i).toNat)
  case atStart => exact ⟨0, none, 0, Nat.zero_le _, rfl, rfl, ⟨World.ownsRow_nil _ _ _ _, Below.refl _ _, by simp [encTo]⟩⟩
  case round =>
    obtain ⟨j, A, C, hj, rfl, rfl, hacc⟩ := hrel
    by_cases hlt : j < n
    · obtain ⟨b, off, rfl, hc⟩ := unhide HA (by omega)
      have hck : wr.cell? ⟨b, off + j, none⟩ = some (.int .u64 (f j)) := ((unhide hacc).2.1.cell (p := ⟨b, off + j, none⟩) (lt_of_cell (hc j hlt))).trans (hc j hlt)
      have hx := unhide HF j hlt
      have hlen := encTo_len f (j + 1)
      obtain ⟨M, hM0⟩ : ∃ M, M = encTo f (j + 1) := ⟨_, rfl⟩
      have hM : M = encTo f j ++ encAt j (f j) := hM0
      rw [← hM0] at hlen
      have HM0 := hide hM0
      have hxe0 := fun h => encAt_0 j (f j) h
      have hxe1 := fun h => encAt_1 j (f j) h
      have hxe2 := fun h => encAt_2 j (f j) h
      obtain ⟨hx0, hx1⟩ := hx
      have hji : (j : Int) < n := by omega
      have hMl : M.length ≤ 140737488355328 := by omega
      clear hc hM0
      rcases (show j % 3 = 0 ∨ j % 3 = 1 ∨ j % 3 = 2 by omega) with h3 | h3 | h3
      · rw [hxe0 h3] at hM
        have HM := hide hM
        have h3a : ((j : Int) % 3 == 0) = true := by simp; omega
        generalize encTo f j = L at *
        generalize f j = x at *
        clear hM hxe0 hxe1 hxe2 h3 HA HF
        go_wp2_with fail
        refine (back_put8 x hacc HM hMl hx0).mono ?_
        rintro e w2 ⟨A2, C2, rfl, hacc2⟩
        go_wp2
        go_roundw
        case rel => exact ⟨j + 1, A2, C2, by omega, by go_num, by rw [← unhide HM0], by rw [← unhide HM0]; exact hacc2⟩
        case measure => simp [intOf]; omega
      · rw [hxe1 h3] at hM
        have HM := hide hM
        have h3a : ((j : Int) % 3 == 0) = false := by simp; omega
        have h3b : ((j : Int) % 3 == 1) = true := by simp; omega
        generalize encTo f j = L at *
        generalize f j = x at *
        clear hM hxe0 hxe1 hxe2 h3 HA HF
        go_wp2_with fail
        refine (back_put4 x hacc HM hMl).mono ?_
        rintro e w2 ⟨A2, C2, rfl, hacc2⟩
        go_wp2
        go_roundw
        case rel => exact ⟨j + 1, A2, C2, by omega, by go_num, by rw [← unhide HM0], by rw [← unhide HM0]; exact hacc2⟩
        case measure => simp [intOf]; omega
      · rw [hxe2 h3] at hM
        have HM := hide hM
        have h3a : ((j : Int) % 3 == 0) = false := by simp; omega
        have h3b : ((j : Int) % 3 == 1) = false := by simp; omega
        generalize encTo f j = L at *
        generalize f j = x at *
        clear hM hxe0 hxe1 hxe2 h3 HA HF
        go_wp2_with fail
        refine (back_put2 x hacc HM hMl).mono ?_
        rintro e w2 ⟨A2, C2, rfl, hacc2⟩
        go_wp2
        go_roundw
        case rel => exact ⟨j + 1, A2, C2, by omega, by go_num, by rw [← unhide HM0], by rw [← unhide HM0]; exact hacc2⟩
        case measure => simp [intOf]; omega
    · obtain rfl : j = n := by omega
      obtain ⟨L, hL⟩ : ∃ L, L = encTo f j := ⟨_, rfl⟩
      have hlen := encTo_len f j
      have HL := hide hL
      rw [← hL] at hlen hacc ⊢
      clear hL
      have hkC : Hid (Bs wr (some ⟨w.heap.size, 0, none⟩) 32 kl) := key_bs (((unhide hacc).2.1.block _ hwz).trans (unhide hK)) hk (unhide HKB)
      have hww := (unhide hacc).2.1.size
      go_wp2_with (first | (at_builtin; refine wpList_append_bytes (by simp [Region.wanted]) (.tmp 38) (.tmp 39) rfl w1.heap.size (.slice A L.length C) L.length L rfl (unhide hacc).1 (some ⟨w.heap.size, 0, none⟩) 32 32 kl rfl (by simp) (unhide hkC) (by omega) hww ?_; intro a3 c3 w5 ho5 hg5) | fail)
      obtain ⟨T, hT⟩ : ∃ T, T = L ++ kl := ⟨_, rfl⟩
      have hTl : T.length = L.length + 32 := by rw [hT, List.length_append, hk]
      have hTb : ∀ x ∈ T, 0 ≤ x ∧ x < 256 := by
        rw [hT]
        intro y hy
        rcases List.mem_append.1 hy with h | h
        · exact (unhide hacc).2.2 y h
        · exact unhide HKB y h
      have hB5 : Bs w5 a3 (L.length + 32) T := by
        rw [← hT] at ho5
        exact owns_bs (unhide ho5) hTb hTl
      have hb5 : Below w1.heap.size w1 w5 := (unhide hacc).2.1.grown hg5 hww (by
        intro k hk
        rcases (unhide hacc).1.2 with ⟨h, _⟩ | ⟨g, cap, cur, h, hg, _⟩
        · rw [h] at hk; simp [Value.ownBlock] at hk
        · rw [h] at hk; simp only [Value.ownBlock, Option.some.injEq] at hk; omega)
      refine (read_any _ _ _ T _ hB5 (by omega)).mono ?_
      rintro e w6 ⟨p, v, rfl, hp, hrd, hsl, hb6⟩
      have hAt : Hid (At w1 w6 p v T (encTo f 0).length) := ⟨⟨by simp [encTo], by omega, hrd, hsl⟩, hb5.trans (hb6.mono hb5.size), Nat.le_trans hb5.size hp, hTb⟩
      have HT : Hid (T = encTo f j ++ kl) := by rw [← unhide HL]; exact hT
      have HTl := hide hTl
      clear hT hTl hTb hB5 hb5 hp hrd hsl hb6 ho5 hg5 hkC hww hacc
      go_wp2
      go_loopw [46] (fun t wr => ∃ i : Nat, i ≤ j ∧ t = .int .i64 i ∧ Hid (At w1 wr p v T (encTo f i).length)) (fun t _ => j - (intOf t).toNat)
      case atStart => exact ⟨0, Nat.zero_le _, rfl, hAt⟩
      case round =>
        clear hAt
        obtain ⟨i, hi, rfl, hAt⟩ := hrel
        by_cases hlt2 : i < j
        · obtain ⟨b, off, rfl, hc⟩ := unhide HA (by omega)
          have hck := ((unhide hAt).2.1.cell (p := ⟨b, off + i, none⟩) (lt_of_cell (hc i hlt2))).trans (hc i hlt2)
          obtain ⟨hx0, hx1⟩ := unhide HF i hlt2
          have hji : (i : Int) < j := by omega
          clear hc HA HF
          rcases (show i % 3 = 0 ∨ i % 3 = 1 ∨ i % 3 = 2 by omega) with h3 | h3 | h3
          · have H3 := hide h3
            have h3a : ((i : Int) % 3 == 0) = true := by simp; omega
            clear h3
            go_wp2_with fail
            refine (back_get8 HT hAt hlt2 H3 hx0 hx1).mono ?_
            rintro e w7 ⟨rfl, hAt7⟩
            go_wp2
            go_roundw
            case rel => exact ⟨i + 1, by omega, by go_num, hAt7⟩
            case measure => simp [intOf]; omega
          · have H3 := hide h3
            have h3a : ((i : Int) % 3 == 0) = false := by simp; omega
            have h3b : ((i : Int) % 3 == 1) = true := by simp; omega
            clear h3
            go_wp2_with fail
            refine (back_get4 HT hAt hlt2 H3).mono ?_
            rintro e w7 ⟨rfl, hAt7⟩
            go_wp2
            go_roundw
            case rel => exact ⟨i + 1, by omega, by go_num, hAt7⟩
            case measure => simp [intOf]; omega
          · have H3 := hide h3
            have h3a : ((i : Int) % 3 == 0) = false := by simp; omega
            have h3b : ((i : Int) % 3 == 1) = false := by simp; omega
            clear h3
            go_wp2_with fail
            refine (back_get2 HT hAt hlt2 H3).mono ?_
            rintro e w7 ⟨rfl, hAt7⟩
            go_wp2
            go_roundw
            case rel => exact ⟨i + 1, by omega, by go_num, hAt7⟩
            case measure => simp [intOf]; omega
        · obtain rfl : i = j := by omega
          obtain ⟨KC, hKC⟩ : ∃ KC, KC = kl.map (Value.int .u8) := ⟨_, rfl⟩
          have hKC2 : keyC kl = KC.toArray := by rw [hKC]; rfl
          have hq : ∀ w, Sem.run Try.prog (Op.equalIn 10000 53 (.agg (keyC kl)) (.agg KC.toArray)) w = .ok true w := by rw [← hKC2]; exact key_eq kl hk
          have hu53 := Try.underlying53
          have hi53 : (Try.prog.info? 53).map (·.size) = some KC.length := by rw [Try.info53, hKC, List.length_map, hk]
          have hAd : Hid (At w1 wr.drew p v T (encTo f i).length) := (unhide hAt).drew
          have HR : Hid (∀ W j, At w1 W p v T j → W.rangeAt w.heap.size 0 KC) := by
            intro W j hW j' u hj'
            have e := (hW.2.1.block _ hwz).trans (unhide hK)
            rw [hKC2] at e
            simpa [World.cell?, e] using hj'
          have hS0 : wr.drew.rangeAt w.heap.size 0 KC := unhide HR _ _ (unhide hAd)
          clear hKC hKC2 HA HF hwz
          go_wp2
          go_region_held (fun W' => W'.rangeAt w.heap.size 0 KC) (assumption) (first
            | (go_at_call 27; refine (back_key HT hk (by assumption)).mono ?_; rintro e w8 ⟨rfl, hA8⟩; have hS8 := unhide HR _ _ (unhide hA8))
            | (go_at_call 28; refine (back_left (by assumption)).mono ?_; rintro e w8 ⟨rfl, hA8⟩; have hS8 := unhide HR _ _ (unhide hA8))
            | (go_at_call 29; refine (back_err (by assumption)).mono ?_; rintro e w8 ⟨rfl, hw8⟩; subst hw8))
          go_wp2
          go_ret
          exact ⟨rfl, hbw.trans ((unhide hA8).2.1.mono hbw.size)⟩
end Go.Proofs.Ytcbdjijkliknoaa
