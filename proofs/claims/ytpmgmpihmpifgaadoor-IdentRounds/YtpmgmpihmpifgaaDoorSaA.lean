/-
  Small functions of sha: a right turn, a digit; cells of words and bytes. The steps of a block. The words of a block.
-/
import Derived.Test.YtpmgmpihmpifgaaDoorMkA
import Derived.WalkMore
import Derived.Deep.Cut
import Derived.StillTailTactics
import Derived.Deep.QuietTactic
import Derived.BigQuiet
namespace Go.Proofs.YtpmgmpihmpifgaaDoor
open Go.RowKit
set_option maxRecDepth 100000
set_option linter.unusedSimpArgs false
set_option linter.unusedVariables false

theorem Bl.cell {w v : World} {L : List Blk} (h : Bl w L v) (k : Nat) {x : Blk} (hk : L[k]? = some x) (i : Nat) (y : Value) : Bl w (L.set k ⟨x.g, x.c.setIfInBounds i y, x.t⟩) (v.setCell ⟨x.g, i, none⟩ y) := by
  have hx := h.get k hk
  have hn : ∀ j y, L[j]? = some y → j ≠ k → y.g ≠ x.g := by
    intro j y hj hji
    obtain ⟨hjl, rfl⟩ := List.getElem?_eq_some_iff.1 hj
    obtain ⟨hil, rfl⟩ := List.getElem?_eq_some_iff.1 hk
    rcases Nat.lt_or_gt_of_ne hji with hlt | hlt
    · exact List.pairwise_iff_getElem.1 h.ne j k hjl hil hlt
    · exact (List.pairwise_iff_getElem.1 h.ne k j hil hjl hlt).symm
  refine ⟨h.gr.setCell (h.own k hk) y, ?_, ?_⟩
  · intro z hz
    obtain ⟨j, hj⟩ := List.mem_iff_getElem?.1 hz
    by_cases hji : j = k
    · subst hji
      rw [List.getElem?_set_self', hk] at hj
      simp at hj
      have ho := h.own j hk
      subst hj
      exact ⟨heap_setCell_same _ _ _ _ _ _ hx, ho⟩
    · rw [List.getElem?_set_ne (fun e => hji e.symm)] at hj
      exact ⟨(Below.heap_setCell v ⟨x.g, i, none⟩ y z.g (hn j z hj hji)).trans (h.get j hj), h.own j hj⟩
  · refine List.pairwise_iff_getElem.2 fun a b ha hb hab => ?_
    rw [List.length_set] at ha hb
    have h0 := List.pairwise_iff_getElem.1 h.ne a b ha hb hab
    obtain ⟨hil, rfl⟩ := List.getElem?_eq_some_iff.1 hk
    rw [List.getElem_set, List.getElem_set]
    split
    · rename_i e
      subst e
      split
      · omega
      · exact h0
    · split
      · rename_i e
        subst e
        exact h0
      · exact h0

/-- cells of words, of bytes -/
def uc (l : List Int) : Array Value := (l.map (Value.int .u32)).toArray
theorem uc_size (l : List Int) : (uc l).size = l.length := by simp [uc]
theorem uc_one (l : List Int) : (uc l).all (·.oneCell') = true := by unfold uc; simp [Value.oneCell']
theorem uc_set (l : List Int) (i : Nat) (x : Int) : (uc l).setIfInBounds i (.int .u32 x) = uc (l.set i x) := by
  unfold uc
  rw [List.setIfInBounds_toArray, List.map_set]
theorem uc_get (l : List Int) (i : Nat) (hi : i < l.length) : (uc l)[i]? = some (.int .u32 (l.getD i 0)) := by
  unfold uc
  simp [hi]
theorem uc_cell {v : World} {g : Nat} {l : List Int} {t : TypeId} (h : v.heap[g]? = some (.cells (uc l) t (0, 0))) (i : Nat) (hi : i < l.length) : v.cell? ⟨g, i, none⟩ = some (.int .u32 (l.getD i 0)) := cell_of h (uc_get l i hi)
def kc (l : List Int) : Array Value := (l.map (Value.int .u8)).toArray
theorem kc_size (l : List Int) : (kc l).size = l.length := by simp [kc]
theorem kc_one (l : List Int) : (kc l).all (·.oneCell') = true := by unfold kc; simp [Value.oneCell']
theorem kc_set (l : List Int) (i : Nat) (x : Int) : (kc l).setIfInBounds i (.int .u8 x) = kc (l.set i x) := by
  unfold kc
  rw [List.setIfInBounds_toArray, List.map_set]
theorem kc_get (l : List Int) (i : Nat) (hi : i < l.length) : (kc l)[i]? = some (.int .u8 (l.getD i 0)) := by
  unfold kc
  simp [hi]
theorem kc_cell {v : World} {g : Nat} {l : List Int} {t : TypeId} (h : v.heap[g]? = some (.cells (kc l) t (0, 0))) (i : Nat) (hi : i < l.length) : v.cell? ⟨g, i, none⟩ = some (.int .u8 (l.getD i 0)) := cell_of h (kc_get l i hi)
theorem getD_set (l : List Int) (i j : Nat) (x : Int) (hi : i < l.length) : (l.set i x).getD j 0 = if j = i then x else l.getD j 0 := by
  by_cases h : j = i
  · subst h
    simp [hi]
  · rw [if_neg h]
    simp [List.getElem?_set_ne (fun e => h e.symm)]

/-- a right turn of a word -/
def tn (x : Int) (n : Nat) : Int := bits .or .u32 (x / 2 ^ n) (IntKind.u32.wrap (x * 2 ^ (32 - n)))
theorem sturn_ok (x : Int) (n : Nat) (hn : 1 ≤ n ∧ n ≤ 31) (w : World) :
    Calls Tryd.prog 104 #[.int .u32 x, .int .i64 n] w (fun r w' => r = .returned (.int .u32 (tn x n)) ∧ w' = w.drew) := by
  obtain ⟨m, hm⟩ : ∃ m, m = 32 - n := ⟨_, rfl⟩
  have e1 : 32 - (n : Int) = (m : Int) := by omega
  have e2 : IntKind.i64.wrap (m : Int) = (m : Int) := by rw [IntKind.wrap_i64]; omega
  have m0 : 0 ≤ (m : Int) := by omega
  have n0 : 0 ≤ (n : Int) := by omega
  replace hm := hide hm
  go_enter Tryd.func104, Tryd.ntmps104
  go_wp2_with fail
  go_still_tail 8, (by kernel_rfl)
  go_wp2_with fail
  refine bodyPost_ret (v := .int .u32 (tn x n)) ?_ rfl ⟨rfl, rfl⟩
  unfold tn
  rw [← unhide hm]
  simp [results, Tryd.results104, go_sem]
theorem sturn_int (x m : Int) (hm : 1 ≤ m ∧ m ≤ 31) (w : World) :
    Calls Tryd.prog 104 #[.int .u32 x, .int .i64 m] w (fun r w' => r = .returned (.int .u32 (tn x m.toNat)) ∧ w' = w.drew) := by
  obtain ⟨n, rfl⟩ := Int.eq_ofNat_of_zero_le (a := m) (by omega)
  exact sturn_ok x n (by omega) w
/-- a digit of the constants -/
def dg (d : Int) : Int := if 97 ≤ d then d - 87 else d - 48
theorem value_ok (d : Int) (hd : (48 ≤ d ∧ d ≤ 57) ∨ (97 ≤ d ∧ d ≤ 102)) (w : World) :
    Calls Tryd.prog 103 #[.int .i32 d] w (fun r w' => r = .returned (.int .u32 (dg d)) ∧ w' = w) := by
  rcases hd with hd | hd
  · have e : dg d = d - 48 := by unfold dg; rw [if_neg (by omega)]
    rw [e]
    have hl : ¬ 97 ≤ d := by omega
    go_enter Tryd.func103, Tryd.ntmps103
    go_wp2_with fail
    refine bodyPost_ret (v := .int .u32 (d - 48)) ?_ rfl ⟨rfl, rfl⟩
    simp [results, Tryd.results103, go_sem]
  · have e : dg d = d - 87 := by unfold dg; rw [if_pos (by omega)]
    rw [e]
    have hl : 97 ≤ d := by omega
    go_enter Tryd.func103, Tryd.ntmps103
    go_wp2_with fail
    refine bodyPost_ret (v := .int .u32 (d - 87)) ?_ rfl ⟨rfl, rfl⟩
    simp [results, Tryd.results103, go_sem]
    try omega
theorem Tryd.infoW : (Tryd.prog.info? 70).map (·.size) = some 64 := by kernel_rfl
theorem Tryd.infoS : (Tryd.prog.info? 73).map (·.size) = some 8 := by kernel_rfl


def xr (a b : Int) : Int := bits .xor .u32 a b
def an (a b : Int) : Int := bits .and .u32 a b
def ad (a b : Int) : Int := IntKind.u32.wrap (a + b)
theorem ad_eq (a b : Int) : ad a b = (a + b) % 4294967296 := by unfold ad; rw [IntKind.wrap_u32]
/-- eight words -/
structure St where
  (a b c d e f g h : Int)
def T1 (e f g h k w : Int) : Int := ad (ad (ad (ad h (xr (xr (tn e 6) (tn e 11)) (tn e 25))) (xr (an e f) (an (xr 4294967295 e) g))) k) w
def T2 (a b c : Int) : Int := ad (xr (xr (tn a 2) (tn a 13)) (tn a 22)) (xr (xr (an a b) (an a c)) (an b c))
/-- one step -/
def rnd (s : St) (k w : Int) : St := ⟨ad (T1 s.e s.f s.g s.h k w) (T2 s.a s.b s.c), s.a, s.b, s.c, ad s.d (T1 s.e s.f s.g s.h k w), s.e, s.f, s.g⟩
/-- so many steps -/
def rnds (s : St) (W K : List Int) : Nat → St
  | 0 => s
  | n + 1 => rnd (rnds s W K n) (K.getD n 0) (W.getD n 0)
def St.of (s : List Int) : St := ⟨s.getD 0 0, s.getD 1 0, s.getD 2 0, s.getD 3 0, s.getD 4 0, s.getD 5 0, s.getD 6 0, s.getD 7 0⟩
/-- the state behind a block's words -/
def stp (s W K : List Int) : List Int :=
  [ad (s.getD 0 0) (rnds (.of s) W K 64).a, ad (s.getD 1 0) (rnds (.of s) W K 64).b, ad (s.getD 2 0) (rnds (.of s) W K 64).c, ad (s.getD 3 0) (rnds (.of s) W K 64).d,
   ad (s.getD 4 0) (rnds (.of s) W K 64).e, ad (s.getD 5 0) (rnds (.of s) W K 64).f, ad (s.getD 6 0) (rnds (.of s) W K 64).g, ad (s.getD 7 0) (rnds (.of s) W K 64).h]
theorem stp_len (s W K : List Int) : (stp s W K).length = 8 := rfl
def Z8 : List Int := [0, 0, 0, 0, 0, 0, 0, 0]

set_option maxHeartbeats 2000000 in
theorem steps_ok (s W K : List Int) (hs : s.length = 8) (hW : W.length = 64) (hK : K.length = 64) (w : World) :
    Calls Tryd.prog 87 #[.agg (uc s), .agg (uc W), .agg (uc K)] w (fun r w' => r = .returned (.agg (uc (stp s W K))) ∧ Gr w w') := by
  obtain ⟨S, hS⟩ : ∃ S, S = uc s := ⟨_, rfl⟩
  obtain ⟨A, hA⟩ : ∃ A, A = uc W := ⟨_, rfl⟩
  obtain ⟨C, hC⟩ : ∃ C, C = uc K := ⟨_, rfl⟩
  rw [← hS, ← hA, ← hC]
  replace hS := hide hS
  replace hA := hide hA
  replace hC := hide hC
  go_enter Tryd.func87, Tryd.ntmps87
  go_upto_region 1 with fail
  have hB := ((((Bl.nil w).new S 73).new A 70).new C 70).new #[.int .u32 0, .int .u32 0, .int .u32 0, .int .u32 0, .int .u32 0, .int .u32 0, .int .u32 0, .int .u32 0] 73
  simp only [size_alloc, List.nil_append, List.cons_append] at hB
  replace hB : Bl w [⟨w.heap.size, S, 73⟩, ⟨w.heap.size + 1, A, 70⟩, ⟨w.heap.size + 1 + 1, C, 70⟩, ⟨w.heap.size + 1 + 1 + 1, #[.int .u32 0, .int .u32 0, .int .u32 0, .int .u32 0, .int .u32 0, .int .u32 0, .int .u32 0, .int .u32 0], 73⟩] ((((w.alloc (.cells S 73)).alloc (.cells A 70)).alloc (.cells C 70)).alloc (.cells #[.int .u32 0, .int .u32 0, .int .u32 0, .int .u32 0, .int .u32 0, .int .u32 0, .int .u32 0, .int .u32 0] 73)) := hB
  have hB0 := hide hB
  have c : ∀ j, j < 8 → ((((w.alloc (.cells S 73)).alloc (.cells A 70)).alloc (.cells C 70)).alloc (.cells #[.int .u32 0, .int .u32 0, .int .u32 0, .int .u32 0, .int .u32 0, .int .u32 0, .int .u32 0, .int .u32 0] 73)).cell? ⟨w.heap.size, j, none⟩ = some (.int .u32 (s.getD j 0)) := fun j hj => by
    have h1 := hB.get 0 (x := ⟨w.heap.size, S, 73⟩) rfl
    rw [unhide hS] at h1
    rw [unhide hS]
    exact uc_cell h1 j (by omega)
  obtain ⟨s0, e0, c0⟩ : ∃ x, Hid (x = s.getD 0 0) ∧ ((((w.alloc (.cells S 73)).alloc (.cells A 70)).alloc (.cells C 70)).alloc (.cells #[.int .u32 0, .int .u32 0, .int .u32 0, .int .u32 0, .int .u32 0, .int .u32 0, .int .u32 0, .int .u32 0] 73)).cell? ⟨w.heap.size, 0, none⟩ = some (.int .u32 x) := ⟨_, rfl, c 0 (by omega)⟩
  obtain ⟨s1, e1, c1⟩ : ∃ x, Hid (x = s.getD 1 0) ∧ ((((w.alloc (.cells S 73)).alloc (.cells A 70)).alloc (.cells C 70)).alloc (.cells #[.int .u32 0, .int .u32 0, .int .u32 0, .int .u32 0, .int .u32 0, .int .u32 0, .int .u32 0, .int .u32 0] 73)).cell? ⟨w.heap.size, 1, none⟩ = some (.int .u32 x) := ⟨_, rfl, c 1 (by omega)⟩
  obtain ⟨s2, e2, c2⟩ : ∃ x, Hid (x = s.getD 2 0) ∧ ((((w.alloc (.cells S 73)).alloc (.cells A 70)).alloc (.cells C 70)).alloc (.cells #[.int .u32 0, .int .u32 0, .int .u32 0, .int .u32 0, .int .u32 0, .int .u32 0, .int .u32 0, .int .u32 0] 73)).cell? ⟨w.heap.size, 2, none⟩ = some (.int .u32 x) := ⟨_, rfl, c 2 (by omega)⟩
  obtain ⟨s3, e3, c3⟩ : ∃ x, Hid (x = s.getD 3 0) ∧ ((((w.alloc (.cells S 73)).alloc (.cells A 70)).alloc (.cells C 70)).alloc (.cells #[.int .u32 0, .int .u32 0, .int .u32 0, .int .u32 0, .int .u32 0, .int .u32 0, .int .u32 0, .int .u32 0] 73)).cell? ⟨w.heap.size, 3, none⟩ = some (.int .u32 x) := ⟨_, rfl, c 3 (by omega)⟩
  obtain ⟨s4, e4, c4⟩ : ∃ x, Hid (x = s.getD 4 0) ∧ ((((w.alloc (.cells S 73)).alloc (.cells A 70)).alloc (.cells C 70)).alloc (.cells #[.int .u32 0, .int .u32 0, .int .u32 0, .int .u32 0, .int .u32 0, .int .u32 0, .int .u32 0, .int .u32 0] 73)).cell? ⟨w.heap.size, 4, none⟩ = some (.int .u32 x) := ⟨_, rfl, c 4 (by omega)⟩
  obtain ⟨s5, e5, c5⟩ : ∃ x, Hid (x = s.getD 5 0) ∧ ((((w.alloc (.cells S 73)).alloc (.cells A 70)).alloc (.cells C 70)).alloc (.cells #[.int .u32 0, .int .u32 0, .int .u32 0, .int .u32 0, .int .u32 0, .int .u32 0, .int .u32 0, .int .u32 0] 73)).cell? ⟨w.heap.size, 5, none⟩ = some (.int .u32 x) := ⟨_, rfl, c 5 (by omega)⟩
  obtain ⟨s6, e6, c6⟩ : ∃ x, Hid (x = s.getD 6 0) ∧ ((((w.alloc (.cells S 73)).alloc (.cells A 70)).alloc (.cells C 70)).alloc (.cells #[.int .u32 0, .int .u32 0, .int .u32 0, .int .u32 0, .int .u32 0, .int .u32 0, .int .u32 0, .int .u32 0] 73)).cell? ⟨w.heap.size, 6, none⟩ = some (.int .u32 x) := ⟨_, rfl, c 6 (by omega)⟩
  obtain ⟨s7, e7, c7⟩ : ∃ x, Hid (x = s.getD 7 0) ∧ ((((w.alloc (.cells S 73)).alloc (.cells A 70)).alloc (.cells C 70)).alloc (.cells #[.int .u32 0, .int .u32 0, .int .u32 0, .int .u32 0, .int .u32 0, .int .u32 0, .int .u32 0, .int .u32 0] 73)).cell? ⟨w.heap.size, 7, none⟩ = some (.int .u32 x) := ⟨_, rfl, c 7 (by omega)⟩
  clear c hB
  replace hB := hB0
  clear hB0
  generalize World.alloc _ _ = u at *
  replace hB : Hid (Bl w [⟨w.heap.size, S, 73⟩, ⟨w.heap.size + 1, A, 70⟩, ⟨w.heap.size + 1 + 1, C, 70⟩, ⟨w.heap.size + 1 + 1 + 1, uc Z8, 73⟩] u) := hB
  go_quiet (fail)
  replace hB : Hid (Bl w [⟨w.heap.size, S, 73⟩, ⟨w.heap.size + 1, A, 70⟩, ⟨w.heap.size + 1 + 1, C, 70⟩, ⟨w.heap.size + 1 + 1 + 1, uc Z8, 73⟩] (u.drewN nq)) := (unhide hB).drewN nq
  clear c0 c1 c2 c3 c4 c5 c6 c7
  generalize World.drewN _ _ = u1 at *
  obtain ⟨a0, b0, d0, f0, g0, h0, i0, j0⟩ : s0 = (St.of s).a ∧ s1 = (St.of s).b ∧ s2 = (St.of s).c ∧ s3 = (St.of s).d ∧ s4 = (St.of s).e ∧ s5 = (St.of s).f ∧ s6 = (St.of s).g ∧ s7 = (St.of s).h := ⟨unhide e0, unhide e1, unhide e2, unhide e3, unhide e4, unhide e5, unhide e6, unhide e7⟩
  obtain ⟨z, hz⟩ : ∃ z, z = St.of s := ⟨_, rfl⟩
  rw [← hz] at a0 b0 d0 f0 g0 h0 i0 j0
  subst a0 b0 d0 f0 g0 h0 i0 j0
  clear e0 e1 e2 e3 e4 e5 e6 e7
  replace hz := hide hz
  go_wp2_with fail
  go_loopw [36, 7, 8, 9, 10, 11, 12, 13, 14] (fun i a b c d e f g h wr => ∃ n : Nat, ∃ q : St, n ≤ 64 ∧ i = .int .i64 n ∧ a = .int .u32 q.a ∧ b = .int .u32 q.b ∧ c = .int .u32 q.c ∧ d = .int .u32 q.d ∧ e = .int .u32 q.e ∧ f = .int .u32 q.f ∧ g = .int .u32 q.g ∧ h = .int .u32 q.h ∧ Hid (q = rnds z W K n) ∧ Hid (Bl w [⟨w.heap.size, S, 73⟩, ⟨w.heap.size + 1, A, 70⟩, ⟨w.heap.size + 1 + 1, C, 70⟩, ⟨w.heap.size + 1 + 1 + 1, uc Z8, 73⟩] wr)) (fun i _ _ _ _ _ _ _ _ _ => 64 - (intOf i).toNat)
  case atStart => exact ⟨0, z, by omega, rfl, rfl, rfl, rfl, rfl, rfl, rfl, rfl, rfl, rfl, hB⟩
  case round =>
  clear hB
  obtain ⟨n, q, hn, rfl, rfl, rfl, rfl, rfl, rfl, rfl, rfl, rfl, hq, hB⟩ := hrel
  by_cases hl : n < 64
  · have cW : wr.cell? ⟨w.heap.size + 1, n, none⟩ = some (.int .u32 (W.getD n 0)) := by
      have h1 := (unhide hB).get 1 (x := ⟨w.heap.size + 1, A, 70⟩) rfl
      rw [unhide hA] at h1
      exact uc_cell h1 n (by omega)
    have cK : wr.cell? ⟨w.heap.size + 1 + 1, n, none⟩ = some (.int .u32 (K.getD n 0)) := by
      have h1 := (unhide hB).get 2 (x := ⟨w.heap.size + 1 + 1, C, 70⟩) rfl
      rw [unhide hC] at h1
      exact uc_cell h1 n (by omega)
    have hq2 : Hid (rnd q (K.getD n 0) (W.getD n 0) = rnds z W K (n + 1)) := by
      rw [unhide hq]
      rfl
    obtain ⟨qa, qb, qc, qd, qe, qf, qg, qh⟩ := q
    generalize K.getD n 0 = k at *
    generalize W.getD n 0 = x at *
    have nI : (n : Int) < 64 := by omega
    go_upto_region 7 with (go_at_call 104; refine (sturn_int _ _ (by omega) _).mono ?_; rintro e w1 ⟨rfl, rfl⟩)
    replace hB : Hid (Bl w [⟨w.heap.size, S, 73⟩, ⟨w.heap.size + 1, A, 70⟩, ⟨w.heap.size + 1 + 1, C, 70⟩, ⟨w.heap.size + 1 + 1 + 1, uc Z8, 73⟩] wr.drew.drew.drew.drew.drew.drew) := (unhide hB).drew.drew.drew.drew.drew.drew
    replace cW : wr.drew.drew.drew.drew.drew.drew.cell? ⟨w.heap.size + 1, n, none⟩ = some (.int .u32 x) := cW
    replace cK : wr.drew.drew.drew.drew.drew.drew.cell? ⟨w.heap.size + 1 + 1, n, none⟩ = some (.int .u32 k) := cK
    generalize wr.drew.drew.drew.drew.drew.drew = v at *
    go_quiet (fail)
    replace hB : Hid (Bl w [⟨w.heap.size, S, 73⟩, ⟨w.heap.size + 1, A, 70⟩, ⟨w.heap.size + 1 + 1, C, 70⟩, ⟨w.heap.size + 1 + 1 + 1, uc Z8, 73⟩] (v.drewN nq)) := (unhide hB).drewN nq
    clear cW cK
    generalize World.drewN _ _ = v2 at *
    go_wp2_with fail
    go_roundw
    case rel =>
      have e : (if IntKind.u32.signed = true then (-1 : Int) else IntKind.u32.max) = 4294967295 := by decide
      refine ⟨n + 1, rnd ⟨qa, qb, qc, qd, qe, qf, qg, qh⟩ k x, by omega, by go_num, ?_, rfl, rfl, rfl, ?_, rfl, rfl, rfl, hq2, hB⟩
      · rw [e]
        congr 1
        simp only [rnd, T1, T2, ad_eq, xr, an]
        omega
      · rw [e]
        congr 1
        simp only [rnd, T1, T2, ad_eq, xr, an]
        omega
    case measure => simp [intOf]; omega
  · have e : n = 64 := by omega
    subst e
    have c : ∀ j, j < 8 → wr.cell? ⟨w.heap.size, j, none⟩ = some (.int .u32 (s.getD j 0)) := fun j hj => by
      have h1 := (unhide hB).get 0 (x := ⟨w.heap.size, S, 73⟩) rfl
      rw [unhide hS] at h1
      exact uc_cell h1 j (by omega)
    obtain ⟨s0, e0, c0⟩ : ∃ x, Hid (x = s.getD 0 0) ∧ wr.cell? ⟨w.heap.size, 0, none⟩ = some (.int .u32 x) := ⟨_, rfl, c 0 (by omega)⟩
    obtain ⟨s1, e1, c1⟩ : ∃ x, Hid (x = s.getD 1 0) ∧ wr.cell? ⟨w.heap.size, 1, none⟩ = some (.int .u32 x) := ⟨_, rfl, c 1 (by omega)⟩
    obtain ⟨s2, e2, c2⟩ : ∃ x, Hid (x = s.getD 2 0) ∧ wr.cell? ⟨w.heap.size, 2, none⟩ = some (.int .u32 x) := ⟨_, rfl, c 2 (by omega)⟩
    obtain ⟨s3, e3, c3⟩ : ∃ x, Hid (x = s.getD 3 0) ∧ wr.cell? ⟨w.heap.size, 3, none⟩ = some (.int .u32 x) := ⟨_, rfl, c 3 (by omega)⟩
    obtain ⟨s4, e4, c4⟩ : ∃ x, Hid (x = s.getD 4 0) ∧ wr.cell? ⟨w.heap.size, 4, none⟩ = some (.int .u32 x) := ⟨_, rfl, c 4 (by omega)⟩
    obtain ⟨s5, e5, c5⟩ : ∃ x, Hid (x = s.getD 5 0) ∧ wr.cell? ⟨w.heap.size, 5, none⟩ = some (.int .u32 x) := ⟨_, rfl, c 5 (by omega)⟩
    obtain ⟨s6, e6, c6⟩ : ∃ x, Hid (x = s.getD 6 0) ∧ wr.cell? ⟨w.heap.size, 6, none⟩ = some (.int .u32 x) := ⟨_, rfl, c 6 (by omega)⟩
    obtain ⟨s7, e7, c7⟩ : ∃ x, Hid (x = s.getD 7 0) ∧ wr.cell? ⟨w.heap.size, 7, none⟩ = some (.int .u32 x) := ⟨_, rfl, c 7 (by omega)⟩
    clear c
    go_upto_region 12 with fail
    refine wp_region_lit ?_
    iterate 32 (refine wpList_step fun K hK => ?_; replace hK := hide hK; go_simp; refine unhide hK _ _ ?_; clear hK K)
    have hv : Hid (#[.int .u32 ((s0 + q.a) % 4294967296), .int .u32 ((s1 + q.b) % 4294967296), .int .u32 ((s2 + q.c) % 4294967296), .int .u32 ((s3 + q.d) % 4294967296), .int .u32 ((s4 + q.e) % 4294967296), .int .u32 ((s5 + q.f) % 4294967296), .int .u32 ((s6 + q.g) % 4294967296), .int .u32 ((s7 + q.h) % 4294967296)] = uc (stp s W K)) := by
      rw [unhide e0, unhide e1, unhide e2, unhide e3, unhide e4, unhide e5, unhide e6, unhide e7, unhide hq, unhide hz]
      simp only [← ad_eq]
      rfl
    replace hB := unhide hB
    refine list_val (.agg (uc (stp s W K))) (by kernel_rfl) (by rw [← unhide hv]; go_simp; simp only [IntKind.wrap_u32, and_self]) ?_
    simp only [Act.put, List.setIfInBounds_toArray, List.set_cons_zero, List.set_cons_succ, List.getElem_toArray, List.getElem_cons_zero, List.getElem_cons_succ]
    have hr : (stp s W K).length = 8 := stp_len s W K
    obtain ⟨r, hr0⟩ : ∃ r, r = stp s W K := ⟨_, rfl⟩
    rw [← hr0] at hr
    rw [← hr0]
    refine list_store 73 (.tmp 6) (.tmp 133) (w.heap.size + 1 + 1 + 1) (uc r) 73 (uc Z8) (by kernel_rfl) rfl (by kernel_rfl) (by kernel_rfl) (hB.get 3 (x := ⟨w.heap.size + 1 + 1 + 1, uc Z8, 73⟩) rfl) (by rw [Tryd.infoS, uc_size, hr]) ((show (uc Z8).size = 8 from rfl).trans ((uc_size _).trans hr).symm) (uc_one _) ?_
    replace hB := hB.set 3 (x := ⟨w.heap.size + 1 + 1 + 1, uc Z8, 73⟩) rfl (uc r)
    simp only [List.set_cons_zero, List.set_cons_succ] at hB
    generalize World.setRow _ _ _ = v1_ at *
    simp only [Act.put, List.setIfInBounds_toArray, List.set_cons_zero, List.set_cons_succ, List.getElem_toArray, List.getElem_cons_zero, List.getElem_cons_succ]
    refine wpList_nil ?_
    go_wp2_with fail
    exact bodyPost_ret (v := .agg (uc r)) (results_cell_row Tryd.results87 _ _ (w.heap.size + 1 + 1 + 1) 73 (uc r) (0, 0) _ rfl (hB.get 3 (x := ⟨w.heap.size + 1 + 1 + 1, uc r, 73⟩) rfl) Tryd.underlying73 rfl (by rw [Tryd.infoS, uc_size, hr])) rfl ⟨by rw [hr0], hB.gr⟩


/-- a word of four bytes -/
def be (b0 b1 b2 b3 : Int) : Int := bits .or .u32 (bits .or .u32 (bits .or .u32 (b0 * 16777216) (b1 * 65536)) (b2 * 256)) b3
def Z64 : List Int := List.replicate 64 0
/-- the words as far as n are read -/
def W1 (B : List Int) : Nat → List Int
  | 0 => Z64
  | n + 1 => (W1 B n).set n (be (B.getD (4 * n) 0) (B.getD (4 * n + 1) 0) (B.getD (4 * n + 2) 0) (B.getD (4 * n + 3) 0))
def sg0 (x : Int) : Int := xr (xr (tn x 7) (tn x 18)) (x / 2 ^ 3)
def sg1 (y : Int) : Int := xr (xr (tn y 17) (tn y 19)) (y / 2 ^ 10)
def nx (l : List Int) (i : Nat) : Int := ad (ad (ad (sg1 (l.getD (i - 2) 0)) (l.getD (i - 7) 0)) (sg0 (l.getD (i - 15) 0))) (l.getD (i - 16) 0)
/-- .. and k more are reckoned -/
def W2 (B : List Int) : Nat → List Int
  | 0 => W1 B 16
  | k + 1 => (W2 B k).set (k + 16) (nx (W2 B k) (k + 16))
def wds (B : List Int) : List Int := W2 B 48
theorem W1_len (B : List Int) : ∀ n, (W1 B n).length = 64
  | 0 => rfl
  | n + 1 => by rw [W1, List.length_set, W1_len B n]
theorem W2_len (B : List Int) : ∀ n, (W2 B n).length = 64
  | 0 => W1_len B 16
  | n + 1 => by rw [W2, List.length_set, W2_len B n]
theorem wds_len (B : List Int) : (wds B).length = 64 := W2_len B 48

/-- bytes -/
def IsB (B : List Int) : Prop := ∀ x ∈ B, 0 ≤ x ∧ x < 256
theorem IsB.at_ {B : List Int} (h : IsB B) (j : Nat) : 0 ≤ B.getD j 0 ∧ B.getD j 0 < 256 := by
  rcases Nat.lt_or_ge j B.length with hj | hj
  · have : B.getD j 0 = B[j] := by simp [hj]
    rw [this]
    exact h _ (List.getElem_mem hj)
  · simp [List.getElem?_eq_none hj]
/-- bytes that lie somewhere -/
def At (w : World) (p o : Nat) (B : List Int) : Prop := ∀ j, j < B.length → w.cell? ⟨p, o + j, none⟩ = some (.int .u8 (B.getD j 0))
theorem At.gr {w v : World} {p o : Nat} {B : List Int} (h : At w p o B) (g : Gr w v) : At v p o B := fun j hj => g.cell (h j hj)

set_option maxHeartbeats 2000000 in
theorem words_ok (B : List Int) (hb : IsB B) (hl : B.length = 64) (p o cap : Nat) (w : World) (hA : At w p o B) :
    Calls Tryd.prog 88 #[.slice (some ⟨p, o, none⟩) 64 cap] w (fun r w' => r = .returned (.agg (uc (wds B))) ∧ Gr w w') := by
  replace hA := hide hA
  replace hb := hide hb
  go_enter Tryd.func88, Tryd.ntmps88
  go_wp2_with fail
  have hB := ((Bl.nil w).new #[.int .u32 0, .int .u32 0, .int .u32 0, .int .u32 0, .int .u32 0, .int .u32 0, .int .u32 0, .int .u32 0, .int .u32 0, .int .u32 0, .int .u32 0, .int .u32 0, .int .u32 0, .int .u32 0, .int .u32 0, .int .u32 0, .int .u32 0, .int .u32 0, .int .u32 0, .int .u32 0, .int .u32 0, .int .u32 0, .int .u32 0, .int .u32 0, .int .u32 0, .int .u32 0, .int .u32 0, .int .u32 0, .int .u32 0, .int .u32 0, .int .u32 0, .int .u32 0, .int .u32 0, .int .u32 0, .int .u32 0, .int .u32 0, .int .u32 0, .int .u32 0, .int .u32 0, .int .u32 0, .int .u32 0, .int .u32 0, .int .u32 0, .int .u32 0, .int .u32 0, .int .u32 0, .int .u32 0, .int .u32 0, .int .u32 0, .int .u32 0, .int .u32 0, .int .u32 0, .int .u32 0, .int .u32 0, .int .u32 0, .int .u32 0, .int .u32 0, .int .u32 0, .int .u32 0, .int .u32 0, .int .u32 0, .int .u32 0, .int .u32 0, .int .u32 0] 70).new #[.int .u32 0, .int .u32 0, .int .u32 0, .int .u32 0, .int .u32 0, .int .u32 0, .int .u32 0, .int .u32 0, .int .u32 0, .int .u32 0, .int .u32 0, .int .u32 0, .int .u32 0, .int .u32 0, .int .u32 0, .int .u32 0, .int .u32 0, .int .u32 0, .int .u32 0, .int .u32 0, .int .u32 0, .int .u32 0, .int .u32 0, .int .u32 0, .int .u32 0, .int .u32 0, .int .u32 0, .int .u32 0, .int .u32 0, .int .u32 0, .int .u32 0, .int .u32 0, .int .u32 0, .int .u32 0, .int .u32 0, .int .u32 0, .int .u32 0, .int .u32 0, .int .u32 0, .int .u32 0, .int .u32 0, .int .u32 0, .int .u32 0, .int .u32 0, .int .u32 0, .int .u32 0, .int .u32 0, .int .u32 0, .int .u32 0, .int .u32 0, .int .u32 0, .int .u32 0, .int .u32 0, .int .u32 0, .int .u32 0, .int .u32 0, .int .u32 0, .int .u32 0, .int .u32 0, .int .u32 0, .int .u32 0, .int .u32 0, .int .u32 0, .int .u32 0] 70
  simp only [size_alloc, List.nil_append, List.cons_append] at hB
  generalize World.alloc _ _ = u at *
  replace hB : Hid (Bl w [⟨w.heap.size, uc Z64, 70⟩, ⟨w.heap.size + 1, uc (W1 B 0), 70⟩] u) := hide hB
  go_loopw [10] (fun i wr => ∃ n : Nat, ∃ m : List Int, n ≤ 16 ∧ i = .int .i64 n ∧ Hid (m = W1 B n) ∧ Hid (Bl w [⟨w.heap.size, uc Z64, 70⟩, ⟨w.heap.size + 1, uc m, 70⟩] wr)) (fun i _ => 16 - (intOf i).toNat)
  case atStart => exact ⟨0, W1 B 0, by omega, rfl, rfl, hB⟩
  case round =>
  clear hB
  obtain ⟨n, m, hn, rfl, hm, hB⟩ := hrel
  have hml : m.length = 64 := by rw [unhide hm]; exact W1_len B n
  by_cases hil : n < 16
  · obtain ⟨q0, hq0⟩ : ∃ q, q = 4 * n := ⟨_, rfl⟩
    obtain ⟨q1, hq1⟩ : ∃ q, q = 4 * n + 1 := ⟨_, rfl⟩
    obtain ⟨q2, hq2⟩ : ∃ q, q = 4 * n + 2 := ⟨_, rfl⟩
    obtain ⟨q3, hq3⟩ : ∃ q, q = 4 * n + 3 := ⟨_, rfl⟩
    have hAt : At wr p o B := (unhide hA).gr (unhide hB).gr
    have c0 := hAt q0 (by omega)
    have c1 := hAt q1 (by omega)
    have c2 := hAt q2 (by omega)
    have c3 := hAt q3 (by omega)
    have b0 := (unhide hb).at_ q0
    have b1 := (unhide hb).at_ q1
    have b2 := (unhide hb).at_ q2
    have b3 := (unhide hb).at_ q3
    have f3 := froz_of (i := n) ((unhide hB).get 1 (x := ⟨w.heap.size + 1, uc m, 70⟩) rfl)
    have c4 := uc_cell ((unhide hB).get 1 (x := ⟨w.heap.size + 1, uc m, 70⟩) rfl) n (by omega)
    have hm2 : Hid (m.set n (be (B.getD q0 0) (B.getD q1 0) (B.getD q2 0) (B.getD q3 0)) = W1 B (n + 1)) := by
      rw [unhide hm, hq0, hq1, hq2, hq3]
      rfl
    have hB2 := (unhide hB).drew.cell 1 (x := ⟨w.heap.size + 1, uc m, 70⟩) rfl n (.int .u32 (be (B.getD q0 0) (B.getD q1 0) (B.getD q2 0) (B.getD q3 0)))
    simp only [List.set_cons_zero, List.set_cons_succ, uc_set] at hB2
    replace hB2 := hide hB2
    generalize B.getD q0 0 = x0 at *
    generalize B.getD q1 0 = x1 at *
    generalize B.getD q2 0 = x2 at *
    generalize B.getD q3 0 = x3 at *
    generalize m.getD n 0 = z at c4
    have e0 : 4 * (n : Int) = (q0 : Int) := by omega
    have e1 : (q0 : Int) + 1 = (q1 : Int) := by omega
    have e2 : (q0 : Int) + 2 = (q2 : Int) := by omega
    have e3 : (q0 : Int) + 3 = (q3 : Int) := by omega
    have g0 : IntKind.i64.wrap (q0 : Int) = (q0 : Int) := by rw [IntKind.wrap_i64]; omega
    have g1 : IntKind.i64.wrap (q1 : Int) = (q1 : Int) := by rw [IntKind.wrap_i64]; omega
    have g2 : IntKind.i64.wrap (q2 : Int) = (q2 : Int) := by rw [IntKind.wrap_i64]; omega
    have g3 : IntKind.i64.wrap (q3 : Int) = (q3 : Int) := by rw [IntKind.wrap_i64]; omega
    have l0 : 0 ≤ (q0 : Int) ∧ (q0 : Int) < 64 := by omega
    have l1 : 0 ≤ (q1 : Int) ∧ (q1 : Int) < 64 := by omega
    have l2 : 0 ≤ (q2 : Int) ∧ (q2 : Int) < 64 := by omega
    have l3 : 0 ≤ (q3 : Int) ∧ (q3 : Int) < 64 := by omega
    have m0 : q0 < 64 := by omega
    have m1 : q1 < 64 := by omega
    have m2 : q2 < 64 := by omega
    have m3 : q3 < 64 := by omega
    have nI : (n : Int) < 16 := by omega
    have nJ : (n : Int) < 64 := by omega
    have nK : n < 64 := by omega
    replace hq0 := hide hq0
    replace hq1 := hide hq1
    replace hq2 := hide hq2
    replace hq3 := hide hq3
    go_wp2_with fail
    go_still_tail 35, (by kernel_rfl)
    go_wp2_with fail
    go_roundw
    case rel =>
      exact ⟨n + 1, _, by omega, by go_num, hm2, hB2⟩
    case measure => simp [intOf]; omega
  · have e : n = 16 := by omega
    subst e
    replace hB : Hid (Bl w [⟨w.heap.size, uc Z64, 70⟩, ⟨w.heap.size + 1, uc (W2 B 0), 70⟩] wr) := by
      have := unhide hB
      rw [unhide hm] at this
      exact this
    clear hm hml
    go_wp2_with fail
    go_loopw [5] (fun i wr => ∃ n : Nat, ∃ m : List Int, n ≤ 48 ∧ i = .int .i64 (n + 16 : Nat) ∧ Hid (m = W2 B n) ∧ Hid (Bl w [⟨w.heap.size, uc Z64, 70⟩, ⟨w.heap.size + 1, uc m, 70⟩] wr)) (fun i _ => 64 - (intOf i).toNat)
    case atStart => exact ⟨0, W2 B 0, by omega, rfl, rfl, hB⟩
    case round =>
    clear hB
    obtain ⟨n, m, hn, rfl, hm, hB⟩ := hrel
    have hml : m.length = 64 := by rw [unhide hm]; exact W2_len B n
    by_cases hil : n < 48
    · obtain ⟨k, hk⟩ : ∃ k, k = n + 16 := ⟨_, rfl⟩
      rw [← hk]
      obtain ⟨q0, hq0⟩ : ∃ q, q = k - 2 := ⟨_, rfl⟩
      obtain ⟨q1, hq1⟩ : ∃ q, q = k - 7 := ⟨_, rfl⟩
      obtain ⟨q2, hq2⟩ : ∃ q, q = k - 15 := ⟨_, rfl⟩
      obtain ⟨q3, hq3⟩ : ∃ q, q = k - 16 := ⟨_, rfl⟩
      have hg := (unhide hB).get 1 (x := ⟨w.heap.size + 1, uc m, 70⟩) rfl
      have c0 := uc_cell hg q0 (by omega)
      have c1 := uc_cell hg q1 (by omega)
      have c2 := uc_cell hg q2 (by omega)
      have c3 := uc_cell hg q3 (by omega)
      have c4 := uc_cell hg k (by omega)
      have f4 := froz_of (i := k) hg
      have hm2 : Hid (m.set k (ad (ad (ad (sg1 (m.getD q0 0)) (m.getD q1 0)) (sg0 (m.getD q2 0))) (m.getD q3 0)) = W2 B (n + 1)) := by
        rw [hq0, hq1, hq2, hq3, hk, unhide hm]
        rfl
      clear hg
      generalize m.getD q0 0 = x0 at *
      generalize m.getD q1 0 = x1 at *
      generalize m.getD q2 0 = x2 at *
      generalize m.getD q3 0 = x3 at *
      generalize m.getD k 0 = z at c4
      have e0 : (k : Int) - 2 = (q0 : Int) := by omega
      have e1 : (k : Int) - 7 = (q1 : Int) := by omega
      have e2 : (k : Int) - 15 = (q2 : Int) := by omega
      have e3 : (k : Int) - 16 = (q3 : Int) := by omega
      have g0 : IntKind.i64.wrap (q0 : Int) = (q0 : Int) := by rw [IntKind.wrap_i64]; omega
      have g1 : IntKind.i64.wrap (q1 : Int) = (q1 : Int) := by rw [IntKind.wrap_i64]; omega
      have g2 : IntKind.i64.wrap (q2 : Int) = (q2 : Int) := by rw [IntKind.wrap_i64]; omega
      have g3 : IntKind.i64.wrap (q3 : Int) = (q3 : Int) := by rw [IntKind.wrap_i64]; omega
      have l0 : 0 ≤ (q0 : Int) ∧ (q0 : Int) < 64 := by omega
      have l1 : 0 ≤ (q1 : Int) ∧ (q1 : Int) < 64 := by omega
      have l2 : 0 ≤ (q2 : Int) ∧ (q2 : Int) < 64 := by omega
      have l3 : 0 ≤ (q3 : Int) ∧ (q3 : Int) < 64 := by omega
      have m0 : q0 < 64 := by omega
      have m1 : q1 < 64 := by omega
      have m2 : q2 < 64 := by omega
      have m3 : q3 < 64 := by omega
      have nJ : 0 ≤ (k : Int) ∧ (k : Int) < 64 := by omega
      have nK : k < 64 := by omega
      replace hk := hide hk
      replace hq0 := hide hq0
      replace hq1 := hide hq1
      replace hq2 := hide hq2
      replace hq3 := hide hq3
      go_wp2_with fail
      go_quiet (fail)
      replace hB : Hid (Bl w [⟨w.heap.size, uc Z64, 70⟩, ⟨w.heap.size + 1, uc m, 70⟩] (wr.drewN nq)) := (unhide hB).drewN nq
      replace c1 : (wr.drewN nq).cell? ⟨w.heap.size + 1, q1, none⟩ = some (.int .u32 x1) := c1
      replace c3 : (wr.drewN nq).cell? ⟨w.heap.size + 1, q3, none⟩ = some (.int .u32 x3) := c3
      replace c4 : (wr.drewN nq).cell? ⟨w.heap.size + 1, k, none⟩ = some (.int .u32 z) := c4
      replace f4 : (wr.drewN nq).frozen? ⟨w.heap.size + 1, k, none⟩ = false := f4
      clear c0 c2
      generalize World.drewN _ _ = v at *
      go_upto_region 13 with (go_at_call 104; refine (sturn_int _ _ (by omega) _).mono ?_; rintro e w1 ⟨rfl, rfl⟩)
      replace hB : Hid (Bl w [⟨w.heap.size, uc Z64, 70⟩, ⟨w.heap.size + 1, uc m, 70⟩] v.drew.drew.drew.drew) := (unhide hB).drew.drew.drew.drew
      replace c1 : v.drew.drew.drew.drew.cell? ⟨w.heap.size + 1, q1, none⟩ = some (.int .u32 x1) := c1
      replace c3 : v.drew.drew.drew.drew.cell? ⟨w.heap.size + 1, q3, none⟩ = some (.int .u32 x3) := c3
      replace c4 : v.drew.drew.drew.drew.cell? ⟨w.heap.size + 1, k, none⟩ = some (.int .u32 z) := c4
      replace f4 : v.drew.drew.drew.drew.frozen? ⟨w.heap.size + 1, k, none⟩ = false := f4
      generalize v.drew.drew.drew.drew = v2 at *
      go_still_tail 15, (by kernel_rfl)
      go_wp2_with fail
      go_roundw
      case rel =>
        have hB2 := (unhide hB).drew.cell 1 (x := ⟨w.heap.size + 1, uc m, 70⟩) rfl k (.int .u32 (ad (ad (ad (sg1 x0) x1) (sg0 x2)) x3))
        simp only [List.set_cons_zero, List.set_cons_succ, uc_set] at hB2
        have hz : ad (ad (ad (sg1 x0) x1) (sg0 x2)) x3 = (sg1 x0 + x1 + sg0 x2 + x3) % 4294967296 := by
          simp only [ad_eq]
          omega
        rw [hz] at hB2 hm2
        exact ⟨.int .i64 ((k : Int) + 1), _, _, _, _, _, _, _, _, _, _, _, _, _, _, _, _, _, _, _, _, _, _, _, _, _, _, _, _, _, _, _, _, _, _, _, _, _, _, _, _, _, _, _, _, _, _, _, ⟨n + 1, _, by omega, by have := unhide hk; congr 1; omega, hm2, hide hB2⟩, rfl⟩
      case measure => simp [intOf]; omega
    · have e : n = 48 := by omega
      subst e
      clear hil
      go_upto_region 14 with fail
      replace hB := unhide hB
      have hr0 : m = wds B := unhide hm
      clear hm
      refine wp_region_lit ?_
      refine list_val (.agg (uc m)) (by kernel_rfl) (exec_arr _ 70 (.tmp 3) rfl (w.heap.size + 1) (by kernel_rfl) (uc m) 70 _ (hB.get 1 (x := ⟨w.heap.size + 1, uc m, 70⟩) rfl) Tryd.underlying70 rfl (by rw [Tryd.infoW, uc_size, hml])) ?_
      simp only [Act.put, List.setIfInBounds_toArray, List.set_cons_zero, List.set_cons_succ, List.getElem_toArray, List.getElem_cons_zero, List.getElem_cons_succ]
      refine list_store 70 (.tmp 2) (.tmp 92) w.heap.size (uc m) 70 (uc Z64) (by kernel_rfl) rfl (by kernel_rfl) (by kernel_rfl) (hB.get 0 (x := ⟨w.heap.size, uc Z64, 70⟩) rfl) (by rw [Tryd.infoW, uc_size, hml]) ((show (uc Z64).size = 64 from rfl).trans ((uc_size _).trans hml).symm) (uc_one _) ?_
      replace hB := hB.set 0 (x := ⟨w.heap.size, uc Z64, 70⟩) rfl (uc m)
      simp only [List.set_cons_zero, List.set_cons_succ] at hB
      generalize World.setRow _ _ _ = v1_ at *
      simp only [Act.put, List.setIfInBounds_toArray, List.set_cons_zero, List.set_cons_succ, List.getElem_toArray, List.getElem_cons_zero, List.getElem_cons_succ]
      refine wpList_nil ?_
      go_wp2_with fail
      exact bodyPost_ret (v := .agg (uc m)) (results_cell_row Tryd.results88 _ _ w.heap.size 70 (uc m) (0, 0) _ rfl (hB.get 0 (x := ⟨w.heap.size, uc m, 70⟩) rfl) Tryd.underlying70 rfl (by rw [Tryd.infoW, uc_size, hml])) rfl ⟨by rw [hr0], hB.gr⟩
end Go.Proofs.YtpmgmpihmpifgaaDoor
