/-
  The steps of a block.
-/
import Derived.Test.YthnmebhljkccnaaDoorShaBase
import Derived.Deep.QuietTactic
import Derived.BigQuiet
namespace Go.Proofs.YthnmebhljkccnaaDoor
open Go.RowKit
set_option maxRecDepth 100000
set_option linter.unusedSimpArgs false

def xr (a b : Int) : Int := bits .xor .u32 a b
def an (a b : Int) : Int := bits .and .u32 a b
def ad (a b : Int) : Int := IntKind.u32.wrap (a + b)
theorem ad_eq (a b : Int) : ad a b = (a + b) % 4294967296 := by unfold ad; rw [IntKind.wrap_u32]
/-- eight words -/
structure St where
  (a b c d e f g h : Int)
def T1 (e f g h k w : Int) : Int := ad (ad (ad (ad h (xr (xr (tn e 6) (tn e 11)) (tn e 25))) (xr (an e f) (an (xr 4294967295 e) g))) k) w
def T2 (a b c : Int) : Int := ad (xr (xr (tn a 2) (tn a 13)) (tn a 22)) (xr (xr (an a b) (an a c)) (an b c))
/-- one step -/
def rnd (s : St) (k w : Int) : St := ⟨ad (T1 s.e s.f s.g s.h k w) (T2 s.a s.b s.c), s.a, s.b, s.c, ad s.d (T1 s.e s.f s.g s.h k w), s.e, s.f, s.g⟩
/-- so many steps -/
def rnds (s : St) (W K : List Int) : Nat → St
  | 0 => s
  | n + 1 => rnd (rnds s W K n) (K.getD n 0) (W.getD n 0)
def St.of (s : List Int) : St := ⟨s.getD 0 0, s.getD 1 0, s.getD 2 0, s.getD 3 0, s.getD 4 0, s.getD 5 0, s.getD 6 0, s.getD 7 0⟩
/-- the state behind a block's words -/
def stp (s W K : List Int) : List Int :=
  [ad (s.getD 0 0) (rnds (.of s) W K 64).a, ad (s.getD 1 0) (rnds (.of s) W K 64).b, ad (s.getD 2 0) (rnds (.of s) W K 64).c, ad (s.getD 3 0) (rnds (.of s) W K 64).d,
   ad (s.getD 4 0) (rnds (.of s) W K 64).e, ad (s.getD 5 0) (rnds (.of s) W K 64).f, ad (s.getD 6 0) (rnds (.of s) W K 64).g, ad (s.getD 7 0) (rnds (.of s) W K 64).h]
theorem stp_len (s W K : List Int) : (stp s W K).length = 8 := rfl
def Z8 : List Int := [0, 0, 0, 0, 0, 0, 0, 0]

set_option maxHeartbeats 2000000 in
theorem steps_ok (s W K : List Int) (hs : s.length = 8) (hW : W.length = 64) (hK : K.length = 64) (w : World) :
    Calls Tryd.prog 49 #[.agg (uc s), .agg (uc W), .agg (uc K)] w (fun r w' => r = .returned (.agg (uc (stp s W K))) ∧ Gr w w') := by
  obtain ⟨S, hS⟩ : ∃ S, S = uc s := ⟨_, rfl⟩
  obtain ⟨A, hA⟩ : ∃ A, A = uc W := ⟨_, rfl⟩
  obtain ⟨C, hC⟩ : ∃ C, C = uc K := ⟨_, rfl⟩
  rw [← hS, ← hA, ← hC]
  replace hS := hide hS
  replace hA := hide hA
  replace hC := hide hC
  go_enter Tryd.func49, Tryd.ntmps49
  go_upto_region 1 with fail
  have hB := ((((Bl.nil w).new S 67).new A 64).new C 64).new #[.int .u32 0, .int .u32 0, .int .u32 0, .int .u32 0, .int .u32 0, .int .u32 0, .int .u32 0, .int .u32 0] 67
  simp only [size_alloc, List.nil_append, List.cons_append] at hB
  replace hB : Bl w [⟨w.heap.size, S, 67⟩, ⟨w.heap.size + 1, A, 64⟩, ⟨w.heap.size + 1 + 1, C, 64⟩, ⟨w.heap.size + 1 + 1 + 1, #[.int .u32 0, .int .u32 0, .int .u32 0, .int .u32 0, .int .u32 0, .int .u32 0, .int .u32 0, .int .u32 0], 67⟩] ((((w.alloc (.cells S 67)).alloc (.cells A 64)).alloc (.cells C 64)).alloc (.cells #[.int .u32 0, .int .u32 0, .int .u32 0, .int .u32 0, .int .u32 0, .int .u32 0, .int .u32 0, .int .u32 0] 67)) := hB
  have hB0 := hide hB
  have c : ∀ j, j < 8 → ((((w.alloc (.cells S 67)).alloc (.cells A 64)).alloc (.cells C 64)).alloc (.cells #[.int .u32 0, .int .u32 0, .int .u32 0, .int .u32 0, .int .u32 0, .int .u32 0, .int .u32 0, .int .u32 0] 67)).cell? ⟨w.heap.size, j, none⟩ = some (.int .u32 (s.getD j 0)) := fun j hj => by
    have h1 := hB.get 0 (x := ⟨w.heap.size, S, 67⟩) rfl
    rw [unhide hS] at h1
    rw [unhide hS]
    exact uc_cell h1 j (by omega)
  obtain ⟨s0, e0, c0⟩ : ∃ x, Hid (x = s.getD 0 0) ∧ ((((w.alloc (.cells S 67)).alloc (.cells A 64)).alloc (.cells C 64)).alloc (.cells #[.int .u32 0, .int .u32 0, .int .u32 0, .int .u32 0, .int .u32 0, .int .u32 0, .int .u32 0, .int .u32 0] 67)).cell? ⟨w.heap.size, 0, none⟩ = some (.int .u32 x) := ⟨_, rfl, c 0 (by omega)⟩
  obtain ⟨s1, e1, c1⟩ : ∃ x, Hid (x = s.getD 1 0) ∧ ((((w.alloc (.cells S 67)).alloc (.cells A 64)).alloc (.cells C 64)).alloc (.cells #[.int .u32 0, .int .u32 0, .int .u32 0, .int .u32 0, .int .u32 0, .int .u32 0, .int .u32 0, .int .u32 0] 67)).cell? ⟨w.heap.size, 1, none⟩ = some (.int .u32 x) := ⟨_, rfl, c 1 (by omega)⟩
  obtain ⟨s2, e2, c2⟩ : ∃ x, Hid (x = s.getD 2 0) ∧ ((((w.alloc (.cells S 67)).alloc (.cells A 64)).alloc (.cells C 64)).alloc (.cells #[.int .u32 0, .int .u32 0, .int .u32 0, .int .u32 0, .int .u32 0, .int .u32 0, .int .u32 0, .int .u32 0] 67)).cell? ⟨w.heap.size, 2, none⟩ = some (.int .u32 x) := ⟨_, rfl, c 2 (by omega)⟩
  obtain ⟨s3, e3, c3⟩ : ∃ x, Hid (x = s.getD 3 0) ∧ ((((w.alloc (.cells S 67)).alloc (.cells A 64)).alloc (.cells C 64)).alloc (.cells #[.int .u32 0, .int .u32 0, .int .u32 0, .int .u32 0, .int .u32 0, .int .u32 0, .int .u32 0, .int .u32 0] 67)).cell? ⟨w.heap.size, 3, none⟩ = some (.int .u32 x) := ⟨_, rfl, c 3 (by omega)⟩
  obtain ⟨s4, e4, c4⟩ : ∃ x, Hid (x = s.getD 4 0) ∧ ((((w.alloc (.cells S 67)).alloc (.cells A 64)).alloc (.cells C 64)).alloc (.cells #[.int .u32 0, .int .u32 0, .int .u32 0, .int .u32 0, .int .u32 0, .int .u32 0, .int .u32 0, .int .u32 0] 67)).cell? ⟨w.heap.size, 4, none⟩ = some (.int .u32 x) := ⟨_, rfl, c 4 (by omega)⟩
  obtain ⟨s5, e5, c5⟩ : ∃ x, Hid (x = s.getD 5 0) ∧ ((((w.alloc (.cells S 67)).alloc (.cells A 64)).alloc (.cells C 64)).alloc (.cells #[.int .u32 0, .int .u32 0, .int .u32 0, .int .u32 0, .int .u32 0, .int .u32 0, .int .u32 0, .int .u32 0] 67)).cell? ⟨w.heap.size, 5, none⟩ = some (.int .u32 x) := ⟨_, rfl, c 5 (by omega)⟩
  obtain ⟨s6, e6, c6⟩ : ∃ x, Hid (x = s.getD 6 0) ∧ ((((w.alloc (.cells S 67)).alloc (.cells A 64)).alloc (.cells C 64)).alloc (.cells #[.int .u32 0, .int .u32 0, .int .u32 0, .int .u32 0, .int .u32 0, .int .u32 0, .int .u32 0, .int .u32 0] 67)).cell? ⟨w.heap.size, 6, none⟩ = some (.int .u32 x) := ⟨_, rfl, c 6 (by omega)⟩
  obtain ⟨s7, e7, c7⟩ : ∃ x, Hid (x = s.getD 7 0) ∧ ((((w.alloc (.cells S 67)).alloc (.cells A 64)).alloc (.cells C 64)).alloc (.cells #[.int .u32 0, .int .u32 0, .int .u32 0, .int .u32 0, .int .u32 0, .int .u32 0, .int .u32 0, .int .u32 0] 67)).cell? ⟨w.heap.size, 7, none⟩ = some (.int .u32 x) := ⟨_, rfl, c 7 (by omega)⟩
  clear c hB
  replace hB := hB0
  clear hB0
  generalize World.alloc _ _ = u at *
  replace hB : Hid (Bl w [⟨w.heap.size, S, 67⟩, ⟨w.heap.size + 1, A, 64⟩, ⟨w.heap.size + 1 + 1, C, 64⟩, ⟨w.heap.size + 1 + 1 + 1, uc Z8, 67⟩] u) := hB
  go_quiet (fail)
  replace hB : Hid (Bl w [⟨w.heap.size, S, 67⟩, ⟨w.heap.size + 1, A, 64⟩, ⟨w.heap.size + 1 + 1, C, 64⟩, ⟨w.heap.size + 1 + 1 + 1, uc Z8, 67⟩] (u.drewN nq)) := (unhide hB).drewN nq
  clear c0 c1 c2 c3 c4 c5 c6 c7
  generalize World.drewN _ _ = u1 at *
  obtain ⟨a0, b0, d0, f0, g0, h0, i0, j0⟩ : s0 = (St.of s).a ∧ s1 = (St.of s).b ∧ s2 = (St.of s).c ∧ s3 = (St.of s).d ∧ s4 = (St.of s).e ∧ s5 = (St.of s).f ∧ s6 = (St.of s).g ∧ s7 = (St.of s).h := ⟨unhide e0, unhide e1, unhide e2, unhide e3, unhide e4, unhide e5, unhide e6, unhide e7⟩
  obtain ⟨z, hz⟩ : ∃ z, z = St.of s := ⟨_, rfl⟩
  rw [← hz] at a0 b0 d0 f0 g0 h0 i0 j0
  subst a0 b0 d0 f0 g0 h0 i0 j0
  clear e0 e1 e2 e3 e4 e5 e6 e7
  replace hz := hide hz
  go_wp2_with fail
  go_loopw [36, 7, 8, 9, 10, 11, 12, 13, 14] (fun i a b c d e f g h wr => ∃ n : Nat, ∃ q : St, n ≤ 64 ∧ i = .int .i64 n ∧ a = .int .u32 q.a ∧ b = .int .u32 q.b ∧ c = .int .u32 q.c ∧ d = .int .u32 q.d ∧ e = .int .u32 q.e ∧ f = .int .u32 q.f ∧ g = .int .u32 q.g ∧ h = .int .u32 q.h ∧ Hid (q = rnds z W K n) ∧ Hid (Bl w [⟨w.heap.size, S, 67⟩, ⟨w.heap.size + 1, A, 64⟩, ⟨w.heap.size + 1 + 1, C, 64⟩, ⟨w.heap.size + 1 + 1 + 1, uc Z8, 67⟩] wr)) (fun i _ _ _ _ _ _ _ _ _ => 64 - (intOf i).toNat)
  case atStart => exact ⟨0, z, by omega, rfl, rfl, rfl, rfl, rfl, rfl, rfl, rfl, rfl, rfl, hB⟩
  case round =>
  clear hB
  obtain ⟨n, q, hn, rfl, rfl, rfl, rfl, rfl, rfl, rfl, rfl, rfl, hq, hB⟩ := hrel
  by_cases hl : n < 64
  · have cW : wr.cell? ⟨w.heap.size + 1, n, none⟩ = some (.int .u32 (W.getD n 0)) := by
      have h1 := (unhide hB).get 1 (x := ⟨w.heap.size + 1, A, 64⟩) rfl
      rw [unhide hA] at h1
      exact uc_cell h1 n (by omega)
    have cK : wr.cell? ⟨w.heap.size + 1 + 1, n, none⟩ = some (.int .u32 (K.getD n 0)) := by
      have h1 := (unhide hB).get 2 (x := ⟨w.heap.size + 1 + 1, C, 64⟩) rfl
      rw [unhide hC] at h1
      exact uc_cell h1 n (by omega)
    have hq2 : Hid (rnd q (K.getD n 0) (W.getD n 0) = rnds z W K (n + 1)) := by
      rw [unhide hq]
      rfl
    obtain ⟨qa, qb, qc, qd, qe, qf, qg, qh⟩ := q
    generalize K.getD n 0 = k at *
    generalize W.getD n 0 = x at *
    have nI : (n : Int) < 64 := by omega
    go_upto_region 7 with (go_at_call 52; refine (turn_int _ _ (by omega) _).mono ?_; rintro e w1 ⟨rfl, rfl⟩)
    replace hB : Hid (Bl w [⟨w.heap.size, S, 67⟩, ⟨w.heap.size + 1, A, 64⟩, ⟨w.heap.size + 1 + 1, C, 64⟩, ⟨w.heap.size + 1 + 1 + 1, uc Z8, 67⟩] wr.drew.drew.drew.drew.drew.drew) := (unhide hB).drew.drew.drew.drew.drew.drew
    replace cW : wr.drew.drew.drew.drew.drew.drew.cell? ⟨w.heap.size + 1, n, none⟩ = some (.int .u32 x) := cW
    replace cK : wr.drew.drew.drew.drew.drew.drew.cell? ⟨w.heap.size + 1 + 1, n, none⟩ = some (.int .u32 k) := cK
    generalize wr.drew.drew.drew.drew.drew.drew = v at *
    go_quiet (fail)
    replace hB : Hid (Bl w [⟨w.heap.size, S, 67⟩, ⟨w.heap.size + 1, A, 64⟩, ⟨w.heap.size + 1 + 1, C, 64⟩, ⟨w.heap.size + 1 + 1 + 1, uc Z8, 67⟩] (v.drewN nq)) := (unhide hB).drewN nq
    clear cW cK
    generalize World.drewN _ _ = v2 at *
    go_wp2_with fail
    go_roundw
    case rel =>
      have e : (if IntKind.u32.signed = true then (-1 : Int) else IntKind.u32.max) = 4294967295 := by decide
      refine ⟨n + 1, rnd ⟨qa, qb, qc, qd, qe, qf, qg, qh⟩ k x, by omega, by go_num, ?_, rfl, rfl, rfl, ?_, rfl, rfl, rfl, hq2, hB⟩
      · rw [e]
        congr 1
        simp only [rnd, T1, T2, ad_eq, xr, an]
        omega
      · rw [e]
        congr 1
        simp only [rnd, T1, T2, ad_eq, xr, an]
        omega
    case measure => simp [intOf]; omega
  · have e : n = 64 := by omega
    subst e
    have c : ∀ j, j < 8 → wr.cell? ⟨w.heap.size, j, none⟩ = some (.int .u32 (s.getD j 0)) := fun j hj => by
      have h1 := (unhide hB).get 0 (x := ⟨w.heap.size, S, 67⟩) rfl
      rw [unhide hS] at h1
      exact uc_cell h1 j (by omega)
    obtain ⟨s0, e0, c0⟩ : ∃ x, Hid (x = s.getD 0 0) ∧ wr.cell? ⟨w.heap.size, 0, none⟩ = some (.int .u32 x) := ⟨_, rfl, c 0 (by omega)⟩
    obtain ⟨s1, e1, c1⟩ : ∃ x, Hid (x = s.getD 1 0) ∧ wr.cell? ⟨w.heap.size, 1, none⟩ = some (.int .u32 x) := ⟨_, rfl, c 1 (by omega)⟩
    obtain ⟨s2, e2, c2⟩ : ∃ x, Hid (x = s.getD 2 0) ∧ wr.cell? ⟨w.heap.size, 2, none⟩ = some (.int .u32 x) := ⟨_, rfl, c 2 (by omega)⟩
    obtain ⟨s3, e3, c3⟩ : ∃ x, Hid (x = s.getD 3 0) ∧ wr.cell? ⟨w.heap.size, 3, none⟩ = some (.int .u32 x) := ⟨_, rfl, c 3 (by omega)⟩
    obtain ⟨s4, e4, c4⟩ : ∃ x, Hid (x = s.getD 4 0) ∧ wr.cell? ⟨w.heap.size, 4, none⟩ = some (.int .u32 x) := ⟨_, rfl, c 4 (by omega)⟩
    obtain ⟨s5, e5, c5⟩ : ∃ x, Hid (x = s.getD 5 0) ∧ wr.cell? ⟨w.heap.size, 5, none⟩ = some (.int .u32 x) := ⟨_, rfl, c 5 (by omega)⟩
    obtain ⟨s6, e6, c6⟩ : ∃ x, Hid (x = s.getD 6 0) ∧ wr.cell? ⟨w.heap.size, 6, none⟩ = some (.int .u32 x) := ⟨_, rfl, c 6 (by omega)⟩
    obtain ⟨s7, e7, c7⟩ : ∃ x, Hid (x = s.getD 7 0) ∧ wr.cell? ⟨w.heap.size, 7, none⟩ = some (.int .u32 x) := ⟨_, rfl, c 7 (by omega)⟩
    clear c
    go_upto_region 12 with fail
    refine wp_region_lit ?_
    iterate 32 (refine wpList_step fun K hK => ?_; replace hK := hide hK; go_simp; refine unhide hK _ _ ?_; clear hK K)
    have hv : Hid (#[.int .u32 ((s0 + q.a) % 4294967296), .int .u32 ((s1 + q.b) % 4294967296), .int .u32 ((s2 + q.c) % 4294967296), .int .u32 ((s3 + q.d) % 4294967296), .int .u32 ((s4 + q.e) % 4294967296), .int .u32 ((s5 + q.f) % 4294967296), .int .u32 ((s6 + q.g) % 4294967296), .int .u32 ((s7 + q.h) % 4294967296)] = uc (stp s W K)) := by
      rw [unhide e0, unhide e1, unhide e2, unhide e3, unhide e4, unhide e5, unhide e6, unhide e7, unhide hq, unhide hz]
      simp only [← ad_eq]
      rfl
    replace hB := unhide hB
    refine list_val (.agg (uc (stp s W K))) (by kernel_rfl) (by rw [← unhide hv]; go_simp; simp only [IntKind.wrap_u32, and_self]) ?_
    simp only [Act.put, List.setIfInBounds_toArray, List.set_cons_zero, List.set_cons_succ, List.getElem_toArray, List.getElem_cons_zero, List.getElem_cons_succ]
    have hr : (stp s W K).length = 8 := stp_len s W K
    obtain ⟨r, hr0⟩ : ∃ r, r = stp s W K := ⟨_, rfl⟩
    rw [← hr0] at hr
    rw [← hr0]
    refine list_store 67 (.tmp 6) (.tmp 133) (w.heap.size + 1 + 1 + 1) (uc r) 67 (uc Z8) (by kernel_rfl) rfl (by kernel_rfl) (by kernel_rfl) (hB.get 3 (x := ⟨w.heap.size + 1 + 1 + 1, uc Z8, 67⟩) rfl) (by rw [Tryd.infoS, uc_size, hr]) ((show (uc Z8).size = 8 from rfl).trans ((uc_size _).trans hr).symm) (uc_one _) ?_
    replace hB := hB.set 3 (x := ⟨w.heap.size + 1 + 1 + 1, uc Z8, 67⟩) rfl (uc r)
    simp only [List.set_cons_zero, List.set_cons_succ] at hB
    generalize World.setRow _ _ _ = v1_ at *
    simp only [Act.put, List.setIfInBounds_toArray, List.set_cons_zero, List.set_cons_succ, List.getElem_toArray, List.getElem_cons_zero, List.getElem_cons_succ]
    refine wpList_nil ?_
    go_wp2_with fail
    exact bodyPost_ret (v := .agg (uc r)) (results_cell_row Tryd.results49 _ _ (w.heap.size + 1 + 1 + 1) 67 (uc r) (0, 0) _ rfl (hB.get 3 (x := ⟨w.heap.size + 1 + 1 + 1, uc r, 67⟩) rfl) Tryd.underlying67 rfl (by rw [Tryd.infoS, uc_size, hr])) rfl ⟨by rw [hr0], hB.gr⟩
end Go.Proofs.YthnmebhljkccnaaDoor
