/-
  Expand; bytes that are held against each other.
-/
import Derived.Test.YthnmebhljkccnaaDoorKdfD
namespace Go.Proofs.YthnmebhljkccnaaDoor
open Go.RowKit
set_option maxRecDepth 100000
set_option linter.unusedSimpArgs false
set_option linter.unusedVariables false

def Expd (K I : List Int) (n : Nat) (w : World) (r : Ending) (w' : World) : Prop := ∃ a, r = .returned (.tuple #[.slice a n n, .int .i64 0]) ∧ Lb w' a n n (spL K I n) ∧ Gr w w'
set_option maxHeartbeats 1000000 in
theorem expand_ok (K : List Int) (hKl : K.length = 32) (hKb : IsB K) (I : List Int) (a : Option Addr) (ni ci : Nat) (n : Nat) (hn : n ≤ 8160) (hni : ni ≤ 1152921504606830000) (w : World) (hF : Fst w) (hI : Lb w a ni ci I) :
    Calls Tryd.prog 16 #[.agg (kc K), .slice a ni ci, .int .i64 n] w (Expd K I n w) := by
  obtain ⟨T, hT⟩ : ∃ T, T = Expd K I n w := ⟨_, rfl⟩
  rw [← hT]
  obtain ⟨KK, hKK⟩ : ∃ KK, KK = kc K := ⟨_, rfl⟩
  rw [← hKK]
  have hKs : KK.size = 32 := by rw [hKK, kc_size, hKl]
  replace hT := hide hT
  replace hF := hide hF
  replace hI := hide hI
  replace hKK := hide hKK
  replace hKb := hide hKb
  have n1 : ¬ (n : Int) < 0 := by omega
  have n2 : ¬ 8160 < (n : Int) := by omega
  go_enter Tryd.func16, Tryd.ntmps16
  go_upto_region 3 with fail
  have hB := (Bl.nil w).new KK 28
  simp only [List.nil_append] at hB
  generalize World.alloc _ _ = u1 at *
  refine wp_region_lit ?_
  refine list_val (.agg KK) (by kernel_rfl) (exec_arr _ 28 (.tmp 3) rfl w.heap.size (by kernel_rfl) KK 28 _ (hB.get 0 (x := ⟨w.heap.size, KK, 28⟩) rfl) Tryd.underlying28 rfl (by rw [Tryd.infoKey, hKs])) ?_
  simp only [Act.put, List.setIfInBounds_toArray, List.set_cons_zero, List.set_cons_succ, List.getElem_toArray, List.getElem_cons_zero, List.getElem_cons_succ]
  replace hB := hide hB
  iterate 2 (refine wpList_step fun K hK => ?_; replace hK := hide hK; go_simp; refine unhide hK _ _ ?_; clear hK K)
  replace hB := unhide hB
  rw [unhide hKK]
  refine list_call 33 #[.agg (kc K), .slice a ni ci, .int .i64 n] (by kernel_rfl) (by kernel_rfl) ((spread_ok K hKl (unhide hKb) I a ni ci n hn hni _ ((unhide hF).gr hB.gr) ((unhide hI).gr hB.gr)).mono ?_)
  rintro r u2 ⟨a2, rfl, hl, _, hg⟩
  refine ⟨_, rfl, ?_⟩
  have hP : Hid (Expd K I n w (.returned (.tuple #[.slice a2 n n, .int .i64 0])) u2) := ⟨a2, rfl, hl, hB.gr.trans hg⟩
  clear hB hl hg
  rw [← unhide hKK]
  simp only [Act.put, List.setIfInBounds_toArray, List.set_cons_zero, List.set_cons_succ, List.getElem_toArray, List.getElem_cons_zero, List.getElem_cons_succ]
  iterate 2 (refine wpList_step fun K hK => ?_; replace hK := hide hK; go_simp; refine unhide hK _ _ ?_; clear hK K)
  refine wpList_nil ?_
  go_wp2_with fail
  rw [unhide hT]
  exact unhide hP
set_option maxHeartbeats 1000000 in
theorem expand_bad (K : List Int) (I : List Int) (a : Option Addr) (ni ci : Nat) (N : Int) (hN : N < 0 ∨ 8160 < N) (w : World) :
    Calls Tryd.prog 16 #[.agg (kc K), .slice a ni ci, .int .i64 N] w (fun r w' => r = .returned (.tuple #[.slice none 0 0, .int .i64 2]) ∧ Gr w w') := by
  obtain ⟨KK, hKK⟩ : ∃ KK, KK = kc K := ⟨_, rfl⟩
  rw [← hKK]
  replace hKK := hide hKK
  by_cases h1 : N < 0
  · have hg : Hid (Gr w (w.alloc (.cells KK 28))) := (Gr.refl w).alloc _
    go_enter Tryd.func16, Tryd.ntmps16
    go_wp2_with fail
    refine bodyPost_ret (v := .tuple #[.slice none 0 0, .int .i64 2]) ?_ rfl ⟨rfl, unhide hg⟩
    simp [results, Tryd.results16, go_sem]
  · have h2 : 8160 < N := by omega
    have hg : Hid (Gr w (w.alloc (.cells KK 28))) := (Gr.refl w).alloc _
    go_enter Tryd.func16, Tryd.ntmps16
    go_wp2_with fail
    refine bodyPost_ret (v := .tuple #[.slice none 0 0, .int .i64 2]) ?_ rfl ⟨rfl, unhide hg⟩
    simp [results, Tryd.results16, go_sem]
theorem xb_self (x : Int) (hx : 0 ≤ x ∧ x < 256) : bits .xor .u8 x x = 0 := by
  obtain ⟨X, rfl⟩ := Int.eq_ofNat_of_zero_le hx.1
  rw [u8_xor_nat X X (by omega) (by omega), Nat.xor_self]
  rfl
theorem or_zero : bits .or .u8 0 0 = 0 := by decide +kernel
set_option maxHeartbeats 1000000 in
theorem equal_ok (B : List Int) (a b : Option Addr) (n c d : Nat) (w : World) (ha : Lb w a n c B) (hb : Lb w b n d B) (hn : n < 4611686018427387904) : Calls Tryd.prog 24 #[.slice a n c, .slice b n d] w (fun r w' => r = .returned (.bool true) ∧ w' = w) := by
  replace ha := hide ha
  replace hb := hide hb
  go_enter Tryd.func24, Tryd.ntmps24
  go_wp2_with fail
  go_loopw [5, 15] (fun x i wr => ∃ k : Nat, k ≤ n ∧ i = .int .i64 k ∧ x = .int .u8 0 ∧ wr = w) (fun _ i _ => n - (intOf i).toNat)
  case atStart => exact ⟨0, by omega, rfl, rfl, rfl⟩
  case round =>
  obtain ⟨k, hk, rfl, rfl, rfl⟩ := hrel
  by_cases hl : k < n
  · have kI : (k : Int) < (n : Int) := by omega
    have kJ : 0 ≤ (k : Int) ∧ (k : Int) < (n : Int) := by omega
    have kw : IntKind.i64.wrap ((k : Int) + 1) = (k : Int) + 1 := by rw [IntKind.wrap_i64]; omega
    have hl1 := (unhide ha).len
    have hrng := (unhide ha).isB.at_ k
    obtain ⟨p, o, rfl, h1⟩ : ∃ p o, a = some ⟨p, o, none⟩ ∧ wr.cell? ⟨p, o + k, none⟩ = some (.int .u8 (B.getD k 0)) := by
      rcases (unhide ha).sl with h | ⟨p, o, h1, h2⟩
      · rw [h] at hl1; simp at hl1; omega
      · exact ⟨p, o, h1, h2 k (by omega)⟩
    obtain ⟨p2, o2, rfl, h2⟩ : ∃ p o, b = some ⟨p, o, none⟩ ∧ wr.cell? ⟨p, o + k, none⟩ = some (.int .u8 (B.getD k 0)) := by
      rcases (unhide hb).sl with h | ⟨p, o, h1, h2⟩
      · rw [h] at hl1; simp at hl1; omega
      · exact ⟨p, o, h1, h2 k (by omega)⟩
    generalize B.getD k 0 = x at *
    have hx0 := xb_self x hrng
    have ho0 := or_zero
    clear hl1
    go_wp2_with fail
    go_roundw
    case rel => exact ⟨k + 1, by omega, by go_num, rfl, by simp⟩
    case measure => simp [intOf]; omega
  · have e : k = n := by omega
    subst e
    go_wp2_with fail
    refine bodyPost_ret (v := .bool true) ?_ rfl (by simp)
    simp [results, Tryd.results24, go_sem]
end Go.Proofs.YthnmebhljkccnaaDoor
